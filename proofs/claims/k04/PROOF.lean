import PyProof.Rows.All
import Wide.All
import OpenK.AllK
import Wide.FinOn
import Lean
import PyProof.EqAt
import PyProof.EqKinds
import PyProof.TupleCall
import PyProof.Rows.StrJoin2
import PyProof.TupleOfGen
import PyProof.ListRange
import PyProof.Draws
import PyProof.Rows.StrClose3
import KE.KSortedM
import PyProof.Rows.SortWalk
import PyProof.WalkInts
import PyProof.Rows.Range3
import PyProof.ZipIter
import PyProof.ConsumeWalk
import PyProof.Rows.SeqMore
import KE.KRevIter
import KE.KRevSl
import KE.KUnpack
import KE.KDictSum
import KE.KTupSum
import KE.KSortTup
import KE.KDictOf
import OpenK.KRaise
import KE.KTryMore
import PyProof.ExcArgs
import PyProof.ExcBaseAll.ValueError
import PyProof.NsDelKeeps
import PyProof.AttrMissSeq
import PyProof.FString4
import PyProof.StrLawsRepr
import PyProof.Rows.StrSplitAre
import PyProof.Rows.StrNews2
import PyProof.StrLawsChain
import PyProof.StrLawsTight
import PySem.Challenge.RW_bearfaults_k04_rows_in_any_order
noncomputable section
set_option bootstrap.genMatcherCode false
section
open PySem
abbrev Y5:=List (Addr×Obj)
abbrev Y6:=Value->Shared->Prop
abbrev Y7:=List (Str×Nat)
abbrev Y8:=List (Str×List Nat)
abbrev Y9:=List (List Nat)
abbrev Y_:=Str->Option Value
abbrev Za:=Nat->Addr
end
def PySem.W.Fast.tw10996082709087039236:=0
def PySem.W.Fast.tw6298110887048281519:=0
def PySem.W.Fast.tw13124902509609367520:=0
def PySem.W.Fast.tw9056243482606670122:=0
def PySem.W.Fast.tw10774782178808319768:=0
def PySem.W.Fast.tw5475452434275174632:=0
def PySem.W.Fast.tw14733200768765122263:=0
def PySem.W.Fast.tw3761041725394543638:=0
def PySem.W.Fast.tw10328414984027101396:=0
def PySem.W.Fast.tw9184851176851736080:=0
def PySem.W.Fast.tw420443246097743341:=0
def PySem.W.Fast.tw2745184835358538015:=0
def PySem.W.Fast.tw14000916785821334069:=0
def PySem.W.Fast.tw15565177904400829072:=0
def PySem.W.Fast.tw13194852433338459852:=0
def PySem.W.Fast.tw629325879038460421:=0
def PySem.W.Fast.tw12029797616295023860:=0
def PySem.W.Fast.tw9108711736156340014:=0
def PySem.W.Fast.tw7503577898463052025:=0
def PySem.W.Fast.tw5623609696302799421:=0
def PySem.W.Fast.tw3198701005316491641:=0
def PySem.W.Fast.tw10379676579240083956:=0
def PySem.W.Fast.tw2717782747496917869:=0
def PySem.W.Fast.tw15666484109071504169:=0
def PySem.W.Fast.tw13937045256058796508:=0
def PySem.W.Fast.tw9011310651673990261:=0
def PySem.W.Fast.tw4008775320558902331:=0
def PySem.W.Fast.tw17462039509447408162:=0
def PySem.W.Fast.tw5415739015595212045:=0
def PySem.W.Fast.tw15952182272128811162:=0
def PySem.W.Fast.tw17775202310811540719:=0
def PySem.W.Fast.tw3486136247506652603:=0
def PySem.W.Fast.tw14412849839897273561:=0
def PySem.W.Fast.tw16489637437162545304:=0
def PySem.W.Fast.tw13177095953462647855:=0
def PySem.W.Fast.tw8164488719782917511:=0
def PySem.W.Fast.tw1302865202185356259:=0
def PySem.W.Fast.tw1573280237693039322:=0
def PySem.W.Fast.tw7022030093087741007:=0
def PySem.W.Fast.tw12913990534675735690:=0
set_option Elab.async false
set_option linter.all false
set_option maxRecDepth 100000
set_option maxHeartbeats 4000000
section
namespace L2
open PySem PySem.Spec PyProof.Rows
abbrev Key:=Sum Int Str
def vg:Key->Value->Bool
 | .inl k,v=>Value.isInt k v
 | .inr x,v=>Value.isStrOf x v
def Q4(w:World):Key->Int
 | .inl k=>hashInt k
 | .inr x=>hashStr w x
theorem cT:∀{k:Key} {v:Value},vg k v=true->(∃i t,k=Sum.inl i/\v=Value.int i t)\/(∃x t,k=Sum.inr x/\v=Value.str x t)
 | .inl i,v,h=>by
   obtain⟨t,e⟩:=Value.isInt_shape (k:=i) (v:=v) h;exact .inl ⟨i,t,rfl,e⟩
 | .inr x,v,h=>by
   obtain⟨t,e⟩:=Value.isStrOf_shape (x:=x) (v:=v) h;exact .inr ⟨x,t,rfl,e⟩
theorem B7(i:Int)(t:Tok):vg (.inl i) (.int i t)=true:=by simp [vg,Value.isInt]
theorem Bq(x:Str)(t:Tok):vg (.inr x) (.str x t)=true:=by simp [vg,Value.isStrOf]
theorem J3(a b:Int):decide ((Sum.inl a:Key)=Sum.inl b)=(a==b):=by
 by_cases e:a=b
 .subst e;simp
 .have h:¬(Sum.inl a:Key)=Sum.inl b:=fun q=>e (Sum.inl.inj q)
  rw[decide_eq_false h];exact(beq_eq_false_iff_ne.mpr e).symm
theorem LR(a b:Str):decide ((Sum.inr a:Key)=Sum.inr b)=decide (a=b):=by
 by_cases e:a=b
 .subst e;simp
 .have h:¬(Sum.inr a:Key)=Sum.inr b:=fun q=>e (Sum.inr.inj q)
  rw[decide_eq_false h,decide_eq_false e]
theorem LJ(a:Int)(b:Str):decide ((Sum.inl a:Key)=Sum.inr b)=false:=decide_eq_false (fun q=>nomatch q)
theorem JX(a:Str)(b:Int):decide ((Sum.inr a:Key)=Sum.inl b)=false:=decide_eq_false (fun q=>nomatch q)
def cK(prog:Program)(w:World):PySem.KeyKind prog w Key where
 is:=vg
 hash:=Q4 w
 inj:=fun v a b ha hb=>by
  rcases cT ha with⟨i,t,rfl,rfl⟩ | ⟨x,t,rfl,rfl⟩
  .rcases cT hb with⟨j,u,rfl,e⟩ | ⟨y,u,rfl,e⟩
   .injection e with e1 _;rw [e1]
   .exact nomatch e
  .rcases cT hb with⟨j,u,rfl,e⟩ | ⟨y,u,rfl,e⟩
   .exact nomatch e
   .injection e with e1 _;rw [e1]
 byValue:=fun k v h=>by
  rcases cT h with⟨i,t,rfl,rfl⟩ | ⟨x,t,rfl,rfl⟩ <;> rfl
 pyHash:=fun hv h=>by
  rcases cT hv with⟨i,t,rfl,rfl⟩ | ⟨x,t,rfl,rfl⟩
  .exact wpAny_pyHash_int h
  .exact wpAny_pyHash_str h
 eqBool:=fun hu hv h=>by
  rcases cT hu with⟨i,t,rfl,rfl⟩ | ⟨x,t,rfl,rfl⟩
  .rcases cT hv with⟨j,u,rfl,rfl⟩ | ⟨y,u,rfl,rfl⟩
   .rw [J3] at h;exact wpAny_eqBool_int h
   .rw [LJ] at h;exact SeqAt.EqAt.int_str i t y u _ _ _ _ h
  .rcases cT hv with⟨j,u,rfl,rfl⟩ | ⟨y,u,rfl,rfl⟩
   .rw [JX] at h;exact SeqAt.EqAt.str_int x t j u _ _ _ _ h
   .rw [LR] at h;exact wpAny_eqBool_str h
 «strs»:=fun k x t v h=>by
  rcases cT h with⟨i,u,rfl,e⟩ | ⟨y,u,rfl,e⟩
  .exact nomatch e
  .injection e with e1 _
   subst e1;cases v <;> rfl
theorem xK(prog:Program)(w:World)(i:Int)(t:Tok):(cK prog w).is (.inl i) (.int i t)=true:=B7 i t
theorem ny(prog:Program)(w:World)(x:Str)(t:Tok):(cK prog w).is (.inr x) (.str x t)=true:=Bq x t
inductive V where
 | cD | bl (b:Bool) | int (i:Int) | str (x:Str) | byt (b:Array UInt8) | flt (b:UInt64) | ref (a:Addr) | ty (n:String)
 deriving DecidableEq
def RelV:V->Value->Prop
 | .cD,u=>u=Value.none
 | .bl b,u=>u=Value.bool b
 | .int i,u=>∃t,u=Value.int i t
 | .str x,u=>∃t,u=Value.str x t
 | .byt b,u=>∃t,u=Value.bytes b t
 | .flt b,u=>∃t,u=Value.float b t
 | .ref a,u=>u=Value.ref a
 | .ty n,u=>u=Value.type n
abbrev Vals:List V->List Value->Prop:=Paired RelV
theorem Vals.length{xs:List V}{us:List Value}(r:Vals xs us):xs.length=us.length:=Paired.length r
theorem Vals.get:∀{xs:List V} {us:List Value} {i:Nat} {x:V},Vals xs us->xs[i]? =some x->∃u,us[i]? =some u/\RelV x u
 | _,_,_,_, .nil,e=>by simp at e
 | _,_,0,_, .cons r _,e=>by simp at e;subst e;exact⟨_,rfl,r⟩
 | _,_,i+1,x, .cons _ t,e=>by
   obtain⟨u,h1,h2⟩:=Vals.get (i:=i) (x:=x) t (by simpa using e)
   exact⟨u,by simpa using h1,h2⟩
theorem Vals.append:∀{xs ys:List V} {us ws:List Value},Vals xs us->Vals ys ws->Vals (xs++ys) (us++ws)
 | _,_,_,_, .nil,s=>s
 | _,_,_,_, .cons r t,s=> .cons r (Vals.append t s)
theorem Vals.take:∀{xs:List V} {us:List Value} (n:Nat),Vals xs us->Vals (xs.take n) (us.take n)
 | _,_,0,_=> .nil
 | _,_,_+1, .nil=> .nil
 | _,_,n+1, .cons r t=> .cons r (Vals.take n t)
theorem Vals.drop:∀{xs:List V} {us:List Value} (n:Nat),Vals xs us->Vals (xs.drop n) (us.drop n)
 | _,_,0,r=>r
 | _,_,_+1, .nil=> .nil
 | _,_,n+1, .cons _ t=>Vals.drop n t
def mw:Option V->Option Value->Prop
 | some v,some u=>RelV v u
 | none,none=>True
 | _,_=>False
def KV{κ:Type}:List (κ × V)->List (κ × Value)->Prop:=Paired fun(p:κ × V) (q:κ × Value)=>p.1=q.1/\RelV p.2 q.2
def kV:Key->V
 | .inl i=> .int i
 | .inr x=> .str x
inductive HO where
 | lst (xs:List V)
 | tup (xs:List V)
 | dK (aw:List (Key × V)) | dT (aw:List (List Key × V))
 | set (S:Int->Bool) (n:Nat)
 | ins (C dx:Addr) (fs:List (Str × V))
 | own (x:Addr)
 | xd (fs:List (Str × V))
 | met (f x:Addr)
 | rng (lo hi:Int)
 | lP (o:Obj) (u:HO)
 | tbl (ps:Array Value)
 | ext (φ:Heap->Prop)
abbrev Hp:=Addr->Option HO
def upd(H:Hp)(a:Addr)(o:HO):Hp:=fun b=>if b=a then some o else H b
theorem aY{a:Addr}{o:HO}:upd H a o a=some o:=by unfold upd;rw [if_pos rfl]
theorem a_{H:Hp}{a b:Addr}{o:HO}(h:b≠a):upd H a o b=H b:=by unfold upd;rw [if_neg h]
theorem AH{a:Addr}{o u:HO}:upd (upd H a o) a u=upd H a u:=by
 funext b;unfold upd;split <;> rfl
theorem Om{H:Hp}{a b:Addr}{o u:HO}(h:H a=some o)(h':H b=some u)(d:o≠u):a≠b:=by
 intro e;subst e;rw [h] at h';exact d (Option.some.inj h')
theorem bz{H:Hp}{a b:Addr}{o:HO}(h:H a=some o)(h':H b=none):a≠b:=by
 intro e;subst e;rw [h] at h';cases h'
section
variable (P:Program) (w:World)
def dP(H:Hp)(h:Heap)(a:Addr):HO->Prop
 | .lst xs=>xs.length<=sizeLine/\∃(its:List Value) (n:Nat),Vals xs its/\h.get? a=some {cls:= .type "list",data:= .seq its.toArray n}
 | .tup xs=>xs.length<=sizeLine/\∃its:List Value,Vals xs its/\IsTup h a its.toArray
 | .dK aw=>aw.length<=sizeLine/\(a==sysModules)=false/\∃vs,KV aw vs/\h.DictOf (cK P w) a vs
 | .dT aw=>aw.length<=sizeLine/\(a==sysModules)=false/\∃xs:List (List Key × Addr × Value),
    Paired (fun(p:List Key × V) (q:List Key × Addr × Value)=>p.1=q.1/\H q.2.1=some (.tup (p.1.map kV))/\RelV p.2 q.2.2) aw xs/\
    ∃o es ep,h.get? a=some o/\o.ExactDict/\o.data= .dict es ep/\es.toList=xs.map (entryOfKey (tupleKind (cK P w)))/\(xs.map (·.1)).Nodup
 | .set S n=>h.SetOf (intKind P w) a S n
 | .ins C dx fs=>H dx=some (.own a)/\fs.length<=1000/\dx≠a/\h.get? a=some (PySem.W.instObj C dx)/\
    ∃mA,h.Ns1 dx mA/\(∀f,mw (fs.lookup f) (mA f))/\PySem.Within mA (fs.map (·.1))
 | .own _=>∃o,h.get? a=some o
 | .xd fs=>∃mA,h.Ns1 a mA/\∀f,mw (fs.lookup f) (mA f)
 | .rng lo hi=>∃t u v,h.get? a=some {cls:= .type "range",data:= .fields #[.int lo t, .int hi u, .int 1 v]}
 | .lP o u=>h.get? a=some o/\dP H h a u
 | .tbl ps=>h.get? a=some {cls:= .none,data:= .fields ps}
 | .met f x=>h.get? a=some (PySem.W.methodObj (.ref f) (.ref x))
 | .ext φ=>φ h/\(∃o,h.get? a=some o)/\∀h1 h2:Heap,φ h1->(∀o,h1.get? a=some o->h2.get? a=some o)->φ h2
def mX(H:Hp)(h:Heap):Prop:=∀a o,H a=some o->dP P w H h a o
end
section
variable {P:Program} {w:World} {H H':Hp} {h h':Heap} {a:Addr} {o:HO}
theorem dP.lt(x:dP P w H h a o):a < h.objs.size:=by
 cases o with
 | lst xs=>obtain⟨_,_,_,_,e⟩:=x;exact Heap.lt_size e
 | tup xs=>obtain⟨_,_,_,p⟩:=x;exact p.lt
 | dK aw=>obtain⟨_,_,_,_,o,_,_,e,_⟩:=x;exact Heap.lt_size e
 | dT aw=>obtain⟨_,_,_,_,o,_,_,e,_⟩:=x;exact Heap.lt_size e
 | set S n=>obtain⟨o,_,_,_,e,_⟩:=x;exact Heap.lt_size e
 | ins C dx fs=>obtain⟨_,_,_,e,_⟩:=x;exact Heap.lt_size e
 | own y=>obtain⟨_,e⟩:=x;exact Heap.lt_size e
 | xd fs=>obtain⟨_,⟨_,_,_,e,_⟩,_⟩:=x;exact Heap.lt_size e
 | rng lo hi=>obtain⟨_,_,_,e⟩:=x;exact Heap.lt_size e
 | lP ob u=>obtain⟨e,_⟩:=x;exact Heap.lt_size e
 | tbl ps=>exact Heap.lt_size (show h.get? a=some _ from x)
 | met f y=>exact Heap.lt_size (show h.get? a=some _ from x)
 | ext φ=>obtain⟨_,⟨_,e⟩,_⟩:=x;exact Heap.lt_size e
theorem Paired.LX{α β:Type}{F G:α->β->Prop}:∀{O0:List α} {OM:List β},Paired F O0 OM->(∀a b,F a b->G a b)->Paired G O0 OM
 | _,_, .nil,_=> .nil
 | _,_, .cons r t,f=> .cons (f _ _ r) (Paired.LX t f)
theorem dP.xx(x:dP P w H h a o)(k:∀b u,(b=a\/H b=some (.own a))->h.get? b=some u->h'.get? b=some u)
 (ho:∀b,H b=some (.own a)->H' b=some (.own a)) (ht:∀b xs,H b=some (.tup xs)->H' b=some (.tup xs)):dP P w H' h' a o:=by
 induction o with
 | lst xs=>obtain⟨z,its,n,r,e⟩:=x;exact⟨z,its,n,r,k _ _ (.inl rfl) e⟩
 | tup xs=>obtain⟨z,its,r,ob,e,c⟩:=x;exact⟨z,its,r,ob,k _ _ (.inl rfl) e,c⟩
 | dK aw=>obtain⟨z,y,vs,r,ob,es,ep,e,c⟩:=x;exact⟨z,y,vs,r,ob,es,ep,k _ _ (.inl rfl) e,c⟩
 | dT aw=>
   obtain⟨z,y,xs,r,ob,es,ep,e,c⟩:=x;exact⟨z,y,xs,Paired.LX r fun p q z=>⟨z.1,ht _ _ z.2.1,z.2.2⟩,ob,es,ep,k _ _ (.inl rfl) e,c⟩
 | set S n=>obtain⟨ob,es,ep,t,e,c⟩:=x;exact⟨ob,es,ep,t,k _ _ (.inl rfl) e,c⟩
 | ins C dx fs=>
   obtain⟨d,z,ne,e,mA,⟨od,es,ep,e2,c⟩,r⟩:=x;exact⟨ho _ d,z,ne,k _ _ (.inl rfl) e,mA,⟨od,es,ep,k _ _ (.inr d) e2,c⟩,r⟩
 | own y=>obtain⟨ob,e⟩:=x;exact⟨ob,k _ _ (.inl rfl) e⟩
 | xd fs=>obtain⟨mA,⟨od,es,ep,e,c⟩,r⟩:=x;exact⟨mA,⟨od,es,ep,k _ _ (.inl rfl) e,c⟩,r⟩
 | rng lo hi=>obtain⟨t,u,v,e⟩:=x;exact⟨t,u,v,k _ _ (.inl rfl) e⟩
 | lP ob u ih=>obtain⟨e,q⟩:=x;exact⟨k _ _ (.inl rfl) e,ih q⟩
 | tbl ps=>
   have e:h.get? a=some {cls:= .none,data:= .fields ps}:=x;show h'.get? a=some {cls:= .none,data:= .fields ps};exact k a _ (.inl rfl) e
 | met f y=>
   have e:h.get? a=some (PySem.W.methodObj (.ref f) (.ref y)):=x;show h'.get? a=some (PySem.W.methodObj (.ref f) (.ref y));exact k a _ (.inl rfl) e
 | ext φ=>obtain⟨p,⟨o,e⟩,st⟩:=x;exact⟨st _ _ p fun o q=>k _ _ (.inl rfl) q,⟨o,k _ _ (.inl rfl) e⟩,st⟩
theorem mX.lt(x:mX P w H h)(e:H a=some o):a < h.objs.size:=(x a o e).lt
theorem mX.fresh(x:mX P w H h)(e:h.objs.size<=a):H a=none:=by
 cases q:H a with
 | none=>rfl
 | some u=>exact absurd (Nat.lt_of_lt_of_le (x.lt q) e) (Nat.lt_irrefl _)
theorem mX.kept(x:mX P w H h)(k:∀b u,h.get? b=some u->h'.get? b=some u):mX P w H h':=fun a o e=>
 (x a o e).xx (fun b u _ q=>k b u q) (fun _ q=>q) fun _ _ q=>q
theorem mX.laid(x:mX P w H h)(k:∀b u,h.get? b=some u->h'.get? b=some u)(hp:h.objs.size<=a)(new:dP P w (upd H a o) h' a o):mX P w (upd H a o) h':=fun b u e=>by
 have hn:=x.fresh hp;by_cases hb:b=a
 .subst hb;rw [aY] at e;cases e;exact new
 .rw [a_ hb] at e;exact(x b u e).xx (fun c v _ q=>k c v q) (fun c q=>by rw[a_ (bz q hn)];exact q) fun c xs q=>by rw[a_ (bz q hn)];exact q
end
def Rd(H:Hp)(a:Addr)(u:HO):Prop:=H a=some u\/∃o,H a=some (.lP o u)
theorem Rd.ok{a:Addr}{u:HO}(r:Rd H a u)(x:mX P w H h):dP P w H h a u:=by
 rcases r with r | ⟨o,r⟩
 .exact x a u r
 .obtain⟨_,q⟩:=x a _ r;exact q
def Ol:Option HO->Prop
 | some (.lst _)=>True
 | some (.dK _)=>True
 | some (.dT _)=>True
 | some (.set _ _)=>True
 | some (.ins _ _ _)=>True
 | some (.ext _)=>True
 | _=>False
section
variable {P:Program} {w:World} {H:Hp} {h h':Heap} {x e:Addr} {o':HO}
theorem mX.write(ok:mX P w H h)(mu:Ol (H x))(he:e=x\/H e=some (.own x))(k:∀b u,b≠e->h.get? b=some u->h'.get? b=some u)(MR:∃u,h'.get? e=some u)
 (new:dP P w (upd H x o') h' x o'):mX P w (upd H x o') h':=fun b u q=>by
 have nown:∀c y,H c=some (.own y)->c≠x:=fun c y r z=>by subst z;rw [r] at mu;exact mu
 have ntup:∀c xs,H c=some (.tup xs)->c≠x:=fun c xs r z=>by subst z;rw [r] at mu;exact mu
 by_cases hb:b=x
 .subst hb;rw [aY] at q;cases q;exact new
 .rw [a_ hb] at q;by_cases hbe:b=e
  .have q':H b=some (.own x):=by
    rcases he with z | z
    .exact absurd (hbe.trans z) hb
    .rw [hbe];exact z
   rw[q] at q';cases q';obtain⟨v,hv⟩:=MR;exact⟨v,by rw[hbe];exact hv⟩
  .refine(ok b u q).xx (fun c v hc r=>k c v ?_ r) (fun c r=>by rw[a_ (nown c b r)];exact r) fun c xs r=>by rw[a_ (ntup c xs r)];exact r
   rcases hc with rfl | hc
   .exact hbe
   .rintro rfl;rcases he with z | z
    .exact nown c b hc z
    .rw [hc] at z;cases z;exact hb rfl
end
structure Un (fs ex:List Addr) (H H':Hp) (h h':Heap):Prop where
 keep:∀b o,h.get? b=some o->H b=none->b ∉ fs->b ∉ ex->h'.get? b=some o
 slot:∀b o,h.get? b=some o->H b=none->b∈fs->b ∉ ex->∃sl,h'.get? b=some {o with slots:=sl}
 free:∀b o,h.get? b=some o->H b=none->b ∉ ex->H' b=none
 there:∀b o,h.get? b=some o->b ∉ ex->∃o',h'.get? b=some o'
 tups:∀b xs,H b=some (.tup xs)->H' b=some (.tup xs)
 frzs:∀b o u,H b=some (.lP o u)->H' b=some (.lP o u)
 tbls:∀b ps,H b=some (.tbl ps)->∃more,H' b=some (.tbl (ps++more))
section
variable {fs mY ex YY:List Addr} {H H1 H2:Hp} {h h1 h2 h':Heap} {a x e:Addr} {o:HO}
theorem Un.any(u:Un fs ex H H1 h h1){b:Addr}{ob:Obj}(q:h.get? b=some ob)(n:H b=none)(hx:b ∉ ex):∃sl,h1.get? b=some {ob with slots:=sl}:=by
 by_cases hb:b∈fs
 .exact u.slot b ob q n hb hx
 .exact⟨ob.slots,u.keep b ob q n hb hx⟩
theorem Un.kept(k:∀b u,h.get? b=some u->h'.get? b=some u):Un fs ex H H h h':=
 ⟨fun b ob q _ _ _=>k b ob q,fun b ob q _ _ _=>⟨ob.slots,k b ob q⟩,fun _ _ _ n _=>n,fun b ob q _=>⟨ob,k b ob q⟩,fun _ _ q=>q,fun _ _ _ q=>q,fun _ ps q=>⟨#[],by rw[q];simp⟩⟩
theorem Un.refl:Un fs ex H H h h:=Un.kept fun _ _ q=>q
theorem Un.laid(k:∀b u,h.get? b=some u->h'.get? b=some u)(hp:h.objs.size<=a)(hn:H a=none):Un fs ex H (upd H a o) h h' where
 keep:=fun b u q _ _ _=>k b u q
 slot:=fun b u q _ _ _=>⟨u.slots,k b u q⟩
 free:=fun b u q n _=>by rw[a_ (Nat.ne_of_lt (Nat.lt_of_lt_of_le (Heap.lt_size q) hp))];exact n
 there:=fun b u q _=>⟨u,k b u q⟩
 tups:=fun b xs q=>by rw[a_ (bz q hn)];exact q
 frzs:=fun b u xs q=>by rw[a_ (bz q hn)];exact q
 tbls:=fun b ps q=>⟨#[],by rw[a_ (bz q hn),q];simp⟩
theorem Un.write(mu:Ol (H x))(he:e=x\/H e=some (.own x))(k:∀b u,b≠e->h.get? b=some u->h'.get? b=some u)(MR:∃u,h'.get? e=some u):Un fs ex H (upd H x o) h h':=by
 have hx:∀b,H b=none->b≠x:=fun b n z=>by subst z;rw [n] at mu;exact mu
 have hb:∀b,H b=none->b≠e:=fun b n z=>by
  subst z;rcases he with r | r
  .exact hx b n r
  .rw [n] at r;cases r
 have hm:∀b u,H b=some u->¬Ol (some u)->b≠x:=fun b u q nm z=>by subst z;rw [q] at mu;exact nm mu
 refine⟨fun b u q n _ _=>k b u (hb b n) q,fun b u q n _ _=>⟨u.slots,k b u (hb b n) q⟩,fun b u q n _=>by rw[a_ (hx b n)];exact n,fun b u q _=>?_,
  fun b xs q=>by rw[a_ (hm b _ q fun z=>z)];exact q,fun b u xs q=>by rw[a_ (hm b _ q fun z=>z)];exact q,fun b ps q=>⟨#[],by rw[a_ (hm b _ q fun z=>z),q];simp⟩⟩
 by_cases hbe:b=e
 .subst hbe;exact MR
 .exact⟨u,k b u hbe q⟩
end
def Gp(h:Heap)(H:Hp):List Addr:=(List.range h.objs.size).filter fun a=>(H a).isSome
def vF(h:Heap)(H:Hp):Heap:=PySem.W.hideAll h (Gp h H)
theorem By(h:Heap)(H:Hp):(vF h H).objs.size=h.objs.size:=PySem.W.hideAll_size _ _
theorem EF{h:Heap}{H:Hp}{b:Addr}{o:Obj}(e:h.get? b=some o)(n:H b=none):(vF h H).get? b=some o:=
 PySem.W.hideAll_get _ e fun hm=>by
  have q:(H b).isSome=true:=(List.mem_filter.mp hm).2;rw[n] at q;simp at q
theorem GG{h:Heap}{H:Hp}{b:Addr}{o:Obj}(e:(vF h H).get? b=some o):h.get? b=some o/\H b=none:=by
 have e':h.get? b=some o:=PySem.W.of_hideAll (Gp h H) e;refine⟨e',?_⟩;cases q:H b with
 | none=>rfl
 | some x=>
   have hm:b∈Gp h H:=List.mem_filter.mpr ⟨List.mem_range.mpr (Heap.lt_size e'),by simp [q]⟩
   have z:(vF h H).get? b=none:=PySem.W.hideAll_none (Gp h H) hm;rw[z] at e;cases e
def Hy(g h:Heap)(L:Addr):Y5:=(List.range h.objs.size).filterMap fun a=>if a=L\/(g.get? a).isSome=true then none else(h.get? a).map fun o=>(a,o)
def rest(g h:Heap)(L d:Addr):Y5:=(Hy g h L).filter fun p=>decide (p.1≠d)
structure Mod (K:W.Frag) (mg:Y_) (base:Heap):Prop where
 kin:K.In base
 glob:base.Ns mainGlobals mg
 blt:∃mb,base.Ns builtinsNs mb/\∀x:Str,x≠"__name__"->mb x=bootBuiltins x
 nolimit:base.NoLimit
structure Cx where
 prog:Program
 w:World
 K:W.Frag
 mg:Y_
 base:Heap
 A:Around
 N:List Str
 s₀:Shared
 H₀:Hp
 env:Env
 outer:List Env
 stack:List Env
 ex:List Addr
 fn:Str->Bool
 calm:Bool
 pn:Y5
 xe:Y6
def o9(l:List Env):List Addr:=l.filterMap (·.frame)
abbrev Cx.fs(X:Cx):List Addr:=o9 X.outer
def KL(sc:Scope)(x:Str):Prop:=sc.names.lookup x=some .local\/sc.names.lookup x=some .cell\/sc.names.lookup x=some .free
def Loc(sc:Scope)(x:Str):Prop:=sc.names.lookup x=some .local\/sc.names.lookup x=some .cell
def Look(env:Env)(h:Heap)(m:Y_)(x:Str)(u:Value):Prop:=
 (env.kindOf x=some .local/\m x=some u)\/((env.kindOf x=some .cell\/env.kindOf x=some .free)/\∃c,env.cells.lookup x=some c/\h.IsCell c (some u))
structure Cx.Ok (X:Cx):Prop where
 mod:Mod X.K X.mg X.base
 kind:X.env.scope.kind= .function
 glob:X.env.globals=mainGlobals
 blt:X.env.builtins=builtinsNs
 above:X.s₀.heap.objs.size<=X.env.locals
 inj:∀x y c,X.env.cells.lookup x=some c->X.env.cells.lookup y=some c->x=y
 has:∀x,(X.env.kindOf x=some .cell\/X.env.kindOf x=some .free)->∃c,X.env.cells.lookup x=some c
 cab:∀x c,X.fn x=true->X.env.cells.lookup x=some c->X.s₀.heap.objs.size<=c
 hd:X.calm=true->X.A.handled=none
 frames:X.A.frames=some X.stack
 stk:X.stack=X.outer\/(X.stack=X.env ::X.outer/\X.env.frame=some X.env.locals)
 exf:∀b∈X.ex,b≠X.env.locals/\∀x c,X.env.cells.lookup x=some c->c≠b
 bs:∀b o,X.base.get? b=some o->X.s₀.heap.get? b=some o/\X.H₀ b=none
 bsz:X.base.objs.size<=X.s₀.heap.objs.size
 noex:∀b o,X.base.get? b=some o->b ∉ X.ex
 exfs:∀b∈X.ex,b ∉ X.fs
 qE:X.s₀.heap.FunFrames X.base X.outer
 frf:∀b∈X.fs,X.H₀ b=none
structure Inv (X:Cx) (pins:Y5) (σ:List (Option V)) (H:Hp) (s:Shared):Prop where
 ok:X.Ok
 os:s.os=X.s₀.os
 bare:AllBare s.gens
 base:Un X.fs X.ex X.H₀ H X.s₀.heap s.heap
 loc:∃m,s.heap.Ns X.env.locals m/\∀(i:Nat) (x:Str) (v:V),X.N[i]? =some x->σ[i]? =some (some v)->KL X.env.scope x->∃u,RelV v u/\Look X.env s.heap m x u
 cell:∀x c,X.env.cells.lookup x=some c->∃v,s.heap.IsCell c v
 free:H X.env.locals=none
 freeC:∀x c,X.env.cells.lookup x=some c->H c=none
 pin:∀p∈X.pn++pins,s.heap.get? p.1=some p.2/\H p.1=none/\p.1≠X.env.locals/\p.1 ∉ X.fs/\∀v,p.2.data≠ .cell v
 hok:mX X.prog X.w H s.heap
 len:σ.length=X.N.length
section
variable {X:Cx} {pins:Y5} {σ:List (Option V)} {H H':Hp} {s:Shared} {h':Heap}
theorem Cx.Ok.Qt(ok:X.Ok){b:Addr}{o:Obj}(e:X.base.get? b=some o):b ∉ X.fs:=fun hb=>by
 have:=(ok.qE.mem hb).1;rw[e] at this;cases this
theorem Inv.bs(I:Inv X pins σ H s):∀b o,X.base.get? b=some o->s.heap.get? b=some o/\H b=none:=fun b o e=>
 ⟨I.base.keep b o (I.ok.bs b o e).1 (I.ok.bs b o e).2 (I.ok.Qt e) (I.ok.noex b o e),I.base.free b o (I.ok.bs b o e).1 (I.ok.bs b o e).2 (I.ok.noex b o e)⟩
theorem Inv.bk(I:Inv X pins σ H s):∀b o,X.base.get? b=some o->s.heap.get? b=some o:=fun b o e=>(I.bs b o e).1
theorem Inv.mod(I:Inv X pins σ H s):Mod X.K X.mg X.base:=I.ok.mod
theorem Inv.vq(I:Inv X pins σ H s):X.K.In s.heap:=I.ok.mod.kin.keeps I.bk
theorem Inv.lt(I:Inv X pins σ H s):X.env.locals < s.heap.objs.size:=let⟨_,hn,_⟩:=I.loc;hn.lt
theorem Inv.sz(I:Inv X pins σ H s):X.s₀.heap.objs.size<=s.heap.objs.size:=Nat.le_trans I.ok.above (Nat.le_of_lt I.lt)
theorem Inv.QQ(I:Inv X pins σ H s){a:Addr}(h:s.heap.objs.size<=a):a ∉ X.fs:=fun hb=>by
 obtain⟨_,o,ho,_⟩:=I.ok.qE.mem hb;exact absurd (Nat.lt_of_lt_of_le (Heap.lt_size ho) (Nat.le_trans I.sz h)) (Nat.lt_irrefl _)
theorem Inv.DV(I:Inv X pins σ H s):∀x c,X.env.cells.lookup x=some c->c≠X.env.locals:=fun x c e z=>by
 obtain⟨v,o,ho,hd⟩:=I.cell x c e;obtain⟨m,⟨o',es,ep,uO,MS,_⟩,_⟩:=I.loc;rw[z,uO] at ho;cases ho;rw [MS] at hd;cases hd
theorem Inv.qE(I:Inv X pins σ H s):s.heap.FunFrames X.base X.outer:=by
 have all:∀(l:List Env),(∀b∈o9 l,b∈X.fs)->X.s₀.heap.FunFrames X.base l->s.heap.FunFrames X.base l:=by
  intro l
  induction l with
  | nil=>intro _ _;trivial
  | cons env r ih=>
    intro hs hl;obtain⟨hk,⟨L,o,hf,hn,ho,hd⟩,hr⟩:=hl;have hL:L∈X.fs:=hs L (by unfold o9;rw [List.filterMap_cons,hf];exact List.mem_cons_self)
    obtain⟨sl,e⟩:=I.base.slot L o ho (I.ok.frf L hL) hL fun z=>I.ok.exfs L z hL
    exact⟨hk,⟨L,_,hf,hn,e,hd⟩,ih (fun b hb=>hs b (by unfold o9;rw [List.filterMap_cons,hf];exact List.mem_cons_of_mem _ hb)) hr⟩
 exact all X.outer (fun _ hb=>hb) I.ok.qE
theorem Inv.stack(I:Inv X pins σ H s):s.heap.FunFrames X.base X.stack:=by
 rcases I.ok.stk with e | ⟨e,hf⟩
 .rw [e];exact I.qE
 .rw [e];obtain⟨m,hn,_⟩:=I.loc;refine .cons (by rw[I.ok.kind];decide) hf hn ?_ I.qE
  exact Heap.get?_none_of_le (Nat.le_trans I.ok.bsz I.ok.above)
theorem Inv.zJ(I:Inv X pins σ H s):∀b∈o9 X.stack,b∈X.env.locals ::X.fs:=fun b hb=>by
 rcases I.ok.stk with e | ⟨e,hf⟩
 .rw [e] at hb;exact List.mem_cons_of_mem _ hb
 .rw [e] at hb;unfold o9 at hb;rw[List.filterMap_cons,hf] at hb;exact hb
theorem Inv.oy(I:Inv X pins σ H s):∀b∈o9 X.stack,H b=none:=fun b hb=>by
 rcases List.mem_cons.mp (I.zJ b hb) with e | hb
 .rw [e];exact I.free
 .obtain⟨_,o,ho,_⟩:=I.ok.qE.mem hb;exact I.base.free b o ho (I.ok.frf b hb) fun z=>I.ok.exfs b z hb
theorem Inv.step{g':Array GenState}{t':Nat}{d':Drawn}{ch:List Addr}(I:Inv X pins σ H s)
 (Gs:∀b∈ch,(b∈X.ex\/X.s₀.heap.objs.size<=b)/\b≠X.env.locals/\(∀x c,X.env.cells.lookup x=some c->c≠b)/\∀p∈X.pn++pins,p.1≠b)
 (keep:∀b o,b≠X.env.locals->b ∉ X.fs->b ∉ ch->s.heap.get? b=some o->H b=none->h'.get? b=some o)
 (slot:∀b o,b≠X.env.locals->b∈X.fs->b ∉ ch->s.heap.get? b=some o->H b=none->∃sl,h'.get? b=some {o with slots:=sl}) (free:∀b o,b ∉ ch->s.heap.get? b=some o->H b=none->H' b=none)
 (there:∀b o,b ∉ ch->s.heap.get? b=some o->∃o',h'.get? b=some o')
 (tups:∀b xs,H b=some (.tup xs)->H' b=some (.tup xs)) (frzs:∀b o u,H b=some (.lP o u)->H' b=some (.lP o u)) (tbls:∀b ps,H b=some (.tbl ps)->∃more,H' b=some (.tbl (ps++more)))
 (ns:∀m,s.heap.Ns X.env.locals m->h'.Ns X.env.locals m) (hok:mX X.prog X.w H' h') (hg:AllBare g') :
 Inv X pins σ H' {s with heap:=h',gens:=g',drawn:=d',toks:=t'}:=by
 have neL:∀b o,X.s₀.heap.get? b=some o->b≠X.env.locals:=fun b o e=>Nat.ne_of_lt (Nat.lt_of_lt_of_le (Heap.lt_size e) I.ok.above)
 have neC:∀b o,X.s₀.heap.get? b=some o->b ∉ X.ex->b ∉ ch:=fun b o e hx hb=>by
  rcases(Gs b hb).1 with z | z
  .exact hx z
  .exact absurd (Nat.lt_of_lt_of_le (Heap.lt_size e) z) (Nat.lt_irrefl _)
 have cellK:∀x c,X.env.cells.lookup x=some c->∀v,s.heap.IsCell c v->h'.IsCell c v:=fun x c e v ⟨o,ho,hd⟩=>by
  have nch:c ∉ ch:=fun z=>(Gs c z).2.2.1 x c e rfl
  by_cases hc:c∈X.fs
  .obtain⟨sl,q⟩:=slot c o (I.DV x c e) hc nch ho (I.freeC x c e);exact⟨_,q,hd⟩
  .exact⟨o,keep c o (I.DV x c e) hc nch ho (I.freeC x c e),hd⟩
 refine⟨I.ok,I.os,hg,⟨fun b o e n hb hx=>?_,fun b o e n hb hx=>?_,fun b o e n hx=>?_,fun b o e hx=>?_,fun b xs e=>tups b xs (I.base.tups b xs e),fun b o xs e=>frzs b o xs (I.base.frzs b o xs e),fun b ps e=>?_⟩,?_,fun x c e=>?_,?_,fun x c e=>?_,fun p hp=>?_,hok,I.len⟩
 .exact keep b o (neL b o e) hb (neC b o e hx) (I.base.keep b o e n hb hx) (I.base.free b o e n hx)
 .obtain⟨sl,e1⟩:=I.base.slot b o e n hb hx;obtain⟨Xx,e2⟩:=slot b _ (neL b o e) hb (neC b o e hx) e1 (I.base.free b o e n hx);exact⟨Xx,e2⟩
 .obtain⟨o',e1⟩:=I.base.there b o e hx;exact free b o' (neC b o e hx) e1 (I.base.free b o e n hx)
 .obtain⟨o',e1⟩:=I.base.there b o e hx;exact there b o' (neC b o e hx) e1
 .obtain⟨m1,e1⟩:=I.base.tbls b ps e;obtain⟨m2,e2⟩:=tbls b _ e1;exact⟨m1++m2,by rw[e2,Array.append_assoc]⟩
 .obtain⟨m,hn,hl⟩:=I.loc;refine⟨m,ns m hn,fun i x v e1 e2 e3=>?_⟩
  obtain⟨u,r,l⟩:=hl i x v e1 e2 e3;refine⟨u,r,?_⟩;rcases l with l | ⟨k,c,e,z⟩
  .exact .inl l
  .exact .inr ⟨k,c,e,cellK x c e _ z⟩
 .obtain⟨v,z⟩:=I.cell x c e;exact⟨v,cellK x c e v z⟩
 .obtain⟨m,⟨o,_,_,ho,_⟩,_⟩:=I.loc;exact free _ o (fun z=>(Gs _ z).2.1 rfl) ho I.free
 .obtain⟨v,o,ho,hd⟩:=I.cell x c e;exact free c o (fun z=>(Gs c z).2.2.1 x c e rfl) ho (I.freeC x c e)
 .obtain⟨e,n,ne,nf,d⟩:=I.pin p hp;have nch:p.1 ∉ ch:=fun z=>(Gs p.1 z).2.2.2 p hp rfl
  exact⟨keep p.1 p.2 ne nf nch e n,free p.1 p.2 nch e n,ne,nf,d⟩
theorem Inv.un{t':Nat}(I:Inv X pins σ H s)(u:Un X.fs [] H H' s.heap h')(hok:mX X.prog X.w H' h'):Inv X pins σ H' {s with heap:=h',toks:=t'}:=by
 obtain⟨m,⟨o,es,ep,ho,r⟩,_⟩:=id I.loc;obtain⟨sl,hL⟩:=u.any ho I.free (by simp)
 exact I.step (g':=s.gens) (d':=s.drawn) (ch:=[]) (fun _ z=>nomatch z) (fun b o _ hb _ e n=>u.keep b o e n hb (by simp)) (fun b o _ hb _ e n=>u.slot b o e n hb (by simp)) (fun b o _ e n=>u.free b o e n (by simp)) (fun b o _ e=>u.there b o e (by simp)) u.tups u.frzs u.tbls (fun m' hm=>by
  obtain⟨o',RL,S6,uO,r'⟩:=hm;rw[ho] at uO;cases uO;exact⟨_,RL,S6,hL,r'⟩) hok I.bare
theorem Inv.call{g':Array GenState}{t':Nat}{d':Drawn}{ch:List Addr}(I:Inv X pins σ H s)(u:Un (o9 X.stack) ch H H' s.heap h')(hok:mX X.prog X.w H' h')(hg:AllBare g')
 (Gs:∀b∈ch,(b∈X.ex\/X.s₀.heap.objs.size<=b)/\b≠X.env.locals/\(∀x c,X.env.cells.lookup x=some c->c≠b)/\∀p∈X.pn++pins,p.1≠b) :
 Inv X pins σ H' {s with heap:=h',gens:=g',drawn:=d',toks:=t'}:=by
 obtain⟨m,⟨o,es,ep,ho,r⟩,_⟩:=id I.loc;obtain⟨sl,hL⟩:=u.any ho I.free fun z=>(Gs _ z).2.1 rfl
 exact I.step (ch:=ch) Gs (fun b o hL hb hc e n=>u.keep b o e n (fun z=>(List.mem_cons.mp (I.zJ b z)).elim hL hb) hc) (fun b o _ _ hc e n=>u.any e n hc) (fun b o hc e n=>u.free b o e n hc) (fun b o hc e=>u.there b o e hc) u.tups u.frzs u.tbls (fun m' hm=>by
  obtain⟨o',RL,S6,uO,r'⟩:=hm;rw[ho] at uO;cases uO;exact⟨_,RL,S6,hL,r'⟩) hok hg
theorem Inv.turned{t':Nat}{it:Addr}(I:Inv X pins σ H s)(k:∀b o,b≠it->s.heap.get? b=some o->h'.get? b=some o)(hn:H it=none)(hL:it≠X.env.locals)
 (h1:it∈X.ex\/X.s₀.heap.objs.size<=it) (h2:∀x c,X.env.cells.lookup x=some c->c≠it) (h3:∀p∈X.pn++pins,p.1≠it):Inv X pins σ H {s with heap:=h',toks:=t'}:=by
 have nit:∀b u,H b=some u->b≠it:=fun b u e z=>by rw[z,hn] at e;cases e
 refine I.step (g':=s.gens) (d':=s.drawn) (ch:=[it]) (fun b hb=>?_) (fun b o _ _ hc e _=>k b o (fun z=>hc (by simp [z])) e) (fun b o _ _ hc e _=>⟨o.slots,k b o (fun z=>hc (by simp [z])) e⟩) (fun _ _ _ _ n=>n)
  (fun b o hc e=>⟨o,k b o (fun z=>hc (by simp [z])) e⟩) (fun _ _ e=>e) (fun _ _ _ e=>e) (fun b ps e=>⟨#[],by rw[e];simp⟩) (fun m hm=>?_) (fun b u e=>?_) I.bare
 .have e:b=it:=by simpa using hb
  subst e;exact⟨h1,hL,h2,h3⟩
 .obtain⟨o,es,ep,ho,r⟩:=hm;exact⟨o,es,ep,k _ o (Ne.symm hL) ho,r⟩
 .refine(I.hok b u e).xx (fun c v hc q=>k c v ?_ q) (fun _ q=>q) fun _ _ q=>q
  rcases hc with z | z
  .rw [z];exact nit b u e
  .exact nit c _ z
theorem Inv.tok(I:Inv X pins σ H s)(t:Nat):Inv X pins σ H {s with toks:=t}:=I.un (h':=s.heap) (t':=t) Un.refl I.hok
theorem Inv.kept{t':Nat}(I:Inv X pins σ H s)(k:∀b u,s.heap.get? b=some u->h'.get? b=some u):Inv X pins σ H {s with heap:=h',toks:=t'}:=I.un (Un.kept k) (I.hok.kept k)
theorem Inv.laid{a:Addr}{o:HO}{t':Nat}(I:Inv X pins σ H s)(k:∀b u,s.heap.get? b=some u->h'.get? b=some u)(hp:s.heap.objs.size<=a)(new:dP X.prog X.w (upd H a o) h' a o) :
 Inv X pins σ (upd H a o) {s with heap:=h',toks:=t'}:=I.un (Un.laid k hp (I.hok.fresh hp)) (I.hok.laid k hp new)
theorem Inv.write{x e:Addr}{o:HO}{t':Nat}(I:Inv X pins σ H s)(mu:Ol (H x))(he:e=x\/H e=some (.own x))(k:∀b u,b≠e->s.heap.get? b=some u->h'.get? b=some u)(MR:∃u,h'.get? e=some u)
 (new:dP X.prog X.w (upd H x o) h' x o):Inv X pins σ (upd H x o) {s with heap:=h',toks:=t'}:=I.un (Un.write mu he k MR) (I.hok.write mu he k MR new)
theorem Inv.Bg{l9:Y5}(I:Inv X pins σ H s)(h:∀p∈l9,s.heap.get? p.1=some p.2/\H p.1=none/\p.1≠X.env.locals/\p.1 ∉ X.fs/\∀v,p.2.data≠ .cell v):Inv X l9 σ H s:=
 ⟨I.ok,I.os,I.bare,I.base,I.loc,I.cell,I.free,I.freeC,fun p hp=>(List.mem_append.mp hp).elim (fun z=>I.pin p (List.mem_append_left _ z)) (h p),I.hok,I.len⟩
theorem qb{N:List Str}(hN:N.Nodup){i j:Nat}(a:N[i]? =some x)(b:N[j]? =some x):i=j:=by
 obtain⟨h1,e1⟩:=List.getElem?_eq_some_iff.mp a;obtain⟨h2,e2⟩:=List.getElem?_eq_some_iff.mp b;exact(List.getElem_inj hN).mp (e1.trans e2.symm)
theorem vb{M:Model}{A:Around}{E:Y6}{i:Nat}{x:Str}{v:V}{u:Value}{Q:Unit->Shared->Prop}(I:Inv X pins σ H s)(hN:X.N.Nodup)(hi:X.N[i]? =some x)(hx:Loc X.env.scope x)(r:RelV v u)
 (h:∀s',Inv X pins (σ.set i (some v)) H s'->(∃a,Heap.SameBut a s.heap s'.heap/\(a=X.env.locals\/X.env.cells.lookup x=some a))->Q () s') (hf:X.fn x=true\/X.env.scope.names.lookup x=some .local:=by first | exact .inl rfl | exact .inr rfl | assumption):wpAny M A (storeName X.env x u) Q E s:=by
 obtain⟨m,hn,hl⟩:=id I.loc;have hcls:(X.env.scope.kind== .class || (X.env.scope.kind== .module && X.env.locals !=X.env.globals))=false:=by rw[I.ok.kind];rfl
 have hiσ:i < σ.length:=by rw[I.len];exact(List.getElem?_eq_some_iff.mp hi).1
 have DV:=I.DV;have tracked:∀{a:Addr} {h':Heap},(∃o,s.heap.get? a=some o/\H a=none)->Heap.SameBut a s.heap h'->mX X.prog X.w H h':=fun {a h'} ha hs b ob e=>by
  obtain⟨_,_,hfree⟩:=ha;refine(I.hok b ob e).xx (fun c w' hc q=>(hs.2 c ?_).trans q) (fun _ q=>q) fun _ _ q=>q
  rintro rfl;rcases hc with rfl | hc
  .rw [hfree] at e;cases e
  .rw [hfree] at hc;cases hc
 rcases hx with hk | hk
 .refine wpAny_storeName_local hk hn (fun h' RN hs=>?_) hcls
  obtain⟨oL,_,_,hoL,_⟩:=id hn;refine h _ ⟨I.ok,I.os,I.bare,⟨fun b o e n hb hx=>?_,fun b o e n hb hx=>?_,I.base.free,fun b o e hx=>?_,I.base.tups,I.base.frzs,I.base.tbls⟩,⟨_,RN,fun j y v' e1 e2 e3=>?_⟩,fun y c e=>?_,I.free,I.freeC,fun p hp=>?_,tracked ⟨oL,hoL,I.free⟩ hs,by simpa using I.len⟩ ⟨_,hs, .inl rfl⟩
  .exact(hs.2 b (Nat.ne_of_lt (Nat.lt_of_lt_of_le (Heap.lt_size e) I.ok.above))).trans (I.base.keep b o e n hb hx)
  .obtain⟨sl,e1⟩:=I.base.slot b o e n hb hx;exact⟨sl,(hs.2 b (Nat.ne_of_lt (Nat.lt_of_lt_of_le (Heap.lt_size e) I.ok.above))).trans e1⟩
  .obtain⟨o',e1⟩:=I.base.there b o e hx;exact⟨o',(hs.2 b (Nat.ne_of_lt (Nat.lt_of_lt_of_le (Heap.lt_size e) I.ok.above))).trans e1⟩
  .by_cases hj:j=i
   .subst hj;rw[hi] at e1;cases e1;rw[List.getElem?_set_self hiσ] at e2;cases e2;exact⟨u,r, .inl ⟨hk,by simp⟩⟩
   .rw [List.getElem?_set_ne (Ne.symm hj)] at e2;obtain⟨u',r',q⟩:=hl j y v' e1 e2 e3;refine⟨u',r',?_⟩;rcases q with⟨k,e⟩ | ⟨k,c,e,z⟩
    .refine .inl ⟨k,?_⟩;have:y≠x:=fun e=>hj (qb hN e1 (e▸hi))
     simp [this,e]
    .exact .inr ⟨k,c,e,z.sameBut hs (DV y c e)⟩
  .obtain⟨w',z⟩:=I.cell y c e;exact⟨w',z.sameBut hs (DV y c e)⟩
  .obtain⟨e,n,ne,nf,d⟩:=I.pin p hp;exact⟨(hs.2 p.1 ne).trans e,n,ne,nf,d⟩
 .have hfn:X.fn x=true:=by
   rcases hf with z | z
   .exact z
   .rw [z] at hk;cases hk
  obtain⟨c,hc⟩:=I.ok.has x (.inl hk);obtain⟨w',z⟩:=I.cell x c hc;refine wpAny_storeName_cell I.ok.kind hk hc z (fun h' CU hs=>?_)
  obtain⟨oc,hoc,hocd⟩:=id z;refine h {s with heap:=h'} ⟨I.ok,I.os,I.bare,⟨fun b o e n hb hx=>?_,fun b o e n hb hx=>?_,I.base.free,fun b o e hx=>?_,I.base.tups,I.base.frzs,I.base.tbls⟩,⟨m,hn.sameBut hs (Ne.symm (DV x c hc)),fun j y v' e1 e2 e3=>?_⟩,fun y c' e=>?_,I.free,I.freeC,fun p hp=>?_,tracked ⟨oc,hoc,I.freeC x c hc⟩ hs,by simpa using I.len⟩ ⟨c,hs, .inr hc⟩
  .exact(hs.2 b (Nat.ne_of_lt (Nat.lt_of_lt_of_le (Heap.lt_size e) (I.ok.cab x c hfn hc)))).trans (I.base.keep b o e n hb hx)
  .obtain⟨sl,e1⟩:=I.base.slot b o e n hb hx;exact⟨sl,(hs.2 b (Nat.ne_of_lt (Nat.lt_of_lt_of_le (Heap.lt_size e) (I.ok.cab x c hfn hc)))).trans e1⟩
  .obtain⟨o',e1⟩:=I.base.there b o e hx;exact⟨o',(hs.2 b (Nat.ne_of_lt (Nat.lt_of_lt_of_le (Heap.lt_size e) (I.ok.cab x c hfn hc)))).trans e1⟩
  .by_cases hj:j=i
   .subst hj;rw[hi] at e1;cases e1;rw[List.getElem?_set_self hiσ] at e2;cases e2;exact⟨u,r, .inr ⟨.inl hk,c,hc,CU⟩⟩
   .rw [List.getElem?_set_ne (Ne.symm hj)] at e2;obtain⟨u',r',q⟩:=hl j y v' e1 e2 e3;refine⟨u',r',?_⟩;rcases q with q | ⟨k,c',e,z'⟩
    .exact .inl q
    .refine .inr ⟨k,c',e,z'.sameBut hs ?_⟩;rintro rfl;exact hj (qb hN e1 (I.ok.inj _ _ _ e hc▸hi))
  .by_cases hcc:c'=c
   .subst hcc;exact⟨_,CU⟩
   .obtain⟨w2,z2⟩:=I.cell y c' e;exact⟨w2,z2.sameBut hs hcc⟩
  .obtain⟨e,n,ne,nf,d⟩:=I.pin p hp;refine⟨(hs.2 p.1 ?_).trans e,n,ne,nf,d⟩;intro q;rw[q,hoc] at e;have q':oc=p.2:=Option.some.inj e;exact d w' (by rw[<-q'];exact hocd)
theorem tM{M:Model}{A:Around}{E:Y6}{i:Nat}{x:Str}{v:V}{u:Value}{Q:Unit->Shared->Prop}(I:Inv X pins σ H s)(hN:X.N.Nodup)(hi:X.N[i]? =some x)(hx:Loc X.env.scope x)(r:RelV v u)
 (h:∀s',Inv X pins (σ.set i (some v)) H s'->Q () s') (hf:X.fn x=true\/X.env.scope.names.lookup x=some .local:=by first | exact .inl rfl | exact .inr rfl | assumption):wpAny M A (storeName X.env x u) Q E s:=
 vb I hN hi hx r (fun s' I' _=>h s' I') hf
theorem Inv.Jj{s':Shared}{ch:List Addr}(I:Inv X pins σ H s)(ho:s'.os=s.os)(u:Un (o9 X.stack) ch H H' s.heap s'.heap)(hok:mX X.prog X.w H' s'.heap)(hg:AllBare s'.gens)
 (Gs:∀b∈ch,(b∈X.ex\/X.s₀.heap.objs.size<=b)/\b≠X.env.locals/\(∀x c,X.env.cells.lookup x=some c->c≠b)/\∀p∈X.pn++pins,p.1≠b):Inv X pins σ H' s':=by
 obtain⟨h',g',d',t',o'⟩:=s';have e:o'=s.os:=ho;subst e;exact I.call (g':=g') (t':=t') (d':=d') u hok hg Gs
end
abbrev XK:=Value->Option Addr->Hp->Prop
abbrev St:=List (Option V)
abbrev VK:=V->Hp->Prop
abbrev TE:=St->Hp->VK->Prop
abbrev TT:=St->Hp->(Bool->Hp->Prop)->Prop
abbrev TA:=St->Hp->(List V->Hp->Prop)->Prop
structure Ends where
 nx:St->Hp->Prop
 rt:VK
 bk:St->Hp->Prop:=fun _ _=>False
 ct:St->Hp->Prop:=fun _ _=>False
abbrev TS:=Ends->St->Hp->Prop
def EP(X:Cx)(pins:Y5)(σ:St)(Q:VK)(u:Value)(s':Shared):Prop:=∃v H',Inv X pins σ H' s'/\RelV v u/\Q v H'
def TP(X:Cx)(pins:Y5)(σ:St)(Q:Bool->Hp->Prop)(b:Bool)(s':Shared):Prop:=∃H',Inv X pins σ H' s'/\Q b H'
def AP(X:Cx)(pins:Y5)(σ:St)(Q:List V->Hp->Prop)(us:List Value)(s':Shared):Prop:=∃vs H',Inv X pins σ H' s'/\Vals vs us/\Q vs H'
def SP(X:Cx)(pins:Y5)(D:Ends)(f:Flow)(s':Shared):Prop:=
 match f with
 | .next=>∃b8 H',Inv X pins b8 H' s'/\D.nx b8 H'
 | .brk=>∃b8 H',Inv X pins b8 H' s'/\D.bk b8 H'
 | .cont=>∃b8 H',Inv X pins b8 H' s'/\D.ct b8 H'
 | .ret u=>∃v b8 H',Inv X pins b8 H' s'/\RelV v u/\D.rt v H'
def PE(X:Cx)(e:Expr)(t:TE):Prop:=
 ∀(pins:Y5) (s:Shared) (σ:St) (H:Hp) (Q:VK),Inv X pins σ H s->t σ H Q->wpAny (model X.prog X.w) X.A (eval e X.env) (EP X pins σ Q) X.xe s
def PT(X:Cx)(e:Expr)(t:TT):Prop:=
 ∀(pins:Y5) (s:Shared) (σ:St) (H:Hp) (Q:Bool->Hp->Prop),Inv X pins σ H s->t σ H Q->wpAny (model X.prog X.w) X.A (isTrue e X.env (eval e X.env)) (TP X pins σ Q) X.xe s
def PW(X:Cx)(e:Expr)(t:TT):Prop:=
 ∀(whole:Sem Value) (pins:Y5) (s:Shared) (σ:St) (H:Hp) (Q:Bool->Hp->Prop),Inv X pins σ H s->t σ H Q->wpAny (model X.prog X.w) X.A (isTrue e X.env whole) (TP X pins σ Q) X.xe s
theorem PW.pt{X:Cx}{t:TT}(h:PW X e t):PT X e t:=h _
def PA(X:Cx)(es:List Expr)(t:TA):Prop:=
 ∀(pos:Pos) (pins:Y5) (s:Shared) (σ:St) (H:Hp) (Q:List V->Hp->Prop),Inv X pins σ H s->t σ H Q->wpAny (model X.prog X.w) X.A (spliced (backTo pos (starEach es X.env))) (AP X pins σ Q) X.xe s
def PS(X:Cx)(st:Stmt)(t:TS):Prop:=
 ∀(pins:Y5) (s:Shared) (σ:St) (H:Hp) (D:Ends),Inv X pins σ H s->t D σ H->wpAny (model X.prog X.w) X.A (exec st X.env) (SP X pins D) X.xe s
def vW(X:Cx)(st:List Stmt)(t:TS):Prop:=
 ∀(pins:Y5) (s:Shared) (σ:St) (H:Hp) (D:Ends),Inv X pins σ H s->t D σ H->wpAny (model X.prog X.w) X.A (execs st X.env) (SP X pins D) X.xe s
theorem cJ{α:Type}{t:Sem α}{Q Q':α->Shared->Prop}{M:Model}{E:Y6}{s:Shared}(h:wpAny M A t Q E s)(hQ:∀a s,Q a s->Q' a s):wpAny M A t Q' E s:=wpAny_mono h hQ fun _ _ x=>x
section
variable {X:Cx}
def P1(i:Nat):TE:=fun σ H Q=>∃v,σ[i]? =some (some v)/\Q v H
def tC(v:V):TE:=fun _ H Q=>Q v H
theorem zL{i:Nat}{pos:Pos}(hN:X.N[i]? =some x)(hv:KL X.env.scope x)(hd:(x==("__debug__":Str))=false:=by decide)(uN:(x==("__classdict__":Str))=false:=by decide):PE X (.Name x pos) (P1 i):=by
 intro pins s σ H Q I h;obtain⟨v,e,h⟩:=h;obtain⟨m,hn,hl⟩:=I.loc;obtain⟨u,r,l⟩:=hl i x v hN e hv;have fin:EP X pins σ Q u s:=⟨v,H,I,r,h⟩;rcases l with⟨hk,hm⟩ | ⟨hk,c,hc,hcell⟩
 .exact wpAny_Name (wpAny_loadName_local I.ok.kind hk hn hm fin) hd
 .rcases hk with hk | hk
  .exact wpAny_Name (wpAny_loadName_cell I.ok.kind hk hc hcell fin) hd
  .exact wpAny_Name (wpAny_loadName_free I.ok.kind hk hc hcell fin uN) hd
theorem nJ{i j pos}:PE X (.Constant (.int i) j pos) (tC (.int i)):=fun _ _ _ H _ I h=>wpAny_Constant_int ⟨.int i,H,I.tok _,⟨_,rfl⟩,h⟩
theorem Of{b j pos}:PE X (.Constant (.bool b) j pos) (tC (.bl b)):=fun _ _ _ H _ I h=>Constant_bool ⟨.bl b,H,I,rfl,h⟩
theorem m_{x j pos}:PE X (.Constant (.str x) j pos) (tC (.str x)):=fun _ _ _ H _ I h=>Calls.Constant_str ⟨.str x,H,I.tok _,⟨_,rfl⟩,h⟩
def Gl(X:Cx)(x:Str):Prop:=X.env.kindOf x=some .globalImplicit
theorem qi{E:Y6}{pins:Y5}{s:Shared}{σ:St}{H:Hp}{x:Str}{u:Value}{pos:Pos}{Q:Y6}(I:Inv X pins σ H s)(hg:Gl X x)(hm:X.mg x=some u)(h:Q u s)
 (hd:(x==("__debug__":Str))=false:=by decide):wpAny (model X.prog X.w) X.A (eval (.Name x pos) X.env) Q E s:=
 Calls.Name_function_global I.ok.kind hg (Calls.loadGlobal_global (by rw[I.ok.glob];exact I.mod.glob.keeps I.bk) hm h) hd
theorem vP{E:Y6}{pins:Y5}{s:Shared}{σ:St}{H:Hp}{x:Str}{u:Value}{pos:Pos}{Q:Y6}(I:Inv X pins σ H s)(hg:Gl X x)(hm:X.mg x=none)(hv:bootBuiltins x=some u)(h:Q u s)
 (hn:x≠"__name__":=by decide) (hd:(x==("__debug__":Str))=false:=by decide):wpAny (model X.prog X.w) X.A (eval (.Name x pos) X.env) Q E s:=by
 obtain⟨mb,h1,h2⟩:=I.mod.blt;exact Calls.Name_function_global I.ok.kind hg (Calls.loadGlobal_builtin (by rw[I.ok.glob];exact I.mod.glob.keeps I.bk) hm (by rw[I.ok.blt];exact h1.keeps I.bk) ((h2 x hn).trans hv) h) hd
theorem dn{v:V}{u:Value}{pos:Pos}(hg:Gl X x)(hm:X.mg x=some u)(r:RelV v u)(hd:(x==("__debug__":Str))=false:=by decide):PE X (.Name x pos) (tC v):=
 fun _ _ _ H _ I h=>qi I hg hm ⟨v,H,I,r,h⟩ hd
theorem GH{v:V}{u:Value}{pos:Pos}(hg:Gl X x)(hm:X.mg x=none)(hv:bootBuiltins x=some u)(r:RelV v u)(hn:x≠"__name__":=by decide)(hd:(x==("__debug__":Str))=false:=by decide):PE X (.Name x pos) (tC v):=
 fun _ _ _ H _ I h=>vP I hg hm hv ⟨v,H,I,r,h⟩ hn hd
def Pb(ta tb:TE)(k:Int->Int->Hp->Prop):St->Hp->Prop:=fun σ H=>ta σ H fun x H1=>tb σ H1 fun y H2=>∃i j,x= .int i/\y= .int j/\k i j H2
def WH(ta tb:TE):TE:=fun σ H Q=>Pb ta tb (fun i j H2=>Q (.int (i+j)) H2) σ H
def Wz(ta tb:TE):TE:=fun σ H Q=>Pb ta tb (fun i j H2=>Q (.int (i - j)) H2) σ H
def V4(ta tb:TE):TE:=fun σ H Q=>Pb ta tb (fun i j H2=>(-(2 ^ 64) < i/\i < 2 ^ 64)/\Q (.int (i*j)) H2) σ H
variable {a b:Expr} {ta tb:TE} {pos:Pos}
def PC(X:Cx)(op:CmpOp)(a b:Expr)(t:TE):Prop:=
 ∀(pins:Y5) (s:Shared) (σ:St) (H:Hp) (Q:VK),Inv X pins σ H s->t σ H Q->
  wpAny (model X.prog X.w) X.A (eval a X.env) (fun v s₁=>wpAny (model X.prog X.w) X.A (eval b X.env) (fun u uL=>wpAny (model X.prog X.w) X.A (compareOp op v u) (EP X pins σ Q) X.xe uL) X.xe s₁) X.xe s
def Cw(p:Int->Int->Bool)(ta tb:TE):TE:=fun σ H Q=>Pb ta tb (fun i j H2=>Q (.bl (p i j)) H2) σ H
abbrev Yh:TE->TE->TE:=Cw fun i j=>decide (i < j)
abbrev Yz:TE->TE->TE:=Cw fun i j=>decide (i<=j)
abbrev Yr:TE->TE->TE:=Cw fun i j=>decide (j < i)
abbrev YR:TE->TE->TE:=Cw fun i j=>decide (j<=i)
abbrev V5:TE->TE->TE:=Cw fun i j=>decide (i=j)
abbrev Vq:TE->TE->TE:=Cw fun i j=>!decide (i=j)
def Vf(ta:TE):TE:=fun σ H Q=>ta σ H fun x H1=>Q (.bl (decide (x= .cD))) H1
def Tq(ta:TE):TE:=fun σ H Q=>ta σ H fun x H1=>Q (.bl (!decide (x= .cD))) H1
def tB(t:TE):TT:=fun σ H Q=>t σ H fun x H1=>∃c,x= .bl c/\Q c H1
theorem Lm{op:CmpOp}{t:TE}(h:PC X op a b t)(h1:behindInMarks op b=false:=by first | exact nobehind _ (by decide) (by decide) | rfl):PE X (.Compare a [op] [b] pos) t:=fun pins s σ H Q I hw=>wpAny_Compare1 (h pins s σ H Q I hw) h1
theorem zI{op:CmpOp}{t:TE}(h:PC X op a b t)(h1:behindInMarks op b=false:=by first | exact nobehind _ (by decide) (by decide) | rfl):PT X (.Compare a [op] [b] pos) (tB t):=by
 intro pins s σ H Q I hw;refine wpAny_isTrue_Compare1 (cJ (h pins s σ H _ I hw) fun v s1 h1=>cJ h1 fun u s2 h2=>cJ h2 fun c s3 ⟨x,H1,I1,r1,q1⟩=>?_) h1
 obtain⟨d,rfl,q⟩:=q1;cases r1;exact wpAny_truthy_bool ⟨H1,I1,q⟩
variable {tA Pr:TT} {rest:List Expr}
def Qs(t u:TT):TT:=fun σ H Q=>t σ H fun c H1=>if c=true then u σ H1 Q else Q false H1
def WA(t u:TT):TT:=fun σ H Q=>t σ H fun c H1=>if c=true then Q true H1 else u σ H1 Q
def QZ(t:TT):TT:=fun σ H Q=>t σ H fun c H1=>Q (!c) H1
theorem Ii(ha:PT X a tA):PW X (.BoolOp .And [a] pos) tA:=by
 intro wh pins s σ H Q I h;refine isTrue_and (cJ (ha pins s σ H Q I h) fun c s1 e=>?_)
 cases c with
 | true=>exact isTrue_and_nil e
 | false=>exact e
theorem Dc(ha:PT X a tA):PW X (.BoolOp .Or [a] pos) tA:=by
 intro wh pins s σ H Q I h;refine isTrue_or (cJ (ha pins s σ H Q I h) fun c s1 e=>?_)
 cases c with
 | false=>exact isTrue_or_nil e
 | true=>exact e
theorem KU(ha:PT X a tA)(hb:PW X (.BoolOp .And (b ::rest) pos) Pr):PW X (.BoolOp .And (a ::b ::rest) pos) (Qs tA Pr):=by
 intro wh pins s σ H Q I h;refine isTrue_and (cJ (ha pins s σ H _ I h) fun c s1 ⟨H1,I1,q1⟩=>?_)
 cases c with
 | true=>exact hb wh pins s1 σ H1 Q I1 q1
 | false=>exact⟨H1,I1,q1⟩
theorem Ju(ha:PT X a tA)(hb:PW X (.BoolOp .Or (b ::rest) pos) Pr):PW X (.BoolOp .Or (a ::b ::rest) pos) (WA tA Pr):=by
 intro wh pins s σ H Q I h;refine isTrue_or (cJ (ha pins s σ H _ I h) fun c s1 ⟨H1,I1,q1⟩=>?_)
 cases c with
 | true=>exact⟨H1,I1,q1⟩
 | false=>exact hb wh pins s1 σ H1 Q I1 q1
theorem EE(ha:PT X a tA):PT X (.UnaryOp .Not a pos) (QZ tA):=by
 intro pins s σ H Q I h;exact isTrue_not (ha pins s σ H (fun c H1=>Q (!c) H1) I h)
def M7(ta tb:TE):TE:=fun σ H Q=>ta σ H fun x H1=>∃c,x= .bl c/\if c=true then tb σ H1 Q else Q (.bl false) H1
def Qi(ta tb:TE):TE:=fun σ H Q=>ta σ H fun x H1=>∃c,x= .bl c/\if c=true then Q (.bl true) H1 else tb σ H1 Q
def M4(ta:TE):TE:=fun σ H Q=>ta σ H fun x H1=>∃c,x= .bl c/\Q (.bl (!c)) H1
theorem LK{op}{t:TE}(h:PE X a t):PE X (.BoolOp op [a] pos) t:=fun pins s σ H Q I hw=>BoolOp_one (h pins s σ H Q I hw)
theorem Lz(ha:PE X a ta)(hb:PE X (.BoolOp .And (b ::rest) pos) tb):PE X (.BoolOp .And (a ::b ::rest) pos) (M7 ta tb):=by
 intro pins s σ H Q I h;refine BoolOp_and (cJ (ha pins s σ H _ I h) fun v s1 ⟨x,H1,I1,r1,q1⟩=>?_)
 obtain⟨c,rfl,q1⟩:=q1;cases r1;refine wpAny_truthy_bool ?_;cases c with
 | true=>exact hb pins s1 σ H1 Q I1 q1
 | false=>exact⟨.bl false,H1,I1,rfl,q1⟩
theorem MZ(ha:PE X a ta)(hb:PE X (.BoolOp .Or (b ::rest) pos) tb):PE X (.BoolOp .Or (a ::b ::rest) pos) (Qi ta tb):=by
 intro pins s σ H Q I h;refine BoolOp_or (cJ (ha pins s σ H _ I h) fun v s1 ⟨x,H1,I1,r1,q1⟩=>?_)
 obtain⟨c,rfl,q1⟩:=q1;cases r1;refine wpAny_truthy_bool ?_;cases c with
 | false=>exact hb pins s1 σ H1 Q I1 q1
 | true=>exact⟨.bl true,H1,I1,rfl,q1⟩
theorem Kz(ha:PE X a ta):PE X (.UnaryOp .Not a pos) (M4 ta):=by
 intro pins s σ H Q I h;refine UnaryOp_ (cJ (ha pins s σ H _ I h) fun v s1 ⟨x,H1,I1,r1,q1⟩=>?_)
 obtain⟨c,rfl,q1⟩:=q1;cases r1;exact not_of (wpAny_truthy_bool ⟨.bl (!c),H1,I1,rfl,q1⟩)
def Yo(t:TT)(ta tb:TE):TE:=fun σ H Q=>t σ H fun c H1=>if c=true then ta σ H1 Q else tb σ H1 Q
end
def oz(K:W.Frag)(H:Hp)(a:Addr)(xs:List V):Prop:=
 Rd H a (.lst xs)\/
  ∃(o:Obj) (its:Array Value) (n:Nat),K.lookup a=some o/\o.cls= .type "list"/\o.dict=none/\o.data= .seq its n/\its.size<=sizeLine/\Vals xs its.toList
def q9(K:W.Frag)(H:Hp)(a:Addr)(xs:List V):Prop:=
 Rd H a (.tup xs)\/
  ∃(o:Obj) (its:Array Value) (n:Nat),K.lookup a=some o/\o.cls= .type "tuple"/\o.data= .seq its n/\its.size<=sizeLine/\Vals xs its.toList
def Q7:Value->Option V
 | .none=>some .cD
 | .bool b=>some (.bl b)
 | .int i _=>some (.int i)
 | .str x _=>some (.str x)
 | .bytes b _=>some (.byt b)
 | .float b _=>some (.flt b)
 | .ref a=>some (.ref a)
 | .type n=>some (.ty n)
 | _=>none
theorem RelV.abs{x:V}{u:Value}(r:RelV x u):Q7 u=some x:=by
 cases x with
 | cD=>cases r;rfl
 | bl _=>cases r;rfl
 | int _=>obtain⟨t,rfl⟩:=r;rfl
 | str _=>obtain⟨t,rfl⟩:=r;rfl
 | byt _=>obtain⟨t,rfl⟩:=r;rfl
 | flt _=>obtain⟨t,rfl⟩:=r;rfl
 | ref _=>cases r;rfl
 | ty _=>cases r;rfl
theorem RelV.inj{x y:V}{u:Value}(r:RelV x u)(q:RelV y u):x=y:=Option.some.inj (r.abs.symm.trans q.abs)
theorem Vals.inj:∀{xs ys:List V} {us:List Value},Vals xs us->Vals ys us->xs=ys
 | _,_,_, .nil, .nil=>rfl
 | _,_,_, .cons r t, .cons r' t'=>by rw[r.inj r',Vals.inj t t']
section
variable {X:Cx} {pins:Y5} {σ:St} {H:Hp} {s:Shared} {a:Addr} {xs ys:List V}
theorem oz.of{K:W.Frag}(h:H a=some (.lst xs)):oz K H a xs:= .inl (.inl h)
theorem Inv.list(I:Inv X pins σ H s)(h:oz X.K H a xs):∃its:List Value,Vals xs its/\PlainL s.heap a its.toArray/\xs.length<=sizeLine:=by
 rcases h with h | ⟨o,its,n,hk,hc,hd,hs,hz,r⟩
 .obtain⟨z,its,n,r,e⟩:=h.ok I.hok;exact⟨its,r,⟨_,n,e,rfl,rfl,rfl⟩,z⟩
 .refine⟨its.toList,r,⟨o,n,I.vq a o hk,hc,hd,by simpa using hs⟩,?_⟩
  have e:=r.length;simp only[Array.length_toList] at e;omega
theorem Inv.tuple(I:Inv X pins σ H s)(h:q9 X.K H a xs):∃its:List Value,Vals xs its/\IsTup s.heap a its.toArray/\xs.length<=sizeLine:=by
 rcases h with h | ⟨o,its,n,hk,hc,hs,hz,r⟩
 .obtain⟨z,its,r,p⟩:=h.ok I.hok;exact⟨its,r,p,z⟩
 .refine⟨its.toList,r,⟨o,I.vq a o hk,hc,n,by simpa using hs⟩,?_⟩
  have e:=r.length;simp only[Array.length_toList] at e;omega
theorem Inv.DY(I:Inv X pins σ H s)(h:oz X.K H a xs)(h':oz X.K H a ys):xs=ys:=by
 obtain⟨its,r,⟨o,n,e,_,_,d⟩,_⟩:=I.list h;obtain⟨its',r',⟨o',n',e',_,_,d'⟩,_⟩:=I.list h';rw[e] at e';cases e';rw[d] at d';injection d' with d1 _
 have:its=its':=by simpa using congrArg Array.toList d1
 subst this;exact r.inj r'
theorem Inv.Ck(I:Inv X pins σ H s)(h:q9 X.K H a xs)(h':q9 X.K H a ys):xs=ys:=by
 obtain⟨its,r,⟨o,e,_,n,d⟩,_⟩:=I.tuple h;obtain⟨its',r',⟨o',e',_,n',d'⟩,_⟩:=I.tuple h';rw[e] at e';cases e';rw[d] at d';injection d' with d1 _
 have:its=its':=by simpa using congrArg Array.toList d1
 subst this;exact r.inj r'
end
abbrev Cx.uw(X:Cx)(E:Y6):Cx:={X with xe:=E}
abbrev Cx.Hz(X:Cx):Cx:=X.uw fun _ _=>False
theorem Cx.Ok.uw{X:Cx}(ok:X.Ok)(E:Y6):(X.uw E).Ok:=
 ⟨ok.mod,ok.kind,ok.glob,ok.blt,ok.above,ok.inj,ok.has,ok.cab,ok.hd,ok.frames,ok.stk,ok.exf,ok.bs,ok.bsz,ok.noex,ok.exfs,ok.qE,ok.frf⟩
theorem Cx.Ok.nM{X:Cx}{E:Y6}(ok:(X.uw E).Ok):X.Ok:=
 ⟨ok.mod,ok.kind,ok.glob,ok.blt,ok.above,ok.inj,ok.has,ok.cab,ok.hd,ok.frames,ok.stk,ok.exf,ok.bs,ok.bsz,ok.noex,ok.exfs,ok.qE,ok.frf⟩
section
variable {X:Cx} {pins:Y5} {σ:St} {H:Hp} {s:Shared} {E:Y6}
theorem Inv.uw(I:Inv X pins σ H s)(E:Y6):Inv (X.uw E) pins σ H s:=⟨I.ok.uw E,I.os,I.bare,I.base,I.loc,I.cell,I.free,I.freeC,I.pin,I.hok,I.len⟩
theorem Inv.nM(I:Inv (X.uw E) pins σ H s):Inv X pins σ H s:=⟨I.ok.nM,I.os,I.bare,I.base,I.loc,I.cell,I.free,I.freeC,I.pin,I.hok,I.len⟩
theorem SP.nM{D:Ends}{f:Flow}{s':Shared}(h:SP (X.uw E) pins D f s'):SP X pins D f s':=by
 cases f with
 | next=>obtain⟨b8,H',I,q⟩:=h;exact⟨b8,H',I.nM,q⟩
 | brk=>obtain⟨b8,H',I,q⟩:=h;exact⟨b8,H',I.nM,q⟩
 | cont=>obtain⟨b8,H',I,q⟩:=h;exact⟨b8,H',I.nM,q⟩
 | ret u=>obtain⟨v,b8,H',I,r,q⟩:=h;exact⟨v,b8,H',I.nM,r,q⟩
theorem vW.Hz{st:List Stmt}{t:TS}(h:vW X.Hz st t):vW X st t:=fun pins s σ H D I hw=>
 wpAny_mono (h pins s σ H D (I.uw _) hw) (fun _ _ q=>q.nM) fun _ _ z=>False.elim z
end
section
variable {X:Cx} {st:Stmt} {rest:List Stmt} {t u:TS} {e:Expr} {te:TE} {pos:Pos}
def OF:TS:=fun D σ H=>D.nx σ H
def N_(t u:TS):TS:=fun D σ H=>t {D with nx:=u D} σ H
theorem vx:vW X [] OF:=fun _ _ σ H _ I h=>wpAny_execs_nil ⟨σ,H,I,h⟩
theorem sU(h1:PS X st t)(h2:vW X rest u):vW X (st ::rest) (N_ t u):=by
 intro pins s σ H D I h;refine wpAny_execs_cons (cJ (h1 pins s σ H {D with nx:=u D} I h) fun f s1 q=>?_)
 cases f with
 | next=>
   obtain⟨b8,H',I',q⟩:=q;exact h2 pins s1 b8 H' D I' q
 | ret v=>exact q
 | brk=>exact q
 | cont=>exact q
theorem vX(h1:PS X st t):vW X [st] t:=by
 intro pins s σ H D I h;refine wpAny_execs_cons (cJ (h1 pins s σ H D I h) fun f s1 q=>?_)
 cases f with
 | next=>exact wpAny_execs_nil q
 | ret v=>exact q
 | brk=>exact q
 | cont=>exact q
def Q5:TS:=fun D σ H=>D.bk σ H
def Ul:TS:=fun D σ H=>D.ct σ H
theorem Inv.quiet{pins:Y5}{s:Shared}(I:Inv X pins σ H s):interactive X.env=false:=by simp [interactive,I.ok.kind]
def NB(te:TE):TS:=fun D σ H=>te σ H fun _ H1=>D.nx σ H1
theorem sf(he:PE X e te)(hs:swapsWith e none pos.line X.env=pure false:=by rfl):PS X (.Expr e pos) (NB te):=by
 intro pins s σ H D I h;exact wpAny_Expr_any (cJ (he pins s σ H _ I h) fun v s1 ⟨x,H1,I1,r1,q1⟩=>⟨σ,H1,I1,q1⟩) I.quiet hs
def PL(te:TE):TS:=fun D σ H=>te σ H D.rt
theorem Fm(he:PE X e te):PS X (.Return (some e) pos) (PL te):=by
 intro pins s σ H D I h;exact wpAny_Return_some (cJ (he pins s σ H _ I h) fun v s1 ⟨x,H1,I1,r1,q1⟩=>⟨x,σ,H1,I1,r1,q1⟩)
def Uh:TS:=fun D _ H=>D.rt .cD H
def M6(c:TT)(t u:TS):TS:=fun D σ H=>c σ H fun b H1=>if b=true then t D σ H1 else u D σ H1
theorem EZ{tc:TT}(hc:PT X c tc)(ha:vW X a t)(hb:vW X b u):PS X (.If c a b pos) (M6 tc t u):=by
 intro pins s σ H D I h;refine wpAny_If (cJ (hc pins s σ H _ I h) fun d s1 ⟨H1,I1,q1⟩=>?_)
 cases d with
 | true=>exact ha pins s1 σ H1 D I1 q1
 | false=>exact hb pins s1 σ H1 D I1 q1
def QI:TS:=fun _ _ _=>False
end
abbrev TG:=V->St->Hp->(St->Hp->Prop)->Prop
abbrev FF:=List V->St->Hp->(St->Hp->Prop)->Prop
def PG(X:Cx)(target:Expr)(t:TG):Prop:=
 ∀(pins:Y5) (s:Shared) (σ:St) (H:Hp) (v:V) (u:Value) (Q:St->Hp->Prop),Inv X pins σ H s->RelV v u->t v σ H Q->
  wpAny (model X.prog X.w) X.A (assign target X.env u) (fun _ s'=>∃b8 H',Inv X pins b8 H' s'/\Q b8 H') X.xe s
def HC(X:Cx)(ts:List Expr)(t:FF):Prop:=
 ∀(pins:Y5) (s:Shared) (σ:St) (H:Hp) (vs:List V) (us:List Value) (Q:St->Hp->Prop),Inv X pins σ H s->Vals vs us->t vs σ H Q->
  wpAny (model X.prog X.w) X.A (assignInOrder ((assignEach ts X.env).map (·.2)) us) (fun _ s'=>∃b8 H',Inv X pins b8 H' s'/\Q b8 H') X.xe s
abbrev LQ:=V->V->V->Hp->(Hp->Prop)->Prop
def VD(X:Cx)(t:LQ):Prop:=
 ∀(pins:Y5) (s:Shared) (σ:St) (H:Hp) (o i v:V) (ov iv u:Value) (Q:Hp->Prop),Inv X pins σ H s->RelV o ov->RelV i iv->RelV v u->t o i v H Q->
  wpAny (model X.prog X.w) X.A (setItem ov iv u) (fun _ s'=>∃H',Inv X pins σ H' s'/\Q H') X.xe s
abbrev O7:=V->V->Hp->VK->Prop
def Yp(X:Cx)(op:Operator)(t:O7):Prop:=
 ∀(pins:Y5) (s:Shared) (σ:St) (H:Hp) (x y:V) (v u:Value) (Q:VK),Inv X pins σ H s->RelV x v->RelV y u->t x y H Q->
  wpAny (model X.prog X.w) X.A (inplaceOp op v u) (EP X pins σ Q) X.xe s
section
variable {X:Cx} {pos:Pos}
def sC(i:Nat):TG:=fun v σ H Q=>Q (σ.set i (some v)) H
theorem Bl{i:Nat}(hN:X.N.Nodup)(hi:X.N[i]? =some x)(hx:Loc X.env.scope x)(hf:X.fn x=true\/X.env.scope.names.lookup x=some .local:=by first | exact .inl rfl | exact .inr rfl | assumption):PG X (.Name x pos) (sC i):=by
 intro pins s σ H v u Q I r h;exact wpAny_assign_Name (tM I hN hi hx r (fun s' I'=>⟨_,H,I',h⟩) hf)
def Pw:FF:=fun vs σ H Q=>vs=[]/\Q σ H
def N5(t:TG)(u:FF):FF:=fun vs σ H Q=>∃v r,vs=v ::r/\t v σ H fun b8 H'=>u r b8 H' Q
theorem IA:HC X [] Pw:=by
 intro pins s σ H vs us Q I r h;obtain⟨e,h⟩:=h;subst e;cases r;exact assignInOrder_nil ⟨σ,H,I,h⟩
theorem EU{e:Expr}{es:List Expr}{t:TG}{u:FF}(h1:PG X e t)(h2:HC X es u)
 (hs:(assignEach (e ::es) X.env).map (·.2)=assign e X.env ::(assignEach es X.env).map (·.2):=by rfl):HC X (e ::es) (N5 t u):=by
 intro pins s σ H vs us Q I r h;obtain⟨v,vr,e1,h⟩:=h;subst e1;cases r with
 | cons r rr=>
   rw[hs];refine assignInOrder_cons (cJ (h1 pins s σ H _ _ _ I r h) fun _ s1 ⟨MM,H1,I1,q1⟩=>?_)
   exact h2 pins s1 MM H1 _ _ Q I1 rr q1
def Wu(K:W.Frag)(n:Nat)(t:FF):TG:=fun v σ H Q=>∃a xs,v= .ref a/\q9 K H a xs/\xs.length=n/\t xs σ H Q
def Vk(to ti:TE)(t:LQ):TG:=fun v σ H Q=>to σ H fun o H1=>ti σ H1 fun i H2=>t o i v H2 fun H3=>Q σ H3
def Ct(te:TE)(g:TG):TS:=fun D σ H=>te σ H fun x H1=>g x σ H1 D.nx
theorem KI{tg e:Expr}{te:TE}{g:TG}(he:PE X e te)(hg:PG X tg g)(hs:swapsWithSole [tg] e pos.line X.env=pure false:=by rfl)(hw:swappedStores [tg] e X.env=pure none:=by rfl)
 (h1:(assignEach [tg] X.env).map (·.2)=[assign tg X.env]:=by rfl):PS X (.Assign [tg] e pos) (Ct te g):=by
 intro pins s σ H D I h;refine wpAny_Assign_stores (cJ (he pins s σ H _ I h) fun v s1 ⟨x,H1,I1,r1,q1⟩=>?_) hs hw
 rw[h1];exact cJ (hg pins s1 σ H1 x v _ I1 r1 q1) fun _ s2 q=>q
theorem zH{i:Nat}{te:TE}(hN:X.N.Nodup)(hi:X.N[i]? =some x)(hx:Loc X.env.scope x)(he:PE X e te)(hs:swapsWith e (some (.Name x pos')) pos.line X.env=pure false:=by rfl)(hf:X.fn x=true\/X.env.scope.names.lookup x=some .local:=by first | exact .inl rfl | exact .inr rfl | assumption) :
 PS X (.Assign [.Name x pos'] e pos) (Ct te (sC i)):=by
 intro pins s σ H D I h;refine wpAny_Assign_Name (cJ (he pins s σ H _ I h) fun v s1 ⟨y,H1,I1,r1,q1⟩=>?_) hs
 exact tM I1 hN hi hx r1 (fun s2 I2=>⟨_,H1,I2,q1⟩) hf
def Wm(i j:Nat)(ta:TA):TS:=fun D σ H=>ta σ H fun vs H1=>∃v w,vs=[v,w]/\D.nx ((σ.set i (some v)).set j (some w)) H1
def V8(i:Nat)(te:TE)(ti:O7):TS:=fun D σ H=>∃x,σ[i]? =some (some x)/\te σ H fun y H1=>ti x y H1 fun z H2=>D.nx (σ.set i (some z)) H2
def UK(to ti te:TE)(Rk:V->V->Hp->VK->Prop)(XG:O7)(Td:LQ):TS:=fun D σ H=>to σ H fun o H1=>ti σ H1 fun i H2=>Rk o i H2 fun x H3=>te σ H3 fun y H4=>XG x y H4 fun z H5=>Td o i z H5 fun H6=>D.nx σ H6
def V0(X:Cx)(t:V->V->Hp->VK->Prop):Prop:=
 ∀(pins:Y5) (s:Shared) (σ:St) (H:Hp) (o i:V) (ov iv:Value) (Q:VK),Inv X pins σ H s->RelV o ov->RelV i iv->t o i H Q->
  wpAny (model X.prog X.w) X.A (getItem ov iv) (EP X pins σ Q) X.xe s
def Yl(f:Int->Int->Int):O7:=fun x y H Q=>∃i j,x= .int i/\y= .int j/\Q (.int (f i j)) H
end
section
variable {X:Cx} {pos:Pos}
def Qa(c:TT)(tb:TS):TS:=fun D σ H=>∃W:Nat->St->Hp->Prop,(∃m,W m σ H)/\∀m σ H,W m σ H->
 c σ H fun b H1=>if b=true then ∃N:St->Hp->Prop,(∀b8 H',N b8 H'->∃m',m' < m/\W m' b8 H')/\tb {D with nx:=N,ct:=N,bk:=D.nx} σ H1 else D.nx σ H1
end
structure It where
 go:Nat->Hp->Prop
 yld:Nat->Hp->V->Hp->Prop
 stop:Nat->Hp->Prop
def rJ(X:Cx)(pins:Y5)(H:Hp)(b:Addr):Prop:=
 H b=none/\b≠X.env.locals/\b ∉ X.fs/\(b∈X.ex\/X.s₀.heap.objs.size<=b)/\(∀x c,X.env.cells.lookup x=some c->c≠b)/\∀p∈X.pn++pins,p.1≠b
theorem Inv.Cs{X:Cx}{pins:Y5}{H H':Hp}{s:Shared}{b:Addr}(I:Inv X pins σ H s)(hb:s.heap.objs.size<=b)(hn:H' b=none):rJ X pins H' b:=by
 refine⟨hn,Nat.ne_of_gt (Nat.lt_of_lt_of_le I.lt hb),I.QQ hb, .inr (Nat.le_trans I.sz hb),fun x c e z=>?_,fun p hp z=>?_⟩
 .obtain⟨v,q⟩:=I.cell x c e;exact absurd (Nat.lt_of_lt_of_le q.lt (by rw[z];exact hb)) (Nat.lt_irrefl _)
 .exact absurd (Nat.lt_of_lt_of_le (Heap.lt_size (I.pin p hp).1) (by rw[z];exact hb)) (Nat.lt_irrefl _)
structure Turn (P:Program) (w:World) (K:W.Frag) (tg:Expr) (J:It) (fp:List Addr) (it:Addr) (tn:Nat->Heap->Prop):Prop where
 mem:it∈fp
 obj:∀i h,tn i h->∀b∈fp,∃o,h.get? b=some o/\∀v,o.data≠ .cell v
 keep:∀i h h',tn i h->(∀b∈fp,∀o,h.get? b=some o->h'.get? b=some o)->tn i h'
 item:∀(X:Cx),X.prog=P->X.w=w->X.K=K->X.calm=true->∀(i:Nat) (pins:Y5) (s:Shared) (σ:St) (H:Hp) (E:Y6),Inv X pins σ H s->(∀b∈fp,rJ X pins H b)->tn i s.heap->J.go i H->
  wpAny (model P w) X.A (pyNext (.ref it)) (fun r s1=>∃u,r=some u/\
   wpAny (model P w) X.A (letOwnedTupleGo tg (.ref it) u) (fun _ s2=>∃x H',Inv X pins σ H' s2/\RelV x u/\J.yld i H x H'/\tn (i+1) s2.heap/\∀b∈fp,H' b=none) E s1) E s
 done:∀(X:Cx),X.prog=P->X.w=w->X.K=K->X.calm=true->∀(i:Nat) (pins:Y5) (s:Shared) (σ:St) (H:Hp) (E:Y6),Inv X pins σ H s->(∀b∈fp,rJ X pins H b)->tn i s.heap->J.stop i H->
  wpAny (model P w) X.A (pyNext (.ref it)) (fun r s1=>r=none/\Inv X pins σ H s1) E s
 self:∀(A:Around) (i:Nat) (s:Shared) (Q:Y6) (E:Y6),tn i s.heap->Q (.ref it) s->wpAny (model P w) A (pyIter (.ref it)) Q E s
abbrev TI:=St->Hp->(It->Hp->Prop)->Prop
def TL(X:Cx)(pins:Y5)(σ:St)(tg:Expr)(R:It->Hp->Prop)(Pn:Value)(s2:Shared):Prop:=
 ∃(it:Addr) (fp:List Addr) (tn:Nat->Heap->Prop) (J:It) (H':Hp),Pn= .ref it/\Inv X pins σ H' s2/\Turn X.prog X.w X.K tg J fp it tn/\tn 0 s2.heap/\(∀b∈fp,rJ X pins H' b)/\R J H'
def PI(X:Cx)(tg iter:Expr)(wi:TI):Prop:=
 ∀(pins:Y5) (s:Shared) (σ:St) (H:Hp) (R:It->Hp->Prop),Inv X pins σ H s->wi σ H R->
  wpAny (model X.prog X.w) X.A (eval iter X.env) (fun v s1=>wpAny (model X.prog X.w) X.A (pyIter v) (TL X pins σ tg R) X.xe s1) X.xe s
theorem z9{M:Model}{A:Around}{E:Y6}{s:Shared}{tg:Expr}{it:Addr}{u:Value}{o:Obj}{n:String}{vs:Array Value}{Q:Unit->Shared->Prop}(ho:s.heap.get? it=some o)(hc:o.cls= .type n)(hd:o.data= .fields vs)
 (hn:["enumerate","zip","dict_itemiterator","dict_reverseitemiterator","odict_iterator","itertools.zip_longest","itertools.pairwise"].contains n=false) (hQ:Q () s):wpAny M A (letOwnedTupleGo tg (.ref it) u) Q E s:=by
 unfold letOwnedTupleGo;cases tg <;> first
  | exact wpAny_pure hQ
  | (cases u <;> first
      | exact wpAny_pure hQ
      | (refine wpAny_bind (wpAny_load ho ?_)
         rw[hc,hd];show wpAny M A (if(["enumerate","zip","dict_itemiterator","dict_reverseitemiterator","odict_iterator","itertools.zip_longest","itertools.pairwise"].contains n && vs[0]? ==some (rawInt _))=true then _ else _) Q E s
         rw[if_neg (by intro h;rw [hn,Bool.false_and] at h;cases h)]
         exact wpAny_pure hQ))
def TK(K:W.Frag)(a:Addr):It:=
 ⟨fun i H=>∃xs x,oz K H a xs/\xs[i]? =some x,fun i H x H'=>H'=H/\∀xs,oz K H a xs->xs[i]? =some x,fun i H=>∃xs,oz K H a xs/\xs.length<=i⟩
def Uv(K:W.Frag)(a:Addr):It:=
 ⟨fun i H=>∃xs x,q9 K H a xs/\xs[i]? =some x,fun i H x H'=>H'=H/\∀xs,q9 K H a xs->xs[i]? =some x,fun i H=>∃xs,q9 K H a xs/\xs.length<=i⟩
def NK(lo:Int)(n:Nat):It:=⟨fun i _=>i < n,fun i H x H'=>H'=H/\x= .int (lo+i),fun i _=>n<=i⟩
theorem Ce{K:W.Frag}(a it:Addr):Turn P w K tg (TK K a) [it] it (fun i h=>h.IsListIter it a i) where
 mem:=by simp
 obj:=fun i h st b hb=>by
  have e:b=it:=by simpa using hb
  subst e;obtain⟨o,e,c,d⟩:=st;exact⟨o,e,fun v z=>by rw[d] at z;cases z⟩
 keep:=fun i h h' st k=>st.at fun o e=>k it (by simp) o e
 item:=by
  intro X hP hw hK hc i pins s σ H E I hf st hg;subst hP hw hK;obtain⟨xs,x,hq,hx⟩:=hg;obtain⟨its,rv,p,hz⟩:=I.list hq;obtain⟨u,hu,ru⟩:=rv.get hx;obtain⟨f0,f1,f2,f3,f4,f5⟩:=hf it (by simp)
  refine wpAny_pyNext_list_item st p.isList (x:=u) (by simpa using hu) fun h' F5 sb=>?_
  have I1:Inv X pins σ H {s with heap:=h'}:=I.turned (t':=s.toks) (fun b o hb e=>(sb.2 b hb).trans e) f0 f1 f3 f4 f5
  obtain⟨o,e,c,d⟩:=id F5;exact⟨u,rfl,z9 (s:={s with heap:=h'}) e c d (by decide) ⟨x,H,I1,ru,⟨rfl,fun ys hy=>by rw[I.DY hy hq];exact hx⟩,F5,fun b hb=>(hf b hb).1⟩⟩
 done:=by
  intro X hP hw hK hc i pins s σ H E I hf st hg;subst hP hw hK;obtain⟨xs,hq,hx⟩:=hg;obtain⟨its,rv,p,hz⟩:=I.list hq;obtain⟨f0,f1,f2,f3,f4,f5⟩:=hf it (by simp)
  have hl:=rv.length;exact wpAny_pyNext_list_end (I.ok.hd hc) st p.isList (by simp;omega) fun h' eb=>⟨rfl,I.turned (t':=s.toks) (fun b o hb e=>eb b o hb e) f0 f1 f3 f4 f5⟩
 self:=fun _ _ _ _ _ st h=>wpAny_pyIter_listiter st h
theorem zl{K:W.Frag}(a it:Addr):Turn P w K tg (Uv K a) [it] it (fun i h=>h.IsTupleIter it a i) where
 mem:=by simp
 obj:=fun i h st b hb=>by
  have e:b=it:=by simpa using hb
  subst e;obtain⟨o,e,c,d⟩:=st;exact⟨o,e,fun v z=>by rw[d] at z;cases z⟩
 keep:=fun i h h' st k=>st.at fun o e=>k it (by simp) o e
 item:=by
  intro X hP hw hK hc i pins s σ H E I hf st hg;subst hP hw hK;obtain⟨xs,x,hq,hx⟩:=hg;obtain⟨its,rv,p,hz⟩:=I.tuple hq;obtain⟨u,hu,ru⟩:=rv.get hx;obtain⟨f0,f1,f2,f3,f4,f5⟩:=hf it (by simp)
  refine wpAny_pyNext_tuple_item st (show s.heap.IsTuple a its.toArray from p) (x:=u) (by simpa using hu) fun h' F5 sb=>?_
  have I1:Inv X pins σ H {s with heap:=h'}:=I.turned (t':=s.toks) (fun b o hb e=>(sb.2 b hb).trans e) f0 f1 f3 f4 f5
  obtain⟨o,e,c,d⟩:=id F5;exact⟨u,rfl,z9 (s:={s with heap:=h'}) e c d (by decide) ⟨x,H,I1,ru,⟨rfl,fun ys hy=>by rw[I.Ck hy hq];exact hx⟩,F5,fun b hb=>(hf b hb).1⟩⟩
 done:=by
  intro X hP hw hK hc i pins s σ H E I hf st hg;subst hP hw hK;obtain⟨xs,hq,hx⟩:=hg;obtain⟨its,rv,p,hz⟩:=I.tuple hq;obtain⟨f0,f1,f2,f3,f4,f5⟩:=hf it (by simp)
  have hl:=rv.length;exact wpAny_pyNext_tuple_end (I.ok.hd hc) st (show s.heap.IsTuple a its.toArray from p) (by simp;omega) fun h' eb=>⟨rfl,I.turned (t':=s.toks) (fun b o hb e=>eb b o hb e) f0 f1 f3 f4 f5⟩
 self:=fun _ _ _ _ _ st h=>wpAny_pyIter_tupleiter st h
theorem zq{K:W.Frag}(it:Addr)(lo:Int)(n:Nat):Turn P w K tg (NK lo n) [it] it (fun i h=>IsRangeIter h it (lo+(i:Nat)*1) ((n:Int) - (i:Nat)) 1) where
 mem:=by simp
 obj:=fun i h st b hb=>by
  have e:b=it:=by simpa using hb
  subst e;exact⟨_,st,fun v z=>by
   have z':Data.fields _=Data.cell v:=z;cases z'⟩
 keep:=fun i h h' st k=>k it (by simp) _ st
 item:=by
  intro X hP hw hK hc i pins s σ H E I hf st hg;subst hP hw hK;obtain⟨f0,f1,f2,f3,f4,f5⟩:=hf it (by simp)
  have W:=Walks.range (prog:=X.prog) (w:=X.w) (I.ok.hd hc) it lo 1 n;refine W.item i s _ _ hg st fun v h' tk hv F5 kk=>?_
  obtain⟨t,rfl⟩:=hv;have I1:Inv X pins σ H {s with heap:=h',toks:=tk}:=I.turned (fun b o hb e=>kk b o (by simpa using hb) e) f0 f1 f3 f4 f5
  refine⟨_,rfl,z9 (s:={s with heap:=h',toks:=tk}) (n:="range_iterator") F5 rfl rfl (by decide) ⟨.int (lo+i),H,I1,⟨t,?_⟩,⟨rfl,rfl⟩,F5,fun b hb=>(hf b hb).1⟩⟩
  rw[Int.mul_one]
 done:=by
  intro X hP hw hK hc i pins s σ H E I hf st hg;subst hP hw hK;obtain⟨f0,f1,f2,f3,f4,f5⟩:=hf it (by simp)
  exact wpAny_pyNext_range_end (I.ok.hd hc) st (by have:n<=i:=hg;omega) fun h' eb=>⟨rfl,I.turned (t':=s.toks) (fun b o hb e=>eb b o hb e) f0 f1 f3 f4 f5⟩
 self:=fun _ _ _ _ _ st h=>wpAny_pyIter_rangeiter st h
section
variable {X:Cx} {tg:Expr}
def T_(K:W.Frag)(tl:TE):TI:=fun σ H R=>tl σ H fun x H1=>∃a,x= .ref a/\(∃xs,oz K H1 a xs)/\R (TK K a) H1
def P8(K:W.Frag)(tl:TE):TI:=fun σ H R=>tl σ H fun x H1=>∃a,x= .ref a/\(∃xs,q9 K H1 a xs)/\R (Uv K a) H1
theorem Dw{pins:Y5}{σ:St}{H:Hp}{s:Shared}{R:It->Hp->Prop}{E:Y6}{lo hi:Int}{t u v:Tok}{tk:Nat}(I:Inv X pins σ H s)(h1: -(2 ^ 62)<=lo)(h2:lo < 2 ^ 62)(h3: -(2 ^ 62)<=hi)(h4:hi < 2 ^ 62)
 (q:R (NK lo (hi - lo).toNat) H):wpAny (model X.prog X.w) X.A (pyIter (.ref s.heap.objs.size)) (TL X pins σ tg R) E {s with heap:=s.heap.push {cls:= .type "range",data:= .fields #[.int lo t, .int hi u, .int 1 v]},toks:=tk}:=by
 refine wpAny_pyIter_range (IsRange.new ..) (small_one h1 h2 h3 h4) ?_;have I1:Inv X pins σ H {s with heap:=s.heap.push {cls:= .type "range",data:= .fields #[.int lo t, .int hi u, .int 1 v]},toks:=tk}:=I.kept fun b o e=>Heap.get?_push_of_some _ e
 refine⟨(s.heap.push {cls:= .type "range",data:= .fields #[.int lo t, .int hi u, .int 1 v]}).objs.size,[(s.heap.push {cls:= .type "range",data:= .fields #[.int lo t, .int hi u, .int 1 v]}).objs.size],_,_,H,rfl,
  I1.kept (t':=tk) fun b o e=>Heap.get?_push_of_some _ e,zq _ lo (hi - lo).toNat,?_,fun b hb=>?_,q⟩
 .have e1:lo+((0:Nat):Int)*1=lo:=by simp
  have e2:(((hi - lo).toNat:Nat):Int) - ((0:Nat):Int)=Builtin.Range.rangeSize lo hi 1:=by rw[rangeSize_one];split <;> omega
  show IsRangeIter _ _ (lo+((0:Nat):Int)*1) ((((hi - lo).toNat:Nat):Int) - ((0:Nat):Int)) 1;rw[e1,e2];exact Heap.get?_push_size _ rfl
 .have e:b=(s.heap.push {cls:= .type "range",data:= .fields #[.int lo t, .int hi u, .int 1 v]}).objs.size:=by simpa using hb
  subst e;exact I1.Cs (Nat.le_refl _) (I1.hok.fresh (Nat.le_refl _))
def Jy(ta:TA):TI:=fun σ H R=>ta σ H fun vs H1=>∃j:Int,vs=[.int j]/\ -(2 ^ 62)<=j/\j < 2 ^ 62/\R (NK 0 j.toNat) H1
def Uj(ta:TA):TI:=fun σ H R=>ta σ H fun vs H1=>∃i j:Int,vs=[.int i, .int j]/\(-(2 ^ 62)<=i/\i < 2 ^ 62/\ -(2 ^ 62)<=j/\j < 2 ^ 62)/\R (NK i (j - i).toNat) H1
theorem BP{ta:TA}{p pos:Pos}(hg:Gl X "range")(hm:X.mg "range"=none)(ha:PA X [a] ta)(hs:starEach [a] X.env=[(false,eval a X.env)]:=by rfl):PI X tg (.Call (.Name "range" p) [a] [] pos) (Jy ta):=by
 intro pins s σ H R I h;refine Call_ (vP I hg hm boot_range (PyProof.Rows.callWith_type1 (cJ (ha pos pins s σ H _ I h) fun us s1 ⟨vs,H1,I1,r1,q1⟩=>?_) hs rfl))
 obtain⟨j,e,q1,q2,q⟩:=q1;subst e;cases r1 with
 | cons r rr=>
   cases rr;obtain⟨t,rfl⟩:=r;exact call_range_1 (Dw I1 (by omega) (by omega) q1 q2 (by simpa using q))
def QF(wi:TI)(g:TG)(tb:TS):TS:=fun D σ H=>wi σ H fun J H1=>∃W:Nat->Nat->St->Hp->Prop,(∃m,W 0 m σ H1)/\∀i m σ H,W i m σ H->
 (J.stop i H/\D.nx σ H)\/(J.go i H/\∃N:St->Hp->Prop,(∀b8 H',N b8 H'->∃m',m' < m/\W (i+1) m' b8 H')/\∀x H',J.yld i H x H'->g x σ H' fun uM H2=>tb {D with nx:=N,ct:=N,bk:=D.nx} uM H2)
def pE(fp:List Addr)(h:Heap):Y5:=fp.filterMap fun b=>(h.get? b).map fun o=>(b,o)
theorem mn{fp:List Addr}{h:Heap}{b:Addr}{o:Obj}(hb:b∈fp)(e:h.get? b=some o):(b,o)∈pE fp h:=List.mem_filterMap.mpr ⟨b,hb,by rw[e];rfl⟩
theorem BY{fp:List Addr}{h:Heap}{p:Addr × Obj}(hp:p∈pE fp h):p.1∈fp/\h.get? p.1=some p.2:=by
 obtain⟨b,hb,e⟩:=List.mem_filterMap.mp hp;cases q:h.get? b with
 | none=>rw [q] at e;cases e
 | some o=>
   rw[q] at e;have e':(b,o)=p:=Option.some.inj e;subst e';exact⟨hb,q⟩
theorem Inv.pinned{pins:Y5}{s:Shared}{fp:List Addr}(I:Inv X pins σ H s)(hf:∀b∈fp,rJ X pins H b)(ho:∀b∈fp,∃o,s.heap.get? b=some o/\∀v,o.data≠ .cell v):Inv X (pins++pE fp s.heap) σ H s:=
 I.Bg fun p hp=>(List.mem_append.mp hp).elim (fun z=>I.pin p (List.mem_append_right _ z)) fun z=>by
  obtain⟨hb,e⟩:=BY z;obtain⟨f0,f1,f2,_⟩:=hf p.1 hb;obtain⟨o,e',d⟩:=ho p.1 hb;rw[e] at e';cases e';exact⟨e,f0,f1,f2,d⟩
theorem Inv.qa{pins pl:Y5}{s:Shared}(I:Inv X (pins++pl) σ H s):Inv X pins σ H s:=I.Bg fun p hp=>I.pin p (List.mem_append_right _ (List.mem_append_left _ hp))
theorem yP{iter:Expr}{body:List Stmt}{wi:TI}{g:TG}{tb:TS}{pos:Pos}(hp:PassesOwn (model X.prog X.w) X.A X.env X.xe)(hc:X.calm=true)(hi:PI X tg iter wi)(hg:PG X tg g)(hb:vW X body tb)
 (hs:∀x,foldedSetIterable iter X.env x=pure x:=by intro _;rfl):PS X (.For tg iter body [] pos) (QF wi g tb):=by
 intro pins s σ H D I h;refine wpAny_For (cJ (hi pins s σ H _ I h) fun v s1 h1=>cJ h1 fun Pn s2 h2=>?_) hs
 obtain⟨it,fp,tn,J,H2,e,I2,T,Mm,f2,W,⟨m0,w0⟩,turn⟩:=h2;subst e;have stat:∀{H':Hp},(∀b∈fp,H' b=none)->∀b∈fp,rJ X pins H' b:=fun hn b hb=>⟨hn b hb,(f2 b hb).2⟩
 refine codeAny_forLoop_any (fun n s'=>∃i b8 H',Inv X pins b8 H' s'/\tn i s'.heap/\(∀b∈fp,H' b=none)/\W i n b8 H') ?_ m0 ⟨0,σ,H2,I2,Mm,fun b hb=>(f2 b hb).1,w0⟩
 rintro n s3 ⟨i,Gx,H3,I3,IK,OQ,w3⟩;rcases turn i n Gx H3 w3 with⟨stop,qn⟩ | ⟨go,N,hN,step⟩
 .refine wpAny_passesOwn hp (cJ (T.done X rfl rfl rfl hc i pins s3 Gx H3 X.xe I3 (stat OQ) IK stop) fun r s4 ⟨hr,I4⟩=>?_)
  subst hr;exact wpAny_execs_nil ⟨Gx,H3,I4,qn⟩
 .refine wpAny_passesOwn hp (cJ (T.item X rfl rfl rfl hc i pins s3 Gx H3 X.xe I3 (stat OQ) IK go) fun r s4 ⟨u,hr,h4⟩=>?_)
  subst hr;refine wpAny_passesOwn hp (cJ h4 fun _ s5 ⟨x,H5,I5,r5,y5,Mo,Rj⟩=>?_)
  have I5':=I5.pinned (stat Rj) (T.obj _ _ Mo);refine wpAny_passesOwn hp (cJ (hg _ s5 Gx H5 x u _ I5' r5 (step x H5 y5)) fun _ s6 ⟨OO,H6,I6,q6⟩=>?_)
  refine wpAny_passesOwn hp (cJ (hb _ s6 OO H6 _ I6 q6) fun f s7 q7=>?_)
  have again:∀{yG:St} {H7:Hp},Inv X (pins++pE fp s5.heap) yG H7 s7->N yG H7->∃m,m < n/\∃i b8 H',Inv X pins b8 H' s7/\tn i s7.heap/\(∀b∈fp,H' b=none)/\W i m b8 H':=fun {yG H7} I7 n7=>by
   obtain⟨m',hm,w7⟩:=hN yG H7 n7;refine⟨m',hm,i+1,yG,H7,I7.qa,T.keep _ _ _ Mo fun b hb o e=>(I7.pin (b,o) (List.mem_append_right _ (List.mem_append_right _ (mn hb e)))).1,fun b hb=>?_,w7⟩
   obtain⟨o,e,d⟩:=T.obj _ _ Mo b hb;exact(I7.pin (b,o) (List.mem_append_right _ (List.mem_append_right _ (mn hb e)))).2.1
  cases f with
  | next=>obtain⟨yG,H7,I7,n7⟩:=q7;exact again I7 n7
  | cont=>obtain⟨yG,H7,I7,n7⟩:=q7;exact again I7 n7
  | brk=>obtain⟨yG,H7,I7,q7⟩:=q7;exact⟨yG,H7,I7.qa,q7⟩
  | ret v=>obtain⟨x7,yG,H7,I7,r7,q7⟩:=q7;exact⟨x7,yG,H7,I7.qa,r7,q7⟩
end
abbrev R2:=V->V->Hp->VK->Prop
def oI(X:Cx)(f:Value->Value->Sem Value)(r:R2):Prop:=
 ∀(pins:Y5) (s:Shared) (σ:St) (H:Hp) (x y:V) (v u:Value) (Q:VK),Inv X pins σ H s->RelV x v->RelV y u->r x y H Q->
  wpAny (model X.prog X.w) X.A (f v u) (EP X pins σ Q) X.xe s
def Qb(X:Cx)(f:Value->Sem Value)(r:V->Hp->VK->Prop):Prop:=
 ∀(pins:Y5) (s:Shared) (σ:St) (H:Hp) (x:V) (v:Value) (Q:VK),Inv X pins σ H s->RelV x v->r x H Q->
  wpAny (model X.prog X.w) X.A (f v) (EP X pins σ Q) X.xe s
def kf(X:Cx)(f:Value)(r:List V->Hp->VK->Prop):Prop:=
 ∀(pins:Y5) (s:Shared) (σ:St) (H:Hp) (xs:List V) (us:List Value) (Q:VK),Inv X pins σ H s->Vals xs us->r xs H Q->
  wpAny (model X.prog X.w) X.A (call f us) (EP X pins σ Q) X.xe s
def QG(X:Cx)(r:V->Hp->(Bool->Hp->Prop)->Prop):Prop:=
 ∀(pins:Y5) (s:Shared) (σ:St) (H:Hp) (x:V) (v:Value) (Q:Bool->Hp->Prop),Inv X pins σ H s->RelV x v->r x H Q->
  wpAny (model X.prog X.w) X.A (truthy v) (TP X pins σ Q) X.xe s
def MI(r:R2)(ta tb:TE):TE:=fun σ H Q=>ta σ H fun x H1=>tb σ H1 fun y H2=>r x y H2 Q
def WU(r:V->Hp->VK->Prop)(ta:TE):TE:=fun σ H Q=>ta σ H fun x H1=>r x H1 Q
def rI(C:Int->Int->Prop)(g:Int->Int->V):R2:=fun x y H Q=>∃i j,x= .int i/\y= .int j/\C i j/\Q (g i j) H
def Gf(g:Int->Int->V):R2:=fun x y H Q=>∃i j,x= .int i/\y= .int j/\Q (g i j) H
def rU(g:Int->V):V->Hp->VK->Prop:=fun x H Q=>∃i,x= .int i/\Q (g i) H
section
variable {X:Cx} {a b c:Expr} {ta tb tc:TE} {pos:Pos}
theorem Ld(ha:PE X a ta)(hb:PE X b tb){pins:Y5}{s:Shared}{σ:St}{H:Hp}{R:V->V->Hp->Prop}(I:Inv X pins σ H s)
 (h:ta σ H fun x H1=>tb σ H1 fun y H2=>R x y H2) {Q:Y6} {f:Value->Value->Sem Value}
 (hf:∀v u s2 x y H2,Inv X pins σ H2 s2->RelV x v->RelV y u->R x y H2->wpAny (model X.prog X.w) X.A (f v u) Q X.xe s2) :
 wpAny (model X.prog X.w) X.A (eval a X.env) (fun v s₁=>wpAny (model X.prog X.w) X.A (eval b X.env) (fun u uL=>wpAny (model X.prog X.w) X.A (f v u) Q X.xe uL) X.xe s₁) X.xe s:=by
 refine cJ (ha pins s σ H _ I h) fun v s1 ⟨x,H1,I1,r1,q1⟩=>?_
 refine cJ (hb pins s1 σ H1 _ I1 q1) fun u s2 ⟨y,H2,I2,r2,q2⟩=>?_
 exact hf v u s2 x y H2 I2 r1 r2 q2
theorem IW{op:Operator}{r:R2}(ho:oI X (binaryOp op) r)(ha:PE X a ta)(hb:PE X b tb):PE X (.BinOp a op b pos) (MI r ta tb):=by
 intro pins s σ H Q I h;exact wpAny_BinOp (Ld ha hb I h fun v u s2 x y H2 I2 rx ry q=>ho pins s2 σ H2 x y v u Q I2 rx ry q)
theorem Nx{op:UnaryOp}{r:V->Hp->VK->Prop}(ho:Qb X (unaryOp op) r)(ha:PE X a ta):PE X (.UnaryOp op a pos) (WU r ta):=by
 intro pins s σ H Q I h;exact UnaryOp_ (cJ (ha pins s σ H _ I h) fun v s1 ⟨x,H1,I1,r1,q1⟩=>ho pins s1 σ H1 x v Q I1 r1 q1)
theorem OC{f:Value->Value->Sem Value}{C:Int->Int->Prop}{g:Int->Int->Int}
 (rule:∀(i j:Int) (t u:Tok) (s:Shared) (Q:Y6) (E:Y6),C i j->Q (.int (g i j) s.toks) {s with toks:=s.toks+1}->wpAny (model X.prog X.w) X.A (f (.int i t) (.int j u)) Q E s) :
 oI X f (rI C fun i j=> .int (g i j)):=by
 intro pins s σ H x y v u Q I rx ry h;obtain⟨i,j,rfl,rfl,hc,q⟩:=h;obtain⟨t,rfl⟩:=rx;obtain⟨t',rfl⟩:=ry;exact rule i j t t' s _ _ hc ⟨.int (g i j),H,I.tok _,⟨_,rfl⟩,q⟩
theorem NG{f:Value->Value->Sem Value}{g:Int->Int->Int}
 (rule:∀(i j:Int) (t u:Tok) (s:Shared) (Q:Y6) (E:Y6),Q (.int (g i j) s.toks) {s with toks:=s.toks+1}->wpAny (model X.prog X.w) X.A (f (.int i t) (.int j u)) Q E s) :
 oI X f (Gf fun i j=> .int (g i j)):=by
 intro pins s σ H x y v u Q I rx ry h;obtain⟨i,j,rfl,rfl,q⟩:=h;obtain⟨t,rfl⟩:=rx;obtain⟨t',rfl⟩:=ry;exact rule i j t t' s _ _ ⟨.int (g i j),H,I.tok _,⟨_,rfl⟩,q⟩
theorem HF{f:Value->Value->Sem Value}{g:Int->Int->Bool}
 (rule:∀(i j:Int) (t u:Tok) (s:Shared) (Q:Y6) (E:Y6),Q (.bool (g i j)) s->wpAny (model X.prog X.w) X.A (f (.int i t) (.int j u)) Q E s) :
 oI X f (Gf fun i j=> .bl (g i j)):=by
 intro pins s σ H x y v u Q I rx ry h;obtain⟨i,j,rfl,rfl,q⟩:=h;obtain⟨t,rfl⟩:=rx;obtain⟨t',rfl⟩:=ry;exact rule i j t t' s _ _ ⟨.bl (g i j),H,I,rfl,q⟩
def Qu(i j:Int):Prop:=0 < j/\j < 1073741824
def TQ(i j:Int):Prop:=j≠0/\j.natAbs < 1073741824
def Qz(i j:Int):Prop:=0<=j/\j<=1000000/\i.natAbs < 2 ^ 64
def Lk(i j:Int):Prop:=(-(2 ^ 64) < i/\i < 2 ^ 64)\/(-(2 ^ 64) < j/\j < 2 ^ 64)
theorem Lk.ok{i j:Int}(h:Lk i j):IntMulOk i j:=by
 rcases h with⟨h1,h2⟩ | ⟨h1,h2⟩
 .exact .of_left (intBits_le_64 h1 h2)
 .exact .of_right (intBits_le_64 h1 h2)
theorem zk(k:Nat):(0:Int)<=2 ^ k:=by
 rw[two_pow_cast];exact Int.natCast_nonneg _
theorem JY:oI X (binaryOp .Add) (Gf fun i j=> .int (i+j)):=NG fun _ _ _ _ _ _ _ q=>add_int q
theorem JP:oI X (binaryOp .Sub) (Gf fun i j=> .int (i - j)):=NG fun _ _ _ _ _ _ _ q=>sub_int q
theorem LF:oI X (binaryOp .Mult) (rI Lk fun i j=> .int (i*j)):=OC fun _ _ _ _ _ _ _ hc q=>mul_int q hc.ok
theorem Hb:oI X (binaryOp .FloorDiv) (rI Qu fun i j=> .int (i / j)):=OC fun i j _ _ _ _ _ hc q=>by
 have h1:(0:Int) < j:=hc.1;have h2:j < 1073741824:=hc.2;exact floordiv_int (by omega) (by rw[Int.fdiv_eq_ediv_of_nonneg i (by omega)];exact q) (.inl (PyProof.noPylong_small (by omega)))
theorem Li:oI X (binaryOp .Mod) (rI (fun _ j=>0 < j) fun i j=> .int (i % j)):=OC fun i j _ _ _ _ _ hc q=>by
 have h1:(0:Int) < j:=hc;exact mod_int' (by omega) (by rw[Int.fmod_eq_emod_of_nonneg i (by omega)];exact q)
theorem Kh:oI X (binaryOp .Pow) (rI Qz fun i j=> .int (i ^ j.toNat)):=OC fun _ _ _ _ _ _ _ hc q=>pow_int_small hc.1 hc.2.1 hc.2.2 q
theorem Kq:oI X (binaryOp .RShift) (rI (fun _ j=>0<=j) fun i j=> .int (i / 2 ^ j.toNat)):=OC fun i j _ _ _ _ _ hc q=>
 rshift_int hc (by rw[Int.fdiv_eq_ediv_of_nonneg i (zk _)];exact q)
theorem WX{f:Value->Sem Value}{g:Int->Int}
 (rule:∀(i:Int) (t:Tok) (s:Shared) (Q:Y6) (E:Y6),Q (.int (g i) s.toks) {s with toks:=s.toks+1}->wpAny (model X.prog X.w) X.A (f (.int i t)) Q E s) :
 Qb X f (rU fun i=> .int (g i)):=by
 intro pins s σ H x v Q I rx h;obtain⟨i,rfl,q⟩:=h;obtain⟨t,rfl⟩:=rx;exact rule i t s _ _ ⟨.int (g i),H,I.tok _,⟨_,rfl⟩,q⟩
theorem Ko:Qb X (unaryOp .USub) (rU fun i=> .int (-i)):=WX fun _ _ _ _ _ q=>neg_int q
end
def NI:V->V->Bool
 | .cD, .cD=>true | .cD, .int _=>true | .int _, .cD=>true | .cD, .bl _=>true | .bl _, .cD=>true | .cD, .str _=>true | .str _, .cD=>true
 | .int _, .int _=>true | .bl _, .bl _=>true | .str _, .str _=>true | .byt _, .byt _=>true
 | .int _, .str _=>true | .str _, .int _=>true | .bl _, .str _=>true | .str _, .bl _=>true
 | _,_=>false
def Wk:R2:=fun x y H Q=>NI x y=true/\Q (.bl (decide (x=y))) H
def WZ:R2:=fun x y H Q=>NI x y=true/\Q (.bl (!decide (x=y))) H
theorem AU{i j:Int}:decide (V.int i=V.int j)=(i==j):=by
 rw[Bool.eq_iff_iff];simp
theorem FC{i j:Bool}:decide (V.bl i=V.bl j)=(i==j):=by
 rw[Bool.eq_iff_iff];simp
theorem Ay:decide (V.str i=V.str j)=(i==j):=by
 rw[Bool.eq_iff_iff];simp
theorem AL{i j:Array UInt8}:decide (V.byt i=V.byt j)=(i.toList==j.toList):=by
 rw[Bool.eq_iff_iff];cases i;cases j;simp
section
variable {X:Cx} {a b c:Expr} {ta tb tc:TE} {pos:Pos}
theorem bM{pins:Y5}{s:Shared}{Q:VK}{k k':Bool}(I:Inv X pins σ H s)(q:Q (.bl k) H)(e:k=k'):EP X pins σ Q (.bool k') s:=by
 subst e;exact⟨.bl k,H,I,rfl,q⟩
theorem Eh:oI X (compareOp .Eq) Wk:=by
 intro pins s σ H x y v u Q I rx ry h;obtain⟨hs,q⟩:=h;cases x with
 | cD=>
   cases rx;cases y with
   | cD=>cases ry;exact PySem.EqNone.eq_none_none (bM I q (by simp))
   | bl j=>cases ry;exact PySem.EqNone.eq_none_bool (bM I q (by simp))
   | int j=>obtain⟨t',rfl⟩:=ry;exact PySem.EqNone.eq_none_int (bM I q (by simp))
   | str j=>obtain⟨t',rfl⟩:=ry;exact PySem.EqNone.eq_none_str (bM I q (by simp))
   | _=>exact absurd (show false=true from hs) Bool.false_ne_true
 | bl i=>
   cases rx;cases y with
   | cD=>cases ry;exact PySem.EqNone.eq_bool_none (bM I q (by simp))
   | bl j=>cases ry;exact eq_bool (bM I q FC)
   | str j=>obtain⟨t',rfl⟩:=ry;exact PySem.EqMixed.eq_bool_str (bM I q (by simp))
   | _=>exact absurd (show false=true from hs) Bool.false_ne_true
 | int i=>
   obtain⟨t,rfl⟩:=rx;cases y with
   | cD=>cases ry;exact PySem.EqNone.eq_int_none (bM I q (by simp))
   | int j=>obtain⟨t',rfl⟩:=ry;exact eq_int (bM I q AU)
   | str j=>obtain⟨t',rfl⟩:=ry;exact PySem.EqMixed.eq_int_str (bM I q (by simp))
   | _=>exact absurd (show false=true from hs) Bool.false_ne_true
 | str i=>
   obtain⟨t,rfl⟩:=rx;cases y with
   | cD=>cases ry;exact PySem.EqNone.eq_str_none (bM I q (by simp))
   | bl j=>cases ry;exact PySem.EqMixed.eq_str_bool (bM I q (by simp))
   | int j=>obtain⟨t',rfl⟩:=ry;exact PySem.EqMixed.eq_str_int (bM I q (by simp))
   | str j=>obtain⟨t',rfl⟩:=ry;exact eq_str (bM I q Ay)
   | _=>exact absurd (show false=true from hs) Bool.false_ne_true
 | byt i=>
   obtain⟨t,rfl⟩:=rx;cases y with
   | byt j=>obtain⟨t',rfl⟩:=ry;exact PySem.W.eq_bytes (bM I q AL)
   | _=>exact absurd (show false=true from hs) Bool.false_ne_true
 | _=>cases y <;> exact absurd (show false=true from hs) Bool.false_ne_true
theorem Fd:oI X (compareOp .NotEq) WZ:=by
 intro pins s σ H x y v u Q I rx ry h;obtain⟨hs,q⟩:=h;cases x with
 | cD=>
   cases rx;cases y with
   | cD=>cases ry;exact PySem.EqNone.ne_none_none (bM I q (by simp))
   | bl j=>cases ry;exact PySem.EqNone.ne_none_bool (bM I q (by simp))
   | int j=>obtain⟨t',rfl⟩:=ry;exact PySem.EqNone.ne_none_int (bM I q (by simp))
   | str j=>obtain⟨t',rfl⟩:=ry;exact PySem.EqNone.ne_none_str (bM I q (by simp))
   | _=>exact absurd (show false=true from hs) Bool.false_ne_true
 | bl i=>
   cases rx;cases y with
   | cD=>cases ry;exact PySem.EqNone.ne_bool_none (bM I q (by simp))
   | bl j=>cases ry;exact ne_bool (bM I q (congrArg not FC))
   | str j=>obtain⟨t',rfl⟩:=ry;exact PySem.EqMixed.ne_bool_str (bM I q (by simp))
   | _=>exact absurd (show false=true from hs) Bool.false_ne_true
 | int i=>
   obtain⟨t,rfl⟩:=rx;cases y with
   | cD=>cases ry;exact PySem.EqNone.ne_int_none (bM I q (by simp))
   | int j=>obtain⟨t',rfl⟩:=ry;exact ne_int (bM I q (congrArg not AU))
   | str j=>obtain⟨t',rfl⟩:=ry;exact PySem.EqMixed.ne_int_str (bM I q (by simp))
   | _=>exact absurd (show false=true from hs) Bool.false_ne_true
 | str i=>
   obtain⟨t,rfl⟩:=rx;cases y with
   | cD=>cases ry;exact PySem.EqNone.ne_str_none (bM I q (by simp))
   | bl j=>cases ry;exact PySem.EqMixed.ne_str_bool (bM I q (by simp))
   | int j=>obtain⟨t',rfl⟩:=ry;exact PySem.EqMixed.ne_str_int (bM I q (by simp))
   | str j=>obtain⟨t',rfl⟩:=ry;exact ne_str (bM I q (congrArg not Ay))
   | _=>exact absurd (show false=true from hs) Bool.false_ne_true
 | byt i=>
   obtain⟨t,rfl⟩:=rx;cases y with
   | byt j=>obtain⟨t',rfl⟩:=ry;exact PySem.W.ne_bytes (bM I q (congrArg not AL))
   | _=>exact absurd (show false=true from hs) Bool.false_ne_true
 | _=>cases y <;> exact absurd (show false=true from hs) Bool.false_ne_true
theorem Nk:oI X (compareOp .Lt) (Gf fun i j=> .bl (decide (i < j))):=HF fun _ _ _ _ _ _ _ q=>lt_int q
theorem ND:oI X (compareOp .LtE) (Gf fun i j=> .bl (decide (i<=j))):=HF fun _ _ _ _ _ _ _ q=>le_int q
theorem MV:oI X (compareOp .Gt) (Gf fun i j=> .bl (decide (j < i))):=HF fun _ _ _ _ _ _ _ q=>gt_int q
theorem Ny:oI X (compareOp .GtE) (Gf fun i j=> .bl (decide (j<=i))):=HF fun _ _ _ _ _ _ _ q=>ge_int q
theorem B4:oI X (compareOp .In) (fun x y H Q=>∃i j,x= .str i/\y= .str j/\Q (.bl (!(Builtin.Str.occurrences j i 0 j.length 1).isEmpty)) H):=by
 intro pins s σ H x y v u Q I rx ry h;obtain⟨i,j,rfl,rfl,q⟩:=h;obtain⟨t,rfl⟩:=rx;obtain⟨t',rfl⟩:=ry;exact in_str (bM I q rfl)
theorem vB:oI X (compareOp .NotIn) (fun x y H Q=>∃i j,x= .str i/\y= .str j/\Q (.bl (!(!(Builtin.Str.occurrences j i 0 j.length 1).isEmpty))) H):=by
 intro pins s σ H x y v u Q I rx ry h;obtain⟨i,j,rfl,rfl,q⟩:=h;obtain⟨t,rfl⟩:=rx;obtain⟨t',rfl⟩:=ry;exact notIn_str (bM I q rfl)
def isObj:HO->Bool
 | .lst _=>true
 | .ins _ _ _=>true
 | _=>false
theorem bo(b:Expr){op:CmpOp}(h:op≠ .In:=by decide)(h2:op≠ .NotIn:=by decide):behindInMarks op b=false:=by
 have e1:(op==CmpOp.In)=false:=by cases op <;> first | rfl | exact absurd rfl h
 have e2:(op==CmpOp.NotIn)=false:=by cases op <;> first | rfl | exact absurd rfl h2
 cases b <;> simp [behindInMarks,e1,e2]
theorem A0{op:CmpOp}{r:R2}(ho:oI X (compareOp op) r)(ha:PE X a ta)(hb:PE X b tb)(hm:behindInMarks op b=false):PE X (.Compare a [op] [b] pos) (MI r ta tb):=by
 intro pins s σ H Q I h;exact wpAny_Compare1 (Ld ha hb I h fun v u s2 x y H2 I2 rx ry q=>ho pins s2 σ H2 x y v u Q I2 rx ry q) hm
def Nq(t:TE):TT:=fun σ H Q=>t σ H fun x H'=>∃k,x= .bl k/\Q k H'
theorem Bj{op:CmpOp}{r:R2}(ho:oI X (compareOp op) r)(ha:PE X a ta)(hb:PE X b tb)(hm:behindInMarks op b=false):PT X (.Compare a [op] [b] pos) (Nq (MI r ta tb)):=by
 intro pins s σ H Q I h;refine wpAny_isTrue_Compare1 (cJ (ha pins s σ H _ I h) fun v s1 ⟨x,H1,I1,r1,q1⟩=>cJ (hb pins s1 σ H1 _ I1 q1) fun u s2 ⟨y,H2,I2,r2,q2⟩=>
  cJ (ho pins s2 σ H2 x y v u _ I2 r1 r2 q2) fun c s3 ⟨z,H3,I3,r3,k,e,q3⟩=>?_) hm
 subst e;cases r3;exact wpAny_truthy_bool ⟨H3,I3,q3⟩
def PR(r r':R2)(ta tb tc:TE):TE:=fun σ H Q=>ta σ H fun x H1=>tb σ H1 fun y H2=>r x y H2 fun z H3=>∃k,z= .bl k/\
 (if k=true then tc σ H3 fun w' H4=>r' y w' H4 Q else Q (.bl false) H3)
def K0(K:W.Frag)(x:V)(H:Hp)(k:Bool):Prop:=
 match x with
 | .cD=>k=false
 | .bl b=>k=b
 | .int i=>k=(i !=0)
 | .str y=>y.length<=sizeLine/\k=((y.length:Int) !=0)
 | .byt y=>y.size<=sizeLine/\k=((y.size:Int) !=0)
 | .ref p=>(∃xs,oz K H p xs/\k=!xs.isEmpty)\/(∃xs,q9 K H p xs/\k=!xs.isEmpty)\/∃aw,H p=some (.dK aw)/\k=!aw.isEmpty
 | _=>False
theorem zf{κ:Type}{aw:List (κ × V)}{vs:List (κ × Value)}(r:KV aw vs):(!vs.isEmpty)=!aw.isEmpty:=by
 cases r <;> rfl
theorem sV{xs:List V}{its:List Value}(r:Vals xs its):(!its.toArray.isEmpty)=!xs.isEmpty:=by
 cases r <;> simp
theorem qO:(sizeLine:Nat) < 2 ^ 63:=by rw[sizeLine_eq];decide
theorem KA:QG X (fun x H Q=>∃k,K0 X.K x H k/\Q k H):=by
 intro pins s σ H x v Q I rx h;obtain⟨k,e,q⟩:=h;have hl:=qO;have hs:sizeLine=16777216:=sizeLine_eq;cases x with
 | cD=>
   cases rx;have e':k=false:=e;subst e';exact truthy_none ⟨H,I,q⟩
 | bl b=>
   cases rx;have e':k=b:=e;subst e';exact wpAny_truthy_bool ⟨H,I,q⟩
 | int i=>
   obtain⟨t,rfl⟩:=rx;have e':k=(i !=0):=e;subst e';exact PySem.P.truthy_int ⟨H,I,q⟩
 | str y=>
   obtain⟨t,rfl⟩:=rx;obtain⟨hy,e'⟩:y.length<=sizeLine/\k=((y.length:Int) !=0):=e;subst e';exact PySem.P.truthy_str (by omega) ⟨H,I.tok _,q⟩
 | byt y=>
   obtain⟨t,rfl⟩:=rx;obtain⟨hy,e'⟩:y.size<=sizeLine/\k=((y.size:Int) !=0):=e;subst e';exact PySem.W.truthy_bytes (by omega) ⟨H,I.tok _,q⟩
 | ref p=>
   cases rx;have e':(∃xs,oz X.K H p xs/\k=!xs.isEmpty)\/(∃xs,q9 X.K H p xs/\k=!xs.isEmpty)\/∃aw,H p=some (.dK aw)/\k=!aw.isEmpty:=e;rcases e' with⟨xs,hx,e'⟩ | ⟨xs,hx,e'⟩ | ⟨aw,hx,e'⟩
   .subst e';obtain⟨its,r,pl,hz⟩:=I.list hx;have hlen:=r.length;exact wpAny_truthy_list pl.isList (by simp only[List.size_toArray];omega) ⟨H,I.tok _,by rw[sV r];exact q⟩
   .subst e';obtain⟨its,r,pl,hz⟩:=I.tuple hx;have hlen:=r.length;exact truthy_tuple pl (by simp only[List.size_toArray];omega) ⟨H,I.tok _,by rw[sV r];exact q⟩
   .subst e';obtain⟨hz,hS,vs,r,m⟩:aw.length<=sizeLine/\(p==sysModules)=false/\∃vs,KV aw vs/\s.heap.DictOf (cK X.prog X.w) p vs:=I.hok p _ hx;have hlen:aw.length=vs.length:=Paired.length r;exact wpAny_truthy_dict hS m (by omega) ⟨H,I.tok _,by rw[zf r];exact q⟩
 | _=>exact(show False from e).elim
theorem x5(ha:PE X a ta)(he:∀whole,isTrue a X.env whole=(do let v <-whole;standAt a.pos;holding [v] (truthy v))) :
 PT X a (fun σ H Q=>ta σ H fun x H'=>∃k,K0 X.K x H' k/\Q k H'):=by
 intro pins s σ H Q I h;exact isTrue_plain (cJ (ha pins s σ H _ I h) fun v s1 ⟨x,H1,I1,r1,q1⟩=>KA pins s1 σ H1 x v Q I1 r1 q1) (he _)
theorem zD:oI X (binaryOp .Add) (fun x y H Q=>∃i j,x= .str i/\y= .str j/\i.length+j.length<=sizeLine/\Q (.str (i++j)) H):=by
 intro pins s σ H x y v u Q I rx ry h;obtain⟨i,j,rfl,rfl,hz,q⟩:=h;obtain⟨t,rfl⟩:=rx;obtain⟨t',rfl⟩:=ry;exact add_str (fun t' tk=>⟨.str (i++j),H,I.tok _,⟨_,rfl⟩,q⟩) hz
def N4(b:Expr):Prop:=∀o i,subscripted b false o i=operate [o,i] (getItem o i)
theorem vals1{x:V}{us:List Value}(r:Vals [x] us):∃u,us=[u]/\RelV x u:=by
 cases r with
 | cons r1 r2=>cases r2;exact⟨_,rfl,r1⟩
theorem vals2{x y:V}{us:List Value}(r:Vals [x,y] us):∃u w',us=[u,w']/\RelV x u/\RelV y w':=by
 cases r with
 | cons r1 r2=>
   cases r2 with
   | cons r3 r4=>cases r4;exact⟨_,_,rfl,r1,r3⟩
theorem BC:kf X (.type "int") (fun xs H Q=>(∃i,xs=[.int i]/\Q (.int i) H)\/∃k,xs=[.bl k]/\Q (.int (if k then 1 else 0)) H):=by
 intro pins s σ H xs us Q I r h;rcases h with⟨i,rfl,q⟩ | ⟨k,rfl,q⟩
 .obtain⟨u,rfl,t,rfl⟩:=vals1 r;exact call_int_int ⟨.int i,H,I,⟨_,rfl⟩,q⟩
 .obtain⟨u,rfl,r1⟩:=vals1 r;cases r1;exact call_int_bool ⟨.int (if k then 1 else 0),H,I.tok _,⟨_,rfl⟩,q⟩
theorem wI:kf X (.type "str") (fun xs H Q=>∃i,xs=[.int i]/\i.natAbs.log2 < 1920/\Q (.str (toString i)) H):=by
 intro pins s σ H xs us Q I r h;obtain⟨i,rfl,hz,q⟩:=h;obtain⟨u,rfl,t,rfl⟩:=vals1 r;exact PySem.P.str_of_int hz ⟨.str _,H,I.tok _,⟨_,rfl⟩,q⟩
def P6(K:W.Frag)(x:V)(H:Hp)(n:Nat):Prop:=
 match x with
 | .str y=>y.length<=sizeLine/\n=y.length
 | .byt y=>y.size<=sizeLine/\n=y.size
 | .ref p=>(∃xs,oz K H p xs/\n=xs.length)\/∃xs,q9 K H p xs/\n=xs.length
 | _=>False
theorem DA:kf X (.builtin "len") (fun xs H Q=>∃x n,xs=[x]/\P6 X.K x H n/\Q (.int n) H):=by
 intro pins s σ H xs us Q I r h;obtain⟨x,n,rfl,e,q⟩:=h;obtain⟨u,rfl,rx⟩:=vals1 r;have hl:=qO;have hs:sizeLine=16777216:=sizeLine_eq;cases x with
 | str y=>
   obtain⟨t,rfl⟩:=rx;obtain⟨hy,e'⟩:y.length<=sizeLine/\n=y.length:=e;subst e';exact len_str (by omega) ⟨.int _,H,I.tok _,⟨_,rfl⟩,q⟩
 | byt y=>
   obtain⟨t,rfl⟩:=rx;obtain⟨hy,e'⟩:y.size<=sizeLine/\n=y.size:=e;subst e';exact PySem.W.len_bytes (by omega) ⟨.int _,H,I.tok _,⟨_,rfl⟩,q⟩
 | ref p=>
   cases rx;have e':(∃xs,oz X.K H p xs/\n=xs.length)\/∃xs,q9 X.K H p xs/\n=xs.length:=e;rcases e' with⟨xs,hx,e'⟩ | ⟨xs,hx,e'⟩
   .subst e';obtain⟨its,r',pl,hz⟩:=I.list hx;have hlen:=r'.length;exact Calls.call_len_list pl.isList (by simp only[List.size_toArray];omega) ⟨.int xs.length,H,I.tok _,⟨_,by simp only[List.size_toArray];rw [hlen]⟩,q⟩
   .subst e';obtain⟨its,r',pl,hz⟩:=I.tuple hx;have hlen:=r'.length;exact len_tuple pl (by simp only[List.size_toArray];omega) ⟨.int xs.length,H,I.tok _,⟨_,by simp only[List.size_toArray];rw [hlen]⟩,q⟩
 | _=>exact(show False from e).elim
end
structure zm (h:Heap) (x dx C:Addr) (mA:Y_):Prop where
 obj:h.get? x=some (PySem.W.instObj C dx)
 ns:h.Ns1 dx mA
 ne:dx≠x
theorem Cj{h:Heap}{dx:Addr}{mA:Y_}(n:h.Ns1 dx mA):∃od,h.get? dx=some od/\∀name,PySem.W.lookIn name od=some (mA name):=by
 obtain⟨o,es,ep,ho,hd,hk,_,hm⟩:=n;refine⟨o,ho,fun name=>?_⟩
 have e:=hm name;unfold nsFind findBy at e;rw[<-Array.find?_toList] at e;unfold PySem.W.lookIn;rw[hd];dsimp only;split
 .rename_i y q;rw[q] at e;exact congrArg some e
 .rename_i q;rw[q] at e;have a:es.toList.any (·.refKey)=false:=by
   rw[List.any_eq_false];intro y hy;obtain⟨z,t,hkey⟩:=hk y (Array.mem_toList_iff.mp hy);simp [DictEntry.refKey,hkey]
  have a':¬es.toList.any (·.refKey)=true:=by rw[a];exact Bool.false_ne_true
  rw[if_neg a'];exact congrArg some e
theorem zm.look{x dx C:Addr}{mA:Y_}(I:zm h x dx C mA):∃od,PySem.W.InstAt h x (PySem.W.instObj C dx) C (some od)/\∀name,PySem.W.lookIn name od=some (mA name):=
 let⟨od,ho,hl⟩:=Cj I.ns
 ⟨od,⟨I.obj,rfl,rfl,ho⟩,hl⟩
section
variable {prog:Program} {w:World} {A:Around} {E:Y6} {s:Shared} {K:W.Frag} {x dx C f:Addr} {mA:Y_} {name:Str} {v:Value}
theorem get_map{expr:Bool}{Q:Y6}(X:K.In s.heap)(I:zm s.heap x dx C mA)(hg:PySem.W.plainGet K C name=true)(hh:PySem.W.hasDictIn K C=true)
 (ha:PySem.W.findIn K (.ref C) name=some none) (hv:mA name=some v) (W5:PySem.W.handedIn v=true) (h:Q v {s with toks:=s.toks+1}) :
 wpAny (model prog w) A (getAttr (.ref x) name expr) Q E s:=by
 obtain⟨od,J,hl⟩:=I.look;exact PySem.W.get_value X J (PySem.W.plainGet_of hg).1 (PySem.W.findObj_own hh ha rfl (by rw[hl,hv])) W5 h
theorem EH{pl:Sem Bool}{Q:Value × List Value->Shared->Prop}(X:K.In s.heap)(I:zm s.heap x dx C mA)(hg:PySem.W.plainGet K C name=true)
 (hf:PySem.W.findIn K (.ref C) name=some (some (.ref f))) (ht:PySem.W.isFn K (.ref f)=true) (hv:mA name=none) (h:Q (.ref f,[.ref x]) s) :
 wpAny (model prog w) A (getMethod (.ref x) name pl) Q E s:=by
 obtain⟨od,J,hl⟩:=I.look;exact PySem.W.method_fn X J (PySem.W.plainGet_of hg).1 (PySem.W.plainGet_of hg).2 hf (beq_iff_eq.mp ht) (by show(PySem.W.lookIn name od).map (·.isSome)=some false;rw [hl,hv];rfl) h
theorem H_{ns:List Str}{Q:Unit->Shared->Prop}(X:K.In s.heap)(I:zm s.heap x dx C mA)
 (hs:PySem.W.findIn K (.ref C) "__setattr__"=some (some (.builtin "object.__setattr__"))) (hp:PySem.W.plainOver K C=true) (ht:PySem.W.takerIn K C name=some none) (hh:PySem.W.hasDictIn K C=true)
 (hw:PySem.Within mA ns) (hsz:ns.length<=sizeLine)
 (h:∀h',zm h' x dx C (fun y=>if y=name then some v else mA y)->Heap.SameBut dx s.heap h'->Q () {s with heap:=h',toks:=s.toks+2}) :
 wpAny (model prog w) A (setAttr (.ref x) name v) Q E s:=by
 obtain⟨od,J,hl⟩:=I.look;refine PySem.W.set_plain X J hs (PySem.W.osa_open (s:={s with toks:=s.toks+1}) (r:=none) X J hp ht fun b=>?_)
 obtain⟨cd,hc,MS⟩:=PySem.W.any_some hh;have hx:s.heap.get? x=some ⟨.ref C,some dx, .plain,#[]⟩:=I.obj;refine wpAny_bind (wpAny_pure (wpAny_bind (wpAny_bind (wpAny_loadPart hx (wpAny_bind (PySem.W.Looks.here (s:={s with toks:=s.toks+1}) (PySem.W.looks_clsIn X hc) ?_))))))
 rw[MS];refine wpAny_pure (a:=some dx) (wpAny_bind (wpAny_pure (wpAny_bind ?_)));refine wpAny_nsSet1 (s:={s with toks:=s.toks+1}) I.ns fun h' Pm Pq=>?_
 obtain⟨oD,esD,epD,hoD,hdD,hcD⟩:=Pm.count (PySem.Within.cons name v hw);refine wpAny_bind (wpAny_lookBehind hoD (by rw[hdD];exact pastItsLine_dict (Nat.le_trans hcD (by rw[List.length_cons];omega))) ?_)
 exact wpAny_pure (h _ ⟨(Pq.2 _ (Ne.symm I.ne)).trans I.obj,Pm,I.ne⟩ Pq)
theorem Dn{R:Result->Shared->Prop}{vs:List Value}{kw:List (Str × Value)}(X:K.In s.heap)(hm:PySem.W.makesIn K C=true)
 (hi:PySem.W.findIn K (.ref C) "__init__"=some (some (.ref f))) (hf:PySem.W.typeIn K (.ref f)=some (.type "function"))
 (h:codeAny (model prog w) (A.under (.builtin "type.__call__" ⟨.ref C ::vs,kw⟩)) (.call (.ref f) ⟨.ref (s.heap.objs.size+1) ::vs,kw⟩) (PySem.W.InitBack (s.heap.objs.size+1) R)
   {s with heap:=(s.heap.push PySem.W.emptyDict).push (PySem.W.instObj C s.heap.objs.size)}) :
 codeAny (model prog w) A (.call (.ref C) ⟨vs,kw⟩) R s:=by
 obtain⟨hh,g,d,t,os⟩:=s;exact PySem.W.make_core (PySem.W.makes_of X hm) (PySem.W.looks_findIn X hi) (fun self=>PySem.W.bind_fn X self hf) (.inl rfl) h
end
def k_(f:Str)(v:V):List (Str × V)->List (Str × V)
 | []=>[(f,v)]
 | (g,x) ::r=>if g=f then(g,v) ::r else(g,x) ::k_ f v r
theorem rD(f g:Str)(v:V):∀fs:List (Str × V),(k_ f v fs).lookup g=if g=f then some v else fs.lookup g
 | []=>by
   show List.lookup g [(f,v)]=_;by_cases h:g=f
   .have hb:(g==f)=true:=beq_iff_eq.mpr h;simp only[List.lookup,hb,if_pos h]
   .have hb:(g==f)=false:=beq_eq_false_iff_ne.mpr h;simp only[List.lookup,hb,if_neg h]
 | (k,x) ::r=>by
   have ih:=rD f g v r;rw[show k_ f v ((k,x) ::r)=(if k=f then(k,v) ::r else(k,x) ::k_ f v r) from rfl]
   by_cases hk:k=f
   .rw [if_pos hk];by_cases h:g=k
    .have hb:(g==k)=true:=beq_iff_eq.mpr h;simp only[List.lookup,hb,if_pos (h.trans hk)]
    .have hb:(g==k)=false:=beq_eq_false_iff_ne.mpr h;simp only[List.lookup,hb,if_neg (fun e:g=f=>h (e.trans hk.symm))]
   .rw [if_neg hk];by_cases h:g=k
    .have hb:(g==k)=true:=beq_iff_eq.mpr h;simp only[List.lookup,hb,if_neg (fun e:g=f=>hk (h.symm.trans e))]
    .have hb:(g==k)=false:=beq_eq_false_iff_ne.mpr h;simp only[List.lookup,hb];exact ih
theorem qZ(f:Str)(v:V):∀fs:List (Str × V),f∈(k_ f v fs).map (·.1)/\∀g,g∈fs.map (·.1)->g∈(k_ f v fs).map (·.1)
 | []=>⟨by simp [k_],fun g h=>by simp at h⟩
 | (k,x) ::r=>by
   obtain⟨i1,i2⟩:=qZ f v r;rw[show k_ f v ((k,x) ::r)=(if k=f then(k,v) ::r else(k,x) ::k_ f v r) from rfl]
   by_cases hk:k=f
   .rw [if_pos hk];subst hk;exact⟨by simp,fun g h=>by simpa using h⟩
   .rw [if_neg hk];refine⟨?_,fun g h=>?_⟩
    .rw [List.map_cons];exact List.mem_cons_of_mem _ i1
    .rw [List.map_cons] at h ⊢;rcases List.mem_cons.mp h with e | e
     .exact List.mem_cons.mpr (.inl e)
     .exact List.mem_cons_of_mem _ (i2 g e)
theorem rq(f:Str)(v:V):∀fs:List (Str × V),(k_ f v fs).length<=fs.length+1
 | []=>by simp [k_]
 | (k,x) ::r=>by
   have ih:=rq f v r;rw[show k_ f v ((k,x) ::r)=(if k=f then(k,v) ::r else(k,x) ::k_ f v r) from rfl]
   by_cases hk:k=f
   .rw [if_pos hk,List.length_cons,List.length_cons];omega
   .rw [if_neg hk,List.length_cons,List.length_cons];omega
theorem mw.some_of{v:V}{o:Option Value}(r:mw (some v) o):∃u,o=some u/\RelV v u:=by
 cases o with
 | none=>exact(show False from r).elim
 | some u=>exact⟨u,rfl,r⟩
theorem mw.none_of{o:Option Value}(r:mw none o):o=none:=by
 cases o with
 | none=>rfl
 | some u=>exact(show False from r).elim
theorem Cq{v:V}{u:Value}(r:RelV v u):PySem.W.handedIn u=true:=by
 cases v with
 | cD=>cases(show u=Value.none from r);rfl
 | bl b=>cases(show u=Value.bool b from r);rfl
 | int i=>obtain⟨t,e⟩:=(show ∃t,u=Value.int i t from r);cases e;rfl
 | str x=>obtain⟨t,e⟩:=(show ∃t,u=Value.str x t from r);cases e;rfl
 | byt b=>obtain⟨t,e⟩:=(show ∃t,u=Value.bytes b t from r);cases e;rfl
 | flt b=>obtain⟨t,e⟩:=(show ∃t,u=Value.float b t from r);cases e;rfl
 | ref a=>cases(show u=Value.ref a from r);rfl
 | ty n=>cases(show u=Value.type n from r);rfl
section
variable {P:Program} {w:World} {H H':Hp} {h h':Heap} {a C dx:Addr} {fs mY:List (Str × V)}
theorem wL(hok:mX P w H h)(e:H a=some (.ins C dx fs)):∃mA,zm h a dx C mA/\(∀f,mw (fs.lookup f) (mA f))/\PySem.Within mA (fs.map (·.1))/\fs.length<=1000/\H dx=some (.own a):=by
 obtain⟨d,z,ne,ob,mA,n,r,q⟩:=(show dP P w H h a (.ins C dx fs) from hok a _ e)
 exact⟨mA,⟨ob,n,ne⟩,r,q,z,d⟩
end
structure yd (K:W.Frag) (C:Addr):Prop where
 pg:PySem.W.plainGet K C Str.empty=true
 hd:PySem.W.hasDictIn K C=true
 po:PySem.W.plainOver K C=true
 sa:PySem.W.findIn K (.ref C) "__setattr__"=some (some (.builtin "object.__setattr__"))
theorem yd.get{K:W.Frag}{C:Addr}(c:yd K C)(f:Str):PySem.W.plainGet K C f=true:=c.pg
def cZ(K:W.Frag)(C:Addr)(f:Str):Prop:=PySem.W.findIn K (.ref C) f=some none
theorem cZ.M8{K:W.Frag}{C:Addr}(n:cZ K C f):PySem.W.takerIn K C f=some none:=by
 unfold PySem.W.takerIn;rw[show PySem.W.findIn K (.ref C) f=some none from n]
 rfl
structure Vp (K:W.Frag) (C:Addr) (f:Str) (v:V) (u:Value):Prop where
 at_:PySem.W.findIn K (.ref C) f=some (some u)
 rel:RelV v u
 get:PySem.W.specialIn K u "__get__"=some none
 cp:PySem.W.copiedNames.contains f=false
structure Meth (K:W.Frag) (C:Addr) (m:Str) (f:Addr):Prop where
 at_:PySem.W.findIn K (.ref C) m=some (some (.ref f))
 fn:PySem.W.isFn K (.ref f)=true
 kp:PySem.W.keepIn K (.ref f)=true
section
variable {X:Cx} {pins:Y5} {σ:St} {H:Hp} {s:Shared} {a C dx:Addr} {fs:List (Str × V)} {f:Str} {v:V} {A:Around} {E:Y6}
theorem zK{b:Bool}{Q:Y6}(I:Inv X pins σ H s)(e:H a=some (.ins C dx fs))(c:yd X.K C)(n:cZ X.K C f)(l:fs.lookup f=some v)
 (h:∀u s',Inv X pins σ H s'->RelV v u->Q u s'):wpAny (model X.prog X.w) A (getAttr (.ref a) f b) Q E s:=by
 obtain⟨mA,O,r,_,_,_⟩:=wL I.hok e;obtain⟨u,hu,ru⟩:=mw.some_of (v:=v) (o:=mA f) (by rw[<-l];exact r f)
 exact get_map I.vq O (c.get f) c.hd n hu (Cq ru) (h u _ (I.tok _) ru)
theorem zN{m:Str}{g:Addr}{pl:Sem Bool}{Q:Value × List Value->Shared->Prop}(I:Inv X pins σ H s)(e:H a=some (.ins C dx fs))(c:yd X.K C)(k:Meth X.K C m g)(l:fs.lookup m=none)
 (h:Q (.ref g,[.ref a]) s):wpAny (model X.prog X.w) A (getMethod (.ref a) m pl) Q E s:=by
 obtain⟨mA,O,r,_,_,_⟩:=wL I.hok e;have hn:mA m=none:=mw.none_of (by rw[<-l];exact r m)
 exact EH I.vq O (c.get m) k.at_ k.fn hn h
theorem zS{y:V}{u:Value}{Q:Unit->Shared->Prop}(I:Inv X pins σ H s)(e:H a=some (.ins C dx fs))(c:yd X.K C)(n:cZ X.K C f)(hl:fs.length < 1000)(ry:RelV y u)
 (h:∀s',Inv X pins σ (upd H a (.ins C dx (k_ f y fs))) s'->Q () s'):wpAny (model X.prog X.w) A (setAttr (.ref a) f u) Q E s:=by
 obtain⟨mA,O,r,wi,_,ho⟩:=wL I.hok e;have hz:(fs.map (·.1)).length<=sizeLine:=by rw[List.length_map,sizeLine_eq];omega
 refine H_ I.vq O c.sa c.po n.M8 c.hd wi hz fun h' O' sb=>h _ ?_
 have hd:∃o,h'.get? dx=some o:=let⟨o,_,_,e',_⟩:=O'.ns;⟨o,e'⟩
 refine I.write (x:=a) (e:=dx) (by rw[e];exact True.intro) (.inr ho) (fun b q hb z=>(sb.2 b hb).trans z) hd ?_
 refine⟨by rw[a_ O.ne];exact ho,?_,O.ne,O'.obj,_,O'.ns,fun g=>?_,fun g hg=>?_⟩
 .have:=rq f y fs;omega
 .show mw ((k_ f y fs).lookup g) (if g=f then some u else mA g)
  rw[rD];by_cases q:g=f
  .rw [if_pos q,if_pos q];exact ry
  .rw [if_neg q,if_neg q];exact r g
 .by_cases q:g=f
  .rw [q];exact(qZ f y fs).1
  .refine(qZ f y fs).2 g (wi g fun z=>hg ?_)
   show(if g=f then some u else mA g)=none
   rw[if_neg q];exact z
theorem Inv.made(I:Inv X pins σ H s):Inv X pins σ (upd (upd H s.heap.objs.size (.own (s.heap.objs.size+1))) (s.heap.objs.size+1) (.ins C s.heap.objs.size []))
 {s with heap:=(s.heap.push PySem.W.emptyDict).push (PySem.W.instObj C s.heap.objs.size)}:=by
 have e1:(s.heap.push PySem.W.emptyDict).get? s.heap.objs.size=some PySem.W.emptyDict:=Heap.get?_push_size s.heap rfl;have e2:((s.heap.push PySem.W.emptyDict).push (PySem.W.instObj C s.heap.objs.size)).get? (s.heap.objs.size+1)=some (PySem.W.instObj C s.heap.objs.size):=by
  have:=Heap.get?_push_size (s.heap.push PySem.W.emptyDict) (o:=PySem.W.instObj C s.heap.objs.size) rfl
  rwa [Heap.size_push] at this
 have e3:(s.heap.push PySem.W.emptyDict).Ns s.heap.objs.size (fun _=>none):=⟨PySem.W.emptyDict,#[],_,e1,rfl,(fun e he=>absurd he (by simp)),fun _=>rfl⟩
 have I1:=I.laid (a:=s.heap.objs.size) (o:= .own (s.heap.objs.size+1)) (h':=s.heap.push PySem.W.emptyDict) (t':=s.toks) (fun b u q=>Heap.get?_push_of_some _ q) (Nat.le_refl _) ⟨_,e1⟩
 refine I1.laid (a:=s.heap.objs.size+1) (o:= .ins C s.heap.objs.size []) (t':=s.toks) (fun b u q=>Heap.get?_push_of_some _ q) (Nat.le_of_eq (Heap.size_push _ _)) ?_
 have ne:s.heap.objs.size≠s.heap.objs.size+1:=Nat.ne_of_lt (Nat.lt_succ_self _);refine⟨by rw[a_ ne,aY],Nat.zero_le _,ne,e2,fun _=>none,(Heap.Ns1.of_empty e3).at fun o q=>Heap.get?_push_of_some _ q,fun _=>True.intro,fun y hy=>absurd rfl hy⟩
theorem Ip{prog:Program}{w:World}{env:Env}{e:Expr}{f:Str}{pos:Pos}{s:Shared}{Q:Y6}(hb:attributeBase e f env (eval e env)=eval e env)
 (h:wpAny (model prog w) A (eval e env) (fun o s₁=>wpAny (model prog w) A (getAttr o f true) Q E s₁) E s):wpAny (model prog w) A (eval (.Attribute e f pos) env) Q E s:=
 Attribute_any_ h (by rw[arm_eval_Attribute,hb])
end
def Qo(K:W.Frag)(ta:TE)(f:Str):TE:=fun σ H Q=>ta σ H fun x H1=>∃a C dx fs v,x= .ref a/\H1 a=some (.ins C dx fs)/\yd K C/\cZ K C f/\fs.lookup f=some v/\Q v H1
def WK(K:W.Frag)(ta:TE)(f:Str):TE:=fun σ H Q=>ta σ H fun x H1=>∃a C dx fs v u,x= .ref a/\H1 a=some (.ins C dx fs)/\yd K C/\Vp K C f v u/\fs.lookup f=none/\Q v H1
def PH(K:W.Frag)(ta tv:TE)(f:Str):TS:=fun D σ H=>tv σ H fun y H1=>ta σ H1 fun x H2=>∃a C dx fs,x= .ref a/\H2 a=some (.ins C dx fs)/\yd K C/\cZ K C f/\fs.length < 1000/\
 D.nx σ (upd H2 a (.ins C dx (k_ f y fs)))
def Wr(X:Cx)(op:Operator)(rd:V->V->Hp->VK->Prop):Prop:=
 ∀(pins:Y5) (s:Shared) (σ:St) (H:Hp) (x y:V) (u v:Value) (Q:VK),Inv X pins σ H s->RelV x u->RelV y v->rd x y H Q->wpAny (model X.prog X.w) X.A (inplaceOp op u v) (EP X pins σ Q) X.xe s
def Pj(K:W.Frag)(ta tv:TE)(rd:V->V->Hp->VK->Prop)(f:Str):TS:=fun D σ H=>ta σ H fun x H1=>∃a C dx fs v,x= .ref a/\H1 a=some (.ins C dx fs)/\yd K C/\cZ K C f/\fs.lookup f=some v/\
 tv σ H1 fun y H2=>rd v y H2 fun z H3=>∃dx' mY,H3 a=some (.ins C dx' mY)/\mY.length < 1000/\D.nx σ (upd H3 a (.ins C dx' (k_ f z mY)))
section
variable {X:Cx} {o e value:Expr} {f:Str} {pos pos' RT:Pos} {ta tv:TE}
theorem KP(he:PE X e ta)(hb:attributeBase e f X.env (eval e X.env)=eval e X.env):PE X (.Attribute e f pos) (Qo X.K ta f):=by
 intro pins s σ H Q I h;refine Ip hb (cJ (he pins s σ H _ I h) fun u s1 ⟨x,H1,I1,rx,a,C,dx,fs,v,ex,ea,c,n,l,q⟩=>?_)
 subst ex;obtain rfl:u=Value.ref a:=rx;exact zK I1 ea c n l fun u' s2 I2 ru=>⟨v,H1,I2,ru,q⟩
theorem Lx(ha:PE X o ta)(hv:PE X value tv)(hs:swapsWith value (some (.Attribute o f pos')) pos.line X.env=pure false):PS X (.Assign [.Attribute o f pos'] value pos) (PH X.K ta tv f):=by
 intro pins s σ H D I h;refine plainObj_wpAny_Assign_Attribute (cJ (hv pins s σ H _ I h) fun u s1 ⟨y,H1,I1,ry,q⟩=>cJ (ha pins s1 σ H1 _ I1 q) fun ov s2 ⟨x,H2,I2,rx,a,C,dx,fs,ex,ea,c,n,l,q2⟩=>?_) hs
 subst ex;obtain rfl:ov=Value.ref a:=rx;exact zS I2 ea c n l ry fun s3 I3=>⟨σ,_,I3,q2⟩
def Wa:V->V->Hp->VK->Prop:=fun x y H Q=>∃i j,x= .int i/\y= .int j/\Q (.int (i+j)) H
def Vh:V->V->Hp->VK->Prop:=fun x y H Q=>∃i j,x= .int i/\y= .int j/\Q (.int (i - j)) H
end
section
variable {X:Cx} {pins:Y5} {σ:St} {H:Hp} {s:Shared} {A:Around} {E:Y6} {Q:Y6} {c:Value} {b:Bool}
inductive tJ (K:W.Frag) (H:Hp):V->Value->Prop where
 | cD:tJ K H .cD (.type "NoneType")
 | bl (x:Bool):tJ K H (.bl x) (.type "bool")
 | int (i:Int):tJ K H (.int i) (.type "int")
 | str (x:Str):tJ K H (.str x) (.type "str")
 | flt (x:UInt64):tJ K H (.flt x) (.type "float")
 | lst {a:Addr} {xs:List V} (e:H a=some (.lst xs)):tJ K H (.ref a) (.type "list")
 | lP {a:Addr} {o:Obj} {xs:List V} (e:H a=some (.lP o (.lst xs))):tJ K H (.ref a) (.type "list")
 | tup {a:Addr} {xs:List V} (e:H a=some (.tup xs)):tJ K H (.ref a) (.type "tuple")
 | dK {a:Addr} {aw:List (Key × V)} (e:H a=some (.dK aw)):tJ K H (.ref a) (.type "dict")
 | dT {a:Addr} {aw:List (List Key × V)} (e:H a=some (.dT aw)):tJ K H (.ref a) (.type "dict")
 | ins {a C dx:Addr} {fs:List (Str × V)} (e:H a=some (.ins C dx fs)) (cl:yd K C) (ha:PySem.W.findIn K (.ref C) "__class__"=some (some (.builtin "object.__class__")))
    (hn:PySem.W.specialIn K (.builtin "object.__class__") "__get__"=some (some (.builtin "getset_descriptor.__get__"))) (YX:PySem.W.takesIn K (.builtin "object.__class__")=some true)
    (hm:PySem.W.mroIn K C (.type "object")=some true):tJ K H (.ref a) (.ref C)
end
structure dH (k:Nat) (A:Around):Prop where
 hd:A.handled=none
 dp:A.depth+3*k+5 < recursionLimit
 un:A.units+16*k+200 < cLine
theorem dH.mono{j k:Nat}(r:dH k A)(h:j<=k):dH j A:=⟨r.hd,by have:=r.dp;omega,by have:=r.un;omega⟩
theorem dH.deeper{k:Nat}{A:Around}(r:dH (k+1) A)(env:Env):dH k (A.deeper env):=
 ⟨r.hd,by have:=r.dp;show A.depth+1+3*k+5 < _;omega,by have:=r.un;show A.units+3+16*k+200 < _;omega⟩
theorem y_{A:Around}{C:Addr}{us:List Value}{kw:List (Str × Value)}:(A.under (.builtin "type.__call__" ⟨.ref C ::us,kw⟩)).depth=A.depth+1:=by
 first | rfl | simp [Around.under,Code.weight,Code.isCreation,Code.isGuard,Code.isCaller,Code.frames,Code.isFrame,guardIds]
theorem zQ{A:Around}{C:Addr}{us:List Value}{kw:List (Str × Value)}:(A.under (.builtin "type.__call__" ⟨.ref C ::us,kw⟩)).units=A.units+1:=by
 first | rfl | simp [Around.under,Code.cUnits,Code.frames,Code.isFrame]
theorem dH.make{k:Nat}{A:Around}(r:dH (k+1) A)(C:Addr)(us:List Value)(kw:List (Str × Value)):dH k (A.under (.builtin "type.__call__" ⟨.ref C ::us,kw⟩)):=
 ⟨r.hd,by have:=r.dp;rw [y_];omega,by have:=r.un;rw [zQ];omega⟩
theorem dH.depth{k:Nat}{A:Around}(r:dH k A):A.depth < recursionLimit:=by have:=r.dp;omega
theorem dH.units{k:Nat}{A:Around}(r:dH k A):A.units+64 < cLine:=by have:=r.un;omega
def N7:TA:=fun _ H Q=>Q [] H
def Nd(ta:TE)(tr:TA):TA:=fun σ H Q=>ta σ H fun x H1=>tr σ H1 fun xs H2=>Q (x ::xs) H2
section
variable {X:Cx} {e:Expr} {es:List Expr} {te:TE} {t:TA} {pos:Pos}
theorem mq:PA X [] N7:=fun _ _ _ _ H Q I h=>Calls.spliced_nil ⟨[],H,I, .nil,h⟩
theorem jc(ha:PE X e te)(hr:PA X es t)(hs:starEach (e ::es) X.env=(false,eval e X.env) ::starEach es X.env:=by rfl):PA X (e ::es) (Nd te t):=by
 intro pos pins s σ H Q I h;rw[hs];show wpAny _ _ (spliced ((false,eval e X.env) ::backTo pos (starEach es X.env))) _ _ s;refine Calls.spliced_cons (cJ (ha pins s σ H _ I h) fun u s1 ⟨x,H1,I1,r1,q1⟩=>?_)
 exact cJ (hr pos pins s1 σ H1 _ I1 q1) fun us s2 ⟨xs,H2,I2,r2,q2⟩=>⟨x ::xs,H2,I2, .cons r1 r2,q2⟩
def Qj(t:TA):TE:=fun σ H Q=>t σ H fun xs H1=>xs.length<=sizeLine/\∀p,H1 p=none->Q (.ref p) (upd H1 p (.tup xs))
def PU(t:TA):TE:=fun σ H Q=>t σ H fun xs H1=>xs.length<=sizeLine/\∀p,H1 p=none->Q (.ref p) (upd H1 p (.lst xs))
theorem y4{x1}(h:PA X es t):PE X (.Tuple es x1 pos) (Qj t):=by
 intro pins s σ H Q I hq;refine wpAny_Tuple_spliced (cJ (h pos pins s σ H _ I hq) fun us s1 ⟨xs,H1,I1,r,z,q⟩=>⟨by rw[<-r.length];exact z,?_⟩)
 have hf:H1 s1.heap.objs.size=none:=I1.hok.fresh (Nat.le_refl _);refine⟨.ref s1.heap.objs.size,upd H1 s1.heap.objs.size (.tup xs),I1.laid (t':=s1.toks) (fun b u e=>Heap.get?_push_of_some _ e) (Nat.le_refl _) ?_,rfl,q _ hf⟩
 exact⟨z,us,r,⟨_,Heap.get?_push_size _ rfl,rfl,_,rfl⟩⟩
theorem Ed(h:PA X es t):PE X (.List es pos) (PU t):=by
 intro pins s σ H Q I hq;refine wpAny_List_spliced (cJ (h pos pins s σ H _ I hq) fun us s1 ⟨xs,H1,I1,r,z,q⟩=>⟨by rw[<-r.length];exact z,?_⟩)
 have hf:H1 s1.heap.objs.size=none:=I1.hok.fresh (Nat.le_refl _);refine⟨.ref s1.heap.objs.size,upd H1 s1.heap.objs.size (.lst xs),I1.laid (t':=s1.toks) (fun b u e=>Heap.get?_push_of_some _ e) (Nat.le_refl _) ?_,rfl,q _ hf⟩
 exact⟨z,us,0,r,Heap.get?_push_size _ rfl⟩
end
abbrev Sp:=List V->Hp->VK->XK->Prop
abbrev CT:=List Env->Hp->Shared->XK->Value->Shared->Prop
structure zr (P:Program) (w:World) (K:W.Frag) (mg:Y_) (base:Heap) (A:Around) (outer:List Env) (s:Shared) (H:Hp):Prop where
 frames:A.frames=some outer
 mod:Mod K mg base
 bs:∀b o,base.get? b=some o->s.heap.get? b=some o/\H b=none
 bsz:base.objs.size<=s.heap.objs.size
 qE:s.heap.FunFrames base outer
 frf:∀b∈o9 outer,H b=none
 hok:mX P w H s.heap
 bare:AllBare s.gens
def CE(outer:List Env)(P:Program)(w:World)(H:Hp)(s:Shared)(Q:VK)(u:Value)(s':Shared):Prop:=
 ∃v H',s'.os=s.os/\AllBare s'.gens/\Un (o9 outer) [] H H' s.heap s'.heap/\mX P w H' s'.heap/\RelV v u/\Q v H'
def CR(CX:CT)(outer:List Env)(P:Program)(w:World)(H:Hp)(s:Shared)(Q:VK)(E:XK)(r:Result)(s':Shared):Prop:=
 match r with
 | .ok (.ret u)=>CE outer P w H s Q u s'
 | .ok _=>False
 | .error e=>CX outer H s E e s'
structure jt (P:Program) (w:World) (K:W.Frag) (mg:Y_) (base:Heap) (CX:CT) (k:Nat) (f:Addr) (fd:FuncData) (ps:List Str) (sp:Sp):Prop where
 len:∀vs H Q E,sp vs H Q E->vs.length=ps.length
 run:∀(A:Around) (outer:List Env) (s:Shared) (H:Hp) (args:Args) (us:List Value) (vs:List V) (Q:VK) (E:XK),dH k A->zr P w K mg base A outer s H->BindsTo s fd args (ps.zip us)->Vals vs us->sp vs H Q E->
  codeAny (model P w) A (.call (.ref f) args) (CR CX outer P w H s Q E) s
theorem jt.imp{P:Program}{w:World}{K:W.Frag}{mg:Y_}{base:Heap}{CX:CT}{k:Nat}{f:Addr}{fd:FuncData}{ps:List Str}{sp UU:Sp}(F:jt P w K mg base CX k f fd ps sp)
 (h:∀vs H Q E,UU vs H Q E->sp vs H Q E):jt P w K mg base CX k f fd ps UU:=
 ⟨fun vs H Q E q=>F.len vs H Q E (h _ _ _ _ q),fun A outer s H args us vs Q E hr he hb hv hs=>F.run A outer s H args us vs Q E hr he hb hv (h _ _ _ _ hs)⟩
theorem zr.make{K:W.Frag}{mg:Y_}{outer:List Env}{s:Shared}(e:zr P w K mg base A outer s H)(C:Addr)(us:List Value)(kw:List (Str × Value)) :
 zr P w K mg base (A.under (.builtin "type.__call__" ⟨.ref C ::us,kw⟩)) outer s H:=⟨by first | exact e.frames | (simpa [Around.under,Code.envs,Code.isFrame,pushEnvs] using e.frames),e.mod,e.bs,e.bsz,e.qE,e.frf,e.hok,e.bare⟩
section
variable {X:Cx} {pins:Y5} {σ:St} {H:Hp} {s s':Shared}
theorem Inv.Ow(I:Inv X pins σ H s):zr X.prog X.w X.K X.mg X.base X.A X.stack s H:=
 ⟨I.ok.frames,I.ok.mod,I.bs,Nat.le_trans I.ok.bsz I.sz,I.stack,I.oy,I.hok,I.bare⟩
theorem Inv.after{Q:VK}{u:Value}(I:Inv X pins σ H s)(h:CE X.stack X.prog X.w H s Q u s'):EP X pins σ Q u s':=by
 obtain⟨v,H',os,bare,un,hok,r,q⟩:=h;obtain⟨hh,g,d,t,X4⟩:=s';obtain rfl:X4=s.os:=os;exact⟨v,H',I.call (h':=hh) (g':=g) (d':=d) (t':=t) (ch:=[]) un hok bare (fun b z=>absurd z (by simp)),r,q⟩
end
def Nf(sp:Sp)(xc:List V)(E:XK)(t:TA):TE:=fun σ H Q=>t σ H fun vs H1=>sp (vs++xc) H1 Q E
def NJ(C:Addr)(m:Str)(sp:Sp)(xc:List V)(E:XK)(ta:TE)(t:TA):TE:=fun σ H Q=>ta σ H fun x H1=>∃a dx fs,x= .ref a/\H1 a=some (.ins C dx fs)/\fs.lookup m=none/\
 t σ H1 fun vs H2=>sp (x ::(vs++xc)) H2 Q E
def N9(C:Addr)(sp:Sp)(xc:List V)(E:XK)(t:TA):TE:=fun σ H Q=>t σ H fun vs H1=>∀x dx,H1 x=none->H1 dx=none->dx≠x->
 sp (.ref x ::(vs++xc)) (upd (upd H1 dx (.own x)) x (.ins C dx [])) (fun v H2=>v= .cD/\Q (.ref x) H2) E
def Binds(K:W.Frag)(fd:FuncData)(ps:List Str)(ds:List Value):Prop:=
 ∀(s:Shared) (us:List Value),K.In s.heap->(us++ds).length=ps.length->BindsTo s fd ⟨us,[]⟩ (ps.zip (us++ds))
theorem Binds.all{K:W.Frag}{fd:FuncData}{ps:List Str}(h:∀us:List Value,us.length=ps.length->bindArgs fd ⟨us,[]⟩=pure (ps.zip us)):Binds K fd ps []:=fun s us _ hl=>by
 rw[List.append_nil] at hl ⊢;exact .of_eq (h us hl)
def Passes(CX:CT)(X:Cx)(E:XK):Prop:=∀(pins:Y5) (σ:St) (H:Hp) (s:Shared) (e:Value) (s':Shared),Inv X pins σ H s->CX X.stack H s E e s'->X.xe e s'
section
variable {X:Cx} {CX:CT} {k:Nat} {f C:Addr} {fd:FuncData} {ps:List Str} {sp:Sp} {xc:List V} {ds:List Value} {E:XK} {x m:Str} {p pos apos:Pos} {e o:Expr} {es:List Expr} {ta:TE} {t:TA}
theorem FP{pins:Y5}{σ:St}{H:Hp}{s:Shared}{Q:VK}{us:List Value}{vs:List V}(F:jt X.prog X.w X.K X.mg X.base CX k f fd ps sp)(hr:dH k X.A)(hb:Binds X.K fd ps ds)(hd:Vals xc ds)(hx:Passes CX X E)
 (I:Inv X pins σ H s) (r:Vals vs us) (h:sp (vs++xc) H Q E):wpAny (model X.prog X.w) X.A (call (.ref f) us) (EP X pins σ Q) X.xe s:=by
 have r2:Vals (vs++xc) (us++ds):=r.append hd;have hl:(us++ds).length=ps.length:=by rw[<-r2.length];exact F.len _ _ _ _ h
 refine wpAny_call (codeAny_mono (F.run X.A X.stack s H ⟨us,[]⟩ (us++ds) (vs++xc) Q E hr I.Ow (hb s us I.vq hl) r2 h) fun r s' hq=>?_)
 cases r with
 | error e=>exact hx pins σ H s e s' I hq
 | ok fl=>
   cases fl with
   | ret u=>exact I.after hq
   | next=>exact False.elim hq
   | brk=>exact False.elim hq
   | cont=>exact False.elim hq
theorem wc(F:jt X.prog X.w X.K X.mg X.base CX k f fd ps sp)(hr:dH k X.A)(hg:Gl X x)(hm:X.mg x=some (.ref f))(hk:PySem.W.keepIn X.K (.ref f)=true)(hb:Binds X.K fd ps ds)(hd:Vals xc ds)(hx:Passes CX X E)
 (ha:PA X (e ::es) t) (kL:(x==("__debug__":Str))=false:=by decide) (he:starEach (e ::es) X.env=(false,eval e X.env) ::starEach es X.env:=by rfl) (mT:(backTo pos (starEach es X.env)).any (·.1)=false:=by rfl) :
 PE X (.Call (.Name x p) (e ::es) [] pos) (Nf sp xc E t):=by
 intro pins s σ H Q I h;refine wpAny_Call_Name_kw (qi I hg hm ?_ kL);refine PySem.W.callWith_K (h₀:=X.base) I.ok.mod.kin hk (cJ (ha pos pins s σ H _ I h) fun us s1 ⟨vs,H1,I1,r,q⟩=>⟨I1.vq,?_⟩) he mT
 exact FP F hr hb hd hx I1 r q
theorem Hk{pl:Sem Bool}(he:PE X o ta)(c:yd X.K C)(hm:Meth X.K C m f)(F:jt X.prog X.w X.K X.mg X.base CX k f fd ps sp)(hr:dH k X.A)(hb:Binds X.K fd ps ds)(hd:Vals xc ds)(hx:Passes CX X E)(ha:PA X (e ::es) t)
 (yI:starEach (e ::es) X.env=(false,eval e X.env) ::starEach es X.env:=by rfl) (mT:(backTo pos (starEach es X.env)).any (·.1)=false:=by rfl)
 (ht:eval (.Call (.Attribute o m apos) (e ::es) [] pos) X.env=(do
   let ov <-eval o X.env
   standAt apos.atName
   let(f,first) <-holding [ov] (getMethod ov m pl)
   callWith pos f first (backTo pos (starEach (e ::es) X.env)) (backToKw pos (keywordEach [] X.env))):=by rfl) :
 PE X (.Call (.Attribute o m apos) (e ::es) [] pos) (NJ C m sp xc E ta t):=by
 intro pins s σ H Q I h;refine PySem.W.methodCall_KW (pl:=pl) (cJ (he pins s σ H _ I h) fun u s1 ⟨x,H1,I1,rx,a,dx,fs,ex,ea,l,q⟩=>?_) ht
 subst ex;obtain rfl:u=Value.ref a:=rx;refine zN I1 ea c hm l ?_;refine PySem.W.callWith_K (first:=[.ref a]) (h₀:=X.base) I.ok.mod.kin hm.kp (cJ (ha pos pins s1 σ H1 _ I1 q) fun us s2 ⟨vs,H2,I2,r,q2⟩=>⟨I2.vq,?_⟩) yI mT
 exact FP (us:= .ref a ::us) (vs:= .ref a ::vs) F hr hb hd hx I2 (.cons rfl r) q2
structure Mk (K:W.Frag) (C f:Addr):Prop where
 makes:PySem.W.makesIn K C=true
 init:PySem.W.findIn K (.ref C) "__init__"=some (some (.ref f))
 fn:PySem.W.isFn K (.ref f)=true
 kp:PySem.W.keepIn K (.ref C)=true
theorem Ey{pins:Y5}{σ:St}{H:Hp}{s:Shared}{Q:VK}{us:List Value}{vs:List V}(M:Mk X.K C f)(F:jt X.prog X.w X.K X.mg X.base CX k f fd ps sp)(hr:dH (k+1) X.A)(hb:Binds X.K fd ps ds)(hd:Vals xc ds)
 (hx:Passes CX X E) (I:Inv X pins σ H s) (r:Vals vs us)
 (h:∀x dx,H x=none->H dx=none->dx≠x->sp (.ref x ::(vs++xc)) (upd (upd H dx (.own x)) x (.ins C dx [])) (fun v H2=>v= .cD/\Q (.ref x) H2) E) :
 wpAny (model X.prog X.w) X.A (call (.ref C) us) (EP X pins σ Q) X.xe s:=by
 have hq:=h (s.heap.objs.size+1) s.heap.objs.size (I.hok.fresh (Nat.le_succ _)) (I.hok.fresh (Nat.le_refl _)) (Nat.ne_of_lt (Nat.lt_succ_self _));have I2:=Inv.made (C:=C) I;have r2:Vals (V.ref (s.heap.objs.size+1) ::(vs++xc)) (Value.ref (s.heap.objs.size+1) ::(us++ds)):= .cons rfl (r.append hd);have hl:(Value.ref (s.heap.objs.size+1) ::us++ds).length=ps.length:=by
  have e:=r2.length;rw[F.len _ _ _ _ hq] at e;exact e.symm
 refine wpAny_call (Dn (f:=f) I.vq M.makes M.init (beq_iff_eq.mp M.fn) (codeAny_mono (F.run _ X.stack _ _ ⟨Value.ref (s.heap.objs.size+1) ::us,[]⟩ (Value.ref (s.heap.objs.size+1) ::(us++ds)) _ _ E (hr.make C us [])
  (I2.Ow.make C us []) (hb _ (Value.ref (s.heap.objs.size+1) ::us) I2.vq hl) r2 hq) fun r s' O2=>?_))
 cases r with
 | error e=>exact hx pins σ _ _ e s' I2 O2
 | ok fl=>
   cases fl with
   | ret u=>
     obtain⟨v,H',I3,rv,ev,q3⟩:=I2.after O2;subst ev;exact⟨rv,⟨V.ref (s.heap.objs.size+1),H',I3,rfl,q3⟩⟩
   | next=>exact False.elim O2
   | brk=>exact False.elim O2
   | cont=>exact False.elim O2
theorem FL(M:Mk X.K C f)(F:jt X.prog X.w X.K X.mg X.base CX k f fd ps sp)(hr:dH (k+1) X.A)(hg:Gl X x)(hm:X.mg x=some (.ref C))(hb:Binds X.K fd ps ds)(hd:Vals xc ds)(hx:Passes CX X E)
 (kL:(x==("__debug__":Str))=false:=by decide):PE X (.Call (.Name x p) [] [] pos) (N9 C sp xc E N7):=by
 intro pins s σ H Q I h;refine wpAny_Call_Name_kw (qi I hg hm ?_ kL);exact PySem.W.callWith_K0 I.vq M.kp (Ey (us:=[]) M F hr hb hd hx I .nil h)
end
def PK(X:Cx)(UZ:List Keyword)(t:TA):Prop:=
 ∀(pos:Pos) (pins:Y5) (s:Shared) (σ:St) (H:Hp) (Q:List V->Hp->Prop),Inv X pins σ H s->t σ H Q->wpAny (model X.prog X.w) X.A (evalAll ((backToKw pos (keywordEach UZ X.env)).map (·.2))) (AP X pins σ Q) X.xe s
section
variable {X:Cx} {CX:CT} {k:Nat} {f C:Addr} {fd:FuncData} {ps ks:List Str} {sp:Sp} {E:XK} {x m:Str} {p pos apos Xl:Pos} {e o:Expr} {es:List Expr} {UZ:List Keyword} {te ta:TE} {t tk:TA} {nm:Option Str}
structure Px (K:W.Frag) (fd:FuncData) (ps ks:List Str) (g:List Value->List Value->List Value) (gV:List V->List V->List V):Prop where
 to:∀(s:Shared) (us ws:List Value),K.In s.heap->(g us ws).length=ps.length->BindsTo s fd ⟨us,ks.zip ws⟩ (ps.zip (g us ws))
 rel:∀{vs:List V} {us:List Value} {zs:List V} {ws:List Value},Vals vs us->Vals zs ws->Vals (gV vs zs) (g us ws)
def Rh(sp:Sp)(gV:List V->List V->List V)(E:XK)(t tk:TA):TE:=fun σ H Q=>t σ H fun vs H1=>tk σ H1 fun zs H2=>sp (gV vs zs) H2 Q E
variable {g:List Value->List Value->List Value} {gV:List V->List V->List V}
end
structure bq (N P:List Str) (sc:Scope):Prop where
 kind:sc.kind= .function
 co:sc.isCoroutine=false
 gen:sc.isGenerator=false
 nd:N.Nodup
 pre:N.take P.length=P
 par:∀x∈P,sc.names.lookup x=some .local\/sc.names.lookup x=some .cell
 nofree:∀y∈sc.names,y.2≠ .free
theorem uQ{kindOf:Str->Option NameKind}:∀{binds:List (Str × Value)} {m:Y_},(∀v,(x,v) ∉ binds)->bindL kindOf binds m x=m x
 | [],_,_=>rfl
 | (n,v) ::r,m,h=>by
   unfold bindL;rw[uQ fun w hw=>h w (List.mem_cons_of_mem _ hw)]
   split
   .have:x≠n:=by rintro rfl;exact h v List.mem_cons_self
    simp [this]
   .rfl
theorem u9{kindOf:Str->Option NameKind}:∀{binds:List (Str × Value)} {m:Y_},(∀v,(x,v) ∉ binds)->bindC kindOf binds m x=m x
 | [],_,_=>rfl
 | (n,v) ::r,m,h=>by
   unfold bindC;rw[u9 fun w hw=>h w (List.mem_cons_of_mem _ hw)]
   split
   .rfl
   .have:x≠n:=by rintro rfl;exact h v List.mem_cons_self
    simp [this]
theorem vt{kindOf:Str->Option NameKind}{v:Value}:∀{P:List Str} {vs:List Value} {i:Nat} {m:Y_},P.Nodup->P[i]? =some x->vs[i]? =some v->kindOf x=some .local->
 bindL kindOf (P.zip vs) m x=some v
 | [],_,_,_,_,h,_,_=>by simp at h
 | _ ::_,[],_,_,_,_,h,_=>by simp at h
 | p ::P,w ::vs,0,m,nd,h1,h2,hk=>by
   simp at h1 h2;subst h1;subst h2;show bindL kindOf ((p,w) ::P.zip vs) m p=_;unfold bindL;rw[uQ fun v hv=>(List.nodup_cons.mp nd).1 (List.of_mem_zip hv).1,if_pos hk]
   simp
 | p ::P,w ::vs,i+1,m,nd,h1,h2,hk=>by
   show bindL kindOf ((p,w) ::P.zip vs) m x=_;unfold bindL;exact vt (i:=i) (List.nodup_cons.mp nd).2 (by simpa using h1) (by simpa using h2) hk
theorem vw{kindOf:Str->Option NameKind}{v:Value}:∀{P:List Str} {vs:List Value} {i:Nat} {m:Y_},P.Nodup->P[i]? =some x->vs[i]? =some v->kindOf x≠some .local->
 bindC kindOf (P.zip vs) m x=some v
 | [],_,_,_,_,h,_,_=>by simp at h
 | _ ::_,[],_,_,_,_,h,_=>by simp at h
 | p ::P,w ::vs,0,m,nd,h1,h2,hk=>by
   simp at h1 h2;subst h1;subst h2;show bindC kindOf ((p,w) ::P.zip vs) m p=_;unfold bindC;rw[u9 fun v hv=>(List.nodup_cons.mp nd).1 (List.of_mem_zip hv).1,if_neg hk]
   simp
 | p ::P,w ::vs,i+1,m,nd,h1,h2,hk=>by
   show bindC kindOf ((p,w) ::P.zip vs) m x=_;unfold bindC;exact vw (i:=i) (List.nodup_cons.mp nd).2 (by simpa using h1) (by simpa using h2) hk
def start(N:List Str)(vs:List V):St:=vs.map some++List.replicate (N.length - vs.length) none
def lR(CX:CT)(P:Program)(w:World)(K:W.Frag)(mg:Y_)(base:Heap)(N:List Str)(qual:Str)(scope:Scope)(f:Addr)(cd:Value)(A:Around)(outer:List Env)(s:Shared)(H:Hp)(E:XK):Cx where
 prog:=P
 w:=w
 K:=K
 mg:=mg
 base:=base
 A:=A.deeper (envOfC qual scope s.heap.objs.size f cd)
 N:=N
 s₀:=s
 H₀:=H
 env:=envOfC qual scope s.heap.objs.size f cd
 outer:=outer
 stack:=envOfC qual scope s.heap.objs.size f cd ::outer
 ex:=[]
 calm:=true
 fn:=fun _=>true
 pn:=[]
 xe:=fun e s'=>wpAny (model P w) (A.deeper (envOfC qual scope s.heap.objs.size f cd)) (leaving (envOfC qual scope s.heap.objs.size f cd) e) (fun _ Ss=>CX outer H s E e Ss) (fun e' Ss=>CX outer H s E e' Ss) s'
theorem tR{sc:Scope}{n:Nat}(h:sc.names.lookup x=some .cell):∃c,(cellsFrom n sc.names []).lookup x=some c:=by
 have q:=PySem.W.cellsFrom_some sc.names n [] (.inl h);exact Option.isSome_iff_exists.mp q
theorem BM{CX:CT}{P:Program}{w:World}{K:W.Frag}{mg:Y_}{base:Heap}{N ps:List Str}{qual:Str}{scope:Scope}{f:Addr}{cd:Value}{A:Around}{outer:List Env}{s s1:Shared}{H:Hp}{E:XK}{us:List Value}{vs:List V}
 (S:bq N ps scope) (hd:A.handled=none) (e0:zr P w K mg base A outer s H) (hl:vs.length=ps.length) (r:Vals vs us)
 (x:InCallC s s.heap.objs.size (bindL (envOfC qual scope s.heap.objs.size f cd).kindOf (ps.zip us) fun _=>none) (cellsFrom (s.heap.objs.size+1) scope.names []) (bindC (envOfC qual scope s.heap.objs.size f cd).kindOf (ps.zip us) fun _=>none) s1) :
 Inv (lR CX P w K mg base N qual scope f cd A outer s H E) [] (start N vs) H s1:=by
 have mT:ps.length<=N.length:=by have:=congrArg List.length S.pre;rw [List.length_take] at this;omega
 obtain⟨h1,tk,rfl,hk⟩:=x.done;have noA:∀b:Addr,b ∉ (lR CX P w K mg base N qual scope f cd A outer s H E).ex:=fun b z=>absurd (show b∈([]:List Addr) from z) (by simp)
 refine⟨⟨e0.mod,S.kind,rfl,rfl,Nat.le_refl _,fun y z c h1 h2=>?_,fun y hy=>?_,fun y c _ h=>?_,fun _=>hd,Around.frames_deeper e0.frames, .inr ⟨rfl,rfl⟩,fun b z=>absurd z (noA b),e0.bs,e0.bsz,fun b _ _=>noA b,fun b z=>absurd z (noA b),e0.qE,e0.frf⟩,
  rfl,e0.bare,Un.kept hk,⟨_,x.toInCall.ns,fun i y v h1 h2 h3=>?_⟩,fun y c h=>⟨_,x.cell y c h⟩,e0.hok.fresh (Nat.le_refl _),fun y c h=>?_,fun p hp=>absurd (show p∈([]:Y5) from hp) (by simp),e0.hok.kept hk,?_⟩
 .exact name_of_addr x.apart (PySem.mem_of_lookup h1) (PySem.mem_of_lookup h2)
 .have hy:scope.names.lookup y=some .cell\/scope.names.lookup y=some .free:=hy;rcases hy with hy | hy
  .exact tR hy
  .exact absurd rfl (S.nofree _ (PySem.mem_of_lookup hy))
 .exact Nat.le_of_lt (x.above y c (PySem.mem_of_lookup h))
 .have hi:i < vs.length:=by
   unfold start at h2;by_cases hi:i < vs.length
   .exact hi
   .rw [List.getElem?_append_right (by simpa using hi)] at h2
    rw[List.getElem?_replicate] at h2;split at h2 <;> cases h2
  have ha:vs[i]? =some v:=by
   unfold start at h2;rw[List.getElem?_append_left (by simpa using hi),List.getElem?_map] at h2
   cases e:vs[i]? with
   | none=>rw [e] at h2;cases h2
   | some a=>rw [e] at h2;cases h2;rfl
  obtain⟨u,hu,rv⟩:=r.get ha;have hp:ps[i]? =some y:=by
   rw[<-S.pre,List.getElem?_take_of_lt (by omega)];exact h1
  have ndP:ps.Nodup:=by rw[<-S.pre];exact S.nd.sublist (List.take_sublist _ _)
  refine⟨u,rv,?_⟩;rcases S.par y (List.mem_of_getElem? hp) with k | k
  .exact .inl ⟨k,vt ndP hp hu k⟩
  .obtain⟨c,e⟩:=tR (n:=s.heap.objs.size+1) k;refine .inr ⟨.inl k,c,e,?_⟩;have q:=x.cell y c e;rw[vw ndP hp hu (by show scope.names.lookup y≠_;rw [k];decide)] at q
   exact q
 .exact e0.hok.fresh (Nat.le_of_lt (x.above y c (PySem.mem_of_lookup h)))
 .unfold start;show _=N.length;rw[List.length_append,List.length_map,List.length_replicate];omega
theorem Jt{CX:CT}{P:Program}{w:World}{K:W.Frag}{mg:Y_}{base:Heap}{k:Nat}{f:Addr}{name qual:Str}{params:Arguments}{body:List Stmt}{scope:Scope}{dV kV doc pm dF ct oc:Value}{an od:Option Addr}
 {F3:Array (Option Value)} {N ps:List Str} {sp:Sp} (lk:K.lookup f=some ⟨oc,od, .func (PySem.W.fnOf name qual params body scope dV kV doc pm an dF ct),F3⟩) (uN:PySem.W.codeIn K dF qual=true) (S:bq N ps scope)
 (len:∀vs H Q E,sp vs H Q E->vs.length=ps.length)
 (ig:∀(A:Around) (outer:List Env) (s:Shared) (H:Hp) (vs:List V) (Q:VK) (E:XK),dH k (A.deeper (envOfC qual scope s.heap.objs.size f dF))->sp vs H Q E->
   ∃t,vW (lR CX P w K mg base N qual scope f dF A outer s H E) body t/\t {nx:=fun _ H'=>Q .cD H',rt:=Q} (start N vs) H) :
 jt P w K mg base CX (k+1) f (PySem.W.fnOf name qual params body scope dV kV doc pm an dF ct) ps sp:=by
 refine⟨len,fun A outer s H args us vs Q E hr e0 hb r Bm=>?_⟩
 have hl:=len _ _ _ _ Bm;have KX:K.In s.heap:=e0.mod.kin.keeps fun b o e=>(e0.bs b o e).1
 have lim:s.heap.NoLimit:=e0.mod.nolimit.keeps fun b o e=>(e0.bs b o e).1
 have hkind:∀y∈ps.zip us,scope.names.lookup y.1=some .local\/(scope.names.lookup y.1=some .cell/\((cellsFrom (s.heap.objs.size+1) scope.names []).lookup y.1).isSome=true):=fun⟨n,v⟩ hy=>by
  rcases S.par n (List.of_mem_zip hy).1 with q | q
  .exact .inl q
  .exact .inr ⟨q,PySem.W.cellsFrom_some _ _ _ (.inl q)⟩
 refine codeAny_call_function hr.depth (KX _ _ lk) rfl S.co S.gen rfl (PySem.W.codeRec_of KX uN) (hb _ _ _ _ ?_);refine wpAny_newFunctionEnv_cells S.kind hkind fun env he s1 x=>?_
 subst he;refine⟨lim.keeps x.toInCall.keep,codeAny_func ?_⟩;obtain⟨t,ht,hq⟩:=ig A outer s H vs Q E (hr.deeper _) Bm;have I:Inv (lR CX P w K mg base N qual scope f dF A outer s H E) [] (start N vs) H s1:=BM S hr.hd e0 hl r x;refine wpAny_mono (ht [] s1 (start N vs) H _ I hq) (fun fl s' hs=>?_) fun e s' hs=>hs
 have fin:∀{b8:St} {H':Hp} {v:V} {u:Value},Inv (lR CX P w K mg base N qual scope f dF A outer s H E) [] b8 H' s'->RelV v u->Q v H'->CE outer P w H s Q u s':=
  fun {b8 H' v u} J rv q=>⟨v,H',J.os,J.bare,J.base,J.hok,rv,q⟩
 cases fl with
 | ret u=>
   obtain⟨v,b8,H',J,rv,q⟩:=hs;exact fin J rv q
 | next=>
   obtain⟨b8,H',J,q⟩:=hs;exact fin (v:=V.cD) (u:=Value.none) J rfl q
 | brk=>
   obtain⟨_,_,_,q⟩:=hs;exact False.elim q
 | cont=>
   obtain⟨_,_,_,q⟩:=hs;exact False.elim q
section
variable {X:Cx} {x:Str} {p pos:Pos} {e:Expr} {es:List Expr} {t:TA} {id T:String} {r:List V->Hp->VK->Prop}
def Um(r:List V->Hp->VK->Prop)(t:TA):TE:=fun σ H Q=>t σ H fun vs H1=>r vs H1 Q
theorem sS(hc:kf X (.builtin id) r)(hg:Gl X x)(hm:X.mg x=none)(hv:bootBuiltins x=some (.builtin id))(ha:PA X (e ::es) t)(hn:x≠"__name__":=by decide)(kL:(x==("__debug__":Str))=false:=by decide)
 (he:starEach (e ::es) X.env=(false,eval e X.env) ::starEach es X.env:=by rfl) (mT:(backTo pos (starEach es X.env)).any (·.1)=false:=by rfl):PE X (.Call (.Name x p) (e ::es) [] pos) (Um r t):=by
 intro pins s σ H Q I h;refine wpAny_Call_Name_kw (vP I hg hm hv ?_ hn kL);exact PyProof.Rows.callWith_builtin1 (cJ (ha pos pins s σ H _ I h) fun us s1 ⟨vs,H1,I1,r1,q1⟩=>hc pins s1 σ H1 vs us Q I1 r1 q1) he mT
theorem u_(hc:kf X (.type T) r)(hg:Gl X x)(hm:X.mg x=none)(hv:bootBuiltins x=some (.type T))(ha:PA X (e ::es) t)(hn:x≠"__name__":=by decide)(kL:(x==("__debug__":Str))=false:=by decide)
 (he:starEach (e ::es) X.env=(false,eval e X.env) ::starEach es X.env:=by rfl) (mT:(backTo pos (starEach es X.env)).any (·.1)=false:=by rfl):PE X (.Call (.Name x p) (e ::es) [] pos) (Um r t):=by
 intro pins s σ H Q I h;refine wpAny_Call_Name_kw (vP I hg hm hv ?_ hn kL);exact PyProof.Rows.callWith_type1 (cJ (ha pos pins s σ H _ I h) fun us s1 ⟨vs,H1,I1,r1,q1⟩=>hc pins s1 σ H1 vs us Q I1 r1 q1) he mT
end
section
variable {κ:Type} [DecidableEq κ]
def jy(aw:List (κ × V))(k:κ):Option V:=(aw.find? fun kv=>decide (kv.1=k)).map (·.2)
def putK(aw:List (κ × V))(k:κ)(v:V):List (κ × V):=
 if(aw.any fun kv=>decide (kv.1=k))=true then aw.map (fun kv=>if kv.1=k then(kv.1,v) else kv) else aw++[(k,v)]
def Dj(aw:List (κ × V))(k:κ):List (κ × V):=aw.filter fun kv=>decide (kv.1≠k)
theorem sY{p:κ × V}{r:List (κ × V)}{k:κ}(e:p.1=k):jy (p ::r) k=some p.2:=by simp [jy,List.find?_cons,e]
theorem tF{p:κ × V}{r:List (κ × V)}{k:κ}(e:¬p.1=k):jy (p ::r) k=jy r k:=by simp [jy,List.find?_cons,e]
theorem yh(k:κ):∀aw:List (κ × V),(aw.any fun kv=>decide (kv.1=k))=(jy aw k).isSome
 | []=>rfl
 | p ::r=>by
   rw[List.any_cons];by_cases e:p.1=k
   .simp only[sY e,decide_eq_true e,Bool.true_or,Option.isSome_some]
   .rw [tF e,decide_eq_false e,Bool.false_or];exact yh k r
theorem nR(aw:List (κ × V))(k:κ)(v:V):(putK aw k v).length<=aw.length+1:=by
 unfold putK;split
 .rw [List.length_map];omega
 .rw [List.length_append,List.length_cons,List.length_nil];omega
theorem mw.ij{o:Option V}{u:Option Value}(r:mw o u):o.isSome=u.isSome:=by
 cases o with
 | none=>cases u with
   | none=>rfl
   | some _=>exact(show False from r).elim
 | some _=>cases u with
   | none=>exact(show False from r).elim
   | some _=>rfl
theorem mw.getD{o:Option V}{u:Option Value}{d:V}{d':Value}(r:mw o u)(rd:RelV d d'):RelV (o.getD d) (u.getD d'):=by
 cases o with
 | none=>cases u with
   | none=>exact rd
   | some _=>exact(show False from r).elim
 | some _=>cases u with
   | none=>exact(show False from r).elim
   | some _=>exact r
theorem KV.val{aw:List (κ × V)}{vs:List (κ × Value)}(r:KV aw vs)(k:κ):mw (jy aw k) (valueAt vs k):=by
 unfold KV at r
 induction r with
 | nil=>exact True.intro
 | @cons p q ps qs h t ih=>
   obtain⟨h1,h2⟩:=h;by_cases e:p.1=k
   .have e':q.1=k:=h1.symm.trans e;have b:valueAt (q ::qs) k=some q.2:=by simp [valueAt,List.find?_cons,e']
    rw[sY e,b];exact h2
   .have e':¬q.1=k:=fun z=>e (h1.trans z)
    have b:valueAt (q ::qs) k=valueAt qs k:=by simp [valueAt,List.find?_cons,e']
    rw[tF e,b];exact ih
theorem KV.any{aw:List (κ × V)}{vs:List (κ × Value)}(r:KV aw vs)(k:κ):(aw.any fun kv=>decide (kv.1=k))=vs.any fun kv=>decide (kv.1=k):=by
 unfold KV at r
 induction r with
 | nil=>rfl
 | cons h t ih=>rw [List.any_cons,List.any_cons,ih,h.1]
theorem KV.Lj{aw:List (κ × V)}{vs:List (κ × Value)}(r:KV aw vs)(k:κ){y:V}{u:Value}(ry:RelV y u) :
 KV (aw.map fun kv=>if kv.1=k then(kv.1,y) else kv) (vs.map fun kv=>if kv.1=k then(kv.1,u) else kv):=by
 unfold KV at r ⊢
 induction r with
 | nil=>exact .nil
 | @cons p q ps qs h t ih=>
   rw[List.map_cons,List.map_cons];refine .cons ?_ ih;obtain⟨h1,h2⟩:=h;by_cases e:p.1=k
   .rw [if_pos e,if_pos (h1.symm.trans e)];exact⟨h1,ry⟩
   .rw [if_neg e,if_neg (fun z=>e (h1.trans z))];exact⟨h1,h2⟩
theorem KV.put{aw:List (κ × V)}{vs:List (κ × Value)}(r:KV aw vs)(k:κ){y:V}{u:Value}(ry:RelV y u):KV (putK aw k y) (stored vs k u):=by
 unfold putK stored;rw[r.any k];by_cases e:(vs.any fun kv=>decide (kv.1=k))=true
 .rw [if_pos e,if_pos e];exact r.Lj k ry
 .rw [if_neg e,if_neg e];exact Paired.snoc r ⟨rfl,ry⟩
theorem KV.length{aw:List (κ × V)}{vs:List (κ × Value)}(r:KV aw vs):aw.length=vs.length:=Paired.length r
end
theorem oY{k:Key}{u:Value}(r:RelV (kV k) u):(cK P w).is k u=true:=by
 cases k with
 | inl i=>obtain⟨t,e⟩:=(show ∃t,u=Value.int i t from r);subst e;exact xK P w i t
 | inr x=>obtain⟨t,e⟩:=(show ∃t,u=Value.str x t from r);subst e;exact ny P w x t
theorem uY:∀{ks:List Key} {us:List Value},Vals (ks.map kV) us->ItemsAre (cK P w) ks us
 | [],_,r=>by rw[List.map_nil] at r;cases r;exact .nil
 | k ::ks,_,r=>by
   rw[List.map_cons] at r;cases r with
   | cons h t=>exact .cons (oY h) (uY t)
abbrev KT(H:Hp):List (List Key × V)->List (List Key × Addr × Value)->Prop:=Paired fun p q=>p.1=q.1/\H q.2.1=some (.tup (p.1.map kV))/\RelV p.2 q.2.2
theorem KT.val{aw:List (List Key × V)}{xs:List (List Key × Addr × Value)}(r:KT H aw xs)(k:List Key):mw (jy aw k) ((atKey xs k).map (·.2)):=by
 induction r with
 | nil=>exact True.intro
 | @cons p q ps qs h t ih=>
   obtain⟨h1,_,h2⟩:=h;by_cases e:p.1=k
   .have e':q.1=k:=h1.symm.trans e;have b:atKey (q ::qs) k=some q.2:=by simp [atKey,List.find?_cons,e']
    rw[sY e,b];exact h2
   .have e':¬q.1=k:=fun z=>e (h1.trans z)
    have b:atKey (q ::qs) k=atKey qs k:=by simp [atKey,List.find?_cons,e']
    rw[tF e,b];exact ih
theorem KT.Lj{aw:List (List Key × V)}{xs:List (List Key × Addr × Value)}(r:KT H aw xs)(k:List Key){y:V}{u:Value}(ry:RelV y u) :
 KT H (aw.map fun kv=>if kv.1=k then(kv.1,y) else kv) (xs.map (putAt k u)):=by
 induction r with
 | nil=>exact .nil
 | @cons p q ps qs h t ih=>
   rw[List.map_cons,List.map_cons];refine .cons ?_ ih;obtain⟨h1,h2,h3⟩:=h;unfold putAt;by_cases e:p.1=k
   .rw [if_pos e,if_pos (h1.symm.trans e)];exact⟨h1,h2,ry⟩
   .rw [if_neg e,if_neg (fun z=>e (h1.trans z))];exact⟨h1,h2,h3⟩
theorem KT.put{H:Hp}{aw:List (List Key × V)}{xs:List (List Key × Addr × Value)}(r:KT H aw xs)(k:List Key){b:Addr}{y:V}{u:Value}(hb:H b=some (.tup (k.map kV)))(ry:RelV y u) :
 KT H (putK aw k y) (storedH xs k b u):=by
 have e:(aw.any fun kv=>decide (kv.1=k))=(atKey xs k).isSome:=by
  rw[yh,(r.val k).ij,Option.isSome_map]
 unfold putK storedH;rw[e];by_cases q:(atKey xs k).isSome=true
 .rw [if_pos q,if_pos q];exact r.Lj k ry
 .rw [if_neg q,if_neg q];exact Paired.snoc r ⟨rfl,hb,ry⟩
theorem KT.keeps{H H':Hp}{aw:List (List Key × V)}{xs:List (List Key × Addr × Value)}(r:KT H aw xs)(ht:∀b ys,H b=some (.tup ys)->H' b=some (.tup ys)):KT H' aw xs:=
 Paired.LX r fun _ _ z=>⟨z.1,ht _ _ z.2.1,z.2.2⟩
section
variable {P:Program} {w:World} {H:Hp} {h:Heap} {a:Addr}
theorem Ji{u:HO}(ok:mX P w H h)(e:Rd H a u):dP P w H h a u:=e.ok ok
theorem rC{aw:List (Key × V)}(ok:mX P w H h)(e:Rd H a (.dK aw)):aw.length<=sizeLine/\(a==sysModules)=false/\∃vs,KV aw vs/\h.DictOf (cK P w) a vs:=
 show dP P w H h a (.dK aw) from Ji ok e
theorem Js{aw:List (Key × V)}(ok:mX P w H h)(e:H a=some (.dK aw)):aw.length<=sizeLine/\(a==sysModules)=false/\∃vs,KV aw vs/\h.DictOf (cK P w) a vs:=rC ok (.inl e)
theorem qM{ks:List Key}(ok:mX P w H h)(e:H a=some (.tup (ks.map kV))):(tupleKind (cK P w)).is h ks a:=by
 obtain⟨_,its,r,o,h1,h2,n,h3⟩:=(show dP P w H h a (.tup (ks.map kV)) from ok a _ e)
 exact⟨o,its.toArray,n,h1,h2,h3,by simpa using uY r⟩
theorem tm{aw:List (List Key × V)}(ok:mX P w H h)(e:Rd H a (.dT aw)):aw.length<=sizeLine/\(a==sysModules)=false/\
 ∃xs,KT H aw xs/\h.DictOfH (tupleKind (cK P w)) a xs:=by
 obtain⟨z,y,xs,r,o,es,ep,h1,h2,h3,h4,h5⟩:=(show dP P w H h a (.dT aw) from Ji ok e)
 refine⟨z,y,xs,r,o,es,ep,h1,h2,h3,h4,fun x hx=>?_,h5⟩
 have all:∀{l:List (List Key × V)} {m:List (List Key × Addr × Value)},KT H l m->∀x∈m,(tupleKind (cK P w)).is h x.1 x.2.1:=by
  intro l m q
  induction q with
  | nil=>intro x hx;exact nomatch hx
  | @cons p q ps qs hq t ih=>
    intro x hx;rcases List.mem_cons.mp hx with e | hx
    .subst e;exact qM ok (by rw[<-hq.1];exact hq.2.1)
    .exact ih x hx
 exact all r x hx
theorem NF{aw:List (List Key × V)}(ok:mX P w H h)(e:H a=some (.dT aw)):aw.length<=sizeLine/\(a==sysModules)=false/\
 ∃xs,KT H aw xs/\h.DictOfH (tupleKind (cK P w)) a xs:=tm ok (.inl e)
end
def nH(H:Hp)(a:Addr)(y:V)(r:Option V):Prop:=
 (∃aw k,Rd H a (.dK aw)/\y=kV k/\r=jy aw k)\/∃aw k b,Rd H a (.dT aw)/\y= .ref b/\H b=some (.tup (k.map kV))/\r=jy aw k
def Cc(H:Hp)(a:Addr)(y v:V)(H':Hp):Prop:=
 (∃aw k,H a=some (.dK aw)/\y=kV k/\aw.length < sizeLine/\H'=upd H a (.dK (putK aw k v)))\/
 ∃aw k b,H a=some (.dT aw)/\y= .ref b/\H b=some (.tup (k.map kV))/\aw.length < sizeLine/\H'=upd H a (.dT (putK aw k v))
theorem nH.k{H:Hp}{a:Addr}{aw:List (Key × V)}{k:Key}(e:H a=some (.dK aw)):nH H a (kV k) (jy aw k):= .inl ⟨aw,k, .inl e,rfl,rfl⟩
theorem Cc.k{H:Hp}{a:Addr}{aw:List (Key × V)}{k:Key}{v:V}(e:H a=some (.dK aw))(hl:aw.length < sizeLine):Cc H a (kV k) v (upd H a (.dK (putK aw k v))):= .inl ⟨aw,k,e,rfl,hl,rfl⟩
section
variable {X:Cx} {pins:Y5} {σ:St} {H:Hp} {s:Shared} {a:Addr} {y v:V} {u r:Value} {o:Option V} {A:Around} {E:Y6}
theorem Inv.big(I:Inv X pins σ H s):sysModules < s.heap.objs.size:=by
 have h:mainGlobals < s.heap.objs.size:=(I.mod.glob.keeps I.bk).lt;exact Nat.lt_trans (by decide) h
theorem BZ{Q:Y6}(hu:A.units+1 < cLine)(I:Inv X pins σ H s)(g:nH H a y (some v))(ry:RelV y u)(h:∀w' s',Inv X pins σ H s'->RelV v w'->Q w' s') :
 wpAny (model X.prog X.w) A (getItem (.ref a) u) Q E s:=by
 rcases g with⟨aw,k,e,ey,l⟩ | ⟨aw,k,b,e,ey,eb,l⟩
 .subst ey;obtain⟨z,hd,vs,rel,dd⟩:=rC I.hok e;obtain⟨w',hw,yE⟩:=mw.some_of (v:=v) (o:=valueAt vs k) (by rw[l];exact rel.val k)
  exact wpAny_getItem_of (oY ry) dd.mapOf hw (h w' _ (I.tok _) yE)
 .subst ey;cases(show u=Value.ref b from ry)
  obtain⟨z,hd,xs,rel,dd⟩:=tm I.hok e;obtain⟨w',hw,yE⟩:=mw.some_of (v:=v) (o:=(atKey xs k).map (·.2)) (by rw[l];exact rel.val k)
  obtain⟨p,hp,X7⟩:=Option.map_eq_some_iff.mp hw;refine wpAny_getItem_heap (tupleKind_room_in1 hu) (qM I.hok eb) dd hp ?_;rw[X7];exact h w' _ (I.tok _) yE
theorem Qm{Q:Y6}(hu:A.units+1 < cLine)(I:Inv X pins σ H s)(g:nH H a y o)(ry:RelV y u)(h:∀s',Inv X pins σ H s'->Q (.bool o.isSome) s') :
 wpAny (model X.prog X.w) A (compareOp .In u (.ref a)) Q E s:=by
 rcases g with⟨aw,k,e,ey,l⟩ | ⟨aw,k,b,e,ey,eb,l⟩
 .subst ey;obtain⟨z,hd,vs,rel,dd⟩:=rC I.hok e;refine wpAny_in_of (oY ry) hd dd.mapOf ?_;rw[<-(rel.val k).ij,<-l];exact h _ (I.tok _)
 .subst ey;cases(show u=Value.ref b from ry)
  obtain⟨z,hd,xs,rel,dd⟩:=tm I.hok e;refine wpAny_in_heap (tupleKind_room_in1 hu) (qM I.hok eb) hd dd ?_;have q:=(rel.val k).ij;rw[Option.isSome_map] at q;rw[<-q,<-l];exact h _ (I.tok _)
theorem Iq{Q:Y6}(hu:A.units+1 < cLine)(I:Inv X pins σ H s)(g:nH H a y o)(ry:RelV y u)(h:∀s',Inv X pins σ H s'->Q (.bool (!o.isSome)) s') :
 wpAny (model X.prog X.w) A (compareOp .NotIn u (.ref a)) Q E s:=by
 rcases g with⟨aw,k,e,ey,l⟩ | ⟨aw,k,b,e,ey,eb,l⟩
 .subst ey;obtain⟨z,hd,vs,rel,dd⟩:=rC I.hok e;refine wpAny_notIn_of (oY ry) hd dd.mapOf ?_;rw[<-(rel.val k).ij,<-l];exact h _ (I.tok _)
 .subst ey;cases(show u=Value.ref b from ry)
  obtain⟨z,hd,xs,rel,dd⟩:=tm I.hok e;refine wpAny_notIn_heap (tupleKind_room_in1 hu) (qM I.hok eb) hd dd ?_;have q:=(rel.val k).ij;rw[Option.isSome_map] at q;rw[<-q,<-l];exact h _ (I.tok _)
theorem wM{h':Heap}{t':Nat}{ob:HO}(I:Inv X pins σ H s)(mu:Ol (H a))(hs:Heap.SameBut a s.heap h')(he:∃q,h'.get? a=some q)(new:dP X.prog X.w (upd H a ob) h' a ob) :
 Inv X pins σ (upd H a ob) {s with heap:=h',toks:=t'}:=
 I.write (x:=a) (e:=a) mu (.inl rfl) (fun b q hb z=>(hs.2 b hb).trans z) he new
theorem Ee{H':Hp}{h':Heap}{aw:List (Key × V)}{vs:List (Key × Value)}(z:aw.length<=sizeLine)(hd:(a==sysModules)=false)(rel:KV aw vs)(dd:h'.DictOf (cK P w) a vs) :
 dP P w H' h' a (.dK aw):=⟨z,hd,vs,rel,dd⟩
theorem BO{Q:Unit->Shared->Prop}(hu:A.units+1 < cLine)(I:Inv X pins σ H s)(g:Cc H a y v H')(ry:RelV y u)(rv:RelV v r)(h:∀s',Inv X pins σ H' s'->Q () s') :
 wpAny (model X.prog X.w) A (setItem (.ref a) u r) Q E s:=by
 rcases g with⟨aw,k,e,ey,l,eH⟩ | ⟨aw,k,b,e,ey,eb,l,eH⟩
 .subst ey eH;obtain⟨z,hd,vs,rel,dd⟩:=Js I.hok e;have hz:vs.length<=sizeLine:=by rw[<-rel.length];exact z
  have hl:(putK aw k v).length<=sizeLine:=by have:=nR aw k v;omega
  refine wpAny_setItem_pairs (hsz:=hz) (oY ry) dd fun h' Mu hs=>h _ ?_
  have he:∃q,h'.get? a=some q:=let⟨q,_,_,hq,_⟩:=Mu;⟨q,hq⟩
  exact wM I (by rw[e];exact True.intro) hs he (Ee hl hd (rel.put k rv) Mu)
 .subst ey eH;cases(show u=Value.ref b from ry)
  obtain⟨z,hd,xs,rel,dd⟩:=NF I.hok e;have hz:xs.length<=sizeLine:=by rw[<-Paired.length rel];exact z
  have hl:(putK aw k v).length<=sizeLine:=by have:=nR aw k v;omega
  refine wpAny_setItem_heap (hsz:=hz) (tupleKind_room_in1 hu) (qM I.hok eb) dd fun h' Mu hs=>h _ ?_
  obtain⟨q,es,ep,hq,h2,h3,h4,_,h5⟩:=Mu;refine wM I (by rw[e];exact True.intro) hs ⟨q,hq⟩ ⟨hl,hd,_,(rel.put k eb rv).keeps fun c ys ec=>?_,q,es,ep,hq,h2,h3,h4,h5⟩
  rw[a_ (Om ec e (fun z=>nomatch z))]
  exact ec
end
section
variable {X:Cx} {pins:Y5} {σ:St} {H:Hp} {s:Shared} {a:Addr} {aw:List (Key × V)} {k:Key} {u:Value} {A:Around} {E:Y6}
theorem MW{Q:Y6}(I:Inv X pins σ H s)(e:Rd H a (.dK aw))(h:∀t s',Inv X pins σ H s'->Q (.int aw.length t) s'):wpAny (model X.prog X.w) A (call (.builtin "len") [.ref a]) Q E s:=by
 obtain⟨z,hd,vs,rel,dd⟩:=rC I.hok e;refine call_len_dict hd dd (by rw[<-rel.length];rw [sizeLine_eq] at z;omega) ?_
 rw[<-rel.length];exact h _ _ (I.tok _)
end
def FQ(i:Expr):Prop:=∀ov iv,subscripted i false ov iv=operate [ov,iv] (getItem ov iv)
theorem AY{prog:Program}{w:World}{A:Around}{E:Y6}{s:Shared}{env:Env}{value slice:Expr}{pos:Pos}{T id:String}{Q:Y6}
 (hl:typeLookup (.type T) "__getitem__"=pure (some (.builtin id))) (hs:FQ slice)
 (h:wpAny (model prog w) A (eval value env) (fun o s₁=>wpAny (model prog w) A (eval slice env) (fun i uL=>uL.TypeIs o T/\wpAny (model prog w) A (getItem o i) Q E uL) E s₁) E s) :
 wpAny (model prog w) A (eval (.Subscript value slice pos) env) Q E s:=by
 refine Subscript_ (wpAny_mono h (fun o s₁ oJ=>wpAny_mono oJ (fun i uL Mr=>?_) fun _ _ x=>x) fun _ _ x=>x)
 obtain⟨hT,Mr⟩:=Mr;unfold subscriptTail;refine wpAny_bind ?_;rw[getitemInPython_of_ne hT.not_modules];refine wpAny_bind (wpAny_specialOf hT hl ?_);have fin:wpAny (model prog w) A (subscripted slice false o i) (fun r IS=>wpAny (model prog w) A (letTemporaryGo value o r >>=fun _=>pure r) Q E IS) E uL:=by
  rw[hs o i];exact wpAny_operating (wpAny_mono Mr (fun r IS S8=>wpAny_bind (wpAny_letTemporaryGo (wpAny_pure S8))) fun _ _ x=>x)
 first
  | exact wpAny_pure (wpAny_bind fin)
  | exact wpAny_bind (wpAny_pure (wpAny_bind fin))
  | exact wpAny_bind fin
theorem xr{X:Cx}{pins:Y5}{s:Shared}{a:Addr}{y:V}{o:Option V}(I:Inv X pins σ H s)(g:nH H a y o):s.TypeIs (.ref a) "dict":=by
 rcases g with⟨aw,k,e,_,_⟩ | ⟨aw,k,b,e,_,_,_⟩
 .obtain⟨_,_,vs,_,dd⟩:=rC I.hok e;exact dd.typeIs
 .obtain⟨_,_,xs,_,dd⟩:=tm I.hok e;exact dd.typeIs
def Ot(td ty:TE):TE:=fun σ H Q=>td σ H fun x H1=>ty σ H1 fun y H2=>∃a v,x= .ref a/\nH H2 a y (some v)/\Q v H2
def Qq(ty td:TE):TE:=fun σ H Q=>ty σ H fun y H1=>td σ H1 fun x H2=>∃a o,x= .ref a/\nH H2 a y o/\Q (.bl o.isSome) H2
def GR(ty td:TE):TE:=fun σ H Q=>ty σ H fun y H1=>td σ H1 fun x H2=>∃a o,x= .ref a/\nH H2 a y o/\Q (.bl (!o.isSome)) H2
def OB(td ty tv:TE):TS:=fun D σ H=>tv σ H fun v H1=>td σ H1 fun x H2=>ty σ H2 fun y H3=>∃a H4,x= .ref a/\Cc H3 a y v H4/\D.nx σ H4
def UJ(td ty tv:TE)(rd:V->V->Hp->VK->Prop):TS:=fun D σ H=>td σ H fun x H1=>ty σ H1 fun y H2=>∃a v,x= .ref a/\nH H2 a y (some v)/\
 tv σ H2 fun y2 H3=>rd v y2 H3 fun z H4=>∃H5,Cc H4 a y z H5/\D.nx σ H5
def Uq(td ty:TE):TS:=fun D σ H=>td σ H fun x H1=>ty σ H1 fun y H2=>∃a aw k,x= .ref a/\H2 a=some (.dK aw)/\y=kV k/\(jy aw k).isSome=true/\D.nx σ (upd H2 a (.dK (Dj aw k)))
section
variable {X:Cx} {o i e value:Expr} {pos pos' RT:Pos} {td ty tv:TE}
theorem Bh(hu:X.A.units+1 < cLine)(ho:PE X o td)(hi:PE X i ty)(hs:FQ i):PE X (.Subscript o i pos) (Ot td ty):=by
 intro pins s σ H Q I h;refine AY PySem.F.slot_dict_getitem.lookup hs (cJ (ho pins s σ H _ I h) fun u s1 ⟨x,H1,I1,rx,q1⟩=>cJ (hi pins s1 σ H1 _ I1 q1) fun iv s2 ⟨y,H2,I2,ry,a,v,ex,g,q2⟩=>?_)
 subst ex;obtain rfl:u=Value.ref a:=rx;exact⟨xr I2 g,BZ hu I2 g ry fun w' s3 I3 yE=>⟨v,H2,I3,yE,q2⟩⟩
theorem Le(hu:X.A.units+1 < cLine)(hi:PE X i ty)(ho:PE X o td):PC X .In i o (Qq ty td):=by
 intro pins s σ H Q I h;refine cJ (hi pins s σ H _ I h) fun iv s1 ⟨y,H1,I1,ry,q1⟩=>cJ (ho pins s1 σ H1 _ I1 q1) fun u s2 ⟨x,H2,I2,rx,a,ov,ex,g,q2⟩=>?_
 subst ex;obtain rfl:u=Value.ref a:=rx;exact Qm hu I2 g ry fun s3 I3=>⟨.bl ov.isSome,H2,I3,rfl,q2⟩
theorem Cu(hu:X.A.units+1 < cLine)(hi:PE X i ty)(ho:PE X o td):PC X .NotIn i o (GR ty td):=by
 intro pins s σ H Q I h;refine cJ (hi pins s σ H _ I h) fun iv s1 ⟨y,H1,I1,ry,q1⟩=>cJ (ho pins s1 σ H1 _ I1 q1) fun u s2 ⟨x,H2,I2,rx,a,ov,ex,g,q2⟩=>?_
 subst ex;obtain rfl:u=Value.ref a:=rx;exact Iq hu I2 g ry fun s3 I3=>⟨.bl (!ov.isSome),H2,I3,rfl,q2⟩
theorem Ir(hu:X.A.units+1 < cLine)(ho:PE X o td)(hi:PE X i ty)(hv:PE X value tv)(hs:swapsWith value (some (.Subscript o i pos')) pos.line X.env=pure false) :
 PS X (.Assign [.Subscript o i pos'] value pos) (OB td ty tv):=by
 intro pins s σ H D I h;refine wpAny_Assign_Subscript (cJ (hv pins s σ H _ I h) fun r s1 ⟨v,H1,I1,rv,q1⟩=>cJ (ho pins s1 σ H1 _ I1 q1) fun u s2 ⟨x,H2,I2,rx,q2⟩=>cJ (hi pins s2 σ H2 _ I2 q2) fun iv s3 ⟨y,H3,I3,ry,a,H4,ex,g,q3⟩=>?_) hs
 subst ex;obtain rfl:u=Value.ref a:=rx;exact BO hu I3 g ry rv fun s4 I4=>⟨σ,H4,I4,q3⟩
end
theorem yw(h:Heap)(hb:sysModules < h.objs.size):dP P w H (h.push {cls:= .type "dict",data:= .dict #[]}) h.objs.size (.dK []):=
 ⟨Nat.zero_le _,beq_eq_false_iff_ne.mpr (Ne.symm (Nat.ne_of_lt hb)),[], .nil,Heap.DictOf.new h⟩
def J2:TE:=fun _ H Q=>∀p,H p=none->Q (.ref p) (upd H p (.dK []))
def P5:TE:=fun _ H Q=>∀p,H p=none->Q (.ref p) (upd H p (.dT []))
section
variable {X:Cx} {pos:Pos}
theorem CW:PE X (.Dict [] [] pos) J2:=fun pins s σ H Q I h=>
 wpAny_Dict_empty ⟨.ref s.heap.objs.size,_,I.laid (a:=s.heap.objs.size) (o:= .dK []) (t':=s.toks) (fun _ _ q=>Heap.get?_push_of_some _ q) (Nat.le_refl _) (yw s.heap I.big),rfl,h _ (I.hok.fresh (Nat.le_refl _))⟩
end
def o_:List (TE × TE)->St->Hp->(List (V × V)->Hp->Prop)->Prop
 | [],_,H,Q=>Q [] H
 | (tk,tv) ::r,σ,H,Q=>tk σ H fun x H1=>tv σ H1 fun y H2=>o_ r σ H2 fun ps H3=>Q ((x,y) ::ps) H3
abbrev VV:List (V × V)->List (Value × Value)->Prop:=Paired fun p q=>RelV p.1 q.1/\RelV p.2 q.2
def I0(X:Cx)(pos:Pos)(keys:List (Option Expr))(values:List Expr)(ua:List (TE × TE)):Prop:=
 ∀(pins:Y5) (s:Shared) (σ:St) (H:Hp) (Q:List (V × V)->Hp->Prop),Inv X pins σ H s->o_ ua σ H Q->
  wpAny (model X.prog X.w) X.A (evalPairs (pairTrees keys values X.env pos)) (fun vs s'=>∃ps H',Inv X pins σ H' s'/\VV ps vs/\Q ps H') X.xe s
theorem wK{X:Cx}:I0 X pos [] [] []:=fun pins s σ H Q I h=>pairTrees_nil_walk ⟨[],H,I, .nil,h⟩
theorem kg{X:Cx}{ks:List (Option Expr)}{tk tv:TE}{ua:List (TE × TE)}(hk:PE X k tk)(hv:PE X v tv)(hr:I0 X pos ks vs ua) :
 I0 X pos (some k ::ks) (v ::vs) ((tk,tv) ::ua):=fun pins s σ H Q I h=>
 pairTrees_cons_walk (cJ (hk pins s σ H _ I h) fun u s1 ⟨x,H1,I1,rx,q1⟩=>cJ (hv pins s1 σ H1 _ I1 q1) fun w2 s2 ⟨y,H2,I2,ry,q2⟩=>
  cJ (hr pins s2 σ H2 _ I2 q2) fun ws s3 ⟨ps,H3,I3,rel,q3⟩=>⟨(x,y) ::ps,H3,I3, .cons ⟨rx,ry⟩ rel,q3⟩)
def k7(aw more:List (Key × V)):List (Key × V):=more.foldl (fun acc kv=>putK acc kv.1 kv.2) aw
theorem KV.merge:∀{more:List (Key × V)} {rs:List (Key × Value)} {aw:List (Key × V)} {vs:List (Key × Value)},KV more rs->KV aw vs->KV (k7 aw more) (merged vs rs):=by
 intro more rs aw vs r;unfold KV at r
 induction r generalizing aw vs with
 | nil=>intro q;exact q
 | @cons p q ps qs h t ih=>
   intro r0;have e:KV (putK aw p.1 p.2) (stored vs q.1 q.2):=by
    have:=r0.put p.1 h.2;rw[<-h.1];exact this
   exact ih e
theorem oV:∀(more aw:List (Key × V)),(k7 aw more).length<=aw.length+more.length
 | [],aw=>by show aw.length<=aw.length+0;omega
 | p ::r,aw=>by
   have h1:=oV r (putK aw p.1 p.2);have h2:=nR aw p.1 p.2;show(k7 (putK aw p.1 p.2) r).length<=_;rw[List.length_cons];omega
theorem t9:∀{aw:List (Key × V)} {ws:List (Value × Value)},VV (aw.map fun kv=>(kV kv.1,kv.2)) ws->∃rs,Carries (cK P w) ws rs/\KV aw rs
 | [],_,r=>by rw[List.map_nil] at r;cases r;exact⟨[],True.intro, .nil⟩
 | p ::aw,_,r=>by
   rw[List.map_cons] at r;cases r with
   | @cons a b as bs h t=>
     obtain⟨rs,c,q⟩:=t9 (P:=P) (w:=w) t;obtain⟨b1,b2⟩:=b;exact⟨(p.1,b2) ::rs,⟨oY h.1,rfl,c⟩, .cons ⟨rfl,h.2⟩ q⟩
def Fu(ua:List (TE × TE)):TE:=fun σ H Q=>∀p,H p=none->o_ ua σ (upd H p (.dK [])) fun ps H2=>H2 p=some (.dK [])/\∃aw:List (Key × V),ps=aw.map (fun kv=>(kV kv.1,kv.2))/\aw.length<=15/\Q (.ref p) (upd H2 p (.dK (k7 [] aw)))
theorem AK{X:Cx}{pos:Pos}{keys:List (Option Expr)}{values:List Expr}{ua:List (TE × TE)}(h:I0 X pos keys values ua)(yF:keys.all (·.isSome)=true)(hl:keys.length=values.length)(h0:keys≠[])
 (RB:keys.length<=15):PE X (.Dict keys values pos) (Fu ua):=by
 intro pins s σ H Q I q;have hn:=I.hok.fresh (Nat.le_refl s.heap.objs.size);have I1:=I.laid (a:=s.heap.objs.size) (o:= .dK []) (h':=s.heap.push {cls:= .type "dict",data:= .dict #[]}) (t':=s.toks) (fun _ _ q=>Heap.get?_push_of_some _ q) (Nat.le_refl _) (yw s.heap I.big)
 refine wpAny_Dict_walk (knd:=cK X.prog X.w) yF hl h0 RB (cJ (h pins _ σ _ _ I1 (q _ hn)) fun ws s2 ⟨ps,H2,I2,rel,e,aw,ep,lk,q2⟩=>?_)
 subst ep;obtain⟨rs,c,rk⟩:=t9 (P:=X.prog) (w:=X.w) rel;obtain⟨z,hd,YW,r0,dd⟩:=Js I2.hok e;cases r0;refine⟨rs,c,dd,fun h' Mu hs=>⟨.ref s.heap.objs.size,_,?_,rfl,q2⟩⟩
 have hz:(k7 [] aw).length<=sizeLine:=by
  have h1:=oV aw [];rw[List.length_nil] at h1;rw[sizeLine_eq];omega
 have he:∃q,h'.get? s.heap.objs.size=some q:=let⟨q,_,_,hq,_⟩:=Mu;⟨q,hq⟩
 exact wM I2 (by rw[e];exact True.intro) hs he (Ee hz hd (rk.merge .nil) Mu)
structure M1 (X:Cx) (o:Expr) (m:Str) (apos:Pos) (e:Expr) (bf:Pos):Prop where
 base:attributeBase o m X.env (eval o X.env)=eval o X.env
 few:((backTo bf (starEach [e] X.env)).all (fun x=>!x.1) && (backToKw bf (keywordEach [] X.env)).all (fun x=>x.1.isSome)
  && decide (([e]:List Expr).length+([]:List Keyword).length+(if([]:List Keyword).isEmpty then 0 else 1) < 30))=true
 line:(apos.endLine==bf.line)=true
 trees:backTo bf (starEach [e] X.env)=[(false,eval e X.env)]
structure M2 (X:Cx) (o:Expr) (m:Str) (apos:Pos) (e f:Expr) (bf:Pos):Prop where
 base:attributeBase o m X.env (eval o X.env)=eval o X.env
 few:((backTo bf (starEach [e,f] X.env)).all (fun x=>!x.1) && (backToKw bf (keywordEach [] X.env)).all (fun x=>x.1.isSome)
  && decide (([e,f]:List Expr).length+([]:List Keyword).length+(if([]:List Keyword).isEmpty then 0 else 1) < 30))=true
 line:(apos.endLine==bf.line)=true
 trees:backTo bf (starEach [e,f] X.env)=[(false,eval e X.env),(false,eval f X.env)]
def OE(H:Hp)(a:Addr):Prop:=(∃aw,Rd H a (.dK aw))\/∃aw,Rd H a (.dT aw)
theorem L_{X:Cx}{pins:Y5}{s:Shared}{a:Addr}(I:Inv X pins σ H s)(d:OE H a) :
 s.TypeIs (.ref a) "dict"/\(∀b,Value.ref a= .ref b->∃ob,s.heap.get? b=some ob/\ob.dict=none)/\(a==sysModules)=false:=by
 rcases d with⟨aw,e⟩ | ⟨aw,e⟩
 .obtain⟨_,hd,vs,_,dd⟩:=rC I.hok e;refine⟨dd.typeIs,fun b q=>?_,hd⟩
  cases q;obtain⟨ob,_,_,h1,h2,_⟩:=dd;exact⟨ob,h1,h2.2.1⟩
 .obtain⟨_,hd,xs,_,dd⟩:=tm I.hok e;refine⟨dd.typeIs,fun b q=>?_,hd⟩
  cases q;obtain⟨ob,_,_,h1,h2,_⟩:=dd;exact⟨ob,h1,h2.2.1⟩
section
variable {X:Cx} {pins:Y5} {σ:St} {H:Hp} {s:Shared} {a:Addr} {y d:V} {u r:Value} {o:Option V} {A:Around} {E:Y6}
theorem LW{Q:Y6}(hu:A.units+1 < cLine)(I:Inv X pins σ H s)(g:nH H a y o)(ry:RelV y u)(rd:RelV d r)(h:∀w' s',Inv X pins σ H s'->RelV (o.getD d) w'->Q w' s') :
 wpAny (model X.prog X.w) A (call (.builtin "dict.get") [.ref a,u,r]) Q E s:=by
 rcases g with⟨aw,k,e,ey,l⟩ | ⟨aw,k,b,e,ey,eb,l⟩
 .subst ey;obtain⟨z,hd,vs,rel,dd⟩:=rC I.hok e;refine call_meetsIn PySem.F.slot_dict_get dd.typeIs PySem.F.entry_dict_get (PySem.F.args_dict_get_3 _ _ _) (meets_dict_get_default (cK X.prog X.w) a (oY ry) hd r) ⟨_,dd.mapOf,h _ _ (I.tok _) ?_⟩;rw[l];exact(rel.val k).getD rd
 .subst ey;cases(show u=Value.ref b from ry)
  obtain⟨z,hd,xs,rel,dd⟩:=tm I.hok e;refine call_meetsIn PySem.F.slot_dict_get dd.typeIs PySem.F.entry_dict_get (PySem.F.args_dict_get_3 _ _ _) (meetsH_dict_get_default (tupleKind (cK X.prog X.w)) a b hd r) ⟨tupleKind_room_in1 hu,k,xs,qM I.hok eb,dd,h _ _ (I.tok _) ?_⟩;rw[l];exact(rel.val k).getD rd
end
def Qg(td ty:TE):TE:=fun σ H Q=>td σ H fun x H1=>∃a,x= .ref a/\OE H1 a/\ty σ H1 fun y H2=>∃o,nH H2 a y o/\Q (o.getD .cD) H2
def Kl(td ty tx:TE):TE:=fun σ H Q=>td σ H fun x H1=>∃a,x= .ref a/\OE H1 a/\ty σ H1 fun y H2=>tx σ H2 fun z H3=>∃o,nH H3 a y o/\Q (o.getD z) H3
def Qc(td ty:TE):TE:=fun σ H Q=>td σ H fun x H1=>∃a,x= .ref a/\OE H1 a/\ty σ H1 fun y H2=>∃aw k v,H2 a=some (.dK aw)/\y=kV k/\jy aw k=some v/\Q v (upd H2 a (.dK (Dj aw k)))
def Py(td ty tx:TE):TE:=fun σ H Q=>td σ H fun x H1=>∃a,x= .ref a/\OE H1 a/\ty σ H1 fun y H2=>tx σ H2 fun z H3=>∃aw k,H3 a=some (.dK aw)/\y=kV k/\
 (∀v,jy aw k=some v->Q v (upd H3 a (.dK (Dj aw k))))/\(jy aw k=none->Q z H3)
section
variable {X:Cx} {o e f:Expr} {apos bf:Pos} {td ty tx:TE}
theorem Ex(hu:X.A.units+1 < cLine)(ho:PE X o td)(he:PE X e ty)(hf:PE X f tx)(m:M2 X o "get" apos e f bf):PE X (.Call (.Attribute o "get" apos) [e,f] [] bf) (Kl td ty tx):=by
 intro pins s σ H Q I h;refine wpAny_Call_method m.base m.few m.line PySem.F.plainAttrs_dict PySem.F.slot_dict_get PySem.F.type_dict_get (cJ (ho pins s σ H _ I h) fun u s1 ⟨x,H1,I1,rx,a,ex,d,q1⟩=>?_)
 subst ex;obtain rfl:u=Value.ref a:=rx;obtain⟨t1,t2,_⟩:=L_ I1 d;refine⟨t1,t2,?_⟩;rw[m.trees];refine Calls.callWith_builtin rfl (Calls.evalArgs_plain (Calls.spliced_cons (cJ (he pins s1 σ H1 _ I1 q1) fun iv s2 ⟨y,H2,I2,ry,q2⟩=>
  Calls.spliced_cons (cJ (hf pins s2 σ H2 _ I2 q2) fun fv s3 ⟨z,H3,I3,rz,ov,g,q3⟩=>Calls.spliced_nil ?_))))
 exact LW hu I3 g ry rz fun w' s4 I4 yE=>⟨_,H3,I4,yE,q3⟩
end
section
variable {X:Cx} {pins:Y5} {σ:St} {H:Hp} {s:Shared} {a:Addr} {aw:List (Key × V)} {A:Around} {E:Y6}
end
section
variable {X:Cx} {pins:Y5} {σ:St} {H:Hp} {s:Shared} {a:Addr} {y:V} {u:Value} {A:Around} {E:Y6}
end
end L2
namespace HT
open PySem PyProof.Rows
def lexLt:List Int->List Int->Bool
 | [],[]=>false
 | [],_ ::_=>true
 | _ ::_,[]=>false
 | x ::xs,y ::ys=>if x=y then lexLt xs ys else decide (x < y)
section
open PySem.SeqAt
open PySem.AutoSeq1 (wpAny_loadPart')
open PySem.MeetsSeq PySem.MeetsSeq2 PySem.MeetsSeq3
end
section
variable {prog:Program} {w:World} {A:Around} {E:Y6} {s:Shared}
def r_(n d:Nat):Option Int->Nat
 | none=>d
 | some v=>if v < 0 then(v+(n:Int)).toNat else min v.toNat n
theorem xY(n d:Nat):r_ n d none=d:=rfl
theorem An(n d k:Nat):r_ n d (some (k:Int))=min k n:=by
 show(if(k:Int) < 0 then((k:Int)+(n:Int)).toNat else min (k:Int).toNat n)=min k n
 rw[if_neg (by omega),Int.toNat_natCast]
end
end HT
namespace L2
open PySem PySem.Spec PyProof.Rows
abbrev TO:=St->Hp->(Option Int->Hp->Prop)->Prop
def PO(X:Cx)(e:Option Expr)(t:TO):Prop:=
 ∀(pins:Y5) (s:Shared) (σ:St) (H:Hp) (Q:Option Int->Hp->Prop),Inv X pins σ H s->t σ H Q->
  wpAny (model X.prog X.w) X.A (evalPart e X.env) (fun u s'=>∃o H',Inv X pins σ H' s'/\IsPart u o/\Q o H') X.xe s
def HP:TO:=fun _ H Q=>Q none H
def M0(t:TE):TO:=fun σ H Q=>t σ H fun x H1=>∃i,x= .int i/\Q (some i) H1
section
variable {X:Cx} {e:Expr} {te:TE} {lo hi:Option Expr} {tl th:TO} {pos p2:Pos}
theorem II:PO X none HP:=by
 intro pins s σ H Q I h;rw[evalPart_none];exact wpAny_pure ⟨none,H,I, .none,h⟩
theorem GL(h:PE X e te):PO X (some e) (M0 te):=by
 intro pins s σ H Q I hw;rw[evalPart_some];refine cJ (h pins s σ H _ I hw) fun u s1 ⟨x,H1,I1,r1,q1⟩=>?_
 obtain⟨i,rfl,q⟩:=q1;obtain⟨t,rfl⟩:=r1;exact⟨some i,H1,I1, .int i t,q⟩
def K9(X:Cx)(r:V->Option Int->Option Int->Hp->VK->Prop):Prop:=
 ∀(pins:Y5) (s:Shared) (σ:St) (H:Hp) (x:V) (v vl vu:Value) (lo hi:Option Int) (sl:Addr) (Q:VK),Inv X pins σ H s->RelV x v->s.heap.IsSliceOf sl vl vu .none->IsPart vl lo->IsPart vu hi->r x lo hi H Q->
  ∃T id,typeLookup (.type T) "__getitem__"=pure (some (.builtin id))/\s.TypeIs v T/\wpAny (model X.prog X.w) X.A (getItem v (.ref sl)) (EP X pins σ Q) X.xe s
theorem K9.or{r r':V->Option Int->Option Int->Hp->VK->Prop}(h:K9 X r)(h':K9 X r'):K9 X (fun x lo hi H Q=>r x lo hi H Q\/r' x lo hi H Q):=by
 intro pins s σ H x v vl vu lo hi sl Q I rx hs pl pu q;rcases q with q | q
 .exact h pins s σ H x v vl vu lo hi sl Q I rx hs pl pu q
 .exact h' pins s σ H x v vl vu lo hi sl Q I rx hs pl pu q
def VA(r:V->Option Int->Option Int->Hp->VK->Prop)(te:TE)(tl th:TO):TE:=fun σ H Q=>te σ H fun x H1=>tl σ H1 fun l H2=>th σ H2 fun u H3=>r x l u H3 Q
theorem Fx{r:V->Option Int->Option Int->Hp->VK->Prop}(hr:K9 X r)(he:PE X e te)(hl:PO X lo tl)(hu:PO X hi th):PE X (.Subscript e (.Slice lo hi none p2) pos) (VA r te tl th):=by
 intro pins s σ H Q I h;refine Subscript_ (cJ (he pins s σ H _ I h) fun v s1 ⟨x,H1,I1,r1,q1⟩=>?_)
 refine wpAny_Slice (cJ (hl pins s1 σ H1 _ I1 q1) fun vl s2 ⟨l,H2,I2,pl,q2⟩=>cJ (hu pins s2 σ H2 _ I2 q2) fun vu s3 ⟨u,H3,I3,pu,q3⟩=>?_)
 rw[evalPart_none];refine wpAny_pure ?_;have I4:Inv X pins σ H3 {s3 with heap:=s3.heap.push {cls:= .type "slice",data:= .fields #[vl,vu, .none]}}:=I3.kept (t':=s3.toks) fun b ob q=>Heap.get?_push_of_some _ q
 obtain⟨T,id,hT,ht,hg⟩:=hr pins {s3 with heap:=s3.heap.push {cls:= .type "slice",data:= .fields #[vl,vu, .none]}} σ H3 x v vl vu l u s3.heap.objs.size Q I4 r1 (Heap.IsSliceOf.new ..) pl pu q3
 show wpAny (model X.prog X.w) X.A (subscriptTail e (.Slice lo hi none p2) v (.ref s3.heap.objs.size)) (EP X pins σ Q) X.xe {s3 with heap:=s3.heap.push {cls:= .type "slice",data:= .fields #[vl,vu, .none]}}
 exact tail_any (ops:=[.ref s3.heap.objs.size,v]) ht hT hg (by with_unfolding_all rfl)
def zM(xs:List V)(lo hi:Option Int):List V:=(xs.drop (HT.r_ xs.length 0 lo)).take (HT.r_ xs.length xs.length hi - HT.r_ xs.length 0 lo)
theorem xO(xs:List V)(lo hi:Option Int):(zM xs lo hi).length<=xs.length:=by
 unfold zM;rw[List.length_take,List.length_drop];omega
def Ve(K:W.Frag):V->Option Int->Option Int->Hp->VK->Prop:=fun x lo hi H Q=>∃a xs,x= .ref a/\q9 K H a xs/\
 ¬(HT.r_ xs.length 0 lo=0/\HT.r_ xs.length xs.length hi=xs.length)/\∀p,H p=none->Q (.ref p) (upd H p (.tup (zM xs lo hi)))
def W0(K:W.Frag):R2:=fun x y H Q=>∃a b ns ms,x= .ref a/\y= .ref b/\q9 K H a (ns.map V.int)/\q9 K H b (ms.map V.int)/\Q (.bl (HT.lexLt ns ms)) H
def Ug(K:W.Frag):R2:=fun x y H Q=>∃a b xs ys,x= .ref a/\y= .ref b/\q9 K H a xs/\q9 K H b ys/\xs≠[]/\xs.length+ys.length<=sizeLine/\
 (ys=[]->Q (.ref a) H)/\(ys≠[]->∀p,H p=none->Q (.ref p) (upd H p (.tup (xs++ys))))
end
def Fe(n:Nat)(i:Int):Option Nat:=if 0<=i then(if i < n then some i.toNat else none) else if -(n:Int)<=i then some (i+n).toNat else none
def wY{α:Type}(xs:List α)(i:Int):Option α:=(Fe xs.length i).bind fun j=>xs[j]?
theorem G8{n:Nat}{i:Int}{j:Nat}(h:Fe n i=some j):seqIndex? i n=some j/\j < n/\ -(n:Int)<=i/\i < n:=by
 unfold Fe at h;by_cases h0:0<=i
 .rw [if_pos h0] at h;by_cases h1:i < n
  .rw [if_pos h1] at h;have e:i.toNat=j:=Option.some.inj h;exact⟨by rw[seqIndex_of h0 h1,e],by omega,by omega,h1⟩
  .rw [if_neg h1] at h;cases h
 .rw [if_neg h0] at h;by_cases h1: -(n:Int)<=i
  .rw [if_pos h1] at h;have e:(i+n).toNat=j:=Option.some.inj h;exact⟨by rw[seqIndex_neg (by omega) h1,e],by omega,h1,by omega⟩
  .rw [if_neg h1] at h;cases h
theorem wO{α:Type}{xs:List α}{i:Int}{v:α}(h:wY xs i=some v):∃j,seqIndex? i xs.length=some j/\xs[j]? =some v/\j < xs.length/\ -(xs.length:Int)<=i/\i < xs.length:=by
 unfold wY at h;cases e:Fe xs.length i with
 | none=>rw [e] at h;cases h
 | some j=>
   rw[e] at h;obtain⟨h1,h2,h3,h4⟩:=G8 e;exact⟨j,h1,h,h2,h3,h4⟩
def vy(b:Expr):Prop:=∀o i,subscripted b false o i=operate [o,i] (getItem o i)
def HE(X:Cx)(r:R2):Prop:=
 ∀(value slice:Expr) (pins:Y5) (s:Shared) (σ:St) (H:Hp) (x y:V) (v u:Value) (Q:VK),Inv X pins σ H s->RelV x v->RelV y u->r x y H Q->
  subscripted slice false v u=operate [v,u] (getItem v u)->wpAny (model X.prog X.w) X.A (subscriptTail value slice v u) (EP X pins σ Q) X.xe s
def TZ(X:Cx)(id:String)(r:V->List V->Hp->VK->Prop):Prop:=
 ∀(pins:Y5) (s:Shared) (σ:St) (H:Hp) (x:V) (xs:List V) (v:Value) (us:List Value) (Q:VK),Inv X pins σ H s->RelV x v->Vals xs us->r x xs H Q->
  wpAny (model X.prog X.w) X.A (call (.builtin id) (v ::us)) (EP X pins σ Q) X.xe s
section
variable {X:Cx} {a b:Expr} {ta tb:TE} {pos:Pos}
theorem HE.or{r r':R2}(h:HE X r)(h':HE X r'):HE X (fun x y H Q=>r x y H Q\/r' x y H Q):=by
 intro value slice pins s σ H x y v u Q I rx ry q hs;rcases q with q | q
 .exact h value slice pins s σ H x y v u Q I rx ry q hs
 .exact h' value slice pins s σ H x y v u Q I rx ry q hs
theorem Nz{r:R2}(hr:HE X r)(ha:PE X a ta)(hb:PE X b tb)(hs:vy b):PE X (.Subscript a b pos) (MI r ta tb):=by
 intro pins s σ H Q I h;exact Subscript_ (Ld ha hb I h fun v u s2 x y H2 I2 rx ry q=>hr a b pins s2 σ H2 x y v u Q I2 rx ry q (hs _ _))
def Ng(K:W.Frag):R2:=fun x y H Q=>∃p xs i v,x= .ref p/\y= .int i/\oz K H p xs/\wY xs i=some v/\Q v H
def M_(K:W.Frag):R2:=fun x y H Q=>∃p xs i v,x= .ref p/\y= .int i/\q9 K H p xs/\wY xs i=some v/\Q v H
def Nb:R2:=fun x y H Q=>∃z i c,x= .str z/\y= .int i/\z.length<=sizeLine/\wY z.cps.toList i=some c/\Q (.str ⟨#[c]⟩) H
theorem GO:HE X (Ng X.K):=by
 intro value slice pins s σ H x y v u Q I rx ry h hs;obtain⟨p,xs,i,z,rfl,rfl,hq,he,q⟩:=h;cases rx;obtain⟨t,rfl⟩:=ry;obtain⟨its,r,pl,hz⟩:=I.list hq;obtain⟨j,h1,h2,h3,h4,h5⟩:=wO he;obtain⟨w,ew,yE⟩:=r.get h2;have hl:=r.length;have hn:=qO;have fin:EP X pins σ Q w s:=⟨z,H,I,yE,q⟩;by_cases h0:0<=i
 .have hj:i.toNat=j:=by
   rw[seqIndex_of h0 h5] at h1;exact Option.some.inj h1
  exact item_listR pl.isList h0 (by omega) (by rw[hj];simpa using ew) fin hs
 .have hj:(i+(its.toArray.size:Int)).toNat=j:=by
   rw[seqIndex_neg (by omega) h4] at h1
   rw[List.size_toArray,<-hl];exact Option.some.inj h1
  exact subscriptTail_builtinR (x:=w) pl.isList.typeIs slot_list_getitem.lookup
   (wpAny_getItem_list_neg (Q:=fun r s'=>r=w/\EP X pins σ Q r s') pl.isList (by omega) (by rw[List.size_toArray] <;> omega) (by omega) (by rw[hj];simpa using ew) ⟨rfl,fin⟩) hs
theorem Lu:HE X (M_ X.K):=by
 intro value slice pins s σ H x y v u Q I rx ry h hs;obtain⟨p,xs,i,z,rfl,rfl,hq,he,q⟩:=h;cases rx;obtain⟨t,rfl⟩:=ry;obtain⟨its,r,pl,hz⟩:=I.tuple hq;obtain⟨j,h1,h2,h3,h4,h5⟩:=wO he;obtain⟨w,ew,yE⟩:=r.get h2;have hl:=r.length;have hn:=qO;have fin:EP X pins σ Q w s:=⟨z,H,I,yE,q⟩;exact subscriptTail_builtinR (x:=w) pl.typeIs slot_tuple_getitem.lookup
  (getItem_tuple (j:=j) (Q:=fun r s'=>r=w/\EP X pins σ Q r s') pl (by omega) (by omega) (by rw[List.size_toArray,<-hl];exact h1) (by simpa using ew) ⟨rfl,fin⟩) hs
theorem J0:HE X Nb:=by
 intro value slice pins s σ H x y v u Q I rx ry h hs;obtain⟨z,i,c,rfl,rfl,hz,he,q⟩:=h;obtain⟨t,rfl⟩:=rx;obtain⟨t',rfl⟩:=ry;obtain⟨j,h1,h2,h3,h4,h5⟩:=wO he;have hl:z.cps.toList.length=z.length:=by simp [Str.length]
 rw[hl] at h1 h4 h5;have hn:=qO;exact tail_any (typeIs_str s z t) slot_str_getitem.lookup (getItem_str (c:=c) (by
  have e1:decide (i < -(2 ^ 63:Int))=false:=decide_eq_false (by omega)
  have e2:decide (i>=2 ^ 63)=false:=decide_eq_false (by omega)
  rw[e1,e2,Bool.or_false]) (by rw[h1];simpa using h2) ⟨.str ⟨#[c]⟩,H,I.tok _,⟨_,rfl⟩,q⟩) hs
def UL(K:W.Frag):R2:=fun x y H Q=>Ng K x y H Q\/M_ K x y H Q\/Nb x y H Q
theorem KG:HE X (UL X.K):=GO.or (Lu.or J0)
def T9:V->V->V->Hp->(Hp->Prop)->Prop:=fun o i v H Q=>∃p xs k j,o= .ref p/\i= .int k/\H p=some (.lst xs)/\Fe xs.length k=some j/\Q (upd H p (.lst (xs.set j v)))
theorem vK(lo hi:Option Int)(n:Nat):(sliceBounds lo hi none n).1=((HT.r_ n 0 lo:Nat):Int)/\(sliceBounds lo hi none n).2.1=((HT.r_ n n hi:Nat):Int)/\(sliceBounds lo hi none n).2.2=1:=by
 refine⟨?_,?_,rfl⟩
 .cases lo with
  | none=>simp [sliceBounds,HT.r_]
  | some i=>
    simp only[sliceBounds,HT.r_,Option.getD_none,show(1:Int) > 0 by decide,if_true]
    by_cases h:i < 0
    .simp only[h,if_true] <;> omega
    .simp only[h,if_false] <;> omega
 .cases hi with
  | none=>simp [sliceBounds,HT.r_]
  | some i=>
    simp only[sliceBounds,HT.r_,Option.getD_none,show(1:Int) > 0 by decide,if_true]
    by_cases h:i < 0
    .simp only[h,if_true] <;> omega
    .simp only[h,if_false] <;> omega
theorem uq(its:List Value)(lo hi:Option Int):slicePick its.toArray lo hi none=((its.drop (HT.r_ its.length 0 lo)).take (HT.r_ its.length its.length hi - HT.r_ its.length 0 lo)).toArray:=by
 obtain⟨h1,h2,h3⟩:=vK lo hi its.toArray.size;unfold slicePick;rw[h1,h2,h3];simp only[sliceRange_one,pick_run,List.size_toArray] <;> rfl
def Q1(K:W.Frag):V->Option Int->Option Int->Hp->VK->Prop:=fun x lo hi H Q=>∃a xs,x= .ref a/\oz K H a xs/\∀p,H p=none->Q (.ref p) (upd H p (.lst (zM xs lo hi)))
theorem G5:K9 X (Q1 X.K):=by
 intro pins s σ H x v vl vu lo hi sl Q I rx hs pl pu h;obtain⟨a,xs,rfl,hx,q⟩:=h;cases rx;obtain⟨its,r,ht,hz⟩:=I.list hx;have hlen:=r.length;refine⟨"list",_,slot_list_getitem.lookup,ht.isList.typeIs,?_⟩;refine wpAny_getItem_list_slice ht.isList hs pl pu .none (by simp) ?_ (by rw[List.size_toArray] <;> omega)
 rw[uq,<-hlen];refine⟨.ref s.heap.objs.size,_,I.laid (t':=s.toks) (o:= .lst (zM xs lo hi)) (fun b ob q=>Heap.get?_push_of_some _ q) (Nat.le_refl _) ?_,rfl,q _ (I.hok.fresh (Nat.le_refl _))⟩
 exact⟨Nat.le_trans (xO xs lo hi) hz,_,0,(r.drop (HT.r_ xs.length 0 lo)).take (HT.r_ xs.length xs.length hi - HT.r_ xs.length 0 lo),Heap.get?_push_size _ rfl⟩
def kY:V->Bool
 | .cD=>true
 | .bl _=>true
 | .int _=>true
 | .str _=>true
 | _=>false
def Ge:V->V->Bool
 | .cD, .cD=>true
 | .bl a, .bl b=>a==b
 | .bl a, .int b=>(if a then 1 else 0)==b
 | .int a, .bl b=>a==(if b then 1 else 0)
 | .int a, .int b=>a==b
 | .str a, .str b=>a==b
 | _,_=>false
theorem Kk{s:Shared}{y x:V}{u v:Value}(ry:RelV y u)(rx:RelV x v)(fy:kY y=true)(fx:kY x=true):SeqAt.EqAt A s u v (Ge y x):=by
 cases y with
 | cD=>
   cases ry;cases x with
   | cD=>cases rx;exact SeqAt.EqAt.same _
   | bl b=>cases rx;exact SeqAt.EqAt.none_bool b
   | int b=>obtain⟨t,rfl⟩:=rx;exact SeqAt.EqAt.none_int b t
   | str b=>obtain⟨t,rfl⟩:=rx;exact SeqAt.EqAt.none_str b t
   | _=>exact absurd (show false=true from fx) Bool.false_ne_true
 | bl a=>
   cases ry;cases x with
   | cD=>cases rx;exact SeqAt.EqAt.bool_none a
   | bl b=>cases rx;exact SeqAt.EqAt.bool_bool a b
   | int b=>obtain⟨t,rfl⟩:=rx;exact SeqAt.EqAt.bool_int a b t
   | str b=>obtain⟨t,rfl⟩:=rx;exact SeqAt.EqAt.bool_str a b t
   | _=>exact absurd (show false=true from fx) Bool.false_ne_true
 | int a=>
   obtain⟨t',rfl⟩:=ry;cases x with
   | cD=>cases rx;exact SeqAt.EqAt.int_none a t'
   | bl b=>cases rx;exact SeqAt.EqAt.int_bool a t' b
   | int b=>obtain⟨t,rfl⟩:=rx;exact SeqAt.EqAt.int_int a t' b t
   | str b=>obtain⟨t,rfl⟩:=rx;exact SeqAt.EqAt.int_str a t' b t
   | _=>exact absurd (show false=true from fx) Bool.false_ne_true
 | str a=>
   obtain⟨t',rfl⟩:=ry;cases x with
   | cD=>cases rx;exact SeqAt.EqAt.str_none a t'
   | bl b=>cases rx;exact SeqAt.EqAt.str_bool a t' b
   | int b=>obtain⟨t,rfl⟩:=rx;exact SeqAt.EqAt.str_int a t' b t
   | str b=>obtain⟨t,rfl⟩:=rx;exact SeqAt.EqAt.str_str a t' b t
   | _=>exact absurd (show false=true from fx) Bool.false_ne_true
 | _=>exact absurd (show false=true from fy) Bool.false_ne_true
def xj(x:V)(u:Value):Bool:=match u with
 | .none=>Ge .cD x
 | .bool b=>Ge (.bl b) x
 | .int i _=>Ge (.int i) x
 | .str z _=>Ge (.str z) x
 | _=>false
theorem yZ{x y:V}{u:Value}(r:RelV y u)(f:kY y=true):xj x u=Ge y x:=by
 cases y with
 | cD=>cases r;rfl
 | bl b=>cases r;rfl
 | int i=>obtain⟨t,rfl⟩:=r;rfl
 | str z=>obtain⟨t,rfl⟩:=r;rfl
 | _=>exact absurd (show false=true from f) Bool.false_ne_true
theorem qk{x:V}:∀{xs:List V} {us:List Value},Vals xs us->xs.all kY=true->us.any (xj x)=xs.any fun y=>Ge y x
 | _,_, .nil,_=>rfl
 | y ::xs,u ::us, .cons r t,f=>by
   rw[List.all_cons,Bool.and_eq_true] at f;rw[List.any_cons,List.any_cons,yZ r f.1,qk t f.2]
theorem lL{s:Shared}{x:V}{v:Value}(rx:RelV x v)(fx:kY x=true):∀{xs:List V} {us:List Value},Vals xs us->xs.all kY=true->∀u∈us,SeqAt.EqAt A s u v (xj x u)
 | _,_, .nil,_=>fun u hu=>by cases hu
 | y ::xs,u ::us, .cons r t,f=>fun u' hu=>by
   rw[List.all_cons,Bool.and_eq_true] at f;rcases List.mem_cons.mp hu with rfl | hu
   .rw [yZ r f.1];exact Kk r rx f.1 fx
   .exact lL rx fx t f.2 u' hu
def Jz(x:V)(xs:List V):Bool:=xs.any fun y=>Ge y x
def Ra(K:W.Frag)(neg:Bool):R2:=fun x y H Q=>∃p xs,y= .ref p/\(oz K H p xs\/q9 K H p xs)/\kY x=true/\xs.all kY=true/\Q (.bl (if neg then !Jz x xs else Jz x xs)) H
theorem BQ:oI X (compareOp .In) (Ra X.K false):=by
 intro pins s σ H x y v u Q I rx ry h;obtain⟨p,xs,rfl,hq,fx,fs,q⟩:=h;cases ry;rcases hq with hq | hq
 .obtain⟨its,r,pl,hz⟩:=I.list hq;refine SeqAt.in_listAt (xj x) pl.isList (fun w hw=>lL rx fx r fs w (by simpa using hw)) ⟨.bl _,H,I,rfl,?_⟩
  rw[show its.toArray.any (xj x)=its.any (xj x) by simp,qk r fs]
  exact q
 .obtain⟨its,r,pl,hz⟩:=I.tuple hq;refine SeqAt.in_tupleAt (xj x) pl (fun w hw=>lL rx fx r fs w (by simpa using hw)) ⟨.bl _,H,I,rfl,?_⟩
  rw[show its.toArray.any (xj x)=its.any (xj x) by simp,qk r fs]
  exact q
theorem vT:oI X (compareOp .NotIn) (Ra X.K true):=by
 intro pins s σ H x y v u Q I rx ry h;obtain⟨p,xs,rfl,hq,fx,fs,q⟩:=h;cases ry;rcases hq with hq | hq
 .obtain⟨its,r,pl,hz⟩:=I.list hq;refine SeqAt.notIn_listAt (xj x) pl.isList (fun w hw=>lL rx fx r fs w (by simpa using hw)) ⟨.bl _,H,I,rfl,?_⟩
  rw[show its.toArray.any (xj x)=its.any (xj x) by simp,qk r fs]
  exact q
 .obtain⟨its,r,pl,hz⟩:=I.tuple hq;refine SeqAt.notIn_tupleAt (xj x) pl (fun w hw=>lL rx fx r fs w (by simpa using hw)) ⟨.bl _,H,I,rfl,?_⟩
  rw[show its.toArray.any (xj x)=its.any (xj x) by simp,qk r fs]
  exact q
theorem wb:kf X (.builtin "len") (fun xs H Q=>∃p ys,xs=[.ref p]/\(oz X.K H p ys\/q9 X.K H p ys)/\Q (.int ys.length) H):=by
 intro pins s σ H xs us Q I r h;obtain⟨p,ys,rfl,hq,q⟩:=h;obtain⟨u,rfl,rx⟩:=vals1 r;cases rx;have hn:=qO;rcases hq with hq | hq
 .obtain⟨its,r',pl,hz⟩:=I.list hq;have hlen:=r'.length;exact Calls.call_len_list pl.isList (by simp only[List.size_toArray] <;> omega) ⟨.int ys.length,H,I.tok _,⟨s.toks+1,by rw[List.size_toArray,hlen]⟩,q⟩
 .obtain⟨its,r',pl,hz⟩:=I.tuple hq;have hlen:=r'.length;exact len_tuple pl (by simp only[List.size_toArray] <;> omega) ⟨.int ys.length,H,I.tok _,⟨s.toks+1,by rw[List.size_toArray,hlen]⟩,q⟩
theorem uJ:kf X (.type "tuple") (fun xs H Q=>∃p ys,xs=[.ref p]/\((oz X.K H p ys/\∀l,H l=none->Q (.ref l) (upd H l (.tup ys)))\/(q9 X.K H p ys/\Q (.ref p) H))):=by
 intro pins s σ H xs us Q I r h;obtain⟨p,ys,rfl,h⟩:=h;obtain⟨u,rfl,rx⟩:=vals1 r;cases rx;rcases h with⟨hq,q⟩ | ⟨hq,q⟩
 .obtain⟨its,r',pl,hz⟩:=I.list hq;have hlen:=r'.length;refine call_tuple_list pl.isList (fun h' kp=>?_) (by simp only[List.size_toArray] <;> omega)
  have I1:Inv X pins σ H {s with heap:=h'}:=I.kept (t':=s.toks) kp
  have I2:Inv X pins σ (upd H h'.objs.size (.tup ys)) {s with heap:=h'.push {cls:= .type "tuple",data:= .seq its.toArray}}:=
   I1.laid (t':=s.toks) (fun b o e=>Heap.get?_push_of_some _ e) (Nat.le_refl _) (show dP X.prog X.w _ _ _ (.tup ys) from⟨hz,its,r',IsTup.new _ _⟩)
  exact⟨.ref h'.objs.size,_,I2,rfl,q _ (I1.hok.fresh (Nat.le_refl _))⟩
 .obtain⟨its,r',pl,hz⟩:=I.tuple hq;exact call_tuple_same pl ⟨.ref p,H,I,rfl,q⟩
def QK(K:W.Frag)(T:String)(x:V)(H:Hp):Prop:=match x with
 | .str _=>T="str"
 | .int _=>T="int"
 | .ref p=>(T="list"/\∃xs,oz K H p xs)\/(T="tuple"/\∃o,K.lookup p=some o/\o.cls= .type "tuple"/\o.dict=none)\/
    (T="dict"/\((∃aw,H p=some (.dK aw))\/∃aw,H p=some (.dT aw)))\/(T="set"/\∃S n,H p=some (.set S n))
 | _=>False
theorem K4{pins:Y5}{s:Shared}{T:String}{x:V}{v:Value}(I:Inv X pins σ H s)(r:RelV x v)(ty:QK X.K T x H) :
 s.TypeIs v T/\∀a,v= .ref a->∃ob,s.heap.get? a=some ob/\ob.dict=none:=by
 cases x with
 | str z=>
   obtain⟨t,rfl⟩:=r;cases(show T="str" from ty)
   exact⟨typeIs_str s z t,fun _ e=>nomatch e⟩
 | int i=>
   obtain⟨t,rfl⟩:=r;cases(show T="int" from ty)
   exact⟨typeIs_int s i t,fun _ e=>nomatch e⟩
 | ref p=>
   cases r;rcases ty with⟨rfl,xs,hq⟩ | ⟨rfl,o,hk,hc,hd⟩ | ⟨rfl,hk⟩ | ⟨rfl,S,n,hk⟩
   .obtain⟨its,_,pl,_⟩:=I.list hq;refine⟨pl.isList.typeIs,fun a e=>?_⟩
    cases e;obtain⟨o,n,e,c,hd,_⟩:=pl;exact⟨o,e,hd⟩
   .refine⟨⟨o,I.vq p o hk,hc⟩,fun a e=>?_⟩
    cases e;exact⟨o,I.vq _ o hk,hd⟩
   .have z:∃o,s.heap.get? p=some o/\o.ExactDict:=by
     rcases hk with⟨aw,hk⟩ | ⟨aw,hk⟩
     .obtain⟨_,_,_,_,o,_,_,e,ex,_⟩:=I.hok p _ hk;exact⟨o,e,ex⟩
     .obtain⟨_,_,_,_,o,_,_,e,ex,_⟩:=I.hok p _ hk;exact⟨o,e,ex⟩
    obtain⟨o,e,ex⟩:=z;refine⟨⟨o,e,ex.1⟩,fun a e2=>?_⟩
    cases e2;exact⟨o,e,ex.2.1⟩
   .obtain⟨o,_,_,_,e,ex,_⟩:=I.hok p _ hk;refine⟨⟨o,e,ex.1⟩,fun a e2=>?_⟩
    cases e2;exact⟨o,e,ex.2.1⟩
 | _=>exact False.elim ty
def Ww(K:W.Frag)(T:String)(r:V->List V->Hp->VK->Prop)(to:TE):TE:=fun σ H Q=>to σ H fun x H1=>QK K T x H1/\r x [] H1 Q
def WN(K:W.Frag)(T:String)(r:V->List V->Hp->VK->Prop)(to:TE)(t:TA):TE:=fun σ H Q=>to σ H fun x H1=>QK K T x H1/\t σ H1 fun xs H2=>r x xs H2 Q
variable {o e:Expr} {es:List Expr} {to:TE} {t:TA} {name:Str} {apos bf:Pos} {T id:String} {r:V->List V->Hp->VK->Prop}
theorem Aq(pa:PlainAttrs T)(slot:Slot T name id)(GB:typeOf (.builtin id)=pure (.type "method_descriptor"))(hm:TZ X id r)(ho:PE X o to)(ha:PA X (e ::es) t)
 (fB:attributeBase o name X.env (eval o X.env)=eval o X.env:=by rfl)
 (lG:((backTo bf (starEach (e ::es) X.env)).all (fun x=>!x.1) && (backToKw bf (keywordEach [] X.env)).all (fun x=>x.1.isSome)
   && decide ((e ::es).length+([]:List Keyword).length+(if([]:List Keyword).isEmpty then 0 else 1) < 30))=true:=by rfl)
 (fD:(apos.endLine==bf.line)=true:=by rfl) (hs:starEach (e ::es) X.env=(false,eval e X.env) ::starEach es X.env:=by rfl) (zZ:(backTo bf (starEach es X.env)).any (·.1)=false:=by rfl) :
 PE X (.Call (.Attribute o name apos) (e ::es) [] bf) (WN X.K T r to t):=by
 intro pins s σ H Q I h;refine wpAny_Call_method_late fB lG fD rfl (cJ (ho pins s σ H _ I h) fun v s1 ⟨x,H1,I1,r1,ty,q1⟩=>?_)
 obtain⟨h1,h2⟩:=K4 I1 r1 ty;refine⟨T,id,pa,slot,GB,h1,h2,?_⟩;have hA:=ha bf pins s1 σ H1 _ I1 q1;rw[hs] at hA ⊢;refine Calls.callWith_builtin (by show(false || (backTo bf (starEach es X.env)).any (·.1))=false;rw [zZ] <;> rfl) (Calls.evalArgs_plain ?_)
 exact cJ hA fun us s2 ⟨vs,H2,I2,r2,q2⟩=>hm pins s2 σ H2 x vs v us Q I2 r1 r2 q2
end
def Vy(X:Cx)(id:String)(r:V->List V->Hp->VK->Prop):Prop:=
 ∀(pins:Y5) (s:Shared) (σ:St) (H:Hp) (x:V) (xs:List V) (v:Value) (us:List Value) (Q:VK),Inv X pins σ H s->RelV x v->Vals xs us->r x xs H Q->
  wpAny (model X.prog X.w) X.A (call (.builtin id) (v ::us)) (EP X pins σ Q) X.xe s
theorem Vals.one:∀{x:V} {us:List Value},Vals [x] us->∃u,us=[u]/\RelV x u
 | _,_, .cons r .nil=>⟨_,rfl,r⟩
section
variable {X:Cx} {pins:Y5} {σ:St} {H:Hp} {s:Shared} {l b:Addr} {xs ys zs:List V}
theorem Inv.QH{its its':List Value}{n:Nat}{f:Array Value->Array Value}{t':Nat}(I:Inv X pins σ H s)(hH:H l=some (.lst xs))
 (e:s.heap.get? l=some {cls:= .type "list",data:= .seq its.toArray n}) (hf:f its.toArray=its'.toArray) (hv:Vals ys its') (hz:ys.length<=sizeLine) :
 Inv X pins σ (upd H l (.lst ys)) {s with heap:=s.heap.update l (Obj.mapSeq f),toks:=t'}:=by
 have q:=PySem.IsL.update e f;rw[hf] at q;refine I.write (x:=l) (e:=l) (by rw[hH];exact trivial) (.inl rfl) (fun b' u hb hu=>(Heap.get?_update_other s.heap (Obj.mapSeq f) (Ne.symm hb)).trans hu) ⟨_,q⟩ ?_
 exact⟨hz,its',_,hv,q⟩
theorem Inv.KC{its:List Value}{t':Nat}(I:Inv X pins σ H s)(hv:Vals ys its)(hz:ys.length<=sizeLine) :
 Inv X pins σ (upd H s.heap.objs.size (.lst ys)) {s with heap:=s.heap.push {cls:= .type "list",data:= .seq its.toArray},toks:=t'}:=
 I.laid (fun _ _ q=>Heap.get?_push_of_some _ q) (Nat.le_refl _) ⟨hz,its,0,hv,Heap.get?_push_size _ rfl⟩
theorem Inv.fresh(I:Inv X pins σ H s):H s.heap.objs.size=none:=I.hok.fresh (Nat.le_refl _)
theorem Inv.Q3(I:Inv X pins σ H s)(hH:H l=some (.lst xs)):xs.length<=sizeLine/\∃(its:List Value) (n:Nat),Vals xs its/\xs.length=its.length/\s.heap.get? l=some {cls:= .type "list",data:= .seq its.toArray n}:=by
 obtain⟨z,its,n,r,e⟩:=I.hok l _ hH;exact⟨z,its,n,r,r.length,e⟩
end
section
variable {X:Cx}
def HK:V->List V->Hp->VK->Prop:=fun x vs H Q=>∃l xs y,x= .ref l/\vs=[y]/\H l=some (.lst xs)/\xs.length < sizeLine/\Q .cD (upd H l (.lst (xs++[y])))
theorem oG:Vy X "list.append" HK:=by
 intro pins s σ H x vs v us Q I rx rv h;obtain⟨l,xs,y,rfl,rfl,hH,hz,q⟩:=h;cases rx;obtain⟨u,rfl,ru⟩:=rv.one;obtain⟨z,its,n,r,hl,e⟩:=I.Q3 hH;refine call_meets F.slot_list_append ⟨_,e,rfl⟩ F.entry_list_append (F.args_list_append_2 _ _) (PySem.list_append l its.toArray n u (by rw[List.size_toArray];omega)) ⟨e,?_⟩
 refine⟨.cD,_,I.QH (its':=its++[u]) hH e (by simp) (r.append (.cons ru .nil)) ?_,rfl,q⟩
 rw[List.length_append,List.length_singleton];omega
def Pg:V->List V->Hp->VK->Prop:=fun x vs H Q=>∃l b xs zs,x= .ref l/\vs=[.ref b]/\H l=some (.lst xs)/\H b=some (.lst zs)/\xs.length+zs.length<=sizeLine/\Q .cD (upd H l (.lst (xs++zs)))
def WG:V->List V->Hp->VK->Prop:=fun x vs H Q=>∃l xs y,x= .ref l/\vs=[]/\H l=some (.lst xs)/\xs[xs.length - 1]? =some y/\Q y (upd H l (.lst xs.dropLast))
def Ri:V->List V->Hp->VK->Prop:=fun x vs H Q=>∃l xs i k y,x= .ref l/\vs=[.int i]/\H l=some (.lst xs)/\ -(2 ^ 63)<=i/\i < 2 ^ 63/\seqIndex? i xs.length=some k/\xs[k]? =some y/\Q y (upd H l (.lst (xs.eraseIdx k)))
def NA:V->List V->Hp->VK->Prop:=fun x vs H Q=>∃l xs,x= .ref l/\vs=[]/\H l=some (.lst xs)/\Q .cD (upd H l (.lst xs.reverse))
def Q8:V->List V->Hp->VK->Prop:=fun x vs H Q=>∃l xs,x= .ref l/\vs=[]/\H l=some (.lst xs)/\Q .cD (upd H l (.lst []))
def Vw:R2:=fun x y H Q=>∃l b xs zs,x= .ref l/\y= .ref b/\H l=some (.lst xs)/\H b=some (.lst zs)/\xs.length+zs.length<=sizeLine/\∀p,H p=none->Q (.ref p) (upd H p (.lst (xs++zs)))
def Vj:R2:=fun x y H Q=>∃l k xs,x= .ref l/\y= .int k/\H l=some (.lst xs)/\ -(2 ^ 63)<=k/\k < 2 ^ 63/\xs.length*k.toNat<=sizeLine/\
 ∀p,H p=none->Q (.ref p) (upd H p (.lst (List.replicate k.toNat xs).flatten))
end
section
variable {prog:Program} {w:World} {A:Around} {E:Y6} {s:Shared}
set_option maxRecDepth 100000 in
end
section
variable {X:Cx}
end
end L2
namespace Att
open PySem PySem.W PySem.Calls PyProof.Rows
theorem rR{P:Params}:∀(ns:List Int) (vs:List Value),WellAll P h vs (ns.map WData.int)->IntsAre vs ns:=by
 intro ns
 induction ns with
 | nil=>
   intro vs w;rw[List.map_nil] at w;cases w;exact .nil
 | cons n ns ih=>
   intro vs w;rw[List.map_cons] at w;cases w with
   | cons a b=>
     cases a;exact .cons _ _ (ih _ b)
theorem Bv{l:OpenLaw}{n:Nat}(hn:l.most=some n){P:Params}{h:Heap}{args:List WData}{vals:List Value}
 (IM:l.row.toRowW.claim.pre args=true) (OJ:WellAll P h vals args) :
 ∃a vs ns,vals=[Value.ref a]/\args=[WData.list (ns.map WData.int)]/\h.get? a=some {cls:= .type "list",data:= .seq vs.toArray}/\IntsAre vs ns/\ns.length<=n:=by
 have hsh:WShape.hasAll [] args [.list .int]=true:=(pre_splitW IM).1;have hc:l.pre.holds [] {args:=args}=true:=(pre_splitW IM).2;obtain⟨d,r,rfl,h1,h2⟩:=hasAllW_cons hsh;obtain rfl:=hasAllW_nil h2;obtain⟨xs,rfl,h3⟩:=hasW_list h1;obtain⟨ns,rfl⟩:=items_int h3;have hlen:ns.length<=n:=by
  unfold OpenLaw.pre at hc;have h4:(WTm.not (.lt (.lit (.int (n:Int))) (.len (.arg 0)))).holds [] {args:=[.list (ns.map .int)]}=true:=by
   have h4:=(holds_andW hc).1;rw[hn] at h4;exact h4
  have h5:=condW_of h4 (w_not (w_lt w_lit (w_len_list (w_arg rfl))));rw[List.length_map] at h5;refine Nat.le_of_not_lt fun q=>?_
  have q':(n:Int) < ((ns.length:Nat):Int):=by omega
  first
   | (rw [decide_eq_true q'] at h5;exact absurd h5 (by decide))
   | (simp at h5;omega)
 cases OJ with
 | cons w1 w2=>
   cases w2;cases w1 with
   | list ho yF=>exact⟨_,_,ns,rfl,rfl,ho,rR ns _ yF,hlen⟩
theorem Co(l:OpenLaw)(args:List WData):l.row.toRowW.claim.post args (.bool true) args=true:=
 postW_of (r:=l.row.toRowW) (X:=(true==true))
  (show WShape.has [] (.bool true) .bool=true by first | rfl | decide | simp [WShape.has,WShape.arms,WShape.armsAll])
  (show(WTm.eq .res (.lit (.bool true))).value [] {args:=args,res:=some (.bool true),after:=args}=some (.bool (true==true)) from w_eq_bool (w_res rfl) w_lit) rfl
theorem xA{l:OpenLaw}{n:Nat}{q:Program}{loose:List Str}{XP:(Str->Option Value)->Heap->Prop}{YP:World->Heap->Prop}{d:DefRec}
 (hn:l.most=some n) (RH:d.params.defaults=[])
 (call:∀(w:World) (s₀ s₁:Shared) (mg mb:Y_) (fa:Addr) (o:Obj) (pm cd doc:Value) (a:Addr) (vs:List Value) (ns:List Int),
   Ground q loose [] XP w s₀ mg mb s₁.heap->YP w s₁.heap->
   s₁.heap.get? fa=some o->o.data= .func (docDef d.name d.params d.body d.scope pm cd doc)->s₁.heap.CodeRec cd d.name->mg d.name=some (.ref fa)->
   s₁.heap.get? a=some {cls:= .type "list",data:= .seq vs.toArray}->IntsAre vs ns->ns.length<=n->s₁.gens=#[]->
   codeAny (model l.prog w) callerA (.call (.ref fa) ⟨[.ref a],[]⟩) (fun r s'=>r= .ok (.ret (.bool true))/\OldK s₁.heap s'.heap/\s'.os=s₁.os/\AllBare s'.gens) s₁) :
 WalkO q loose XP YP l.row.toRowW d [] (fun f vs=>PySem.call f vs):=by
 intro w s₀ s₁ mg mb G Y fa o pm cd doc dV kV ho hd uN hD ON hg args vals as IM hlay hrd OJ hlo;obtain rfl:dV= .none:=Dflts.none hD RH;obtain rfl:kV= .none:=Dflts.noKw hD;obtain⟨a,vs,ns,rfl,rfl,Ml,hints,hlen⟩:=Bv hn IM OJ;refine enter_call (codeAny_mono (call w s₀ s₁ mg mb fa o pm cd doc a vs ns G Y ho (fd_plain hd) uN ON Ml hints hlen hg) fun r s' hq=>?_)
 obtain⟨rfl,h2,h3,h4⟩:=hq;exact⟨.inl ⟨.bool true, .bool true,[],rfl,fun _=>rfl, .bool true,Co l _,fun _=>⟨List.Pairwise.nil,fun _ hm=>(nomatch hm)⟩⟩,h2,h3,h4⟩
section
variable {prog:Program} {w:World} {A:Around} {E:Y6} {s:Shared} {K:Frag}
def PV(h:Heap):Heap:={h with objs:=#[]}
def ledger(h:Heap)(L d:Addr):Y5:=(List.range h.objs.size).filterMap fun a=>if a=L\/a=d then none else(h.get? a).map fun o=>(a,o)
end
end Att
namespace L2
open PySem PySem.Spec PyProof.Rows
theorem uU:∀{vs:List Value} {ns:List Int},IntsAre vs ns->Vals (ns.map V.int) vs
 | _,_, .nil=> .nil
 | _,_, .cons n t h=> .cons ⟨t,rfl⟩ (uU h)
def NH(H:Hp):Prop:=∀b,H b=none\/∃o xs,H b=some (.lP o (.lst xs))
abbrev gc{K:W.Frag}{h:Heap}(_:K.In h):W.Frag:=K
def inClass(s:Stmt)(j:Nat):Stmt:=match s with
 | .ClassDef _ _ _ body _ _ _ _ _ _ _=>body.getD j (.Pass ⟨0,0,0,0⟩)
 | _=> .Pass ⟨0,0,0,0⟩
def jb(s:Stmt):Arguments:=match s with
 | .FunctionDef _ a _ _ _ _ _ _ _ _=>a
 | _=>{posonlyargs:=[],args:=[],vararg:=none,kwonlyargs:=[],kw_defaults:=[],kwarg:=none,defaults:=[]}
def aX(s:Stmt):List Stmt:=match s with
 | .FunctionDef _ _ b _ _ _ _ _ _ _=>b
 | _=>[]
def aC(s:Stmt):Scope:=match s with
 | .FunctionDef _ _ _ _ _ _ sc _ _ _=>sc
 | _=>{kind:= .function,names:=[],isGenerator:=false,isCoroutine:=false}
abbrev uV:CT:=fun _ _ _ _ _ _=>False
abbrev E0:XK:=fun _ _ _=>False
theorem DM{X:Cx}:Passes uV X E0:=fun _ _ _ _ _ _ _ h=>h.elim
structure zw (K:W.Frag) (x qual:Str) (st:Stmt) (f:Addr) (fd:FuncData):Prop where
 ex:∃(oc:Value) (od:Option Addr) (kV doc pm:Value) (an:Option Addr) (dF ct:Value) (F3:Array (Option Value)),
  fd=PySem.W.fnOf x qual (jb st) (aX st) (aC st) .none kV doc pm an dF ct/\K.lookup f=some ⟨oc,od, .func fd,F3⟩/\PySem.W.codeIn K dF qual=true
 kp:PySem.W.keepIn K (.ref f)=true
section
variable {P:Program} {w:World} {K:W.Frag} {mg:Y_} {base:Heap}
theorem zw.ok{x qual:Str}{st:Stmt}{f:Addr}{fd:FuncData}{N ps:List Str}{k:Nat}{sp:Sp}(F:zw K x qual st f fd)(S:bq N ps (aC st))(len:∀vs H Q E,sp vs H Q E->vs.length=ps.length)
 (ig:∀(dF:Value) (A:Around) (outer:List Env) (s:Shared) (H:Hp) (vs:List V) (Q:VK) (E:XK),dH k (A.deeper (envOfC qual (aC st) s.heap.objs.size f dF))->sp vs H Q E->
   ∃t,vW (lR uV P w K mg base N qual (aC st) f dF A outer s H E).Hz (aX st) t/\t {nx:=fun _ H'=>Q .cD H',rt:=Q} (start N vs) H):jt P w K mg base uV (k+1) f fd ps sp:=by
 obtain⟨oc,od,kV,doc,pm,an,dF,ct,F3,rfl,lk,uN⟩:=F.ex;refine Jt lk uN S len fun A outer s H vs Q E hr Bm=>?_
 obtain⟨t,h,q⟩:=ig dF A outer s H vs Q E hr Bm;exact⟨t,h.Hz,q⟩
theorem zw.binds{x qual:Str}{st:Stmt}{f:Addr}{fd:FuncData}{ps:List Str}(F:zw K x qual st f fd)
 (h:∀(kV doc pm:Value) (an:Option Addr) (dF ct:Value) (us:List Value),us.length=ps.length->bindArgs (PySem.W.fnOf x qual (jb st) (aX st) (aC st) .none kV doc pm an dF ct) ⟨us,[]⟩=pure (ps.zip us)):Binds K fd ps []:=by
 obtain⟨oc,od,kV,doc,pm,an,dF,ct,F3,rfl,lk,uN⟩:=F.ex;exact .all (h kV doc pm an dF ct)
theorem qR{x qual:Str}{st:Stmt}{f:Addr}{oc:Value}{od an:Option Addr}{F3:Array (Option Value)}{kV doc pm dF ct:Value}(l:K.lookup f=some ⟨oc,od, .func (PySem.W.fnOf x qual (jb st) (aX st) (aC st) .none kV doc pm an dF ct),F3⟩)
 (c:PySem.W.codeIn K dF qual=true) (k:PySem.W.keepIn K (.ref f)=true):zw K x qual st f (PySem.W.fnOf x qual (jb st) (aX st) (aC st) .none kV doc pm an dF ct):=⟨⟨oc,od,kV,doc,pm,an,dF,ct,F3,rfl,l,c⟩,k⟩
end
theorem kR{A:Around}{k:Nat}(hr:dH k A):A.units+1 < cLine:=Nat.lt_of_le_of_lt (Nat.add_le_add_left (by decide:1<=64) _) hr.units
section
variable {X:Cx}
theorem B_:kf X (.builtin "len") (fun xs H Q=>∃a aw,xs=[V.ref a]/\H a=some (.dK aw)/\Q (.int aw.length) H):=by
 intro pins s σ H xs us Q I r h;obtain⟨a,aw,rfl,ha,q⟩:=h;obtain⟨u,rfl,ru⟩:=vals1 r;cases ru;exact MW I (.inl ha) fun t s' I'=>⟨.int aw.length,H,I',⟨t,rfl⟩,q⟩
end
theorem Fs{A B:Prop}(h:B):if false=true then A else B:=by
 rw[if_neg Bool.false_ne_true];exact h
theorem EL{A B:Prop}(h:A):if true=true then A else B:=by
 rw[if_pos rfl];exact h
def aO(H H':Hp):Prop:=∀b o,H b=some o->H' b=some o
theorem aO.refl(H:Hp):aO H H:=fun _ _ h=>h
theorem aO.trans(a:aO H H1)(b:aO H1 H2):aO H H2:=fun c o h=>b c o (a c o h)
theorem aO.free{H H':Hp}(e:aO H H'){l:Addr}(h:H' l=Option.none):H l=Option.none:=by
 cases q:H l with
 | none=>rfl
 | some o=>
   rw[e l o q] at h;cases h
section
variable {κ:Type} [DecidableEq κ]
end
end L2
end
section
namespace L2
open PySem PySem.Spec PyProof.Rows
def oH(cells:List (Str × Addr)):List (Str × NameKind)->List (Str × Addr)->List (Str × Addr)
 | [],acc=>acc
 | (n,k) ::r,acc=>oH cells r (if k==NameKind.free then(n,(cells.lookup n).getD 0) ::acc else acc)
theorem mf{env:Env}:∀(names:List (Str × NameKind)) (acc:List (Str × Addr)),(∀y∈names,y.2= .free->∃c,env.cells.lookup y.1=some c)->
 (forIn names acc fun(x:Str × NameKind) (cs:List (Str × Addr))=>(match x with
   | (name,kind)=>if kind== .free then do let a <-cellOf env name;pure (ForInStep.yield ((name,a) ::cs)) else pure (ForInStep.yield cs):Sem (ForInStep (List (Str × Addr)))))=pure (oH env.cells names acc)
 | [],acc,_=>by simp [oH]
 | (n,k) ::r,acc,h=>by
   rw[List.forIn_cons];by_cases hk:k=NameKind.free
   .subst hk;obtain⟨c,hc⟩:=h (n, .free) List.mem_cons_self rfl;have e:cellOf env n=pure c:=by unfold cellOf;rw [hc]
    simp only[beq_self_eq_true,if_true,e,pure_bind,oH,hc,Option.getD_some];exact mf r _ fun y hy=>h y (List.mem_cons_of_mem _ hy)
   .have hb:(k==NameKind.free)=false:=by simpa using hk
    simp only[hb,Bool.false_eq_true,if_false,pure_bind,oH];exact mf r _ fun y hy=>h y (List.mem_cons_of_mem _ hy)
theorem mO{env:Env}{scope:Scope}(h:∀y∈scope.names,y.2= .free->∃c,env.cells.lookup y.1=some c):closureFor scope env=pure (oH env.cells scope.names []):=by
 unfold closureFor;have:=mf (env:=env) scope.names [] h;simp only[bind_pure];exact this
theorem kW{cells:List (Str × Addr)}:∀(names:List (Str × NameKind)) (acc:List (Str × Addr)) {x:Str} {c:Addr},(oH cells names acc).lookup x=some c->
 acc.lookup x=some c\/((x,NameKind.free)∈names/\c=(cells.lookup x).getD 0)
 | [],acc,x,c,h=> .inl h
 | (n,k) ::r,acc,x,c,h=>by
   rcases kW r _ h with q | ⟨q1,q2⟩
   .by_cases hk:k=NameKind.free
    .subst hk;simp only[beq_self_eq_true,if_true] at q;cases hx:x==n with
     | true=>
       have e:x=n:=by simpa using hx
       subst e;rw[List.lookup_cons,hx] at q;exact .inr ⟨List.mem_cons_self,(Option.some.inj q).symm⟩
     | false=>
       rw[List.lookup_cons,hx] at q;exact .inl q
    .have hb:(k==NameKind.free)=false:=by simpa using hk
     simp only[hb,Bool.false_eq_true,if_false] at q;exact .inl q
   .exact .inr ⟨List.mem_cons_of_mem _ q1,q2⟩
theorem xN{cells:List (Str × Addr)}:∀(names:List (Str × NameKind)) (acc:List (Str × Addr)) {x:Str},((x,NameKind.free)∈names\/∃c,acc.lookup x=some c)->∃c,(oH cells names acc).lookup x=some c
 | [],acc,x,h=>by
   rcases h with h | h
   .simp at h
   .exact h
 | (n,k) ::r,acc,x,h=>by
   refine xN r _ ?_;rcases h with h | ⟨c,h⟩
   .rcases List.mem_cons.mp h with e | e
    .cases e;exact .inr ⟨(cells.lookup n).getD 0,by simp [List.lookup_cons]⟩
    .exact .inl e
   .by_cases hk:k=NameKind.free
    .subst hk;simp only[beq_self_eq_true,if_true];cases hx:x==n with
     | true=>exact .inr ⟨(cells.lookup n).getD 0,by rw[List.lookup_cons,hx]⟩
     | false=>exact .inr ⟨c,by rw[List.lookup_cons,hx];exact h⟩
    .have hb:(k==NameKind.free)=false:=by simpa using hk
     simp only[hb,Bool.false_eq_true,if_false];exact .inr ⟨c,h⟩
theorem vI:∀(names:List (Str × NameKind)) (n:Nat) (acc:List (Str × Addr)) {x:Str},(x,NameKind.cell) ∉ names->(cellsFrom n names acc).lookup x=acc.lookup x
 | [],_,_,_,_=>rfl
 | (y,k) ::r,n,acc,x,h=>by
   unfold cellsFrom;split
   .rename_i hk;have hk:k= .cell:=by simpa using hk
    subst hk;rw[vI r _ _ fun z=>h (List.mem_cons_of_mem _ z),List.lookup_cons]
    cases hx:x==y with
    | true=>
      have e:x=y:=by simpa using hx
      subst e;exact absurd List.mem_cons_self h
    | false=>rfl
   .exact vI r _ _ fun z=>h (List.mem_cons_of_mem _ z)
theorem o7:∀(names:List (Str × NameKind)) (n:Nat) (acc:List (Str × Addr)),cellsFrom n names acc=cellsFrom n names []++acc
 | [],_,_=>rfl
 | (y,k) ::r,n,acc=>by
   unfold cellsFrom;split
   .rw [o7 r (n+1) ((y,n) ::acc),o7 r (n+1) [(y,n)],List.append_assoc];rfl
   .exact o7 r n acc
theorem zC{a b:List (Str × Addr)}{c:Addr}(h:(a++b).lookup x=some c):(x,c)∈a\/b.lookup x=some c:=by
 induction a with
 | nil=>exact .inr h
 | cons y r ih=>
   obtain⟨n,v⟩:=y;rw[List.cons_append,List.lookup_cons] at h;cases hx:x==n with
   | true=>
     rw[hx] at h;have e:x=n:=by simpa using hx
     subst e;cases h;exact .inl List.mem_cons_self
   | false=>
     rw[hx] at h;exact(ih h).imp (List.mem_cons_of_mem _) id
theorem nU{a b:List (Str × Addr)}(h:∃c,b.lookup x=some c):∃c,(a++b).lookup x=some c:=by
 induction a with
 | nil=>exact h
 | cons y r ih=>
   rw[List.cons_append,List.lookup_cons];cases x==y.1 with
   | true=>exact⟨_,rfl⟩
   | false=>exact ih
theorem wH{a b:List (Str × Addr)}{c:Addr}(h:a.lookup x=some c):∃c,(a++b).lookup x=some c:=by
 induction a with
 | nil=>cases h
 | cons y r ih=>
   rw[List.cons_append,List.lookup_cons];rw[List.lookup_cons] at h;cases hx:x==y.1 with
   | true=>exact⟨_,rfl⟩
   | false=>rw [hx] at h;exact ih h
theorem vm{M:Model}{A:Around}{E:Y6}{s:Shared}{scope:Scope}{cl:List (Str × Addr)}{qual:Str}{env:Env}{Q:Env->Shared->Prop}(hQ:∀h',h'.Ns s.heap.objs.size (fun _=>none)->(∀b o,s.heap.get? b=some o->h'.get? b=some o)->CellsOk h' (s.heap.objs.size+1) (cellsFrom (s.heap.objs.size+1) scope.names [])->
 Q (newEnv scope s.heap.objs.size env.globals (cellsFrom (s.heap.objs.size+1) scope.names cl) qual none .none (some env) builtinsNs) {s with heap:=h'}) :
 wpAny M A (newFunctionEnv scope env.globals cl [] qual none .none (some env)) Q E s:=by
 simp only[newFunctionEnv,Option.isSome_some,if_true];refine wpAny_bind (wpAny_alloc ?_);refine wpAny_bind (wpAny_layCells _ (fun name kind cells=>by cases hkc:kind==NameKind.cell <;> simp [hkc]) _ _ _ _ ?_)
 have ok:=cellsFrom_ok scope.names (s.heap.push {cls:= .type "dict",data:= .dict #[]}) (s.heap.objs.size+1) [] ⟨fun _ _ hm=>(nomatch hm),List.Pairwise.nil⟩ (by rw[Heap.size_push];exact Nat.le_refl _)
 rw[Heap.size_push] at ok;rw[show({s with heap:=s.heap.push {cls:= .type "dict",data:= .dict #[]}}:Shared).heap.objs.size=s.heap.objs.size+1 from Heap.size_push ..]
 rw[List.forIn_nil];refine wpAny_bind (wpAny_pure (wpAny_pure ?_));exact hQ _ ((Heap.Ns.new s.heap (.type "dict")).keeps (pushCells_keeps _ _)) (fun b o e=>pushCells_keeps _ _ b o (Heap.get?_push_of_some _ e)) ok
def bC(X:Cx)(scope:Scope)(N':List Str)(fp:List Addr)(s:Shared)(H:Hp):Cx where
 prog:=X.prog
 w:=X.w
 K:=X.K
 mg:=X.mg
 base:=X.base
 A:=X.A
 N:=N'
 s₀:=s
 H₀:=H
 env:=compEnvC scope (cellsFrom (s.heap.objs.size+1) scope.names (oH X.env.cells scope.names [])) s.heap.objs.size X.env
 outer:=X.stack
 stack:=X.stack
 ex:=fp
 fn:=fun x=>scope.names.lookup x==some .cell
 calm:=X.calm
 pn:=[]
 xe:=fun _ _=>False
structure cM (X:Cx) (scope:Scope) (own:List Str) (kp:List Nat) (kn:List Str):Prop where
 kind:scope.kind= .function
 cel:∀y∈scope.names,y.2= .cell->scope.names.lookup y.1=some .cell
 nd:∀y∈scope.names,y.2= .local->scope.names.lookup y.1=some .local
 free:∀y∈scope.names,y.2= .free->X.env.kindOf y.1=some .cell\/X.env.kindOf y.1=some .free
 frl:∀y∈scope.names,y.2= .free->scope.names.lookup y.1=some .free
 names:kn.length=kp.length
 at_:∀(j i:Nat) (x:Str),kp[j]? =some i->kn[j]? =some x->X.N[i]? =some x
 isfree:∀x∈kn,scope.names.lookup x=some .free
def c0(own:List Str)(kp:List Nat)(σ:St):St:=List.replicate own.length none++kp.map fun i=>(σ[i]?).getD none
section
variable {X:Cx} {scope:Scope} {own:List Str} {kp:List Nat} {kn:List Str}
theorem dZ{env:Env}:∀{names:List (Str × NameKind)} {x:Str} {k:NameKind},
 (names.map fun(n,k)=>if(k==NameKind.free && env.scope.kind== .function && env.kindOf n==some .cell) then(n,NameKind.cell) else(n,k)).lookup x=some k->
 names.lookup x=some k\/(k= .cell/\names.lookup x=some .free)
 | [],_,_,h=>by simp at h
 | (n,k) ::r,x,k',h=>by
   have ih:=@dZ env r x k';have h:List.lookup x ((if(k==NameKind.free && env.scope.kind== .function && env.kindOf n==some .cell)=true then(n,NameKind.cell) else(n,k)) ::_)=some k':=h
   by_cases hc:(k==NameKind.free && env.scope.kind== .function && env.kindOf n==some .cell)=true
   .rw [if_pos hc] at h;have hkf:k= .free:=by
     simp only[Bool.and_eq_true,beq_iff_eq] at hc;exact hc.1.1
    cases hx:x==n with
    | true=>
      rw[List.lookup_cons,hx] at h;cases h;exact .inr ⟨rfl,by rw[List.lookup_cons,hx,hkf]⟩
    | false=>
      rw[List.lookup_cons,hx] at h;rw[List.lookup_cons,hx];exact ih h
   .rw [if_neg hc] at h;cases hx:x==n with
    | true=>
      rw[List.lookup_cons,hx] at h;rw[List.lookup_cons,hx];exact .inl h
    | false=>
      rw[List.lookup_cons,hx] at h;rw[List.lookup_cons,hx];exact ih h
theorem pj{pins:Y5}{s:Shared}(C:cM X scope own kp kn)(I:Inv X pins σ H s):∀y∈scope.names,y.2= .free->∃c,X.env.cells.lookup y.1=some c:=fun y hy hf=>
 I.ok.has y.1 (C.free y hy hf)
theorem D3{pins:Y5}{σ:St}{H:Hp}{s:Shared}{fp:List Addr}{oJ:Heap}{tk:Nat}(C:cM X scope own kp kn)(I:Inv X pins σ H s)(hf:∀b∈fp,rJ X pins H b)(hb:∀b∈fp,b < s.heap.objs.size)
 (hn:oJ.Ns s.heap.objs.size (fun _=>none)) (hk:∀b o,s.heap.get? b=some o->oJ.get? b=some o) (hC:CellsOk oJ (s.heap.objs.size+1) (cellsFrom (s.heap.objs.size+1) scope.names [])):Inv (bC X scope (own++kn) fp s H) [] (c0 own kp σ) H {s with heap:=oJ,toks:=tk}:=by
 have cl:∀x c,(oH X.env.cells scope.names []).lookup x=some c->X.env.cells.lookup x=some c:=fun x c e=>by
  rcases kW scope.names [] e with q | ⟨q1,q2⟩
  .simp at q
  .obtain⟨c',CU⟩:=pj C I (x, .free) q1 rfl;have CU:X.env.cells.lookup x=some c':=CU;rw[CU] at q2;rw[CU,q2];rfl
 have clA:∀x c,(cellsFrom (s.heap.objs.size+1) scope.names (oH X.env.cells scope.names [])).lookup x=some c->(x,c)∈cellsFrom (s.heap.objs.size+1) scope.names []\/(oH X.env.cells scope.names []).lookup x=some c:=fun x c e=>by
  rw[o7] at e;exact zC e
 have old:∀x c,(oH X.env.cells scope.names []).lookup x=some c->c < s.heap.objs.size:=fun x c e=>by
  obtain⟨v,h⟩:=I.cell x c (cl x c e);exact h.lt
 have new:∀x c,(x,c)∈cellsFrom (s.heap.objs.size+1) scope.names []->s.heap.objs.size<=c:=fun x c e=>Nat.le_of_lt (hC.empty x c e).2
 have clh:∀x,scope.names.lookup x=some .free->∃c,(oH X.env.cells scope.names []).lookup x=some c:=fun x hx=>xN scope.names [] (.inl (PySem.mem_of_lookup hx))
 refine⟨⟨I.ok.mod,C.kind,I.ok.glob,I.ok.blt,Nat.le_refl _,fun x y c h1 h2=>?inj,fun x hx=>?_,fun x c hn h=>?cab,I.ok.hd,I.ok.frames, .inl rfl,fun b pT=>⟨Nat.ne_of_lt (hb b pT),fun x c e z=>?exf⟩,
  fun b o e=>I.bs b o e,Nat.le_trans I.ok.bsz I.sz,fun b o e pT=>?_,fun b pT hs=>?_,I.stack,I.oy⟩,
  rfl,I.bare,Un.kept hk,⟨_,hn,fun i x v h1 h2 h3=>?_⟩,fun x c e=>?_,I.hok.fresh (Nat.le_refl _),fun x c e=>?frc,fun p hp=>(by cases hp),I.hok.kept hk,?_⟩
 case inj=>
  rcases clA x c h1 with a | a <;> rcases clA y c h2 with b | b
  .exact name_of_addr hC.apart a b
  .exact absurd (Nat.lt_of_lt_of_le (old y c b) (new x c a)) (Nat.lt_irrefl _)
  .exact absurd (Nat.lt_of_lt_of_le (old x c a) (new y c b)) (Nat.lt_irrefl _)
  .exact I.ok.inj x y c (cl x c a) (cl y c b)
 case cab=>
  have hn:(scope.names.lookup x==some .cell)=true:=hn;rcases clA x c h with a | a
  .exact new x c a
  .rcases kW scope.names [] a with q | ⟨q1,q2⟩
   .simp at q
   .have hx:scope.names.lookup x=some .cell:=by simpa using hn
    have h7:scope.names.lookup x=some .free:=C.frl _ q1 rfl;rw[hx] at h7;cases h7
 case exf=>
  rcases clA x c e with a | a
  .subst z;exact absurd (Nat.lt_of_lt_of_le (hb _ pT) (new x _ a)) (Nat.lt_irrefl _)
  .exact(hf b pT).2.2.2.2.1 x c (cl x c a) z
 case frc=>
  rcases clA x c e with a | a
  .exact I.hok.fresh (new x c a)
  .exact I.freeC x c (cl x c a)
 .have hx:(relabel scope X.env).names.lookup x=some .cell\/(relabel scope X.env).names.lookup x=some .free:=hx;show ∃c,(cellsFrom (s.heap.objs.size+1) scope.names (oH X.env.cells scope.names [])).lookup x=some c;rcases hx with hx | hx
  .rcases dZ hx with q | ⟨_,q⟩
   .rw [o7];obtain⟨c,hc⟩:=tR (n:=s.heap.objs.size+1) q;exact wH hc
   .rw [o7];exact nU (clh x q)
  .rcases dZ hx with q | ⟨q,_⟩
   .rw [o7];exact nU (clh x q)
   .cases q
 .rcases(hf b pT).2.2.2.1 with z | z
  .exact I.ok.noex b o e z
  .exact absurd (Nat.lt_of_lt_of_le (Heap.lt_size (I.ok.bs b o e).1) z) (Nat.lt_irrefl _)
 .rcases List.mem_cons.mp (I.zJ b hs) with z | z
  .exact(hf b pT).2.1 z
  .exact(hf b pT).2.2.1 z
 .-- a kept name
  have h1:(own++kn)[i]? =some x:=h1;have h2:(c0 own kp σ)[i]? =some (some v):=h2;unfold c0 at h2;by_cases hi:i < own.length
  .rw [List.getElem?_append_left (by simpa using hi),List.getElem?_replicate] at h2
   split at h2 <;> cases h2
  .rw [List.getElem?_append_right (by simpa using hi),List.length_replicate,List.getElem?_map] at h2
   rw[List.getElem?_append_right (by simpa using hi)] at h1
   cases e:kp[i - own.length]? with
   | none=>rw [e] at h2;cases h2
   | some j=>
     rw[e] at h2;have h2:(σ[j]?).getD none=some v:=Option.some.inj h2;have hj:X.N[j]? =some x:=C.at_ _ j x e h1;have IQ:σ[j]? =some (some v):=by
      cases q:σ[j]? with
      | none=>rw [q] at h2;cases h2
      | some y=>rw [q] at h2;exact congrArg some h2
     have hfree:scope.names.lookup x=some .free:=C.isfree x (List.mem_of_getElem? h1);have hkind:=C.free (x, .free) (PySem.mem_of_lookup hfree) rfl;obtain⟨m,hm,hl⟩:=I.loc;obtain⟨u,r,l⟩:=hl j x v hj IQ (hkind.elim (fun q=>Or.inr (Or.inl q)) fun q=>Or.inr (Or.inr q))
     refine⟨u,r, .inr ⟨?_,?_⟩⟩
     .have h3:(relabel scope X.env).names.lookup x=some .local\/(relabel scope X.env).names.lookup x=some .cell\/(relabel scope X.env).names.lookup x=some .free:=h3;rcases h3 with q | q | q
      .rcases dZ q with z | ⟨z,_⟩
       .rw [hfree] at z;cases z
       .cases z
      .exact .inl q
      .exact .inr q
     .rcases l with⟨k,_⟩ | ⟨_,c,hc,hcell⟩
      .rcases hkind with q | q
       .rw [show X.env.kindOf x=some .cell from q] at k;cases k
       .rw [show X.env.kindOf x=some .free from q] at k;cases k
      .obtain⟨c',CU⟩:=clh x hfree;have:=cl x c' CU;rw[hc] at this;cases this;obtain⟨o,ho,hd⟩:=hcell;exact⟨c,(vI _ _ _ fun z=>by have:=C.cel _ z rfl;rw [hfree] at this;cases this).trans CU,o,hk c o ho,hd⟩
 .rcases clA x c e with a | a
  .exact⟨_,(hC.empty x c a).1⟩
  obtain⟨v,o,ho,hd⟩:=I.cell x c (cl x c a);exact⟨v,o,hk c o ho,hd⟩
 .show(c0 own kp σ).length=(own++kn).length;unfold c0;rw[List.length_append,List.length_replicate,List.length_map,List.length_append,C.names]
theorem tI{pins:Y5}{s s':Shared}{fp:List Addr}{N':List Str}(I:Inv X pins σ H s)(hf:∀b∈fp,rJ X pins H b)(J:Inv (bC X scope N' fp s H) [] b8 H' s'):Inv X pins σ H' s':=
 I.Jj (ch:=fp) J.os J.base J.hok J.bare fun b hb=>⟨(hf b hb).2.2.2.1,(hf b hb).2.1,(hf b hb).2.2.2.2.1,(hf b hb).2.2.2.2.2⟩
end
def rM(X:Cx)(ifs:List Expr)(t:TT):Prop:=
 ∀(pins:Y5) (s:Shared) (σ:St) (H:Hp) (Q:Bool->Hp->Prop),Inv X pins σ H s->t σ H Q->
  wpAny (model X.prog X.w) X.A (forIn ifs true fun c r=>if r=true then do let ok <-isTrue c X.env (eval c X.env);pure (ForInStep.yield ok) else pure (ForInStep.yield r)) (TP X pins σ Q) X.xe s
def Q6:TT:=fun _ H Q=>Q true H
theorem yc{X:Cx}:rM X [] Q6:=fun _ _ _ H _ I h=>wpAny_tests_nil ⟨H,I,h⟩
theorem ET{X:Cx}{t:TT}(h:PT X c t):rM X [c] t:=fun pins s σ H Q I hq=>wpAny_tests_one (h pins s σ H Q I hq)
def A9(wi:TI)(g:TG)(tc:TT)(te:TE)(own:List Str)(kp:List Nat):TE:=fun σ H Q=>wi σ H fun J H1=>∀D,H1 D=none->
 ∃W:Nat->Nat->List V->Hp->Prop,(∃m,W 0 m [] (upd H1 D (.lst [])))/\∀i m ys H,W i m ys H->
  (J.stop i H/\Q (.ref D) H)\/(J.go i H/\∀x H',J.yld i H x H'->g x (c0 own kp σ) H' fun uM H2=>tc uM H2 fun c H3=>
    if c=true then te uM H3 fun y H4=>H4 D=some (.lst ys)/\ys.length < sizeLine/\∃m',m' < m/\W (i+1) m' (ys++[y]) (upd H4 D (.lst (ys++[y])))
    else ∃m',m' < m/\W (i+1) m' ys H3)
section
variable {X:Cx} {scope:Scope} {own:List Str} {kp:List Nat} {kn:List Str} {tg iter elt:Expr} {ifs:List Expr} {wi:TI} {g:TG} {tc:TT} {te:TE} {pos:Pos}
theorem yx{pins:Y5}{σ:St}{H:Hp}{s:Shared}{fp:List Addr}{it D:Addr}{tn:Nat->Heap->Prop}{J:It}{Q:VK}{oJ:Heap}{tk:Nat}{R:Result->Shared->Prop}
 (hc:X.calm=true) (C:cM X scope own kp kn) (I:Inv X pins σ H s) (hf:∀b∈fp,rJ X pins H b) (hb:∀b∈fp,b < s.heap.objs.size) (T:Turn X.prog X.w X.K tg J fp it tn)
 (hg:PG (bC X scope (own++kn) fp s H) tg g) (hi:rM (bC X scope (own++kn) fp s H) ifs tc) (he:PE (bC X scope (own++kn) fp s H) elt te)
 (hn:oJ.Ns s.heap.objs.size (fun _=>none)) (hk:∀b o,s.heap.get? b=some o->oJ.get? b=some o) (hC:CellsOk oJ (s.heap.objs.size+1) (cellsFrom (s.heap.objs.size+1) scope.names [])) (st:tn 0 s.heap)
 (W:Nat->Nat->List V->Hp->Prop) (w0:∃m,W 0 m [] H)
 (turn:∀i m ys H,W i m ys H->
   (J.stop i H/\Q (.ref D) H)\/(J.go i H/\∀x H',J.yld i H x H'->g x (c0 own kp σ) H' fun uM H2=>tc uM H2 fun c H3=>
     if c=true then te uM H3 fun y H4=>H4 D=some (.lst ys)/\ys.length < sizeLine/\∃m',m' < m/\W (i+1) m' (ys++[y]) (upd H4 D (.lst (ys++[y])))
     else ∃m',m' < m/\W (i+1) m' ys H3))
 (hR:∀H' s' b8,Inv (bC X scope (own++kn) fp s H) [] b8 H' s'->Q (.ref D) H'->R (.ok .next) s') :
 codeAny (model X.prog X.w) X.A (.compStart (.ListComp elt [⟨tg,iter,ifs,0⟩] scope pos) 0 (.ref it) (.ref D) (bC X scope (own++kn) fp s H).env) R {s with heap:=oJ,toks:=tk}:=by
 have I1:Inv (bC X scope (own++kn) fp s H) [] (c0 own kp σ) H {s with heap:=oJ,toks:=tk}:=D3 C I hf hb hn hk hC
 have IP:tn 0 oJ:=T.keep _ _ _ st fun b _ o e=>hk b o e
 have fp1:∀{H':Hp} {p:Y5},(∀b∈fp,H' b=none)->(∀b∈fp,∀q∈p,q.1≠b)->∀b∈fp,rJ (bC X scope (own++kn) fp s H) p H' b:=fun {H' p} hn hp b pT=>
  ⟨hn b pT,(I1.ok.exf b pT).1,I1.ok.exfs b pT, .inl pT,fun x c e=>(I1.ok.exf b pT).2 x c e,fun q hq=>hp b pT q hq⟩
 obtain⟨m0,w0⟩:=w0;have loop:codeAny (model X.prog X.w) X.A (.compLoop (.ListComp elt [⟨tg,iter,ifs,0⟩] scope pos) 0 (.ref it) (.ref D) (bC X scope (own++kn) fp s H).env) R {s with heap:=oJ,toks:=tk}:=by
  refine codeAny_loop rfl (fun n s'=>∃i ys H',Inv (bC X scope (own++kn) fp s H) [] (c0 own kp σ) H' s'/\tn i s'.heap/\(∀b∈fp,H' b=none)/\W i n ys H') (fun n s' hI=>?_) m0 ⟨0,[],H,I1,IP,fun b pT=>(hf b pT).1,w0⟩
  obtain⟨i,ys,H3,I3,IK,OQ,w3⟩:=hI;show wpAny _ _ ((compTurn (.ListComp elt [⟨tg,iter,ifs,0⟩] scope pos) 0 (.ref it) (.ref D) (bC X scope (own++kn) fp s H).env).onRaise (fun x=>do noteFrame x (bC X scope (own++kn) fp s H).env;theTreesLotGoes x)) _ _ s'
  refine wpAny_noted (wpAny_noRaise ?_);rw[compTurn_list];refine wpAny_bind (wpAny_standAt (wpAny_bind ?_));rcases turn i n ys H3 w3 with⟨stop,q⟩ | ⟨go,step⟩
  .refine cJ (T.done (bC X scope (own++kn) fp s H) rfl rfl rfl hc i [] s' _ H3 _ I3 (fp1 OQ (fun _ _ q hq=>by cases hq)) IK stop) fun r s4 ⟨hr,I4⟩=>?_
   subst hr;exact wpAny_pure (hR H3 s4 _ I4 q)
  .refine cJ (T.item (bC X scope (own++kn) fp s H) rfl rfl rfl hc i [] s' _ H3 _ I3 (fp1 OQ (fun _ _ q hq=>by cases hq)) IK go) fun r s4 ⟨u,hr,h4⟩=>?_
   subst hr;refine wpAny_bind (cJ h4 fun _ s5 ⟨x,H5,I5,r5,y5,Mo,Rj⟩=>?_)
   have I5':=I5.pinned (fp1 Rj (fun _ _ q hq=>by cases hq)) (T.obj _ _ Mo)
   have keepIt:∀{yG:St} {H7:Hp} {s7:Shared},Inv (bC X scope (own++kn) fp s H) ([]++pE fp s5.heap) yG H7 s7->tn (i+1) s7.heap/\∀b∈fp,H7 b=none:=fun {yG H7 s7} I7=>by
    refine⟨T.keep _ _ _ Mo fun b hb o e=>(I7.pin (b,o) (List.mem_append_right _ (List.mem_append_right _ (mn hb e)))).1,fun b hb=>?_⟩
    obtain⟨o,e,d⟩:=T.obj _ _ Mo b hb;exact(I7.pin (b,o) (List.mem_append_right _ (List.mem_append_right _ (mn hb e)))).2.1
   have reset:∀{yG:St} {H7:Hp} {s7:Shared},Inv (bC X scope (own++kn) fp s H) ([]++pE fp s5.heap) yG H7 s7->Inv (bC X scope (own++kn) fp s H) [] (c0 own kp σ) H7 s7:=fun {yG H7 s7} I7=>by
    have I8:=I7.qa;have hun:Un (o9 X.stack) fp H H7 s.heap s7.heap:=I8.base;have I9:Inv X pins σ H7 s7:=tI I hf I8;refine⟨I8.ok,I8.os,I8.bare,I8.base,?_,I8.cell,I8.free,I8.freeC,I8.pin,I8.hok,I1.len⟩;obtain⟨m,hm,_⟩:=I8.loc;refine⟨m,hm,fun i x v h1 h2 h3=>?_⟩
    obtain⟨m1,Y0,S_⟩:=I1.loc;obtain⟨u1,r1,l1⟩:=S_ i x v h1 h2 h3;have h1:(own++kn)[i]? =some x:=h1;have h2:(c0 own kp σ)[i]? =some (some v):=h2;unfold c0 at h2;by_cases hi:i < own.length
    .rw [List.getElem?_append_left (by simpa using hi),List.getElem?_replicate] at h2
     split at h2 <;> cases h2
    .rw [List.getElem?_append_right (by simpa using hi),List.length_replicate,List.getElem?_map] at h2
     rw[List.getElem?_append_right (by simpa using hi)] at h1
     cases e:kp[i - own.length]? with
     | none=>rw [e] at h2;cases h2
     | some j=>
       rw[e] at h2;have h2:(σ[j]?).getD none=some v:=Option.some.inj h2;have hj:X.N[j]? =some x:=C.at_ _ j x e h1;have IQ:σ[j]? =some (some v):=by
        cases q:σ[j]? with
        | none=>rw [q] at h2;cases h2
        | some y=>rw [q] at h2;exact congrArg some h2
       have hfree:scope.names.lookup x=some .free:=C.isfree x (List.mem_of_getElem? h1);have hkind:=C.free (x, .free) (PySem.mem_of_lookup hfree) rfl;obtain⟨m9,YZ,Xu⟩:=I9.loc;obtain⟨u,r,l⟩:=Xu j x v hj IQ (hkind.elim (fun q=>Or.inr (Or.inl q)) fun q=>Or.inr (Or.inr q))
       refine⟨u,r, .inr ?_⟩;rcases l1 with⟨k,k2⟩ | ⟨k,c,hc,hcell⟩
       .have k:(relabel scope X.env).names.lookup x=some .local:=k;rcases dZ k with z | ⟨z,_⟩
        .rw [hfree] at z;cases z
        .cases z
       .refine⟨k,c,hc,?_⟩;rcases l with⟨k',_⟩ | ⟨_,c',CU,Mh⟩
        .rcases hkind with q | q
         .rw [show X.env.kindOf x=some .cell from q] at k';cases k'
         .rw [show X.env.kindOf x=some .free from q] at k';cases k'
        .have hcl:(oH X.env.cells scope.names []).lookup x=some c:=(vI _ _ _ fun z=>by have:=C.cel _ z rfl;rw [hfree] at this;cases this).symm.trans hc
         rcases kW scope.names [] hcl with q | ⟨q1,q2⟩
         .simp at q
         .rw [CU] at q2;have q2:c=c':=q2;rw[q2];exact Mh
   have hmm:=hg ([]++pE fp s5.heap) s5 (c0 own kp σ) H5 x u _ I5' r5 (step x H5 y5);refine wpAny_bind (cJ hmm fun _ s6 ⟨OO,H6,I6,q6⟩=>?_)
   refine wpAny_bind (cJ (hi _ s6 OO H6 _ I6 q6) fun ok s7 ⟨H7,I7,q7⟩=>?_)
   cases ok with
   | false=>
     simp only[Bool.false_eq_true,if_false] at q7 ⊢;obtain⟨m',Mn,w7⟩:=q7;obtain⟨a1,a2⟩:=keepIt I7;exact wpAny_pure ⟨rfl,m',Mn,i+1,ys,H7,reset I7,a1,a2,w7⟩
   | true=>
     simp only[if_true] at q7 ⊢;refine wpAny_bind (wpAny_bind (cJ (he _ s7 OO H7 _ I7 q7) fun yv s8 ⟨y,H8,I8,r8,hD,hlt,m',Mn,w8⟩=>wpAny_bind ?_))
     obtain⟨a1,a2⟩:=keepIt I8;refine cJ (oG _ s8 OO H8 (.ref D) [y] (.ref D) [yv] (fun v H9=>v= .cD/\H9=upd H8 D (.lst (ys++[y]))) I8 rfl (.cons r8 .nil) ⟨D,ys,y,rfl,rfl,hD,hlt,rfl,rfl⟩) fun _ s9 ⟨v9,H9,I9,_,_,e9⟩=>?_
     subst e9;obtain⟨b1,b2⟩:=keepIt I9;exact wpAny_pure (wpAny_pure ⟨rfl,m',Mn,i+1,ys++[y],_,reset I9,b1,b2,w8⟩)
 exact codeAny_compStart_list loop (T.self _ _ _ _ _ IP loop)
theorem A2(hc:X.calm=true)(C:cM X scope own kp kn)(hi:PI X tg iter wi)(hg:∀fp s H,PG (bC X scope (own++kn) fp s H) tg g)(F6:∀fp s H,rM (bC X scope (own++kn) fp s H) ifs tc)
 (he:∀fp s H,PE (bC X scope (own++kn) fp s H) elt te) (hs:∀x,foldedSetIterable iter X.env x=pure x:=by intro _;rfl):PE X (.ListComp elt [⟨tg,iter,ifs,0⟩] scope pos) (A9 wi g tc te own kp):=by
 intro pins s σ H Q I h;rw[eval_ListComp];refine wpAny_comprehension_free (use:=none) rfl hs (mO (pj C I)) C.kind C.nd (cJ (hi pins s σ H _ I h) fun v s1 h1=>cJ h1 fun Pn s2 h2=>?_)
 obtain⟨it,fp,tn,J,H2,e,I2,T,Mm,f2,q⟩:=h2;subst e;refine wpAny_newObj_type ?_;have I3:Inv X pins σ (upd H2 s2.heap.objs.size (.lst [])) {s2 with heap:=s2.heap.push {cls:= .type "list",dict:=none,data:= .seq ([]:List Value).toArray}}:=I2.KC (its:=[]) (t':=s2.toks) .nil (Nat.zero_le _)
 obtain⟨W,w0,turn⟩:=q s2.heap.objs.size I2.fresh;have fne:∀b∈fp,b < s2.heap.objs.size:=fun b hb=>let⟨o,e,_⟩:=T.obj _ _ Mm b hb;Heap.lt_size e
 have f3:∀b∈fp,rJ X pins (upd H2 s2.heap.objs.size (.lst [])) b:=fun b hb=>⟨by rw[a_ (Nat.ne_of_lt (fne b hb))];exact(f2 b hb).1,(f2 b hb).2⟩
 generalize hs3:({s2 with heap:=s2.heap.push {cls:= .type "list",dict:=none,data:= .seq ([]:List Value).toArray}}:Shared)=s3 at I3 ⊢
 have IK:tn 0 s3.heap:=by rw[<-hs3];exact T.keep _ _ _ Mm fun b _ o e=>Heap.get?_push_of_some _ e
 have fne3:∀b∈fp,b < s3.heap.objs.size:=fun b hb=>by rw[<-hs3];exact Nat.lt_of_lt_of_le (fne b hb) (by rw[Heap.size_push];exact Nat.le_succ _)
 refine vm fun oJ zY hk hC=>?_
 refine yx (D:=s2.heap.objs.size) hc C I3 f3 fne3 T (hg fp s3 _) (F6 fp s3 _) (he fp s3 _) zY hk hC IK W w0 turn fun H' s' b8 J' hq=>?_
 have B:=tI I3 f3 J';obtain⟨m',Mn,_⟩:=J'.loc;refine⟨m',Mn,fun h' sb=>⟨.ref s2.heap.objs.size,H',?_,rfl,hq⟩⟩
 have fC:=I3.Cs (H':=H') (b:=s3.heap.objs.size) (Nat.le_refl _) J'.free;exact B.turned (it:=s3.heap.objs.size) (t':=s'.toks) (fun b o hb e=>(sb.2 b hb).trans e) fC.1 fC.2.1 fC.2.2.2.1 fC.2.2.2.2.1 fC.2.2.2.2.2
theorem zx{i:Nat}{x:Str}{pos' Gb:Pos}(hc:X.calm=true)(hN:X.N.Nodup)(hx:X.N[i]? =some x)(Gu:X.env.scope.names.lookup x=some .local)(C:cM X scope own kp kn)(hi:PI X tg iter wi)
 (hg:∀fp s H,PG (bC X scope (own++kn) fp s H) tg g) (F6:∀fp s H,rM (bC X scope (own++kn) fp s H) ifs tc)
 (he:∀fp s H,PE (bC X scope (own++kn) fp s H) elt te)
 (CB:swapsWith (.ListComp elt [⟨tg,iter,ifs,0⟩] scope pos) (some (.Name x pos')) Gb.line X.env=pure true:=by rfl)
 (hs:∀x,foldedSetIterable iter X.env x=pure x:=by intro _;rfl) :
 PS X (.Assign [.Name x pos'] (.ListComp elt [⟨tg,iter,ifs,0⟩] scope pos) Gb) (Ct (A9 wi g tc te own kp) (sC i)):=by
 intro pins s σ H D I h;rw[exec_Assign_Name_used _ _ _ _ CB];refine wpAny_bind (wpAny_standAt (wpAny_bind ?_));show wpAny _ X.A (do let _ <-comprehension (.ListComp elt [⟨tg,iter,ifs,0⟩] scope pos) scope X.env _ (newList []) false (eval iter X.env) (some (assign (.Name x pos') X.env))) _ _ s
 refine wpAny_bind (wpAny_mono (wpAny_comprehension_free (use:=some (assign (.Name x pos') X.env)) (Q:=fun _ s'=>SP X pins D .next s') rfl hs (mO (pj C I)) C.kind C.nd
  (cJ (hi pins s σ H _ I h) fun v s1 h1=>cJ h1 fun Pn s2 h2=>?_)) (fun _ s' hq=>wpAny_pure (wpAny_pure hq)) fun _ _ e=>e)
 obtain⟨it,fp,tn,J,H2,e,I2,T,Mm,f2,q⟩:=h2;subst e;refine wpAny_newObj_type ?_;have I3:Inv X pins σ (upd H2 s2.heap.objs.size (.lst [])) {s2 with heap:=s2.heap.push {cls:= .type "list",dict:=none,data:= .seq ([]:List Value).toArray}}:=I2.KC (its:=[]) (t':=s2.toks) .nil (Nat.zero_le _)
 obtain⟨W,w0,turn⟩:=q s2.heap.objs.size I2.fresh;have fne:∀b∈fp,b < s2.heap.objs.size:=fun b hb=>let⟨o,e,_⟩:=T.obj _ _ Mm b hb;Heap.lt_size e
 have f3:∀b∈fp,rJ X pins (upd H2 s2.heap.objs.size (.lst [])) b:=fun b hb=>⟨by rw[a_ (Nat.ne_of_lt (fne b hb))];exact(f2 b hb).1,(f2 b hb).2⟩
 generalize hs3:({s2 with heap:=s2.heap.push {cls:= .type "list",dict:=none,data:= .seq ([]:List Value).toArray}}:Shared)=s3 at I3 ⊢
 have IK:tn 0 s3.heap:=by rw[<-hs3];exact T.keep _ _ _ Mm fun b _ o e=>Heap.get?_push_of_some _ e
 have fne3:∀b∈fp,b < s3.heap.objs.size:=fun b hb=>by rw[<-hs3];exact Nat.lt_of_lt_of_le (fne b hb) (by rw[Heap.size_push];exact Nat.le_succ _)
 refine vm fun oJ zY hk hC=>?_
 refine yx (Q:=fun x H1=>sC i x σ H1 D.nx) (D:=s2.heap.objs.size) hc C I3 f3 fne3 T (hg fp s3 _) (F6 fp s3 _) (he fp s3 _) zY hk hC IK W w0 turn fun H' s' b8 J' hq=>?_
 have B:=tI I3 f3 J';obtain⟨m',Mn,_⟩:=J'.loc;have fC:=I3.Cs (H':=H') (b:=s3.heap.objs.size) (Nat.le_refl _) J'.free;show wpAny _ X.A (assign (.Name x pos') X.env (.ref s2.heap.objs.size)) _ _ s';refine wpAny_assign_Name (vb B hN hx (.inl Gu) (v:= .ref s2.heap.objs.size) rfl (fun s4 I4 ⟨a,sb,ha⟩=>?_) (.inr Gu))
 have ha':s3.heap.objs.size≠a:=by
  rcases ha with rfl | z
  .exact fC.2.1
  .exact fun e=>fC.2.2.2.2.1 x a z e.symm
 refine⟨m',Mn.sameBut sb ha',fun h' XI=>⟨_,H',?_,hq⟩⟩
 exact I4.turned (it:=s3.heap.objs.size) (t':=s4.toks) (fun b o hb e=>(XI.2 b hb).trans e) fC.1 fC.2.1 fC.2.2.2.1 fC.2.2.2.2.1 fC.2.2.2.2.2
end
end L2
end
section
namespace L2
open PySem PySem.Spec PyProof.Rows
inductive D where
 | cD | bl (b:Bool) | int (i:Int) | str (x:Str) | lst (ds:List D) | tup (ds:List D) | dct (ks:List Key) (ds:List D)
inductive R (α:Type) where
 | ok (a:α) | ex (c:Nat) | no
def R.bind{α β:Type}:R α->(α->R β)->R β
 | .ok a,f=>f a
 | .ex c,_=> .ex c
 | .no,_=> .no
theorem R.af{α β:Type}{r:R α}{f:α->R β}{b:β}(h:r.bind f= .ok b):∃a,r= .ok a/\f a= .ok b:=by
 cases r with
 | ok a=>exact⟨a,rfl,h⟩
 | ex c=>cases h
 | no=>cases h
@[simp] theorem R.aG{α β:Type}(a:α)(f:α->R β):(R.ok a).bind f=f a:=rfl
def R.aU{α:Type}(c:Bool)(r:R α):R α:=if c then r else .no
theorem R.aL{α:Type}{c:Bool}{r:R α}{a:α}(h:R.aU c r= .ok a):c=true/\r= .ok a:=by
 cases c with
 | true=>exact⟨rfl,h⟩
 | false=>cases h
@[simp] theorem R.MD{α:Type}(r:R α):R.aU true r=r:=rfl
def xt(K:W.Frag)(B:List Addr)(H:Hp)(a:Addr)(xs:List V):Prop:=
 (a ∉ B/\Rd H a (.lst xs))\/∃(its:List Value) (n:Nat),K.lookup a=some {cls:= .type "list",data:= .seq its.toArray n}/\xs.length<=sizeLine/\Vals xs its
def AE(K:W.Frag)(B:List Addr)(H:Hp)(a:Addr)(xs:List V):Prop:=
 (a ∉ B/\Rd H a (.tup xs))\/∃(o:Obj) (its:Array Value) (n:Nat),K.lookup a=some o/\o.cls= .type "tuple"/\o.data= .seq its n/\its.size<=sizeLine/\Vals xs its.toList
theorem xt.sq{K:W.Frag}{B:List Addr}{a:Addr}{xs:List V}(h:xt K B H a xs):oz K H a xs:=by
 rcases h with z | ⟨its,n,hk,hz,r⟩
 .exact .inl z.2
 .exact .inr ⟨_,its.toArray,n,hk,rfl,rfl,rfl,by rw[List.size_toArray,<-r.length];exact hz,by simpa using r⟩
theorem AE.sq{K:W.Frag}{B:List Addr}{a:Addr}{xs:List V}(h:AE K B H a xs):q9 K H a xs:=h.elim (fun z=> .inl z.2) .inr
mutual
def Rep(K:W.Frag)(B:List Addr)(H:Hp):D->V->Prop
 | .cD,v=>v= .cD
 | .bl b,v=>v= .bl b
 | .int i,v=>v= .int i
 | .str x,v=>v= .str x
 | .lst ds,v=>∃a xs,v= .ref a/\xt K B H a xs/\ay K B H ds xs
 | .tup ds,v=>∃a xs,v= .ref a/\AE K B H a xs/\ay K B H ds xs
 | .dct ks ds,v=>∃(a:Addr) (aw:List (Key × V)),v= .ref a/\(a ∉ B/\H a=some (.dK aw))/\aw.map (·.1)=ks/\ay K B H ds (aw.map (·.2))
def ay(K:W.Frag)(B:List Addr)(H:Hp):List D->List V->Prop
 | [],xs=>xs=[]
 | d ::ds,xs=>∃x r,xs=x ::r/\Rep K B H d x/\ay K B H ds r
end
def dy(B:List Addr)(H:Hp)(B':List Addr)(H':Hp):Prop:=∀b o,H b=some o->b ∉ B->H' b=some o/\b ∉ B'
theorem dy.rd{B B':List Addr}(p:dy B H B' H'){a:Addr}{u:HO}(h:Rd H a u)(n:a ∉ B):Rd H' a u/\a ∉ B':=by
 rcases h with e | ⟨o,e⟩
 .exact⟨.inl (p a _ e n).1,(p a _ e n).2⟩
 .exact⟨.inr ⟨o,(p a _ e n).1⟩,(p a _ e n).2⟩
theorem dy.trans{B B' OH:List Addr}(p:dy B H B' H')(q:dy B' H' OH pK):dy B H OH pK:=fun b o e n=>
 let⟨e1,n1⟩:=p b o e n;q b o e1 n1
theorem dy.same{B:List Addr}(s:aO H H'):dy B H B H':=fun b o e n=>⟨s b o e,n⟩
theorem dy.refl(B:List Addr)(H:Hp):dy B H B H:=dy.same (aO.refl H)
theorem xt.br{K:W.Frag}{B B':List Addr}(p:dy B H B' H'){a:Addr}{xs:List V}(l:xt K B H a xs):xt K B' H' a xs:=
 l.elim (fun z=> .inl ⟨(p.rd z.2 z.1).2,(p.rd z.2 z.1).1⟩) .inr
mutual
theorem Rep.br{K:W.Frag}{B B':List Addr}(p:dy B H B' H'):∀{d:D} {v:V},Rep K B H d v->Rep K B' H' d v
 | .cD,_,h=>h
 | .bl _,_,h=>h
 | .int _,_,h=>h
 | .str _,_,h=>h
 | .lst ds,v,h=>by
   unfold Rep at h ⊢;obtain⟨a,xs,e,l,r⟩:=h;exact⟨a,xs,e,l.br p,ay.br p r⟩
 | .tup ds,v,h=>by
   unfold Rep at h ⊢;obtain⟨a,xs,e,l,r⟩:=h;exact⟨a,xs,e,l.elim (fun z=> .inl ⟨(p.rd z.2 z.1).2,(p.rd z.2 z.1).1⟩) .inr,ay.br p r⟩
 | .dct ks ds,v,h=>by
   unfold Rep at h ⊢;obtain⟨a,aw,e,⟨n,l⟩,k,r⟩:=h;exact⟨a,aw,e,⟨(p a _ l n).2,(p a _ l n).1⟩,k,ay.br p r⟩
theorem ay.br{K:W.Frag}{B B':List Addr}(p:dy B H B' H'):∀{ds:List D} {xs:List V},ay K B H ds xs->ay K B' H' ds xs
 | [],_,h=>h
 | d ::ds,xs,h=>by
   unfold ay at h ⊢;obtain⟨x,r,e,h1,h2⟩:=h;exact⟨x,r,e,Rep.br p h1,ay.br p h2⟩
end
theorem Rep.same{K:W.Frag}{B:List Addr}{d:D}{v:V}(h:Rep K B H d v)(s:aO H H'):Rep K B H' d v:=h.br (dy.same s)
theorem ay.same{K:W.Frag}{B:List Addr}{d:List D}{v:List V}(h:ay K B H d v)(s:aO H H'):ay K B H' d v:=h.br (dy.same s)
theorem ay.nil{K:W.Frag}{B:List Addr}:ay K B H [] []:=by unfold ay;rfl
theorem ay.cons{K:W.Frag}{B:List Addr}{d:D}{ds:List D}{x:V}{xs:List V}(h:Rep K B H d x)(t:ay K B H ds xs):ay K B H (d ::ds) (x ::xs):=by
 unfold ay;exact⟨x,xs,rfl,h,t⟩
theorem ay.b_{K:W.Frag}{B:List Addr}{d:D}{ds:List D}{xs:List V}(h:ay K B H (d ::ds) xs):∃x r,xs=x ::r/\Rep K B H d x/\ay K B H ds r:=by
 unfold ay at h;exact h
theorem ay.length{K:W.Frag}{B:List Addr}:∀{ds:List D} {xs:List V},ay K B H ds xs->ds.length=xs.length
 | [],_,h=>by unfold ay at h;rw [h];rfl
 | d ::ds,xs,h=>by
   obtain⟨x,r,rfl,_,h2⟩:=h.b_;simp [h2.length]
theorem ay.get{K:W.Frag}{B:List Addr}:∀{ds:List D} {xs:List V} {i:Nat} {d:D},ay K B H ds xs->ds[i]? =some d->∃x,xs[i]? =some x/\Rep K B H d x
 | [],_,_,_,_,e=>by simp at e
 | d ::ds,xs,0,d',h,e=>by
   obtain⟨x,r,rfl,h1,h2⟩:=h.b_;simp at e;subst e;exact⟨x,rfl,h1⟩
 | d ::ds,xs,i+1,d',h,e=>by
   obtain⟨x,r,rfl,h1,h2⟩:=h.b_;obtain⟨y,e1,e2⟩:=ay.get (i:=i) h2 (by simpa using e)
   exact⟨y,by simpa using e1,e2⟩
theorem ay.append{K:W.Frag}{B:List Addr}:∀{ds es:List D} {xs ys:List V},ay K B H ds xs->ay K B H es ys->ay K B H (ds++es) (xs++ys)
 | [],_,_,_,h,t=>by unfold ay at h;subst h;exact t
 | d ::ds,es,xs,ys,h,t=>by
   obtain⟨x,r,rfl,h1,h2⟩:=h.b_;exact ay.cons h1 (ay.append h2 t)
theorem ay.drop{K:W.Frag}{B:List Addr}:∀{ds:List D} {xs:List V} (n:Nat),ay K B H ds xs->ay K B H (ds.drop n) (xs.drop n)
 | _,_,0,h=>h
 | [],_,n+1,h=>by unfold ay at h;subst h;exact ay.nil
 | d ::ds,xs,n+1,h=>by
   obtain⟨x,r,rfl,h1,h2⟩:=h.b_;exact ay.drop n h2
theorem ay.take{K:W.Frag}{B:List Addr}:∀{ds:List D} {xs:List V} (n:Nat),ay K B H ds xs->ay K B H (ds.take n) (xs.take n)
 | _,_,0,h=>ay.nil
 | [],_,n+1,h=>by unfold ay at h;subst h;exact ay.nil
 | d ::ds,xs,n+1,h=>by
   obtain⟨x,r,rfl,h1,h2⟩:=h.b_;exact ay.cons h1 (ay.take n h2)
def D.atom:D->Bool
 | .cD=>true | .bl _=>true | .int _=>true | .str _=>true | _=>false
theorem Rep.atom{K:W.Frag}{B B':List Addr}{d:D}{v:V}(a:d.atom=true)(h:Rep K B H d v):Rep K B' H' d v:=by
 cases d <;> first | exact h | cases a
inductive Sl where
 | un | val (d:D) | bld (ds:List D)
abbrev ao:=List Sl
structure dC (K:W.Frag) (Z B:List Addr) (H:Hp) (σ:St) (δ:ao):Prop where
 len:δ.length=σ.length
 bs:∀a∈B,∃o,H a=some o
 zb:∀a∈Z,a∈B
 val:∀(i:Nat) (d:D),δ[i]? =some (.val d)->∃v,σ[i]? =some (some v)/\Rep K B H d v
 bld:∀(i:Nat) (ds:List D),δ[i]? =some (.bld ds)->∃a xs,σ[i]? =some (some (.ref a))/\a∈B/\a ∉ Z/\H a=some (.lst xs)/\ay K B H ds xs
 dis:∀(i j:Nat) (a:Addr) (ds es:List D),δ[i]? =some (.bld ds)->δ[j]? =some (.bld es)->σ[i]? =some (some (.ref a))->σ[j]? =some (some (.ref a))->i=j
theorem dC.same{K:W.Frag}{Z B:List Addr}{δ:ao}(E:dC K Z B H σ δ)(s:aO H H'):dC K Z B H' σ δ where
 len:=E.len
 bs:=fun a ha=>let⟨o,e⟩:=E.bs a ha;⟨o,s a o e⟩
 zb:=E.zb
 val:=fun i d e=>let⟨v,h1,h2⟩:=E.val i d e;⟨v,h1,h2.same s⟩
 bld:=fun i ds e=>let⟨a,xs,h1,h2,h3,h4,h5⟩:=E.bld i ds e;⟨a,xs,h1,h2,h3,s a _ h4,h5.same s⟩
 dis:=E.dis
def N6(δ:ao):ao:=δ.map fun x=>match x with | .bld ds=> .val (.lst ds) | y=>y
theorem PE.imp{X:Cx}{t t':TE}(h:PE X e t)(w:∀σ H Q,t' σ H Q->t σ H Q):PE X e t':=fun pins s σ H Q I hq=>h pins s σ H Q I (w σ H Q hq)
theorem PT.imp{X:Cx}{t t':TT}(h:PT X e t)(w:∀σ H Q,t' σ H Q->t σ H Q):PT X e t':=fun pins s σ H Q I hq=>h pins s σ H Q I (w σ H Q hq)
theorem PA.imp{X:Cx}{t t':TA}(h:PA X e t)(w:∀σ H Q,t' σ H Q->t σ H Q):PA X e t':=fun pos pins s σ H Q I hq=>h pos pins s σ H Q I (w σ H Q hq)
theorem PS.imp{X:Cx}{t t':TS}(h:PS X e t)(w:∀D σ H,t' D σ H->t D σ H):PS X e t':=fun pins s σ H D I hq=>h pins s σ H D I (w D σ H hq)
theorem vW.imp{X:Cx}{t t':TS}(h:vW X e t)(w:∀D σ H,t' D σ H->t D σ H):vW X e t':=fun pins s σ H D I hq=>h pins s σ H D I (w D σ H hq)
theorem PG.imp{X:Cx}{t t':TG}(h:PG X e t)(w:∀v σ H Q,t' v σ H Q->t v σ H Q):PG X e t':=fun pins s σ H v u Q I r hq=>h pins s σ H v u Q I r (w v σ H Q hq)
theorem PI.imp{X:Cx}{t t':TI}(h:PI X tg e t)(w:∀σ H Q,t' σ H Q->t σ H Q):PI X tg e t':=fun pins s σ H Q I hq=>h pins s σ H Q I (w σ H Q hq)
abbrev FD:=ao->R D
def tD(K:W.Frag)(f:FD):TE:=fun σ H Q=>∃Z B δ d,dC K Z B H σ δ/\f δ= .ok d/\∀v H',aO H H'->Rep K B H' d v->Q v H'
def tN(K:W.Frag)(f:ao->R (List D)):TE:=fun σ H Q=>∃Z B δ ds,dC K Z B H σ δ/\f δ= .ok ds/\∀a xs H',aO H H'->H a=none->H' a=some (.lst xs)->ay K (a ::B) H' ds xs->Q (.ref a) H'
def Kb(K:W.Frag)(f:ao->R Bool):TT:=fun σ H Q=>∃Z B δ b,dC K Z B H σ δ/\f δ= .ok b/\∀H',aO H H'->Q b H'
def UH(K:W.Frag)(f:ao->R (List D)):TA:=fun σ H Q=>∃Z B δ ds,dC K Z B H σ δ/\f δ= .ok ds/\∀vs H',aO H H'->ay K B H' ds vs->Q vs H'
abbrev PD(X:Cx)(e:Expr)(f:FD):Prop:=PE X e (tD X.K f)
abbrev PN(X:Cx)(e:Expr)(f:ao->R (List D)):Prop:=PE X e (tN X.K f)
abbrev PB(X:Cx)(e:Expr)(f:ao->R Bool):Prop:=PT X e (Kb X.K f)
abbrev CJ(X:Cx)(es:List Expr)(f:ao->R (List D)):Prop:=PA X es (UH X.K f)
section
variable {X:Cx}
def eNew(f:ao->R (List D)):FD:=fun δ=>(f δ).bind fun ds=> .ok (.lst ds)
theorem JR{f:ao->R (List D)}(h:PN X e f):PD X e (eNew f):=h.imp fun σ H Q ⟨Z,B,δ,d,E,hf,q⟩=>by
 obtain⟨ds,h1,h2⟩:=R.af hf;cases h2;refine⟨Z,B,δ,ds,E,h1,fun a xs H' s n e r=>q _ H' s ?_⟩
 unfold Rep;refine⟨a,xs,rfl, .inl ⟨fun ha=>?_, .inl e⟩,r.br fun b o e nb=>⟨e,fun hb=>nb (List.mem_cons_of_mem _ hb)⟩⟩
 obtain⟨o,ho⟩:=E.bs a ha;rw[n] at ho;cases ho
theorem xH{B:List Addr}{H:Hp}{p:Addr}{o:HO}(h:H p=none):dy B H (p ::B) (upd H p o):=fun b u e nb=>
 ⟨by rw[a_ (bz e h)];exact e,fun hb=>by
   rcases List.mem_cons.mp hb with z | z
   .exact bz e h z
   .exact nb z⟩
def Ui(f:FD):FD:=fun δ=>(f (N6 δ)).bind fun d=>R.aU d.atom (.ok d)
def Th(f:ao->R Bool):ao->R Bool:=fun δ=>f (N6 δ)
def ah(i:Nat):FD:=fun δ=>match δ[i]? with | some (.val d)=> .ok d | _=> .no
def eC(d:D):FD:=fun _=> .ok d
theorem KJ(i:Nat){x:Str}{pos:Pos}(hN:X.N[i]? =some x:=by rfl)(hv:KL X.env.scope x:=by first | exact Or.inl rfl | exact Or.inr (Or.inl rfl) | exact Or.inr (Or.inr rfl))(hd:(x==("__debug__":Str))=false:=by decide)
 (uN:(x==("__classdict__":Str))=false:=by decide):PD X (.Name x pos) (ah i):=(zL hN hv hd uN).imp fun σ H Q ⟨Z,B,δ,d,E,hf,q⟩=>by
 unfold ah at hf;split at hf
 .rename_i d' e;cases hf;obtain⟨v,h1,h2⟩:=E.val i d e;exact⟨v,h1,q v H (aO.refl H) h2⟩
 .cases hf
theorem ql{v:V}{d:D}(h:PE X e (tC v))(r:∀B H,Rep X.K B H d v):PD X e (eC d):=h.imp fun σ H Q ⟨Z,B,δ,d',E,hf,q⟩=>by
 cases hf;exact q v H (aO.refl H) (r B H)
theorem KW{i j pos}:PD X (.Constant (.int i) j pos) (eC (.int i)):=ql nJ fun _ _=>by unfold Rep;rfl
theorem Np{b j pos}:PD X (.Constant (.bool b) j pos) (eC (.bl b)):=ql Of fun _ _=>by unfold Rep;rfl
theorem JL{x j pos}:PD X (.Constant (.str x) j pos) (eC (.str x)):=ql m_ fun _ _=>by unfold Rep;rfl
def Glob(K:W.Frag)(mg:Y_)(x:Str)(d:D):Prop:=∃(u:Value) (v:V),mg x=some u/\RelV v u/\∀B H,Rep K B H d v
theorem Hd{d:D}{pos:Pos}(g:Glob X.K X.mg x d)(hg:Gl X x)(hd:(x==("__debug__":Str))=false:=by decide):PD X (.Name x pos) (eC d):=by
 obtain⟨u,v,hm,r,h⟩:=g;exact ql (dn hg hm r hd) h
def aJ:ao->R (List D):=fun _=> .ok []
def ai(f:FD)(g:ao->R (List D)):ao->R (List D):=fun δ=>(f δ).bind fun d=>(g δ).bind fun ds=> .ok (d ::ds)
theorem HL:CJ X [] aJ:=mq.imp fun σ H Q ⟨Z,B,δ,d,E,hf,q⟩=>by
 cases hf;exact q [] H (aO.refl H) ay.nil
theorem FY{g:ao->R (List D)}(h:PD X e f)(t:CJ X es g)(hs:starEach (e ::es) X.env=(false,eval e X.env) ::starEach es X.env:=by rfl):CJ X (e ::es) (ai f g):=
 (jc h t hs).imp fun σ H Q ⟨Z,B,δ,d,E,hf,q⟩=>by
   obtain⟨d1,h1,h2⟩:=R.af hf;obtain⟨ds,h3,h4⟩:=R.af h2;cases h4;exact⟨Z,B,δ,d1,E,h1,fun v H1 s1 r1=>⟨Z,B,δ,ds,E.same s1,h3,fun vs H2 s2 r2=>q _ H2 (s1.trans s2) (ay.cons (r1.same s2) r2)⟩⟩
def BV(g:ao->R (List D)):FD:=fun δ=>(g δ).bind fun ds=>R.aU (decide (ds.length<=sizeLine)) (.ok (.tup ds))
def bN(g:ao->R (List D)):ao->R (List D):=fun δ=>(g δ).bind fun ds=>R.aU (decide (ds.length<=sizeLine)) (.ok ds)
theorem bB{H:Hp}{p:Addr}{o:HO}(h:H p=none):aO H (upd H p o):=fun b u e=>by rw[a_ (bz e h)];exact e
theorem K2{g:ao->R (List D)}{x1 pos}(h:CJ X es g):PD X (.Tuple es x1 pos) (BV g):=(y4 h).imp fun σ H Q ⟨Z,B,δ,d,E,hf,q⟩=>by
 obtain⟨ds,h1,h2⟩:=R.af hf;obtain⟨hl,h3⟩:=R.aL h2;cases h3;refine⟨Z,B,δ,ds,E,h1,fun vs H1 s1 r1=>⟨by rw[<-r1.length];exact of_decide_eq_true hl,fun p hp=>q _ _ (s1.trans (bB hp)) ?_⟩⟩
 unfold Rep;refine⟨p,vs,rfl, .inl ⟨fun ha=>?_, .inl aY⟩,r1.same (bB hp)⟩
 obtain⟨o,ho⟩:=(E.same s1).bs p ha;rw[hp] at ho;cases ho
theorem K_{g:ao->R (List D)}{pos}(h:CJ X es g):PN X (.List es pos) (bN g):=(Ed h).imp fun σ H Q ⟨Z,B,δ,d,E,hf,q⟩=>by
 obtain⟨ds,h1,h2⟩:=R.af hf;obtain⟨hl,h3⟩:=R.aL h2;cases h3;exact⟨Z,B,δ,_,E,h1,fun vs H1 s1 r1=>⟨by rw[<-r1.length];exact of_decide_eq_true hl,fun p hp=>q p vs _ (s1.trans (bB hp)) (s1.free hp) aY (r1.br (xH hp))⟩⟩
def nC(X:Cx)(f:Value->Value->Sem Value)(g:D->D->R D):Prop:=
 ∀(pins:Y5) (s:Shared) (σ:St) (H:Hp) (B:List Addr) (da db d:D) (x y:V) (v u:Value),Inv X pins σ H s->(∀a∈B,∃o,H a=some o)->RelV x v->RelV y u->Rep X.K B H da x->Rep X.K B H db y->g da db= .ok d->
  wpAny (model X.prog X.w) X.A (f v u) (EP X pins σ fun z H'=>aO H H'/\Rep X.K B H' d z) X.xe s
def e2(g:D->D->R D)(fa fb:FD):FD:=fun δ=>(fa δ).bind fun a=>(fb δ).bind fun b=>g a b
theorem nC.r{f:Value->Value->Sem Value}{g:D->D->R D}(h:nC X f g):oI X f (fun x y H Q=>∃B da db d,(∀a∈B,∃o,H a=some o)/\Rep X.K B H da x/\Rep X.K B H db y/\g da db= .ok d/\∀z H',aO H H'->Rep X.K B H' d z->Q z H'):=by
 intro pins s σ H x y v u Q I rx ry ⟨B,da,db,d,hb,ha,pT,hg,q⟩;exact cJ (h pins s σ H B da db d x y v u I hb rx ry ha pT hg) fun z s' ⟨zv,H',I',r',s1,r1⟩=>⟨zv,H',I',r',q zv H' s1 r1⟩
theorem KR{K:W.Frag}{g:D->D->R D}{Q:VK}(h:tD K (e2 g fa fb) σ H Q) :
 MI (fun x y H Q=>∃B da db d,(∀a∈B,∃o,H a=some o)/\Rep K B H da x/\Rep K B H db y/\g da db= .ok d/\∀z H',aO H H'->Rep K B H' d z->Q z H') (tD K fa) (tD K fb) σ H Q:=by
 obtain⟨Z,B,δ,d,E,hf,q⟩:=h;obtain⟨d1,h1,h2⟩:=R.af hf;obtain⟨d2,h3,h4⟩:=R.af h2;exact⟨Z,B,δ,d1,E,h1,fun v1 H1 s1 r1=>⟨Z,B,δ,d2,E.same s1,h3,fun v2 H2 s2 r2=>⟨B,d1,d2,d,(E.same (s1.trans s2)).bs,r1.same s2,r2,h4,fun z H' s3 r3=>q z H' (s1.trans (s2.trans s3)) r3⟩⟩⟩
theorem NX{op:Operator}{g:D->D->R D}(ho:nC X (binaryOp op) g)(ha:PD X a fa)(hb:PD X b fb):PD X (.BinOp a op b pos) (e2 g fa fb):=
 (IW ho.r ha hb).imp fun σ H Q h=>KR h
theorem LV{op:CmpOp}{g:D->D->R D}(ho:nC X (compareOp op) g)(ha:PD X a fa)(hb:PD X b fb)(hm:behindInMarks op b=false):PD X (.Compare a [op] [b] pos) (e2 g fa fb):=
 (A0 ho.r ha hb hm).imp fun σ H Q h=>KR h
def b2(g:D->D->R D)(fa fb:FD):ao->R Bool:=fun δ=>(e2 g fa fb δ).bind fun d=>match d with | .bl b=> .ok b | _=> .no
theorem Ll{op:CmpOp}{g:D->D->R D}(ho:nC X (compareOp op) g)(ha:PD X a fa)(hb:PD X b fb)(hm:behindInMarks op b=false):PB X (.Compare a [op] [b] pos) (b2 g fa fb):=
 (Bj ho.r ha hb hm).imp fun σ H Q ⟨Z,B,δ,b,E,hf,q⟩=>by
   obtain⟨d,h1,h2⟩:=R.af hf;cases d with
   | bl k=>
     cases h2;exact KR (g:=g) (Q:=fun x H'=>∃k,x= .bl k/\Q k H') ⟨Z,B,δ, .bl b,E,h1,fun v H' s r=>⟨b,by unfold Rep at r;exact r,q H' s⟩⟩
   | _=>cases h2
def PQ(g g':D->D->R D)(fa fb fc:FD):FD:=fun δ=>(fa δ).bind fun a=>(fb δ).bind fun b=>(g a b).bind fun r=>match r with
 | .bl true=>(fc δ).bind fun c=>g' b c
 | .bl false=> .ok (.bl false)
 | _=> .no
def Me:D->R Bool
 | .cD=> .ok false
 | .bl b=> .ok b
 | .int i=> .ok (i !=0)
 | .str x=>R.aU (decide (x.length<=sizeLine)) (.ok ((x.length:Int) !=0))
 | .lst ds=> .ok (!ds.isEmpty)
 | .tup ds=> .ok (!ds.isEmpty)
 | .dct _ _=> .no
def wq(f:FD):ao->R Bool:=fun δ=>(f δ).bind Me
theorem ay.isEmpty{K:W.Frag}{B:List Addr}{ds:List D}{xs:List V}(h:ay K B H ds xs):ds.isEmpty=xs.isEmpty:=by
 have:=h.length;cases ds <;> cases xs <;> simp_all
theorem Lr{K:W.Frag}{B:List Addr}{d:D}{v:V}{b:Bool}(r:Rep K B H d v)(h:Me d= .ok b):K0 K v H b:=by
 cases d with
 | cD=>unfold Rep at r;subst r;cases h;exact rfl
 | bl k=>unfold Rep at r;subst r;cases h;exact rfl
 | int i=>unfold Rep at r;subst r;cases h;exact rfl
 | str x=>unfold Rep at r;subst r;obtain⟨h1,h2⟩:=R.aL h;cases h2;exact⟨of_decide_eq_true h1,rfl⟩
 | lst ds=>unfold Rep at r;obtain⟨a,xs,rfl,l,r⟩:=r;cases h;exact .inl ⟨xs,l.sq,by rw[r.isEmpty]⟩
 | tup ds=>unfold Rep at r;obtain⟨a,xs,rfl,l,r⟩:=r;cases h;exact .inr (.inl ⟨xs,l.sq,by rw[r.isEmpty]⟩)
 | dct _ _=>cases h
theorem LZ{a:Expr}(ha:PD X a f)(he:∀whole,isTrue a X.env whole=(do let v <-whole;standAt a.pos;holding [v] (truthy v)):=by intro _;rfl):PB X a (wq f):=
 (x5 ha he).imp fun σ H Q ⟨Z,B,δ,b,E,hf,q⟩=>by
   obtain⟨d,h1,h2⟩:=R.af hf;exact⟨Z,B,δ,d,E,h1,fun v H' s r=>⟨b,Lr r h2,q H' s⟩⟩
def rQ(f g:ao->R Bool):ao->R Bool:=fun δ=>(f δ).bind fun b=>if b then g δ else .ok false
def yM(f g:ao->R Bool):ao->R Bool:=fun δ=>(f δ).bind fun b=>if b then .ok true else g δ
def BN(f:ao->R Bool):ao->R Bool:=fun δ=>(f δ).bind fun b=> .ok (!b)
def Gi(X:Cx)(e:Expr)(f:ao->R Bool):Prop:=PW X e (Kb X.K f)
theorem Gi.pb{f:ao->R Bool}(h:Gi X e f):PB X e f:=PW.pt h
theorem Du{f:ao->R Bool}(h:PB X a f):Gi X (.BoolOp .And [a] pos) f:=Ii h
theorem GY{f:ao->R Bool}(h:PB X a f):Gi X (.BoolOp .Or [a] pos) f:=Dc h
theorem GS{rest:List Expr}{f g:ao->R Bool}(ha:PB X a f)(hb:Gi X (.BoolOp .And (b ::rest) pos) g):Gi X (.BoolOp .And (a ::b ::rest) pos) (rQ f g):=by
 intro wh pins s σ H Q I ⟨Z,B,δ,k,E,hf,q⟩;refine KU ha hb wh pins s σ H Q I ?_;obtain⟨c,h1,h2⟩:=R.af hf;refine⟨Z,B,δ,c,E,h1,fun H1 s1=>?_⟩
 cases c with
 | true=>rw [if_pos rfl] at h2 ⊢;exact⟨Z,B,δ,k,E.same s1,h2,fun H' s2=>q H' (s1.trans s2)⟩
 | false=>rw [if_neg (by decide)] at h2 ⊢;cases h2;exact q H1 s1
theorem KN{rest:List Expr}{f g:ao->R Bool}(ha:PB X a f)(hb:Gi X (.BoolOp .Or (b ::rest) pos) g):Gi X (.BoolOp .Or (a ::b ::rest) pos) (yM f g):=by
 intro wh pins s σ H Q I ⟨Z,B,δ,k,E,hf,q⟩;refine Ju ha hb wh pins s σ H Q I ?_;obtain⟨c,h1,h2⟩:=R.af hf;refine⟨Z,B,δ,c,E,h1,fun H1 s1=>?_⟩
 cases c with
 | true=>rw [if_pos rfl] at h2 ⊢;cases h2;exact q H1 s1
 | false=>rw [if_neg (by decide)] at h2 ⊢;exact⟨Z,B,δ,k,E.same s1,h2,fun H' s2=>q H' (s1.trans s2)⟩
theorem Kf{f:ao->R Bool}(ha:PB X a f):PB X (.UnaryOp .Not a pos) (BN f):=(EE ha).imp fun σ H Q ⟨Z,B,δ,k,E,hf,q⟩=>by
 obtain⟨c,h1,h2⟩:=R.af hf;cases h2;exact⟨Z,B,δ,c,E,h1,fun H1 s1=>q H1 s1⟩
def MC(f:FD):ao->R Bool:=fun δ=>(f δ).bind fun d=>match d with | .bl b=> .ok b | _=> .no
def uD(f g:FD):FD:=fun δ=>(MC f δ).bind fun b=>if b then g δ else .ok (.bl false)
def Mx(f g:FD):FD:=fun δ=>(MC f δ).bind fun b=>if b then .ok (.bl true) else g δ
def VI(f:FD):FD:=fun δ=>(MC f δ).bind fun b=> .ok (.bl (!b))
theorem Dz{f:FD}{δ:ao}{b:Bool}(h:MC f δ= .ok b):f δ= .ok (.bl b):=by
 obtain⟨d,h1,h2⟩:=R.af h;cases d with
 | bl k=>cases h2;exact h1
 | _=>cases h2
theorem Kw{op}(h:PD X a f):PD X (.BoolOp op [a] pos) f:=LK h
theorem JJ{rest:List Expr}(ha:PD X a f)(hb:PD X (.BoolOp .And (b ::rest) pos) g):PD X (.BoolOp .And (a ::b ::rest) pos) (uD f g):=(Lz ha hb).imp fun σ H Q ⟨Z,B,δ,k,E,hf,q⟩=>by
 obtain⟨c,h1,h2⟩:=R.af hf;refine⟨Z,B,δ, .bl c,E,Dz h1,fun v H1 s1 r1=>⟨c,by unfold Rep at r1;exact r1,?_⟩⟩
 cases c with
 | true=>rw [if_pos rfl] at h2 ⊢;exact⟨Z,B,δ,k,E.same s1,h2,fun v H' s2 r2=>q v H' (s1.trans s2) r2⟩
 | false=>rw [if_neg (by decide)] at h2 ⊢;cases h2;exact q _ H1 s1 (by unfold Rep;rfl)
theorem NU{rest:List Expr}(ha:PD X a f)(hb:PD X (.BoolOp .Or (b ::rest) pos) g):PD X (.BoolOp .Or (a ::b ::rest) pos) (Mx f g):=(MZ ha hb).imp fun σ H Q ⟨Z,B,δ,k,E,hf,q⟩=>by
 obtain⟨c,h1,h2⟩:=R.af hf;refine⟨Z,B,δ, .bl c,E,Dz h1,fun v H1 s1 r1=>⟨c,by unfold Rep at r1;exact r1,?_⟩⟩
 cases c with
 | true=>rw [if_pos rfl] at h2 ⊢;cases h2;exact q _ H1 s1 (by unfold Rep;rfl)
 | false=>rw [if_neg (by decide)] at h2 ⊢;exact⟨Z,B,δ,k,E.same s1,h2,fun v H' s2 r2=>q v H' (s1.trans s2) r2⟩
def Yf(c:ao->R Bool)(f g:FD):FD:=fun δ=>(c δ).bind fun b=>if b then f δ else g δ
def dk(X:Cx)(f:Value)(g:List D->R D):Prop:=
 ∀(pins:Y5) (s:Shared) (σ:St) (H:Hp) (B:List Addr) (ds:List D) (d:D) (xs:List V) (us:List Value),Inv X pins σ H s->(∀a∈B,∃o,H a=some o)->Vals xs us->ay X.K B H ds xs->g ds= .ok d->
  wpAny (model X.prog X.w) X.A (call f us) (EP X pins σ fun z H'=>aO H H'/\Rep X.K B H' d z) X.xe s
def bt(g:List D->R D)(fs:ao->R (List D)):FD:=fun δ=>(fs δ).bind g
theorem dk.r{f:Value}{g:List D->R D}(h:dk X f g):kf X f (fun xs H Q=>∃B ds d,(∀a∈B,∃o,H a=some o)/\ay X.K B H ds xs/\g ds= .ok d/\∀z H',aO H H'->Rep X.K B H' d z->Q z H'):=by
 intro pins s σ H xs us Q I rx ⟨B,ds,d,hb,hr,hg,q⟩;exact cJ (h pins s σ H B ds d xs us I hb rx hr hg) fun z s' ⟨zv,H',I',r',s1,r1⟩=>⟨zv,H',I',r',q zv H' s1 r1⟩
theorem AQ{K:W.Frag}{g:List D->R D}{fs:ao->R (List D)}{Q:VK}(h:tD K (bt g fs) σ H Q) :
 UH K fs σ H fun vs H1=>∃B ds d,(∀a∈B,∃o,H1 a=some o)/\ay K B H1 ds vs/\g ds= .ok d/\∀z H',aO H1 H'->Rep K B H' d z->Q z H':=by
 obtain⟨Z,B,δ,d,E,hf,q⟩:=h;obtain⟨ds,h1,h2⟩:=R.af hf;exact⟨Z,B,δ,ds,E,h1,fun vs H1 s1 r1=>⟨B,ds,d,(E.same s1).bs,r1,h2,fun z H' s2 r2=>q z H' (s1.trans s2) r2⟩⟩
theorem Dl{g:List D->R D}{x:Str}{id:String}{p pos:Pos}{e:Expr}{es:List Expr}{fs:ao->R (List D)}(hc:dk X (.builtin id) g)(hg:Gl X x)(hm:X.mg x=none)(hv:bootBuiltins x=some (.builtin id))(ha:CJ X (e ::es) fs)(hn:x≠"__name__":=by decide)(kL:(x==("__debug__":Str))=false:=by decide)
 (he:starEach (e ::es) X.env=(false,eval e X.env) ::starEach es X.env:=by rfl) (mT:(backTo pos (starEach es X.env)).any (·.1)=false:=by rfl):PD X (.Call (.Name x p) (e ::es) [] pos) (bt g fs):=
 (sS hc.r hg hm hv ha hn kL he mT).imp fun σ H Q h=>AQ h
theorem BU{g:List D->R D}{x:Str}{T:String}{p pos:Pos}{e:Expr}{es:List Expr}{fs:ao->R (List D)}(hc:dk X (.type T) g)(hg:Gl X x)(hm:X.mg x=none)(hv:bootBuiltins x=some (.type T))(ha:CJ X (e ::es) fs)(hn:x≠"__name__":=by decide)(kL:(x==("__debug__":Str))=false:=by decide)
 (he:starEach (e ::es) X.env=(false,eval e X.env) ::starEach es X.env:=by rfl) (mT:(backTo pos (starEach es X.env)).any (·.1)=false:=by rfl):PD X (.Call (.Name x p) (e ::es) [] pos) (bt g fs):=
 (u_ hc.r hg hm hv ha hn kL he mT).imp fun σ H Q h=>AQ h
def GW(K:W.Frag)(n:Nat)(g:List D->R D):Sp:=fun vs H Q _=>vs.length=n/\∃B ds d,(∀a∈B,∃o,H a=some o)/\ay K B H ds vs/\g ds= .ok d/\∀z H',aO H H'->Rep K B H' d z->Q z H'
theorem Ik{g:List D->R D}{k n:Nat}{f:Addr}{fd:FuncData}{ps:List Str}{x:Str}{p pos:Pos}{e:Expr}{es:List Expr}{fs:ao->R (List D)}
 (F:jt X.prog X.w X.K X.mg X.base uV k f fd ps (GW X.K n g)) (hr:dH k X.A) (hg:Gl X x) (hm:X.mg x=some (.ref f)) (hk:PySem.W.keepIn X.K (.ref f)=true) (hb:Binds X.K fd ps []) (ha:CJ X (e ::es) fs)
 (hn:∀δ ds,fs δ= .ok ds->ds.length=n) (kL:(x==("__debug__":Str))=false:=by decide) (he:starEach (e ::es) X.env=(false,eval e X.env) ::starEach es X.env:=by rfl) (mT:(backTo pos (starEach es X.env)).any (·.1)=false:=by rfl) :
 PD X (.Call (.Name x p) (e ::es) [] pos) (bt g fs):=
 (wc F hr hg hm hk hb .nil DM ha kL he mT).imp fun σ H Q ⟨Z,B,δ,d,E,hf,q⟩=>by
   obtain⟨ds,h1,h2⟩:=R.af hf;refine⟨Z,B,δ,ds,E,h1,fun vs H1 s1 r1=>?_⟩
   show GW X.K n g (vs++[]) H1 Q E0;rw[List.append_nil];exact⟨by rw[<-r1.length];exact hn δ ds h1,B,ds,d,(E.same s1).bs,r1,h2,fun z H' s2 r2=>q z H' (s1.trans s2) r2⟩
end
end L2
end
section
namespace L2
open PySem PySem.Spec PyProof.Rows
inductive Out where
 | nx (δ:ao) | rt (d:D)
abbrev FS:=ao->R Out
structure Ev (Z B:List Addr) (H:Hp) (B':List Addr) (H':Hp):Prop where
 br:dy B H B' H'
 zs:∀b o,H b=some o->b∈Z->H' b=some o/\b∈B'
theorem Ev.refl(Z B:List Addr)(H:Hp)(zb:∀a∈Z,a∈B):Ev Z B H B H:=⟨dy.refl B H,fun b o e z=>⟨e,zb b z⟩⟩
theorem Ev.trans{Z B B' OH:List Addr}(a:Ev Z B H B' H')(b:Ev Z B' H' OH pK):Ev Z B H OH pK:=
 ⟨a.br.trans b.br,fun c o e z=>let⟨e1,_⟩:=a.zs c o e z;b.zs c o e1 z⟩
theorem Ev.same{Z B:List Addr}(zb:∀a∈Z,a∈B)(s:aO H H'):Ev Z B H B H':=⟨dy.same s,fun b o e z=>⟨s b o e,zb b z⟩⟩
def Az(K:W.Frag)(Z B:List Addr)(H:Hp)(D:Ends):Out->Prop
 | .nx dm=>∀b8 B' H',Ev Z B H B' H'->dC K Z B' H' b8 dm->D.nx b8 H'
 | .rt d=>∀v B' H',Ev Z B H B' H'->(∀a∈Z,a∈B')->Rep K B' H' d v->D.rt v H'
theorem Az.ev{K:W.Frag}{Z B B1:List Addr}{D:Ends}{o:Out}(q:Az K Z B H D o)(ev:Ev Z B H B1 H1):Az K Z B1 H1 D o:=by
 cases o with
 | nx dm=>exact fun b8 B' H' F7 E'=>q b8 B' H' (ev.trans F7) E'
 | rt d=>exact fun v B' H' F7 z r=>q v B' H' (ev.trans F7) z r
def sD(K:W.Frag)(F:FS):TS:=fun D σ H=>∃Z B δ o,dC K Z B H σ δ/\F δ= .ok o/\Az K Z B H D o
abbrev Gj(X:Cx)(st:Stmt)(F:FS):Prop:=PS X st (sD X.K F)
abbrev rO(X:Cx)(st:List Stmt)(F:FS):Prop:=vW X st (sD X.K F)
section
variable {X:Cx}
def j9:FS:=fun δ=> .ok (.nx δ)
def bW(F G:FS):FS:=fun δ=>(F δ).bind fun o=>match o with | .nx dm=>G dm | .rt d=> .ok (.rt d)
theorem HR:rO X [] j9:=vx.imp fun D σ H ⟨Z,B,δ,o,E,hf,q⟩=>by
 cases hf;exact q σ B H (Ev.refl Z B H E.zb) E
theorem KH{K:W.Frag}{F G:FS}{D:Ends}(h:sD K (bW F G) D σ H):N_ (sD K F) (sD K G) D σ H:=by
 obtain⟨Z,B,δ,o,E,hf,q⟩:=h;obtain⟨o1,h1,h2⟩:=R.af hf;refine⟨Z,B,δ,o1,E,h1,?_⟩;cases o1 with
 | nx δ1=>
   intro MM B1 H1 ev E1;refine⟨Z,B1,δ1,o,E1,h2,?_⟩;cases o with
   | nx h_=>exact fun b8 B' H' F7 E'=>q b8 B' H' (ev.trans F7) E'
   | rt d=>exact fun v B' H' F7 z r=>q v B' H' (ev.trans F7) z r
 | rt d=>
   cases h2;exact q
theorem E4{st:Stmt}{rest:List Stmt}{F G:FS}(h1:Gj X st F)(h2:rO X rest G):rO X (st ::rest) (bW F G):=(sU h1 h2).imp fun D σ H h=>KH h
theorem GI{st:Stmt}{F:FS}(h1:Gj X st F):rO X [st] F:=vX h1
theorem dC.set{K:W.Frag}{Z B:List Addr}{σ:St}{δ:ao}(E:dC K Z B H σ δ){i:Nat}{d:D}{v:V}(hi:i < σ.length)(r:Rep K B H d v):dC K Z B H (σ.set i (some v)) (δ.set i (.val d)) where
 len:=by rw[List.length_set,List.length_set];exact E.len
 bs:=E.bs
 zb:=E.zb
 val:=fun j d' e=>by
  by_cases h:i=j
  .subst h;rw[List.getElem?_set_self (by rw[E.len];exact hi)] at e
   cases e;exact⟨v,List.getElem?_set_self hi,r⟩
  .rw [List.getElem?_set_ne h] at e ⊢;exact E.val j d' e
 bld:=fun j ds e=>by
  by_cases h:i=j
  .subst h;rw[List.getElem?_set_self (by rw[E.len];exact hi)] at e
   cases e
  .rw [List.getElem?_set_ne h] at e ⊢;exact E.bld j ds e
 dis:=fun j k a ds es e1 e2 e3 e4=>by
  by_cases h:i=j
  .subst h;rw[List.getElem?_set_self (by rw[E.len];exact hi)] at e1
   cases e1
  .by_cases h':i=k
   .subst h';rw[List.getElem?_set_self (by rw[E.len];exact hi)] at e2
    cases e2
   .rw [List.getElem?_set_ne h] at e1 e3;rw[List.getElem?_set_ne h'] at e2 e4;exact E.dis j k a ds es e1 e2 e3 e4
theorem dC.setB{K:W.Frag}{Z B:List Addr}{H:Hp}{σ:St}{δ:ao}(E:dC K Z B H σ δ){i:Nat}{ds:List D}{a:Addr}{xs:List V}(hi:i < σ.length)(hB:a∈B)(hZ:a ∉ Z)(hH:H a=some (.lst xs))(r:ay K B H ds xs)
 (new:∀j es,j≠i->δ[j]? =some (.bld es)->σ[j]?≠some (some (.ref a))):dC K Z B H (σ.set i (some (.ref a))) (δ.set i (.bld ds)) where
 len:=by rw[List.length_set,List.length_set];exact E.len
 bs:=E.bs
 zb:=E.zb
 val:=fun j d' e=>by
  by_cases h:i=j
  .subst h;rw[List.getElem?_set_self (by rw[E.len];exact hi)] at e
   cases e
  .rw [List.getElem?_set_ne h] at e ⊢;exact E.val j d' e
 bld:=fun j es e=>by
  by_cases h:i=j
  .subst h;rw[List.getElem?_set_self (by rw[E.len];exact hi)] at e
   cases e;exact⟨a,xs,List.getElem?_set_self hi,hB,hZ,hH,r⟩
  .rw [List.getElem?_set_ne h] at e ⊢;exact E.bld j es e
 dis:=fun j k b OS OR e1 e2 e3 e4=>by
  by_cases h:i=j
  .subst h;by_cases h':i=k
   .exact h'
   .rw [List.getElem?_set_self hi] at e3;cases e3;rw[List.getElem?_set_ne h'] at e2 e4;exact absurd e4 (new k OR (Ne.symm h') e2)
  .by_cases h':i=k
   .subst h';rw[List.getElem?_set_self hi] at e4;cases e4;rw[List.getElem?_set_ne h] at e1 e3;exact absurd e3 (new j OS (Ne.symm h) e1)
   .rw [List.getElem?_set_ne h] at e1 e3;rw[List.getElem?_set_ne h'] at e2 e4;exact E.dis j k b OS OR e1 e2 e3 e4
def dA(i:Nat)(f:FD):FS:=fun δ=>(f δ).bind fun d=>R.aU (decide (i < δ.length)) (.ok (.nx (δ.set i (.val d))))
theorem Kd{K:W.Frag}{i:Nat}{D:Ends}(h:sD K (dA i f) D σ H):Ct (tD K f) (sC i) D σ H:=by
 obtain⟨Z,B,δ,o,E,hf,q⟩:=h;obtain⟨d,h1,h2⟩:=R.af hf;obtain⟨hi,h3⟩:=R.aL h2;cases h3;refine⟨Z,B,δ,d,E,h1,fun v H1 s1 r1=>?_⟩
 exact q _ B H1 (Ev.same E.zb s1) ((E.same s1).set (by rw[<-E.len];exact of_decide_eq_true hi) r1)
theorem GQ{i:Nat}{pos pos':Pos}(hN:X.N.Nodup)(hi:X.N[i]? =some x)(hx:Loc X.env.scope x)(he:PD X e f)(hs:swapsWith e (some (.Name x pos')) pos.line X.env=pure false:=by rfl)(hf:X.fn x=true\/X.env.scope.names.lookup x=some .local:=by first | exact .inl rfl | exact .inr rfl | assumption) :
 Gj X (.Assign [.Name x pos'] e pos) (dA i f):=(zH hN hi hx he hs hf).imp fun D σ H h=>Kd h
def y7(i:Nat)(f:ao->R (List D)):FS:=fun δ=>(f δ).bind fun ds=>R.aU (decide (i < δ.length)) (.ok (.nx (δ.set i (.bld ds))))
theorem Ln{K:W.Frag}{i:Nat}{f:ao->R (List D)}{D:Ends}(h:sD K (y7 i f) D σ H):Ct (tN K f) (sC i) D σ H:=by
 obtain⟨Z,B,δ,o,E,hf,q⟩:=h;obtain⟨ds,h1,h2⟩:=R.af hf;obtain⟨hi,h3⟩:=R.aL h2;cases h3;refine⟨Z,B,δ,ds,E,h1,fun a xs H1 s1 n e r=>?_⟩
 have E1:=E.same s1;have aB:a ∉ B:=fun ha=>by obtain⟨o,ho⟩:=E.bs a ha;rw [n] at ho;cases ho
 have nZ:a ∉ Z:=fun ha=>aB (E.zb a ha)
 have p0:dy B H (a ::B) H1:=fun b o e' nb=>⟨s1 b o e',fun hb=>by
  rcases List.mem_cons.mp hb with z | z
  .subst z;rw [n] at e';cases e'
  .exact nb z⟩
 have E2:dC K Z (a ::B) H1 σ δ:={
  len:=E.len
  bs:=fun b hb=>by
   rcases List.mem_cons.mp hb with z | z
   .subst z;exact⟨_,e⟩
   .exact E1.bs b z
  zb:=fun b hb=>List.mem_cons_of_mem _ (E.zb b hb)
  val:=fun j d e=>let⟨v,q1,q2⟩:=E.val j d e;⟨v,q1,q2.br p0⟩
  bld:=fun j es e=>let⟨b,ys,q1,q2,q3,q4,q5⟩:=E.bld j es e;⟨b,ys,q1,List.mem_cons_of_mem _ q2,q3,s1 b _ q4,q5.br p0⟩
  dis:=E.dis}
 refine q _ (a ::B) H1 ⟨p0,fun b o e' hb=>⟨s1 b o e',List.mem_cons_of_mem _ (E.zb b hb)⟩⟩ (E2.setB (by rw[<-E.len];exact of_decide_eq_true hi) List.mem_cons_self nZ e r fun j es hj ej IQ=>?_)
 obtain⟨b,ys,q1,_,_,q4,_⟩:=E.bld j es ej;rw[IQ] at q1;cases q1;rw[n] at q4;cases q4
theorem IB{i:Nat}{f:ao->R (List D)}{pos pos':Pos}(hN:X.N.Nodup)(hi:X.N[i]? =some x)(hx:Loc X.env.scope x)(he:PN X e f)(hs:swapsWith e (some (.Name x pos')) pos.line X.env=pure false:=by rfl)(hf:X.fn x=true\/X.env.scope.names.lookup x=some .local:=by first | exact .inl rfl | exact .inr rfl | assumption) :
 Gj X (.Assign [.Name x pos'] e pos) (y7 i f):=(zH hN hi hx he hs hf).imp fun D σ H h=>Ln h
theorem dC.grow{K:W.Frag}{Z B:List Addr}{H:Hp}{σ:St}{δ:ao}(E:dC K Z B H σ δ){i:Nat}{ds es:List D}{a:Addr}{xs ys:List V}(hd:δ[i]? =some (.bld ds))(IQ:σ[i]? =some (some (.ref a)))(hB:a∈B)(hH:H a=some (.lst xs))(r:ay K B H es ys) :
 dC K Z B (upd H a (.lst ys)) σ (δ.set i (.bld es))/\dy B H B (upd H a (.lst ys)):=by
 have p:dy B H B (upd H a (.lst ys)):=fun b o e nb=>⟨by rw[a_ (fun(z:b=a)=>nb (by rw[z];exact hB))];exact e,nb⟩
 have hi:i < δ.length:=(List.getElem?_eq_some_iff.mp hd).1;refine⟨{
  len:=by rw[List.length_set];exact E.len
  bs:=fun b hb=>by
   by_cases z:b=a
   .subst z;exact⟨_,aY⟩
   .rw [a_ z];exact E.bs b hb
  zb:=E.zb
  val:=fun j d e=>by
   by_cases h:i=j
   .subst h;rw [List.getElem?_set_self hi] at e;cases e
   .rw [List.getElem?_set_ne h] at e;obtain⟨v,q1,q2⟩:=E.val j d e;exact⟨v,q1,q2.br p⟩
  bld:=fun j fs e=>by
   by_cases h:i=j
   .subst h;rw [List.getElem?_set_self hi] at e;cases e;obtain⟨b,zs,q1,q2,q3,_,_⟩:=E.bld i ds hd;rw[IQ] at q1;cases q1;exact⟨a,ys,IQ,hB,q3,aY,r.br p⟩
   .rw [List.getElem?_set_ne h] at e;obtain⟨b,zs,q1,q2,q3,q4,q5⟩:=E.bld j fs e;have ne:b≠a:=fun z=>by subst z;exact h (E.dis i j b ds fs hd e IQ q1)
    exact⟨b,zs,q1,q2,q3,by rw[a_ ne];exact q4,q5.br p⟩
  dis:=fun j k b OS OR e1 e2 e3 e4=>by
   have f1:∃fs,δ[j]? =some (.bld fs):=by
    by_cases h:i=j
    .subst h;exact⟨ds,hd⟩
    .rw [List.getElem?_set_ne h] at e1;exact⟨_,e1⟩
   have f2:∃fs,δ[k]? =some (.bld fs):=by
    by_cases h:i=k
    .subst h;exact⟨ds,hd⟩
    .rw [List.getElem?_set_ne h] at e2;exact⟨_,e2⟩
   obtain⟨_,f1⟩:=f1;obtain⟨_,f2⟩:=f2;exact E.dis j k b _ _ f1 f2 e3 e4},p⟩
theorem Ev.grow{Z B:List Addr}{a:Addr}{o:HO}(zb:∀a∈Z,a∈B)(hZ:a ∉ Z)(p:dy B H B (upd H a o)):Ev Z B H B (upd H a o):=
 ⟨p,fun b u e hb=>⟨by rw[a_ (fun(z:b=a)=>hZ (by rw[<-z];exact hb))];exact e,zb b hb⟩⟩
def su(δ:ao)(i:Nat):R (List D):=match δ[i]? with | some (.bld ds)=> .ok ds | _=> .no
theorem DJ{δ:ao}{i:Nat}{ds:List D}(h:su δ i= .ok ds):δ[i]? =some (.bld ds):=by
 unfold su at h;split at h
 .rename_i q;cases h;exact q
 .cases h
def xq(i:Nat)(f:FD):FS:=fun δ=>(f δ).bind fun d=>(su δ i).bind fun ds=>R.aU (decide (ds.length < sizeLine)) (.ok (.nx (δ.set i (.bld (ds++[d])))))
theorem Hi{i:Nat}{x:Str}{e:Expr}{f:FD}{ub apos bf pos:Pos}(hN:X.N[i]? =some x)(hv:KL X.env.scope x)(he:PD X e f)
 (hd:(x==("__debug__":Str))=false:=by decide) (uN:(x==("__classdict__":Str))=false:=by decide)
 (hs:starEach [e] X.env=(false,eval e X.env) ::starEach [] X.env:=by rfl) (fD:(apos.endLine==bf.line)=true:=by rfl)
 (lG:((backTo bf (starEach [e] X.env)).all (fun x=>!x.1) && (backToKw bf (keywordEach [] X.env)).all (fun x=>x.1.isSome)
   && decide (([e]:List Expr).length+([]:List Keyword).length+(if([]:List Keyword).isEmpty then 0 else 1) < 30))=true:=by rfl)
 (CB:swapsWith (.Call (.Attribute (.Name x ub) "append" apos) [e] [] bf) none pos.line X.env=pure false:=by rfl)
 (fB:attributeBase (.Name x ub) "append" X.env (eval (.Name x ub) X.env)=eval (.Name x ub) X.env:=by rfl) :
 Gj X (.Expr (.Call (.Attribute (.Name x ub) "append" apos) [e] [] bf) pos) (xq i f):=by
 refine(sf (Aq (X:=X) PySem.F.plainAttrs_list PySem.F.slot_list_append PySem.F.type_list_append oG (zL hN hv hd uN) (jc he mq hs) fB lG fD hs) CB).imp fun D σ H ⟨Z,B,δ,o,E,hf,q⟩=>?_
 obtain⟨d,h1,h2⟩:=R.af hf;obtain⟨ds,h3,h4⟩:=R.af h2;obtain⟨hl,h5⟩:=R.aL h4;cases h5;have hb:=DJ h3;obtain⟨a,xs,q1,q2,q3,q4,q5⟩:=E.bld i ds hb;refine⟨.ref a,q1, .inl ⟨rfl,xs,oz.of q4⟩,⟨Z,B,δ,d,E,h1,fun v H1 s1 r1=>?_⟩⟩
 have E1:=E.same s1;refine⟨a,xs,v,rfl,rfl,s1 a _ q4,by rw[<-q5.length];exact of_decide_eq_true hl,?_⟩
 obtain⟨E2,p2⟩:=E1.grow (es:=ds++[d]) (ys:=xs++[v]) hb q1 q2 (s1 a _ q4) ((q5.same s1).append (ay.cons r1 ay.nil));exact q σ B _ ((Ev.same E.zb s1).trans (Ev.grow E.zb q3 p2)) E2
def VC(i:Nat)(f:ao->R (List D)):FS:=fun δ=>(f δ).bind fun es=>(su δ i).bind fun ds=>R.aU (decide (ds.length+es.length<=sizeLine)) (.ok (.nx (δ.set i (.bld (ds++es)))))
def lP(i:Nat)(δ:ao):ao:=match δ[i]? with | some (.bld ds)=>δ.set i (.val (.lst ds)) | _=>δ
theorem dC.lP{K:W.Frag}{Z B:List Addr}{δ:ao}(E:dC K Z B H σ δ)(i:Nat):∃B',Ev Z B H B' H/\dC K Z B' H σ (lP i δ):=by
 unfold L2.lP;cases hd:δ[i]? with
 | none=>exact⟨B,Ev.refl Z B H E.zb,E⟩
 | some x=>
   cases x with
   | un=>exact⟨B,Ev.refl Z B H E.zb,E⟩
   | val d=>exact⟨B,Ev.refl Z B H E.zb,E⟩
   | bld ds=>
     obtain⟨a,xs,q1,q2,q3,q4,q5⟩:=E.bld i ds hd;have hi:i < δ.length:=(List.getElem?_eq_some_iff.mp hd).1;have p:dy B H (B.filter fun b=>decide (b≠a)) H:=fun b o e nb=>⟨e,fun hb=>nb (List.mem_filter.mp hb).1⟩
     have zb:∀b∈Z,b∈B.filter fun b=>decide (b≠a):=fun b hb=>List.mem_filter.mpr ⟨E.zb b hb,decide_eq_true fun z=>q3 (z▸hb)⟩
     refine⟨B.filter fun b=>decide (b≠a),⟨p,fun b o e hb=>⟨e,zb b hb⟩⟩,{
      len:=by rw[List.length_set];exact E.len
      bs:=fun b hb=>E.bs b (List.mem_filter.mp hb).1
      zb:=zb
      val:=fun j d e=>by
       by_cases h:i=j
       .subst h;rw [List.getElem?_set_self hi] at e;cases e;refine⟨.ref a,q1,?_⟩;unfold Rep;exact⟨a,xs,rfl, .inl ⟨fun hb=>by simpa using(List.mem_filter.mp hb).2, .inl q4⟩,q5.br p⟩
       .rw [List.getElem?_set_ne h] at e;obtain⟨v,z1,z2⟩:=E.val j d e;exact⟨v,z1,z2.br p⟩
      bld:=fun j fs e=>by
       by_cases h:i=j
       .subst h;rw [List.getElem?_set_self hi] at e;cases e
       .rw [List.getElem?_set_ne h] at e;obtain⟨b,zs,z1,z2,z3,z4,z5⟩:=E.bld j fs e;exact⟨b,zs,z1,List.mem_filter.mpr ⟨z2,decide_eq_true fun z=>by subst z;exact h (E.dis i j b ds fs hd e q1 z1)⟩,z3,z4,z5.br p⟩
      dis:=fun j k b OS OR e1 e2 e3 e4=>by
       by_cases h:i=j
       .subst h;rw [List.getElem?_set_self hi] at e1;cases e1
       .by_cases h':i=k
        .subst h';rw [List.getElem?_set_self hi] at e2;cases e2
        .rw [List.getElem?_set_ne h] at e1;rw[List.getElem?_set_ne h'] at e2;exact E.dis j k b OS OR e1 e2 e3 e4}⟩
def zT(i:Nat)(F:FS):FS:=fun δ=>F (lP i δ)
theorem LU{K:W.Frag}{i:Nat}{F:FS}{D:Ends}(h:sD K (zT i F) D σ H):sD K F D σ H:=by
 obtain⟨Z,B,δ,o,E,hf,q⟩:=h;obtain⟨B1,ev,E1⟩:=E.lP i;refine⟨Z,B1,L2.lP i δ,o,E1,hf,?_⟩;cases o with
 | nx dm=>exact fun b8 B' H' F7 E'=>q b8 B' H' (ev.trans F7) E'
 | rt d=>exact fun v B' H' F7 z r=>q v B' H' (ev.trans F7) z r
theorem GF(i:Nat){F:FS}(h:rO X OP F):rO X OP (zT i F):=h.imp fun D σ H h=>LU h
def ee(f:FD):FS:=fun δ=>(f δ).bind fun d=> .ok (.rt d)
theorem Hv(he:PD X e f):Gj X (.Return (some e) pos) (ee f):=(Fm he).imp fun D σ H ⟨Z,B,δ,o,E,hf,q⟩=>by
 obtain⟨d,h1,h2⟩:=R.af hf;cases h2;exact⟨Z,B,δ,d,E,h1,fun v H1 s1 r1=>q v B H1 (Ev.same E.zb s1) E.zb r1⟩
def qK(c:ao->R Bool)(F G:FS):FS:=fun δ=>(c δ).bind fun b=>if b then F δ else G δ
theorem Kc{fc:ao->R Bool}{F G:FS}(hc:PB X c fc)(ha:rO X a F)(hb:rO X b G):Gj X (.If c a b pos) (qK fc F G):=(EZ hc ha hb).imp fun D σ H ⟨Z,B,δ,o,E,hf,q⟩=>by
 obtain⟨k,h1,h2⟩:=R.af hf;refine⟨Z,B,δ,k,E,h1,fun H1 s1=>?_⟩
 have q':=q.ev (Ev.same E.zb s1);cases k with
 | true=>rw [if_pos rfl] at h2;exact EL ⟨Z,B,δ,o,E.same s1,h2,q'⟩
 | false=>rw [if_neg (by decide)] at h2;exact Fs ⟨Z,B,δ,o,E.same s1,h2,q'⟩
abbrev FT:=D->ao->R ao
def gD(K:W.Frag)(t:FT):TG:=fun v σ H Q=>∃Z B δ d dm,dC K Z B H σ δ/\Rep K B H d v/\t d δ= .ok dm/\∀b8 H',aO H H'->dC K Z B H' b8 dm->b8.length=σ.length->Q b8 H'
abbrev Mz(X:Cx)(tg:Expr)(t:FT):Prop:=PG X tg (gD X.K t)
def aR(i:Nat):FT:=fun d δ=>R.aU (decide (i < δ.length)) (.ok (δ.set i (.val d)))
theorem Ea{i:Nat}{pos:Pos}(hN:X.N.Nodup)(hi:X.N[i]? =some x)(hx:Loc X.env.scope x)(hf:X.fn x=true\/X.env.scope.names.lookup x=some .local:=by first | exact .inl rfl | exact .inr rfl | assumption):Mz X (.Name x pos) (aR i):=
 (Bl hN hi hx hf).imp fun v σ H Q ⟨Z,B,δ,d,dm,E,r,ht,q⟩=>by
   obtain⟨hi,h⟩:=R.aL ht;cases h;exact q _ H (aO.refl H) (E.set (by rw[<-E.len];exact of_decide_eq_true hi) r) (List.length_set ..)
abbrev Fw:=List D->ao->R ao
def Wl(K:W.Frag)(t:Fw):FF:=fun vs σ H Q=>∃Z B δ ds dm,dC K Z B H σ δ/\ay K B H ds vs/\t ds δ= .ok dm/\∀b8 H',aO H H'->dC K Z B H' b8 dm->b8.length=σ.length->Q b8 H'
abbrev Hn(X:Cx)(ts:List Expr)(t:Fw):Prop:=HC X ts (Wl X.K t)
theorem HC.imp{X:Cx}{t t':FF}(h:HC X e t)(w:∀v σ H Q,t' v σ H Q->t v σ H Q):HC X e t':=fun pins s σ H v u Q I r hq=>h pins s σ H v u Q I r (w v σ H Q hq)
def uS:Fw:=fun ds δ=>match ds with | []=> .ok δ | _=> .no
def c7(t:FT)(u:Fw):Fw:=fun ds δ=>match ds with | d ::r=>(t d δ).bind fun dm=>u r dm | []=> .no
theorem Dt:Hn X [] uS:=IA.imp fun vs σ H Q ⟨Z,B,δ,ds,dm,E,r,ht,q⟩=>by
 cases ds with
 | nil=>unfold ay at r;cases ht;exact⟨r,q σ H (aO.refl H) E rfl⟩
 | cons=>cases ht
theorem Cv{u:Fw}(h1:Mz X e t)(h2:Hn X es u)(hs:(assignEach (e ::es) X.env).map (·.2)=assign e X.env ::(assignEach es X.env).map (·.2):=by rfl):Hn X (e ::es) (c7 t u):=
 (EU h1 h2 hs).imp fun vs σ H Q ⟨Z,B,δ,ds,dm,E,r,ht,q⟩=>by
   cases ds with
   | nil=>cases ht
   | cons d ds=>
     obtain⟨x,xs,rfl,r1,r2⟩:=r.b_;obtain⟨δ1,h1,h2⟩:=R.af ht;exact⟨x,xs,rfl,Z,B,δ,d,δ1,E,r1,h1,fun MM H1 s1 E1 l1=>⟨Z,B,δ1,ds,dm,E1,r2.same s1,h2,fun uM H2 s2 E2 l2=>q uM H2 (s1.trans s2) E2 (l2.trans l1)⟩⟩
def UI(n:Nat)(t:Fw):FT:=fun d δ=>match d with | .tup ds=>R.aU (decide (ds.length=n)) (t ds δ) | _=> .no
def Cg(f:FD)(t:FT):FS:=fun δ=>(f δ).bind fun d=>(t d δ).bind fun dm=> .ok (.nx dm)
theorem GZ{tg e:Expr}{f:FD}{t:FT}{pos:Pos}(he:PD X e f)(hg:Mz X tg t)(hs:swapsWithSole [tg] e pos.line X.env=pure false:=by rfl)(hw:swappedStores [tg] e X.env=pure none:=by rfl)
 (h1:(assignEach [tg] X.env).map (·.2)=[assign tg X.env]:=by rfl):Gj X (.Assign [tg] e pos) (Cg f t):=(KI he hg hs hw h1).imp fun D σ H ⟨Z,B,δ,o,E,hf,q⟩=>by
 obtain⟨d,h1,h2⟩:=R.af hf;obtain⟨δ1,h3,h4⟩:=R.af h2;cases h4;exact⟨Z,B,δ,d,E,h1,fun v H1 s1 r1=>⟨Z,B,δ,d,δ1,E.same s1,r1,h3,fun b8 H2 s2 E2 _=>q b8 B H2 (Ev.same E.zb (s1.trans s2)) E2⟩⟩
def Fi(K:W.Frag)(B:List Addr)(H:Hp)(J:It)(ds:List D):Prop:=∀B' H',dy B H B' H'->(∀(i:Nat) (d:D),ds[i]? =some d->J.go i H'/\∀x pK,J.yld i H' x pK->(∀a∈B',∃o,H' a=some o)->aO H' pK/\Rep K B' pK d x)/\J.stop ds.length H'
def iD(K:W.Frag)(f:ao->R (List D)):TI:=fun σ H R=>∃Z B δ ds,dC K Z B H σ δ/\f δ= .ok ds/\∀J H1,aO H H1->Fi K B H1 J ds->R J H1
abbrev MF(X:Cx)(tg e:Expr)(f:ao->R (List D)):Prop:=PI X tg e (iD X.K f)
def dW(f:FD):ao->R (List D):=fun δ=>(f δ).bind fun d=>match d with | .lst ds=> .ok ds | .tup ds=> .ok ds | _=> .no
theorem G3(h:PD X e f):MF X tg e (dW f):=by
 intro pins s σ H RR I ⟨Z,B,δ,ds,E,hf,q⟩;obtain⟨d,h1,h2⟩:=R.af hf;refine cJ (h pins s σ H (fun v H1=>aO H H1/\Rep X.K B H1 d v) I ⟨Z,B,δ,d,E,h1,fun v H1 s1 r1=>⟨s1,r1⟩⟩) fun v s1 ⟨x,H1,I1,r1,ss,rr⟩=>?_
 cases d with
 | lst es=>
   cases h2;unfold Rep at rr;obtain⟨a,xs,rfl,l,rr⟩:=rr;cases r1;obtain⟨its,rv,p,hz⟩:=I1.list l.sq;refine wpAny_pyIter_list p.isList ?_;refine⟨s1.heap.objs.size,[s1.heap.objs.size],_,_,H1,rfl,I1.kept (t':=s1.toks) fun b o e=>Heap.get?_push_of_some _ e,Ce a _,⟨_,Heap.get?_push_size _ rfl,rfl,rfl⟩,fun b hb=>?_,q _ H1 ss fun B' H' pr=>?_⟩
   .have e:b=s1.heap.objs.size:=by simpa using hb
    subst e;exact I1.Cs (Nat.le_refl _) (I1.hok.fresh (Nat.le_refl _))
   .have l':xt X.K B' H' a xs:=l.br pr;have rr':=rr.br pr;refine⟨fun i d hd=>?_,⟨xs,l'.sq,by rw[rr.length];exact Nat.le_refl _⟩⟩
    obtain⟨x,hx,rx⟩:=rr'.get hd;exact⟨⟨xs,x,l'.sq,hx⟩,fun y pK ⟨e1,e2⟩ _=>by
     subst e1;have:=e2 xs l'.sq;rw[hx] at this;cases this;exact⟨aO.refl _,rx⟩⟩
 | tup es=>
   cases h2;unfold Rep at rr;obtain⟨a,xs,rfl,l,rr⟩:=rr;cases r1;obtain⟨its,rv,p,hz⟩:=I1.tuple l.sq;refine wpAny_pyIter_tuple (show s1.heap.IsTuple a its.toArray from p) ?_
   refine⟨s1.heap.objs.size,[s1.heap.objs.size],_,_,H1,rfl,I1.kept (t':=s1.toks) fun b o e=>Heap.get?_push_of_some _ e,zl a _,⟨_,Heap.get?_push_size _ rfl,rfl,rfl⟩,fun b hb=>?_,q _ H1 ss fun B' H' pr=>?_⟩
   .have e:b=s1.heap.objs.size:=by simpa using hb
    subst e;exact I1.Cs (Nat.le_refl _) (I1.hok.fresh (Nat.le_refl _))
   .have l':AE X.K B' H' a xs:=l.elim (fun z=> .inl ⟨(pr.rd z.2 z.1).2,(pr.rd z.2 z.1).1⟩) .inr
    have rr':=rr.br pr;refine⟨fun i d hd=>?_,⟨xs,l'.sq,by rw[rr.length];exact Nat.le_refl _⟩⟩
    obtain⟨x,hx,rx⟩:=rr'.get hd;exact⟨⟨xs,x,l'.sq,hx⟩,fun y pK ⟨e1,e2⟩ _=>by
     subst e1;have:=e2 xs l'.sq;rw[hx] at this;cases this;exact⟨aO.refl _,rx⟩⟩
 | _=>cases h2
def rN(lo:Int)(n:Nat):List D:=(List.range n).map fun(i:Nat)=>D.int (lo+i)
theorem Lp{K:W.Frag}{B:List Addr}(lo:Int)(n:Nat):Fi K B H (NK lo n) (rN lo n):=fun B' H' _=>by
 refine⟨fun i d hd=>?_,?_⟩
 .unfold rN at hd;rw[List.getElem?_map] at hd;cases e:(List.range n)[i]? with
  | none=>rw [e] at hd;cases hd
  | some j=>
    rw[e] at hd;cases hd;obtain⟨hi,ej⟩:=List.getElem?_eq_some_iff.mp e;rw[List.getElem_range] at ej;subst ej;rw[List.length_range] at hi;exact⟨hi,fun x pK ⟨e1,e2⟩ _=>by subst e1 e2;exact⟨aO.refl _,by unfold Rep;rfl⟩⟩
 .show n<=(rN lo n).length;unfold rN;rw[List.length_map,List.length_range];exact Nat.le_refl _
def nG(f:FD):ao->R (List D):=fun δ=>(f δ).bind fun d=>match d with | .int j=>R.aU (decide (-(2 ^ 62)<=j/\j < 2 ^ 62)) (.ok (rN 0 j.toNat)) | _=> .no
theorem zO{tg a:Expr}{p pos:Pos}(h:PD X a f)(hg:Gl X "range")(hm:X.mg "range"=none)(hs:starEach [a] X.env=[(false,eval a X.env)]:=by rfl):MF X tg (.Call (.Name "range" p) [a] [] pos) (nG f):=
 (BP hg hm (jc h mq hs) hs).imp fun σ H RR ⟨Z,B,δ,ds,E,hf,q⟩=>by
   obtain⟨d,h1,h2⟩:=R.af hf;cases d with
   | int j=>
     obtain⟨hb,h3⟩:=R.aL h2;cases h3;have hb:=of_decide_eq_true hb;refine⟨Z,B,δ, .int j,E,h1,fun v H1 s1 r1=>⟨j,?_,hb.1,hb.2,q _ H1 s1 (Lp 0 _)⟩⟩
     unfold Rep at r1;rw[r1]
   | _=>cases h2
def Q_(f g:FD):ao->R (List D):=fun δ=>(f δ).bind fun d=>(g δ).bind fun e=>match d,e with
 | .int i, .int j=>R.aU (decide (-(2 ^ 62)<=i/\i < 2 ^ 62/\ -(2 ^ 62)<=j/\j < 2 ^ 62)) (.ok (rN i (j - i).toNat)) | _,_=> .no
def eY(t:FT)(body:FS):List D->FS
 | [],δ=> .ok (.nx δ)
 | d ::ds,δ=>(t d δ).bind fun δ1=>(body δ1).bind fun o=>match o with | .nx h_=>eY t body ds h_ | .rt r=> .ok (.rt r)
def uI(it:ao->R (List D))(t:FT)(body:FS):FS:=fun δ=>(it δ).bind fun ds=>eY t body ds δ
theorem IH{tg iter:Expr}{body:List Stmt}{it:ao->R (List D)}{t:FT}{F:FS}{pos:Pos}(hp:PassesOwn (model X.prog X.w) X.A X.env X.xe)(hc:X.calm=true)(hi:MF X tg iter it)(hg:Mz X tg t)(hb:rO X body F)
 (hs:∀x,foldedSetIterable iter X.env x=pure x:=by intro _;rfl):Gj X (.For tg iter body [] pos) (uI it t F):=(yP hp hc hi hg hb hs).imp fun D σ H ⟨Z,B,δ,o,E,hf,q⟩=>by
 obtain⟨ds,h1,h2⟩:=R.af hf;refine⟨Z,B,δ,ds,E,h1,fun J H1 s1 ir=>?_⟩
 refine⟨fun i m b8 H'=>m=ds.length - i/\i<=ds.length/\∃B' dm,Ev Z B H1 B' H'/\dC X.K Z B' H' b8 dm/\eY t F (ds.drop i) dm= .ok o,⟨ds.length,rfl,Nat.zero_le _,B,δ,Ev.refl Z B H1 E.zb,E.same s1,by simpa using h2⟩,?_⟩
 rintro i m b8 H' ⟨rfl,hi,B',dm,ev,E',hl⟩;obtain⟨go,stop⟩:=ir B' H' ev.br;by_cases hlt:i < ds.length
 .have hd:ds[i]? =some ds[i]:=List.getElem?_eq_getElem hlt;have hdrop:ds.drop i=ds[i] ::ds.drop (i+1):=List.drop_eq_getElem_cons hlt;rw[hdrop] at hl;obtain⟨δ1,h3,h4⟩:=R.af hl;obtain⟨o1,h5,h6⟩:=R.af h4;obtain⟨g1,g2⟩:=go i _ hd;refine .inr ⟨g1,fun uM H2=>∃B2 h_,Ev Z B H1 B2 H2/\dC X.K Z B2 H2 uM h_/\eY t F (ds.drop (i+1)) h_= .ok o,fun uM H2 n=>⟨ds.length - (i+1),by omega,rfl,hlt,n⟩,fun x pK y=>?_⟩
  obtain⟨ss,rr⟩:=g2 x pK y E'.bs;refine⟨Z,B',dm,ds[i],δ1,E'.same ss,rr,h3,fun uM H2 s2 E2 l2=>⟨Z,B',δ1,o1,E2,h5,?_⟩⟩
  have ev2:Ev Z B H1 B' H2:=ev.trans (Ev.same E'.zb (ss.trans s2));cases o1 with
  | nx h_=>exact fun Gx B3 H3 RA E3=>⟨B3,h_,ev2.trans RA,E3,h6⟩
  | rt d=>
    cases h6;exact fun v B3 H3 RA z r=>q v B3 H3 ((Ev.same E.zb s1).trans (ev2.trans RA)) z r
 .have e:i=ds.length:=by omega
  subst e;rw[List.drop_length] at hl;cases hl;exact .inl ⟨stop,q b8 B' H' ((Ev.same E.zb s1).trans ev) E'⟩
def DR(c:ao->R Bool)(body:FS):Nat->FS
 | 0,_=> .no
 | n+1,δ=>(c δ).bind fun b=>if b then(body δ).bind fun o=>match o with | .nx h_=>DR c body n h_ | .rt r=> .ok (.rt r) else .ok (.nx δ)
def Qd(n:Nat)(c:ao->R Bool)(body:FS):FS:=fun δ=>DR c body n δ
def sJ(δ:ao)(i:Nat):Sl:=match δ[i]? with | some (.val d)=> .val d | _=> .un
def uu(own:List Str)(kp:List Nat)(δ:ao):ao:=List.replicate own.length .un++kp.map (sJ δ)
def qF(t:FT)(c:ao->R Bool)(f:FD)(δ:ao):List D->R (List D)
 | []=> .ok []
 | d ::ds=>(t d δ).bind fun δ1=>(c δ1).bind fun b=>if b then(f δ1).bind fun y=>(qF t c f δ ds).bind fun ys=> .ok (y ::ys) else qF t c f δ ds
def kh(it:ao->R (List D))(t:FT)(c:ao->R Bool)(f:FD)(own:List Str)(kp:List Nat):ao->R (List D):=fun δ=>(it δ).bind fun ds=>R.aU (decide (ds.length<=sizeLine)) (qF t c f (uu own kp δ) ds)
theorem L6{K:W.Frag}{Z B B':List Addr}{H H':Hp}{δ:ao}{own:List Str}{kp:List Nat}(E:dC K Z B H σ δ)(p:dy B H B' H')(hB:∀a∈B',∃o,H' a=some o):dC K [] B' H' (c0 own kp σ) (uu own kp δ) where
 len:=by unfold c0 uu;simp
 bs:=hB
 zb:=fun a ha=>by cases ha
 val:=fun i d e=>by
  unfold uu at e;unfold c0;by_cases hi:i < own.length
  .rw [List.getElem?_append_left (by simpa using hi),List.getElem?_replicate] at e
   split at e <;> cases e
  .rw [List.getElem?_append_right (by simpa using hi),List.length_replicate,List.getElem?_map] at e ⊢
   cases q:kp[i - own.length]? with
   | none=>rw [q] at e;cases e
   | some j=>
     rw[q] at e;have e:sJ δ j= .val d:=Option.some.inj e;unfold sJ at e;split at e
     .rename_i d' ed;cases e;obtain⟨v,h1,h2⟩:=E.val j d ed;exact⟨v,by simp [h1],h2.br p⟩
     .cases e
 bld:=fun i ds e=>by
  unfold uu at e;by_cases hi:i < own.length
  .rw [List.getElem?_append_left (by simpa using hi),List.getElem?_replicate] at e
   split at e <;> cases e
  .rw [List.getElem?_append_right (by simpa using hi),List.length_replicate,List.getElem?_map] at e
   cases q:kp[i - own.length]? with
   | none=>rw [q] at e;cases e
   | some j=>
     rw[q] at e;have e:sJ δ j= .bld ds:=Option.some.inj e;unfold sJ at e;split at e <;> cases e
 dis:=fun i j a ds es e=>by
  unfold uu at e;by_cases hi:i < own.length
  .rw [List.getElem?_append_left (by simpa using hi),List.getElem?_replicate] at e
   split at e <;> cases e
  .rw [List.getElem?_append_right (by simpa using hi),List.length_replicate,List.getElem?_map] at e
   cases q:kp[i - own.length]? with
   | none=>rw [q] at e;cases e
   | some j=>
     rw[q] at e;have e:sJ δ j= .bld ds:=Option.some.inj e;unfold sJ at e;split at e <;> cases e
theorem Hu{K:W.Frag}{it:ao->R (List D)}{c:ao->R Bool}{own:List Str}{kp:List Nat}{Q:VK}(h:tN K (kh it t c f own kp) σ H Q) :
 A9 (iD K it) (gD K t) (Kb K c) (tD K f) own kp σ H Q:=by
 obtain⟨Z,B,δ,ds,E,hf,q⟩:=h;obtain⟨es,h1,h2⟩:=R.af hf;obtain⟨hl,h3⟩:=R.aL h2;have hl:=of_decide_eq_true hl;refine⟨Z,B,δ,es,E,h1,fun J H1 s1 ir Dd hD=>?_⟩
 have E1:=E.same s1;have pD:dy B H1 (Dd ::B) (upd H1 Dd (.lst [])):=xH hD;refine⟨fun i m ys H'=>m=es.length - i/\i<=es.length/\ys.length<=i/\H' Dd=some (.lst ys)/\aO H1 H'/\∃done rest,ds=done++rest/\ay K (Dd ::B) H' done ys/\qF t c f (uu own kp δ) (es.drop i)= .ok rest,
  ⟨es.length,rfl,Nat.zero_le _,Nat.le_refl _,aY,bB hD,[],ds,rfl,ay.nil,by simpa using h3⟩,?_⟩
 rintro i m ys H' ⟨rfl,hi,hy,hDl,ss,done,rest,rfl,rd,hc⟩;have dB:Dd ∉ B:=fun hb=>by obtain⟨o,ho⟩:=E1.bs Dd hb;rw [hD] at ho;cases ho
 have p':dy B H1 (Dd ::B) H':=fun b o e nb=>⟨ss b o e,fun hb=>by
  rcases List.mem_cons.mp hb with z | z
  .exact bz e hD z
  .exact nb z⟩
 have hB':∀a∈Dd ::B,∃o,H' a=some o:=fun a ha=>by
  rcases List.mem_cons.mp ha with z | z
  .subst z;exact⟨_,hDl⟩
  .obtain⟨o,ho⟩:=E1.bs a z;exact⟨o,ss a o ho⟩
 obtain⟨go,stop⟩:=ir (Dd ::B) H' p';by_cases hlt:i < es.length
 .have hd:es[i]? =some es[i]:=List.getElem?_eq_getElem hlt;have hdrop:es.drop i=es[i] ::es.drop (i+1):=List.drop_eq_getElem_cons hlt;rw[hdrop] at hc;obtain⟨δ1,h4,h5⟩:=R.af hc;obtain⟨b,h6,h7⟩:=R.af h5;obtain⟨g1,g2⟩:=go i _ hd;refine .inr ⟨g1,fun x H2 y=>?_⟩
  obtain⟨sy,ry⟩:=g2 x H2 y hB';have Ec:dC K [] (Dd ::B) H2 (c0 own kp σ) (uu own kp δ):=L6 E1 (p'.trans (dy.same sy)) fun a ha=>let⟨o,ho⟩:=hB' a ha;⟨o,sy a o ho⟩
  refine⟨[],Dd ::B,uu own kp δ,es[i],δ1,Ec,ry,h4,fun Gx H3 s3 E3 _=>⟨[],Dd ::B,δ1,b,E3,h6,fun H4 s4=>?_⟩⟩
  have sAll:aO H' H4:=sy.trans (s3.trans s4);cases b with
  | true=>
    rw[if_pos rfl] at h7;refine EL ?_;obtain⟨yv,h8,h9⟩:=R.af h7;obtain⟨rs,Tc,SN⟩:=R.af h9;cases SN;refine⟨[],Dd ::B,δ1,yv,E3.same s4,h8,fun v H5 s5 r5=>?_⟩
    have s':aO H' H5:=sAll.trans s5;have R7:H5 Dd=some (.lst ys):=s' Dd _ hDl;have pu:dy (Dd ::B) H5 (Dd ::B) (upd H5 Dd (.lst (ys++[v]))):=fun b o e nb=>⟨by rw[a_ (fun(z:b=Dd)=>nb (by rw[z];exact List.mem_cons_self))];exact e,nb⟩
    refine⟨R7,by omega,es.length - (i+1),by omega,rfl,hlt,by rw[List.length_append,List.length_singleton];omega,aY,fun b o e=>?_,done++[yv],rs,by simp,((rd.same s').append (ay.cons r5 ay.nil)).br pu,Tc⟩
    rw[a_ (bz e hD)];exact s' b o (ss b o e)
  | false=>
    rw[if_neg (by decide)] at h7
    refine Fs ?_;exact⟨es.length - (i+1),by omega,rfl,hlt,by omega,sAll Dd _ hDl,ss.trans sAll,done,rest,rfl,rd.same sAll,h7⟩
 .have e:i=es.length:=by omega
  subst e;rw[List.drop_length] at hc;cases hc;rw[List.append_nil] at q;exact .inl ⟨stop,q Dd ys H' (s1.trans ss) (s1.free hD) hDl rd⟩
theorem G_{scope:Scope}{own:List Str}{kp:List Nat}{kn:List Str}{tg iter elt:Expr}{ifs:List Expr}{it:ao->R (List D)}{t:FT}{c:ao->R Bool}{f:FD}{pos:Pos}(hc:X.calm=true)(C:cM X scope own kp kn)(hi:MF X tg iter it)
 (hg:∀fp s H,Mz (bC X scope (own++kn) fp s H) tg t) (F6:∀fp s H,rM (bC X scope (own++kn) fp s H) ifs (Kb X.K c)) (he:∀fp s H,PD (bC X scope (own++kn) fp s H) elt f)
 (hs:∀x,foldedSetIterable iter X.env x=pure x:=by intro _;rfl):PN X (.ListComp elt [⟨tg,iter,ifs,0⟩] scope pos) (kh it t c f own kp):=
 (A2 hc C hi hg F6 he hs).imp fun σ H Q h=>Hu h
def ur:ao->R Bool:=fun _=> .ok true
theorem De:rM X [] (Kb X.K ur):=fun pins s σ H Q I ⟨Z,B,δ,b,E,hf,q⟩=>yc pins s σ H Q I (by cases hf;exact q H (aO.refl H))
theorem Ho{c:ao->R Bool}(h:PB X e c):rM X [e] (Kb X.K c):=ET h
end
def dv(N:List Str)(ds:List D):ao:=ds.map .val++List.replicate (N.length - ds.length) .un
def u6(N:List Str)(F:FS):List D->R D:=fun ds=>(F (dv N ds)).bind fun o=>match o with | .rt d=> .ok d | .nx _=> .ok .cD
theorem HX{K:W.Frag}{B:List Addr}{H:Hp}{N:List Str}{ds:List D}{vs:List V}(hB:∀a∈B,∃o,H a=some o)(r:ay K B H ds vs):dC K B B H (start N vs) (dv N ds) where
 len:=by unfold start dv;simp [r.length]
 bs:=hB
 zb:=fun a ha=>ha
 val:=fun i d e=>by
  unfold dv at e;unfold start;by_cases hi:i < ds.length
  .rw [List.getElem?_append_left (by simpa using hi),List.getElem?_map] at e
   cases q:ds[i]? with
   | none=>rw [q] at e;cases e
   | some d'=>
     rw[q] at e;cases e;obtain⟨x,h1,h2⟩:=r.get q;exact⟨x,by rw[List.getElem?_append_left (by rw[List.length_map,<-r.length];exact hi),List.getElem?_map,h1];rfl,h2⟩
  .rw [List.getElem?_append_right (by simpa using hi),List.getElem?_replicate] at e
   split at e <;> cases e
 bld:=fun i es e=>by
  unfold dv at e;by_cases hi:i < ds.length
  .rw [List.getElem?_append_left (by simpa using hi),List.getElem?_map] at e
   cases q:ds[i]? with
   | none=>rw [q] at e;cases e
   | some d'=>rw [q] at e;cases e
  .rw [List.getElem?_append_right (by simpa using hi),List.getElem?_replicate] at e
   split at e <;> cases e
 dis:=fun i j a es fs e=>by
  unfold dv at e;by_cases hi:i < ds.length
  .rw [List.getElem?_append_left (by simpa using hi),List.getElem?_map] at e
   cases q:ds[i]? with
   | none=>rw [q] at e;cases e
   | some d'=>rw [q] at e;cases e
  .rw [List.getElem?_append_right (by simpa using hi),List.getElem?_replicate] at e
   split at e <;> cases e
theorem Ia{P:Program}{w:World}{K:W.Frag}{mg:Y_}{base:Heap}{x qual:Str}{st:Stmt}{f:Addr}{fd:FuncData}{N ps:List Str}{k:Nat}{F:FS}(Fn:zw K x qual st f fd)(S:bq N ps (aC st))
 (ig:∀(dF:Value) (A:Around) (outer:List Env) (s:Shared) (H:Hp) (E:XK),dH k (A.deeper (envOfC qual (aC st) s.heap.objs.size f dF))->
   rO (lR uV P w K mg base N qual (aC st) f dF A outer s H E).Hz (aX st) F):jt P w K mg base uV (k+1) f fd ps (GW K ps.length (u6 N F)):=by
 refine Fn.ok S (fun vs H Q E h=>h.1) (fun dF A outer s H vs Q E hr h=>⟨_,ig dF A outer s H E hr,?_⟩)
 obtain⟨_,B,ds,d,hB,r,hg,q⟩:=h;obtain⟨o,h1,h2⟩:=R.af hg;refine⟨B,B,dv N ds,o,HX hB r,h1,?_⟩;have sm:∀{B':List Addr} {H':Hp},Ev B B H B' H'->aO H H':=fun {B' H'} ev b u e=>by
  by_cases hb:b∈B
  .exact(ev.zs b u e hb).1
  .exact(ev.br b u e hb).1
 cases o with
 | nx dm=>
   cases h2;exact fun b8 B' H' ev _=>q _ H' (sm ev) (by unfold Rep;rfl)
 | rt d'=>
   cases h2;exact fun v B' H' ev z rr=>q v H' (sm ev) (rr.br fun b o e nb=>⟨e,fun hb=>nb (z b hb)⟩)
end L2
end
section
namespace L2
open PySem PySem.Spec PyProof.Rows
theorem Rep.int{K:W.Frag}{B:List Addr}{i:Int}{v:V}:Rep K B H (.int i) v↔v= .int i:=by unfold Rep;exact Iff.rfl
theorem Rep.bl{K:W.Frag}{B:List Addr}{i:Bool}{v:V}:Rep K B H (.bl i) v↔v= .bl i:=by unfold Rep;exact Iff.rfl
theorem Rep.str{K:W.Frag}{B:List Addr}{v:V}:Rep K B H (.str i) v↔v= .str i:=by unfold Rep;exact Iff.rfl
theorem Rep.cD{K:W.Frag}{B:List Addr}{v:V}:Rep K B H .cD v↔v= .cD:=by unfold Rep;exact Iff.rfl
theorem Rep.lst{K:W.Frag}{B:List Addr}{ds:List D}{v:V}:Rep K B H (.lst ds) v↔∃a xs,v= .ref a/\xt K B H a xs/\ay K B H ds xs:=by rw[Rep]
theorem Rep.tup{K:W.Frag}{B:List Addr}{ds:List D}{v:V}:Rep K B H (.tup ds) v↔∃a xs,v= .ref a/\AE K B H a xs/\ay K B H ds xs:=by rw[Rep]
section
variable {X:Cx}
theorem nC.of{f:Value->Value->Sem Value}{r:R2}{g:D->D->R D}(h:oI X f r)
 (w:∀(B:List Addr) (H:Hp) (da db d:D) (x y:V) (Q:VK),(∀a∈B,∃o,H a=some o)->Rep X.K B H da x->Rep X.K B H db y->g da db= .ok d->(∀z H',aO H H'->Rep X.K B H' d z->Q z H')->r x y H Q):nC X f g:=by
 intro pins s σ H B da db d x y v u I hb rx ry ra rb hg;exact h pins s σ H x y v u _ I rx ry (w B H da db d x y _ hb ra rb hg fun z H' s1 r1=>⟨s1,r1⟩)
theorem dk.of{f:Value}{r:List V->Hp->VK->Prop}{g:List D->R D}(h:kf X f r)
 (w:∀(B:List Addr) (H:Hp) (ds:List D) (d:D) (xs:List V) (Q:VK),(∀a∈B,∃o,H a=some o)->ay X.K B H ds xs->g ds= .ok d->(∀z H',aO H H'->Rep X.K B H' d z->Q z H')->r xs H Q):dk X f g:=by
 intro pins s σ H B ds d xs us I hb rx rs hg;exact h pins s σ H xs us _ I rx (w B H ds d xs _ hb rs hg fun z H' s1 r1=>⟨s1,r1⟩)
theorem dk.or{f:Value}{g g1 g2:List D->R D}(h1:dk X f g1)(h2:dk X f g2)(e:∀a d,g a= .ok d->g1 a= .ok d\/g2 a= .ok d):dk X f g:=by
 intro pins s σ H B ds d xs us I hb rx rs hg;rcases e ds d hg with q | q
 .exact h1 pins s σ H B ds d xs us I hb rx rs q
 .exact h2 pins s σ H B ds d xs us I hb rx rs q
def Gn(C:Int->Int->Bool)(g:Int->Int->Int):D->D->R D
 | .int i, .int j=>R.aU (C i j) (.ok (.int (g i j)))
 | _,_=> .no
theorem Ao{f:Value->Value->Sem Value}{C:Int->Int->Bool}{Cp:Int->Int->Prop}{g:Int->Int->Int}(h:oI X f (rI Cp fun i j=> .int (g i j)))(hc:∀i j,C i j=true->Cp i j):nC X f (Gn C g):=
 nC.of h fun B H da db d x y Q _ ra rb hg q=>by
  unfold Gn at hg;split at hg
  .obtain⟨h1,h2⟩:=R.aL hg;cases h2;exact⟨_,_,Rep.int.mp ra,Rep.int.mp rb,hc _ _ h1,q _ H (aO.refl H) (Rep.int.mpr rfl)⟩
  .cases hg
def B0(g:Int->Int->Int):D->D->R D
 | .int i, .int j=> .ok (.int (g i j))
 | _,_=> .no
theorem KY{f:Value->Value->Sem Value}{g:Int->Int->Int}(h:oI X f (Gf fun i j=> .int (g i j))):nC X f (B0 g):=
 nC.of h fun B H da db d x y Q _ ra rb hg q=>by
  unfold B0 at hg;split at hg
  .cases hg;exact⟨_,_,Rep.int.mp ra,Rep.int.mp rb,q _ H (aO.refl H) (Rep.int.mpr rfl)⟩
  .cases hg
def MA(g:Int->Int->Bool):D->D->R D
 | .int i, .int j=> .ok (.bl (g i j))
 | _,_=> .no
theorem Ag{f:Value->Value->Sem Value}{g:Int->Int->Bool}(h:oI X f (Gf fun i j=> .bl (g i j))):nC X f (MA g):=
 nC.of h fun B H da db d x y Q _ ra rb hg q=>by
  unfold MA at hg;split at hg
  .cases hg;exact⟨_,_,Rep.int.mp ra,Rep.int.mp rb,q _ H (aO.refl H) (Rep.bl.mpr rfl)⟩
  .cases hg
abbrev Ox:D->D->R D:=B0 fun i j=>i - j
theorem NY:nC X (binaryOp .Sub) Ox:=KY JP
abbrev ib:D->D->R D:=Gn (fun _ j=>decide (0 < j/\j < 1073741824)) fun i j=>i / j
theorem k6:nC X (binaryOp .FloorDiv) ib:=Ao Hb fun i j h=>(of_decide_eq_true h:0 < j/\j < 1073741824)
abbrev il:D->D->R D:=Gn (fun _ j=>decide (0 < j)) fun i j=>i % j
theorem jf:nC X (binaryOp .Mod) il:=Ao Li fun i j h=>of_decide_eq_true h
abbrev BR:D->D->R D:=Gn (fun i j=>decide (0<=j/\j<=1000000/\i.natAbs < 2 ^ 64)) fun i j=>i ^ j.toNat
theorem FH:nC X (binaryOp .Pow) BR:=Ao Kh fun i j h=>(of_decide_eq_true h:0<=j/\j<=1000000/\i.natAbs < 2 ^ 64)
abbrev Oz:D->D->R D:=Gn (fun _ j=>decide (0<=j)) fun i j=>i / 2 ^ j.toNat
theorem N8:nC X (binaryOp .RShift) Oz:=Ao Kq fun i j h=>of_decide_eq_true h
abbrev YU:D->D->R D:=B0 fun i j=>Builtin.bitAnd i j
abbrev Yt:D->D->R D:=B0 fun i j=>Builtin.bitOr i j
abbrev Yy:D->D->R D:=B0 fun i j=>Builtin.bitXor i j
abbrev yb:D->D->R D:=MA fun i j=>decide (i < j)
theorem yD:nC X (compareOp .Lt) yb:=Ag Nk
abbrev QE:D->D->R D:=MA fun i j=>decide (i<=j)
theorem Qx:nC X (compareOp .LtE) QE:=Ag ND
abbrev Jr:D->D->R D:=MA fun i j=>decide (j < i)
theorem DZ:nC X (compareOp .Gt) Jr:=Ag MV
abbrev CL:D->D->R D:=MA fun i j=>decide (j<=i)
theorem Cn:nC X (compareOp .GtE) CL:=Ag Ny
theorem xt.DI{K:W.Frag}{B:List Addr}{H:Hp}{a:Addr}{xs:List V}(h:H a=some (.lst xs))(n:a ∉ B):xt K B H a xs:= .inl ⟨n, .inl h⟩
theorem Inv.O_{pins:Y5}{s:Shared}{a:Addr}{xs:List V}{B:List Addr}(I:Inv X pins σ H s)(h:xt X.K B H a xs):∃(its:List Value) (n:Nat),Vals xs its/\s.heap.get? a=some {cls:= .type "list",data:= .seq its.toArray n}/\xs.length<=sizeLine:=by
 rcases h with⟨_,h⟩ | ⟨its,n,hk,hz,r⟩
 .obtain⟨z,its,n,r,e⟩:=h.ok I.hok;exact⟨its,n,r,e,z⟩
 .exact⟨its,n,r,I.vq a _ hk,hz⟩
theorem ID:oI X (binaryOp .Add) (fun x y H Q=>∃B l b xs zs,x= .ref l/\y= .ref b/\xt X.K B H l xs/\xt X.K B H b zs/\xs.length+zs.length<=sizeLine/\∀p,H p=none->Q (.ref p) (upd H p (.lst (xs++zs)))):=by
 intro pins s σ H x y v u Q I rx ry h;obtain⟨B,l,b,xs,zs,rfl,rfl,hH,hB,hz,q⟩:=h;cases rx;cases ry;obtain⟨its,n,r,e,_⟩:=I.O_ hH;obtain⟨OK,n2,r2,e2,_⟩:=I.O_ hB;have l1:=r.length;have l2:=r2.length;refine PySem.P.add_list e e2 ?_ (by rw[List.size_toArray,List.size_toArray];omega)
 have ea:its.toArray++OK.toArray=(its++OK).toArray:=by simp
 rw[ea];exact⟨.ref _,_,I.KC (t':=s.toks) (r.append r2) (by rw[List.length_append];omega),rfl,q _ I.fresh⟩
def eP:D->D->R D
 | .int i, .int j=> .ok (.int (i+j))
 | .str a, .str b=>R.aU (decide (a.length+b.length<=sizeLine)) (.ok (.str (a++b)))
 | .lst a, .lst b=>R.aU (decide (a.length+b.length<=sizeLine)) (.ok (.lst (a++b)))
 | _,_=> .no
theorem fj:nC X (binaryOp .Add) eP:=by
 intro pins s σ H B da db d x y v u I hb rx ry ra rb hg;unfold eP at hg;split at hg
 .cases hg;exact JY pins s σ H x y v u _ I rx ry ⟨_,_,Rep.int.mp ra,Rep.int.mp rb,aO.refl H,Rep.int.mpr rfl⟩
 .obtain⟨h1,h2⟩:=R.aL hg;cases h2;exact zD pins s σ H x y v u _ I rx ry ⟨_,_,Rep.str.mp ra,Rep.str.mp rb,of_decide_eq_true h1,aO.refl H,Rep.str.mpr rfl⟩
 .obtain⟨h1,h2⟩:=R.aL hg;cases h2;obtain⟨a1,XF,rfl,l1,r1⟩:=Rep.lst.mp ra;obtain⟨a2,W4,rfl,l2,r2⟩:=Rep.lst.mp rb;refine ID pins s σ H _ _ v u _ I rx ry ⟨B,a1,a2,XF,W4,rfl,rfl,l1,l2,by rw[<-r1.length,<-r2.length];exact of_decide_eq_true h1,fun p hp=>⟨bB hp,Rep.lst.mpr ⟨p,_,rfl, .DI aY fun ha=>?_,(r1.append r2).same (bB hp)⟩⟩⟩
  obtain⟨o,ho⟩:=hb p ha;rw[hp] at ho;cases ho
 .cases hg
theorem Hw:oI X (binaryOp .Mult) (fun x y H Q=>∃z n,x= .str z/\y= .int n/\MulOk z n/\Q (.str (Txt.mul z n)) H):=by
 intro pins s σ H x y v u Q I rx ry h;obtain⟨z,n,rfl,rfl,hm,q⟩:=h;obtain⟨t,rfl⟩:=rx;obtain⟨t',rfl⟩:=ry;exact SB.mul hm fun t2 k=>⟨.str _,H,I.tok _,⟨_,rfl⟩,q⟩
end
end L2
end
section
namespace L2
open PySem PySem.Spec PyProof.Rows
section
variable {X:Cx}
theorem mulOk_of{x:Str}{n:Int}(h1: -(2 ^ 63)<=n)(h2:n < 2 ^ 63)(h3:x.length*n.toNat<=sizeLine):MulOk x n:=by
 refine⟨by simp only[Bool.or_eq_false_iff,decide_eq_false_iff_not];omega,fun hn _=>?_,fun hn _=>?_⟩
 .have hz:sizeLine=16777216:=sizeLine_eq;have e:(n.toNat:Int)=n:=by omega
  have h4:(x.length:Int)*n<=16777216:=by
   have:((x.length*n.toNat:Nat):Int)<=((16777216:Nat):Int):=Int.ofNat_le.mpr (by omega)
   rw[Int.natCast_mul,e] at this;exact this
  have:(x.length:Int)<=(2 ^ 63 - 1) / n:=(Int.le_ediv_iff_mul_le (by omega)).mpr (by omega)
  omega
 .unfold Builtin.Str.tooLong;exact decide_eq_false (by omega)
def um:D->D->R D
 | .int i, .int j=>R.aU (decide ((-(2 ^ 64) < i/\i < 2 ^ 64)\/(-(2 ^ 64) < j/\j < 2 ^ 64))) (.ok (.int (i*j)))
 | .str x, .int n=>R.aU (decide (-(2 ^ 63)<=n/\n < 2 ^ 63/\x.length*n.toNat<=sizeLine)) (.ok (.str (Txt.mul x n)))
 | _,_=> .no
theorem xR:nC X (binaryOp .Mult) um:=by
 intro pins s σ H B da db d x y v u I hb rx ry ra rb hg;unfold um at hg;split at hg
 .obtain⟨h1,h2⟩:=R.aL hg;cases h2;have h1:=of_decide_eq_true h1;exact LF pins s σ H x y v u _ I rx ry ⟨_,_,Rep.int.mp ra,Rep.int.mp rb,h1,aO.refl H,Rep.int.mpr rfl⟩
 .obtain⟨h1,h2⟩:=R.aL hg;cases h2;have h1:=of_decide_eq_true h1;exact Hw pins s σ H x y v u _ I rx ry ⟨_,_,Rep.str.mp ra,Rep.int.mp rb,mulOk_of h1.1 h1.2.1 h1.2.2,aO.refl H,Rep.str.mpr rfl⟩
 .cases hg
mutual
def toPy:D->PyData
 | .cD=> .none
 | .bl b=> .bool b
 | .int i=> .int i
 | .str x=> .str x
 | .lst ds=> .list (km ds)
 | .tup ds=> .tuple (km ds)
 | .dct _ _=> .dict []
def km:List D->List PyData
 | []=>[]
 | d ::ds=>toPy d ::km ds
end
mutual
def cH:D->Bool
 | .dct _ _=>false
 | .lst ds=>gr ds
 | .tup ds=>gr ds
 | _=>true
def gr:List D->Bool
 | []=>true
 | d ::ds=>cH d && gr ds
end
mutual
theorem Rep.reads{pins:Y5}{s:Shared}{B:List Addr}(I:Inv X pins σ H s):∀{d:D} {v:V} {u:Value},cH d=true->Rep X.K B H d v->RelV v u->∃as,Reads s.heap u (toPy d) as
 | .cD,v,u,_,r,q=>by rw[Rep.cD.mp r] at q;cases q;unfold toPy;exact⟨_, .none⟩
 | .bl b,v,u,_,r,q=>by rw[Rep.bl.mp r] at q;cases q;unfold toPy;exact⟨_, .bool b⟩
 | .int i,v,u,_,r,q=>by rw[Rep.int.mp r] at q;obtain⟨t,rfl⟩:=q;unfold toPy;exact⟨_, .int i t⟩
 | .str x,v,u,_,r,q=>by rw[Rep.str.mp r] at q;obtain⟨t,rfl⟩:=q;unfold toPy;exact⟨_, .str x t⟩
 | .lst ds,v,u,hp,r,q=>by
   obtain⟨a,xs,rfl,l,rs⟩:=Rep.lst.mp r;cases q;obtain⟨its,rv,⟨o,n,e,hc,hd,he⟩,_⟩:=I.list l.sq;obtain⟨as,ra⟩:=ay.reads I (by unfold cH at hp;exact hp) rs rv
   unfold toPy;exact⟨_, .list e hc he (by simpa using ra)⟩
 | .tup ds,v,u,hp,r,q=>by
   obtain⟨a,xs,rfl,l,rs⟩:=Rep.tup.mp r;cases q;obtain⟨its,rv,⟨o,e,hc,n,hd⟩,_⟩:=I.tuple l.sq;obtain⟨as,ra⟩:=ay.reads I (by unfold cH at hp;exact hp) rs rv
   unfold toPy;exact⟨_, .tuple e hc hd (by simpa using ra)⟩
 | .dct _ _,v,u,hp,r,q=>by unfold cH at hp;cases hp
theorem ay.reads{pins:Y5}{s:Shared}{B:List Addr}(I:Inv X pins σ H s):∀{ds:List D} {vs:List V} {us:List Value},gr ds=true->ay X.K B H ds vs->Vals vs us->∃as,ReadsAll s.heap us (km ds) as
 | [],vs,us,_,r,q=>by unfold ay at r;subst r;cases q;unfold km;exact⟨_, .nil⟩
 | d ::ds,vs,us,hp,r,q=>by
   obtain⟨x,xs,rfl,r1,r2⟩:=r.b_;cases q with
   | cons q1 q2=>
     unfold gr at hp;obtain⟨h1,h2⟩:=Bool.and_eq_true_iff.mp hp;obtain⟨as,a1⟩:=Rep.reads I h1 r1 q1;obtain⟨bs,a2⟩:=ay.reads I h2 r2 q2;unfold km;exact⟨_, .cons a1 a2⟩
end
def Gk:D->D->R Bool
 | .int i, .int j=> .ok (decide (i=j))
 | .str x, .str y=> .ok (decide (x=y))
 | .bl a, .bl b=> .ok (decide (a=b))
 | d,e=>R.aU (cH d && cH e && SeqAt.shaped (toPy d) && SeqAt.shaped (toPy e)) (.ok (PyData.eqv (toPy d) (toPy e)))
def nj(d e:D):R D:=(Gk d e).bind fun b=> .ok (.bl b)
def Hr(d e:D):R D:=(Gk d e).bind fun b=> .ok (.bl (!b))
theorem mW(hu:X.A.units+64 < cLine):nC X (compareOp .Eq) nj:=by
 intro pins s σ H B da db d x y v u I hb rx ry ra rb hg;obtain⟨b,h1,h2⟩:=R.af hg;cases h2;unfold Gk at h1;split at h1
 .cases h1;rename_i i j;have:=Eh pins s σ H x y v u (fun z H'=>aO H H'/\Rep X.K B H' (.bl (decide (i=j))) z) I rx ry
  rw[Rep.int.mp ra,Rep.int.mp rb] at this;refine this ⟨rfl,aO.refl H,Rep.bl.mpr ?_⟩;simp [V.int.injEq]
 .cases h1;rename_i i j;have:=Eh pins s σ H x y v u (fun z H'=>aO H H'/\Rep X.K B H' (.bl (decide (i=j))) z) I rx ry
  rw[Rep.str.mp ra,Rep.str.mp rb] at this;refine this ⟨rfl,aO.refl H,Rep.bl.mpr ?_⟩;simp [V.str.injEq]
 .cases h1;rename_i i j;have:=Eh pins s σ H x y v u (fun z H'=>aO H H'/\Rep X.K B H' (.bl (decide (i=j))) z) I rx ry
  rw[Rep.bl.mp ra,Rep.bl.mp rb] at this;refine this ⟨rfl,aO.refl H,Rep.bl.mpr ?_⟩;simp [V.bl.injEq]
 .obtain⟨h3,h4⟩:=R.aL h1;cases h4;simp only[Bool.and_eq_true] at h3;obtain⟨⟨⟨p1,p2⟩,s1⟩,s2⟩:=h3;obtain⟨as,r1⟩:=ra.reads I p1 rx;obtain⟨bs,r2⟩:=rb.reads I p2 ry;exact eq_dataH r1 r2 s1 s2 hu ⟨.bl _,H,I,rfl,aO.refl H,Rep.bl.mpr rfl⟩
theorem Kg(hu:X.A.units+64 < cLine):nC X (compareOp .NotEq) Hr:=by
 intro pins s σ H B da db d x y v u I hb rx ry ra rb hg;obtain⟨b,h1,h2⟩:=R.af hg;cases h2;unfold Gk at h1;split at h1
 .cases h1;rename_i i j;have:=Fd pins s σ H x y v u (fun z H'=>aO H H'/\Rep X.K B H' (.bl (!decide (i=j))) z) I rx ry
  rw[Rep.int.mp ra,Rep.int.mp rb] at this;refine this ⟨rfl,aO.refl H,Rep.bl.mpr ?_⟩;simp [V.int.injEq]
 .cases h1;rename_i i j;have:=Fd pins s σ H x y v u (fun z H'=>aO H H'/\Rep X.K B H' (.bl (!decide (i=j))) z) I rx ry
  rw[Rep.str.mp ra,Rep.str.mp rb] at this;refine this ⟨rfl,aO.refl H,Rep.bl.mpr ?_⟩;simp [V.str.injEq]
 .cases h1;rename_i i j;have:=Fd pins s σ H x y v u (fun z H'=>aO H H'/\Rep X.K B H' (.bl (!decide (i=j))) z) I rx ry
  rw[Rep.bl.mp ra,Rep.bl.mp rb] at this;refine this ⟨rfl,aO.refl H,Rep.bl.mpr ?_⟩;simp [V.bl.injEq]
 .obtain⟨h3,h4⟩:=R.aL h1;cases h4;simp only[Bool.and_eq_true] at h3;obtain⟨⟨⟨p1,p2⟩,s1⟩,s2⟩:=h3;obtain⟨as,r1⟩:=ra.reads I p1 rx;obtain⟨bs,r2⟩:=rb.reads I p2 ry;exact ne_dataH r1 r2 s1 s2 hu ⟨.bl _,H,I,rfl,aO.refl H,Rep.bl.mpr rfl⟩
def strs?:List D->Option (List Str)
 | []=>some []
 | .str x ::ds=>(strs? ds).map (x ::·)
 | _ ::_=>none
theorem iz{K:W.Frag}{B:List Addr}:∀{ds:List D} {xs:List V} {ss:List Str},ay K B H ds xs->strs? ds=some ss->xs=ss.map V.str
 | [],xs,ss,r,h=>by unfold ay at r;subst r;cases h;rfl
 | d ::ds,xs,ss,r,h=>by
   obtain⟨x,r',rfl,r1,r2⟩:=r.b_;cases d with
   | str z=>
     unfold strs? at h;cases e:strs? ds with
     | none=>rw [e] at h;cases h
     | some tt=>
       rw[e] at h;cases h;rw[Rep.str.mp r1,iz r2 e];rfl
   | _=>cases h
def ints?:List D->Option (List Int)
 | []=>some []
 | .int x ::ds=>(ints? ds).map (x ::·)
 | _ ::_=>none
theorem l5{K:W.Frag}{B:List Addr}:∀{ds:List D} {xs:List V} {ss:List Int},ay K B H ds xs->ints? ds=some ss->xs=ss.map V.int
 | [],xs,ss,r,h=>by unfold ay at r;subst r;cases h;rfl
 | d ::ds,xs,ss,r,h=>by
   obtain⟨x,r',rfl,r1,r2⟩:=r.b_;cases d with
   | int z=>
     unfold ints? at h;cases e:ints? ds with
     | none=>rw [e] at h;cases h
     | some tt=>
       rw[e] at h;cases h;rw[Rep.int.mp r1,l5 r2 e];rfl
   | _=>cases h
def inD(d e:D):R Bool:=match d,e with
 | .str x, .lst ds=>(match strs? ds with | some ss=> .ok (ss.contains x) | none=> .no)
 | .str x, .tup ds=>(match strs? ds with | some ss=> .ok (ss.contains x) | none=> .no)
 | .str x, .str y=> .ok (!(Builtin.Str.occurrences y x 0 y.length 1).isEmpty)
 | .int x, .lst ds=>(match ints? ds with | some ss=> .ok (ss.contains x) | none=> .no)
 | .int x, .tup ds=>(match ints? ds with | some ss=> .ok (ss.contains x) | none=> .no)
 | _,_=> .no
def zu(d e:D):R D:=(inD d e).bind fun b=> .ok (.bl b)
def ml(d e:D):R D:=(inD d e).bind fun b=> .ok (.bl (!b))
theorem t5(x:Str):∀ss:List Str,Jz (.str x) (ss.map V.str)=ss.contains x
 | []=>rfl
 | y ::ss=>by
   unfold Jz;rw[List.map_cons,List.any_cons];have ih:=t5 x ss;unfold Jz at ih;rw[ih];show(y==x || ss.contains x)=_
   rw[List.contains_cons];congr 1;exact Bool.eq_iff_iff.mpr ⟨fun h=>by simpa using(beq_iff_eq.mp h).symm,fun h=>by simpa using(beq_iff_eq.mp h).symm⟩
theorem tZ(x:Int):∀ss:List Int,Jz (.int x) (ss.map V.int)=ss.contains x
 | []=>rfl
 | y ::ss=>by
   unfold Jz;rw[List.map_cons,List.any_cons];have ih:=tZ x ss;unfold Jz at ih;rw[ih];show(y==x || ss.contains x)=_
   rw[List.contains_cons];congr 1;exact Bool.eq_iff_iff.mpr ⟨fun h=>by simpa using(beq_iff_eq.mp h).symm,fun h=>by simpa using(beq_iff_eq.mp h).symm⟩
theorem vd(ss:List Int):(ss.map V.int).all kY=true:=by
 rw[List.all_map];simp [List.all_eq_true,kY]
theorem qX(ss:List Str):(ss.map V.str).all kY=true:=by
 rw[List.all_map];simp [List.all_eq_true,kY]
theorem Ek{neg:Bool}{op:CmpOp}{g:D->D->R D}(h1:oI X (compareOp op) (Ra X.K neg))(h2:oI X (compareOp op) (fun x y H Q=>∃i j,x= .str i/\y= .str j/\Q (.bl (if neg then !(!(Builtin.Str.occurrences j i 0 j.length 1).isEmpty) else(!(Builtin.Str.occurrences j i 0 j.length 1).isEmpty))) H))
 (hg:∀d e r,g d e= .ok r->∃b,inD d e= .ok b/\r= .bl (if neg then !b else b)):nC X (compareOp op) g:=by
 intro pins s σ H B da db d x y v u I hb rx ry ra rb hg';obtain⟨b,hi,rfl⟩:=hg da db d hg';unfold inD at hi;split at hi
 .rename_i z ds;split at hi
  .rename_i ss e;cases hi;obtain⟨a,xs,rfl,l,rs⟩:=Rep.lst.mp rb;refine h1 pins s σ H x _ v u _ I rx ry ⟨a,xs,rfl, .inl l.sq,by rw[Rep.str.mp ra];rfl,by rw[iz rs e];exact qX _,aO.refl H,Rep.bl.mpr ?_⟩
   rw[iz rs e,Rep.str.mp ra,t5]
  .cases hi
 .rename_i z ds;split at hi
  .rename_i ss e;cases hi;obtain⟨a,xs,rfl,l,rs⟩:=Rep.tup.mp rb;refine h1 pins s σ H x _ v u _ I rx ry ⟨a,xs,rfl, .inr l.sq,by rw[Rep.str.mp ra];rfl,by rw[iz rs e];exact qX _,aO.refl H,Rep.bl.mpr ?_⟩
   rw[iz rs e,Rep.str.mp ra,t5]
  .cases hi
 .cases hi;exact h2 pins s σ H x y v u _ I rx ry ⟨_,_,Rep.str.mp ra,Rep.str.mp rb,aO.refl H,Rep.bl.mpr rfl⟩
 .rename_i z ds;split at hi
  .rename_i ss e;cases hi;obtain⟨a,xs,rfl,l,rs⟩:=Rep.lst.mp rb;refine h1 pins s σ H x _ v u _ I rx ry ⟨a,xs,rfl, .inl l.sq,by rw[Rep.int.mp ra];rfl,by rw[l5 rs e];exact vd _,aO.refl H,Rep.bl.mpr ?_⟩
   rw[l5 rs e,Rep.int.mp ra,tZ]
  .cases hi
 .rename_i z ds;split at hi
  .rename_i ss e;cases hi;obtain⟨a,xs,rfl,l,rs⟩:=Rep.tup.mp rb;refine h1 pins s σ H x _ v u _ I rx ry ⟨a,xs,rfl, .inr l.sq,by rw[Rep.int.mp ra];rfl,by rw[l5 rs e];exact vd _,aO.refl H,Rep.bl.mpr ?_⟩
   rw[l5 rs e,Rep.int.mp ra,tZ]
  .cases hi
 .cases hi
theorem ym:nC X (compareOp .In) zu:=Ek (neg:=false) BQ B4 fun d e r h=>by
 obtain⟨b,h1,h2⟩:=R.af h;cases h2;exact⟨b,h1,rfl⟩
theorem sd:nC X (compareOp .NotIn) ml:=Ek (neg:=true) vT vB fun d e r h=>by
 obtain⟨b,h1,h2⟩:=R.af h;cases h2;exact⟨b,h1,rfl⟩
def eM(d e:D):R D:=match d,e with
 | .lst ds, .int i=>(match wY ds i with | some x=> .ok x | none=> .no)
 | .tup ds, .int i=>(match wY ds i with | some x=> .ok x | none=> .no)
 | .str x, .int i=>R.aU (decide (x.length<=sizeLine)) (match wY x.cps.toList i with | some c=> .ok (.str ⟨#[c]⟩) | none=> .no)
 | _,_=> .no
theorem xI{K:W.Frag}{B:List Addr}{ds:List D}{xs:List V}{i:Int}{d:D}(r:ay K B H ds xs)(h:wY ds i=some d):∃x,wY xs i=some x/\Rep K B H d x:=by
 unfold wY at h ⊢;rw[<-r.length];cases e:Fe ds.length i with
 | none=>rw [e] at h;cases h
 | some j=>
   rw[e] at h;exact r.get h
theorem Oy(ha:PD X a fa)(hb:PD X b fb)(hs:vy b):PD X (.Subscript a b pos) (e2 eM fa fb):=by
 refine(Nz (r:=UL X.K) KG ha hb hs).imp fun σ H Q ⟨Z,B,δ,d,E,hf,q⟩=>?_
 obtain⟨d1,h1,h2⟩:=R.af hf;obtain⟨d2,h3,h4⟩:=R.af h2;refine⟨Z,B,δ,d1,E,h1,fun v1 H1 s1 r1=>⟨Z,B,δ,d2,E.same s1,h3,fun v2 H2 s2 r2=>?_⟩⟩
 have yH:=r1.same s2;unfold eM at h4;split at h4
 .split at h4
  .rename_i e;cases h4;obtain⟨p,xs,rfl,l,rs⟩:=Rep.lst.mp yH;obtain⟨y,e1,e2⟩:=xI rs e;exact .inl ⟨p,xs,_,y,rfl,Rep.int.mp r2,l.sq,e1,q y H2 (s1.trans s2) e2⟩
  .cases h4
 .split at h4
  .rename_i e;cases h4;obtain⟨p,xs,rfl,l,rs⟩:=Rep.tup.mp yH;obtain⟨y,e1,e2⟩:=xI rs e;exact .inr (.inl ⟨p,xs,_,y,rfl,Rep.int.mp r2,l.sq,e1,q y H2 (s1.trans s2) e2⟩)
  .cases h4
 .obtain⟨hl,h5⟩:=R.aL h4;split at h5
  .rename_i e;cases h5;exact .inr (.inr ⟨_,_,_,Rep.str.mp yH,Rep.int.mp r2,of_decide_eq_true hl,e,q _ H2 (s1.trans s2) (Rep.str.mpr rfl)⟩)
  .cases h5
 .cases h4
abbrev FO:=ao->R (Option Int)
def VZ(K:W.Frag)(f:FO):TO:=fun σ H Q=>∃Z B δ o,dC K Z B H σ δ/\f δ= .ok o/\∀H',aO H H'->Q o H'
theorem PO.imp{X:Cx}{e:Option Expr}{t t':TO}(h:PO X e t)(w:∀σ H Q,t' σ H Q->t σ H Q):PO X e t':=fun pins s σ H Q I hq=>h pins s σ H Q I (w σ H Q hq)
abbrev PP(X:Cx)(e:Option Expr)(f:FO):Prop:=PO X e (VZ X.K f)
def ng:FO:=fun _=> .ok none
def lW(f:FD):FO:=fun δ=>(f δ).bind fun d=>match d with | .int i=> .ok (some i) | _=> .no
theorem IE:PP X none ng:=II.imp fun σ H Q ⟨Z,B,δ,o,E,hf,q⟩=>by cases hf;exact q H (aO.refl H)
theorem Hm(h:PD X e f):PP X (some e) (lW f):=(GL h).imp fun σ H Q ⟨Z,B,δ,o,E,hf,q⟩=>by
 obtain⟨d,h1,h2⟩:=R.af hf;cases d with
 | int i=>cases h2;exact⟨Z,B,δ, .int i,E,h1,fun v H1 s1 r1=>⟨i,Rep.int.mp r1,q H1 s1⟩⟩
 | _=>cases h2
theorem LD:K9 X (fun x lo hi H Q=>∃z,x= .str z/\z.length<=sizeLine/\Q (.str (Txt.slice z lo hi)) H):=by
 intro pins s σ H x v vl vu lo hi sl Q I rx hs pl pu h;obtain⟨z,rfl,hz,q⟩:=h;obtain⟨t,rfl⟩:=rx;refine⟨"str",_,F.slot_str_getitem.lookup,typeIs_str _ _ _,?_⟩;have fin:∀t' k,EP X pins σ Q (.str (Txt.slice z lo hi) t') {s with toks:=k}:=fun t' k=>⟨.str _,H,I.tok _,⟨_,rfl⟩,q⟩
 obtain⟨o,ho,hc,hd⟩:=hs;cases pl with
 | none=>
   cases pu with
   | none=>exact wpAny_getItem_str_slice (l:=none) (u:=none) (st:=none) ⟨o,ho,hc,hd⟩ rfl (post_val_or_str ⟨Nat.le_trans (Txt.slice_le z _ _) hz,fin⟩)
   | int j u=>exact wpAny_getItem_str_slice (l:=none) (u:=some (j,u)) (st:=none) ⟨o,ho,hc,hd⟩ rfl (post_val_or_str ⟨Nat.le_trans (Txt.slice_le z _ _) hz,fin⟩)
 | int i t1=>
   cases pu with
   | none=>exact wpAny_getItem_str_slice (l:=some (i,t1)) (u:=none) (st:=none) ⟨o,ho,hc,hd⟩ rfl (post_val_or_str ⟨Nat.le_trans (Txt.slice_le z _ _) hz,fin⟩)
   | int j u=>exact wpAny_getItem_str_slice (l:=some (i,t1)) (u:=some (j,u)) (st:=none) ⟨o,ho,hc,hd⟩ rfl (post_val_or_str ⟨Nat.le_trans (Txt.slice_le z _ _) hz,fin⟩)
def cutD{α:Type}(xs:List α)(lo hi:Option Int):List α:=(xs.drop (HT.r_ xs.length 0 lo)).take (HT.r_ xs.length xs.length hi - HT.r_ xs.length 0 lo)
def MG(d:D)(lo hi:Option Int):R D:=match d with
 | .str x=>R.aU (decide (x.length<=sizeLine)) (.ok (.str (Txt.slice x lo hi)))
 | .lst ds=> .ok (.lst (cutD ds lo hi))
 | _=> .no
theorem EO{K:W.Frag}{B:List Addr}{ds:List D}{xs:List V}(r:ay K B H ds xs)(lo hi:Option Int):ay K B H (cutD ds lo hi) (zM xs lo hi):=by
 unfold cutD zM;rw[<-r.length];exact(r.drop _).take _
def Bo(f:FD)(fl fh:FO):FD:=fun δ=>(f δ).bind fun d=>(fl δ).bind fun lo=>(fh δ).bind fun hi=>MG d lo hi
theorem Nl{lo hi:Option Expr}{fl fh:FO}(he:PD X e f)(hl:PP X lo fl)(hh:PP X hi fh):PD X (.Subscript e (.Slice lo hi none p2) pos) (Bo f fl fh):=by
 refine(Fx (LD.or G5) he hl hh).imp fun σ H Q ⟨Z,B,δ,d,E,hf,q⟩=>?_
 obtain⟨d1,h1,h2⟩:=R.af hf;obtain⟨l,h3,h4⟩:=R.af h2;obtain⟨h,h5,h6⟩:=R.af h4;refine⟨Z,B,δ,d1,E,h1,fun v1 H1 s1 r1=>⟨Z,B,δ,l,E.same s1,h3,fun H2 s2=>⟨Z,B,δ,h,(E.same s1).same s2,h5,fun H3 s3=>?_⟩⟩⟩
 have sA:aO H H3:=s1.trans (s2.trans s3);have yH:=r1.same (s2.trans s3);unfold MG at h6;split at h6
 .obtain⟨hz,h7⟩:=R.aL h6;cases h7;exact .inl ⟨_,Rep.str.mp yH,of_decide_eq_true hz,q _ H3 sA (Rep.str.mpr rfl)⟩
 .cases h6;obtain⟨a,xs,rfl,ls,rs⟩:=Rep.lst.mp yH;refine .inr ⟨a,xs,rfl,ls.sq,fun p hp=>q _ _ (sA.trans (bB hp)) (Rep.lst.mpr ⟨p,_,rfl, .DI aY fun ha=>?_,(EO rs l h).same (bB hp)⟩)⟩
  obtain⟨o,ho⟩:=(E.same sA).bs p ha;rw[hp] at ho;cases ho
 .cases h6
end
end L2
end
section
namespace L2
open PySem PySem.Spec PyProof.Rows
section
variable {X:Cx}
theorem ay.one{K:W.Frag}{B:List Addr}{d:D}{xs:List V}(h:ay K B H [d] xs):∃x,xs=[x]/\Rep K B H d x:=by
 obtain⟨x,r,rfl,h1,h2⟩:=h.b_;unfold ay at h2;subst h2;exact⟨x,rfl,h1⟩
def ph:List D->R D
 | [.str x]=>R.aU (decide (x.length<=sizeLine)) (.ok (.int x.length))
 | [.lst ds]=> .ok (.int ds.length)
 | [.tup ds]=> .ok (.int ds.length)
 | _=> .no
theorem oP:dk X (.builtin "len") ph:=dk.of DA fun B H ds d xs Q _ rs hg q=>by
 unfold ph at hg;split at hg
 .obtain⟨h1,h2⟩:=R.aL hg;cases h2;obtain⟨x,rfl,r⟩:=rs.one;exact⟨x,_,rfl,by rw[Rep.str.mp r];exact⟨of_decide_eq_true h1,rfl⟩,q _ H (aO.refl H) (Rep.int.mpr rfl)⟩
 .cases hg;obtain⟨x,rfl,r⟩:=rs.one;obtain⟨a,ys,rfl,l,r⟩:=Rep.lst.mp r;exact⟨_,_,rfl, .inl ⟨ys,l.sq,rfl⟩,q _ H (aO.refl H) (Rep.int.mpr (by rw[r.length]))⟩
 .cases hg;obtain⟨x,rfl,r⟩:=rs.one;obtain⟨a,ys,rfl,l,r⟩:=Rep.tup.mp r;exact⟨_,_,rfl, .inr ⟨ys,l.sq,rfl⟩,q _ H (aO.refl H) (Rep.int.mpr (by rw[r.length]))⟩
 .cases hg
def cInt:List D->R D
 | [.int i]=> .ok (.int i)
 | [.bl b]=> .ok (.int (if b then 1 else 0))
 | _=> .no
theorem Nn:dk X (.type "int") cInt:=dk.of BC fun B H ds d xs Q _ rs hg q=>by
 unfold cInt at hg;split at hg
 .cases hg;obtain⟨x,rfl,r⟩:=rs.one;exact .inl ⟨_,by rw[Rep.int.mp r],q _ H (aO.refl H) (Rep.int.mpr rfl)⟩
 .cases hg;obtain⟨x,rfl,r⟩:=rs.one;exact .inr ⟨_,by rw[Rep.bl.mp r],q _ H (aO.refl H) (Rep.int.mpr rfl)⟩
 .cases hg
def cStr:List D->R D
 | [.int i]=>R.aU (decide (i.natAbs.log2 < 1920)) (.ok (.str (toString i)))
 | _=> .no
theorem Og:dk X (.type "str") cStr:=dk.of wI fun B H ds d xs Q _ rs hg q=>by
 unfold cStr at hg;split at hg
 .obtain⟨h1,h2⟩:=R.aL hg;cases h2;obtain⟨x,rfl,r⟩:=rs.one;exact⟨_,by rw[Rep.int.mp r],of_decide_eq_true h1,q _ H (aO.refl H) (Rep.str.mpr rfl)⟩
 .cases hg
def P4:List D->R D
 | [.int i, .int j]=> .ok (.int (if j < i then j else i))
 | _=> .no
def QX:List D->R D
 | [.int i, .int j]=> .ok (.int (if j > i then j else i))
 | _=> .no
def y9:List D->R D
 | [.lst ds]=> .ok (.tup ds)
 | [.tup ds]=> .ok (.tup ds)
 | _=> .no
theorem Iz:dk X (.type "tuple") y9:=dk.of uJ fun B H ds d xs Q hb rs hg q=>by
 unfold y9 at hg;split at hg
 .cases hg;obtain⟨x,rfl,r⟩:=rs.one;obtain⟨a,ys,rfl,l,r⟩:=Rep.lst.mp r;refine⟨a,ys,rfl, .inl ⟨l.sq,fun p hp=>q _ _ (bB hp) (Rep.tup.mpr ⟨p,ys,rfl, .inl ⟨fun ha=>?_, .inl aY⟩,r.same (bB hp)⟩)⟩⟩
  obtain⟨o,ho⟩:=hb p ha;rw[hp] at ho;cases ho
 .cases hg;obtain⟨x,rfl,r⟩:=rs.one;have r0:=r;obtain⟨a,ys,rfl,l,r⟩:=Rep.tup.mp r;exact⟨a,ys,rfl, .inr ⟨l.sq,q _ H (aO.refl H) r0⟩⟩
 .cases hg
def UN:List D->R D
 | [.lst ds]=> .ok (.lst ds)
 | [.tup ds]=> .ok (.lst ds)
 | _=> .no
def cAbs:List D->R D
 | [.int i]=> .ok (.int (if i < 0 then -i else i))
 | _=> .no
def Ql:List D->R D
 | [.lst ds]=>(match ints? ds with | some ns=> .ok (.int ns.sum) | none=> .no)
 | _=> .no
def tyName:D->String
 | .cD=>"NoneType" | .bl _=>"bool" | .int _=>"int" | .str _=>"str" | .lst _=>"list" | .tup _=>"tuple" | .dct _ _=>"dict"
def VY(T:String)(f:FD):FD:=fun δ=>(f δ).bind fun d=>R.aU (tyName d==T && d.atom) (.ok (.bl true))
def J1(X:Cx)(id:String)(g:D->List D->R D):Prop:=
 ∀(pins:Y5) (s:Shared) (σ:St) (H:Hp) (B:List Addr) (da d:D) (ds:List D) (x:V) (xs:List V) (v:Value) (us:List Value),Inv X pins σ H s->(∀a∈B,∃o,H a=some o)->RelV x v->Vals xs us->Rep X.K B H da x->ay X.K B H ds xs->g da ds= .ok d->
  wpAny (model X.prog X.w) X.A (call (.builtin id) (v ::us)) (EP X pins σ fun z H'=>aO H H'/\Rep X.K B H' d z) X.xe s
def vj(T:String)(g:D->List D->R D)(f:FD)(fs:ao->R (List D)):FD:=fun δ=>(f δ).bind fun d=>R.aU (tyName d==T && (d.atom || T=="list")) ((fs δ).bind fun ds=>g d ds)
theorem J1.r{id:String}{g:D->List D->R D}(h:J1 X id g):TZ X id (fun x xs H Q=>∃B da ds d,(∀a∈B,∃o,H a=some o)/\Rep X.K B H da x/\ay X.K B H ds xs/\g da ds= .ok d/\∀z H',aO H H'->Rep X.K B H' d z->Q z H'):=by
 intro pins s σ H x xs v us Q I rx rxs ⟨B,da,ds,d,hb,ra,rs,hg,q⟩;exact cJ (h pins s σ H B da d ds x xs v us I hb rx rxs ra rs hg) fun z s' ⟨zv,H',I',r',s1,r1⟩=>⟨zv,H',I',r',q zv H' s1 r1⟩
theorem Al{T id:String}{name:Str}{g:D->List D->R D}{o e:Expr}{es:List Expr}{f:FD}{fs:ao->R (List D)}{apos bf:Pos}(pa:PlainAttrs T)(slot:Slot T name id)(GB:typeOf (.builtin id)=pure (.type "method_descriptor"))(hm:J1 X id g)(ho:PD X o f)(ha:CJ X (e ::es) fs)
 (hT:T="str"\/T="int"\/T="list")
 (fB:attributeBase o name X.env (eval o X.env)=eval o X.env:=by rfl)
 (lG:((backTo bf (starEach (e ::es) X.env)).all (fun x=>!x.1) && (backToKw bf (keywordEach [] X.env)).all (fun x=>x.1.isSome)
   && decide ((e ::es).length+([]:List Keyword).length+(if([]:List Keyword).isEmpty then 0 else 1) < 30))=true:=by rfl)
 (fD:(apos.endLine==bf.line)=true:=by rfl) (hs:starEach (e ::es) X.env=(false,eval e X.env) ::starEach es X.env:=by rfl) (zZ:(backTo bf (starEach es X.env)).any (·.1)=false:=by rfl) :
 PD X (.Call (.Attribute o name apos) (e ::es) [] bf) (vj T g f fs):=by
 refine(Aq pa slot GB hm.r ho ha fB lG fD hs zZ).imp fun σ H Q ⟨Z,B,δ,d,E,hf,q⟩=>?_
 obtain⟨d1,h1,h2⟩:=R.af hf;obtain⟨h3,h4⟩:=R.aL h2;obtain⟨ds,h5,h6⟩:=R.af h4;obtain⟨h7,h8⟩:=Bool.and_eq_true_iff.mp h3;have h7:tyName d1=T:=by simpa using h7
 refine⟨Z,B,δ,d1,E,h1,fun v1 H1 s1 r1=>⟨?_,Z,B,δ,ds,E.same s1,h5,fun vs H2 s2 r2=>⟨B,d1,ds,d,(E.same (s1.trans s2)).bs,r1.same s2,r2,h6,fun z H' s3 r3=>q z H' (s1.trans (s2.trans s3)) r3⟩⟩⟩
 cases d1 with
 | str z=>rw [Rep.str.mp r1];exact h7.symm
 | int i=>rw [Rep.int.mp r1];exact h7.symm
 | lst es=>obtain⟨a,xs,rfl,l,_⟩:=Rep.lst.mp r1;exact .inl ⟨h7.symm,xs,l.sq⟩
 | cD=>rcases hT with z | z | z <;> (rw [z] at h7;exact absurd (show("NoneType":String)=_ from h7) (by decide))
 | bl _=>rcases hT with z | z | z <;> (rw [z] at h7;exact absurd (show("bool":String)=_ from h7) (by decide))
 | tup _=>rcases hT with z | z | z <;> (rw [z] at h7;exact absurd (show("tuple":String)=_ from h7) (by decide))
 | dct _ _=>rcases hT with z | z | z <;> (rw [z] at h7;exact absurd (show("dict":String)=_ from h7) (by decide))
theorem vn:∀{ss:List Str} {us:List Value},Vals (ss.map V.str) us->∃l:List (Str × Tok),us=strValues l/\l.map (·.1)=ss
 | [],_, .nil=>⟨[],rfl,rfl⟩
 | n ::ns,_, .cons r t=>by
   obtain⟨l,rfl,e⟩:=vn t;obtain⟨tk,rfl⟩:=r;exact⟨(n,tk) ::l,rfl,by rw[List.map_cons,e]⟩
def mM(d:D)(ds:List D):R D:=match d,ds with
 | .str sep,[.lst es]=>(match strs? es with | some ss=>R.aU (JoinOk sep ss) (.ok (.str (Str.join sep ss))) | none=> .no)
 | _,_=> .no
theorem JO:J1 X "str.join" mM:=by
 intro pins s σ H B da d ds x xs v us I hb rx rxs ra rs hg;unfold mM at hg;split at hg
 .split at hg
  .rename_i sep es ss e;obtain⟨h1,h2⟩:=R.aL hg;cases h2;rw[Rep.str.mp ra] at rx;obtain⟨t,rfl⟩:=rx;obtain⟨y,rfl,r⟩:=rs.one;obtain⟨a,ys,rfl,l,r⟩:=Rep.lst.mp r;obtain⟨u,rfl,ru⟩:=vals1 rxs;cases ru;obtain⟨its,n,rv,e1,hz⟩:=I.O_ l;rw[iz r e] at rv;obtain⟨ps,rfl,rfl⟩:=vn rv;refine SC.join (D:=a) (l:=ps) ⟨_,e1,rfl,n,rfl⟩ rfl h1 fun t' k=>⟨.str _,H,I.tok _,⟨t',rfl⟩,aO.refl H,Rep.str.mpr ?_⟩
   rw[<-StrLaws.glued_eq_join];rfl
  .cases hg
 .cases hg
theorem Hx{o e:Expr}{f:FD}{fs:ao->R (List D)}{apos bf:Pos}(ho:PD X o f)(ha:CJ X [e] fs)
 (fB:attributeBase o "join" X.env (eval o X.env)=eval o X.env:=by rfl)
 (lG:((backTo bf (starEach [e] X.env)).all (fun x=>!x.1) && (backToKw bf (keywordEach [] X.env)).all (fun x=>x.1.isSome)
   && decide (([e]:List Expr).length+([]:List Keyword).length+(if([]:List Keyword).isEmpty then 0 else 1) < 30))=true:=by rfl)
 (fD:(apos.endLine==bf.line)=true:=by rfl) (hs:starEach [e] X.env=(false,eval e X.env) ::starEach [] X.env:=by rfl) :
 PD X (.Call (.Attribute o "join" apos) [e] [] bf) (vj "str" mM f fs):=Al F.plainAttrs_str F.slot_str_join F.type_str_join JO ho ha (.inl rfl) fB lG fD hs
abbrev PJ(X:Cx)(es:List Expr)(f:ao->R (List Str)):Prop:=
 ∀(pins:Y5) (s:Shared) (σ:St) (H:Hp) (Z B:List Addr) (δ:ao) (acc:Str) (ss:List Str) (Q:VK),Inv X pins σ H s->dC X.K Z B H σ δ->f δ= .ok ss->(ss.foldl (·++·) acc).length<=sizeLine->(∀H',aO H H'->Q (.str (ss.foldl (·++·) acc)) H')->
  wpAny (model X.prog X.w) X.A (joinParts acc (evalEach es X.env)) (EP X pins σ Q) X.xe s
theorem va:∀(ss:List Str) (acc:Str),acc.length<=(ss.foldl (·++·) acc).length
 | [],acc=>Nat.le_refl _
 | s ::ss,acc=>Nat.le_trans (by rw[Str.length_append];exact Nat.le_add_right _ _) (va ss (acc++s))
def pz:ao->R (List Str):=fun _=> .ok []
def bV(f:FD)(g:ao->R (List Str)):ao->R (List Str):=fun δ=>(f δ).bind fun d=>match d with | .str x=>(g δ).bind fun ss=> .ok (x ::ss) | _=> .no
theorem LS:PJ X [] pz:=by
 intro pins s σ H Z B δ acc ss Q I E hf hl q;cases hf;exact joinParts_nil ⟨.str _,H,I.tok _,⟨_,rfl⟩,q H (aO.refl H)⟩ hl
theorem Ie{g:ao->R (List Str)}(he:PD X e f)(hr:PJ X es g)(R0:evalEach (e ::es) X.env=eval e X.env ::evalEach es X.env:=by rfl):PJ X (e ::es) (bV f g):=by
 intro pins s σ H Z B δ acc ss Q I E hf hl q;rw[R0];obtain⟨d,h1,h2⟩:=R.af hf;cases d with
 | str x=>
   obtain⟨U8,h3,h4⟩:=R.af h2;cases h4;refine joinParts_cons (cJ (he pins s σ H (fun v H'=>aO H H'/\v= .str x) I ⟨Z,B,δ, .str x,E,h1,fun v H' s1 r1=>⟨s1,Rep.str.mp r1⟩⟩) fun v s1 ⟨xv,H1,I1,r1,Mg,e1⟩=>?_)
   subst e1;obtain⟨t,rfl⟩:=r1;exact⟨Nat.le_trans (va U8 (acc++x)) hl,hr pins s1 σ H1 Z B δ (acc++x) U8 Q I1 (E.same Mg) h3 hl fun H' s2=>q H' (Mg.trans s2)⟩
 | _=>cases h2
def cW(g:ao->R (List Str)):FD:=fun δ=>(g δ).bind fun ss=>R.aU (decide ((ss.foldl (·++·) Str.empty).length<=sizeLine)) (.ok (.str (ss.foldl (·++·) Str.empty)))
theorem Bp{rest:List Expr}{g:ao->R (List Str)}(h:PJ X (F8 ::F1 ::rest) g):PD X (.JoinedStr (F8 ::F1 ::rest) pos) (cW g):=by
 intro pins s σ H Q I ⟨Z,B,δ,d,E,hf,q⟩;obtain⟨ss,h1,h2⟩:=R.af hf;obtain⟨h3,h4⟩:=R.aL h2;cases h4;rw[arm_eval_JoinedStr];exact h pins s σ H Z B δ Str.empty ss Q I E h1 (of_decide_eq_true h3) fun H' s1=>q _ H' s1 (Rep.str.mpr rfl)
def Ih:D->R D
 | .str x=>R.aU (decide (x.length<=sizeLine)) (.ok (.str x))
 | .int i=>R.aU (decide (i.natAbs.log2 < 1920)) (.ok (.str (toString i)))
 | _=> .no
def l6(f:FD):FD:=fun δ=>(f δ).bind Ih
theorem JZ(h:PD X e f):PD X (.FormattedValue e (-1) none pos) (l6 f):=by
 intro pins s σ H Q I ⟨Z,B,δ,d,E,hf,q⟩;obtain⟨d1,h1,h2⟩:=R.af hf;refine FormattedValue_plain (cJ (h pins s σ H (fun v H'=>aO H H'/\Rep X.K B H' d1 v) I ⟨Z,B,δ,d1,E,h1,fun v H' s1 r1=>⟨s1,r1⟩⟩) fun v s1 ⟨xv,H1,I1,r1,Mg,e1⟩=>?_)
 unfold Ih at h2;split at h2
 .obtain⟨h3,h4⟩:=R.aL h2;cases h4;rw[Rep.str.mp e1] at r1;obtain⟨t,rfl⟩:=r1;exact formatField_str (fun t' tk=>⟨.str _,H1,I1.tok _,⟨_,rfl⟩,q _ H1 Mg (Rep.str.mpr rfl)⟩) (of_decide_eq_true h3)
 .obtain⟨h3,h4⟩:=R.aL h2;cases h4;rw[Rep.int.mp e1] at r1;obtain⟨t,rfl⟩:=r1;exact formatField_int_small (of_decide_eq_true h3) ⟨.str _,H1,I1.tok _,⟨_,rfl⟩,q _ H1 Mg (Rep.str.mpr rfl)⟩
 .cases h2
def Nu:List (D × D)->Str->R (Option D)
 | [],_=> .ok none
 | (.str y,d) ::r,x=>(Nu r x).bind fun o=> .ok (match o with | some e=>some e | none=>if y=x then some d else none)
 | _ ::_,_=> .no
def AV(x:Str):List D:=x.cps.toList.map fun c=> .str ⟨#[c]⟩
def Wt(x:Str):It:=⟨fun i _=>i < x.cps.size,fun i H v H'=>H'=H/\∃c,x.cps[i]? =some c/\v= .str ⟨#[c]⟩,fun i _=>x.cps.size<=i⟩
theorem FW{K:W.Frag}(it:Addr)(x:Str)(t:Tok)(ty:String)(GB:ty="str_ascii_iterator"\/ty="str_iterator"):Turn P w K tg (Wt x) [it] it (fun i h=>h.IsStrIter it ty x t i/\i<=x.cps.size) where
 mem:=by simp
 obj:=fun i h st b hb=>by
  have e:b=it:=by simpa using hb
  subst e;obtain⟨o,e,c,d⟩:=st.1;exact⟨o,e,fun v z=>by rw[d] at z;cases z⟩
 keep:=fun i h h' st k=>⟨let⟨o,ho,r⟩:=st.1;⟨o,k it (by simp) o ho,r⟩,st.2⟩
 item:=by
  intro X hP hw hK hc i pins s σ H E I hf st hg;subst hP hw hK;obtain⟨f0,f1,f2,f3,f4,f5⟩:=hf it (by simp)
  have W:Walks X.prog X.w X.A it [it] [it] x.cps.size (SignAt x) (fun i h=>h.IsStrIter it ty x t i):=by
   rcases GB with rfl | rfl
   .exact Walks.strAscii (I.ok.hd hc) it x t
   .exact Walks.strWide (I.ok.hd hc) it x t
  refine W.item i s _ _ hg st.1 fun v h' tk hv F5 kk=>?_
  obtain⟨c,u,e1,rfl⟩:=hv;have I1:Inv X pins σ H {s with heap:=h',toks:=tk}:=I.turned (fun b o hb e=>kk b o (by simpa using hb) e) f0 f1 f3 f4 f5
  obtain⟨o,e,cl,d⟩:=id F5;refine⟨_,rfl,z9 (s:={s with heap:=h',toks:=tk}) (n:=ty) e cl d ?_ ⟨.str ⟨#[c]⟩,H,I1,⟨u,rfl⟩,⟨rfl,c,e1,rfl⟩,⟨F5,hg⟩,fun b hb=>(hf b hb).1⟩⟩
  rcases GB with rfl | rfl <;> decide
 done:=by
  intro X hP hw hK hc i pins s σ H E I hf st hg;subst hP hw hK;obtain⟨f0,f1,f2,f3,f4,f5⟩:=hf it (by simp)
  have W:Walks X.prog X.w X.A it [it] [it] x.cps.size (SignAt x) (fun i h=>h.IsStrIter it ty x t i):=by
   rcases GB with rfl | rfl
   .exact Walks.strAscii (I.ok.hd hc) it x t
   .exact Walks.strWide (I.ok.hd hc) it x t
  have e:i=x.cps.size:=Nat.le_antisymm st.2 hg;exact W.done s _ _ (e▸st.1) fun h' tk kk=>⟨rfl,I.turned (fun b o hb e=>kk b o (by simpa using hb) e) f0 f1 f3 f4 f5⟩
 self:=fun A i s Q E st h=>by
  rcases GB with rfl | rfl
  .exact wpAny_pyIter_striter_ascii st.1 h
  .exact wpAny_pyIter_striter_wide st.1 h
def Dm(f:FD):ao->R (List D):=fun δ=>(f δ).bind fun d=>match d with | .str x=> .ok (AV x) | _=> .no
theorem HB(h:PD X e f):MF X tg e (Dm f):=by
 intro pins s σ H RR I ⟨Z,B,δ,ds,E,hf,q⟩;obtain⟨d,h1,h2⟩:=R.af hf;refine cJ (h pins s σ H (fun v H1=>aO H H1/\Rep X.K B H1 d v) I ⟨Z,B,δ,d,E,h1,fun v H1 s1 r1=>⟨s1,r1⟩⟩) fun v s1 ⟨x,H1,I1,r1,ss,rr⟩=>?_
 cases d with
 | str z=>
   cases h2;rw[Rep.str.mp rr] at r1;obtain⟨t,rfl⟩:=r1;refine wpAny_pyIter_strU ?_;have GB:strIterType z="str_ascii_iterator"\/strIterType z="str_iterator":=by
    unfold strIterType;split
    .exact .inl rfl
    .exact .inr rfl
   refine⟨s1.heap.objs.size,[s1.heap.objs.size],_,_,H1,rfl,I1.kept (t':=s1.toks) fun b o e=>Heap.get?_push_of_some _ e,FW _ z t (strIterType z) GB,⟨⟨_,Heap.get?_push_size _ rfl,rfl,rfl⟩,Nat.zero_le _⟩,fun b hb=>?_,q _ H1 ss fun B' H' pr=>?_⟩
   .have e:b=s1.heap.objs.size:=by simpa using hb
    subst e;exact I1.Cs (Nat.le_refl _) (I1.hok.fresh (Nat.le_refl _))
   .refine⟨fun i d hd=>?_,?_⟩
    .unfold AV at hd;rw[List.getElem?_map] at hd;cases e:z.cps.toList[i]? with
     | none=>rw [e] at hd;cases hd
     | some c=>
       rw[e] at hd;cases hd;have e':z.cps[i]? =some c:=by simpa using e
       exact⟨(Array.getElem?_eq_some_iff.mp e').1,fun x pK ⟨e1,c',e2,e3⟩ _=>by
        subst e1;rw[e'] at e2;cases e2;exact⟨aO.refl _,Rep.str.mpr e3⟩⟩
    .show z.cps.size<=(AV z).length;unfold AV;simp
 | _=>cases h2
def Ye(K:W.Frag)(a:Addr):It:=
 ⟨fun i H=>∃xs x,oz K H a xs/\xs[i]? =some x,fun i H v H'=>∃p x,H p=none/\v= .ref p/\(∀xs,oz K H a xs->xs[i]? =some x)/\H'=upd H p (.tup [.int i,x]),fun i H=>∃xs,oz K H a xs/\xs.length<=i⟩
def yr(ds:List D):List D:=ds.zipIdx.map fun p=> .tup [.int p.2,p.1]
def QM(f:FD):ao->R (List D):=fun δ=>(f δ).bind fun d=>match d with | .lst ds=> .ok (yr ds) | _=> .no
end
end L2
end
section
namespace L2
open PySem PySem.Spec PyProof.Rows
def Def(K:W.Frag)(mg:Y_)(x:Str)(st:Stmt):Prop:=∃f fd,zw K x x st f fd/\mg x=some (.ref f)
def Callee(P:Program)(w:World)(K:W.Frag)(mg:Y_)(base:Heap)(k:Nat)(x:Str)(n:Nat)(g:List D->R D):Prop:=
 ∃f fd ps,jt P w K mg base uV k f fd ps (GW K n g)/\mg x=some (.ref f)/\PySem.W.keepIn K (.ref f)=true/\Binds K fd ps []
theorem bD:∀(δ:ao) (ds:List D),aJ δ= .ok ds->ds.length=0:=fun δ ds h=>by cases h;rfl
theorem aI{g:ao->R (List D)}{n:Nat}(h:∀(δ:ao) (ds:List D),g δ= .ok ds->ds.length=n):∀(δ:ao) (ds:List D),ai f g δ= .ok ds->ds.length=n+1:=fun δ ds e=>by
 obtain⟨d,h1,h2⟩:=R.af e;obtain⟨es,h3,h4⟩:=R.af h2;cases h4;rw[List.length_cons,h δ es h3]
theorem DX{P:Program}{w:World}{K:W.Frag}{mg:Y_}{base:Heap}{x qual:Str}{st:Stmt}{f:Addr}{fd:FuncData}{N ps:List Str}{k:Nat}{F:FS}{b:List Stmt}{sc:Scope}(hb:aX st=b)(hs:aC st=sc)(Fn:zw K x qual st f fd)(S:bq N ps sc)
 (ig:∀(dF:Value) (A:Around) (outer:List Env) (s:Shared) (H:Hp) (E:XK),dH k (A.deeper (envOfC qual sc s.heap.objs.size f dF))->
   rO (lR uV P w K mg base N qual sc f dF A outer s H E).Hz b F):jt P w K mg base uV (k+1) f fd ps (GW K ps.length (u6 N F)):=by
 subst hb hs;exact Ia Fn S ig
section
variable {X:Cx}
theorem D9{g:List D->R D}{k j n:Nat}{x:Str}{p pos:Pos}{e:Expr}{es:List Expr}{fs:ao->R (List D)}(C:Callee X.prog X.w X.K X.mg X.base k x n g)(hr:dH j X.A)(F4:k<=j)(hg:Gl X x)(ha:CJ X (e ::es) fs)
 (hn:∀δ ds,fs δ= .ok ds->ds.length=n) (kL:(x==("__debug__":Str))=false:=by decide) (he:starEach (e ::es) X.env=(false,eval e X.env) ::starEach es X.env:=by rfl) (mT:(backTo pos (starEach es X.env)).any (·.1)=false:=by rfl) :
 PD X (.Call (.Name x p) (e ::es) [] pos) (bt g fs):=by
 obtain⟨f,fd,ps,F,hm,hk,hb⟩:=C;exact Ik F (hr.mono F4) hg hm hk hb ha hn kL he mT
def M9(sc:Scope)(N:List Str)(scope:Scope)(kp:List Nat)(kn:List Str):Bool:=
 decide (scope.kind= .function) && scope.names.all (fun y=>decide (y.2= .cell->scope.names.lookup y.1=some .cell)) && scope.names.all (fun y=>decide (y.2= .local->scope.names.lookup y.1=some .local))
  && scope.names.all (fun y=>decide (y.2= .free->(sc.names.lookup y.1=some .cell\/sc.names.lookup y.1=some .free))) && scope.names.all (fun y=>decide (y.2= .free->scope.names.lookup y.1=some .free)) && decide (kn.length=kp.length)
  && (List.range kp.length).all (fun j=>decide ((kp[j]?).bind (N[·]?)=kn[j]?)) && kn.all (fun x=>decide (scope.names.lookup x=some .free))
theorem cM.of{own:List Str}{kp:List Nat}{kn:List Str}{N:List Str}(h1:X.env.scope=sc)(h2:X.N=N)(h:M9 sc N scope kp kn=true):cM X scope own kp kn:=by
 unfold M9 at h;simp only[Bool.and_eq_true,decide_eq_true_eq,List.all_eq_true] at h;obtain⟨⟨⟨⟨⟨⟨⟨a1,a2⟩,a3⟩,a4⟩,a8⟩,a5⟩,a6⟩,a7⟩:=h;refine⟨a1,a2,a3,fun y hy hf=>?_,a8,a5,fun j i x hj hx=>?_,a7⟩
 .have:=a4 y hy hf;unfold Env.kindOf;rw[h1];exact this
 .have hlt:j < kp.length:=(List.getElem?_eq_some_iff.mp hj).1;have:=a6 j (List.mem_range.mpr hlt);rw[hj] at this;rw[h2];exact this.trans hx
def Fh(aw:List (Key × V))(f g:FD):FD:=fun δ=>(f δ).bind fun k=>(g δ).bind fun d=>match k with
 | .str x=>(match jy (k7 [] aw) (Sum.inr x) with | some (.int i)=> .ok (.int i) | none=> .ok d | _=> .no)
 | _=> .no
theorem JI{keys:List (Option Expr)}{values:List Expr}{ua:List (TE × TE)}{w9 apos bf:Pos}{e f:Expr}{fe ff:FD}{aw:List (Key × V)}(hu:X.A.units+1 < cLine)(h:I0 X w9 keys values ua)(yF:keys.all (·.isSome)=true)(hl:keys.length=values.length)(h0:keys≠[])
 (hc:∀σ H Q,Q (aw.map fun kv=>(kV kv.1,kv.2)) H->o_ ua σ H Q) (hlen:aw.length<=15) (he:PD X e fe) (hf:PD X f ff) (m:M2 X (.Dict keys values w9) "get" apos e f bf)
 (hd:PE X (.Dict keys values w9) (Fu ua)):PD X (.Call (.Attribute (.Dict keys values w9) "get" apos) [e,f] [] bf) (Fh aw fe ff):=by
 refine(Ex hu hd he hf m).imp fun σ H Q ⟨Z,B,δ,d,E,hfd,q⟩=>?_
 obtain⟨k,h1,h2⟩:=R.af hfd;obtain⟨dd,h3,h4⟩:=R.af h2;intro p hp;refine hc σ _ _ ⟨aY,aw,rfl,hlen,p,rfl, .inl ⟨_, .inl aY⟩,?_⟩;rw[AH];have s0:aO H (upd H p (.dK (k7 [] aw))):=bB hp;refine⟨Z,B,δ,k,E.same s0,h1,fun v1 H1 s1 r1=>⟨Z,B,δ,dd,(E.same s0).same s1,h3,fun v2 H2 s2 r2=>?_⟩⟩
 have hH2:H2 p=some (.dK (k7 [] aw)):=s2 p _ (s1 p _ aY);have sA:aO H H2:=s0.trans (s1.trans s2);split at h4
 .rename_i x;refine⟨jy (k7 [] aw) (Sum.inr x),?_,?_⟩
  .rw [Rep.str.mp r1];exact nH.k (k:=Sum.inr x) hH2
  .split at h4
   .rename_i i e1;cases h4;rw[e1];exact q _ H2 sA (Rep.int.mpr rfl)
   .rename_i e1;cases h4;rw[e1];exact q _ H2 sA r2
   .cases h4
 .cases h4
def T5(i:Nat)(f:FD):FS:=fun δ=>(f δ).bind fun d=>match d with
 | .lst es=>(su δ i).bind fun ds=>R.aU (decide (ds.length+es.length<=sizeLine)) (.ok (.nx (δ.set i (.bld (ds++es)))))
 | _=> .no
end
end L2
end
section
namespace L2
open PySem PySem.Spec PyProof.Rows
structure QD (X:Cx) (e:Expr) (f:FD):Prop where
 h:PD X e f
structure QN (X:Cx) (e:Expr) (f:ao->R (List D)):Prop where
 h:PN X e f
structure QB (X:Cx) (e:Expr) (f:ao->R Bool):Prop where
 h:PB X e f
structure LN (X:Cx) (e:Expr) (f:ao->R Bool):Prop where
 h:Gi X e f
structure CI (X:Cx) (e:List Expr) (f:ao->R (List D)):Prop where
 h:CJ X e f
structure Ha (X:Cx) (e:Stmt) (f:FS):Prop where
 h:Gj X e f
structure uz (X:Cx) (e:List Stmt) (f:FS):Prop where
 h:rO X e f
structure My (X:Cx) (e:Expr) (f:FT):Prop where
 h:Mz X e f
structure Iu (X:Cx) (e:List Expr) (f:Fw):Prop where
 h:Hn X e f
structure MK (X:Cx) (tg e:Expr) (f:ao->R (List D)):Prop where
 h:MF X tg e f
structure QP (X:Cx) (e:Option Expr) (f:FO):Prop where
 h:PP X e f
structure QJ (X:Cx) (e:List Expr) (f:ao->R (List Str)):Prop where
 h:PJ X e f
structure LL (X:Cx) (e:List Expr) (c:ao->R Bool):Prop where
 h:rM X e (Kb X.K c)
section
variable {X:Cx}
theorem aA{f:ao->R (List D)}(h:QN X e f):QD X e (eNew f):=⟨JR h.1⟩
theorem ae(i:Nat){pos:Pos}(hN:X.N[i]? =some x:=by rfl)(hv:KL X.env.scope x:=by first | exact Or.inl rfl | exact Or.inr (Or.inl rfl) | exact Or.inr (Or.inr rfl))(hd:(x==("__debug__":Str))=false:=by decide)(uN:(x==("__classdict__":Str))=false:=by decide):QD X (.Name x pos) (ah i):=⟨KJ i hN hv hd uN⟩
theorem aj{i j pos}:QD X (.Constant (.int i) j pos) (eC (.int i)):=⟨KW⟩
theorem pk{b j pos}:QD X (.Constant (.bool b) j pos) (eC (.bl b)):=⟨Np⟩
theorem aq{x j pos}:QD X (.Constant (.str x) j pos) (eC (.str x)):=⟨JL⟩
theorem gq{d:D}{pos:Pos}(g:Glob X.K X.mg x d)(hg:Gl X x)(hd:(x==("__debug__":Str))=false:=by decide):QD X (.Name x pos) (eC d):=⟨Hd g hg hd⟩
theorem ag:CI X [] aJ:=⟨HL⟩
theorem aa{g:ao->R (List D)}(h:QD X e f)(t:CI X es g)(hs:starEach (e ::es) X.env=(false,eval e X.env) ::starEach es X.env:=by rfl):CI X (e ::es) (ai f g):=⟨FY h.1 t.1 hs⟩
theorem AD{g:ao->R (List D)}{x1 pos}(h:CI X es g):QD X (.Tuple es x1 pos) (BV g):=⟨K2 h.1⟩
theorem aE{g:ao->R (List D)}{pos}(h:CI X es g):QN X (.List es pos) (bN g):=⟨K_ h.1⟩
theorem aQ{op:Operator}{g:D->D->R D}(ho:nC X (binaryOp op) g)(ha:QD X a fa)(hb:QD X b fb):QD X (.BinOp a op b pos) (e2 g fa fb):=⟨NX ho ha.1 hb.1⟩
theorem eI{op:CmpOp}{g:D->D->R D}(ho:nC X (compareOp op) g)(ha:QD X a fa)(hb:QD X b fb)(hm:behindInMarks op b=false):QD X (.Compare a [op] [b] pos) (e2 g fa fb):=⟨LV ho ha.1 hb.1 hm⟩
theorem ba{op:CmpOp}{g:D->D->R D}(ho:nC X (compareOp op) g)(ha:QD X a fa)(hb:QD X b fb)(hm:behindInMarks op b=false):QB X (.Compare a [op] [b] pos) (b2 g fa fb):=⟨Ll ho ha.1 hb.1 hm⟩
theorem qf{a:Expr}(ha:QD X a f)(he:∀whole,isTrue a X.env whole=(do let v <-whole;standAt a.pos;holding [v] (truthy v)):=by intro _;rfl):QB X a (wq f):=⟨LZ ha.1 he⟩
theorem eD{f:ao->R Bool}(h:LN X e f):QB X e f:=⟨Gi.pb h.1⟩
theorem lN{f:ao->R Bool}(h:QB X a f):LN X (.BoolOp .And [a] pos) f:=⟨Du h.1⟩
theorem jq{f:ao->R Bool}(h:QB X a f):LN X (.BoolOp .Or [a] pos) f:=⟨GY h.1⟩
theorem nv{rest:List Expr}{f g:ao->R Bool}(ha:QB X a f)(hb:LN X (.BoolOp .And (b ::rest) pos) g):LN X (.BoolOp .And (a ::b ::rest) pos) (rQ f g):=⟨GS ha.1 hb.1⟩
theorem je{rest:List Expr}{f g:ao->R Bool}(ha:QB X a f)(hb:LN X (.BoolOp .Or (b ::rest) pos) g):LN X (.BoolOp .Or (a ::b ::rest) pos) (yM f g):=⟨KN ha.1 hb.1⟩
theorem A6{f:ao->R Bool}(ha:QB X a f):QB X (.UnaryOp .Not a pos) (BN f):=⟨Kf ha.1⟩
theorem oh{op}(h:QD X a f):QD X (.BoolOp op [a] pos) f:=⟨Kw h.1⟩
theorem oF{rest:List Expr}(ha:QD X a f)(hb:QD X (.BoolOp .And (b ::rest) pos) g):QD X (.BoolOp .And (a ::b ::rest) pos) (uD f g):=⟨JJ ha.1 hb.1⟩
theorem EY{rest:List Expr}(ha:QD X a f)(hb:QD X (.BoolOp .Or (b ::rest) pos) g):QD X (.BoolOp .Or (a ::b ::rest) pos) (Mx f g):=⟨NU ha.1 hb.1⟩
theorem cQ{g:List D->R D}{id:String}{p pos:Pos}{fs:ao->R (List D)}(hc:dk X (.builtin id) g)(hg:Gl X x)(hm:X.mg x=none)(hv:bootBuiltins x=some (.builtin id))(ha:CI X (e ::es) fs)(hn:x≠"__name__":=by decide)(kL:(x==("__debug__":Str))=false:=by decide)(he:starEach (e ::es) X.env=(false,eval e X.env) ::starEach es X.env:=by rfl)(mT:(backTo pos (starEach es X.env)).any (·.1)=false:=by rfl):QD X (.Call (.Name x p) (e ::es) [] pos) (bt g fs):=⟨Dl hc hg hm hv ha.1 hn kL he mT⟩
theorem pG{g:List D->R D}{T:String}{p pos:Pos}{fs:ao->R (List D)}(hc:dk X (.type T) g)(hg:Gl X x)(hm:X.mg x=none)(hv:bootBuiltins x=some (.type T))(ha:CI X (e ::es) fs)(hn:x≠"__name__":=by decide)(kL:(x==("__debug__":Str))=false:=by decide)(he:starEach (e ::es) X.env=(false,eval e X.env) ::starEach es X.env:=by rfl)(mT:(backTo pos (starEach es X.env)).any (·.1)=false:=by rfl):QD X (.Call (.Name x p) (e ::es) [] pos) (bt g fs):=⟨BU hc hg hm hv ha.1 hn kL he mT⟩
theorem b7:uz X [] j9:=⟨HR⟩
theorem av{st:Stmt}{rest:List Stmt}{F G:FS}(h1:Ha X st F)(h2:uz X rest G):uz X (st ::rest) (bW F G):=⟨E4 h1.1 h2.1⟩
theorem aS{st:Stmt}{F:FS}(h1:Ha X st F):uz X [st] F:=⟨GI h1.1⟩
theorem bu{i:Nat}{pos pos':Pos}(hN:X.N.Nodup)(hi:X.N[i]? =some x)(hx:Loc X.env.scope x)(he:QD X e f)(hs:swapsWith e (some (.Name x pos')) pos.line X.env=pure false:=by rfl)(hf:X.fn x=true\/X.env.scope.names.lookup x=some .local:=by first | exact .inl rfl | exact .inr rfl | assumption):Ha X (.Assign [.Name x pos'] e pos) (dA i f):=⟨GQ hN hi hx he.1 hs hf⟩
theorem xw{i:Nat}{f:ao->R (List D)}{pos pos':Pos}(hN:X.N.Nodup)(hi:X.N[i]? =some x)(hx:Loc X.env.scope x)(he:QN X e f)(hs:swapsWith e (some (.Name x pos')) pos.line X.env=pure false:=by rfl)(hf:X.fn x=true\/X.env.scope.names.lookup x=some .local:=by first | exact .inl rfl | exact .inr rfl | assumption):Ha X (.Assign [.Name x pos'] e pos) (y7 i f):=⟨IB hN hi hx he.1 hs hf⟩
theorem yA{i:Nat}{x:Str}{e:Expr}{f:FD}{ub apos bf pos:Pos}(hN:X.N[i]? =some x)(hv:KL X.env.scope x)(he:QD X e f)(hd:(x==("__debug__":Str))=false:=by decide)(uN:(x==("__classdict__":Str))=false:=by decide)(hs:starEach [e] X.env=(false,eval e X.env) ::starEach [] X.env:=by rfl)(fD:(apos.endLine==bf.line)=true:=by rfl)(lG:((backTo bf (starEach [e] X.env)).all (fun x=>!x.1) && (backToKw bf (keywordEach [] X.env)).all (fun x=>x.1.isSome)
 && decide (([e]:List Expr).length+([]:List Keyword).length+(if([]:List Keyword).isEmpty then 0 else 1) < 30))=true:=by rfl) (CB:swapsWith (.Call (.Attribute (.Name x ub) "append" apos) [e] [] bf) none pos.line X.env=pure false:=by rfl) (fB:attributeBase (.Name x ub) "append" X.env (eval (.Name x ub) X.env)=eval (.Name x ub) X.env:=by rfl):Ha X (.Expr (.Call (.Attribute (.Name x ub) "append" apos) [e] [] bf) pos) (xq i f):=⟨Hi hN hv he.1 hd uN hs fD lG CB fB⟩
theorem xV(i:Nat){F:FS}(h:uz X OP F):uz X OP (zT i F):=⟨GF i h.1⟩
theorem bb(he:QD X e f):Ha X (.Return (some e) pos) (ee f):=⟨Hv he.1⟩
theorem cL{fc:ao->R Bool}{F G:FS}(hc:QB X c fc)(ha:uz X a F)(hb:uz X b G):Ha X (.If c a b pos) (qK fc F G):=⟨Kc hc.1 ha.1 hb.1⟩
theorem aP{i:Nat}{pos:Pos}(hN:X.N.Nodup)(hi:X.N[i]? =some x)(hx:Loc X.env.scope x)(hf:X.fn x=true\/X.env.scope.names.lookup x=some .local:=by first | exact .inl rfl | exact .inr rfl | assumption):My X (.Name x pos) (aR i):=⟨Ea hN hi hx hf⟩
theorem oj:Iu X [] uS:=⟨Dt⟩
theorem bx{u:Fw}(h1:My X e t)(h2:Iu X es u)(hs:(assignEach (e ::es) X.env).map (·.2)=assign e X.env ::(assignEach es X.env).map (·.2):=by rfl):Iu X (e ::es) (c7 t u):=⟨Cv h1.1 h2.1 hs⟩
theorem qo{pos:Pos}(he:QD X e f)(hg:My X tg t)(hs:swapsWithSole [tg] e pos.line X.env=pure false:=by rfl)(hw:swappedStores [tg] e X.env=pure none:=by rfl)(h1:(assignEach [tg] X.env).map (·.2)=[assign tg X.env]:=by rfl):Ha X (.Assign [tg] e pos) (Cg f t):=⟨GZ he.1 hg.1 hs hw h1⟩
theorem cV(h:QD X e f):MK X tg e (dW f):=⟨G3 h.1⟩
theorem mZ{tg a:Expr}{p pos:Pos}(h:QD X a f)(hg:Gl X "range")(hm:X.mg "range"=none)(hs:starEach [a] X.env=[(false,eval a X.env)]:=by rfl):MK X tg (.Call (.Name "range" p) [a] [] pos) (nG f):=⟨zO h.1 hg hm hs⟩
theorem pX{it:ao->R (List D)}{F:FS}{pos:Pos}(hp:PassesOwn (model X.prog X.w) X.A X.env X.xe)(hc:X.calm=true)(hi:MK X tg iter it)(hg:My X tg t)(hb:uz X body F)(hs:∀x,foldedSetIterable iter X.env x=pure x:=by intro _;rfl):Ha X (.For tg iter body [] pos) (uI it t F):=⟨IH hp hc hi.1 hg.1 hb.1 hs⟩
theorem gx{own:List Str}{kp:List Nat}{kn:List Str}{it:ao->R (List D)}{c:ao->R Bool}{pos:Pos}(hc:X.calm=true)(C:cM X scope own kp kn)(hi:MK X tg iter it)(hg:∀fp s H,My (bC X scope (own++kn) fp s H) tg t)(F6:∀fp s H,LL (bC X scope (own++kn) fp s H) ifs c)(he:∀fp s H,QD (bC X scope (own++kn) fp s H) elt f)(hs:∀x,foldedSetIterable iter X.env x=pure x:=by intro _;rfl):QN X (.ListComp elt [⟨tg,iter,ifs,0⟩] scope pos) (kh it t c f own kp):=⟨G_ hc C hi.1 (fun fp s H=>(hg fp s H).1) (fun fp s H=>(F6 fp s H).1) (fun fp s H=>(he fp s H).1) hs⟩
theorem gb:LL X [] ur:=⟨De⟩
theorem ER{c:ao->R Bool}(h:QB X e c):LL X [e] c:=⟨Ho h.1⟩
theorem bw(ha:QD X a fa)(hb:QD X b fb)(hs:vy b):QD X (.Subscript a b pos) (e2 eM fa fb):=⟨Oy ha.1 hb.1 hs⟩
theorem jg:QP X none ng:=⟨IE⟩
theorem ju(h:QD X e f):QP X (some e) (lW f):=⟨Hm h.1⟩
theorem nD{lo hi:Option Expr}{fl fh:FO}(he:QD X e f)(hl:QP X lo fl)(hh:QP X hi fh):QD X (.Subscript e (.Slice lo hi none p2) pos) (Bo f fl fh):=⟨Nl he.1 hl.1 hh.1⟩
theorem p7{o e:Expr}{f:FD}{fs:ao->R (List D)}{apos bf:Pos}(ho:QD X o f)(ha:CI X [e] fs)(fB:attributeBase o "join" X.env (eval o X.env)=eval o X.env:=by rfl)(lG:((backTo bf (starEach [e] X.env)).all (fun x=>!x.1) && (backToKw bf (keywordEach [] X.env)).all (fun x=>x.1.isSome)
 && decide (([e]:List Expr).length+([]:List Keyword).length+(if([]:List Keyword).isEmpty then 0 else 1) < 30))=true:=by rfl) (fD:(apos.endLine==bf.line)=true:=by rfl) (hs:starEach [e] X.env=(false,eval e X.env) ::starEach [] X.env:=by rfl):QD X (.Call (.Attribute o "join" apos) [e] [] bf) (vj "str" mM f fs):=⟨Hx ho.1 ha.1 fB lG fD hs⟩
theorem gG:QJ X [] pz:=⟨LS⟩
theorem aZ{g:ao->R (List Str)}(he:QD X e f)(hr:QJ X es g)(R0:evalEach (e ::es) X.env=eval e X.env ::evalEach es X.env:=by rfl):QJ X (e ::es) (bV f g):=⟨Ie he.1 hr.1 R0⟩
theorem cF{rest:List Expr}{g:ao->R (List Str)}(h:QJ X (F8 ::F1 ::rest) g):QD X (.JoinedStr (F8 ::F1 ::rest) pos) (cW g):=⟨Bp h.1⟩
theorem gh(h:QD X e f):QD X (.FormattedValue e (-1) none pos) (l6 f):=⟨JZ h.1⟩
theorem DU(h:QD X e f):MK X tg e (Dm f):=⟨HB h.1⟩
theorem cx{P:Program}{w:World}{K:W.Frag}{mg:Y_}{base:Heap}{x qual:Str}{st:Stmt}{f:Addr}{fd:FuncData}{N ps:List Str}{k:Nat}{F:FS}{b:List Stmt}{sc:Scope}(hb:aX st=b)(hs:aC st=sc)(Fn:zw K x qual st f fd)(S:bq N ps sc)(ig:∀(dF:Value) (A:Around) (outer:List Env) (s:Shared) (H:Hp) (E:XK),dH k (A.deeper (envOfC qual sc s.heap.objs.size f dF))->
 uz (lR uV P w K mg base N qual sc f dF A outer s H E).Hz b F):jt P w K mg base uV (k+1) f fd ps (GW K ps.length (u6 N F)):=DX hb hs Fn S (fun dF A outer s H E hr=>(ig dF A outer s H E hr).1)
theorem bp{g:List D->R D}{k j n:Nat}{p pos:Pos}{fs:ao->R (List D)}(C:Callee X.prog X.w X.K X.mg X.base k x n g)(hr:dH j X.A)(F4:k<=j)(hg:Gl X x)(ha:CI X (e ::es) fs)(hn:∀δ ds,fs δ= .ok ds->ds.length=n)(kL:(x==("__debug__":Str))=false:=by decide)(he:starEach (e ::es) X.env=(false,eval e X.env) ::starEach es X.env:=by rfl)(mT:(backTo pos (starEach es X.env)).any (·.1)=false:=by rfl):QD X (.Call (.Name x p) (e ::es) [] pos) (bt g fs):=⟨D9 C hr F4 hg ha.1 hn kL he mT⟩
theorem Ij{keys:List (Option Expr)}{values:List Expr}{ua:List (TE × TE)}{aw:List (Key × V)}(hu:X.A.units+1 < cLine)(h:I0 X w9 keys values ua)(yF:keys.all (·.isSome)=true)(hl:keys.length=values.length)(h0:keys≠[])(hc:∀σ H Q,Q (aw.map fun kv=>(kV kv.1,kv.2)) H->o_ ua σ H Q)(hlen:aw.length<=15)(he:QD X e fe)(hf:QD X f ff)(m:M2 X (.Dict keys values w9) "get" apos e f bf)(hd:PE X (.Dict keys values w9) (Fu ua)):QD X (.Call (.Attribute (.Dict keys values w9) "get" apos) [e,f] [] bf) (Fh aw fe ff):=⟨JI hu h yF hl h0 hc hlen he.1 hf.1 m hd⟩
end
end L2
end
section
namespace L2
open PySem PySem.Spec PyProof.Rows
theorem Bt{P:Program}{w:World}{K:W.Frag}{mg mb:Y_}{CX:CT}{k:Nat}{fa a:Addr}{fd:FuncData}{x:Str}{sp:Sp}{s₁:Shared}{vs:List Value}{ns:List Int}
 (KX:K.In s₁.heap) (U0:s₁.heap.Ns mainGlobals mg) (hb:s₁.heap.Ns builtinsNs mb) (X0:∀x:Str,x≠"__name__"->mb x=bootBuiltins x) (Sf:s₁.heap.NoLimit) (hg:s₁.gens=#[])
 (ha:s₁.heap.get? a=some {cls:= .type "list",data:= .seq vs.toArray}) (hi:IntsAre vs ns) (hl:ns.length<=sizeLine) (hr:dH k callerA)
 (F:∀base:Heap,K.In base->base.Ns mainGlobals mg->jt P w K mg base CX k fa fd [x] sp) (OL:∀(s:Shared) (u:Value),BindsTo s fd ⟨[u],[]⟩ [(x,u)])
 (Bm:∀H:Hp,NH H->xt K [] H a (ns.map V.int)->sp [.ref a] H (fun v _=>v= .bl true) fun _ _ _=>False)
 (XS:∀H e s',CX [] H s₁ (fun _ _ _=>False) e s'->False) :
 codeAny (model P w) callerA (.call (.ref fa) ⟨[.ref a],[]⟩) (fun r s'=>r= .ok (.ret (.bool true))/\OldK s₁.heap s'.heap/\s'.os=s₁.os/\AllBare s'.gens) s₁:=by
 have rv:=uU hi;have lenV:=hi.length;have core:∀H:Hp,NH H->xt K [] H a (ns.map V.int)->mX P w H s₁.heap->(∀b,H b≠none->b=a)->(H a≠none->K.lookup a=none)->
  codeAny (model P w) callerA (.call (.ref fa) ⟨[.ref a],[]⟩) (fun r s'=>r= .ok (.ret (.bool true))/\OldK s₁.heap s'.heap/\s'.os=s₁.os/\AllBare s'.gens) s₁:=by
  intro H hO hS hok hA hK;have Bn:∀{b:Addr} {o:Obj},s₁.heap.get? b=some o->H b=none->(vF s₁.heap H).get? b=some o:=fun e n=>EF e n
  have noA:∀{b:Addr} {o:Obj} {es:Array DictEntry} {ep:Nat},s₁.heap.get? b=some o->o.data= .dict es ep->H b=none:=fun {b o es ep} e d=>by
   cases q:H b with
   | none=>rfl
   | some u=>
     have e':b=a:=hA b (by rw[q];simp)
     subst e';rw[ha] at e;cases e;have d':Data.seq vs.toArray _=Data.dict es ep:=d;cases d'
  have nsK:∀{b:Addr} {m:Y_},s₁.heap.Ns b m->(vF s₁.heap H).Ns b m:=fun {b m} ⟨o,es,ep,e,d,r⟩=>⟨o,es,ep,Bn e (noA e d),d,r⟩
  have hKb:K.In (vF s₁.heap H):=fun b o e=>Bn (KX b o e) (by
   cases q:H b with
   | none=>rfl
   | some u=>
     have e':b=a:=hA b (by rw[q];simp)
     subst e';rw[hK (by rw[q];simp)] at e;cases e)
  have hM:Mod K mg (vF s₁.heap H):=⟨hKb,nsK U0,⟨mb,nsK hb,X0⟩,let⟨mc,h1,h2⟩:=Sf;⟨mc,nsK h1,h2⟩⟩
  have e0:zr P w K mg (vF s₁.heap H) callerA [] s₁ H:=⟨rfl,hM,fun b o e=>GG e,Nat.le_of_eq (By _ _),trivial,fun b hb=>absurd (show b∈([]:List Addr) from hb) (by simp),hok, .of_eq hg⟩
  refine codeAny_mono ((F _ hKb (nsK U0)).run callerA [] s₁ H ⟨[.ref a],[]⟩ [.ref a] [.ref a] _ _ hr e0 (OL s₁ (.ref a)) (.cons rfl .nil) (Bm H hO hS)) fun r s' h=>?_
  cases r with
  | error e=>exact(XS H e s' h).elim
  | ok fl=>
    cases fl with
    | next=>exact False.elim h
    | brk=>exact False.elim h
    | cont=>exact False.elim h
    | ret u=>
      obtain⟨v,H',os,bare,un,Sy,r',q⟩:=h;have q':v= .bl true:=q;subst q';obtain rfl:u=Value.bool true:=r';refine⟨rfl,OldK.of_keep fun b o e=>?_,os,bare⟩
      cases q:H b with
      | none=>exact un.keep b o e q (by intro z;exact absurd (show b∈([]:List Addr) from z) (by simp)) (by simp)
      | some u=>
        rcases hO b with z | ⟨ob,xs,z⟩
        .rw [q] at z;cases z
        .have z2:=un.frzs b ob _ z;obtain⟨e1,_⟩:=hok b _ z;obtain⟨e2,_⟩:=Sy b _ z2;rw[e] at e1;cases e1;exact e2
 cases hk:K.lookup a with
 | some o=>
   have e:=KX a o hk;rw[ha] at e;cases e;refine core (fun _=>none) (fun _=> .inl rfl) (.inr ⟨vs,_,hk,by rw[List.length_map];exact hl,rv⟩) (fun b u z=>by have z':(none:Option HO)=some u:=z;cases z') (fun b z=>absurd rfl z) fun z=>absurd rfl z
 | none=>
   refine core (fun b=>if b=a then some (.lP {cls:= .type "list",data:= .seq vs.toArray} (.lst (ns.map V.int))) else none) (fun b=>?_) (.inl ⟨by simp, .inr ⟨{cls:= .type "list",data:= .seq vs.toArray},if_pos rfl⟩⟩) (fun b u z=>?_) (fun b z=>?_) fun _=>hk
   .by_cases hb:b=a
    .exact .inr ⟨_,_,if_pos hb⟩
    .exact .inl (if_neg hb)
   .by_cases hb:b=a
    .have z':=(if_pos hb).symm.trans z;cases z';subst hb;exact⟨ha,by rw[List.length_map];exact hl,vs,_,rv,ha⟩
    .have z':=(if_neg hb).symm.trans z;cases z'
   .by_cases hb:b=a
    .exact hb
    .exact absurd (if_neg hb) z
theorem ints_rep{K:W.Frag}{B:List Addr}:∀ns:List Int,ay K B H (ns.map D.int) (ns.map V.int)
 | []=>ay.nil
 | n ::ns=>ay.cons (Rep.int.mpr rfl) (ints_rep ns)
theorem N2{l:PySem.W.OpenLaw}{n k:Nat}{q:Program}{loose:List Str}{XP:(Str->Option Value)->Heap->Prop}{YP:World->Heap->Prop}{d:DefRec}{K:Params->W.Frag}{x:Str}{g:List D->R D}
 (hn:l.most=some n) (Pm:n<=sizeLine) (RH:d.params.defaults=[]) (hr:dH k callerA) (hY:∀(w:World) (h:Heap),YP w h->(K w.params).In h)
 (F:∀(w:World) (mg:Y_) (fa:Addr) (h:Heap),(K w.params).In h->h.Ns mainGlobals mg->mg d.name=some (.ref fa)->
   ∃fd:FuncData,(∀(s:Shared) (u:Value),BindsTo s fd ⟨[u],[]⟩ [(x,u)])/\∀base:Heap,(K w.params).In base->base.Ns mainGlobals mg->jt l.prog w (K w.params) mg base uV k fa fd [x] (GW (K w.params) 1 g))
 (hg:∀ns:List Int,ns.length<=n->g [.lst (ns.map D.int)]= .ok (.bl true)):PySem.W.WalkO q loose XP YP l.row.toRowW d [] (fun f vs=>PySem.call f vs):=by
 refine Att.xA hn RH fun w s₀ s₁ mg mb fa o pm cd doc a vs ns G Y ho hd uN ON Ml hints hlen SJ=>?_
 have KX:=hY w _ Y;obtain⟨fd,hb,hF⟩:=F w mg fa _ KX G.T.g ON;refine Bt KX G.T.g G.T.b G.T.builtins G.T.nolimit SJ Ml hints (Nat.le_trans hlen Pm) hr hF hb (fun H hO hS=>?_) fun H e s' h=>h
 refine⟨rfl,[],[.lst (ns.map D.int)], .bl true,fun b hb=>(by cases hb),ay.cons (Rep.lst.mpr ⟨_,_,rfl,hS,ints_rep ns⟩) ay.nil,hg ns hlen,fun z H' _ r=>Rep.bl.mp r⟩
theorem dI{K:W.Frag}{h:Heap}{mg:Y_}{x:Str}{st:Stmt}{f:Addr}{oc:Value}{od an:Option Addr}{F3:Array (Option Value)}{kV doc pm dF ct:Value}(X:K.In h)(G:h.Ns mainGlobals mg)(a:PySem.W.nsIn K mainGlobals x=some (some (.ref f)))
 (l:K.lookup f=some ⟨oc,od, .func (PySem.W.fnOf x x (jb st) (aX st) (aC st) .none kV doc pm an dF ct),F3⟩) (c:PySem.W.codeIn K dF x=true) (k:PySem.W.keepIn K (.ref f)=true):Def K mg x st:=
 ⟨f,_,qR l c k,PySem.W.mg_of X G a⟩
theorem CZ{K:W.Frag}{h:Heap}{mg:Y_}(X:K.In h)(G:h.Ns mainGlobals mg){t:Tok}(a:PySem.W.nsIn K mainGlobals x=some (some (.str y t))):Glob K mg x (.str y):=
 ⟨_, .str y,PySem.W.mg_of X G a,⟨t,rfl⟩,fun _ _=>Rep.str.mpr rfl⟩
theorem lU{K:W.Frag}{h:Heap}{mg:Y_}(X:K.In h)(G:h.Ns mainGlobals mg){i:Int}{t:Tok}(a:PySem.W.nsIn K mainGlobals x=some (some (.int i t))):Glob K mg x (.int i):=
 ⟨_, .int i,PySem.W.mg_of X G a,⟨t,rfl⟩,fun _ _=>Rep.int.mpr rfl⟩
theorem qm{K:W.Frag}{B:List Addr}:∀ss:List Str,ay K B H (ss.map D.str) (ss.map V.str)
 | []=>ay.nil
 | n ::ns=>ay.cons (Rep.str.mpr rfl) (qm ns)
theorem xD{K:W.Frag}{h:Heap}{mg:Y_}(X:K.In h)(G:h.Ns mainGlobals mg){x:Str}{a:Addr}{o:Obj}{its:Array Value}{n:Nat}(ss:List Str)(e:PySem.W.nsIn K mainGlobals x=some (some (.ref a)))(l:K.lookup a=some o)(hc:o.cls= .type "tuple")(hd:o.data= .seq its n)
 (hz:its.size<=sizeLine) (r:Vals (ss.map V.str) its.toList):Glob K mg x (.tup (ss.map D.str)):=
 ⟨_, .ref a,PySem.W.mg_of X G e,rfl,fun B H=>Rep.tup.mpr ⟨a,_,rfl, .inr ⟨o,its,n,l,hc,hd,hz,r⟩,qm ss⟩⟩
end L2
end
section
namespace L2
open PySem PySem.Spec PyProof.Rows
theorem sv{t:FT}{body:FS}:∀(ds:List D) (n:Nat) (P:Nat->ao->Prop) {δ:ao},P n δ->
 (∀i d δ,ds[i]? =some d->P (n+i) δ->∃dm,((t d δ).bind body)= .ok (.nx dm)/\P (n+i+1) dm)->∃dm,eY t body ds δ= .ok (.nx dm)/\P (n+ds.length) dm
 | [],n,P,δ,h0,_=>⟨δ,rfl,h0⟩
 | d ::ds,n,P,δ,h0,hs=>by
   obtain⟨δ1,e1,p1⟩:=hs 0 d δ rfl h0;obtain⟨h_,e2,p2⟩:=sv ds (n+1) P p1 (fun i d' dm hi hp=>by
    have:=hs (i+1) d' dm (by simpa using hi) (by rw[show n+(i+1)=n+1+i by omega];exact hp)
    rw[show n+(i+1)+1=n+1+i+1 by omega] at this
    exact this)
   refine⟨h_,?_,by rw[List.length_cons,show n+(ds.length+1)=n+1+ds.length by omega];exact p2⟩
   obtain⟨MO,h1,h2⟩:=R.af e1;show(t d δ).bind (fun δ1=>(body δ1).bind fun o=>match o with | .nx h_=>eY t body ds h_ | .rt r=> .ok (.rt r))=_
   rw[h1,R.aG,h2,R.aG];exact e2
theorem uX{t:FT}{body:FS}{ds:List D}(P:Nat->ao->Prop){δ:ao}(h0:P 0 δ)
 (hs:∀i d δ,ds[i]? =some d->P i δ->∃dm,((t d δ).bind body)= .ok (.nx dm)/\P (i+1) dm):∃dm,eY t body ds δ= .ok (.nx dm)/\P ds.length dm:=by
 have:=sv (t:=t) (body:=body) ds 0 P h0 (fun i d δ hi hp=>by simpa using hs i d δ hi (by simpa using hp))
 simpa using this
theorem K5{α:Type}{xs:List α}{i:Int}(h0:0<=i)(h:i.toNat < xs.length):wY xs i=some xs[i.toNat]:=by
 unfold wY Fe;rw[if_pos h0,if_pos (by omega)]
 simp [h]
theorem strs_map:∀ss:List Str,strs? (ss.map D.str)=some ss
 | []=>rfl
 | s ::ss=>by show(strs? (ss.map D.str)).map (s ::·)=_;rw [strs_map ss];rfl
theorem om{a b:Str}(h:a.cps.toList=b.cps.toList):a=b:=by
 obtain⟨a⟩:=a;obtain⟨b⟩:=b;congr 1;exact Array.toList_inj.mp h
theorem jd(a b:Str):(a++b).cps.toList=a.cps.toList++b.cps.toList:=by
 show(a.cps++b.cps).toList=_;simp
theorem BS(a b c:Str):a++b++c=a++(b++c):=om (by rw[jd,jd,jd,jd,List.append_assoc])
theorem empty_app(a:Str):Str.empty++a=a:=om (by rw[jd];rfl)
theorem aF{F G:FS}{δ δ1:ao}{r:R Out}(h:F δ= .ok (.nx δ1))(h2:G δ1=r):bW F G δ=r:=by unfold bW;rw [h,R.aG];exact h2
theorem aK{f:ao->R (List D)}{δ:ao}{ds:List D}(h:f δ= .ok ds):eNew f δ= .ok (.lst ds):=by unfold eNew;rw [h];rfl
theorem jW{c:ao->R Bool}{F G:FS}{δ:ao}{r:R Out}(h:c δ= .ok true)(h2:F δ=r):qK c F G δ=r:=by unfold qK;rw [h,R.aG,if_pos rfl];exact h2
theorem jh{c:ao->R Bool}{F G:FS}{δ:ao}{r:R Out}(h:c δ= .ok false)(h2:G δ=r):qK c F G δ=r:=by unfold qK;rw [h,R.aG,if_neg (by decide)];exact h2
theorem se{it:ao->R (List D)}{F:FS}{δ:ao}{ds:List D}{r:R Out}(h:it δ= .ok ds)(h2:eY t F ds δ=r):uI it t F δ=r:=by unfold uI;rw [h,R.aG];exact h2
theorem bU{f:FD}{δ:ao}{d:D}(h:f δ= .ok d):ee f δ= .ok (.rt d):=by unfold ee;rw [h];rfl
theorem d5{N:List Str}{F:FS}{ds:List D}{d:D}(h:F (dv N ds)= .ok (.rt d)):u6 N F ds= .ok d:=by unfold u6;rw [h];rfl
theorem b6{α:Type}{p:Prop} [Decidable p](r:R α)(h:p):R.aU (decide p) r=r:=by rw[decide_eq_true h];rfl
theorem bR{i:Nat}{f:FD}{δ:ao}{d:D}(h:f δ= .ok d)(hi:i < δ.length):dA i f δ= .ok (.nx (δ.set i (.val d))):=by unfold dA;rw [h,R.aG,b6 _ hi]
theorem wQ{i:Nat}{f:ao->R (List D)}{δ:ao}{ds:List D}(h:f δ= .ok ds)(hi:i < δ.length):y7 i f δ= .ok (.nx (δ.set i (.bld ds))):=by unfold y7;rw [h,R.aG,b6 _ hi]
theorem A7{i:Nat}{f:FD}{δ:ao}{d:D}{ds:List D}(h:f δ= .ok d)(hb:δ[i]? =some (.bld ds))(hl:ds.length < sizeLine):xq i f δ= .ok (.nx (δ.set i (.bld (ds++[d])))):=by unfold xq su;rw [h,R.aG,hb];show R.aU _ _=_;rw [b6 _ hl]
theorem gQ{it:ao->R (List D)}{c:ao->R Bool}{own:List Str}{kp:List Nat}{δ:ao}{ds ys:List D}(h1:it δ= .ok ds)(h2:ds.length<=sizeLine)(h3:qF t c f (uu own kp δ) ds= .ok ys):kh it t c f own kp δ= .ok ys:=by unfold kh;rw [h1,R.aG,b6 _ h2,h3]
theorem LG{ds:List D}{i:Int}{d:D}(h:wY ds i=some d):eM (.lst ds) (.int i)= .ok d:=by unfold eM;simp only[h]
theorem KQ{x:Str}{i:Int}{c:Nat}(hz:x.length<=sizeLine)(h:wY x.cps.toList i=some c):eM (.str x) (.int i)= .ok (.str ⟨#[c]⟩):=by unfold eM;simp only[h,b6 _ hz]
end L2
end
section
namespace L2
open PySem PySem.Spec PyProof.Rows
theorem aH{g:D->D->R D}{fa fb:FD}{δ:ao}{a b:D}{r:R D}(ha:fa δ= .ok a)(hb:fb δ= .ok b)(h:g a b=r):e2 g fa fb δ=r:=by unfold e2;rw [ha,R.aG,hb,R.aG];exact h
theorem ck{g:D->D->R D}{fa fb:FD}{δ:ao}{a b:D}{k:Bool}(ha:fa δ= .ok a)(hb:fb δ= .ok b)(h:g a b= .ok (.bl k)):b2 g fa fb δ= .ok k:=by unfold b2;rw [aH ha hb h];rfl
theorem au{f:FD}{g:ao->R (List D)}{δ:ao}{d:D}{ds:List D}(h:f δ= .ok d)(h2:g δ= .ok ds):ai f g δ= .ok (d ::ds):=by unfold ai;rw [h,R.aG,h2];rfl
theorem aN{g:List D->R D}{fs:ao->R (List D)}{δ:ao}{ds:List D}{r:R D}(h:fs δ= .ok ds)(h2:g ds=r):bt g fs δ=r:=by unfold bt;rw [h,R.aG];exact h2
theorem Iy{g:ao->R (List D)}{δ:ao}{ds:List D}(h:g δ= .ok ds)(hl:ds.length<=sizeLine):BV g δ= .ok (.tup ds):=by unfold BV;rw [h,R.aG,b6 _ hl]
theorem aW{g:ao->R (List D)}{δ:ao}{ds:List D}(h:g δ= .ok ds)(hl:ds.length<=sizeLine):bN g δ= .ok ds:=by unfold bN;rw [h,R.aG,b6 _ hl]
theorem ma{g:D->List D->R D}{f:FD}{fs:ao->R (List D)}{δ:ao}{ds:List D}{r:R D}(h:f δ= .ok (.str x))(h2:fs δ= .ok ds)(h3:g (.str x) ds=r):vj "str" g f fs δ=r:=by
 unfold vj;rw [h,R.aG,h2,R.aG];exact h3
theorem o4{f:FD}{fl fh:FO}{δ:ao}{d:D}{lo hi:Option Int}{r:R D}(h:f δ= .ok d)(h1:fl δ= .ok lo)(h2:fh δ= .ok hi)(h3:MG d lo hi=r):Bo f fl fh δ=r:=by unfold Bo;rw [h,R.aG,h1,R.aG,h2,R.aG];exact h3
theorem j7{f:FD}{δ:ao}{i:Int}(h:f δ= .ok (.int i)):lW f δ= .ok (some i):=by unfold lW;rw [h];rfl
theorem vV{a b:Str}(h:a.length+b.length<=sizeLine):eP (.str a) (.str b)= .ok (.str (a++b)):=by unfold eP;exact b6 _ h
theorem ox{a b:List D}(h:a.length+b.length<=sizeLine):eP (.lst a) (.lst b)= .ok (.lst (a++b)):=by unfold eP;exact b6 _ h
theorem tH{a b:Int}(h:0 < b):il (.int a) (.int b)= .ok (.int (a % b)):=by unfold il Gn;exact b6 _ h
theorem AS{a b:Int}(h:0 < b)(h2:b < 1073741824):ib (.int a) (.int b)= .ok (.int (a / b)):=by unfold ib Gn;exact b6 _ ⟨h,h2⟩
theorem HV{f:FD}{δ:ao}{n:Nat}(h:f δ= .ok (.int n))(hn:n < 1000000):nG f δ= .ok (rN 0 n):=by
 unfold nG;rw [h,R.aG];show R.aU (decide (-(2 ^ 62)<=(n:Int)/\(n:Int) < 2 ^ 62)) _=_;rw[b6 _ ⟨by omega,by omega⟩,Int.toNat_natCast]
theorem gy{f:FD}{δ:ao}{ds:List D}(h:f δ= .ok (.lst ds)):dW f δ= .ok ds:=by unfold dW;rw [h];rfl
theorem Kx{f:FD}{δ:ao}{ds:List D}(h:f δ= .ok (.tup ds)):dW f δ= .ok ds:=by unfold dW;rw [h];rfl
theorem DQ{f:FD}{δ:ao}{b:Bool}(h:f δ= .ok (.bl b)):MC f δ= .ok b:=by unfold MC;rw [h];rfl
theorem jo{f:FD}{g:ao->R (List Str)}{δ:ao}{ss:List Str}(h:f δ= .ok (.str x))(h2:g δ= .ok ss):bV f g δ= .ok (x ::ss):=by unfold bV;rw [h,R.aG];show(g δ).bind _=_;rw [h2];rfl
theorem yB{f:FD}{δ:ao}{x:Str}(h:f δ= .ok (.str x))(hl:x.length<=sizeLine):l6 f δ= .ok (.str x):=by unfold l6;rw [h,R.aG];unfold Ih;exact b6 _ hl
theorem sk{f:FD}{δ:ao}{i:Int}(h:f δ= .ok (.int i))(hl:i.natAbs.log2 < 1920):l6 f δ= .ok (.str (toString i)):=by unfold l6;rw [h,R.aG];unfold Ih;exact b6 _ hl
theorem px{g:ao->R (List Str)}{δ:ao}{ss:List Str}(h:g δ= .ok ss)(hl:(ss.foldl (·++·) Str.empty).length<=sizeLine):cW g δ= .ok (.str (ss.foldl (·++·) Str.empty)):=by unfold cW;rw [h,R.aG,b6 _ hl]
theorem Ni(ds:List D):ph [.lst ds]= .ok (.int ds.length):=rfl
theorem wX{i:Int}(h:i.natAbs.log2 < 1920):cStr [.int i]= .ok (.str (toString i)):=by unfold cStr;exact b6 _ h
end L2
end
section
namespace L3
open PySem PySem.Spec PyProof.Rows L2
inductive V3 where
 | d (x:D) | loc (k:Nat) | lst (vs:List V3) | tup (vs:List V3) | fn (x:Str)
inductive SO where
 | lst (ds:List D) | dct (aw:List (Key × D)) | ins (c:Nat) (fs:List (Str × V3)) | lP | exc (c:Nat)
abbrev aM:=List SO
inductive R3 (α:Type) where
 | ok (a:α) (S:aM) | ex (c:Nat) (S:aM) | no
def R3.bind{α β:Type}:R3 α->(α->aM->R3 β)->R3 β
 | .ok a S,f=>f a S
 | .ex c S,_=> .ex c S
 | .no,_=> .no
theorem R3.af{α β:Type}{r:R3 α}{f:α->aM->R3 β}{b:β}{S':aM}(h:r.bind f= .ok b S'):∃a S,r= .ok a S/\f a S= .ok b S':=by
 cases r with
 | ok a S=>exact⟨a,S,rfl,h⟩
 | ex c S=>cases h
 | no=>cases h
@[simp] theorem R3.aG{α β:Type}(a:α)(S:aM)(f:α->aM->R3 β):(R3.ok a S).bind f=f a S:=rfl
def R3.aU{α:Type}(c:Bool)(r:R3 α):R3 α:=if c then r else .no
theorem R3.aL{α:Type}{c:Bool}{r:R3 α}{a:α}{S:aM}(h:R3.aU c r= .ok a S):c=true/\r= .ok a S:=by
 cases c with
 | true=>exact⟨rfl,h⟩
 | false=>cases h
def R3.of{α:Type}(r:R α)(S:aM):R3 α:=match r with | .ok a=> .ok a S | _=> .no
theorem R3.of_ok{α:Type}{r:R α}{S S':aM}{a:α}(h:R3.of r S= .ok a S'):r= .ok a/\S'=S:=by
 cases r with
 | ok b=>cases h;exact⟨rfl,rfl⟩
 | ex c=>cases h
 | no=>cases h
structure P3 where
 r:List Addr
 z:List Addr
 f:List Addr
def P3.b(ρ:P3):List Addr:=ρ.r.filter (fun a=>!ρ.f.contains a)++ρ.z
theorem P3.dY{ρ:P3}{a:Addr}:a∈ρ.b↔(a∈ρ.r/\a ∉ ρ.f)\/a∈ρ.z:=by
 unfold P3.b;rw[List.mem_append,List.mem_filter];simp
def P3.push(ρ:P3)(a:Addr):P3:=⟨ρ.r++[a],ρ.z,ρ.f⟩
def P3.cut(ρ:P3)(n:Nat):P3:=⟨ρ.r.take n,ρ.z,ρ.f⟩
mutual
def aV(K:W.Frag)(ρ:P3)(H:Hp):V3->V->Prop
 | .d x,v=>Rep K ρ.b H x v
 | .loc k,v=>∃a,ρ.r[k]? =some a/\v= .ref a
 | .lst vs,v=>∃a xs,v= .ref a/\xt K ρ.b H a xs/\az K ρ H vs xs
 | .tup vs,v=>∃a xs,v= .ref a/\AE K ρ.b H a xs/\az K ρ H vs xs
 | .fn x,v=>∃a,PySem.W.nsIn K mainGlobals x=some (some (.ref a))/\v= .ref a
def az(K:W.Frag)(ρ:P3)(H:Hp):List V3->List V->Prop
 | [],xs=>xs=[]
 | d ::ds,xs=>∃x r,xs=x ::r/\aV K ρ H d x/\az K ρ H ds r
end
structure Pre (ρ:P3) (H:Hp) (bA:P3) (H':Hp):Prop where
 br:dy ρ.b H bA.b H'
 zz:bA.z=ρ.z
 zs:∀(b:Addr) (o:HO),b∈ρ.z->H b=some o->H' b=some o
 ext:∀(k:Nat) (a:Addr),ρ.r[k]? =some a->bA.r[k]? =some a
theorem Pre.refl(ρ:P3)(H:Hp):Pre ρ H ρ H:=⟨dy.refl ρ.b H,rfl,fun _ _ _ h=>h,fun _ _ h=>h⟩
theorem Pre.trans(a:Pre ρ H bA H')(b:Pre bA H' F_ pK):Pre ρ H F_ pK:=⟨a.br.trans b.br,b.zz.trans a.zz,fun c o hc h=>b.zs c o (by rw[a.zz];exact hc) (a.zs c o hc h),fun k x h=>b.ext k x (a.ext k x h)⟩
theorem Pre.same(s:aO H H'):Pre ρ H ρ H':=⟨dy.same s,rfl,fun b o _ h=>s b o h,fun _ _ h=>h⟩
theorem AE.br{K:W.Frag}{B B':List Addr}(p:dy B H B' H'){a:Addr}{xs:List V}(l:AE K B H a xs):AE K B' H' a xs:=
 l.elim (fun z=> .inl ⟨(p.rd z.2 z.1).2,(p.rd z.2 z.1).1⟩) .inr
mutual
theorem aV.pre{K:W.Frag}(p:Pre ρ H bA H'):∀{d:V3} {v:V},aV K ρ H d v->aV K bA H' d v
 | .d x,v,h=>by unfold aV at h ⊢;exact h.br p.br
 | .loc k,v,h=>by unfold aV at h ⊢;obtain⟨a,h1,h2⟩:=h;exact⟨a,p.ext k a h1,h2⟩
 | .lst vs,v,h=>by unfold aV at h ⊢;obtain⟨a,xs,e,l,r⟩:=h;exact⟨a,xs,e,l.br p.br,az.pre p r⟩
 | .tup vs,v,h=>by unfold aV at h ⊢;obtain⟨a,xs,e,l,r⟩:=h;exact⟨a,xs,e,AE.br p.br l,az.pre p r⟩
 | .fn x,v,h=>by unfold aV at h ⊢;exact h
theorem az.pre{K:W.Frag}(p:Pre ρ H bA H'):∀{ds:List V3} {xs:List V},az K ρ H ds xs->az K bA H' ds xs
 | [],_,h=>by unfold az at h ⊢;exact h
 | d ::ds,xs,h=>by
   unfold az at h ⊢;obtain⟨x,r,e,h1,h2⟩:=h;exact⟨x,r,e,aV.pre p h1,az.pre p h2⟩
end
structure PW (ρ:P3) (H:Hp) (bA:P3) (H':Hp):Prop where
 br:dy ρ.b H bA.b H'
 ext:∀(k:Nat) (a:Addr),ρ.r[k]? =some a->bA.r[k]? =some a
theorem Pre.pw(p:Pre ρ H bA H'):PW ρ H bA H':=⟨p.br,p.ext⟩
theorem PW.trans(a:PW ρ H bA H')(b:PW bA H' F_ pK):PW ρ H F_ pK:=⟨a.br.trans b.br,fun k x h=>b.ext k x (a.ext k x h)⟩
mutual
theorem aV.pw{K:W.Frag}(p:PW ρ H bA H'):∀{d:V3} {v:V},aV K ρ H d v->aV K bA H' d v
 | .d x,v,h=>by unfold aV at h ⊢;exact h.br p.br
 | .loc k,v,h=>by unfold aV at h ⊢;obtain⟨a,h1,h2⟩:=h;exact⟨a,p.ext k a h1,h2⟩
 | .lst vs,v,h=>by unfold aV at h ⊢;obtain⟨a,xs,e,l,r⟩:=h;exact⟨a,xs,e,l.br p.br,az.pw p r⟩
 | .tup vs,v,h=>by unfold aV at h ⊢;obtain⟨a,xs,e,l,r⟩:=h;exact⟨a,xs,e,AE.br p.br l,az.pw p r⟩
 | .fn x,v,h=>by unfold aV at h ⊢;exact h
theorem az.pw{K:W.Frag}(p:PW ρ H bA H'):∀{ds:List V3} {xs:List V},az K ρ H ds xs->az K bA H' ds xs
 | [],_,h=>by unfold az at h ⊢;exact h
 | d ::ds,xs,h=>by
   unfold az at h ⊢;obtain⟨x,r,e,h1,h2⟩:=h;exact⟨x,r,e,aV.pw p h1,az.pw p h2⟩
end
theorem az.nil{K:W.Frag}:az K ρ H [] []:=by unfold az;rfl
theorem az.cons{K:W.Frag}{d:V3}{ds:List V3}{x:V}{xs:List V}(h:aV K ρ H d x)(t:az K ρ H ds xs):az K ρ H (d ::ds) (x ::xs):=by
 unfold az;exact⟨x,xs,rfl,h,t⟩
theorem az.b_{K:W.Frag}{d:V3}{ds:List V3}{xs:List V}(h:az K ρ H (d ::ds) xs):∃x r,xs=x ::r/\aV K ρ H d x/\az K ρ H ds r:=by
 unfold az at h;exact h
theorem az.length{K:W.Frag}:∀{ds:List V3} {xs:List V},az K ρ H ds xs->ds.length=xs.length
 | [],_,h=>by unfold az at h;rw [h];rfl
 | d ::ds,xs,h=>by
   obtain⟨x,r,rfl,_,h2⟩:=h.b_;simp [h2.length]
theorem az.of{K:W.Frag}{ρ:P3}:∀{ds:List D} {xs:List V},ay K ρ.b H ds xs->az K ρ H (ds.map .d) xs
 | [],_,h=>by unfold ay at h;subst h;exact az.nil
 | d ::ds,xs,h=>by
   obtain⟨x,r,rfl,h1,h2⟩:=h.b_;exact az.cons (by unfold aV;exact h1) (az.of h2)
theorem az.to{K:W.Frag}{ρ:P3}:∀{ds:List D} {xs:List V},az K ρ H (ds.map .d) xs->ay K ρ.b H ds xs
 | [],_,h=>by unfold az at h;subst h;exact ay.nil
 | d ::ds,xs,h=>by
   obtain⟨x,r,rfl,h1,h2⟩:=az.b_ h;unfold aV at h1;exact ay.cons h1 (az.to h2)
def isExc(C b:Addr):Heap->Prop:=fun h=>∃o,h.get? b=some o/\o.cls= .ref C
def CK(K:W.Frag)(cl:Za)(ρ:P3)(H:Hp):SO->Option HO->Prop
 | .lst ds,h=>∃xs,h=some (.lst xs)/\ay K ρ.b H ds xs
 | .dct aw,h=>∃ys,h=some (.dK ys)/\ys.map (·.1)=aw.map (·.1)/\ay K ρ.b H (aw.map (·.2)) (ys.map (·.2))
 | .ins c fs,h=>∃dx ys,h=some (.ins (cl c) dx ys)/\ys.map (·.1)=fs.map (·.1)/\az K ρ H (fs.map (·.2)) (ys.map (·.2))
 | .lP,h=>∃u,h=some u
 | .exc c,h=>∃b,h=some (.ext (isExc (cl c) b))
theorem CK.pre{K:W.Frag}{cl:Za}(p:Pre ρ H bA H'){o:SO}{h:Option HO}(r:CK K cl ρ H o h):CK K cl bA H' o h:=by
 cases o with
 | lst ds=>obtain⟨xs,e,q⟩:=r;exact⟨xs,e,q.br p.br⟩
 | dct aw=>obtain⟨ys,e,e2,q⟩:=r;exact⟨ys,e,e2,q.br p.br⟩
 | ins c fs=>obtain⟨dx,ys,e,e2,q⟩:=r;exact⟨dx,ys,e,e2,q.pre p⟩
 | lP=>exact r
 | exc c=>exact r
theorem CK.pw{K:W.Frag}{cl:Za}(p:PW ρ H bA H'){o:SO}{h:Option HO}(r:CK K cl ρ H o h):CK K cl bA H' o h:=by
 cases o with
 | lst ds=>obtain⟨xs,e,q⟩:=r;exact⟨xs,e,q.br p.br⟩
 | dct aw=>obtain⟨ys,e,e2,q⟩:=r;exact⟨ys,e,e2,q.br p.br⟩
 | ins c fs=>obtain⟨dx,ys,e,e2,q⟩:=r;exact⟨dx,ys,e,e2,q.pw p⟩
 | lP=>exact r
 | exc c=>exact r
theorem CK.some{K:W.Frag}{cl:Za}{o:SO}{h:Option HO}(r:CK K cl ρ H o h):∃u,h=some u:=by
 cases o with
 | lst ds=>obtain⟨xs,e,q⟩:=r;exact⟨_,e⟩
 | dct aw=>obtain⟨ys,e,e2,q⟩:=r;exact⟨_,e⟩
 | ins c fs=>obtain⟨dx,ys,e,e2,q⟩:=r;exact⟨_,e⟩
 | lP=>exact r
 | exc c=>obtain⟨b,e⟩:=r;exact⟨_,e⟩
structure SW (K:W.Frag) (cl:Za) (ρ:P3) (H:Hp) (S:aM):Prop where
 len:ρ.r.length=S.length
 nd:∀(i j:Nat) (a:Addr),ρ.r[i]? =some a->ρ.r[j]? =some a->i=j
 ob:∀(k:Nat) (a:Addr) (o:SO),ρ.r[k]? =some a->S[k]? =some o->CK K cl ρ H o (H a)
 zb:∀b∈ρ.z,(∃xs,H b=some (.lst xs))/\b ∉ ρ.r
 fz:∀(k:Nat) (a:Addr),ρ.r[k]? =some a->S[k]?≠some .lP->a ∉ ρ.f
 ff:∀a∈ρ.f,∃o,H a=some o
 fi:∀(k:Nat) (a:Addr),ρ.r[k]? =some a->S[k]? =some .lP->a∈ρ.f
theorem SW.rs{K:W.Frag}{cl:Za}{ρ:P3}{H:Hp}{S:aM}(w:SW K cl ρ H S):∀a∈ρ.r,∃o,H a=some o:=fun a z=>by
 obtain⟨k,hk⟩:=List.getElem?_of_mem z;have hl:=(List.getElem?_eq_some_iff.mp hk).1;exact(w.ob k a _ hk (List.getElem?_eq_getElem (by rw[<-w.len];exact hl))).some
theorem SW.bs{K:W.Frag}{cl:Za}{ρ:P3}{H:Hp}{S:aM}(w:SW K cl ρ H S):∀a∈ρ.b,∃o,H a=some o:=fun a ha=>by
 rcases P3.dY.mp ha with z | z
 .exact w.rs a z.1
 .obtain⟨xs,h⟩:=(w.zb a z).1;exact⟨_,h⟩
theorem SW.same{K:W.Frag}{cl:Za}{S:aM}(w:SW K cl ρ H S)(s:aO H H'):SW K cl ρ H' S:=
 ⟨w.len,w.nd,fun k a o h1 h2=>by
   have r:=w.ob k a o h1 h2;obtain⟨u,hu⟩:=r.some;rw[s a u hu,<-hu];exact r.pre (Pre.same s),fun b hb=>let⟨⟨o,ho⟩,n⟩:=w.zb b hb;⟨⟨o,s b _ ho⟩,n⟩,w.fz,fun a ha=>let⟨o,ho⟩:=w.ff a ha;⟨o,s a o ho⟩,w.fi⟩
theorem P3.mem_push{ρ:P3}{a b:Addr}(h:b∈(ρ.push a).b):b∈ρ.b\/b=a:=by
 rcases P3.dY.mp h with⟨z,n⟩ | z
 .rcases List.mem_append.mp z with y | y
  .exact .inl (P3.dY.mpr (.inl ⟨y,n⟩))
  .exact .inr (List.mem_singleton.mp y)
 .exact .inl (P3.dY.mpr (.inr z))
theorem SW.new{K:W.Frag}{cl:Za}{ρ:P3}{H H':Hp}{S:aM}(w:SW K cl ρ H S){a:Addr}{o:SO}(s:aO H H')(n:H a=none)(r:CK K cl (ρ.push a) H' o (H' a))(rV:o≠SO.lP:=by intro h;cases h) :
 SW K cl (ρ.push a) H' (S++[o])/\Pre ρ H (ρ.push a) H':=by
 have na:a ∉ ρ.b:=fun ha=>by obtain⟨o,ho⟩:=w.bs a ha;rw [n] at ho;cases ho
 have nr:a ∉ ρ.r:=fun ha=>by obtain⟨o,ho⟩:=w.rs a ha;rw [n] at ho;cases ho
 have nf:a ∉ ρ.f:=fun ha=>by obtain⟨o,ho⟩:=w.ff a ha;rw [n] at ho;cases ho
 have p:Pre ρ H (ρ.push a) H':=⟨fun b u e nb=>⟨s b u e,fun hb=>by
  rcases P3.mem_push hb with z | z
  .exact nb z
  .subst z;rw [n] at e;cases e⟩,rfl,fun b o _ h=>s b o h,fun k x hx=>by
   show(ρ.r++[a])[k]? =_;rw[List.getElem?_append_left (List.getElem?_eq_some_iff.mp hx).1];exact hx⟩
 have last:∀(i:Nat) (b:Addr),(ρ.push a).r[i]? =some b->(i < ρ.r.length/\ρ.r[i]? =some b)\/(i=ρ.r.length/\b=a):=fun i b h=>by
  have h:(ρ.r++[a])[i]? =some b:=h;by_cases q:i < ρ.r.length
  .rw [List.getElem?_append_left q] at h;exact .inl ⟨q,h⟩
  .rw [List.getElem?_append_right (by omega)] at h
   have h0:i - ρ.r.length=0:=by
    have:=(List.getElem?_eq_some_iff.mp h).1;simp at this;omega
   rw[h0] at h;cases h;exact .inr ⟨by omega,rfl⟩
 refine⟨⟨by show(ρ.r++[a]).length=_;rw [List.length_append,List.length_append,w.len];rfl,fun i j b hi hj=>?_,fun k b u hk hu=>?_,fun b hb=>?_,fun k b hk hu=>?_,fun b hb=>?_,fun k b hk hu=>?_⟩,p⟩
 .rcases last i b hi with⟨q1,q2⟩ | ⟨q1,rfl⟩
  .rcases last j b hj with⟨z1,z2⟩ | ⟨z1,rfl⟩
   .exact w.nd i j b q2 z2
   .exact absurd (List.mem_of_getElem? q2) nr
  .rcases last j b hj with⟨z1,z2⟩ | ⟨z1,z3⟩
   .exact absurd (List.mem_of_getElem? z2) nr
   .omega
 .rcases last k b hk with⟨q1,q2⟩ | ⟨q1,rfl⟩
  .rw [List.getElem?_append_left (by rw[<-w.len];exact q1)] at hu
   have r0:=w.ob k b u q2 hu;obtain⟨x,hx⟩:=r0.some;rw[s b x hx,<-hx];exact r0.pre p
  .rw [List.getElem?_append_right (by rw[<-w.len];omega),q1,w.len,Nat.sub_self] at hu
   cases hu;exact r
 .obtain⟨⟨o,ho⟩,nb⟩:=w.zb b hb;refine⟨⟨o,s b _ ho⟩,fun h=>?_⟩
  rcases List.mem_append.mp h with y | y
  .exact nb y
  .rw [List.mem_singleton] at y;subst y;rw [n] at ho;cases ho
 .rcases last k b hk with⟨q1,q2⟩ | ⟨q1,rfl⟩
  .rw [List.getElem?_append_left (by rw[<-w.len];exact q1)] at hu
   exact w.fz k b q2 hu
  .exact nf
 .obtain⟨o,ho⟩:=w.ff b hb;exact⟨o,s b o ho⟩
 .rcases last k b hk with⟨q1,q2⟩ | ⟨q1,rfl⟩
  .rw [List.getElem?_append_left (by rw[<-w.len];exact q1)] at hu
   exact w.fi k b q2 hu
  .rw [List.getElem?_append_right (by rw[<-w.len];omega),q1,w.len,Nat.sub_self] at hu
   cases hu;exact absurd rfl rV
theorem SW.put{K:W.Frag}{cl:Za}{ρ:P3}{S:aM}(w:SW K cl ρ H S){k:Nat}{a:Addr}{o:SO}{u:HO}(hk:ρ.r[k]? =some a)(hf:a ∉ ρ.f)(r:CK K cl ρ H o (some u))(rV:o≠SO.lP:=by intro h;cases h) :
 SW K cl ρ (upd H a u) (S.set k o)/\Pre ρ H ρ (upd H a u):=by
 have ha:a∈ρ.r:=List.mem_of_getElem? hk;have hb:a∈ρ.b:=P3.dY.mpr (.inl ⟨ha,hf⟩);have nz:∀b∈ρ.z,b≠a:=fun b hb z=>(w.zb b hb).2 (by rw[z];exact ha)
 have p:Pre ρ H ρ (upd H a u):=⟨fun b x e nb=>⟨by rw[a_ (fun(z:b=a)=>nb (by rw[z];exact hb))];exact e,nb⟩,rfl,fun b o hb h=>by rw[a_ (nz b hb)];exact h,fun _ _ h=>h⟩
 have hl:k < S.length:=by rw[<-w.len];exact(List.getElem?_eq_some_iff.mp hk).1
 refine⟨⟨by rw[List.length_set];exact w.len,w.nd,fun j b x hj hx=>?_,fun b hb=>?_,fun j b hj hx=>?_,fun b hb=>?_,fun j b hj hx=>?_⟩,p⟩
 .by_cases q:k=j
  .subst q;rw[hk] at hj;cases hj;rw[List.getElem?_set_self hl] at hx;cases hx;rw[aY];exact r.pre p
  .rw [List.getElem?_set_ne q] at hx;have ne:b≠a:=fun z=>by subst z;exact q (w.nd k j b hk hj)
   rw[a_ ne];exact(w.ob j b x hj hx).pre p
 .obtain⟨⟨o,ho⟩,nb⟩:=w.zb b hb;exact⟨⟨o,by rw[a_ (nz b hb)];exact ho⟩,nb⟩
 .by_cases q:k=j
  .subst q;rw[hk] at hj;cases hj;exact hf
  .rw [List.getElem?_set_ne q] at hx;exact w.fz j b hj hx
 .obtain⟨o,ho⟩:=w.ff b hb;exact⟨o,by rw[a_ (fun z=>hf (by rw[<-z];exact hb))];exact ho⟩
 .by_cases q:k=j
  .subst q;rw[List.getElem?_set_self hl] at hx;cases hx;exact absurd rfl rV
  .rw [List.getElem?_set_ne q] at hx;exact w.fi j b hj hx
mutual
def xU:D->Bool
 | .lst _=>false
 | .dct _ _=>false
 | .tup ds=>yn ds
 | _=>true
def yn:List D->Bool
 | []=>true
 | d ::ds=>xU d && yn ds
end
mutual
theorem Rep.x8{K:W.Frag}{B:List Addr}(hB:∀b∈B,∀xs,¬Rd H b (.tup xs)):∀{d:D} {v:V},xU d=true->Rep K [] H d v->Rep K B H d v
 | .cD,v,_,r=>Rep.cD.mpr (Rep.cD.mp r)
 | .bl _,v,_,r=>Rep.bl.mpr (Rep.bl.mp r)
 | .int _,v,_,r=>Rep.int.mpr (Rep.int.mp r)
 | .str _,v,_,r=>Rep.str.mpr (Rep.str.mp r)
 | .lst _,v,h,_=>by unfold xU at h;cases h
 | .dct _ _,v,h,_=>by unfold xU at h;cases h
 | .tup ds,v,h,r=>by
   unfold xU at h;obtain⟨a,xs,rfl,l,rs⟩:=Rep.tup.mp r;exact Rep.tup.mpr ⟨a,xs,rfl,l.elim (fun z=> .inl ⟨fun hb=>hB a hb xs z.2,z.2⟩) .inr,ay.x8 hB h rs⟩
theorem ay.x8{K:W.Frag}{B:List Addr}(hB:∀b∈B,∀xs,¬Rd H b (.tup xs)):∀{ds:List D} {vs:List V},yn ds=true->ay K [] H ds vs->ay K B H ds vs
 | [],_,_,r=>by unfold ay at r;subst r;exact ay.nil
 | d ::ds,vs,h,r=>by
   unfold yn at h;obtain⟨h1,h2⟩:=Bool.and_eq_true_iff.mp h;obtain⟨x,xs,rfl,r1,r2⟩:=r.b_;exact ay.cons (Rep.x8 hB h1 r1) (ay.x8 hB h2 r2)
end
theorem SW.nt{K:W.Frag}{cl:Za}{ρ:P3}{S:aM}(w:SW K cl ρ H S):∀b∈ρ.b,∀xs,¬Rd H b (.tup xs):=fun b hb xs h=>by
 have key:∀o,H b=some o->(∀xs,o≠ .tup xs)->(∀ob xs,o≠ .lP ob (.tup xs))->False:=fun o e h1 h2=>by
  rcases h with z | ⟨ob,z⟩
  .rw [e] at z;cases z;exact h1 _ rfl
  .rw [e] at z;cases z;exact h2 _ _ rfl
 rcases P3.dY.mp hb with⟨z,n⟩ | z
 .obtain⟨k,hk⟩:=List.getElem?_of_mem z;have hl:=(List.getElem?_eq_some_iff.mp hk).1;have hS:S[k]? =some (S[k]'(by rw[<-w.len];exact hl)):=List.getElem?_eq_getElem (by rw[<-w.len];exact hl)
  have r:=w.ob k b _ hk hS;generalize S[k]'(by rw[<-w.len];exact hl)=o at r hS
  cases o with
  | lst ds=>obtain⟨ys,e,_⟩:=r;exact key _ e (fun _ q=>by cases q) (fun _ _ q=>by cases q)
  | dct aw=>obtain⟨ys,e,_⟩:=r;exact key _ e (fun _ q=>by cases q) (fun _ _ q=>by cases q)
  | ins c fs=>obtain⟨dx,ys,e,_⟩:=r;exact key _ e (fun _ q=>by cases q) (fun _ _ q=>by cases q)
  | lP=>exact n (w.fi k b hk hS)
  | exc c=>obtain⟨b',e⟩:=r;exact key _ e (fun _ q=>by cases q) (fun _ _ q=>by cases q)
 .obtain⟨⟨ys,e⟩,_⟩:=w.zb b z;exact key _ e (fun _ q=>by cases q) (fun _ _ q=>by cases q)
abbrev DE:=List (Option V3)
structure dS (K:W.Frag) (cl:Za) (ρ:P3) (H:Hp) (S:aM) (σ:L2.St) (δ:DE):Prop where
 len:δ.length=σ.length
 sw:SW K cl ρ H S
 val:∀(i:Nat) (d:V3),δ[i]? =some (some d)->∃v,σ[i]? =some (some v)/\aV K ρ H d v
theorem dS.to{K:W.Frag}{cl:Za}{S S':aM}{σ:L2.St}{δ:DE}(E:dS K cl ρ H S σ δ)(p:Pre ρ H bA H')(w:SW K cl bA H' S'):dS K cl bA H' S' σ δ:=
 ⟨E.len,w,fun i d e=>let⟨v,h1,h2⟩:=E.val i d e;⟨v,h1,h2.pre p⟩⟩
theorem dS.set{K:W.Frag}{cl:Za}{S:aM}{σ:L2.St}{δ:DE}(E:dS K cl ρ H S σ δ){i:Nat}{d:V3}{v:V}(hi:i < σ.length)(r:aV K ρ H d v):dS K cl ρ H S (σ.set i (some v)) (δ.set i (some d)):=
 ⟨by rw[List.length_set,List.length_set];exact E.len,E.sw,fun j d' e=>by
   by_cases h:i=j
   .subst h;rw[List.getElem?_set_self (by rw[E.len];exact hi)] at e
    cases e;exact⟨v,List.getElem?_set_self hi,r⟩
   .rw [List.getElem?_set_ne h] at e ⊢;exact E.val j d' e⟩
def down(δ:DE):ao:=δ.map fun x=>match x with | some (.d d)=> .val d | _=> .un
theorem dS.down{K:W.Frag}{cl:Za}{ρ:P3}{S:aM}{σ:L2.St}{δ:DE}(E:dS K cl ρ H S σ δ):dC K [] ρ.b H σ (down δ) where
 len:=by unfold L3.down;rw [List.length_map];exact E.len
 bs:=E.sw.bs
 zb:=fun a ha=>by cases ha
 val:=fun i d e=>by
  unfold L3.down at e;rw[List.getElem?_map] at e;cases q:δ[i]? with
  | none=>rw [q] at e;cases e
  | some x=>
    rw[q] at e
    match x,e,q with
    | some (.d y),e,q=>
      cases e;obtain⟨v,h1,h2⟩:=E.val i _ q;unfold aV at h2;exact⟨v,h1,h2⟩
    | some (.loc k),e,q=>cases e
    | some (.lst k),e,q=>cases e
    | some (.tup k),e,q=>cases e
    | none,e,q=>cases e
 bld:=fun i ds e=>by
  unfold L3.down at e;rw[List.getElem?_map] at e;cases q:δ[i]? with
  | none=>rw [q] at e;cases e
  | some x=>
    rw[q] at e
    match x,e with
    | some (.d y),e=>cases e
    | some (.loc k),e=>cases e
    | some (.lst k),e=>cases e
    | some (.tup k),e=>cases e
    | none,e=>cases e
 dis:=fun i j a ds es e=>by
  unfold L3.down at e;rw[List.getElem?_map] at e;cases q:δ[i]? with
  | none=>rw [q] at e;cases e
  | some x=>
    rw[q] at e
    match x,e with
    | some (.d y),e=>cases e
    | some (.loc k),e=>cases e
    | some (.lst k),e=>cases e
    | some (.tup k),e=>cases e
    | none,e=>cases e
mutual
def res(S:aM):V3->Option D
 | .d x=>some x
 | .loc k=>(match S[k]? with | some (.lst ds)=>some (.lst ds) | some (.dct aw)=>some (.dct (aw.map (·.1)) (aw.map (·.2))) | _=>none)
 | .lst vs=>(zd S vs).map D.lst
 | .tup vs=>(zd S vs).map D.tup
 | .fn _=>none
def zd(S:aM):List V3->Option (List D)
 | []=>some []
 | v ::vs=>(res S v).bind fun d=>(zd S vs).map (d ::·)
end
def n3(S:aM)(δ:DE):ao:=δ.map fun x=>match x with | some v=>(match res S v with | some d=> .val d | none=> .un) | none=> .un
theorem qV{α β:Type}{o:Option α}{f:α->β}{b:β}(h:o.map f=some b):∃a,o=some a/\f a=b:=by
 cases o with
 | none=>cases h
 | some a=>cases h;exact⟨a,rfl,rfl⟩
theorem yU{α β:Type}{o:Option α}{f:α->Option β}{b:β}(h:o.bind f=some b):∃a,o=some a/\f a=some b:=by
 cases o with
 | none=>cases h
 | some a=>exact⟨a,rfl,h⟩
mutual
def m5(n:Nat):V3->Bool
 | .d _=>true
 | .loc k=>decide (n<=k)
 | .lst vs=>rj n vs
 | .tup vs=>rj n vs
 | .fn _=>true
def rj(n:Nat):List V3->Bool
 | []=>true
 | v ::vs=>m5 n v && rj n vs
end
mutual
theorem aV.resB{K:W.Frag}{cl:Za}{ρ:P3}{S:aM}{B':List Addr}{n:Nat}(w:SW K cl ρ H S)(p:dy ρ.b H B' H)(hn:∀(k:Nat) (a:Addr),n<=k->ρ.r[k]? =some a->a ∉ B'):∀{v:V3} {d:D} {x:V},m5 n v=true->res S v=some d->aV K ρ H v x->Rep K B' H d x
 | .d y,d,x,_,h,r=>by unfold L3.res at h;cases h;unfold aV at r;exact r.br p
 | .fn y,d,x,_,h,r=>by unfold L3.res at h;cases h
 | .loc k,d,x,g,h,r=>by
   unfold L3.res at h;unfold aV at r;unfold m5 at g;obtain⟨a,h1,rfl⟩:=r;split at h
   .rename_i ds e;cases h;obtain⟨xs,e2,q⟩:=w.ob k a _ h1 e;unfold Rep;exact⟨a,xs,rfl, .inl ⟨hn k a (of_decide_eq_true g) h1, .inl e2⟩,q.br p⟩
   .rename_i aw e;cases h;obtain⟨ys,e2,e3,q⟩:=w.ob k a _ h1 e;unfold Rep;exact⟨a,ys,rfl,⟨hn k a (of_decide_eq_true g) h1,e2⟩,e3,q.br p⟩
   .cases h
 | .lst vs,d,x,g,h,r=>by
   unfold L3.res at h;unfold m5 at g;obtain⟨ds,e,rfl⟩:=qV h;unfold aV at r;obtain⟨a,xs,rfl,l,r⟩:=r;unfold Rep;exact⟨a,xs,rfl,l.br p,az.resB w p hn g e r⟩
 | .tup vs,d,x,g,h,r=>by
   unfold L3.res at h;unfold m5 at g;obtain⟨ds,e,rfl⟩:=qV h;unfold aV at r;obtain⟨a,xs,rfl,l,r⟩:=r;unfold Rep;exact⟨a,xs,rfl,AE.br p l,az.resB w p hn g e r⟩
theorem az.resB{K:W.Frag}{cl:Za}{ρ:P3}{S:aM}{B':List Addr}{n:Nat}(w:SW K cl ρ H S)(p:dy ρ.b H B' H)(hn:∀(k:Nat) (a:Addr),n<=k->ρ.r[k]? =some a->a ∉ B'):∀{vs:List V3} {ds:List D} {xs:List V},rj n vs=true->zd S vs=some ds->az K ρ H vs xs->ay K B' H ds xs
 | [],ds,xs,_,h,r=>by unfold zd at h;cases h;unfold az at r;subst r;exact ay.nil
 | v ::vs,ds,xs,g,h,r=>by
   unfold zd at h;unfold rj at g;obtain⟨g1,g2⟩:=Bool.and_eq_true_iff.mp g;obtain⟨d,e1,h2⟩:=yU h;obtain⟨es,e2,rfl⟩:=qV h2;obtain⟨y,ys,rfl,r1,r2⟩:=r.b_;exact ay.cons (aV.resB w p hn g1 e1 r1) (az.resB w p hn g2 e2 r2)
end
mutual
theorem vi:∀v:V3,m5 0 v=true
 | .d _=>by unfold m5;rfl
 | .loc k=>by unfold m5;exact decide_eq_true (Nat.zero_le _)
 | .lst vs=>by unfold m5;exact pI vs
 | .tup vs=>by unfold m5;exact pI vs
 | .fn _=>by unfold m5;rfl
theorem pI:∀vs:List V3,rj 0 vs=true
 | []=>by unfold rj;rfl
 | v ::vs=>by unfold rj;rw [vi v,pI vs];rfl
end
theorem aV.res{K:W.Frag}{cl:Za}{S:aM}(w:SW K cl ρ H S){v:V3}{d:D}{x:V}(h:res S v=some d)(r:aV K ρ H v x):Rep K [] H d x:=
 r.resB w (fun b o e _=>⟨e,by simp⟩) (n:=0) (fun _ _ _ _=>by simp) (vi v) h
theorem qH{S:aM}{δ:DE}{i:Nat}{y:Sl}(e:(n3 S δ)[i]? =some y):(∃v d,δ[i]? =some (some v)/\res S v=some d/\y= .val d)\/y= .un:=by
 unfold n3 at e;rw[List.getElem?_map] at e;cases q:δ[i]? with
 | none=>rw [q] at e;cases e
 | some x=>
   rw[q] at e;cases x with
   | none=>cases e;exact .inr rfl
   | some v=>
     cases z:res S v with
     | none=>
       have e:some (match res S v with | some d=>Sl.val d | none=> .un)=some y:=e
       rw[z] at e;cases e;exact .inr rfl
     | some d=>
       have e:some (match res S v with | some d=>Sl.val d | none=> .un)=some y:=e
       rw[z] at e;cases e;exact .inl ⟨v,d,rfl,z,rfl⟩
theorem dS.n3{K:W.Frag}{cl:Za}{S:aM}{σ:L2.St}{δ:DE}(E:dS K cl ρ H S σ δ):dC K [] [] H σ (n3 S δ) where
 len:=by unfold L3.n3;rw [List.length_map];exact E.len
 bs:=fun a ha=>by cases ha
 zb:=fun a ha=>by cases ha
 val:=fun i d e=>by
  rcases qH e with⟨v,d',h1,h2,h3⟩ | h
  .cases h3;obtain⟨x,q1,q2⟩:=E.val i v h1;exact⟨x,q1,q2.res E.sw h2⟩
  .cases h
 bld:=fun i ds e=>by
  rcases qH e with⟨v,d',h1,h2,h3⟩ | h
  .cases h3
  .cases h
 dis:=fun i j a ds es e=>by
  rcases qH e with⟨v,d',h1,h2,h3⟩ | h
  .cases h3
  .cases h
abbrev FX:=DE->aM->R3 V3
abbrev FB:=DE->aM->R3 Bool
abbrev FA:=DE->aM->R3 (List V3)
def tX(K:W.Frag)(cl:Za)(f:FX):TE:=fun σ H Q=>∃ρ S δ v S',dS K cl ρ H S σ δ/\f δ S= .ok v S'/\∀u bA H',Pre ρ H bA H'->SW K cl bA H' S'->aV K bA H' v u->Q u H'
def K8(K:W.Frag)(cl:Za)(f:FB):TT:=fun σ H Q=>∃ρ S δ b S',dS K cl ρ H S σ δ/\f δ S= .ok b S'/\∀bA H',Pre ρ H bA H'->SW K cl bA H' S'->Q b H'
def Tt(K:W.Frag)(cl:Za)(f:FA):TA:=fun σ H Q=>∃ρ S δ vs S',dS K cl ρ H S σ δ/\f δ S= .ok vs S'/\∀us bA H',Pre ρ H bA H'->SW K cl bA H' S'->az K bA H' vs us->Q us H'
structure PX (X:Cx) (cl:Za) (e:Expr) (f:FX):Prop where
 go:PE X e (tX X.K cl f)
structure CP (X:Cx) (cl:Za) (e:Expr) (f:FB):Prop where
 go:PT X e (K8 X.K cl f)
structure Ig (X:Cx) (cl:Za) (es:List Expr) (f:FA):Prop where
 go:PA X es (Tt X.K cl f)
section
variable {X:Cx} {cl:Za}
def xP(f:FD):FX:=fun δ S=>(R3.of (f (down δ)) S).bind fun d S=> .ok (.d d) S
theorem ax(h:QD X e f):PX X cl e (xP f):=⟨h.1.imp fun σ H Q ⟨ρ,S,δ,v,S',E,hf,q⟩=>by
 obtain⟨d,S1,h1,h2⟩:=R3.af hf;obtain⟨h3,e3⟩:=R3.of_ok h1;cases h2;subst e3;exact⟨[],ρ.b,down δ,d,E.down,h3,fun v H' s r=>q v ρ H' (Pre.same s) (E.sw.same s) (by unfold aV;exact r)⟩⟩
def xT(f:FD):FX:=fun δ S=>(R3.of (f (n3 S δ)) S).bind fun d S=>R3.aU (xU d) (.ok (.d d) S)
theorem G9(h:QD X e f):PX X cl e (xT f):=⟨h.1.imp fun σ H Q ⟨ρ,S,δ,v,S',E,hf,q⟩=>by
 obtain⟨d,S1,h1,h2⟩:=R3.af hf;obtain⟨h4,e3⟩:=R3.of_ok h1;obtain⟨ha,h3⟩:=R3.aL h2;cases h3;subst e3;exact⟨[],[],n3 _ δ,d,E.n3,h4,fun v H' s r=>q v ρ H' (Pre.same s) (E.sw.same s) (by unfold aV;exact Rep.x8 (E.sw.same s).nt ha r)⟩⟩
def bP(f:ao->R Bool):FB:=fun δ S=>R3.of (f (down δ)) S
theorem js{f:ao->R Bool}(h:QB X e f):CP X cl e (bP f):=⟨h.1.imp fun σ H Q ⟨ρ,S,δ,v,S',E,hf,q⟩=>by
 obtain⟨h1,e3⟩:=R3.of_ok hf;subst e3;exact⟨[],ρ.b,down δ,v,E.down,h1,fun H' s=>q ρ H' (Pre.same s) (E.sw.same s)⟩⟩
def bT(f:ao->R Bool):FB:=fun δ S=>R3.of (f (n3 S δ)) S
def bK(i:Nat):FX:=fun δ S=>match δ[i]? with | some (some v)=> .ok v S | _=> .no
theorem aT(i:Nat){x:Str}{pos:Pos}(hN:X.N[i]? =some x:=by rfl)(hv:KL X.env.scope x:=by first | exact Or.inl rfl | exact Or.inr (Or.inl rfl) | exact Or.inr (Or.inr rfl))(hd:(x==("__debug__":Str))=false:=by decide)
 (uN:(x==("__classdict__":Str))=false:=by decide):PX X cl (.Name x pos) (bK i):=⟨(zL hN hv hd uN).imp fun σ H Q ⟨ρ,S,δ,v,S',E,hf,q⟩=>by
 unfold bK at hf;split at hf
 .rename_i d' e;cases hf;obtain⟨u,h1,h2⟩:=E.val i _ e;exact⟨u,h1,q u ρ H (Pre.refl ρ H) E.sw h2⟩
 .cases hf⟩
def Eg(f:ao->R (List D)):FX:=fun δ S=>(R3.of (f (down δ)) S).bind fun ds S=> .ok (.loc S.length) (S++[.lst ds])
theorem zc{f:ao->R (List D)}(h:QN X e f):PX X cl e (Eg f):=⟨h.1.imp fun σ H Q ⟨ρ,S,δ,v,S',E,hf,q⟩=>by
 obtain⟨ds,S1,h1,h2⟩:=R3.af hf;obtain⟨h3,e3⟩:=R3.of_ok h1;cases h2;subst e3;refine⟨[],ρ.b,down δ,ds,E.down,h3,fun a xs H' s n e r=>?_⟩
 have r':ay X.K (ρ.push a).b H' ds xs:=r.br fun b o e nb=>⟨e,fun hb=>nb (by
  rcases P3.mem_push hb with z | z
  .exact List.mem_cons_of_mem _ z
  .subst z;exact List.mem_cons_self)⟩
 obtain⟨w,p⟩:=E.sw.new (o:= .lst ds) s n ⟨xs,e,r'⟩;exact q _ _ H' p w (by unfold aV;exact⟨a,by show(ρ.r++[a])[_]? =_;rw [<-E.sw.len,List.getElem?_append_right (by omega),Nat.sub_self];rfl,rfl⟩)⟩
end
end L3
end
section
namespace L3
open PySem PySem.Spec PyProof.Rows L2
section
variable {X:Cx} {cl:Za}
def dj:FA:=fun _ S=> .ok [] S
def a9(f:FX)(g:FA):FA:=fun δ S=>(f δ S).bind fun v S1=>(g δ S1).bind fun vs S2=> .ok (v ::vs) S2
theorem bG:Ig X cl [] dj:=⟨mq.imp fun σ H Q ⟨ρ,S,δ,v,S',E,hf,q⟩=>by
 cases hf;exact q [] ρ H (Pre.refl ρ H) E.sw az.nil⟩
theorem aD(h:PX X cl e f)(t:Ig X cl es g)(hs:starEach (e ::es) X.env=(false,eval e X.env) ::starEach es X.env:=by rfl):Ig X cl (e ::es) (a9 f g):=
 ⟨(jc h.1 t.1 hs).imp fun σ H Q ⟨ρ,S,δ,v,S',E,hf,q⟩=>by
   obtain⟨v1,S1,h1,h2⟩:=R3.af hf;obtain⟨vs,S2,h3,h4⟩:=R3.af h2;cases h4;exact⟨ρ,S,δ,v1,S1,E,h1,fun u bJ H1 p1 w1 r1=>⟨bJ,S1,δ,vs,_,E.to p1 w1,h3,fun us pU H2 p2 w2 r2=>q _ pU H2 (p1.trans p2) w2 (az.cons (r1.pre p2) r2)⟩⟩⟩
def qJ:List V3->Option (List D)
 | []=>some []
 | .d x ::r=>(qJ r).map (x ::·)
 | _ ::_=>none
theorem og:∀{vs:List V3} {ds:List D},qJ vs=some ds->vs=ds.map .d
 | [],ds,h=>by cases h;rfl
 | .d x ::r,ds,h=>by
   cases e:qJ r with
   | none=>have h:(qJ r).map (x ::·)=some ds:=h;rw [e] at h;cases h
   | some es=>
     have h:(qJ r).map (x ::·)=some ds:=h
     rw[e] at h;cases h;rw[og e];rfl
 | .loc _ ::_,_,h=>by cases h
 | .lst _ ::_,_,h=>by cases h
 | .tup _ ::_,_,h=>by cases h
 | .fn _ ::_,_,h=>by cases h
theorem qx:∀ds:List D,qJ (ds.map .d)=some ds
 | []=>rfl
 | d ::ds=>by show(qJ (ds.map .d)).map (d ::·)=_;rw [qx ds];rfl
def yp(vs:List V3):V3:=match qJ vs with | some ds=> .d (.tup ds) | none=> .tup vs
def pZ(vs:List V3):V3:=match qJ vs with | some ds=> .d (.lst ds) | none=> .lst vs
def zG(g:FA):FX:=fun δ S=>(g δ S).bind fun vs S=>R3.aU (decide (vs.length<=sizeLine)) (.ok (yp vs) S)
theorem oB{H:Hp}{p:Addr}{o:HO}(hp:H p=none):Pre ρ H ρ (upd H p o):=Pre.same (bB hp)
theorem vv{K:W.Frag}{ρ:P3}{vs:List V3}{xs:List V}{a:Addr}(l:AE K ρ.b H a xs)(r:az K ρ H vs xs):aV K ρ H (yp vs) (.ref a):=by
 unfold yp;split
 .rename_i ds e;rw[og e] at r;unfold aV Rep;exact⟨a,xs,rfl,l,r.to⟩
 .unfold aV;exact⟨a,xs,rfl,l,r⟩
theorem vk{K:W.Frag}{ρ:P3}{vs:List V3}{xs:List V}{a:Addr}(l:xt K ρ.b H a xs)(r:az K ρ H vs xs):aV K ρ H (pZ vs) (.ref a):=by
 unfold pZ;split
 .rename_i ds e;rw[og e] at r;unfold aV Rep;exact⟨a,xs,rfl,l,r.to⟩
 .unfold aV;exact⟨a,xs,rfl,l,r⟩
theorem Ky{x1 pos}(h:Ig X cl es g):PX X cl (.Tuple es x1 pos) (zG g):=⟨(y4 h.1).imp fun σ H Q ⟨ρ,S,δ,v,S',E,hf,q⟩=>by
 obtain⟨vs,S1,h1,h2⟩:=R3.af hf;obtain⟨hl,h3⟩:=R3.aL h2;cases h3;refine⟨ρ,S,δ,vs,_,E,h1,fun us bJ H1 p1 w1 r1=>⟨by rw[<-r1.length];exact of_decide_eq_true hl,fun p hp=>q _ bJ _ (p1.trans (oB hp)) (w1.same (bB hp)) ?_⟩⟩
 refine vv (.inl ⟨fun ha=>?_, .inl aY⟩) (r1.pre (oB hp))
 obtain⟨o,ho⟩:=w1.bs p ha;rw[hp] at ho;cases ho⟩
def yR(g:FA):FX:=fun δ S=>(g δ S).bind fun vs S=>R3.aU (decide (vs.length<=sizeLine)) (.ok (pZ vs) S)
theorem vU{pos}(h:Ig X cl es g):PX X cl (.List es pos) (yR g):=⟨(Ed h.1).imp fun σ H Q ⟨ρ,S,δ,v,S',E,hf,q⟩=>by
 obtain⟨vs,S1,h1,h2⟩:=R3.af hf;obtain⟨hl,h3⟩:=R3.aL h2;cases h3;refine⟨ρ,S,δ,vs,_,E,h1,fun us bJ H1 p1 w1 r1=>⟨by rw[<-r1.length];exact of_decide_eq_true hl,fun p hp=>q _ bJ _ (p1.trans (oB hp)) (w1.same (bB hp)) ?_⟩⟩
 refine vk (.inl ⟨fun ha=>?_, .inl aY⟩) (r1.pre (oB hp))
 obtain⟨o,ho⟩:=w1.bs p ha;rw[hp] at ho;cases ho⟩
def x2(g:D->D->R D)(fa fb:FX):FX:=fun δ S=>(fa δ S).bind fun a S1=>(fb δ S1).bind fun b S2=>match a,b with
 | .d x, .d y=>(R3.of (g x y) S2).bind fun d S=> .ok (.d d) S
 | _,_=> .no
theorem Lo{K:W.Frag}{g:D->D->R D}{σ:L2.St}{Q:VK}(h:tX K cl (x2 g fa fb) σ H Q) :
 MI (fun x y H Q=>∃B da db d,(∀a∈B,∃o,H a=some o)/\Rep K B H da x/\Rep K B H db y/\g da db= .ok d/\∀z H',aO H H'->Rep K B H' d z->Q z H') (tX K cl fa) (tX K cl fb) σ H Q:=by
 obtain⟨ρ,S,δ,v,S',E,hf,q⟩:=h;obtain⟨a,S1,h1,h2⟩:=R3.af hf;obtain⟨b,S2,h3,h4⟩:=R3.af h2
 match a,b,h1,h3,h4 with
 | .d x, .d y,h1,h3,h4=>
   obtain⟨d,S3,h5,h6⟩:=R3.af h4;obtain⟨h7,e⟩:=R3.of_ok h5;cases h6;subst e;refine⟨ρ,S,δ, .d x,S1,E,h1,fun u1 bJ H1 p1 w1 r1=>⟨bJ,S1,δ, .d y,_,E.to p1 w1,h3,fun u2 pU H2 p2 w2 r2=>?_⟩⟩
   have yH:=r1.pre p2;unfold aV at yH r2;exact⟨pU.b,x,y,d,w2.bs,yH,r2,h7,fun z H' s r=>q z pU H' (p1.trans (p2.trans (Pre.same s))) (w2.same s) (by unfold aV;exact r)⟩
 | .d x, .loc _,_,_,h4=>cases h4
 | .d x, .lst _,_,_,h4=>cases h4
 | .d x, .tup _,_,_,h4=>cases h4
 | .d x, .fn _,_,_,h4=>cases h4
 | .loc _,_,_,_,h4=>cases h4
 | .lst _,_,_,_,h4=>cases h4
 | .tup _,_,_,_,h4=>cases h4
 | .fn _,_,_,_,h4=>cases h4
theorem Dh{op:Operator}{g:D->D->R D}(ho:nC X (binaryOp op) g)(ha:PX X cl a fa)(hb:PX X cl b fb):PX X cl (.BinOp a op b pos) (x2 g fa fb):=
 ⟨(IW ho.r ha.1 hb.1).imp fun σ H Q h=>Lo h⟩
theorem JS{op:CmpOp}{g:D->D->R D}(ho:nC X (compareOp op) g)(ha:PX X cl a fa)(hb:PX X cl b fb)(hm:behindInMarks op b=false):PX X cl (.Compare a [op] [b] pos) (x2 g fa fb):=
 ⟨(A0 ho.r ha.1 hb.1 hm).imp fun σ H Q h=>Lo h⟩
def Oh(g:D->D->R D)(fa fb:FX):FB:=fun δ S=>(x2 g fa fb δ S).bind fun v S=>match v with | .d (.bl b)=> .ok b S | _=> .no
theorem wj{op:CmpOp}{g:D->D->R D}(ho:nC X (compareOp op) g)(ha:PX X cl a fa)(hb:PX X cl b fb)(hm:behindInMarks op b=false):CP X cl (.Compare a [op] [b] pos) (Oh g fa fb):=
 ⟨(Bj ho.r ha.1 hb.1 hm).imp fun σ H Q ⟨ρ,S,δ,b,S',E,hf,q⟩=>by
   obtain⟨v,S1,h1,h2⟩:=R3.af hf;have hv:v= .d (.bl b)/\S1=S':=by
    match v,h2 with
    | .d (.bl k),h2=>cases h2;exact⟨rfl,rfl⟩
    | .d .cD,h2=>cases h2
    | .d (.int _),h2=>cases h2
    | .d (.str _),h2=>cases h2
    | .d (.lst _),h2=>cases h2
    | .d (.tup _),h2=>cases h2
    | .d (.dct _ _),h2=>cases h2
    | .loc _,h2=>cases h2
    | .lst _,h2=>cases h2
    | .tup _,h2=>cases h2
    | .fn _,h2=>cases h2
   obtain⟨rfl,rfl⟩:=hv;exact Lo (g:=g) (Q:=fun x H'=>∃k,x= .bl k/\Q k H') ⟨ρ,S,δ,_,_,E,h1,fun u bA H' p w r=>⟨b,by unfold aV Rep at r;exact r,q bA H' p w⟩⟩⟩
inductive Ou where
 | nx (δ:DE) | rt (v:V3)
abbrev FZ:=DE->aM->R3 Ou
def wz(K:W.Frag)(cl:Za)(ρ:P3)(H:Hp)(D:Ends)(S':aM):Ou->Prop
 | .nx dm=>∀b8 bA H',Pre ρ H bA H'->dS K cl bA H' S' b8 dm->D.nx b8 H'
 | .rt v=>∀u bA H',Pre ρ H bA H'->SW K cl bA H' S'->aV K bA H' v u->D.rt u H'
theorem wz.pre{K:W.Frag}{D:Ends}{S':aM}{o:Ou}(q:wz K cl ρ H D S' o)(p:Pre ρ H bJ H1):wz K cl bJ H1 D S' o:=by
 cases o with
 | nx dm=>exact fun b8 bA H' p' E'=>q b8 bA H' (p.trans p') E'
 | rt d=>exact fun v bA H' p' w r=>q v bA H' (p.trans p') w r
def sX(K:W.Frag)(cl:Za)(F:FZ):TS:=fun D σ H=>∃ρ S δ o S',dS K cl ρ H S σ δ/\F δ S= .ok o S'/\wz K cl ρ H D S' o
structure PZ (X:Cx) (cl:Za) (st:Stmt) (F:FZ):Prop where
 go:PS X st (sX X.K cl F)
structure EX (X:Cx) (cl:Za) (st:List Stmt) (F:FZ):Prop where
 go:vW X st (sX X.K cl F)
def mi:FZ:=fun δ S=> .ok (.nx δ) S
def cB(F G:FZ):FZ:=fun δ S=>(F δ S).bind fun o S1=>match o with | .nx dm=>G dm S1 | .rt d=> .ok (.rt d) S1
theorem sg:EX X cl [] mi:=⟨vx.imp fun D σ H ⟨ρ,S,δ,o,S',E,hf,q⟩=>by
 cases hf;exact q σ ρ H (Pre.refl ρ H) E⟩
theorem bE{st:Stmt}{rest:List Stmt}(h1:PZ X cl st F)(h2:EX X cl rest G):EX X cl (st ::rest) (cB F G):=⟨(sU h1.1 h2.1).imp fun D σ H ⟨ρ,S,δ,o,S',E,hf,q⟩=>by
 obtain⟨o1,S1,h1,h2⟩:=R3.af hf;refine⟨ρ,S,δ,o1,S1,E,h1,?_⟩;cases o1 with
 | nx δ1=>
   intro MM bJ H1 p1 E1;exact⟨bJ,S1,δ1,o,S',E1,h2,q.pre p1⟩
 | rt d=>
   cases h2;exact q⟩
theorem dQ{st:Stmt}(h1:PZ X cl st F):EX X cl [st] F:=⟨vX h1.1⟩
def lj(i:Nat)(f:FX):FZ:=fun δ S=>(f δ S).bind fun v S=>R3.aU (decide (i < δ.length)) (.ok (.nx (δ.set i (some v))) S)
theorem eN{i:Nat}{pos pos':Pos}(hN:X.N.Nodup)(hi:X.N[i]? =some x)(hx:Loc X.env.scope x)(he:PX X cl e f)(hs:swapsWith e (some (.Name x pos')) pos.line X.env=pure false:=by rfl)(hf:X.fn x=true\/X.env.scope.names.lookup x=some .local:=by first | exact .inl rfl | exact .inr rfl | assumption) :
 PZ X cl (.Assign [.Name x pos'] e pos) (lj i f):=⟨(zH hN hi hx he.1 hs hf).imp fun D σ H ⟨ρ,S,δ,o,S',E,hf,q⟩=>by
 obtain⟨v,S1,h1,h2⟩:=R3.af hf;obtain⟨hi,h3⟩:=R3.aL h2;cases h3;refine⟨ρ,S,δ,v,_,E,h1,fun u bJ H1 p1 w1 r1=>?_⟩
 exact q _ bJ H1 p1 ((E.to p1 w1).set (by rw[<-E.len];exact of_decide_eq_true hi) r1)⟩
def za(f:FX):FZ:=fun δ S=>(f δ S).bind fun v S=> .ok (.rt v) S
theorem sN(he:PX X cl e f):PZ X cl (.Return (some e) pos) (za f):=⟨(Fm he.1).imp fun D σ H ⟨ρ,S,δ,o,S',E,hf,q⟩=>by
 obtain⟨v,S1,h1,h2⟩:=R3.af hf;cases h2;exact⟨ρ,S,δ,v,_,E,h1,fun u bJ H1 p1 w1 r1=>q u bJ H1 p1 w1 r1⟩⟩
def ug(c:FB)(F G:FZ):FZ:=fun δ S=>(c δ S).bind fun b S=>if b then F δ S else G δ S
theorem AZ(hc:CP X cl c fc)(ha:EX X cl a F)(hb:EX X cl b G):PZ X cl (.If c a b pos) (ug fc F G):=⟨(EZ hc.1 ha.1 hb.1).imp fun D σ H ⟨ρ,S,δ,o,S',E,hf,q⟩=>by
 obtain⟨k,S1,h1,h2⟩:=R3.af hf;refine⟨ρ,S,δ,k,S1,E,h1,fun bJ H1 p1 w1=>?_⟩
 cases k with
 | true=>rw [if_pos rfl] at h2;exact EL ⟨bJ,S1,δ,o,S',E.to p1 w1,h2,q.pre p1⟩
 | false=>rw [if_neg (by decide)] at h2;exact Fs ⟨bJ,S1,δ,o,S',E.to p1 w1,h2,q.pre p1⟩⟩
def tP(f:FX):FZ:=fun δ S=>(f δ S).bind fun _ S=> .ok (.nx δ) S
def AI(c:FB)(body:FZ):Nat->FZ
 | 0,_,_=> .no
 | n+1,δ,S=>(c δ S).bind fun b S=>if b then(body δ S).bind fun o S=>match o with | .nx h_=>AI c body n h_ S | .rt r=> .ok (.rt r) S else .ok (.nx δ) S
def Rb(n:Nat)(c:FB)(body:FZ):FZ:=fun δ S=>AI c body n δ S
end
end L3
end
section
namespace L3
open PySem PySem.Spec PyProof.Rows L2
theorem az.get{K:W.Frag}:∀{ds:List V3} {xs:List V} {i:Nat} {d:V3},az K ρ H ds xs->ds[i]? =some d->∃x,xs[i]? =some x/\aV K ρ H d x
 | [],_,_,_,_,e=>by simp at e
 | d ::ds,xs,0,d',h,e=>by
   obtain⟨x,r,rfl,h1,h2⟩:=h.b_;simp at e;subst e;exact⟨x,rfl,h1⟩
 | d ::ds,xs,i+1,d',h,e=>by
   obtain⟨x,r,rfl,h1,h2⟩:=h.b_;obtain⟨y,e1,e2⟩:=az.get (i:=i) h2 (by simpa using e)
   exact⟨y,by simpa using e1,e2⟩
def O5(K:W.Frag)(ρ:P3)(H:Hp)(J:It)(vs:List V3):Prop:=∀bA H',PW ρ H bA H'->(∀a∈bA.b,∃o,H' a=some o)->(∀(i:Nat) (d:V3),vs[i]? =some d->J.go i H'/\∀x pK,J.yld i H' x pK->aO H' pK/\aV K bA pK d x)/\J.stop vs.length H'
theorem O5.of{K:W.Frag}{ρ:P3}{J:It}{ds:List D}(h:Fi K ρ.b H J ds):O5 K ρ H J (ds.map .d):=fun bA H' p bs=>by
 obtain⟨h1,h2⟩:=h bA.b H' p.br;refine⟨fun i v hv=>?_,by rw[List.length_map];exact h2⟩
 rw[List.getElem?_map] at hv;cases e:ds[i]? with
 | none=>rw [e] at hv;cases hv
 | some d=>
   rw[e] at hv;cases hv;obtain⟨g1,g2⟩:=h1 i d e;exact⟨g1,fun x pK y=>let⟨s,r⟩:=g2 x pK y bs;⟨s,by unfold aV;exact r⟩⟩
def Tz(K:W.Frag)(cl:Za)(f:FA):TI:=fun σ H R=>∃ρ S δ vs S',dS K cl ρ H S σ δ/\f δ S= .ok vs S'/\∀J bJ H1,Pre ρ H bJ H1->SW K cl bJ H1 S'->O5 K bJ H1 J vs->R J H1
structure N3 (X:Cx) (cl:Za) (tg e:Expr) (f:FA):Prop where
 go:PI X tg e (Tz X.K cl f)
section
variable {X:Cx} {cl:Za}
def iP(f:ao->R (List D)):FA:=fun δ S=>(R3.of (f (down δ)) S).bind fun ds S=> .ok (ds.map .d) S
theorem m4{f:ao->R (List D)}(h:MK X tg e f):N3 X cl tg e (iP f):=⟨h.1.imp fun σ H Q ⟨ρ,S,δ,vs,S',E,hf,q⟩=>by
 obtain⟨ds,S1,h1,h2⟩:=R3.af hf;obtain⟨h3,e3⟩:=R3.of_ok h1;cases h2;subst e3;exact⟨[],ρ.b,down δ,ds,E.down,h3,fun J H1 s r=>q J ρ H1 (Pre.same s) (E.sw.same s) (O5.of r)⟩⟩
def Jy(f:FX):FA:=fun δ S=>(f δ S).bind fun v S=>match v with | .d (.int j)=>R3.aU (decide (-(2 ^ 62)<=j/\j < 2 ^ 62)) (.ok ((rN 0 j.toNat).map .d) S) | _=> .no
def We(f:FX):FA:=fun δ S=>(f δ S).bind fun v S=>match v with | .d (.lst ds)=> .ok (ds.map .d) S | .lst vs=> .ok vs S | _=> .no
abbrev FG:=V3->DE->Option DE
abbrev Kt:=List V3->DE->Option DE
def gX(K:W.Frag)(cl:Za)(t:FG):TG:=fun v σ H Q=>∃ρ S δ x dm,dS K cl ρ H S σ δ/\aV K ρ H x v/\t x δ=some dm/\∀b8 H',aO H H'->dS K cl ρ H' S b8 dm->Q b8 H'
def WM(K:W.Frag)(cl:Za)(t:Kt):FF:=fun v σ H Q=>∃ρ S δ x dm,dS K cl ρ H S σ δ/\az K ρ H x v/\t x δ=some dm/\∀b8 H',aO H H'->dS K cl ρ H' S b8 dm->Q b8 H'
structure OD (X:Cx) (cl:Za) (tg:Expr) (t:FG):Prop where
 go:PG X tg (gX X.K cl t)
structure Vo (X:Cx) (cl:Za) (tg:List Expr) (t:Kt):Prop where
 go:HC X tg (WM X.K cl t)
theorem dS.same{K:W.Frag}{S:aM}{σ:L2.St}{δ:DE}(E:dS K cl ρ H S σ δ)(s:aO H H'):dS K cl ρ H' S σ δ:=E.to (Pre.same s) (E.sw.same s)
def JC(i:Nat):FG:=fun d δ=>if i < δ.length then some (δ.set i (some d)) else none
theorem m6{i:Nat}{pos:Pos}(hN:X.N.Nodup)(hi:X.N[i]? =some x)(hx:Loc X.env.scope x)(hf:X.fn x=true\/X.env.scope.names.lookup x=some .local:=by first | exact .inl rfl | exact .inr rfl | assumption):OD X cl (.Name x pos) (JC i):=
 ⟨(Bl hN hi hx hf).imp fun v σ H Q ⟨ρ,S,δ,d,dm,E,r,ht,q⟩=>by
   unfold JC at ht;split at ht
   .rename_i hi;cases ht;exact q _ H (aO.refl H) (E.set (by rw[<-E.len];exact hi) r)
   .cases ht⟩
def YI:Kt:=fun ds δ=>match ds with | []=>some δ | _=>none
def Yi(t:FG)(u:Kt):Kt:=fun ds δ=>match ds with | d ::r=>(t d δ).bind fun dm=>u r dm | []=>none
def Yw(n:Nat)(t:Kt):FG:=fun d δ=>match d with
 | .d (.tup ds)=>if ds.length=n then t (ds.map .d) δ else none
 | .tup vs=>if vs.length=n then t vs δ else none
 | _=>none
def WR(f:FX)(t:FG):FZ:=fun δ S=>(f δ S).bind fun d S=>match t d δ with | some dm=> .ok (.nx dm) S | none=> .no
def ia(t:FG)(body:FZ):List V3->FZ
 | [],δ,S=> .ok (.nx δ) S
 | d ::ds,δ,S=>match t d δ with
   | none=> .no
   | some δ1=>(body δ1 S).bind fun o S=>match o with | .nx h_=>ia t body ds h_ S | .rt r=> .ok (.rt r) S
def zy(it:FA)(t:FG)(body:FZ):FZ:=fun δ S=>(it δ S).bind fun vs S=>ia t body vs δ S
theorem Kp{tg iter:Expr}{body:List Stmt}{it:FA}{t:FG}{F:FZ}{pos:Pos}(hp:PassesOwn (model X.prog X.w) X.A X.env X.xe)(hc:X.calm=true)(hi:N3 X cl tg iter it)(hg:OD X cl tg t)(hb:EX X cl body F)
 (hs:∀x,foldedSetIterable iter X.env x=pure x:=by intro _;rfl):PZ X cl (.For tg iter body [] pos) (zy it t F):=⟨(yP hp hc hi.1 hg.1 hb.1 hs).imp fun D σ H ⟨ρ,S,δ,o,S',E,hf,q⟩=>by
 obtain⟨ds,S0,h1,h2⟩:=R3.af hf;refine⟨ρ,S,δ,ds,S0,E,h1,fun J bJ H1 p1 w1 ir=>?_⟩
 refine⟨fun i m b8 H'=>m=ds.length - i/\i<=ds.length/\∃bA S1 dm,Pre bJ H1 bA H'/\dS X.K cl bA H' S1 b8 dm/\ia t F (ds.drop i) dm S1= .ok o S',⟨ds.length,rfl,Nat.zero_le _,bJ,S0,δ,Pre.refl bJ H1,E.to p1 w1,by simpa using h2⟩,?_⟩
 rintro i m b8 H' ⟨rfl,hi,bA,S1,dm,pv,E',hl⟩;obtain⟨go,stop⟩:=ir bA H' pv.pw E'.sw.bs;by_cases hlt:i < ds.length
 .have hd:ds[i]? =some ds[i]:=List.getElem?_eq_getElem hlt;have hdrop:ds.drop i=ds[i] ::ds.drop (i+1):=List.drop_eq_getElem_cons hlt;rw[hdrop] at hl;unfold ia at hl;split at hl
  .cases hl
  .rename_i δ1 h3;obtain⟨o1,S2,h5,h6⟩:=R3.af hl;obtain⟨g1,g2⟩:=go i _ hd;refine .inr ⟨g1,fun uM H2=>∃pU S2 h_,Pre bJ H1 pU H2/\dS X.K cl pU H2 S2 uM h_/\ia t F (ds.drop (i+1)) h_ S2= .ok o S',fun uM H2 n=>⟨ds.length - (i+1),by omega,rfl,hlt,n⟩,fun x pK y=>?_⟩
   obtain⟨ss,rr⟩:=g2 x pK y;refine⟨bA,S1,dm,ds[i],δ1,E'.same ss,rr,h3,fun uM H2 s2 E2=>⟨bA,S1,δ1,o1,S2,E2,h5,?_⟩⟩
   have pv2:Pre bJ H1 bA H2:=pv.trans (Pre.same (ss.trans s2));cases o1 with
   | nx h_=>exact fun Gx CG H3 p3 E3=>⟨CG,S2,h_,pv2.trans p3,E3,h6⟩
   | rt d=>
     cases h6;exact fun v CG H3 p3 w r=>q v CG H3 (p1.trans (pv2.trans p3)) w r
 .have e:i=ds.length:=by omega
  subst e;rw[List.drop_length] at hl;cases hl;exact .inl ⟨stop,q b8 bA H' (p1.trans pv) E'⟩⟩
end
end L3
end
section
namespace L3
open PySem PySem.Spec PyProof.Rows L2
mutual
def xQ(n:Nat):V3->Bool
 | .d _=>true
 | .loc k=>decide (k < n)
 | .lst vs=>qN n vs
 | .tup vs=>qN n vs
 | .fn _=>true
def qN(n:Nat):List V3->Bool
 | []=>true
 | v ::vs=>xQ n v && qN n vs
end
def yt(n:Nat):SO->Bool
 | .ins _ fs=>qN n (fs.map (·.2))
 | _=>true
theorem GD{ρ:P3}{n:Nat}{b:Addr}(h:b∈(ρ.cut n).b):b∈ρ.b:=by
 rcases P3.dY.mp h with z | z
 .exact P3.dY.mpr (.inl ⟨List.mem_of_mem_take z.1,z.2⟩)
 .exact P3.dY.mpr (.inr z)
theorem jr{ρ:P3}(n:Nat):dy ρ.b H (ρ.cut n).b H:=fun b o e nb=>⟨e,fun hb=>nb (GD hb)⟩
mutual
theorem aV.cut{K:W.Frag}{ρ:P3}{n:Nat}:∀{v:V3} {x:V},xQ n v=true->aV K ρ H v x->aV K (ρ.cut n) H v x
 | .fn y,x,_,h=>by unfold aV at h ⊢;exact h
 | .d y,x,_,h=>by unfold aV at h ⊢;exact h.br (jr n)
 | .loc k,x,o,h=>by
   unfold aV at h ⊢;unfold xQ at o;obtain⟨a,h1,h2⟩:=h;exact⟨a,by show(ρ.r.take n)[k]? =_;rw [List.getElem?_take_of_lt (of_decide_eq_true o)];exact h1,h2⟩
 | .lst vs,x,o,h=>by
   unfold aV at h ⊢;unfold xQ at o;obtain⟨a,xs,e,l,r⟩:=h;exact⟨a,xs,e,l.br (jr n),az.cut o r⟩
 | .tup vs,x,o,h=>by
   unfold aV at h ⊢;unfold xQ at o;obtain⟨a,xs,e,l,r⟩:=h;exact⟨a,xs,e,AE.br (jr n) l,az.cut o r⟩
theorem az.cut{K:W.Frag}{ρ:P3}{n:Nat}:∀{vs:List V3} {xs:List V},qN n vs=true->az K ρ H vs xs->az K (ρ.cut n) H vs xs
 | [],_,_,h=>by unfold az at h ⊢;exact h
 | v ::vs,xs,o,h=>by
   unfold qN at o;obtain⟨o1,o2⟩:=Bool.and_eq_true_iff.mp o;obtain⟨x,r,rfl,h1,h2⟩:=h.b_;exact az.cons (aV.cut o1 h1) (az.cut o2 h2)
end
theorem SW.cut{K:W.Frag}{cl:Za}{ρ:P3}{S:aM}(w:SW K cl ρ H S){n:Nat}(ok:(S.take n).all (yt n)=true):SW K cl (ρ.cut n) H (S.take n):=
 ⟨by show(ρ.r.take n).length=_;rw [List.length_take,List.length_take,w.len],fun i j a hi hj=>by
   have hi:(ρ.r.take n)[i]? =some a:=hi;have hj:(ρ.r.take n)[j]? =some a:=hj;have gi:ρ.r[i]? =some a:=by
    rw[List.getElem?_take] at hi;split at hi
    .exact hi
    .cases hi
   have gj:ρ.r[j]? =some a:=by
    rw[List.getElem?_take] at hj;split at hj
    .exact hj
    .cases hj
   exact w.nd i j a gi gj,fun k a o hk ho=>by
   have hk:(ρ.r.take n)[k]? =some a:=hk;have gk:ρ.r[k]? =some a:=by
    rw[List.getElem?_take] at hk;split at hk
    .exact hk
    .cases hk
   have go:S[k]? =some o:=by
    rw[List.getElem?_take] at ho;split at ho
    .exact ho
    .cases ho
   have r:=w.ob k a o gk go;have oo:yt n o=true:=List.all_eq_true.mp ok o (List.mem_of_getElem? ho);cases o with
   | lst ds=>obtain⟨xs,e,q⟩:=r;exact⟨xs,e,q.br (jr n)⟩
   | dct aw=>obtain⟨ys,e,e2,q⟩:=r;exact⟨ys,e,e2,q.br (jr n)⟩
   | ins c fs=>obtain⟨dx,ys,e,e2,q⟩:=r;exact⟨dx,ys,e,e2,q.cut oo⟩
   | exc c=>exact r
   | lP=>exact r,fun b hb=>let⟨h1,h2⟩:=w.zb b hb;⟨h1,fun h=>h2 (List.mem_of_mem_take h)⟩,(fun k a hk ho=>by
   have hk:(ρ.r.take n)[k]? =some a:=hk;rw[List.getElem?_take] at hk;split at hk
   .rename_i hlt;rw[List.getElem?_take_of_lt hlt] at ho;exact w.fz k a hk ho
   .cases hk),w.ff,(fun k a hk ho=>by
   have hk:(ρ.r.take n)[k]? =some a:=hk;rw[List.getElem?_take] at hk;split at hk
   .rename_i hlt;rw[List.getElem?_take_of_lt hlt] at ho;exact w.fi k a hk ho
   .cases hk)⟩
theorem SW.FJ{K:W.Frag}{cl:Za}{ρ bA:P3}{n:Nat}(hn:ρ.r.length<=n)(p:Pre ρ H bA H'):Pre ρ H (bA.cut n) H':=
 ⟨p.br.trans (jr n),p.zz,p.zs,fun k a h=>by show(bA.r.take n)[k]? =_;rw [List.getElem?_take_of_lt (Nat.lt_of_lt_of_le (List.getElem?_eq_some_iff.mp h).1 hn)];exact p.ext k a h⟩
section
variable {X:Cx} {cl:Za}
def c5(S:aM)(k:Nat):Option (List D):=match S[k]? with | some (.lst ds)=>some ds | _=>none
theorem iq{S:aM}{k:Nat}{ds:List D}(h:c5 S k=some ds):S[k]? =some (.lst ds):=by
 unfold c5 at h;split at h
 .rename_i e;cases h;exact e
 .cases h
def qz(δ:DE)(i:Nat):Option Nat:=match δ[i]? with | some (some (.loc k))=>some k | _=>none
def Wh(i:Nat)(f:FX):FZ:=fun δ S=>match qz δ i with
 | none=> .no
 | some k=>match c5 S k with
   | none=> .no
   | some _=>(f δ S).bind fun v S1=>match v with
     | .d d=>(match c5 S1 k with | some ds=>R3.aU (decide (ds.length < sizeLine)) (.ok (.nx δ) (S1.set k (.lst (ds++[d])))) | none=> .no)
     | _=> .no
def VN(fo fi fe:FX):FZ:=fun δ S=>(fe δ S).bind fun v S1=>(fo δ S1).bind fun o S2=>(fi δ S2).bind fun j S3=>match v,o,j with
 | .d d, .loc k, .d (.int n)=>(match c5 S3 k with
   | some ds=>(match Fe ds.length n with | some m=> .ok (.nx δ) (S3.set k (.lst (ds.set m d))) | none=> .no)
   | none=> .no)
 | _,_,_=> .no
def Hh(K:W.Frag)(cl:Za)(n:Nat)(g:List V3->aM->R3 V3):Sp:=fun vs H Q _=>vs.length=n/\∃ρ S xs v S',SW K cl ρ H S/\az K ρ H xs vs/\g xs S= .ok v S'/\∀u bA H',Pre ρ H bA H'->SW K cl bA H' S'->aV K bA H' v u->Q u H'
def rF(g:List V3->aM->R3 V3)(fs:FA):FX:=fun δ S=>(fs δ S).bind g
def qA(P:Program)(w:World)(K:W.Frag)(mg:Y_)(base:Heap)(cl:Za)(k:Nat)(x:Str)(n:Nat)(g:List V3->aM->R3 V3):Prop:=
 ∃(f:Addr) (fd:FuncData) (ps:List Str),jt P w K mg base uV k f fd ps (Hh K cl n g)/\mg x=some (.ref f)/\PySem.W.keepIn K (.ref f)=true/\Binds K fd ps []
theorem Hc{g:List V3->aM->R3 V3}{k j n:Nat}{x:Str}{p pos:Pos}{e:Expr}{es:List Expr}{fs:FA}(C:qA X.prog X.w X.K X.mg X.base cl k x n g)(hr:dH j X.A)(F4:k<=j)(hg:Gl X x)(ha:Ig X cl (e ::es) fs)
 (hn:∀δ S ds S',fs δ S= .ok ds S'->ds.length=n) (kL:(x==("__debug__":Str))=false:=by decide) (he:starEach (e ::es) X.env=(false,eval e X.env) ::starEach es X.env:=by rfl) (mT:(backTo pos (starEach es X.env)).any (·.1)=false:=by rfl) :
 PX X cl (.Call (.Name x p) (e ::es) [] pos) (rF g fs):=by
 obtain⟨f,fd,ps,F,hm,hk,hb⟩:=C;refine⟨(wc F (hr.mono F4) hg hm hk hb .nil DM ha.1 kL he mT).imp fun σ H Q ⟨ρ,S,δ,v,S',E,hf,q⟩=>?_⟩
 obtain⟨vs,S1,h1,h2⟩:=R3.af hf;refine⟨ρ,S,δ,vs,S1,E,h1,fun us bJ H1 p1 w1 r1=>?_⟩
 show Hh X.K cl n g (us++[]) H1 Q E0;rw[List.append_nil];exact⟨by rw[<-r1.length];exact hn δ S vs S1 h1,bJ,S1,vs,v,S',w1,r1,h2,fun z pU H2 p2 w2 r2=>q z pU H2 (p1.trans p2) w2 r2⟩
end
def dt(N:List Str)(vs:List V3):DE:=vs.map some++List.replicate (N.length - vs.length) none
theorem ya{K:W.Frag}{cl:Za}{S:aM}{N:List Str}{ds:List V3}{vs:List V}(w:SW K cl ρ H S)(r:az K ρ H ds vs):dS K cl ρ H S (L2.start N vs) (dt N ds) where
 len:=by unfold L2.start dt;simp [r.length]
 sw:=w
 val:=fun i d e=>by
  unfold dt at e;unfold L2.start;by_cases hi:i < ds.length
  .rw [List.getElem?_append_left (by simpa using hi),List.getElem?_map] at e
   cases q:ds[i]? with
   | none=>rw [q] at e;cases e
   | some d'=>
     rw[q] at e;cases e;obtain⟨x,h1,h2⟩:=r.get q;exact⟨x,by rw[List.getElem?_append_left (by rw[List.length_map,<-r.length];exact hi),List.getElem?_map,h1];rfl,h2⟩
  .rw [List.getElem?_append_right (by simpa using hi),List.getElem?_replicate] at e
   split at e <;> cases e
def uh(N:List Str)(F:FZ):List V3->aM->R3 V3:=fun vs S=>(F (dt N vs) S).bind fun o S'=>match o with | .rt v=> .ok v S' | .nx _=> .ok (.d .cD) S'
def yL(N:List Str)(F:FZ):List V3->aM->R3 V3:=fun vs S=>(uh N F vs S).bind fun v S'=>match res S' v with
 | some d=>R3.aU ((S'.take S.length).all (yt S.length) && m5 S.length v) (.ok (.d d) (S'.take S.length))
 | none=> .no
theorem G4{P:Program}{w:World}{K:W.Frag}{mg:Y_}{base:Heap}{cl:Za}{x qual:Str}{st:Stmt}{f:Addr}{fd:FuncData}{N ps:List Str}{k:Nat}{F:FZ}(Fn:zw K x qual st f fd)(S:bq N ps (aC st))
 (ig:∀(dF:Value) (A:Around) (outer:List Env) (s:Shared) (H:Hp) (E:XK),dH k (A.deeper (envOfC qual (aC st) s.heap.objs.size f dF))->
   EX (lR uV P w K mg base N qual (aC st) f dF A outer s H E).Hz cl (aX st) F):jt P w K mg base uV (k+1) f fd ps (Hh K cl ps.length (uh N F)):=by
 refine Fn.ok S (fun vs H Q E h=>h.1) (fun dF A outer s H vs Q E hr h=>⟨_,(ig dF A outer s H E hr).1,?_⟩)
 obtain⟨_,ρ,S,ds,v,S',w,r,hg,q⟩:=h;obtain⟨o,S1,h1,h2⟩:=R3.af hg;refine⟨ρ,S,dt N ds,o,S1,ya w r,h1,?_⟩;cases o with
 | nx dm=>
   cases h2;exact fun b8 bA H' p' E'=>q _ bA H' p' E'.sw (by unfold aV Rep;rfl)
 | rt d'=>
   cases h2;exact fun u bA H' p' w' r'=>q u bA H' p' w' r'
theorem E5{K:W.Frag}{cl:Za}{N:List Str}{n:Nat}{vs:List V}{Q:VK}{E:XK}(h:Hh K cl n (yL N F) vs H Q E):Hh K cl n (uh N F) vs H Q E:=by
 obtain⟨hl,ρ,S,xs,v,S',w,r,hg,q⟩:=h;obtain⟨v1,S1,h1,h2⟩:=R3.af hg;refine⟨hl,ρ,S,xs,v1,S1,w,r,h1,fun u bJ H1 p1 w1 r1=>?_⟩
 have pc:Pre ρ H (bJ.cut S.length) H1:=SW.FJ (K:=K) (cl:=cl) (by rw[w.len];exact Nat.le_refl _) p1
 split at h2
 .rename_i d e;obtain⟨ok,h3⟩:=R3.aL h2;obtain⟨ok,hk⟩:=Bool.and_eq_true_iff.mp ok;cases h3;refine q u _ H1 pc (w1.cut ok) ?_;unfold aV;refine r1.resB w1 (jr _) (fun k a hk a1 ha=>?_) hk e
  rcases P3.dY.mp ha with⟨z,_⟩ | z
  .obtain⟨j,hj⟩:=List.getElem?_of_mem z;have hj:(bJ.r.take S.length)[j]? =some a:=hj;rw[List.getElem?_take] at hj;split at hj
   .rename_i hjl;have:=w1.nd j k a hj a1;omega
   .cases hj
  .exact(w1.zb a z).2 (List.mem_of_getElem? a1)
 .cases h2
end L3
end
section
namespace L3
open PySem PySem.Spec PyProof.Rows L2
section
variable {X:Cx} {cl:Za}
def kX(δ:DE)(i:Nat):Option V3:=match δ[i]? with | some (some v)=>some v | _=>none
def nQ(own:List Str)(kp:List Nat)(δ:DE):DE:=List.replicate own.length none++kp.map (kX δ)
theorem HN{K:W.Frag}{S S':aM}{σ:L2.St}{δ:DE}{own:List Str}{kp:List Nat}(E:dS K cl ρ H S σ δ)(p:PW ρ H bA H')(w:SW K cl bA H' S'):dS K cl bA H' S' (c0 own kp σ) (nQ own kp δ) where
 len:=by unfold c0 nQ;simp
 sw:=w
 val:=fun i d e=>by
  unfold nQ at e;unfold c0;by_cases hi:i < own.length
  .rw [List.getElem?_append_left (by simpa using hi),List.getElem?_replicate] at e
   split at e <;> cases e
  .rw [List.getElem?_append_right (by simpa using hi),List.length_replicate,List.getElem?_map] at e ⊢
   cases q:kp[i - own.length]? with
   | none=>rw [q] at e;cases e
   | some j=>
     rw[q] at e;have e:kX δ j=some d:=Option.some.inj e;unfold kX at e;split at e
     .rename_i d' ed;cases e;obtain⟨v,h1,h2⟩:=E.val j d ed;exact⟨v,by simp [h1],h2.pw p⟩
     .cases e
def lS(t:FG)(c:FB)(f:FX)(δ:DE):List V3->aM->R3 (List V3)
 | [],S=> .ok [] S
 | v ::vs,S=>match t v δ with
   | none=> .no
   | some δ1=>(c δ1 S).bind fun b S1=>if b then(f δ1 S1).bind fun y S2=>(lS t c f δ vs S2).bind fun ys S3=> .ok (y ::ys) S3 else lS t c f δ vs S1
def rn(it:FA)(t:FG)(c:FB)(f:FX)(own:List Str)(kp:List Nat):FX:=fun δ S=>(it δ S).bind fun vs S1=>R3.aU (decide (vs.length<=sizeLine)) ((lS t c f (nQ own kp δ) vs S1).bind fun ys S2=> .ok (pZ ys) S2)
theorem az.append{K:W.Frag}:∀{ds es:List V3} {xs ys:List V},az K ρ H ds xs->az K ρ H es ys->az K ρ H (ds++es) (xs++ys)
 | [],_,_,_,h,t=>by unfold az at h;subst h;exact t
 | d ::ds,es,xs,ys,h,t=>by
   obtain⟨x,r,rfl,h1,h2⟩:=h.b_;exact az.cons h1 (az.append h2 t)
theorem Bf{K:W.Frag}{own:List Str}{kp:List Nat}{σ:L2.St}{Q:VK}(h:tX K cl (rn it t c f own kp) σ H Q) :
 A9 (Tz K cl it) (gX K cl t) (K8 K cl c) (tX K cl f) own kp σ H Q:=by
 obtain⟨ρ,S,δ,v,SF,E,hf,q⟩:=h;obtain⟨es,S1,h1,h2⟩:=R3.af hf;obtain⟨hl,h3⟩:=R3.aL h2;have hl:=of_decide_eq_true hl;obtain⟨vs,S2,h4,h5⟩:=R3.af h3;cases h5;refine⟨ρ,S,δ,es,S1,E,h1,fun J bJ H1 p1 w1 ir Dd hD=>?_⟩
 have nDz:Dd ∉ bJ.b:=fun hb=>by obtain⟨o,ho⟩:=w1.bs Dd hb;rw [hD] at ho;cases ho
 have nDr:Dd ∉ bJ.r:=fun hb=>by obtain⟨o,ho⟩:=w1.rs Dd hb;rw [hD] at ho;cases ho
 have toZ:∀{r' f':List Addr} {H':Hp},Pre bJ H1 ⟨r',bJ.z,f'⟩ H'->PW bJ H1 ⟨r',Dd ::bJ.z,f'⟩ H':=fun {r' f' H'} p=>⟨fun b o e nb=>⟨(p.br b o e nb).1,fun hb=>by
  rcases P3.dY.mp hb with z | z
  .exact(p.br b o e nb).2 (P3.dY.mpr (.inl z))
  .rcases List.mem_cons.mp z with y | y
   .exact bz e hD y
   .exact(p.br b o e nb).2 (P3.dY.mpr (.inr y))⟩,p.ext⟩
 have w0:SW K cl ⟨bJ.r,Dd ::bJ.z,bJ.f⟩ (upd H1 Dd (.lst [])) S1:=by
  have s0:aO H1 (upd H1 Dd (.lst [])):=bB hD;have ws:=w1.same s0;refine⟨ws.len,ws.nd,fun k a o hk ho=>?_,fun b hb=>?_,ws.fz,ws.ff,ws.fi⟩
  .have r:=w1.ob k a o hk ho;obtain⟨u,hu⟩:=r.some;rw[s0 a u hu,<-hu];exact r.pw (toZ (Pre.same s0))
  .rcases List.mem_cons.mp hb with y | y
   .subst y;exact⟨⟨_,aY⟩,nDr⟩
   .exact ws.zb b y
 refine⟨fun i m ys H'=>m=es.length - i/\i<=es.length/\ys.length<=i/\H' Dd=some (.lst ys)/\∃r' f' S' done rest,Pre bJ H1 ⟨r',bJ.z,f'⟩ H'/\SW K cl ⟨r',Dd ::bJ.z,f'⟩ H' S'/\vs=done++rest/\az K ⟨r',Dd ::bJ.z,f'⟩ H' done ys/\lS t c f (nQ own kp δ) (es.drop i) S'= .ok rest SF,
  ⟨es.length,rfl,Nat.zero_le _,Nat.le_refl _,aY,bJ.r,bJ.f,S1,[],vs,Pre.same (bB hD),w0,rfl,az.nil,by simpa using h4⟩,?_⟩
 rintro i m ys H' ⟨rfl,hi,hy,hDl,r',f',S',done,rest,pv,w',rfl,rd,hc⟩;obtain⟨go,stop⟩:=ir ⟨r',Dd ::bJ.z,f'⟩ H' (toZ pv) w'.bs;have unZ:∀{JH:P3} {H4:Hp},Pre ⟨r',Dd ::bJ.z,f'⟩ H' JH H4->Pre bJ H1 ⟨JH.r,bJ.z,JH.f⟩ H4:=fun {JH H4} p4=>⟨fun b o e nb=>by
  obtain⟨e1,n1⟩:=(toZ pv).br b o e nb;obtain⟨rH,n2⟩:=p4.br b o e1 n1;refine⟨rH,fun hb=>n2 ?_⟩
  rcases P3.dY.mp hb with z | z
  .exact P3.dY.mpr (.inl z)
  .exact P3.dY.mpr (.inr (by rw[p4.zz];exact List.mem_cons_of_mem _ z)),rfl,fun b o hb h=>p4.zs b o (List.mem_cons_of_mem _ hb) (pv.zs b o hb h),fun k a h=>p4.ext k a (pv.ext k a h)⟩
 by_cases hlt:i < es.length
 .have hd:es[i]? =some es[i]:=List.getElem?_eq_getElem hlt;have hdrop:es.drop i=es[i] ::es.drop (i+1):=List.drop_eq_getElem_cons hlt;rw[hdrop] at hc;unfold lS at hc;split at hc
  .cases hc
  .rename_i δ1 h6;obtain⟨b,T1,h7,h8⟩:=R3.af hc;obtain⟨g1,g2⟩:=go i _ hd;refine .inr ⟨g1,fun x H2 y=>?_⟩
   obtain⟨sy,ry⟩:=g2 x H2 y;have Ec:dS K cl ⟨r',Dd ::bJ.z,f'⟩ H2 S' (c0 own kp σ) (nQ own kp δ):=HN E (p1.pw.trans ((toZ pv).trans (Pre.same sy).pw)) (w'.same sy);refine⟨⟨r',Dd ::bJ.z,f'⟩,S',nQ own kp δ,es[i],δ1,Ec,ry,h6,fun Gx H3 s3 E3=>⟨⟨r',Dd ::bJ.z,f'⟩,S',δ1,b,T1,E3,h7,fun JH H4 p4 w4=>?_⟩⟩
   have OY:Pre ⟨r',Dd ::bJ.z,f'⟩ H' JH H4:=(Pre.same (sy.trans s3)).trans p4;cases b with
   | true=>
     rw[if_pos rfl] at h8;refine EL ?_;obtain⟨yv,T2,h9,Tc⟩:=R3.af h8;obtain⟨rs,T3,SN,W7⟩:=R3.af Tc;cases W7;refine⟨JH,T1,δ1,yv,T2,E3.to p4 w4,h9,fun v5 UT H5 p5 w5 r5=>?_⟩
     have pv5:Pre ⟨r',Dd ::bJ.z,f'⟩ H' UT H5:=OY.trans p5;have R7:H5 Dd=some (.lst ys):=pv5.zs Dd _ List.mem_cons_self hDl;have u5:=unZ pv5;obtain⟨Pt,z5,f5⟩:=UT;have ez:z5=Dd ::bJ.z:=pv5.zz;subst ez;have nr:Dd ∉ Pt:=(w5.zb Dd List.mem_cons_self).2;have pw:PW ⟨Pt,Dd ::bJ.z,f5⟩ H5 ⟨Pt,Dd ::bJ.z,f5⟩ (upd H5 Dd (.lst (ys++[v5]))):=⟨fun b o e nb=>⟨by rw[a_ (fun(z:b=Dd)=>nb (by rw[z];exact P3.dY.mpr (.inr List.mem_cons_self)))];exact e,nb⟩,fun _ _ h=>h⟩
     refine⟨R7,by omega,es.length - (i+1),by omega,rfl,hlt,by rw[List.length_append,List.length_singleton];omega,aY,Pt,f5,T2,done++[yv],rs,?_,?_,by simp,az.append ((rd.pre pv5).pw pw) (az.cons (r5.pw pw) az.nil),SN⟩
     .refine⟨fun b o e nb=>⟨by rw[a_ (bz e hD)];exact(u5.br b o e nb).1,(u5.br b o e nb).2⟩,rfl,fun b o hb h=>?_,u5.ext⟩
      rw[a_ (bz h hD)];exact u5.zs b o hb h
     .refine⟨w5.len,w5.nd,fun k a o hk ho=>?_,fun b hb=>?_,w5.fz,fun b hb=>?_,w5.fi⟩
      .have ne:a≠Dd:=fun z=>nr (by rw[<-z];exact List.mem_of_getElem? hk)
       rw[a_ ne];exact(w5.ob k a o hk ho).pw pw
      .obtain⟨⟨o,ho⟩,n⟩:=w5.zb b hb;refine⟨?_,n⟩;by_cases z:b=Dd
       .subst z;exact⟨_,aY⟩
       .rw [a_ z];exact⟨o,ho⟩
      .obtain⟨o,ho⟩:=w5.ff b hb;by_cases z:b=Dd
       .subst z;exact⟨_,aY⟩
       .rw [a_ z];exact⟨o,ho⟩
   | false=>
     rw[if_neg (by decide)] at h8
     refine Fs ?_;have XH:H4 Dd=some (.lst ys):=OY.zs Dd _ List.mem_cons_self hDl;have u4:=unZ OY;obtain⟨XN,z4,f4⟩:=JH;have ez:z4=Dd ::bJ.z:=OY.zz;subst ez;exact⟨es.length - (i+1),by omega,rfl,hlt,by omega,XH,XN,f4,T1,done,rest,u4,w4,rfl,rd.pre OY,h8⟩
 .have e:i=es.length:=by omega
  subst e;rw[List.drop_length] at hc;cases hc;rw[List.append_nil] at q;refine .inl ⟨stop,?_⟩;have back:PW ⟨r',Dd ::bJ.z,f'⟩ H' ⟨r',bJ.z,f'⟩ H':=⟨fun b o e nb=>⟨e,fun hb=>nb (by
   rcases P3.dY.mp hb with z | z
   .exact P3.dY.mpr (.inl z)
   .exact P3.dY.mpr (.inr (List.mem_cons_of_mem _ z)))⟩,fun _ _ h=>h⟩
  have wB:SW K cl ⟨r',bJ.z,f'⟩ H' _:=⟨w'.len,w'.nd,fun k a o hk ho=>(w'.ob k a o hk ho).pw back,fun b hb=>w'.zb b (List.mem_cons_of_mem _ hb),w'.fz,w'.ff,w'.fi⟩
  refine q _ ⟨r',bJ.z,f'⟩ H' (p1.trans pv) wB (vk (.inl ⟨fun hb=>?_, .inl hDl⟩) (rd.pw back))
  rcases P3.dY.mp hb with z | z
  .exact(w'.zb Dd List.mem_cons_self).2 z.1
  .exact nDz (P3.dY.mpr (.inr z))
end
end L3
end
section
namespace L3
open PySem PySem.Spec PyProof.Rows L2
section
variable {X:Cx} {cl:Za}
theorem GU{scope:Scope}{own:List Str}{kp:List Nat}{kn:List Str}{tg iter elt:Expr}{ifs:List Expr}{it:FA}{t:FG}{c:FB}{f:FX}{pos:Pos}(hc:X.calm=true)(C:cM X scope own kp kn)(hi:N3 X cl tg iter it)
 (hg:∀fp s H,OD (bC X scope (own++kn) fp s H) cl tg t) (F6:∀fp s H,rM (bC X scope (own++kn) fp s H) ifs (K8 X.K cl c)) (he:∀fp s H,PX (bC X scope (own++kn) fp s H) cl elt f)
 (hs:∀x,foldedSetIterable iter X.env x=pure x:=by intro _;rfl):PX X cl (.ListComp elt [⟨tg,iter,ifs,0⟩] scope pos) (rn it t c f own kp):=
 ⟨(A2 hc C hi.1 (fun fp s H=>(hg fp s H).1) F6 (fun fp s H=>(he fp s H).1) hs).imp fun σ H Q h=>Bf h⟩
def G2:FB:=fun _ S=> .ok true S
theorem uT:rM X [] (K8 X.K cl G2):=fun pins s σ H Q I ⟨ρ,S,δ,b,S',E,hf,q⟩=>yc pins s σ H Q I (by cases hf;exact q ρ H (Pre.refl ρ H) E.sw)
theorem Lf{K:W.Frag}{i:Nat}{D:Ends}{σ:L2.St}(h:sX K cl (lj i f) D σ H):Ct (tX K cl f) (sC i) D σ H:=by
 obtain⟨ρ,S,δ,o,S',E,hf,q⟩:=h;obtain⟨v,S1,h1,h2⟩:=R3.af hf;obtain⟨hi,h3⟩:=R3.aL h2;cases h3;refine⟨ρ,S,δ,v,_,E,h1,fun u bJ H1 p1 w1 r1=>?_⟩
 exact q _ bJ H1 p1 ((E.to p1 w1).set (by rw[<-E.len];exact of_decide_eq_true hi) r1)
theorem zE{i:Nat}{x:Str}{pos' Gb:Pos}{scope:Scope}{own:List Str}{kp:List Nat}{kn:List Str}{tg iter elt:Expr}{ifs:List Expr}{it:FA}{t:FG}{c:FB}{f:FX}{pos:Pos}(hc:X.calm=true)
 (hN:X.N.Nodup) (hx:X.N[i]? =some x) (Gu:X.env.scope.names.lookup x=some .local) (C:cM X scope own kp kn) (hi:N3 X cl tg iter it)
 (hg:∀fp s H,OD (bC X scope (own++kn) fp s H) cl tg t) (F6:∀fp s H,rM (bC X scope (own++kn) fp s H) ifs (K8 X.K cl c)) (he:∀fp s H,PX (bC X scope (own++kn) fp s H) cl elt f)
 (CB:swapsWith (.ListComp elt [⟨tg,iter,ifs,0⟩] scope pos) (some (.Name x pos')) Gb.line X.env=pure true:=by rfl)
 (hs:∀x,foldedSetIterable iter X.env x=pure x:=by intro _;rfl):PZ X cl (.Assign [.Name x pos'] (.ListComp elt [⟨tg,iter,ifs,0⟩] scope pos) Gb) (lj i (rn it t c f own kp)):=
 ⟨(zx hc hN hx Gu C hi.1 (fun fp s H=>(hg fp s H).1) F6 (fun fp s H=>(he fp s H).1) CB hs).imp fun D σ H h=>Bf (Lf h)⟩
def Yu(g:FA):FX:=fun δ S=>(g δ S).bind fun vs S1=>match qJ vs with
 | some ds=>R3.aU (decide (ds.length<=sizeLine)) (.ok (.loc S1.length) (S1++[.lst ds]))
 | none=> .no
end
end L3
end
section
namespace L3
open PySem PySem.Spec PyProof.Rows L2
section
variable {X:Cx} {cl:Za}
def vz(g:List D->R D)(fs:FA):FX:=fun δ S=>(fs δ S).bind fun vs S1=>match qJ vs with
 | some ds=>(R3.of (g ds) S1).bind fun d S=> .ok (.d d) S
 | none=> .no
theorem DB{K:W.Frag}{g:List D->R D}{σ:L2.St}{Q:VK}(h:tX K cl (vz g fs) σ H Q) :
 Tt K cl fs σ H fun vs H1=>∃B ds d,(∀a∈B,∃o,H1 a=some o)/\ay K B H1 ds vs/\g ds= .ok d/\∀z H',aO H1 H'->Rep K B H' d z->Q z H':=by
 obtain⟨ρ,S,δ,v,S',E,hf,q⟩:=h;obtain⟨vs,S1,h1,h2⟩:=R3.af hf;split at h2
 .rename_i ds e;obtain⟨d,S2,h3,h4⟩:=R3.af h2;obtain⟨h5,e5⟩:=R3.of_ok h3;cases h4;subst e5;refine⟨ρ,S,δ,vs,_,E,h1,fun us bJ H1 p1 w1 r1=>?_⟩
  rw[og e] at r1;exact⟨bJ.b,ds,d,w1.bs,r1.to,h5,fun z H' s r=>q z bJ H' (p1.trans (Pre.same s)) (w1.same s) (by unfold aV;exact r)⟩
 .cases h2
theorem BW{g:List D->R D}{x:Str}{T:String}{p pos:Pos}{e:Expr}{es:List Expr}{fs:FA}(hc:dk X (.type T) g)(hg:Gl X x)(hm:X.mg x=none)(hv:bootBuiltins x=some (.type T))(ha:Ig X cl (e ::es) fs)(hn:x≠"__name__":=by decide)(kL:(x==("__debug__":Str))=false:=by decide)
 (he:starEach (e ::es) X.env=(false,eval e X.env) ::starEach es X.env:=by rfl) (mT:(backTo pos (starEach es X.env)).any (·.1)=false:=by rfl):PX X cl (.Call (.Name x p) (e ::es) [] pos) (vz g fs):=
 ⟨(u_ hc.r hg hm hv ha.1 hn kL he mT).imp fun σ H Q h=>DB h⟩
def Yn(c:FB)(f g:FX):FX:=fun δ S=>(c δ S).bind fun b S=>if b then f δ S else g δ S
theorem gL:∀(δ:DE) (S:aM) (ds:List V3) (S':aM),dj δ S= .ok ds S'->ds.length=0:=fun δ S ds S' h=>by cases h;rfl
theorem cb{g:FA}{n:Nat}(h:∀(δ:DE) (S:aM) (ds:List V3) (S':aM),g δ S= .ok ds S'->ds.length=n):∀(δ:DE) (S:aM) (ds:List V3) (S':aM),a9 f g δ S= .ok ds S'->ds.length=n+1:=fun δ S ds S' e=>by
 obtain⟨v,S1,h1,h2⟩:=R3.af e;obtain⟨vs,S2,h3,h4⟩:=R3.af h2;cases h4;rw[List.length_cons,h δ S1 vs _ h3]
end
end L3
end
section
namespace L3
open PySem PySem.Spec PyProof.Rows L2
section
variable {X:Cx} {cl:Za}
def Ya(fa fb:FX):FX:=fun δ S=>(fa δ S).bind fun a S1=>(fb δ S1).bind fun b S2=>match a,b with
 | .d x, .d y=>(R3.of (eM x y) S2).bind fun d S=> .ok (.d d) S
 | .lst vs, .d (.int i)=>(match wY vs i with | some v=> .ok v S2 | none=> .no)
 | .tup vs, .d (.int i)=>(match wY vs i with | some v=> .ok v S2 | none=> .no)
 | _,_=> .no
end
end L3
end
section
namespace L3
open PySem PySem.Spec PyProof.Rows L2
section
variable {X:Cx} {cl:Za}
structure JV (X:Cx) (cl:Za) (e:Expr) (f:FB):Prop where
 go:L2.PW X e (K8 X.K cl f)
theorem JV.pb(h:JV X cl e f):CP X cl e f:=⟨L2.PW.pt h.1⟩
def VS(f g:FB):FB:=fun δ S=>(f δ S).bind fun b S=>if b then g δ S else .ok false S
def NZ(f g:FB):FB:=fun δ S=>(f δ S).bind fun b S=>if b then .ok true S else g δ S
def FU(f:FB):FB:=fun δ S=>(f δ S).bind fun b S=> .ok (!b) S
theorem Ax(h:CP X cl a f):JV X cl (.BoolOp .Or [a] pos) f:=⟨Dc h.1⟩
theorem Fp{rest:List Expr}(ha:CP X cl a f)(hb:JV X cl (.BoolOp .Or (b ::rest) pos) g):JV X cl (.BoolOp .Or (a ::b ::rest) pos) (NZ f g):=⟨by
 intro wh pins s σ H Q I ⟨ρ,S,δ,k,S',E,hf,q⟩;refine Ju ha.1 hb.1 wh pins s σ H Q I ?_;obtain⟨c,S1,h1,h2⟩:=R3.af hf;refine⟨ρ,S,δ,c,S1,E,h1,fun bJ H1 p1 w1=>?_⟩
 cases c with
 | true=>rw [if_pos rfl] at h2 ⊢;cases h2;exact q bJ H1 p1 w1
 | false=>rw [if_neg (by decide)] at h2 ⊢;exact⟨bJ,S1,δ,k,S',E.to p1 w1,h2,fun pU H' p2 w2=>q pU H' (p1.trans p2) w2⟩⟩
theorem Ah(ha:CP X cl a f):CP X cl (.UnaryOp .Not a pos) (FU f):=⟨(EE ha.1).imp fun σ H Q ⟨ρ,S,δ,k,S',E,hf,q⟩=>by
 obtain⟨c,S1,h1,h2⟩:=R3.af hf;cases h2;exact⟨ρ,S,δ,c,_,E,h1,fun bJ H1 p1 w1=>q bJ H1 p1 w1⟩⟩
def VB(f:FX):FB:=fun δ S=>(f δ S).bind fun v S=>match v with | .d d=>R3.of (Me d) S | _=> .no
abbrev MJ:=DE->aM->R3 (Option Int)
def VE(K:W.Frag)(cl:Za)(f:MJ):TO:=fun σ H Q=>∃ρ S δ o S',dS K cl ρ H S σ δ/\f δ S= .ok o S'/\∀bA H',Pre ρ H bA H'->SW K cl bA H' S'->Q o H'
structure YT (X:Cx) (cl:Za) (e:Option Expr) (f:MJ):Prop where
 go:PO X e (VE X.K cl f)
def P0:MJ:=fun _ S=> .ok none S
def Qk(f:FX):MJ:=fun δ S=>(f δ S).bind fun v S=>match v with | .d (.int i)=> .ok (some i) S | _=> .no
def Yj(f:FX)(fl fh:MJ):FX:=fun δ S=>(f δ S).bind fun v S1=>(fl δ S1).bind fun lo S2=>(fh δ S2).bind fun hi S3=>match v with
 | .d d=>(R3.of (MG d lo hi) S3).bind fun r S=> .ok (.d r) S
 | _=> .no
end
end L3
end
section
namespace L2
open PySem PySem.Spec PyProof.Rows
section
variable {X:Cx}
def LB(t T:String):Bool:=t==T || (t=="bool" && T=="int")
def VQ(T:String)(f:FD):FD:=fun δ=>(f δ).bind fun d=>match d with | .dct _ _=> .no | _=> .ok (.bl (LB (tyName d) T))
def nList(f:FD):ao->R (List D):=fun δ=>(f δ).bind fun d=>match d with | .lst ds=> .ok ds | .tup ds=> .ok ds | _=> .no
end
end L2
namespace L3
open PySem PySem.Spec PyProof.Rows L2
theorem tG{P:Program}{w:World}{K:W.Frag}{mg:Y_}{base:Heap}{cl:Za}{x qual:Str}{st:Stmt}{f:Addr}{fd:FuncData}{N ps:List Str}{k:Nat}{F:FZ}{b:List Stmt}{sc:Scope}(hb:aX st=b)(hs:aC st=sc)(Fn:zw K x qual st f fd)(S:bq N ps sc)
 (ig:∀(dF:Value) (A:Around) (outer:List Env) (s:Shared) (H:Hp) (E:XK),dH k (A.deeper (envOfC qual sc s.heap.objs.size f dF))->
   EX (lR uV P w K mg base N qual sc f dF A outer s H E).Hz cl b F):jt P w K mg base uV (k+1) f fd ps (Hh K cl ps.length (uh N F)):=by
 subst hb hs;exact G4 Fn S ig
theorem qA.p{K:W.Frag}{mg:Y_}{cl:Za}{k:Nat}{n:Nat}{N:List Str}(C:qA P w K mg base cl k x n (uh N F)):qA P w K mg base cl k x n (yL N F):=
 let⟨f,fd,ps,F,h⟩:=C;⟨f,fd,ps,F.imp fun _ _ _ _ h=>E5 h,h⟩
def O4(N:List Str)(F:FZ):List D->R D:=fun ds=>match yL N F (ds.map .d) [] with
 | .ok (.d d) []=>R.aU d.atom (.ok d)
 | _=> .no
theorem L5{K:W.Frag}{cl:Za}{N:List Str}{n:Nat}{vs:List V}{Q:VK}{E:XK}(h:GW K n (O4 N F) vs H Q E):Hh K cl n (uh N F) vs H Q E:=by
 obtain⟨hl,B,ds,d,hb,r,hg,q⟩:=h;unfold O4 at hg;split at hg
 .rename_i d' e;obtain⟨ha,h2⟩:=R.aL hg;cases h2;have r0:ay K (⟨[],[],[]⟩:P3).b H ds vs:=r.br fun b o e _=>⟨e,by simp [P3.b]⟩
  refine E5 ⟨hl,⟨[],[],[]⟩,[],ds.map .d, .d d,[],⟨rfl,fun i j a hi=>by simp at hi,fun k a o hk=>by simp at hk,fun b hb=>by simp at hb,fun k a hk=>by simp at hk,fun b hb=>by simp at hb,fun k a hk=>by simp at hk⟩,az.of r0,e,fun u bA H' p w' r'=>q u H' (fun b o eb=>?_) ?_⟩
  .exact(p.br b o eb (by simp [P3.b])).1
  .unfold aV at r';exact r'.atom ha
 .cases hg
section
variable {X:Cx} {cl:Za}
def P8(f:FX):FA:=fun δ S=>(f δ S).bind fun v S=>match v with | .d (.tup ds)=> .ok (ds.map .d) S | .tup vs=> .ok vs S | _=> .no
end
end L3
end
section
namespace L3
open PySem PySem.Spec PyProof.Rows L2
def W3{α:Type}(r:R3 α)(Q:α->aM->Prop):Prop:=∃a S,r= .ok a S/\Q a S
section
variable {α β:Type} {Q Q':α->aM->Prop} {S:aM} {δ:DE}
theorem W3.ok{a:α}(h:Q a S):W3 (.ok a S) Q:=⟨a,S,rfl,h⟩
theorem W3.bind{Q:β->aM->Prop}{r:R3 α}{f:α->aM->R3 β}(h:W3 r fun a S=>W3 (f a S) Q):W3 (r.bind f) Q:=by
 obtain⟨a,S1,e1,b,S2,h2,q⟩:=h;exact⟨b,S2,by rw[e1];exact h2,q⟩
theorem W3.mono{r:R3 α}(h:W3 r Q)(m:∀a S,Q a S->Q' a S):W3 r Q':=let⟨a,S,e,q⟩:=h;⟨a,S,e,m a S q⟩
theorem W3.wh{c:Bool}{r:R3 α}(hc:c=true)(h:W3 r Q):W3 (R3.aU c r) Q:=by rw[hc];exact h
theorem W3.of{r:R α}{a:α}(e:r= .ok a)(h:Q a S):W3 (R3.of r S) Q:=by rw[e];exact⟨a,S,rfl,h⟩
end
section
variable {S:aM} {δ:DE} {QV:V3->aM->Prop} {QB:Bool->aM->Prop} {QA:List V3->aM->Prop} {QO:Ou->aM->Prop}
theorem ik{f:FD}{d:D}(e:f (down δ)= .ok d)(h:QV (.d d) S):W3 (xP f δ S) QV:=W3.bind (W3.of e (W3.ok h))
theorem Vx{f:FD}{d:D}(e:f (n3 S δ)= .ok d)(ha:xU d=true)(h:QV (.d d) S):W3 (xT f δ S) QV:=W3.bind (W3.of e (W3.wh ha (W3.ok h)))
theorem vZ{f:ao->R Bool}{b:Bool}(e:f (down δ)= .ok b)(h:QB b S):W3 (bP f δ S) QB:=W3.of e h
theorem w_var{i:Nat}{v:V3}(e:δ[i]? =some (some v))(h:QV v S):W3 (bK i δ S) QV:=by unfold bK;rw [e];exact W3.ok h
theorem FR{f:ao->R (List D)}{ds:List D}(e:f (down δ)= .ok ds)(h:QV (.loc S.length) (S++[.lst ds])):W3 (Eg f δ S) QV:=W3.bind (W3.of e (W3.ok h))
theorem ie(h:QA [] S):W3 (dj δ S) QA:=W3.ok h
theorem bY{f:FX}{g:FA}(h:W3 (f δ S) fun v S1=>W3 (g δ S1) fun vs S2=>QA (v ::vs) S2):W3 (a9 f g δ S) QA:=W3.bind (h.mono fun _ _ h=>W3.bind (h.mono fun _ _ h=>W3.ok h))
theorem NR{g:FA}(h:W3 (g δ S) fun vs S1=>vs.length<=sizeLine/\QV (yp vs) S1):W3 (zG g δ S) QV:=W3.bind (h.mono fun _ _ h=>W3.wh (decide_eq_true h.1) (W3.ok h.2))
theorem Jo{g:FA}(h:W3 (g δ S) fun vs S1=>vs.length<=sizeLine/\QV (pZ vs) S1):W3 (yR g δ S) QV:=W3.bind (h.mono fun _ _ h=>W3.wh (decide_eq_true h.1) (W3.ok h.2))
theorem Na{g:D->D->R D}{fa fb:FX}(h:W3 (fa δ S) fun a S1=>W3 (fb δ S1) fun b S2=>∃x y d,a= .d x/\b= .d y/\g x y= .ok d/\QV (.d d) S2):W3 (x2 g fa fb δ S) QV:=
 W3.bind (h.mono fun _ _ h=>W3.bind (h.mono fun _ _ ⟨_,_,_,e1,e2,e3,q⟩=>by subst e1 e2;exact W3.bind (W3.of e3 (W3.ok q))))
theorem J4{g:D->D->R D}{fa fb:FX}(h:W3 (fa δ S) fun a S1=>W3 (fb δ S1) fun b S2=>∃x y k,a= .d x/\b= .d y/\g x y= .ok (.bl k)/\QB k S2):W3 (Oh g fa fb δ S) QB:=
 W3.bind (Na (h.mono fun _ _ h=>h.mono fun _ _ ⟨x,y,k,e1,e2,e3,q⟩=>⟨x,y, .bl k,e1,e2,e3,W3.ok q⟩))
theorem EV{g:List V3->aM->R3 V3}{fs:FA}(h:W3 (fs δ S) fun vs S1=>W3 (g vs S1) QV):W3 (rF g fs δ S) QV:=W3.bind h
theorem G1{g:List D->R D}{fs:FA}(h:W3 (fs δ S) fun vs S1=>∃ds d,vs=ds.map .d/\g ds= .ok d/\QV (.d d) S1):W3 (vz g fs δ S) QV:=
 W3.bind (h.mono fun _ _ ⟨ds,_,e1,e2,q⟩=>by subst e1;rw [qx];exact W3.bind (W3.of e2 (W3.ok q)))
theorem DS{it:FA}{own:List Str}{kp:List Nat}(h:W3 (it δ S) fun vs S1=>vs.length<=sizeLine/\W3 (lS t c f (nQ own kp δ) vs S1) fun ys S2=>QV (pZ ys) S2):W3 (rn it t c f own kp δ S) QV:=
 W3.bind (h.mono fun _ _ h=>W3.wh (decide_eq_true h.1) (W3.bind (h.2.mono fun _ _ h=>W3.ok h)))
theorem d8{F G:FZ}(h:W3 (F δ S) fun o S1=>∃δ1,o= .nx δ1/\W3 (G δ1 S1) QO):W3 (cB F G δ S) QO:=W3.bind (h.mono fun _ _ ⟨_,e,h⟩=>by subst e;exact h)
theorem JN{F G:FZ}(h:W3 (F δ S) fun o S1=>∃v,o= .rt v/\QO (.rt v) S1):W3 (cB F G δ S) QO:=W3.bind (h.mono fun _ _ ⟨_,e,h⟩=>by subst e;exact W3.ok h)
theorem jl{i:Nat}{f:FX}(hi:i < δ.length)(h:W3 (f δ S) fun v S1=>QO (.nx (δ.set i (some v))) S1):W3 (lj i f δ S) QO:=W3.bind (h.mono fun _ _ h=>W3.wh (decide_eq_true hi) (W3.ok h))
theorem u7{f:FX}(h:W3 (f δ S) fun v S1=>QO (.rt v) S1):W3 (za f δ S) QO:=W3.bind (h.mono fun _ _ h=>W3.ok h)
theorem E6{c:FB}{F G:FZ}(h:W3 (c δ S) fun b S1=>if b then W3 (F δ S1) QO else W3 (G δ S1) QO):W3 (ug c F G δ S) QO:=W3.bind (h.mono fun b _ h=>by cases b <;> exact h)
theorem wR(h:QO (.nx δ) S):W3 (mi δ S) QO:=W3.ok h
theorem FI{f:ao->R (List D)}{ds:List D}(e:f (down δ)= .ok ds)(h:QA (ds.map .d) S):W3 (iP f δ S) QA:=W3.bind (W3.of e (W3.ok h))
theorem Oo{it:FA}(h:W3 (it δ S) fun vs S1=>W3 (ia t F vs δ S1) QO):W3 (zy it t F δ S) QO:=W3.bind h
theorem tW{t:FG}{body:FZ}:∀(vs:List V3) (n:Nat) (P:Nat->DE->aM->Prop) {δ:DE} {S:aM},P n δ S->
 (∀i v δ S,vs[i]? =some v->P (n+i) δ S->∃δ1,t v δ=some δ1/\W3 (body δ1 S) fun o S1=>∃h_,o= .nx h_/\P (n+i+1) h_ S1)->W3 (ia t body vs δ S) fun o S1=>∃h_,o= .nx h_/\P (n+vs.length) h_ S1
 | [],n,P,δ,S,h0,_=>W3.ok ⟨δ,rfl,h0⟩
 | v ::vs,n,P,δ,S,h0,hs=>by
   obtain⟨δ1,e1,o,S1,e2,h_,rfl,p2⟩:=hs 0 v δ S rfl h0;have ih:=tW vs (n+1) P p2 (fun i v' dm S' hi hp=>by
    have:=hs (i+1) v' dm S' (by simpa using hi) (by rw[show n+(i+1)=n+1+i by omega];exact hp)
    rw[show n+(i+1)+1=n+1+i+1 by omega] at this
    exact this)
   rw[show n+1+vs.length=n+(v ::vs).length by rw[List.length_cons];omega] at ih
   unfold ia;rw[e1];refine W3.bind ⟨_,_,e2,?_⟩;exact ih
theorem Bu{t:FG}{body:FZ}{vs:List V3}(P:Nat->DE->aM->Prop){δ:DE}{S:aM}(h0:P 0 δ S)
 (hs:∀i v δ S,vs[i]? =some v->P i δ S->∃δ1,t v δ=some δ1/\W3 (body δ1 S) fun o S1=>∃h_,o= .nx h_/\P (i+1) h_ S1):W3 (ia t body vs δ S) fun o S1=>∃h_,o= .nx h_/\P vs.length h_ S1:=by
 have:=tW (t:=t) (body:=body) vs 0 P h0 (fun i v δ S hi hp=>by simpa using hs i v δ S hi (by simpa using hp))
 simpa using this
theorem sM{t:FG}{c:FB}{f:FX}{δ:DE}:∀(vs:List V3) (n:Nat) (P:Nat->List V3->aM->Prop) {ys:List V3} {S:aM},P n ys S->
 (∀i v ys S,vs[i]? =some v->P (n+i) ys S->∃δ1,t v δ=some δ1/\W3 (c δ1 S) fun b S1=>if b then W3 (f δ1 S1) fun y S2=>P (n+i+1) (ys++[y]) S2 else P (n+i+1) ys S1)->W3 (lS t c f δ vs S) fun zs S1=>P (n+vs.length) (ys++zs) S1
 | [],n,P,ys,S,h0,_=>W3.ok (by rw[List.append_nil];exact h0)
 | v ::vs,n,P,ys,S,h0,hs=>by
   obtain⟨δ1,e1,b,S1,e2,h2⟩:=hs 0 v ys S rfl h0;have ih:∀{OX S'},P (n+1) OX S'->W3 (lS t c f δ vs S') fun zs S1=>P (n+(v ::vs).length) (OX++zs) S1:=fun {OX S'} p=>by
    have:=sM (t:=t) (c:=c) (f:=f) (δ:=δ) vs (n+1) P p (fun i v' OX S' hi hp=>by
     have:=hs (i+1) v' OX S' (by simpa using hi) (by rw[show n+(i+1)=n+1+i by omega];exact hp)
     rw[show n+(i+1)+1=n+1+i+1 by omega] at this
     exact this)
    rw[show n+1+vs.length=n+(v ::vs).length by rw[List.length_cons];omega] at this
    exact this
   unfold lS;rw[e1];refine W3.bind ⟨b,S1,e2,?_⟩;cases b with
   | true=>
     rw[if_pos rfl] at h2 ⊢;exact W3.bind (h2.mono fun y S2 p=>W3.bind ((ih p).mono fun zs S3 q=>W3.ok (by rw[List.append_assoc] at q;exact q)))
   | false=>rw [if_neg (by decide)] at h2 ⊢;exact ih h2
theorem B9{t:FG}{c:FB}{f:FX}{δ:DE}{vs:List V3}(P:Nat->List V3->aM->Prop){S:aM}(h0:P 0 [] S)
 (hs:∀i v ys S,vs[i]? =some v->P i ys S->∃δ1,t v δ=some δ1/\W3 (c δ1 S) fun b S1=>if b then W3 (f δ1 S1) fun y S2=>P (i+1) (ys++[y]) S2 else P (i+1) ys S1):W3 (lS t c f δ vs S) fun zs S1=>P vs.length zs S1:=by
 have:=sM (t:=t) (c:=c) (f:=f) (δ:=δ) vs 0 P h0 (fun i v ys S hi hp=>by simpa using hs i v ys S hi (by simpa using hp))
 simpa using this
theorem IV{QB:Bool->aM->Prop}(h:QB true S):W3 (G2 δ S) QB:=W3.ok h
theorem Tu{N:List Str}{F:FZ}{vs:List V3}{δ:DE}(e:dt N vs=δ)(h:W3 (F δ S) fun o S1=>∃v,o= .rt v/\QV v S1):W3 (uh N F vs S) QV:=by
 subst e;exact W3.bind (h.mono fun _ _ ⟨_,e,q⟩=>by subst e;exact W3.ok q)
def UC(S:aM):Prop:=∀o∈S,∃ds,o=SO.lst ds
end
section
variable {S:aM} {δ:DE} {QV:V3->aM->Prop}
theorem Iv{it:FA}{t:FG}{c:FB}{f:FX}{own:List Str}{kp:List Nat}(P:Nat->List D->aM->Prop)(h:W3 (it δ S) fun vs S1=>vs.length<=sizeLine/\P 0 [] S1/\
 (∀i v ds S2,vs[i]? =some v->P i ds S2->∃δ1,t v (nQ own kp δ)=some δ1/\W3 (c δ1 S2) fun b S3=>if b then W3 (f δ1 S3) fun y S4=>∃d,y= .d d/\P (i+1) (ds++[d]) S4 else P (i+1) ds S3)/\
 ∀ds S2,P vs.length ds S2->QV (.d (.lst ds)) S2):W3 (rn it t c f own kp δ S) QV:=by
 refine DS (h.mono fun vs S1 ⟨hl,h0,hs,hq⟩=>⟨hl,?_⟩)
 refine(B9 (fun i ys S=>∃ds,ys=ds.map V3.d/\P i ds S) ⟨[],rfl,h0⟩ ?_).mono fun zs S2 ⟨ds,e,p⟩=>?_
 .rintro i v ys S2 hv ⟨ds,rfl,p⟩;obtain⟨δ1,e1,h1⟩:=hs i v ds S2 hv p;refine⟨δ1,e1,h1.mono fun b S3 h3=>?_⟩
  cases b with
  | true=>
    rw[if_pos rfl] at h3 ⊢;exact h3.mono fun y S4 ⟨d,e,p⟩=>by subst e;exact⟨ds++[d],by simp,p⟩
  | false=>rw [if_neg (by decide)] at h3 ⊢;exact⟨ds,rfl,h3⟩
 .subst e;unfold pZ;rw[qx];exact hq ds S2 p
structure kN (n:Nat) (d:D):Prop where
 pl:cH d=true
 ly:(toPy d).canLay0=true
 dp:(toPy d).depth<=n
theorem kN.int(i:Int):kN 0 (.int i):=⟨by unfold cH;rfl,by unfold toPy PyData.canLay0;rfl,by unfold toPy PyData.depth;omega⟩
theorem kN.bl(b:Bool):kN 0 (.bl b):=⟨by unfold cH;rfl,by unfold toPy PyData.canLay0;rfl,by unfold toPy PyData.depth;omega⟩
theorem kN.str(h:(PyData.str s).canLay0=true):kN 0 (.str s):=⟨by unfold cH;rfl,by unfold toPy;exact h,by unfold toPy PyData.depth;omega⟩
theorem kN.mono{n m:Nat}{d:D}(h:kN n d)(hm:n<=m):kN m d:=⟨h.pl,h.ly,Nat.le_trans h.dp hm⟩
theorem kN.all{n:Nat}:∀{ds:List D},(∀d∈ds,kN n d)->gr ds=true/\PyData.canLayAll0 (km ds)=true/\PyData.depthAll (km ds)<=n
 | [],_=>⟨by unfold gr;rfl,by unfold km PyData.canLayAll0;rfl,by unfold km PyData.depthAll;omega⟩
 | d ::ds,h=>by
   obtain⟨h1,h2,h3⟩:=kN.all (ds:=ds) fun x hx=>h x (List.mem_cons_of_mem _ hx)
   have f:=h d List.mem_cons_self;refine⟨by unfold gr;rw [f.pl,h1];rfl,by unfold km PyData.canLayAll0;rw [f.ly,h2];rfl,?_⟩
   unfold km PyData.depthAll;have:=f.dp;omega
theorem kN.lst{n:Nat}{ds:List D}(h:∀d∈ds,kN n d):kN (n+1) (.lst ds):=by
 obtain⟨h1,h2,h3⟩:=kN.all h;exact⟨by unfold cH;exact h1,by unfold toPy PyData.canLay0;exact h2,by unfold toPy PyData.depth;omega⟩
theorem kN.sh{n:Nat}{d:D}(h:kN n d)(hn:n<=64):SeqAt.shaped (toPy d)=true:=by
 unfold SeqAt.shaped;rw[h.ly,decide_eq_true (Nat.le_trans h.dp hn)];rfl
theorem Md{d e:List D}:Gk (.lst d) (.lst e)=R.aU (cH (.lst d) && cH (.lst e) && SeqAt.shaped (toPy (.lst d)) && SeqAt.shaped (toPy (.lst e))) (.ok (PyData.eqv (toPy (.lst d)) (toPy (.lst e)))):=rfl
theorem kN.TC{n:Nat}{ds:List D}(h:kN n (.lst ds))(hn:n<=64):Gk (.lst ds) (.lst ds)= .ok true:=by
 rw[Md,h.pl,h.sh hn,SeqAt.eqv_refl _ h.ly];rfl
theorem kN.NO(zs:List Int):kN 1 (.lst (zs.map .int)):=kN.lst fun d hd=>by obtain⟨x,_,rfl⟩:=List.mem_map.mp hd;exact kN.int x
end
end L3
end
section
namespace L2
open PySem PySem.Spec PyProof.Rows
section
variable {X:Cx}
def Jb:D->Bool | .cD=>true | _=>false
def Yk(d e:D):R D:=match e with | .cD=> .ok (.bl (Jb d)) | _=> .no
def Wq(d e:D):R D:=match e with | .cD=> .ok (.bl (!Jb d)) | _=> .no
theorem Bz:kf X (.type "int") (fun xs H Q=>∃x n,xs=[.str x]/\PySem.intText? x=some n/\x.length<=640/\Q (.int n) H):=by
 intro pins s σ H xs us Q I r h;obtain⟨x,n,rfl,h1,h2,q⟩:=h;obtain⟨u,rfl,ru⟩:=vals1 r;obtain⟨t,rfl⟩:=ru;exact PySem.W.KIN.call_text h1 h2 ⟨.int n,H,I.tok _,⟨_,rfl⟩,q⟩
def DF:List D->R D
 | [.str x]=>R.aU (decide (x.length<=640)) (match PySem.intText? x with | some n=> .ok (.int n) | none=> .no)
 | _=> .no
theorem LP:dk X (.type "int") DF:=dk.of Bz fun B H ds d xs Q _ rs hg q=>by
 unfold DF at hg;split at hg
 .obtain⟨h1,h2⟩:=R.aL hg;split at h2
  .rename_i e;cases h2;obtain⟨x,rfl,r⟩:=rs.one;exact⟨_,_,by rw[Rep.str.mp r],e,of_decide_eq_true h1,q _ H (aO.refl H) (Rep.int.mpr rfl)⟩
  .cases h2
 .cases hg
def xC(ds:List D):R D:=match ds with | [.str _]=>DF ds | _=>cInt ds
theorem EW:dk X (.type "int") xC:=dk.or LP Nn fun a d h=>by
 unfold xC at h;split at h
 .exact .inl h
 .exact .inr h
def LO(f:FD):FD:=fun δ=>(f δ).bind fun d=>match d with | .int i=> .ok (.int (-i)) | _=> .no
theorem Ak(h:QD X a f):QD X (.UnaryOp .USub a pos) (LO f):=⟨(Nx Ko h.1).imp fun σ H Q ⟨Z,B,δ,d,E,hf,q⟩=>by
 obtain⟨d1,h1,h2⟩:=R.af hf;split at h2
 .cases h2;exact⟨Z,B,δ,_,E,h1,fun v H1 s1 r1=>⟨_,Rep.int.mp r1,q _ H1 s1 (Rep.int.mpr rfl)⟩⟩
 .cases h2⟩
def Tw(d:D)(ds:List D):R D:=match d,ds with
 | .str x,[.str y]=> .ok (.int (Txt.find x y))
 | _,_=> .no
def VF(aw:List (Str × Str)):D:= .dct (aw.map fun p=>Sum.inr p.1) (aw.map fun p=> .str p.2)
def Yv(aw:List (Str × Str)):List (Key × V):=aw.map fun p=>((Sum.inr p.1:Key),V.str p.2)
def Eu(d k:D):R D:=match d,k with
 | .dct ks ds, .str x=>(match (ks.zip ds).find? fun p=>decide (p.1=Sum.inr x) with | some p=> .ok p.2 | none=> .no)
 | _,_=> .no
theorem rm{K:W.Frag}{B:List Addr}{k:Key}{v:Key × D}:∀{aw:List (Key × V)} {ds:List D},ay K B H ds (aw.map (·.2))->(((aw.map (·.1)).zip ds).find? fun p=>decide (p.1=k))=some v->∃x,jy aw k=some x/\Rep K B H v.2 x
 | [],ds,r,h=>by simp at h
 | (k1,v1) ::aw,[],r,h=>by simp at h
 | (k1,v1) ::aw,d ::ds,r,h=>by
   obtain⟨x,xs,e,r1,r2⟩:=r.b_;cases e;rw[List.map_cons,List.zip_cons_cons,List.find?_cons] at h;unfold jy;rw[List.find?_cons];by_cases hk:k1=k
   .have e1:decide (k1=k)=true:=decide_eq_true hk;simp only[e1] at h ⊢;cases h;exact⟨_,rfl,r1⟩
   .have e1:decide (k1=k)=false:=decide_eq_false hk;simp only[e1] at h ⊢;exact rm r2 h
theorem Ez(hu:X.A.units+1 < cLine)(ho:QD X o f)(hi:QD X i g)(hs:FQ i):QD X (.Subscript o i pos) (e2 Eu f g):=by
 refine⟨(Bh hu ho.1 hi.1 hs).imp fun σ H Q ⟨Z,B,δ,d,E,hf,q⟩=>?_⟩
 obtain⟨d1,h1,h2⟩:=R.af hf;obtain⟨d2,h3,h4⟩:=R.af h2;refine⟨Z,B,δ,d1,E,h1,fun v1 H1 s1 r1=>⟨Z,B,δ,d2,E.same s1,h3,fun v2 H2 s2 r2=>?_⟩⟩
 unfold Eu at h4;split at h4
 .split at h4
  .rename_i ks ds x _ p e;cases h4;have yH:=r1.same s2;unfold Rep at yH;obtain⟨a,aw,rfl,⟨_,hH⟩,rfl,rs⟩:=yH;obtain⟨y,ey,ry⟩:=rm rs e;refine⟨a,y,rfl,?_,q _ H2 (s1.trans s2) ry⟩;rw[Rep.str.mp r2,<-ey];exact nH.k (k:=Sum.inr x) hH
  .cases h4
 .cases h4
end
end L2
namespace L3
open PySem PySem.Spec PyProof.Rows L2
section
variable {X:Cx} {cl:Za}
def T7(f:FX):FB:=fun δ S=>(f δ S).bind fun v S=>match v with | .d (.bl b)=> .ok b S | _=> .no
def Wv(f g:FX):FX:=fun δ S=>(T7 f δ S).bind fun b S=>if b then g δ S else .ok (.d (.bl false)) S
def YV(f g:FX):FX:=fun δ S=>(T7 f δ S).bind fun b S=>if b then .ok (.d (.bl true)) S else g δ S
def VH(i:Nat)(F:FZ):FZ:=fun δ S=>match qz δ i with
 | some k=>(match c5 S k with | some ds=>F (δ.set i (some (.d (.lst ds)))) (S.set k .lP) | none=> .no)
 | none=> .no
end
def Flat(S:aM):Prop:=∀o∈S,∀n,yt n o=true
theorem Flat.nil:Flat []:=fun o ho=>by cases ho
end L3
end
section
namespace PySem
open Sem (wp)
open AutoSeq1 (wpAny_loadPart')
section
variable {prog:Program} {w:World} {A:Around} {E:Y6} {s:Shared}
end
end PySem
namespace L2
open PySem PySem.Spec PyProof.Rows
section
variable {X:Cx}
def Pf(f:FD):FD:=fun δ=>(f δ).bind fun d=>match d with
 | .int j=>R.aU (decide (-(2 ^ 62)<=j/\j < 16777216)) (.ok (.tup (rN 0 j.toNat)))
 | _=> .no
end
end L2
end
section
namespace PySem
open Sem (wp)
open AutoSeq1 (wpAny_loadPart')
section
variable {prog:Program} {w:World} {A:Around} {E:Y6} {s:Shared}
end
end PySem
namespace L2
open PySem PySem.Spec PyProof.Rows
def Wy(K:W.Frag)(a:Addr):It:=
 ⟨fun i H=>∃xs x,q9 K H a xs/\xs[i]? =some x,fun i H v H'=>∃p x,H p=none/\v= .ref p/\(∀xs,q9 K H a xs->xs[i]? =some x)/\H'=upd H p (.tup [.int i,x]),fun i H=>∃xs,q9 K H a xs/\xs.length<=i⟩
section
variable {X:Cx}
def Pd(f:FD):ao->R (List D):=fun δ=>(f δ).bind fun d=>match d with | .tup ds=> .ok (yr ds) | _=> .no
end
end L2
end
section
namespace L2
open PySem PySem.Spec PyProof.Rows
section
variable {X:Cx}
abbrev Ua:D->D->R D:=Gn (fun _ j=>decide (0 < j/\j.natAbs.log2 < 9000)) fun i j=>i / j
def W2(f:ao->R (List D))(g:FD):ao->R (List D):=fun δ=>(f δ).bind fun ds=>(g δ).bind fun d=>match d with
 | .int k=>R.aU (decide (0<=k/\k < 1000000/\ds.length*k.toNat<=sizeLine)) (.ok (List.replicate k.toNat ds).flatten)
 | _=> .no
def Es(ns:List Int):List Int:=ns.mergeSort fun a b=>decide (a<=b)
def O3:List D->R D
 | [.lst ds]=>(match ints? ds with | some ns=>R.aU (decide (ns.length < 64)) (.ok (.lst ((Es ns).map .int))) | none=> .no)
 | _=> .no
def Ue:List D->R D
 | [.lst ds]=>(match ints? ds with | some (n ::ns)=> .ok (.int (ns.foldl min n)) | _=> .no)
 | ds=>P4 ds
def TU:List D->R D
 | [.lst ds]=>(match ints? ds with | some (n ::ns)=> .ok (.int (ns.foldl max n)) | _=> .no)
 | ds=>QX ds
end
end L2
namespace L3
open PySem PySem.Spec PyProof.Rows L2
def Nw(S:aM):V3->Option (List D)
 | .d (.lst ds)=>some ds
 | .loc k=>c5 S k
 | _=>none
section
variable {X:Cx} {cl:Za}
def WJ(fa fb:FX):FX:=fun δ S=>(fa δ S).bind fun a S1=>(fb δ S1).bind fun b S2=>match Nw S2 a,Nw S2 b with
 | some ds,some es=>R3.aU (decide (ds.length+es.length<=sizeLine)) (.ok (.loc S2.length) (S2++[.lst (ds++es)]))
 | _,_=> .no
def VX(i:Nat):FZ:=fun δ S=>match qz δ i with
 | none=> .no
 | some k=>(match c5 S k with | some _=> .ok (.nx δ) (S.set k (.lst [])) | none=> .no)
end
end L3
end
section
namespace L3
open PySem PySem.Spec PyProof.Rows L2
def lX(S:aM)(c k:Nat):Option (List (Str × V3)):=match S[k]? with | some (.ins c' fs)=>(if c'=c then some fs else none) | _=>none
theorem mm{S:aM}{c k:Nat}{fs:List (Str × V3)}(h:lX S c k=some fs):S[k]? =some (.ins c fs):=by
 unfold lX at h;split at h
 .rename_i c' mY e;split at h
  .rename_i hc;cases h;rw [e,hc]
  .cases h
 .cases h
theorem z_{K:W.Frag}{v:V3}:∀{fs:List (Str × V3)} {ys:List (Str × V)},ys.map (·.1)=fs.map (·.1)->az K ρ H (fs.map (·.2)) (ys.map (·.2))->fs.lookup f=some v->∃x,ys.lookup f=some x/\aV K ρ H v x
 | [],ys,_,_,h=>by simp at h
 | (g,w) ::fs,[],e,_,_=>by simp at e
 | (g,w) ::fs,(g',y) ::ys,e,r,h=>by
   obtain⟨e1,rH⟩:=List.cons.inj e;have e1:g'=g:=e1;subst e1;obtain⟨x,xs,ex,r1,r2⟩:=r.b_;cases ex;rw[List.lookup_cons] at h ⊢;cases hq:f==g' with
   | true=>rw [hq] at h;cases h;exact⟨y,rfl,r1⟩
   | false=>rw [hq] at h;exact z_ rH r2 h
theorem xX:∀{fs:List (Str × V3)} {ys:List (Str × V)},ys.map (·.1)=fs.map (·.1)->fs.lookup f=none->ys.lookup f=none
 | [],[],_,_=>rfl
 | [],_ ::_,e,_=>by simp at e
 | _ ::_,[],e,_=>by simp at e
 | (g,w) ::fs,(g',y) ::ys,e,h=>by
   obtain⟨e1,rH⟩:=List.cons.inj e;have e1:g'=g:=e1;subst e1;rw[List.lookup_cons] at h ⊢;cases hq:f==g' with
   | true=>rw [hq] at h;cases h
   | false=>rw [hq] at h;exact xX rH h
def wC(f:Str)(v:V3):List (Str × V3)->List (Str × V3)
 | []=>[(f,v)]
 | (g,x) ::r=>if g=f then(g,v) ::r else(g,x) ::wC f v r
theorem A8{K:W.Frag}{f:Str}{v:V3}{u:V}(rv:aV K ρ H v u):∀{fs:List (Str × V3)} {ys:List (Str × V)},ys.map (·.1)=fs.map (·.1)->az K ρ H (fs.map (·.2)) (ys.map (·.2))->
 (k_ f u ys).map (·.1)=(wC f v fs).map (·.1)/\az K ρ H ((wC f v fs).map (·.2)) ((k_ f u ys).map (·.2))
 | [],[],_,_=>⟨rfl,az.cons rv az.nil⟩
 | [],_ ::_,e,_=>by simp at e
 | _ ::_,[],e,_=>by simp at e
 | (g,w) ::fs,(g',y) ::ys,e,r=>by
   obtain⟨e1,rH⟩:=List.cons.inj e;have e1:g'=g:=e1;subst e1;obtain⟨x,xs,ex,r1,r2⟩:=r.b_;cases ex;unfold wC k_;by_cases hg:g'=f
   .rw [if_pos hg,if_pos hg];exact⟨by rw[List.map_cons,List.map_cons,rH],az.cons rv r2⟩
   .rw [if_neg hg,if_neg hg];obtain⟨h1,h2⟩:=A8 rv rH r2;exact⟨by rw[List.map_cons,List.map_cons,h1],az.cons r1 h2⟩
section
variable {X:Cx} {cl:Za}
def eO(c:Nat)(f:Str)(g:FX):FX:=fun δ S=>(g δ S).bind fun v S1=>match v with
 | .loc k=>(match lX S1 c k with | some fs=>(match fs.lookup f with | some v=> .ok v S1 | none=> .no) | none=> .no)
 | _=> .no
theorem cm{c:Nat}{pos:Pos}(hC:yd X.K (cl c))(hn:cZ X.K (cl c) f)(he:PX X cl e g)(hb:attributeBase e f X.env (eval e X.env)=eval e X.env:=by rfl):PX X cl (.Attribute e f pos) (eO c f g):=⟨(KP he.1 hb).imp fun σ H Q ⟨ρ,S,δ,v,S',E,hf,q⟩=>by
 obtain⟨o,S1,h1,h2⟩:=R3.af hf;split at h2
 .rename_i k;split at h2
  .rename_i fs e1;split at h2
   .rename_i w rH;cases h2;refine⟨ρ,S,δ, .loc k,_,E,h1,fun u bJ H1 p1 w1 r1=>?_⟩
    unfold aV at r1;obtain⟨a,a1,rfl⟩:=r1;obtain⟨dx,ys,ey,ek,rs⟩:=w1.ob k a _ a1 (mm e1);obtain⟨x,hx,rx⟩:=z_ ek rs rH;exact⟨a,cl c,dx,ys,x,rfl,ey,hC,hn,hx,q x bJ H1 p1 w1 rx⟩
   .cases h2
  .cases h2
 .cases h2⟩
theorem w_fld{c k:Nat}{g:FX}{δ:DE}{S:aM}{Q:V3->aM->Prop}(h:W3 (g δ S) fun v S1=>∃fs w,v= .loc k/\S1[k]? =some (.ins c fs)/\fs.lookup f=some w/\Q w S1):W3 (eO c f g δ S) Q:=
 W3.bind (h.mono fun v S1 ⟨fs,w,e1,rH,e3,q⟩=>by
  subst e1;have e4:lX S1 c k=some fs:=by unfold lX;simp only[rH,if_true]
  simp only[e4,e3];exact W3.ok q)
def TY(P:Program)(w:World)(K:W.Frag)(mg:Y_)(base:Heap)(cl:Za)(k c:Nat)(m:Str)(n:Nat)(g:List V3->aM->R3 V3):Prop:=
 ∃(f:Addr) (fd:FuncData) (ps:List Str),yd K (cl c)/\Meth K (cl c) m f/\jt P w K mg base uV k f fd ps (Hh K cl (n+1) g)/\Binds K fd ps []
def qj(c:Nat)(m:Str)(g:List V3->aM->R3 V3)(fo:FX)(fs:FA):FX:=fun δ S=>(fo δ S).bind fun o S1=>match o with
 | .loc k=>(match lX S1 c k with | some ys=>(match ys.lookup m with | none=>(fs δ S1).bind fun vs S2=>g (.loc k ::vs) S2 | some _=> .no) | none=> .no)
 | _=> .no
def C_(P:Program)(w:World)(K:W.Frag)(mg:Y_)(base:Heap)(cl:Za)(k c:Nat)(x:Str)(n:Nat)(g:List V3->aM->R3 V3):Prop:=
 ∃(f:Addr) (fd:FuncData) (ps:List Str),Mk K (cl c) f/\jt P w K mg base uV k f fd ps (Hh K cl (n+1) g)/\mg x=some (.ref (cl c))/\Binds K fd ps []
def DH(c:Nat)(g:List V3->aM->R3 V3)(fs:FA):FX:=fun δ S=>(fs δ S).bind fun vs S1=>(g (.loc S1.length ::vs) (S1++[.ins c []])).bind fun v S2=>match v with
 | .d .cD=> .ok (.loc S1.length) S2
 | _=> .no
def wW(c:Nat)(f:Str)(fo fe:FX):FZ:=fun δ S=>(fe δ S).bind fun v S1=>(fo δ S1).bind fun o S2=>match o with
 | .loc k=>(match lX S2 c k with | some fs=>R3.aU (decide (fs.length < 1000)) (.ok (.nx δ) (S2.set k (.ins c (wC f v fs)))) | none=> .no)
 | _=> .no
theorem qY{c:Nat}{pos pos':Pos}(hC:yd X.K (cl c))(hn:cZ X.K (cl c) f)(ho:PX X cl o fo)(he:PX X cl value fe)(hs:swapsWith value (some (.Attribute o f pos')) pos.line X.env=pure false:=by rfl) :
 PZ X cl (.Assign [.Attribute o f pos'] value pos) (wW c f fo fe):=⟨(Lx ho.1 he.1 hs).imp fun D σ H ⟨ρ,S,δ,ou,S',E,hf,q⟩=>by
 obtain⟨v,S1,h1,h2⟩:=R3.af hf;obtain⟨vo,S2,h3,h4⟩:=R3.af h2;split at h4
 .rename_i k;split at h4
  .rename_i fs e1;obtain⟨hl,h5⟩:=R3.aL h4;cases h5;refine⟨ρ,S,δ,v,S1,E,h1,fun u bJ H1 p1 w1 r1=>⟨bJ,S1,δ, .loc k,S2,E.to p1 w1,h3,fun u2 pU H2 p2 w2 r2=>?_⟩⟩
   unfold aV at r2;obtain⟨a,a1,rfl⟩:=r2;obtain⟨dx,ys,ey,ek,rs⟩:=w2.ob k a _ a1 (mm e1);have hlen:ys.length=fs.length:=by have:=congrArg List.length ek;simpa using this
   obtain⟨k1,k2⟩:=A8 (f:=f) (r1.pre p2) ek rs;obtain⟨w3,p3⟩:=w2.put (o:= .ins c (wC f v fs)) (u:= .ins (cl c) dx (k_ f u ys)) a1 (w2.fz k a a1 (by rw[mm e1];intro h;cases h)) ⟨dx,_,rfl,k1,k2⟩
   exact⟨a,cl c,dx,ys,rfl,ey,hC,hn,by rw[hlen];exact of_decide_eq_true hl,q σ pU _ (p1.trans (p2.trans p3)) (E.to (p1.trans (p2.trans p3)) w3)⟩
  .cases h4
 .cases h4⟩
theorem lJ{c k:Nat}{fo fe:FX}{δ:DE}{S:aM}{QO:Ou->aM->Prop}(h:W3 (fe δ S) fun v S1=>W3 (fo δ S1) fun o S2=>∃fs,o= .loc k/\S2[k]? =some (.ins c fs)/\fs.length < 1000/\QO (.nx δ) (S2.set k (.ins c (wC f v fs)))):W3 (wW c f fo fe δ S) QO:=
 W3.bind (h.mono fun v S1 h=>W3.bind (h.mono fun o S2 ⟨fs,e1,rH,hl,q⟩=>by
  subst e1;have e4:lX S2 c k=some fs:=by unfold lX;simp only[rH,if_true]
  simp only[e4];exact W3.wh (decide_eq_true hl) (W3.ok q)))
theorem Ma{c:Nat}{g:List V3->aM->R3 V3}{fs:FA}{δ:DE}{S:aM}{Q:V3->aM->Prop}(h:W3 (fs δ S) fun vs S1=>W3 (g (.loc S1.length ::vs) (S1++[.ins c []])) fun v S2=>v= .d .cD/\Q (.loc S1.length) S2):W3 (DH c g fs δ S) Q:=
 W3.bind (h.mono fun vs S1 h=>W3.bind (h.mono fun v S2 ⟨e,q⟩=>by subst e;exact W3.ok q))
end
end L3
end
section
namespace PySem
open Sem (wp)
def Vn(t:Bool)(h:Heap)(i l:Addr)(k:Nat):Prop:=cond t (h.IsTupleIter i l k) (h.IsListIter i l k)
def WO(t:Bool)(h:Heap)(l:Addr)(xs:Array Value):Prop:=cond t (h.IsTuple l xs) (h.IsList l xs)
def Dv(t:Bool):String:=cond t "tuple_iterator" "list_iterator"
section
variable {prog:Program} {w:World} {A:Around} {E:Y6} {s:Shared}
end
abbrev UE(t:Bool)(h:Heap)(l1:Addr):Heap:=h.push {cls:= .type (Dv t),data:= .fields #[.ref l1, .int 0 0]}
abbrev TR(t u:Bool)(h:Heap)(l1 l2:Addr):Heap:=(UE t h l1).push {cls:= .type (Dv u),data:= .fields #[.ref l2, .int 0 0]}
abbrev Ti(t u:Bool)(h:Heap)(l1 l2:Addr):Heap:=(TR t u h l1 l2).push {cls:= .type "tuple",data:= .seq #[.ref h.objs.size, .ref (UE t h l1).objs.size]}
abbrev Vg(t u:Bool)(h:Heap)(l1 l2:Addr):Heap:=(Ti t u h l1 l2).push {cls:= .type "tuple",data:= .seq #[.none, .none]}
abbrev Ys(t u:Bool)(h:Heap)(l1 l2:Addr):Heap:=(Vg t u h l1 l2).push {cls:= .type "zip",data:= .fields #[.none, .bool false, .bool false, .ref (TR t u h l1 l2).objs.size, .ref (Ti t u h l1 l2).objs.size]}
end PySem
namespace L2
open PySem PySem.Spec PyProof.Rows
def MH(t:Bool)(K:W.Frag)(H:Hp)(a:Addr)(xs:List V):Prop:=cond t (q9 K H a xs) (oz K H a xs)
def YE(K:W.Frag)(t u:Bool)(a b:Addr):It:=
 ⟨fun i H=>∃xs ys x y,MH t K H a xs/\MH u K H b ys/\xs[i]? =some x/\ys[i]? =some y,
  fun i H v H'=>∃p x y,H p=none/\v= .ref p/\(∀xs,MH t K H a xs->xs[i]? =some x)/\(∀ys,MH u K H b ys->ys[i]? =some y)/\H'=upd H p (.tup [x,y]),
  fun i H=>∃xs ys,MH t K H a xs/\MH u K H b ys/\(xs.length<=i\/ys.length<=i)⟩
section
variable {X:Cx}
def Oc(ds es:List D):List D:=(ds.zip es).map fun p=> .tup [p.1,p.2]
def seqD?:D->Option (List D)
 | .lst ds=>some ds
 | .tup ds=>some ds
 | _=>none
def Tv(f g:FD):ao->R (List D):=fun δ=>(f δ).bind fun d=>(g δ).bind fun e=>match seqD? d,seqD? e with | some ds,some es=> .ok (Oc ds es) | _,_=> .no
def TJ(T U:String)(f:FD):FD:=fun δ=>(f δ).bind fun d=>match d with | .dct _ _=> .no | _=> .ok (.bl (LB (tyName d) T || LB (tyName d) U))
def YB(lo:Int)(n:Nat):It:=⟨fun i _=>i < n,fun i H x H'=>H'=H/\x= .int (lo - i),fun i _=>n<=i⟩
def P2(lo:Int)(n:Nat):List D:=(List.range n).map fun(i:Nat)=>D.int (lo - i)
def UD(f g h:FD):ao->R (List D):=fun δ=>(f δ).bind fun d=>(g δ).bind fun e=>(h δ).bind fun k=>match d,e,k with
 | .int i, .int j, .int m=>R.aU (decide (m= -1/\ -(2 ^ 60)<=i/\i < 2 ^ 60/\ -(2 ^ 60)<=j/\j < 2 ^ 60)) (.ok (P2 i (i - j).toNat)) | _,_,_=> .no
def bls?:List D->Option (List Bool)
 | []=>some []
 | .bl b ::ds=>(bls? ds).map (b ::·)
 | _ ::_=>none
theorem xE{K:W.Frag}{B:List Addr}:∀{ds:List D} {xs:List V} {bs:List Bool},ay K B H ds xs->bls? ds=some bs->xs=bs.map V.bl
 | [],xs,bs,r,h=>by unfold ay at r;subst r;cases h;rfl
 | d ::ds,xs,bs,r,h=>by
   obtain⟨x,q,rfl,r1,r2⟩:=r.b_;cases d with
   | bl b=>
     have h:(bls? ds).map (b ::·)=some bs:=h
     cases e:bls? ds with
     | none=>rw [e] at h;cases h
     | some cs=>
       rw[e] at h;cases h;rw[Rep.bl.mp r1,xE r2 e];rfl
   | _=>cases h
theorem Aw:∀bs:List Bool,bls? (bs.map D.bl)=some bs
 | []=>rfl
 | b ::bs=>by show(bls? (bs.map D.bl)).map (b ::·)=_;rw [Aw bs];rfl
theorem sT:∀{bs:List Bool} {us:List Value},Vals (bs.map V.bl) us->us=bs.map Value.bool
 | [],us,h=>by cases h;rfl
 | b ::bs,us,h=>by
   cases h with
   | cons r t=>rw [sT t,show _=Value.bool b from r];rfl
theorem range_all(bs:List Bool):(List.range bs.length).all (fun i=>bs.getD i false)=bs.all id:=by
 rw[Bool.eq_iff_iff];simp only[List.all_eq_true,List.mem_range,id];constructor
 .intro h b hb;obtain⟨i,hi,rfl⟩:=List.getElem_of_mem hb;have:=h i hi;rw[List.getD_eq_getElem?_getD,List.getElem?_eq_getElem hi] at this;exact this
 .intro h i hi;rw[List.getD_eq_getElem?_getD,List.getElem?_eq_getElem hi];exact h _ (List.getElem_mem hi)
def D0:List D->R D
 | [.lst ds]=>(match bls? ds with | some bs=> .ok (.bl (bs.all id)) | none=> .no)
 | _=> .no
def WW:List D->R D
 | [.lst ds]=>(match bls? ds with | some bs=> .ok (.bl (bs.any id)) | none=> .no)
 | _=> .no
theorem Oq{bs:List Bool}{i:Nat}{v:Value}(h:((bs.map Value.bool).toArray)[i]? =some v):v= .bool (bs.getD i false):=by
 rw[List.getElem?_toArray,List.getElem?_map] at h;rw[List.getD_eq_getElem?_getD];cases e:bs[i]? with
 | none=>rw [e] at h;cases h
 | some b=>rw [e] at h;cases h;rfl
theorem IU(hc:X.calm=true):dk X (.builtin "all") D0:=by
 intro pins s σ H B ds d xs us I hb rx rs hg;unfold D0 at hg;split at hg
 .split at hg
  .rename_i es bs e;cases hg;obtain⟨x,rfl,r⟩:=rs.one;obtain⟨a,ys,rfl,l,r⟩:=Rep.lst.mp r;obtain⟨u,rfl,ru⟩:=vals1 rx;cases ru;obtain⟨its,n,rv,e1,hz⟩:=I.O_ l;rw[xE r e] at rv;obtain rfl:=sT rv;have hl:s.heap.IsList a (bs.map Value.bool).toArray:=⟨_,e1,rfl,n,rfl⟩;have hlt:a < s.heap.objs.size:=Heap.lt_size e1;refine call_all_walk (wpAny_pyIter_list hl ?_);refine⟨_,_,_,_,_,_,fun i=>bs.getD i false,rfl,Walks.list (A:=X.A.in1) (I.ok.hd hc) _ a (Nat.ne_of_lt hlt) _,⟨⟨_,Heap.get?_push_size _ rfl,rfl,rfl⟩,hl.push _⟩,?_,fun h' tk hk=>?_⟩
   .intro i v s Q E hP hQ;rw[Oq hP];exact wpAny_truthy_bool hQ
   .refine⟨.bl (bs.all id),H,I.kept (old_kept hk),?_,aO.refl H,Rep.bl.mpr rfl⟩;show Value.bool _=Value.bool _;rw[<-range_all];simp
  .cases hg
 .cases hg
end
end L2
end
section
namespace L2
open PySem PySem.Spec PyProof.Rows
section
variable {X:Cx}
def YL:FS:=fun _=> .no
def To(f:FD):FS:=fun δ=>(f δ).bind fun _=> .ok (.nx δ)
end
end L2
namespace L3
open PySem PySem.Spec PyProof.Rows L2
section
variable {X:Cx} {cl:Za}
def YC:FZ:=fun _ _=> .no
def Tj(f:ao->R (List D)):FX:=fun δ S=>(R3.of (f (n3 S δ)) S).bind fun ds S=>R3.aU (yn ds) (.ok (.loc S.length) (S++[.lst ds]))
def Wf(i:Nat)(f:FX):FZ:=fun δ S=>match qz δ i with
 | none=> .no
 | some k=>match c5 S k with
   | none=> .no
   | some _=>(f δ S).bind fun v S1=>match v with
     | .d (.lst es)=>(match c5 S1 k with
       | some ds=>R3.aU (decide (ds.length+es.length<=sizeLine)) (.ok (.nx δ) (S1.set k (.lst (ds++es))))
       | none=> .no)
     | _=> .no
end
end L3
end
section
namespace L2
open PySem PySem.Spec PyProof.Rows
section
variable {X:Cx}
def T6(d e:D):R D:=match d,e with
 | .tup a, .tup b=>R.aU (decide (a.length+b.length<=sizeLine)) (.ok (.tup (a++b)))
 | d,e=>eP d e
def Pc(f:FD):ao->R (List D):=fun δ=>(f δ).bind fun d=>match d with | .lst ds=> .ok (yr ds) | .tup ds=> .ok (yr ds) | _=> .no
def Yx(K:W.Frag)(a:Addr)(n:Nat):It:=
 ⟨fun i H=>∃xs x,oz K H a xs/\xs.length=n/\i < n/\xs[n - 1 - i]? =some x,fun i H v H'=>H'=H/\∀xs,oz K H a xs->xs[n - 1 - i]? =some v,fun i H=>(∃xs,oz K H a xs)/\i=n⟩
def T4(f:FD):ao->R (List D):=fun δ=>(f δ).bind fun d=>match d with | .lst ds=> .ok ds.reverse | _=> .no
def rT(K:W.Frag)(C:Addr)(m qual:Str)(st:Stmt):Prop:=∃f fd,zw K m qual st f fd/\Meth K C m f
def K3(K:W.Frag)(C:Addr)(m qual:Str)(st:Stmt):Prop:=∃f fd,zw K m qual st f fd/\Mk K C f
end
end L2
namespace L3
open PySem PySem.Spec PyProof.Rows L2
section
variable {X:Cx} {cl:Za}
end
end L3
end
section
namespace L2
open PySem PySem.Spec PyProof.Rows
section
variable {X:Cx}
def Vd(f:FD):ao->R (List D):=fun δ=>(f δ).bind fun d=>match d with | .int j=>R.aU (decide (-(2 ^ 62)<=j/\j < 16777216)) (.ok (rN 0 j.toNat)) | _=> .no
def Wg(f:FD):FD:=fun δ=>(f δ).bind fun d=>match d with | .lst ds=> .ok (.lst ds.reverse) | _=> .no
end
end L2
end
section
namespace L2
open PySem PySem.Spec PyProof.Rows
section
variable {X:Cx}
def Qh(K:W.Frag)(n:Nat)(t:FF):TG:=fun v σ H Q=>∃a xs,v= .ref a/\oz K H a xs/\xs.length=n/\t xs σ H Q
theorem Lq{es:List Expr}{k:Nat}{t:FF}{n:Nat}{pos:Pos}(hc:X.calm=true)(h:HC X es t)
 (hn:(assignEach es X.env).length=n:=by rfl) (yI:(assignEach es X.env).findIdx? (·.1)=none:=by rfl):PG X (.Tuple es k pos) (Qh X.K n t):=by
 intro pins s σ H v u Q I r hw;obtain⟨a,xs,e1,hq,hl,hw⟩:=hw;subst e1;cases r;obtain⟨its,rv,ht,hz⟩:=I.list hq;rw[assign_Tuple];refine wpAny_bind (wpAny_standAt ?_);unfold unpack;have hln:its.toArray.size=(assignEach es X.env).length:=by simp [hn,<-hl,rv.length]
 rw[yI];refine wpAny_bind (wpAny_holding ?_);rw[<-hln];refine PySem.W.kun_itemsOf (I.ok.hd hc) ht.isList fun h' hx=>?_
 have I1:Inv X pins σ H {s with heap:=h'}:=I.kept (t':=s.toks) fun b o e=>hx b o (Nat.ne_of_lt (Heap.lt_size e)) e
 exact h pins _ σ H xs _ Q I1 (by simpa using rv) hw
end
end L2
namespace L3
open PySem PySem.Spec PyProof.Rows L2
section
variable {X:Cx} {cl:Za}
def Yq(n:Nat)(t:Kt):FG:=fun d δ=>match d with
 | .d (.lst ds)=>if ds.length=n then t (ds.map .d) δ else none
 | .lst vs=>if vs.length=n then t vs δ else none
 | _=>none
def Vl(f g:FX):FA:=fun δ S=>(a9 f (a9 g dj) δ S).bind fun vs S1=>match vs with
 | [.d d, .d e]=>(match seqD? d,seqD? e with | some ds,some es=> .ok ((Oc ds es).map .d) S1 | _,_=> .no)
 | _=> .no
def Oa(S:aM):Prop:=∀o∈S,yt S.length o=true
theorem Flat.QC{S:aM}(h:Flat S):Oa S:=fun o ho=>h o ho _
theorem NW{N:List Str}{vs:List V3}{S:aM}{QV:V3->aM->Prop}(h:W3 (uh N F vs S) fun v S1=>(∀o∈S1.take S.length,yt S.length o=true)/\m5 S.length v=true/\∃d,res S1 v=some d/\QV (.d d) (S1.take S.length)):W3 (yL N F vs S) QV:=
 W3.bind (h.mono fun v S1 ⟨hl,hg,d,e,q⟩=>by
  rw[e];exact W3.wh (by rw[List.all_eq_true.mpr hl,hg];rfl) (W3.ok q))
theorem Jp{N:List Str}{vs:List V3}{S:aM}{QV:V3->aM->Prop}(hS:Oa S)(h:W3 (uh N F vs S) fun v S1=>m5 S.length v=true/\(∃T,S1=S++T)/\∃d,res S1 v=some d/\QV (.d d) S):W3 (yL N F vs S) QV:=
 NW (h.mono fun v S1 ⟨hg,⟨T,e1⟩,d,e,q⟩=>by
  subst e1;rw[List.take_append_of_le_length (Nat.le_refl _),List.take_length];exact⟨hS,hg,d,e,q⟩)
end
end L3
end
section
namespace L2
open PySem PySem.Spec PyProof.Rows
section
variable {X:Cx}
def ois?:List D->Option (List (Option Int))
 | []=>some []
 | .int i ::ds=>(ois? ds).map (some i ::·)
 | .cD ::ds=>(ois? ds).map (none ::·)
 | _ ::_=>none
def YA:Option Int->V | some i=> .int i | none=> .cD
def VW(d e:D):R Bool:=match d,e with
 | .cD, .lst ds=>(match ois? ds with | some ss=> .ok (ss.any (·.isNone)) | none=> .no)
 | _,_=> .no
def Vz(d e:D):R D:=(VW d e).bind fun b=> .ok (.bl b)
end
end L2
end
section
namespace L2
open PySem PySem.Spec PyProof.Rows
section
variable {X:Cx}
def Qe(d:D)(ds:List D):R D:=match d,ds with
 | .lst es,[.int k]=>(match ints? es with | some ss=> .ok (.int (ss.count k:Nat)) | none=> .no)
 | _,_=> .no
theorem vc{x:V}:∀{xs:List V} {us:List Value},Vals xs us->xs.all kY=true->us.countP (xj x)=xs.countP fun y=>Ge y x
 | _,_, .nil,_=>rfl
 | y ::xs,u ::us, .cons r t,f=>by
   rw[List.all_cons,Bool.and_eq_true] at f;rw[List.countP_cons,List.countP_cons,yZ r f.1,vc t f.2]
end
end L2
end
section
namespace L2
open PySem PySem.Spec PyProof.Rows
section
variable {X:Cx}
abbrev WV:D->D->R D:=Gn (fun i j=>decide (0<=j/\j < 1000/\ -1000 < i/\i < 1000)) fun i j=>i*2 ^ j.toNat
def Tn(d e:D):R D:=match d,e with | .bl a, .bl b=> .ok (.bl (a !=b)) | _,_=> .no
end
end L2
namespace L3
open PySem PySem.Spec PyProof.Rows L2
section
variable {X:Cx} {cl:Za}
def mR(fo f:FX):FZ:=fun δ S=>(fo δ S).bind fun o S0=>match o with
 | .loc k=>(match c5 S0 k with
   | none=> .no
   | some _=>(f δ S0).bind fun v S1=>match v with
     | .d d=>(match c5 S1 k with | some ds=>R3.aU (decide (ds.length < sizeLine)) (.ok (.nx δ) (S1.set k (.lst (ds++[d])))) | none=> .no)
     | _=> .no)
 | _=> .no
theorem Ib{o e:Expr}{fo f:FX}{apos bf pos:Pos}(ho:PX X cl o fo)(he:PX X cl e f)
 (hs:starEach [e] X.env=(false,eval e X.env) ::starEach [] X.env:=by rfl) (fD:(apos.endLine==bf.line)=true:=by rfl)
 (lG:((backTo bf (starEach [e] X.env)).all (fun x=>!x.1) && (backToKw bf (keywordEach [] X.env)).all (fun x=>x.1.isSome)
   && decide (([e]:List Expr).length+([]:List Keyword).length+(if([]:List Keyword).isEmpty then 0 else 1) < 30))=true:=by rfl)
 (CB:swapsWith (.Call (.Attribute o "append" apos) [e] [] bf) none pos.line X.env=pure false:=by rfl)
 (fB:attributeBase o "append" X.env (eval o X.env)=eval o X.env:=by rfl) :
 PZ X cl (.Expr (.Call (.Attribute o "append" apos) [e] [] bf) pos) (mR fo f):=by
 refine⟨(sf (Aq (X:=X) PySem.F.plainAttrs_list PySem.F.slot_list_append PySem.F.type_list_append oG ho.1 (jc he.1 mq hs) fB lG fD hs) CB).imp fun D σ H ⟨ρ,S,δ,oo,S',E,hf,q⟩=>?_⟩
 unfold mR at hf;obtain⟨vo,S0,g1,g2⟩:=R3.af hf;split at g2
 .rename_i k;split at g2
  .cases g2
  .rename_i F9 h0;obtain⟨v,S1,h1,h2⟩:=R3.af g2;split at h2
   .rename_i d;split at h2
    .rename_i ds h3;obtain⟨hl,h4⟩:=R3.aL h2;cases h4;refine⟨ρ,S,δ, .loc k,S0,E,g1,fun u Se H0 p0 w0 r0=>?_⟩
     unfold aV at r0;obtain⟨a,a1,rfl⟩:=r0;obtain⟨Sn,x0,_⟩:=w0.ob k a _ a1 (iq h0);refine⟨.inl ⟨rfl,Sn,oz.of x0⟩,⟨Se,S0,δ, .d d,S1,E.to p0 w0,h1,fun y bJ H1 p1 w1 r1=>?_⟩⟩
     have b1:=p1.ext k a a1;obtain⟨xs,x1,x2⟩:=w1.ob k a _ b1 (iq h3);refine⟨a,xs,y,rfl,rfl,x1,by rw[<-x2.length];exact of_decide_eq_true hl,?_⟩
     unfold aV at r1;obtain⟨w2,p2⟩:=w1.put (o:= .lst (ds++[d])) (u:= .lst (xs++[y])) b1 (w1.fz k a b1 (by rw[iq h3];intro h;cases h)) ⟨xs++[y],rfl,x2.append (ay.cons r1 ay.nil)⟩
     exact q σ bJ _ (p0.trans (p1.trans p2)) (E.to (p0.trans (p1.trans p2)) w2)
    .cases h2
   .cases h2
 .cases g2
theorem Ke{fo f:FX}{δ:DE}{S:aM}{k:Nat}{QO:Ou->aM->Prop}(h:W3 (fo δ S) fun o S0=>o= .loc k/\(∃ds,S0[k]? =some (.lst ds))/\W3 (f δ S0) fun v S1=>∃d ds,v= .d d/\S1[k]? =some (.lst ds)/\ds.length < sizeLine/\QO (.nx δ) (S1.set k (.lst (ds++[d])))):W3 (mR fo f δ S) QO:=by
 unfold mR;refine W3.bind (h.mono fun o S0 ⟨e,⟨F9,h0⟩,h⟩=>?_)
 subst e;have e0:c5 S0 k=some F9:=by unfold c5;rw [h0]
 simp only[e0];refine W3.bind (h.mono fun v S1 ⟨d,ds,e1,rH,hl,q⟩=>?_)
 subst e1;have e3:c5 S1 k=some ds:=by unfold c5;rw [rH]
 simp only[e3];exact W3.wh (decide_eq_true hl) (W3.ok q)
def TB(f:FX):FA:=fun δ S=>(a9 f dj δ S).bind fun vs S1=>match vs with
 | [.d (.lst ds)]=> .ok ((yr ds).map .d) S1
 | _=> .no
end
end L3
end
section
namespace L2
open PySem PySem.Spec PyProof.Rows
section
variable {X:Cx}
end
end L2
end
section
namespace L3
open PySem PySem.Spec PyProof.Rows L2
section
variable {cl:Za}
def Qy(it:FA)(t:FG)(c:FB)(f:FX)(own:List Str)(kp:List Nat):FX:=fun δ S=>(it δ S).bind fun vs S1=>R3.aU (decide (vs.length<=sizeLine)) ((lS t c f (nQ own kp δ) vs S1).bind fun ys S2=>match qJ ys with | some ds=> .ok (.loc S2.length) (S2++[.lst ds]) | none=> .no)
end
section
variable {X:Cx} {cl:Za}
end
end L3
end
section
namespace L3
open PySem PySem.Spec PyProof.Rows L2
section
variable {X:Cx} {cl:Za}
def QL(g:List D->R D)(fs:FA):FX:=fun δ S=>(fs δ S).bind fun vs S1=>match zd S1 vs with
 | some ds=>(R3.of (g ds) S1).bind fun d S=>R3.aU (xU d) (.ok (.d d) S)
 | none=> .no
end
end L3
end
section
namespace L2
open PySem PySem.Spec PyProof.Rows
section
variable {X:Cx}
def V_(f:FD):FD:=fun δ=>(f δ).bind fun d=>match d with | .int i=> .ok (.int (-i - 1)) | _=> .no
def Wb(d:D)(lo hi:Option Int):R D:=match d with
 | .tup ds=>R.aU (decide (¬(HT.r_ ds.length 0 lo=0/\HT.r_ ds.length ds.length hi=ds.length))) (.ok (.tup (cutD ds lo hi)))
 | _=> .no
def VL(f:FD)(fl fh:FO):FD:=fun δ=>(f δ).bind fun d=>(fl δ).bind fun lo=>(fh δ).bind fun hi=>Wb d lo hi
end
end L2
namespace L3
open PySem PySem.Spec PyProof.Rows L2
section
variable {X:Cx} {cl:Za}
structure YH (X:Cx) (cl:Za) (st:List Stmt) (F:FZ):Prop where
 go:vW X st (fun D σ H=>D.ct=D.nx/\sX X.K cl F D σ H)
end
end L3
end
section
namespace L2
open PySem PySem.Spec PyProof.Rows
end L2
namespace L3
open PySem PySem.Spec PyProof.Rows L2
section
variable {X:Cx} {cl:Za}
def Wd(i:Nat)(f:FX):FX:=fun δ S=>match qz δ i with
 | none=> .no
 | some k=>match c5 S k with
   | none=> .no
   | some _=>(f δ S).bind fun v S1=>match v with
     | .d (.int j)=>(match c5 S1 k with
       | some ds=>(match Fe ds.length j with
         | some p=>(match ds[p]? with | some d=>R3.aU (decide (-(2 ^ 63)<=j/\j < 2 ^ 63)) (.ok (.d d) (S1.set k (.lst (ds.eraseIdx p)))) | none=> .no)
         | none=> .no)
       | none=> .no)
     | _=> .no
end
end L3
end
section
namespace L3
open PySem PySem.Spec PyProof.Rows L2
section
variable {X:Cx} {cl:Za}
def VP(f:FX)(fl fh:MJ):FX:=fun δ S=>(f δ S).bind fun v S1=>(fl δ S1).bind fun lo S2=>(fh δ S2).bind fun hi S3=>match v with
 | .lst vs=> .ok (.lst (L2.cutD vs lo hi)) S3
 | _=> .no
end
end L3
end
section
namespace L2
open PySem PySem.Spec PyProof.Rows
section
variable {X:Cx}
def QU:List V->Hp->VK->Prop:=fun xs H Q=>∃a aw ns,xs=[V.ref a]/\H a=some (.dK aw)/\aw.map (·.1)=ns.map Sum.inl/\ns.length < 64/\∀p,H p=none->Q (.ref p) (upd H p (.lst ((Es ns).map V.int)))
end
end L2
end
section
namespace L3
open PySem PySem.Spec PyProof.Rows L2
section
variable {X:Cx} {cl:Za}
def pq(aw:List (Key × D))(k:Key)(d:D):List (Key × D):=if(aw.any fun kv=>decide (kv.1=k))=true then aw.map (fun kv=>if kv.1=k then(kv.1,d) else kv) else aw++[(k,d)]
def qt(S:aM)(k:Nat):Option (List (Key × D)):=match S[k]? with | some (.dct aw)=>some aw | _=>none
theorem sR{S:aM}{k:Nat}{aw:List (Key × D)}(h:qt S k=some aw):S[k]? =some (.dct aw):=by
 unfold qt at h;split at h
 .rename_i e;cases h;exact e
 .cases h
theorem Bb{α β:Type}(k:Key):∀{a:List (Key × α)} {b:List (Key × β)},a.map (·.1)=b.map (·.1)->(a.any fun kv=>decide (kv.1=k))=b.any fun kv=>decide (kv.1=k)
 | [],[],_=>rfl
 | [],_ ::_,h=>by simp at h
 | _ ::_,[],h=>by simp at h
 | x ::a,y ::b,h=>by
   rw[List.map_cons,List.map_cons] at h;obtain⟨h1,h2⟩:=List.cons.inj h;rw[List.any_cons,List.any_cons,Bb k h2,h1]
theorem z8{K:W.Frag}{B:List Addr}{k:Key}{d:D}{v:V}(rv:Rep K B H d v):∀{aw:List (Key × D)} {ys:List (Key × V)},ys.map (·.1)=aw.map (·.1)->ay K B H (aw.map (·.2)) (ys.map (·.2))->
 (ys.map fun kv=>if kv.1=k then(kv.1,v) else kv).map (·.1)=(aw.map fun kv=>if kv.1=k then(kv.1,d) else kv).map (·.1)/\ay K B H ((aw.map fun kv=>if kv.1=k then(kv.1,d) else kv).map (·.2)) ((ys.map fun kv=>if kv.1=k then(kv.1,v) else kv).map (·.2))
 | [],[],_,_=>⟨rfl,ay.nil⟩
 | [],_ ::_,h,_=>by simp at h
 | _ ::_,[],h,_=>by simp at h
 | (k1,d1) ::aw,(k2,v2) ::ys,h,r=>by
   obtain⟨h1,h2⟩:=List.cons.inj h;have h1:k2=k1:=h1;subst h1;obtain⟨x,r',e,q1,q2⟩:=ay.b_ r;cases e;obtain⟨i1,i2⟩:=z8 rv h2 q2;simp only[List.map_cons];by_cases hk:k2=k
   .rw [if_pos hk,if_pos hk];exact⟨by rw[i1],ay.cons rv i2⟩
   .rw [if_neg hk,if_neg hk];exact⟨by rw[i1],ay.cons q1 i2⟩
theorem MU{K:W.Frag}{B:List Addr}{k:Key}{d:D}{v:V}(rv:Rep K B H d v){aw:List (Key × D)}{ys:List (Key × V)}(h:ys.map (·.1)=aw.map (·.1))(r:ay K B H (aw.map (·.2)) (ys.map (·.2))) :
 (putK ys k v).map (·.1)=(pq aw k d).map (·.1)/\ay K B H ((pq aw k d).map (·.2)) ((putK ys k v).map (·.2)):=by
 unfold putK pq;rw[Bb k h];split
 .exact z8 rv h r
 .rw [List.map_append,List.map_append,List.map_append,List.map_append,h];exact⟨rfl,r.append (ay.cons rv ay.nil)⟩
def yy:FX:=fun δ S=> .ok (.loc S.length) (S++[.dct []])
theorem vJ:PX X cl (.Dict [] [] pos) yy:=⟨CW.imp fun σ H Q ⟨ρ,S,δ,v,S',E,hf,q⟩=>by
 cases hf;intro p hp;obtain⟨w,pr⟩:=E.sw.new (a:=p) (o:= .dct []) (bB (o:= .dK []) hp) hp ⟨[],aY,rfl,ay.nil⟩;exact q _ _ _ pr w (by unfold aV;exact⟨p,by show(ρ.r++[p])[_]? =_;rw [<-E.sw.len,List.getElem?_append_right (by omega),Nat.sub_self];rfl,rfl⟩)⟩
def Uk(fo fi fe:FX):FZ:=fun δ S=>(fe δ S).bind fun v S1=>(fo δ S1).bind fun o S2=>(fi δ S2).bind fun j S3=>match v,o,j with
 | .d d, .loc k, .d (.int n)=>(match qt S3 k with | some aw=>R3.aU (decide (aw.length < sizeLine)) (.ok (.nx δ) (S3.set k (.dct (pq aw (Sum.inl n) d)))) | none=> .no)
 | _,_,_=> .no
def Wc(fa fo:FX):FX:=fun δ S=>(fa δ S).bind fun j S1=>(fo δ S1).bind fun o S2=>match j,o with
 | .d (.int n), .loc k=>(match qt S2 k with | some aw=> .ok (.d (.bl (aw.any fun kv=>decide (kv.1=Sum.inl n)))) S2 | none=> .no)
 | _,_=> .no
def intK?:List Key->Option (List Int)
 | []=>some []
 | .inl n ::ks=>(intK? ks).map (n ::·)
 | .inr _ ::_=>none
def Qv(f:FX):FX:=fun δ S=>(f δ S).bind fun o S1=>match o with
 | .loc k=>(match qt S1 k with
   | some aw=>(match intK? (aw.map (·.1)) with | some ns=>R3.aU (decide (ns.length < 64)) (.ok (.d (.lst ((Es ns).map .int))) S1) | none=> .no)
   | none=> .no)
 | _=> .no
theorem yT{δ:DE}{S:aM}{QV:V3->aM->Prop}(h:QV (.loc S.length) (S++[.dct []])):W3 (yy δ S) QV:=W3.ok h
end
end L3
end
section
namespace L2
open PySem PySem.Spec PyProof.Rows
section
variable {X:Cx}
def O8:V->List V->Hp->VK->Prop:=fun x vs H Q=>∃(l:Addr) (xs:List V) (j:Int) (i:Nat) (y:V),x= .ref l/\vs=[.int j,y]/\H l=some (.lst xs)/\j=i/\i<=xs.length/\xs.length < sizeLine/\Q .cD (upd H l (.lst (xs.take i++y ::xs.drop i)))
end
end L2
namespace L3
open PySem PySem.Spec PyProof.Rows L2
section
variable {X:Cx} {cl:Za}
def WS(i:Nat)(f g:FX):FZ:=fun δ S=>match qz δ i with
 | none=> .no
 | some k=>match c5 S k with
   | none=> .no
   | some _=>(f δ S).bind fun v S1=>match v with
     | .d (.int j)=>(g δ S1).bind fun w S2=>(match w with
       | .d d=>(match c5 S2 k with
         | some ds=>R3.aU (decide (0<=j/\j.toNat<=ds.length/\ds.length < sizeLine)) (.ok (.nx δ) (S2.set k (.lst (ds.take j.toNat++d ::ds.drop j.toNat))))
         | none=> .no)
       | _=> .no)
     | _=> .no
end
end L3
end
section
namespace L3
open PySem PySem.Spec PyProof.Rows L2
section
variable {X:Cx} {cl:Za}
structure YJ (X:Cx) (pos:Pos) (keys:List (Option Expr)) (values:List Expr) (ks:List Str) (g:ao->R (List D)):Prop where
 h:∃ua,I0 X pos keys values ua/\∀(σ:L2.St) (H:Hp) (Q:List (V × V)->Hp->Prop),(∃Z B δ ds,dC X.K Z B H σ δ/\g δ= .ok ds/\∀vs H',aO H H'->ay X.K B H' ds vs->Q ((ks.zip vs).map fun p=>(V.str p.1,p.2)) H')->o_ ua σ H Q
def JK(ks:List Str)(ns:List Int):List (Key × D):=(ks.zip ns).foldl (fun acc p=>pq acc (Sum.inr p.1) (.int p.2)) []
def QT(ks:List Str)(g:ao->R (List D)):FX:=fun δ S=>(R3.of (g (down δ)) S).bind fun ds S=>match ints? ds with
 | some ns=>R3.aU (decide (ns.length=ks.length/\ks.length<=15)) (.ok (.loc S.length) (S++[.dct (JK ks ns)]))
 | none=> .no
def Q2(aw:List (Key × D))(k:Key):Option D:=(aw.find? fun kv=>decide (kv.1=k)).map (·.2)
def Ux(i:Nat)(f g:FD):FX:=fun δ S=>match qz δ i with
 | none=> .no
 | some k=>match qt S k with
   | none=> .no
   | some aw=>(R3.of (f (down δ)) S).bind fun kd S=>(R3.of (g (down δ)) S).bind fun d S=>match kd with
     | .str x=> .ok (.d ((Q2 aw (Sum.inr x)).getD d)) S
     | _=> .no
end
end L3
end
section
namespace L2
open PySem PySem.Spec PyProof.Rows
section
variable {X:Cx}
def TV:List D->R D
 | [.tup ds]=>(match ints? ds with | some ns=> .ok (.int ns.sum) | none=> .no)
 | ds=>Ql ds
end
end L2
end
section
namespace L2
open PySem PySem.Spec PyProof.Rows
section
variable {X:Cx}
def Tr(d e:D):R D:=match d,e with
 | .tup a, .int k=>R.aU (decide (2<=k/\k < 1000/\a≠[]/\a.length*k.toNat<=sizeLine)) (.ok (.tup (List.replicate k.toNat a).flatten))
 | d,e=>um d e
end
end L2
end
section
namespace L2
open PySem PySem.Spec PyProof.Rows
def vA(P:Program)(w:World):CT:=fun outer H s E e s'=>
 ∃(a:Addr) (B:Heap) (cls a0:Value) (H':Hp),e= .ref a/\s'.os=s.os/\AllBare s'.gens/\Un (o9 outer) [] H H' s.heap s'.heap/\mX P w H' s'.heap/\Heap.FlyingW B outer a cls a0 s'.heap/\
  (∀b o,s'.heap.get? b=some o->b ∉ o9 outer->((∃u,s.heap.get? b=some u)\/∃u,H' b=some u)->B.get? b=some o)/\E cls none H'
section
variable {X:Cx} {pins:Y5} {σ:St} {H1 H':Hp} {s1 s':Shared} {B MP:Heap} {a:Addr} {cls a0:Value} {E:XK}
theorem vS{H:Hp}{h:Heap}{b:Addr}{o:HO}(k:mX P w H h)(e:H b=some o):∃u,h.get? b=some u:=by
 have hx:=k b o e
 induction o with
 | lst xs=>obtain⟨_,_,_,_,e⟩:=hx;exact⟨_,e⟩
 | tup xs=>obtain⟨_,_,_,o,e,_⟩:=hx;exact⟨_,e⟩
 | dK aw=>obtain⟨_,_,_,_,o,_,_,e,_⟩:=hx;exact⟨_,e⟩
 | dT aw=>obtain⟨_,_,_,_,o,_,_,e,_⟩:=hx;exact⟨_,e⟩
 | set S n=>obtain⟨o,_,_,_,e,_⟩:=hx;exact⟨_,e⟩
 | ins C dx fs=>obtain⟨_,_,_,e,_⟩:=hx;exact⟨_,e⟩
 | own y=>exact hx
 | xd fs=>obtain⟨_,⟨o,_,_,e,_⟩,_⟩:=hx;exact⟨_,e⟩
 | rng lo hi=>obtain⟨_,_,_,e⟩:=hx;exact⟨_,e⟩
 | lP o u _=>exact⟨_,hx.1⟩
 | tbl ps=>exact⟨_,hx⟩
 | met f x=>exact⟨_,hx⟩
 | ext φ=>exact hx.2.1
theorem D4(I:Inv X pins σ H1 s1)(yI:X.stack=X.env ::X.outer)(hf:X.env.frame=some X.env.locals)(hex:X.ex=[])(os:s'.os=s1.os)(bare:AllBare s'.gens)(un:Un (o9 X.stack) [] H1 H' s1.heap s'.heap)(hok:mX X.prog X.w H' s'.heap)
 (xh:∀b o,s'.heap.get? b=some o->b ∉ o9 X.stack->((∃u,s1.heap.get? b=some u)\/∃u,H' b=some u)->B.get? b=some o) (fl:Heap.FlyingW B X.outer a cls a0 MP) (up:s'.heap.UpToSlots MP) (e:E cls none H') :
 vA X.prog X.w X.outer X.H₀ X.s₀ E (.ref a) {s' with heap:=MP}:=by
 have CV:∀b,b∈o9 X.stack↔b=X.env.locals\/b∈o9 X.outer:=fun b=>by
  rw[yI];unfold o9;rw [List.filterMap_cons,hf];exact List.mem_cons
 have hfree:∀b,b∈o9 X.stack->H' b=none:=fun b hb=>by
  obtain⟨_,o,ho,_⟩:=I.stack.mem hb;exact un.free b o ho (I.oy b hb) (by simp)
 have old:∀b o,X.s₀.heap.get? b=some o->b≠X.env.locals:=fun b o q=>Nat.ne_of_lt (Nat.lt_of_lt_of_le (Heap.lt_size q) I.ok.above)
 have thr:∀b o,X.s₀.heap.get? b=some o->∃u,s1.heap.get? b=some u:=fun b o q=>I.base.there b o q (by rw[hex];simp)
 have thr2:∀b o,s1.heap.get? b=some o->∃u,s'.heap.get? b=some u:=fun b o q=>un.there b o q (by simp)
 have stB:∀b o,B.get? b=some o->MP.get? b=some o:=fl.1;have Gp:∀b o,H' b=some o->∀u,s'.heap.get? b=some u->MP.get? b=some u:=fun b o q u hu=>stB b u (xh b u hu (fun hb=>by rw[hfree b hb] at q;cases q) (.inr ⟨o,q⟩))
 refine⟨a,B,cls,a0,H',rfl,os.trans I.os,bare,⟨fun b o q n hb _=>?_,fun b o q n hb _=>?_,fun b o q n _=>?_,fun b o q _=>?_,fun b xs q=>un.tups b xs (I.base.tups b xs q),fun b o u q=>un.frzs b o u (I.base.frzs b o u q),fun b ps q=>?_⟩,fun b o q=>?_,fl,fun b o q hb Pu=>?_,e⟩
 .have h1:=I.base.keep b o q n hb (by rw[hex];simp)
  have n1:=I.base.free b o q n (by rw[hex];simp)
  have pT:b ∉ o9 X.stack:=fun z=>((CV b).mp z).elim (old b o q) hb
  have h2:=un.keep b o h1 n1 pT (by simp)
  exact stB b o (xh b o h2 pT (.inl ⟨o,h1⟩))
 .obtain⟨sl,h1⟩:=I.base.slot b o q n hb (by rw[hex];simp)
  have n1:=I.base.free b o q n (by rw[hex];simp)
  obtain⟨Sv,h2⟩:=un.slot b _ h1 n1 ((CV b).mpr (.inr hb)) (by simp)
  obtain⟨_,o',uO,hd⟩:=I.ok.qE.mem hb;rw[q] at uO;cases uO;obtain⟨Mt,h3⟩:=up b _ h2 hd;exact⟨Mt,h3⟩
 .obtain⟨u,h1⟩:=thr b o q;exact un.free b u h1 (I.base.free b o q n (by rw[hex];simp)) (by simp)
 .obtain⟨u,h1⟩:=thr b o q;obtain⟨u2,h2⟩:=thr2 b u h1;by_cases hb:b∈o9 X.outer
  .obtain⟨_,o',uO,hd⟩:=I.stack.mem ((CV b).mpr (.inr hb));obtain⟨sl,h3⟩:=un.slot b o' uO (I.oy b ((CV b).mpr (.inr hb))) ((CV b).mpr (.inr hb)) (by simp)
   obtain⟨Mt,h4⟩:=up b _ h3 hd;exact⟨_,h4⟩
  .exact⟨u2,stB b u2 (xh b u2 h2 (fun z=>((CV b).mp z).elim (old b o q) hb) (.inl ⟨u,h1⟩))⟩
 .obtain⟨m1,e1⟩:=I.base.tbls b ps q;obtain⟨m2,e2⟩:=un.tbls b _ e1;exact⟨m1++m2,by rw[e2,Array.append_assoc]⟩
 .refine(hok b o q).xx (fun c u hc hu=>?_) (fun c z=>z) (fun c xs z=>z)
  rcases hc with rfl | hc
  .exact Gp c o q u hu
  .exact Gp c _ hc u hu
 .have pT:b≠X.env.locals:=fun z=>by
   subst z;rcases Pu with⟨u,hu⟩ | ⟨u,hu⟩
   .exact old _ u hu rfl
   .rw [hfree _ ((CV _).mpr (.inl rfl))] at hu;cases hu
  have hb2:b ∉ o9 X.stack:=fun z=>((CV b).mp z).elim pT hb
  have:(∃u,s1.heap.get? b=some u)\/∃u,H' b=some u:=Pu.imp (fun⟨u,hu⟩=>thr b u hu) id
  obtain⟨u,hu⟩:∃u,s'.heap.get? b=some u:=this.elim (fun⟨u,hu⟩=>thr2 b u hu) fun⟨u,hu⟩=>vS hok hu
  have h3:=xh b u hu hb2 this;have h4:=stB b u h3;rw[q] at h4;cases h4;exact h3
end
section
variable {P:Program} {w:World} {K:W.Frag} {mg:Y_} {base:Heap} {N:List Str} {qual:Str} {scope:Scope} {f:Addr} {cd:Value} {A:Around} {outer:List Env} {s:Shared} {H:Hp} {E:XK}
theorem Nr:Passes (vA P w) (lR (vA P w) P w K mg base N qual scope f cd A outer s H E) E:=by
 intro pins σ H1 s1 e s' I hc;obtain⟨a,B,cls,a0,H',rfl,os,bare,un,hok,fl,xh,hE⟩:=hc;exact wpAny_leaves_onW (env:=envOfC qual scope s.heap.objs.size f cd) (outer:=outer) (L:=s.heap.objs.size) I.ok.frames rfl fl fun h' f1 up=>D4 I rfl rfl rfl os bare un hok xh f1 up hE
theorem K6{pins:Y5}{s1:Shared}{a:Addr}{cls:Value}{vs:List Value}(I:Inv (lR (vA P w) P w K mg base N qual scope f cd A outer s H E) pins σ H1 s1)(hx:Heap.MadeExcOf s1.heap h' a cls vs)(hE:E cls none H1) :
 (lR (vA P w) P w K mg base N qual scope f cd A outer s H E).xe (.ref a) {s1 with heap:=h'}:=by
 have hin:∀env∈(envOfC qual scope s.heap.objs.size f cd ::outer),∀b,env.frame=some b->b∈o9 (envOfC qual scope s.heap.objs.size f cd ::outer):=fun env he b hb=>List.mem_filterMap.mpr ⟨env,he,hb⟩
 have ff:s1.heap.FunFrames base (envOfC qual scope s.heap.objs.size f cd ::outer):=I.stack;refine wpAny_leaves_madeW (env:=envOfC qual scope s.heap.objs.size f cd) (outer:=outer) (L:=s.heap.objs.size) (base:=PySem.W.hideAll s1.heap (o9 (envOfC qual scope s.heap.objs.size f cd ::outer))) (h:=s1.heap) (s:={s1 with heap:=h'}) I.ok.frames rfl (fun b o q=>PySem.W.of_hideAll _ q) (PySem.W.funFrames_hide ff hin) hx fun MP t x1 x2 x3 x4=>?_
 exact D4 (s':={s1 with heap:=h'}) I rfl rfl rfl rfl I.bare (Un.kept hx.keeps) (I.hok.kept hx.keeps) (fun b o q hb Pu=>by
  obtain⟨u,hu⟩:∃u,s1.heap.get? b=some u:=Pu.elim id fun⟨u,hu⟩=>vS I.hok hu
  have h2:=hx.keeps b u hu;have q:h'.get? b=some o:=q;rw[q] at h2;cases h2;exact PySem.W.hideAll_get _ hu hb) x1 x4 hE
end
end L2
end
section
namespace L2
open PySem PySem.Spec PyProof.Rows
def DN:List Value:=[.type "ValueError", .type "Exception", .type "BaseException", .type "object"]
structure XC (K:W.Frag) (C:Addr):Prop where
 ex:PySem.W.excIn K C DN "ValueError.__new__"=true
 ga:PySem.W.findIn K (.ref C) "__getattribute__"=some (some (.builtin "BaseException.__getattribute__"))
 gt:PySem.W.findIn K (.ref C) "__getattr__"=some none
 co:PySem.W.findIn K (.ref C) "__class__"=some (some (.builtin "object.__class__"))
 gs:PySem.W.specialIn K (.builtin "object.__class__") "__get__"=some (some (.builtin "getset_descriptor.__get__"))
 tk:PySem.W.takesIn K (.builtin "object.__class__")=some true
 mo:PySem.W.mroIn K C (.type "object")=some true
 mb:PySem.W.mroIn K C (.type "BaseException")=some true
 ic:(PySem.W.clsIn K C).isSome=true
def vH(x C:Addr)(h:Heap):Prop:=∃o,h.get? x=some o/\o.cls= .ref C
theorem vH.ty{M:Model}{x C:Addr}(I:vH x C h):PySem.W.Looks M h (typeOf (.ref x)) (.ref C):=by
 obtain⟨o,e,c⟩:=I;exact c▸(PySem.W.Looks.ld e).andThen .now
section
variable {prog:Program} {w:World} {A:Around} {E:Y6} {s:Shared} {K:W.Frag} {x C:Addr}
theorem Fg{M:Model}(T:XC K C)(X:K.In h):PySem.W.Looks M h (Builtin.ObjectAttr.find (.ref x) (.ref C) "__class__") (.bind (.builtin "getset_descriptor.__get__") (.builtin "object.__class__")):=by
 have a1:=PySem.W.looks_findIn (M:=M) X T.co;have a2:PySem.W.Looks M h (Builtin.ObjectAttr.getOf (some (.builtin "object.__class__"))) (some (.builtin "getset_descriptor.__get__")):=PySem.W.looks_specialIn X T.gs;have a3:=PySem.W.looks_takesIn (M:=M) X T.tk;exact a1.andThen (a2.andThen ((show PySem.W.Looks M h (Builtin.ObjectAttr.dataDescriptor? (some (.builtin "object.__class__")) (some (.builtin "getset_descriptor.__get__"))) (some (.builtin "getset_descriptor.__get__", .builtin "object.__class__")) from a3.andThen .now).andThen (PySem.W.Looks.tag .now)))
theorem Hl{tp:Value}{R:Result->Shared->Prop}(T:XC K C)(X:K.In s.heap)(I:vH x C s.heap)(h:R (.ok (.ret (.ref C))) s) :
 codeAny (model prog w) A (.call (.builtin "getset_descriptor.__get__") ⟨[.builtin "object.__class__", .ref x,tp],[]⟩) R s:=by
 obtain⟨hp,gn,dr,tk,oo⟩:=s;have b0:=I.ty (M:=model prog w);have b1:=PySem.W.looks_mroIn (M:=model prog w) X T.mo;refine codeAny_call_builtin PySem.W.KF.slot_gs.plain PySem.W.KF.entry_gs (PySem.W.KF.slot_gs.check _ _ _ _ _ _ _ _ PySem.W.KF.type_class (PySem.W.KF.args_gs _ _ _) ?_);unfold Builtin.«getset_descriptor.__get__» PySem.Builtin.Getset_descriptor.descrGet;rw[PySem.W.dga_obj];refine wpAny_bind (wpAny_pure ?_);unfold PySem.Builtin.Getset_descriptor.descrGetter PySem.Builtin.Getset_descriptor.descrCheckInstance PySem.Builtin.Getset_descriptor.descrNameAndClass isInstance;simp only[PySem.W.KF.owner_class]
 repeat lk
 refine⟨Code.quiet_builtin _ (by decide+kernel),codeAny_builtin PySem.W.KF.entry_class ?_⟩
 unfold Builtin.«object.__class__» shownTypeOf
 repeat lk
 exact h
theorem LC{tk:Tok}{R:Result->Shared->Prop}(T:XC K C)(X:K.In s.heap)(I:vH x C s.heap)(h:R (.ok (.ret (.ref C))) s) :
 codeAny (model prog w) A (.call (.builtin "BaseException.__getattribute__") ⟨[.ref x, .str "__class__" tk],[]⟩) R s:=by
 have L0:=I.ty (M:=model prog w);have L1:=Fg (M:=model prog w) (x:=x) T X;have LM:=PySem.W.looks_mroIn (M:=model prog w) X T.mb;have LI:PySem.W.Looks (model prog w) s.heap (isInstance (.ref x) (.type "BaseException")) true:=L0.andThen LM;have hk:builtinKind "BaseException.__getattribute__"=some .slot:=by decide+kernel
 have Bm:splitId "BaseException.__getattribute__"=some ("BaseException","__getattribute__"):=by decide+kernel
 have ha:=PySem.F.args_bexc_ga (.ref x) (.str "__class__" tk);refine codeAny_call_builtin PySem.F.excAttr_ValueError.ga.plain PySem.F.entry_bexc_ga ?_;obtain⟨hh,g,d,t,os⟩:=s;simp only[checkBuiltinCall,hk,Bm];refine wpAny_bind (LI.at ?_);simp only[Bool.not_true,Bool.false_eq_true,if_false];refine wpAny_of_eq ha ?_;refine wpAny_bind (wpAny_pure (wpAny_bind (wpAny_pure (wpAny_bind (L0.at (wpAny_bind (L1.at ?_)))))));show wpAny _ _ (holding [Value.builtin "object.__class__"] (call (.builtin "getset_descriptor.__get__") [.builtin "object.__class__", .ref x, .ref C]) >>=ret) _ _ _;refine wpAny_bind (wpAny_holding (wpAny_call (Hl (s:=⟨hh,g,d,t,os⟩) T X I ?_)));exact wpAny_pure h
theorem Br{Q:Option Value->Shared->Prop}(T:XC K C)(X:K.In s.heap)(I:vH x C s.heap)(h:Q (some (.ref C)) {s with toks:=s.toks+1}):wpAny (model prog w) A (getAttr? (.ref x) "__class__") Q E s:=by
 obtain⟨hh,g,d,t,os⟩:=s;have L0:=I.ty (M:=model prog w);have L1:=PySem.W.looks_findIn (M:=model prog w) X T.ga;have L2:=PySem.W.looks_findIn (M:=model prog w) X T.gt;have hb:=PySem.F.excAttr_ValueError.ga.bind (.ref x);unfold getAttr? getAttrBy? getAttrBy;refine wpAny_bind (wpAny_mkText (wpAny_bind (wpAny_attempt (wpAny_holding (wpAny_bind (L0.at (wpAny_bind (L1.at ?_))))))));have rV:(onTheHeap (Value.ref C) && Value.builtin "BaseException.__getattribute__"==Value.builtin "object.__getattribute__")=false:=by
  have z:(Value.builtin "BaseException.__getattribute__"==Value.builtin "object.__getattribute__")=false:=by decide+kernel
  rw[z];exact Bool.and_false _
 dsimp only;rw[rV,if_neg Bool.false_ne_true];unfold getAttrByItsOwn hookBefore;refine wpAny_bind (L2.at ?_);refine wpAny_bind (wpAny_attempt (wpAny_holding ?_));show wpAny _ _ (boundAndCalled _ _ _) _ _ _;unfold boundAndCalled;rw[hb];refine wpAny_bind (wpAny_pure ?_);refine wpAny_call (LC (s:=⟨hh,g,d,t+1,os⟩) T X I ?_);show wpAny _ _ (handedOut (.ref C)) _ _ _;exact PySem.W.handed_on rfl (wpAny_pure h)
theorem D5(T:XC K C):PySem.W.KitX K (.ref x) (.ref C) (vH x C) where
 ty:=fun _ _ _ I=>I.ty
 it:=fun M h X _=>by
  obtain⟨cd,hc⟩:=Option.isSome_iff_exists.mp T.ic;unfold PySem.W.clsIn at hc;split at hc
  .rename_i ho;intro A' Q' E' s' k q;unfold isType loadHead;exact wpAny_bind (wpAny_loadPart (k _ _ (X _ _ ho)) (wpAny_pure q))
  .cases hc
 ne:=fun h tp dd its n sl X W_=>by
  obtain⟨cd,hc⟩:=Option.isSome_iff_exists.mp T.ic;refine Bool.eq_false_iff.mpr fun q=>?_
  cases Value.ref.inj (beq_iff_eq.mp q);unfold PySem.W.clsIn at hc;split at hc
  .rename_i ho;have z:=(X _ _ ho).symm.trans W_;cases z
  .cases hc
 ca:=fun X I k=>Br T X I k
theorem Il(X:K.In h)(q:PySem.W.excIn K C DN "ValueError.__new__"=true):∃bm N nm qn bs hdct sn sub ab col dd k0 k1 k2 k3 k5 mN,
 h.get? C=some (excClassObj nm qn C N bs bm hdct sn sub ab col dd k0 k1 k2 k3 k5 "ValueError.__new__")/\h.Ns N mN/\mN "__init__"=none/\OwnTail h DN bm:=by
 unfold PySem.W.excIn at q;split at q
 .rename_i dd cd sl ho;split at q
  .rename_i C' bm k0 k1 k2 k3 n k5 hm hs;simp only[Bool.and_eq_true,beq_iff_eq,Bool.not_eq_true'] at q;obtain⟨⟨⟨⟨⟨q1,q2⟩,q3⟩,q4⟩,q5⟩,q6⟩:=q;subst q1 q2;obtain⟨nm,bs,mro,ns,qn,hd,sn,sub,ab,col,del⟩:=cd;obtain⟨l⟩:=sl;dsimp only at hm hs q3 q5 q6;subst hm hs q3;exact⟨bm,ns,nm,qn,bs,hd,sn,sub,ab,col,dd,k0,k1,k2,k3,k5,_,X _ _ ho,Heap.Ns.of_isNs (PySem.W.isNs_of_in X q5),PySem.W.nsMap_none_of_in X q5 q6,PySem.W.tail_of_in X q4⟩
  .cases q
 .cases q
end
end L2
end
section
namespace L3
open PySem PySem.Spec PyProof.Rows L2
theorem R3.fG{α β:Type}{r:R3 α}{f:α->aM->R3 β}{c:Nat}{S':aM}(h:r.bind f= .ex c S'):r= .ex c S'\/∃a S,r= .ok a S/\f a S= .ex c S':=by
 cases r with
 | ok a S=>exact .inr ⟨a,S,rfl,h⟩
 | ex c' S=>cases h;exact .inl rfl
 | no=>cases h
def Gh{α:Type}(r:R3 α):R3 α:=match r with | .ex _ _=> .no | .ok a S=> .ok a S | .no=> .no
theorem jx{α:Type}{r:R3 α}{a:α}{S:aM}(h:Gh r= .ok a S):r= .ok a S:=by
 cases r with
 | ok b S=>exact h
 | ex c S=>cases h
 | no=>cases h
theorem o5{α:Type}{r:R3 α}{c:Nat}{S:aM}(h:Gh r= .ex c S):False:=by
 cases r <;> cases h
def Av(K:W.Frag)(cl:Za)(E:XK)(ρ:P3)(H:Hp)(S':aM)(c:Nat):Prop:=∀bA H',Pre ρ H bA H'->SW K cl bA H' S'->E (.ref (cl c)) none H'
theorem Av.pre{K:W.Frag}{cl:Za}{E:XK}{S':aM}{c:Nat}(q:Av K cl E ρ H S' c)(p:Pre ρ H bJ H1):Av K cl E bJ H1 S' c:=fun bA H' p' w=>q bA H' (p.trans p') w
def V2(K:W.Frag)(cl:Za)(E:XK)(f:FX):TE:=fun σ H Q=>∃ρ S δ,dS K cl ρ H S σ δ/\((∃v S',f δ S= .ok v S'/\∀u bA H',Pre ρ H bA H'->SW K cl bA H' S'->aV K bA H' v u->Q u H')\/∃c S',f δ S= .ex c S'/\Av K cl E ρ H S' c)
def P7(K:W.Frag)(cl:Za)(E:XK)(f:FA):TA:=fun σ H Q=>∃ρ S δ,dS K cl ρ H S σ δ/\((∃vs S',f δ S= .ok vs S'/\∀us bA H',Pre ρ H bA H'->SW K cl bA H' S'->az K bA H' vs us->Q us H')\/∃c S',f δ S= .ex c S'/\Av K cl E ρ H S' c)
def O9(K:W.Frag)(cl:Za)(E:XK)(F:FZ):TS:=fun D σ H=>∃ρ S δ,dS K cl ρ H S σ δ/\((∃o S',F δ S= .ok o S'/\wz K cl ρ H D S' o)\/∃c S',F δ S= .ex c S'/\Av K cl E ρ H S' c)
structure Jh (X:Cx) (cl:Za) (E:XK) (e:Expr) (f:FX):Prop where
 go:PE X e (V2 X.K cl E f)
structure zV (X:Cx) (cl:Za) (E:XK) (es:List Expr) (f:FA):Prop where
 go:PA X es (P7 X.K cl E f)
structure Jn (X:Cx) (cl:Za) (E:XK) (st:Stmt) (F:FZ):Prop where
 go:PS X st (O9 X.K cl E F)
structure uA (X:Cx) (cl:Za) (E:XK) (st:List Stmt) (F:FZ):Prop where
 go:vW X st (O9 X.K cl E F)
section
variable {X:Cx} {cl:Za} {E:XK}
def uG(f:FX):FX:=fun δ S=>Gh (f δ S)
def ft(f:FA):FA:=fun δ S=>Gh (f δ S)
def CQ(f:FZ):FZ:=fun δ S=>Gh (f δ S)
theorem zp(h:PX X cl e f):Jh X cl E e (uG f):=⟨h.1.imp fun σ H Q ⟨ρ,S,δ,En,z⟩=>by
 rcases z with⟨v,S',hf,q⟩ | ⟨c,S',hf,q⟩
 .exact⟨ρ,S,δ,v,S',En,jx hf,q⟩
 .exact(o5 hf).elim⟩
theorem dq(h:Ig X cl es f):zV X cl E es (ft f):=⟨h.1.imp fun σ H Q ⟨ρ,S,δ,En,z⟩=>by
 rcases z with⟨v,S',hf,q⟩ | ⟨c,S',hf,q⟩
 .exact⟨ρ,S,δ,v,S',En,jx hf,q⟩
 .exact(o5 hf).elim⟩
theorem zW{st:Stmt}(h:PZ X cl st F):Jn X cl E st (CQ F):=⟨h.1.imp fun D σ H ⟨ρ,S,δ,En,z⟩=>by
 rcases z with⟨v,S',hf,q⟩ | ⟨c,S',hf,q⟩
 .exact⟨ρ,S,δ,v,S',En,jx hf,q⟩
 .exact(o5 hf).elim⟩
theorem qc{st:List Stmt}(h:EX X cl st F):uA X cl E st (CQ F):=⟨h.1.imp fun D σ H ⟨ρ,S,δ,En,z⟩=>by
 rcases z with⟨v,S',hf,q⟩ | ⟨c,S',hf,q⟩
 .exact⟨ρ,S,δ,v,S',En,jx hf,q⟩
 .exact(o5 hf).elim⟩
def yq(K:W.Frag)(cl:Za)(n:Nat)(g:List V3->aM->R3 V3):Sp:=fun vs H Q E=>vs.length=n/\∃ρ S xs,SW K cl ρ H S/\az K ρ H xs vs/\
 ((∃v S',g xs S= .ok v S'/\∀u bA H',Pre ρ H bA H'->SW K cl bA H' S'->aV K bA H' v u->Q u H')\/∃c S',g xs S= .ex c S'/\Av K cl E ρ H S' c)
def fF(P:Program)(w:World)(K:W.Frag)(mg:Y_)(base:Heap)(cl:Za)(k:Nat)(x:Str)(n:Nat)(g:List V3->aM->R3 V3):Prop:=
 ∃(f:Addr) (fd:FuncData) (ps:List Str),jt P w K mg base (vA P w) k f fd ps (yq K cl n g)/\mg x=some (.ref f)/\PySem.W.keepIn K (.ref f)=true/\Binds K fd ps []
theorem t8{g:List V3->aM->R3 V3}{k j n:Nat}{x:Str}{p pos:Pos}{e:Expr}{es:List Expr}{fs:FA}(hp:Passes (vA X.prog X.w) X E)(C:fF X.prog X.w X.K X.mg X.base cl k x n g)(hr:dH j X.A)(F4:k<=j)(hg:Gl X x)(ha:zV X cl E (e ::es) fs)
 (hn:∀δ S ds S',fs δ S= .ok ds S'->ds.length=n) (kL:(x==("__debug__":Str))=false:=by decide) (he:starEach (e ::es) X.env=(false,eval e X.env) ::starEach es X.env:=by rfl) (mT:(backTo pos (starEach es X.env)).any (·.1)=false:=by rfl) :
 Jh X cl E (.Call (.Name x p) (e ::es) [] pos) (rF g fs):=by
 obtain⟨f,fd,ps,F,hm,hk,hb⟩:=C;refine⟨(wc F (hr.mono F4) hg hm hk hb .nil hp ha.1 kL he mT).imp fun σ H Q ⟨ρ,S,δ,En,z⟩=>⟨ρ,S,δ,En,?_⟩⟩
 have go:∀vs S1,fs δ S= .ok vs S1->((∃v S',g vs S1= .ok v S'/\∀u bA H',Pre ρ H bA H'->SW X.K cl bA H' S'->aV X.K bA H' v u->Q u H')\/∃c S',g vs S1= .ex c S'/\Av X.K cl E ρ H S' c)->
  (∃vs S',fs δ S= .ok vs S'/\∀us bA H',Pre ρ H bA H'->SW X.K cl bA H' S'->az X.K bA H' vs us->(fun vs H1=>yq X.K cl n g (vs++[]) H1 Q E) us H')\/∃c S',fs δ S= .ex c S'/\Av X.K cl E ρ H S' c:=fun vs S1 h1 h2=>by
  refine .inl ⟨vs,S1,h1,fun us bJ H1 p1 w1 r1=>?_⟩
  show yq X.K cl n g (us++[]) H1 Q E;rw[List.append_nil];refine⟨by rw[<-r1.length];exact hn δ S vs S1 h1,bJ,S1,vs,w1,r1,?_⟩
  rcases h2 with⟨v,S',h3,q⟩ | ⟨c,S',h3,q⟩
  .exact .inl ⟨v,S',h3,fun u pU H2 p2 w2 r2=>q u pU H2 (p1.trans p2) w2 r2⟩
  .exact .inr ⟨c,S',h3,q.pre p1⟩
 rcases z with⟨v,S',hf,q⟩ | ⟨c,S',hf,q⟩
 .obtain⟨vs,S1,h1,h2⟩:=R3.af hf;exact go vs S1 h1 (.inl ⟨v,S',h2,q⟩)
 .rcases R3.fG hf with h1 | ⟨vs,S1,h1,h2⟩
  .exact .inr ⟨c,S',h1,q⟩
  .exact go vs S1 h1 (.inr ⟨c,S',h2,q⟩)
theorem nX{pos:Pos}(he:Jh X cl E e f)(CB:swapsWith e none pos.line X.env=pure false:=by rfl):Jn X cl E (.Expr e pos) (tP f):=⟨(sf he.1 CB).imp fun D σ H ⟨ρ,S,δ,En,z⟩=>by
 refine⟨ρ,S,δ,En,?_⟩;rcases z with⟨o,S',hf,q⟩ | ⟨c,S',hf,q⟩
 .obtain⟨v,S1,h1,h2⟩:=R3.af hf;cases h2;exact .inl ⟨v,_,h1,fun u bJ H1 p1 w1 r1=>q _ bJ H1 p1 (En.to p1 w1)⟩
 .rcases R3.fG hf with h1 | ⟨v,S1,h1,h2⟩
  .exact .inr ⟨c,S',h1,q⟩
  .cases h2⟩
def xZ(f:FB):FB:=fun δ S=>Gh (f δ S)
theorem gE(hc:CP X cl c fc)(ha:uA X cl E a F)(hb:uA X cl E b G):Jn X cl E (.If c a b pos) (ug (xZ fc) F G):=⟨(EZ hc.1 ha.1 hb.1).imp fun D σ H ⟨ρ,S,δ,En,z⟩=>by
 have fin:∀k S1,fc δ S= .ok k S1->((∃o S',(if k then F δ S1 else G δ S1)= .ok o S'/\wz X.K cl ρ H D S' o)\/∃c S',(if k then F δ S1 else G δ S1)= .ex c S'/\Av X.K cl E ρ H S' c)->M6 (K8 X.K cl fc) (O9 X.K cl E F) (O9 X.K cl E G) D σ H:=fun k S1 h1 h2=>by
  refine⟨ρ,S,δ,k,S1,En,h1,fun bJ H1 p1 w1=>?_⟩
  cases k with
  | true=>
    refine EL ⟨bJ,S1,δ,En.to p1 w1,?_⟩;rcases h2 with⟨o,S',h3,q⟩ | ⟨c,S',h3,q⟩
    .rw [if_pos rfl] at h3;exact .inl ⟨o,S',h3,q.pre p1⟩
    .rw [if_pos rfl] at h3;exact .inr ⟨c,S',h3,q.pre p1⟩
  | false=>
    refine Fs ⟨bJ,S1,δ,En.to p1 w1,?_⟩;rcases h2 with⟨o,S',h3,q⟩ | ⟨c,S',h3,q⟩
    .rw [if_neg (by decide)] at h3;exact .inl ⟨o,S',h3,q.pre p1⟩
    .rw [if_neg (by decide)] at h3;exact .inr ⟨c,S',h3,q.pre p1⟩
 rcases z with⟨o,S',hf,q⟩ | ⟨c,S',hf,q⟩
 .obtain⟨k,S1,h1,h2⟩:=R3.af hf;exact fin k S1 (jx h1) (.inl ⟨o,S',h2,q⟩)
 .rcases R3.fG hf with h1 | ⟨k,S1,h1,h2⟩
  .exact(o5 h1).elim
  .exact fin k S1 (jx h1) (.inr ⟨c,S',h2,q⟩)⟩
theorem d9:uA X cl E [] mi:=⟨vx.imp fun D σ H ⟨ρ,S,δ,En,z⟩=>by
 rcases z with⟨o,S',hf,q⟩ | ⟨c,S',hf,q⟩
 .cases hf;exact q σ ρ H (Pre.refl ρ H) En
 .cases hf⟩
theorem bO{st:Stmt}(h:Jn X cl E st F):uA X cl E [st] F:=⟨vX h.1⟩
theorem bX{st:Stmt}{rest:List Stmt}(h1:Jn X cl E st F)(h2:uA X cl E rest G):uA X cl E (st ::rest) (cB F G):=⟨(sU h1.1 h2.1).imp fun D σ H ⟨ρ,S,δ,En,z⟩=>by
 refine⟨ρ,S,δ,En,?_⟩;rcases z with⟨o,S',hf,q⟩ | ⟨c,S',hf,q⟩
 .obtain⟨o1,S1,h1,h2⟩:=R3.af hf;refine .inl ⟨o1,S1,h1,?_⟩;cases o1 with
  | nx δ1=>exact fun MM bJ H1 p1 E1=>⟨bJ,S1,δ1,E1, .inl ⟨o,S',h2,q.pre p1⟩⟩
  | rt d=>cases h2;exact q
 .rcases R3.fG hf with h1 | ⟨o1,S1,h1,h2⟩
  .exact .inr ⟨c,S',h1,q⟩
  .refine .inl ⟨o1,S1,h1,?_⟩;cases o1 with
   | nx δ1=>exact fun MM bJ H1 p1 E1=>⟨bJ,S1,δ1,E1, .inr ⟨c,S',h2,q.pre p1⟩⟩
   | rt d=>cases h2⟩
def y8(X:Cx)(E:XK):Prop:=∀(pins:Y5) (σ:L2.St) (H:Hp) (s:Shared) (h':Heap) (a:Addr) (cls:Value) (vs:List Value),Inv X pins σ H s->Heap.MadeExcOf s.heap h' a cls vs->E cls none H->X.xe (.ref a) {s with heap:=h'}
def fJ(c:Nat)(fs:FA):FZ:=fun δ S=>(fs δ S).bind fun vs S=>R3.aU (decide (vs.length<=sizeLine)) (.ex c S)
theorem EB{C:Addr}{t:TA}{x:Str}{e:Expr}{es:List Expr}{np bf pos:Pos}(hf:y8 X E)(hc:X.calm=true)(T:XC X.K C)(hg:Gl X x)(hm:X.mg x=some (.ref C))(ha:PA X (e ::es) t)(kL:(x==("__debug__":Str))=false:=by decide)
 (he:starEach (e ::es) X.env=(false,eval e X.env) ::starEach es X.env:=by rfl) (mT:(backTo bf (starEach es X.env)).any (·.1)=false:=by rfl) :
 PS X (.Raise (some (.Call (.Name x np) (e ::es) [] bf)) none pos) (fun D σ H=>t σ H fun vs H1=>vs.length<=sizeLine/\E (.ref C) none H1):=by
 intro pins s σ H D I h;obtain⟨bm,N,nm,qn,bs,hdct,sn,sub,ab,col,dd,k0,k1,k2,k3,k5,mN,hC,hN,hni,OT⟩:=Il (C:=C) I.mod.kin T.ex;refine wpAny_Raise_call_subT (C:=C) (nm:=nm) (q:=qn) (N:=N) (bs:=bs) (bm:=bm) (hdct:=hdct) (sn:=sn) (sub:=sub) (ab:=ab) (col:=col) (dd:=dd) (k0:=k0) (k1:=k1) (k2:=k2) (k3:=k3) (k5:=k5) (bmB:=DN) PySem.F.excBase_ValueError (mN:=mN) (OT.hasType PySem.F.excBase_ValueError.hasBase) (I.ok.hd hc)
  (by rw[he];show(false || (backTo bf (starEach es X.env)).any (·.1))=false;rw [mT];rfl) hni (qi I hg hm ⟨rfl,?_⟩ kL)
 have hA:=ha bf pins s σ H _ I h;rw[he] at hA ⊢;refine Calls.evalArgs_plain (wpAny_mono hA (fun us s2 ⟨vs,H1,I1,r,hl,hE⟩=>⟨rfl,by rw[<-r.length];exact hl,I1.bk _ _ hC,hN.keeps I1.bk,OT.keeps I1.bk,fun h' a hx=>hf pins σ H1 s2 h' a _ _ I1 hx hE⟩) fun _ _ y=>y)
theorem cR{c:Nat}{fs:FA}{x:Str}{e:Expr}{es:List Expr}{np bf pos:Pos}(hf:y8 X E)(hc:X.calm=true)(T:XC X.K (cl c))(hg:Gl X x)(hm:X.mg x=some (.ref (cl c)))(ha:zV X cl E (e ::es) fs)(kL:(x==("__debug__":Str))=false:=by decide)
 (he:starEach (e ::es) X.env=(false,eval e X.env) ::starEach es X.env:=by rfl) (mT:(backTo bf (starEach es X.env)).any (·.1)=false:=by rfl) :
 Jn X cl E (.Raise (some (.Call (.Name x np) (e ::es) [] bf)) none pos) (fJ c fs):=⟨(EB hf hc T hg hm ha.1 kL he mT).imp fun D σ H ⟨ρ,S,δ,En,z⟩=>by
 refine⟨ρ,S,δ,En,?_⟩;rcases z with⟨o,S',hf,q⟩ | ⟨c',S',hf,q⟩
 .obtain⟨vs,S1,h1,h2⟩:=R3.af hf;unfold R3.aU at h2;split at h2 <;> cases h2
 .rcases R3.fG hf with h1 | ⟨vs,S1,h1,h2⟩
  .exact .inr ⟨c',S',h1,q⟩
  .unfold R3.aU at h2;split at h2
   .rename_i hl;cases h2;exact .inl ⟨vs,_,h1,fun us bJ H1 p1 w1 r1=>⟨by rw[<-r1.length];exact of_decide_eq_true hl,q bJ H1 p1 w1⟩⟩
   .cases h2⟩
end
theorem l8{P:Program}{w:World}{K:W.Frag}{mg:Y_}{base:Heap}{cl:Za}{x qual:Str}{st:Stmt}{f:Addr}{fd:FuncData}{N ps:List Str}{k:Nat}{F:FZ}{b:List Stmt}{sc:Scope}(hb:aX st=b)(hs:aC st=sc)(Fn:zw K x qual st f fd)(S:bq N ps sc)
 (ig:∀(dF:Value) (A:Around) (outer:List Env) (s:Shared) (H:Hp) (E:XK),dH k (A.deeper (envOfC qual sc s.heap.objs.size f dF))->
   uA (lR (vA P w) P w K mg base N qual sc f dF A outer s H E) cl E b F):jt P w K mg base (vA P w) (k+1) f fd ps (yq K cl ps.length (uh N F)):=by
 subst hb hs;obtain⟨oc,od,kV,doc,pm,an,dF,ct,F3,rfl,lk,uN⟩:=Fn.ex;refine Jt lk uN S (fun vs H Q E h=>h.1) fun A outer s H vs Q E hr Bm=>⟨_,(ig dF A outer s H E hr).1,?_⟩
 obtain⟨_,ρ,S,ds,w,r,z⟩:=Bm;refine⟨ρ,S,dt N ds,ya w r,?_⟩;rcases z with⟨v,S',hg,q⟩ | ⟨c,S',hg,q⟩
 .obtain⟨o,S1,h1,h2⟩:=R3.af hg;refine .inl ⟨o,S1,h1,?_⟩;cases o with
  | nx dm=>
    cases h2;exact fun b8 bA H' p' E'=>q _ bA H' p' E'.sw (by unfold aV Rep;rfl)
  | rt d'=>
    cases h2;exact fun u bA H' p' w' r'=>q u bA H' p' w' r'
 .rcases R3.fG hg with h1 | ⟨o,S1,h1,h2⟩
  .exact .inr ⟨c,S',h1,q⟩
  .cases o with
   | nx dm=>cases h2
   | rt d'=>cases h2
theorem j0{P:Program}{w:World}{K:W.Frag}{mg:Y_}{base:Heap}{N:List Str}{qual:Str}{scope:Scope}{f:Addr}{cd:Value}{A:Around}{outer:List Env}{s:Shared}{H:Hp}{E:XK} :
 Passes (vA P w) (lR (vA P w) P w K mg base N qual scope f cd A outer s H E) E:=Nr
theorem cP{P:Program}{w:World}{K:W.Frag}{mg:Y_}{base:Heap}{N:List Str}{qual:Str}{scope:Scope}{f:Addr}{cd:Value}{A:Around}{outer:List Env}{s:Shared}{H:Hp}{E:XK} :
 y8 (lR (vA P w) P w K mg base N qual scope f cd A outer s H E) E:=fun pins σ H1 s1 h' a cls vs I hx hE=>K6 I hx hE
end L3
end
section
namespace L2
open PySem PySem.Spec PyProof.Rows
abbrev Cx.alt(X:Cx)(A:Around)(calm:Bool)(pn:Y5)(xe:Y6):Cx:={X with A:=A,calm:=calm,pn:=pn,xe:=xe}
theorem Cx.Ok.alt{X:Cx}(ok:X.Ok){A:Around}{calm:Bool}{pn:Y5}{xe:Y6}(hd:calm=true->A.handled=none)(hf:A.frames=X.A.frames):(X.alt A calm pn xe).Ok:=
 ⟨ok.mod,ok.kind,ok.glob,ok.blt,ok.above,ok.inj,ok.has,ok.cab,hd,hf.trans ok.frames,ok.stk,ok.exf,ok.bs,ok.bsz,ok.noex,ok.exfs,ok.qE,ok.frf⟩
section
variable {X:Cx} {pins l9:Y5} {σ:St} {H H1 H':Hp} {s s1 s':Shared}
theorem Inv.alt{A:Around}{calm:Bool}{pn:Y5}{xe:Y6}(I:Inv X pins σ H s)(hd:calm=true->A.handled=none)(hf:A.frames=X.A.frames)(hp:∀p∈pn++l9,p∈X.pn++pins):Inv (X.alt A calm pn xe) l9 σ H s:=
 ⟨I.ok.alt hd hf,I.os,I.bare,I.base,I.loc,I.cell,I.free,I.freeC,fun p hq=>I.pin p (hp p hq),I.hok,I.len⟩
theorem Inv.N0{calm:Bool}{pn:Y5}{xe:Y6}(ok:X.Ok)(I:Inv (X.alt A calm pn xe) l9 σ H s)(hp:∀p∈X.pn++pins,p∈pn++l9):Inv X pins σ H s:=
 ⟨ok,I.os,I.bare,I.base,I.loc,I.cell,I.free,I.freeC,fun p hq=>I.pin p (hp p hq),I.hok,I.len⟩
theorem Bi{M:Model}{A:Around}{E:Y6}{i:Nat}{x:Str}{pos:Pos}{Q:Unit->Shared->Prop}(I:Inv X pins σ H s)(hN:X.N.Nodup)(hi:X.N[i]? =some x)(hk:X.env.kindOf x=some .local)
 (h:∀s',Inv X pins (σ.set i none) H s'->Q () s'):wpAny M A (do bindName X.env x .none;unbindBehindTheSuite X.env x pos) Q E s:=by
 obtain⟨m,hn,hl⟩:=id I.loc;have hcls:(X.env.scope.kind== .class || (X.env.scope.kind== .module && X.env.locals !=X.env.globals))=false:=by rw[I.ok.kind];rfl
 have hiσ:i < σ.length:=by rw[I.len];exact(List.getElem?_eq_some_iff.mp hi).1
 have DV:=I.DV;refine wpAny_nameGoes_keeps hk hn hcls fun h' v RN hs=>?_
 refine h _ ⟨I.ok,I.os,I.bare,⟨fun b o e n hb hx=>?_,fun b o e n hb hx=>?_,I.base.free,fun b o e hx=>?_,I.base.tups,I.base.frzs,I.base.tbls⟩,⟨_,RN,fun j y v' e1 e2 e3=>?_⟩,fun y c e=>?_,I.free,I.freeC,fun p hp=>?_,fun b ob e=>?_,by simpa using I.len⟩
 .exact(hs.2 b (Nat.ne_of_lt (Nat.lt_of_lt_of_le (Heap.lt_size e) I.ok.above))).trans (I.base.keep b o e n hb hx)
 .obtain⟨sl,e1⟩:=I.base.slot b o e n hb hx;exact⟨sl,(hs.2 b (Nat.ne_of_lt (Nat.lt_of_lt_of_le (Heap.lt_size e) I.ok.above))).trans e1⟩
 .obtain⟨o',e1⟩:=I.base.there b o e hx;exact⟨o',(hs.2 b (Nat.ne_of_lt (Nat.lt_of_lt_of_le (Heap.lt_size e) I.ok.above))).trans e1⟩
 .by_cases hj:j=i
  .subst hj;rw[List.getElem?_set_self hiσ] at e2;cases e2
  .rw [List.getElem?_set_ne (Ne.symm hj)] at e2;obtain⟨u',r',q⟩:=hl j y v' e1 e2 e3;refine⟨u',r',?_⟩;rcases q with⟨k,e⟩ | ⟨k,c,e,z⟩
   .refine .inl ⟨k,?_⟩;have:y≠x:=fun e=>hj (qb hN e1 (e▸hi))
    simp [this,e]
   .exact .inr ⟨k,c,e,z.sameBut hs (DV y c e)⟩
 .obtain⟨w',z⟩:=I.cell y c e;exact⟨w',z.sameBut hs (DV y c e)⟩
 .obtain⟨e,n,ne,nf,d⟩:=I.pin p hp;exact⟨(hs.2 p.1 ne).trans e,n,ne,nf,d⟩
 .refine(I.hok b ob e).xx (fun c w' hc q=>(hs.2 c ?_).trans q) (fun _ q=>q) fun _ _ q=>q
  rintro rfl;rcases hc with rfl | hc
  .have z:=I.free;rw [z] at e;cases e
  .have z:=I.free;rw [z] at hc;cases hc
theorem tS{B h5:Heap}{a:Addr}{C:Addr}{a0:Value}(I:Inv X pins σ H1 s1)(yI:X.stack=X.env ::X.outer)(os:s'.os=s1.os)(bare:AllBare s'.gens)(un:Un (o9 X.stack) [] H1 H' s1.heap s'.heap)(hok:mX X.prog X.w H' s'.heap)
 (xh:∀b o,s'.heap.get? b=some o->b ∉ o9 X.stack->((∃u,s1.heap.get? b=some u)\/∃u,H' b=some u)->B.get? b=some o) (fl:Heap.FlyingW B X.stack a (.ref C) a0 h5) (up:s'.heap.UpToSlots h5) :
 H' a=none/\vH a C h5/\Inv X pins σ (upd H' a (.ext (L3.isExc C a))) {s' with heap:=h5}:=by
 have hfree:∀b,b∈o9 X.stack->H' b=none:=fun b hb=>by
  obtain⟨_,o,ho,_⟩:=I.stack.mem hb;exact un.free b o ho (I.oy b hb) (by simp)
 have stB:∀b o,B.get? b=some o->h5.get? b=some o:=fl.1;have Gp:∀b o,H' b=some o->∀u,s'.heap.get? b=some u->h5.get? b=some u:=fun b o q u hu=>stB b u (xh b u hu (fun hb=>by rw[hfree b hb] at q;cases q) (.inr ⟨o,q⟩))
 obtain⟨oe,vs,he,hec,hed,_⟩:=fl.first
 have nst:a ∉ o9 X.stack:=fun hb=>by
  obtain⟨_,o,ho,hd⟩:=fl.2.2.1.mem hb;rw[he] at ho;cases ho;exact hd _ hed
 have n0:∀u,s1.heap.get? a≠some u:=fun u hu=>by
  obtain⟨u2,h2⟩:=un.there a u hu (by simp)
  have:=xh a u2 h2 nst (.inl ⟨u,hu⟩);rw[fl.2.1] at this;cases this
 have n1:H' a=none:=by
  cases q:H' a with
  | none=>rfl
  | some u=>
    obtain⟨u2,h2⟩:=vS hok q;have:=xh a u2 h2 nst (.inr ⟨u,q⟩);rw[fl.2.1] at this;cases this
 have n2:H1 a=none:=by
  cases q:H1 a with
  | none=>rfl
  | some u=>
    obtain⟨u2,h2⟩:=vS I.hok q;exact absurd h2 (n0 u2)
 refine⟨n1,⟨oe,he,hec⟩,?_⟩;have un2:Un (o9 X.stack) [] H1 (upd H' a (.ext (L3.isExc C a))) s1.heap h5:=by
  refine⟨fun b o q n hb _=>?_,fun b o q n hb _=>?_,fun b o q n _=>?_,fun b o q _=>?_,fun b xs q=>?_,fun b o u q=>?_,fun b ps q=>?_⟩
  .exact stB b o (xh b o (un.keep b o q n hb (by simp)) hb (.inl ⟨o,q⟩))
  .obtain⟨Sv,h2⟩:=un.slot b o q n hb (by simp)
   obtain⟨_,o',uO,hd⟩:=I.stack.mem hb;rw[q] at uO;cases uO;obtain⟨Mt,h3⟩:=up b _ h2 hd;exact⟨Mt,h3⟩
  .rw [a_ (fun z=>by subst z;exact n0 o q)];exact un.free b o q n (by simp)
  .obtain⟨u2,h2⟩:=un.there b o q (by simp)
   by_cases hb:b∈o9 X.stack
   .obtain⟨_,o',uO,hd⟩:=I.stack.mem hb;obtain⟨sl,h3⟩:=un.slot b o' uO (I.oy b hb) hb (by simp)
    obtain⟨Mt,h4⟩:=up b _ h3 hd;exact⟨_,h4⟩
   .exact⟨u2,stB b u2 (xh b u2 h2 hb (.inl ⟨o,q⟩))⟩
  .rw [a_ (bz q n2)];exact un.tups b xs q
  .rw [a_ (bz q n2)];exact un.frzs b o u q
  .rw [a_ (bz q n2)];exact un.tbls b ps q
 have hok2:mX X.prog X.w (upd H' a (.ext (L3.isExc C a))) h5:=fun b o q=>by
  by_cases hb:b=a
  .subst hb;rw[aY] at q;cases q;refine⟨⟨oe,he,hec⟩,⟨oe,he⟩,fun h1 h2 p k=>?_⟩
   obtain⟨o,h3,h4⟩:=p;exact⟨o,k o h3,h4⟩
  .rw [a_ hb] at q;refine(hok b o q).xx (fun c u hc hu=>?_) (fun c z=>by rw[a_ (bz z n1)];exact z) (fun c xs z=>by rw[a_ (bz z n1)];exact z)
   rcases hc with rfl | hc
   .exact Gp c o q u hu
   .exact Gp c _ hc u hu
 exact I.Jj (s':={s' with heap:=h5}) os un2 hok2 bare (fun b z=>absurd z (by simp))
end
end L2
namespace L3
open PySem PySem.Spec PyProof.Rows L2
section
variable {X:Cx} {cl:Za}
def uF(F:FZ)(ok:Nat->Bool)(i:Nat)(G:FZ):FZ:=fun δ S=>match F δ S with
 | .ok o S'=> .ok o S'
 | .ex c S'=>R3.aU (ok c) ((Gh (G ((List.replicate δ.length none).set i (some (.loc S'.length))) (S'++[.exc c]))).bind fun o S2=>match o with | .nx dm=> .ok (.nx (dm.set i none)) S2 | .rt v=> .ok (.rt v) S2)
 | .no=> .no
theorem K1{F G:FZ}{ok:Nat->Bool}{i:Nat}{n fx:Str}{Cf:Addr}{body Ga:List Stmt}{b0:Stmt}{np OZ pos:Pos}(yI:X.stack=X.env ::X.outer)(CV:X.env.frame=some X.env.locals)(U7:X.calm=true)
 (hC:∀c,ok c=true->PySem.W.exmOne X.K (.ref (cl c)) (.ref Cf)=some true) (hg:Gl X fx) (hm:X.mg fx=some (.ref Cf)) (hN:X.N.Nodup) (hi:X.N[i]? =some n) (hk:X.env.kindOf n=some .local)
 (ig:∀(pn:Y5) (xe:Y6) (E:XK),Passes (vA X.prog X.w) (X.alt X.A X.calm pn xe) E->uA (X.alt X.A X.calm pn xe) cl E body F)
 (OG:∀(a:Addr) (pn:Y5),EX (X.alt (X.A.mark (some (.ref a))) false pn fun _ _=>False) cl (b0 ::Ga) G) (kL:(fx==("__debug__":Str))=false:=by decide) :
 PZ X cl (.Try body [.ExceptHandler (some (.Name fx np)) (some n) (b0 ::Ga) OZ] [] [] pos) (uF F ok i G):=⟨by
 intro pins s σ H D I ⟨ρ,S,δ,o,S',En,hf,q⟩;refine wpAny_Try_except ?_;have I1:∀xe,Inv (X.alt X.A X.calm (X.pn++pins) xe) [] σ H s:=fun xe=>I.alt I.ok.hd rfl fun p hp=>by simpa using hp
 have back:∀{b8 H' s'} {xe} {A calm l9},Inv (X.alt A calm (X.pn++pins) xe) l9 b8 H' s'->Inv X pins b8 H' s':=fun J=>Inv.N0 I.ok J fun p hp=>List.mem_append_left _ hp
 have nxt:∀{xe f s1},SP (X.alt X.A X.calm (X.pn++pins) xe) [] D f s1->(match f with | .next=>wpAny (model X.prog X.w) X.A (execs [] X.env) (SP X pins D) X.xe s1 | f=>SP X pins D f s1):=fun {xe f s1} z=>by
  cases f with
  | next=>obtain⟨b8,H',J,w⟩:=z;exact wpAny_execs_nil ⟨b8,H',back J,w⟩
  | brk=>obtain⟨b8,H',J,w⟩:=z;exact⟨b8,H',back J,w⟩
  | cont=>obtain⟨b8,H',J,w⟩:=z;exact⟨b8,H',back J,w⟩
  | ret u=>obtain⟨v,b8,H',J,r,w⟩:=z;exact⟨v,b8,H',back J,r,w⟩
 cases hF:F δ S with
 | no=>simp only[uF,hF] at hf;cases hf
 | ok o1 S1=>
   simp only[uF,hF] at hf;cases hf;exact cJ ((ig (X.pn++pins) _ E0 fun _ _ _ _ _ _ _ ⟨_,_,_,_,_,_,_,_,_,_,_,_,z⟩=>z.elim).1 [] s σ H D (I1 _) ⟨ρ,S,δ,En, .inl ⟨_,_,hF,q⟩⟩) fun f s1 z=>nxt z
 | ex c S1=>
   simp only[uF,hF] at hf;obtain⟨hok,hf⟩:=R3.aL hf;obtain⟨o2,S2,hG,hf⟩:=R3.af hf;have hG:=jx hG;refine cJ ((ig (X.pn++pins) (fun e s₁=>wpAny (model X.prog X.w) X.A (noteFrame e X.env) (fun _ uL=>wpAny (model X.prog X.w) X.A (setFlight e none) (fun _ IS=>wpAny (model X.prog X.w) X.A (handleBy e X.env [.ExceptHandler (some (.Name fx np)) (some n) (b0 ::Ga) OZ]) (SP X pins D) X.xe IS) X.xe uL) X.xe s₁)
    (fun cls d H'=>cls= .ref (cl c)/\∃bA,Pre ρ H bA H'/\SW X.K cl bA H' S1) ?_).1 [] s σ H D (I1 _) ⟨ρ,S,δ,En, .inr ⟨c,S1,hF,fun bA H' p w=>⟨rfl,bA,p,w⟩⟩⟩) fun f s1 z=>nxt z
   intro l9 b8 H1 s1 e s' J hc;obtain⟨a,B,cls,a0,H',rfl,os,bare,un,hokH,fl,xh,rfl,bA,p',w'⟩:=hc;have fl:Heap.FlyingW B (X.env ::X.outer) a (.ref (cl c)) a0 s'.heap:=by rw[<-yI];exact fl
   refine wpAny_looks_onW (by rw[I.ok.frames,yI]) CV fl fun h4 held UW=>?_
   refine wpAny_landsW held fun h5 UQ US=>?_
   have C5:=tS (X:=X.alt X.A X.calm (X.pn++pins) _) (s':=s') J yI os bare un hokH xh (by rw[show Cx.stack (X.alt X.A X.calm (X.pn++pins) _)=X.env ::X.outer from yI];exact UQ) (UW.trans US)
   have J5:Inv (X.alt (X.A.mark (some (.ref a))) false (X.pn++pins) fun _ _=>False) l9 b8 _ {s' with heap:=h5}:=Inv.alt (X:=X.alt X.A X.calm (X.pn++pins) _) C5.2.2 (fun z=>by cases z) rfl fun p hp=>hp
   refine wpAny_handleBy_cons (codeAny_handlers_test (qi J5 hg hm ?_ kL)) (by intro q;cases q)
   refine(PySem.W.exm_one J5.vq (vH.ty C5.2.1) (hC c hok)).here ?_;refine codeAny_handlers_suite_as ?_;refine PyProof.Rows.lands_againW UQ fun h6 XT Xy=>?_
   have C6:=tS (X:=X.alt X.A X.calm (X.pn++pins) _) (s':=s') J yI os bare un hokH xh (by rw[show Cx.stack (X.alt X.A X.calm (X.pn++pins) _)=X.env ::X.outer from yI];exact XT) ((UW.trans US).trans Xy)
   have J6:Inv (X.alt (X.A.mark (some (.ref a))) false (X.pn++pins) fun _ _=>False) l9 b8 _ {s' with heap:=h6}:=Inv.alt (X:=X.alt X.A X.calm (X.pn++pins) _) C6.2.2 (fun z=>by cases z) rfl fun p hp=>hp
   have sm:aO H' (upd H' a (.ext (isExc (cl c) a))):=bB C6.1;obtain⟨w6,p6⟩:=w'.new (o:= .exc c) sm C6.1 (show CK X.K cl (bA.push a) _ (.exc c) _ from⟨a,aY⟩)
   have la:(bA.push a).r[S1.length]? =some a:=by
    show(bA.r++[a])[S1.length]? =some a;rw[<-w'.len,List.getElem?_append_right (Nat.le_refl _),Nat.sub_self];rfl
   refine tM (X:=X.alt (X.A.mark (some (.ref a))) false (X.pn++pins) fun _ _=>False) J6 hN hi (.inl hk) (v:= .ref a) rfl (fun s7 J7=>?_) (.inr hk)
   have XA:dS X.K cl (bA.push a) (upd H' a (.ext (isExc (cl c) a))) (S1++[.exc c]) (b8.set i (some (.ref a))) ((List.replicate δ.length none).set i (some (.loc S1.length))):=by
    refine⟨?_,w6,fun j d e=>?_⟩
    .rw [List.length_set,List.length_set,List.length_replicate,En.len,I.len];exact J.len.symm
    .by_cases hj:i=j
     .subst hj;have hlt:i < (List.replicate δ.length (none:Option V3)).length:=by
       rw[List.length_replicate,En.len,I.len];exact(List.getElem?_eq_some_iff.mp hi).1
      rw[List.getElem?_set_self hlt] at e;cases e;refine⟨.ref a,?_,by unfold aV;exact⟨a,la,rfl⟩⟩
      rw[List.getElem?_set_self];have:b8.length=X.N.length:=J.len;rw[this];exact(List.getElem?_eq_some_iff.mp hi).1
     .rw [List.getElem?_set_ne hj,List.getElem?_replicate] at e;split at e <;> cases e
   have q7:wz X.K cl (bA.push a) (upd H' a (.ext (isExc (cl c) a))) {nx:=fun Mq H8=>D.nx (Mq.set i none) H8,rt:=D.rt} S2 o2:=by
    cases o2 with
    | nx h_=>
      cases hf;intro Mq RI H8 p8 E8;refine q (Mq.set i none) RI H8 ((p'.trans p6).trans p8) ⟨?_,E8.sw,fun j d e=>?_⟩
      .rw [List.length_set,List.length_set];exact E8.len
      .by_cases hj:i=j
       .subst hj;by_cases hlt:i < h_.length
        .rw [List.getElem?_set_self hlt] at e;cases e
        .rw [List.getElem?_eq_none (by rw[List.length_set];omega)] at e;cases e
       .rw [List.getElem?_set_ne hj] at e ⊢;exact E8.val j d e
    | rt v=>
      cases hf;exact fun u RI H8 p8 w8 r8=>q u RI H8 ((p'.trans p6).trans p8) w8 r8
   refine wpAny_mono ((OG a (X.pn++pins)).1 l9 s7 _ _ _ J7 ⟨bA.push a,S1++[.exc c],_,o2,S2,XA,hG,q7⟩) (fun f s8 z=>?_) fun _ _ z=>z.elim
   cases f with
   | next=>
     obtain⟨Mq,H8,J8,z⟩:=z;exact Bi (back J8) hN hi hk fun s9 J9=>⟨_,H8,J9,z⟩
   | brk=>obtain⟨Mq,H8,J8,z⟩:=z;exact z.elim
   | cont=>obtain⟨Mq,H8,J8,z⟩:=z;exact z.elim
   | ret u=>
     obtain⟨v,Mq,H8,J8,r8,z⟩:=z;exact Bi (back J8) hN hi hk fun s9 J9=>⟨v,_,H8,J9,r8,z⟩⟩
end
end L3
end
section
namespace L2
open PySem PySem.Spec PyProof.Rows
theorem Kr{H:Hp}{a b C:Addr}(k:mX P w H h)(e:H a=some (.ext (L3.isExc C b))):vH a C h:=by
 obtain⟨p,⟨o,ho⟩,st⟩:=(show dP P w H h a (.ext (L3.isExc C b)) from k a _ e)
 by_cases hab:a=b
 .subst hab;exact p
 .exfalso
  obtain⟨o2,h2,_⟩:=st h (PySem.W.hideAll h [b]) p fun o q=>PySem.W.hideAll_get [b] q (by simpa using hab)
  rw[PySem.W.hideAll_none [b] (List.mem_singleton.mpr rfl)] at h2;cases h2
def tO:V->Bool | .ref _=>true | .ty _=>true | _=>false
def Bx:V->Value | .ref a=> .ref a | .ty n=> .type n | _=> .none
theorem Ae{v:V}{u:Value}(h:tO v=true)(r:RelV v u):u=Bx v:=by
 cases v with
 | ref a=>exact r
 | ty n=>exact r
 | _=>cases h
section
variable {X:Cx}
def Ks(K:W.Frag):List V->Hp->VK->Prop:=fun xs H Q=>∃a b C cv k,xs=[V.ref a,cv]/\H a=some (.ext (L3.isExc C b))/\XC K C/\tO cv=true/\PySem.W.kitOne K (.ref C) (Bx cv)=some k/\Q (.bl k) H
def J_(K:W.Frag):List V->Hp->VK->Prop:=fun xs H Q=>∃cv k,xs=[V.cD,cv]/\tO cv=true/\PySem.W.kitOne K (.type "NoneType") (Bx cv)=some k/\Q (.bl k) H
def V7(K:W.Frag):List V->Hp->VK->Prop:=fun xs H Q=>∃a b C tp O1 k,xs=[V.ref a,V.ref tp]/\H a=some (.ext (L3.isExc C b))/\XC K C/\H tp=some (.tup O1)/\O1.all tO=true/\PySem.W.kitAny K (.ref C) (O1.map Bx)=some k/\Q (.bl k) H
theorem CY:kf X (.builtin "isinstance") (Ks X.K):=by
 intro pins s σ H xs us Q I r h;obtain⟨a,b,C,cv,k,rfl,e,T,hc,hk,q⟩:=h;obtain⟨u,w',rfl,ru,yE⟩:=vals2 r;cases ru;rw[Ae hc yE];exact PySem.W.kia_one (D5 T) I.vq (Kr I.hok e) hk (fun z=>nomatch z) fun tk=>⟨.bl k,H,I.tok _,rfl,q⟩
theorem Fz:kf X (.builtin "isinstance") (J_ X.K):=by
 intro pins s σ H xs us Q I r h;obtain⟨cv,k,rfl,hc,hk,q⟩:=h;obtain⟨u,w',rfl,ru,yE⟩:=vals2 r;cases ru;rw[Ae hc yE];exact PySem.W.kia_one PySem.W.kitx_none I.vq True.intro hk (fun z=>nomatch z) fun tk=>⟨.bl k,H,I.tok _,rfl,q⟩
end
end L2
namespace L3
open PySem PySem.Spec PyProof.Rows L2
section
variable {X:Cx} {cl:Za} {E:XK}
def k8(f:FX)(tb:Nat->Option Bool):FX:=fun δ S=>(f δ S).bind fun v S1=>match v with
 | .loc k=>(match S1[k]? with | some (.exc c)=>(match tb c with | some b=> .ok (.d (.bl b)) S1 | none=> .no) | _=> .no)
 | .d .cD=> .ok (.d (.bl false)) S1
 | _=> .no
theorem gA{e c:Expr}{f:FX}{tb:Nat->Option Bool}{cv:V}{p pos:Pos}(he:PX X cl e f)(hc:PE X c (tC cv))(UP:tO cv=true)(hg:Gl X "isinstance")(hm:X.mg "isinstance"=none)
 (ht:∀c b,tb c=some b->XC X.K (cl c)/\PySem.W.kitOne X.K (.ref (cl c)) (Bx cv)=some b) (hn:PySem.W.kitOne X.K (.type "NoneType") (Bx cv)=some false)
 (hs:starEach [e,c] X.env=(false,eval e X.env) ::starEach [c] X.env:=by rfl) (Pq:starEach [c] X.env=(false,eval c X.env) ::starEach [] X.env:=by rfl) (mT:(backTo pos (starEach [c] X.env)).any (·.1)=false:=by rfl) :
 PX X cl (.Call (.Name "isinstance" p) [e,c] [] pos) (k8 f tb):=⟨by
 have both:kf X (.builtin "isinstance") (fun xs H Q=>Ks X.K xs H Q\/J_ X.K xs H Q):=fun pins s σ H xs us Q I r h=>h.elim (CY pins s σ H xs us Q I r) (Fz pins s σ H xs us Q I r)
 refine(sS both hg hm boot_isinstance (jc he.1 (jc hc mq Pq) hs) (by decide) (by decide) hs mT).imp fun σ H Q ⟨ρ,S,δ,v,S',En,hf,q⟩=>?_
 obtain⟨v1,S1,h1,h2⟩:=R3.af hf;refine⟨ρ,S,δ,v1,S1,En,h1,fun u bJ H1 p1 w1 r1=>?_⟩
 show Ks X.K [u,cv] H1 Q\/J_ X.K [u,cv] H1 Q;split at h2
 .rename_i k;split at h2
  .rename_i cc hS;split at h2
   .rename_i b hb;cases h2;unfold aV at r1;obtain⟨a,ha,rfl⟩:=r1;obtain⟨b',hH⟩:=w1.ob k a _ ha hS;exact .inl ⟨a,b',cl cc,cv,b,rfl,hH,(ht cc b hb).1,UP,(ht cc b hb).2,q _ bJ H1 p1 w1 (by unfold aV;exact Rep.bl.mpr rfl)⟩
   .cases h2
  .cases h2
 .cases h2;unfold aV at r1;cases Rep.cD.mp r1;exact .inr ⟨cv,false,rfl,UP,hn,q _ bJ H1 p1 w1 (by unfold aV;exact Rep.bl.mpr rfl)⟩
 .cases h2⟩
def VM(f:FX)(tb:Nat->Option Bool):FX:=fun δ S=>(f δ S).bind fun v S1=>match v with
 | .loc k=>(match S1[k]? with | some (.exc c)=>(match tb c with | some b=> .ok (.d (.bl b)) S1 | none=> .no) | _=> .no)
 | _=> .no
def YM(O1:List V):TA:=fun _ H Q=>Q O1 H
theorem vG{fs:FA}{n:Nat}(h:∀δ S ds S',fs δ S= .ok ds S'->ds.length=n):∀δ S ds S',ft fs δ S= .ok ds S'->ds.length=n:=fun δ S ds S' e=>h δ S ds S' (jx e)
end
end L3
end
section
namespace L3
open PySem PySem.Spec PyProof.Rows L2
section
variable {α β:Type} {S S':aM} {δ:DE} {c:Nat}
theorem Cz{r:R3 α}{Q:α->aM->Prop}(h:W3 r Q):W3 (Gh r) Q:=by
 obtain⟨a,S,e,q⟩:=h;rw[e];exact⟨a,S,rfl,q⟩
theorem Fb{f:FX}{Q:V3->aM->Prop}(h:W3 (f δ S) Q):W3 (uG f δ S) Q:=Cz h
theorem wF{f:FA}{Q:List V3->aM->Prop}(h:W3 (f δ S) Q):W3 (ft f δ S) Q:=Cz h
theorem Oj{f:FZ}{Q:Ou->aM->Prop}(h:W3 (f δ S) Q):W3 (CQ f δ S) Q:=Cz h
theorem Oi{f:FB}{Q:Bool->aM->Prop}(h:W3 (f δ S) Q):W3 (xZ f δ S) Q:=Cz h
theorem LH{F G:FZ}{ok:Nat->Bool}{i:Nat}{Q:Ou->aM->Prop}(h:W3 (F δ S) Q):W3 (uF F ok i G δ S) Q:=by
 obtain⟨o,S1,e,q⟩:=h;unfold uF;rw[e];exact W3.ok q
theorem Lv{F G:FZ}{ok:Nat->Bool}{i:Nat}{Q:Ou->aM->Prop}(h:F δ S= .ex c S')(hc:ok c=true)(hg:W3 (G ((List.replicate δ.length none).set i (some (.loc S'.length))) (S'++[.exc c])) fun o S2=>∃δ1,o= .nx δ1/\Q (.nx (δ1.set i none)) S2):W3 (uF F ok i G δ S) Q:=by
 unfold uF;rw[h];refine W3.wh hc (W3.bind (Cz (hg.mono fun o S2 ⟨δ1,e,q⟩=>?_)))
 subst e;exact W3.ok q
theorem NQ{f:FX}{tb:Nat->Option Bool}{Q:V3->aM->Prop}(h:W3 (f δ S) fun v S1=>∃k c b,v= .loc k/\S1[k]? =some (.exc c)/\tb c=some b/\Q (.d (.bl b)) S1):W3 (k8 f tb δ S) Q:=W3.bind (h.mono fun v S1 ⟨k,c,b,e,e1,e2,q⟩=>by
 subst e;simp only[e1,e2];exact W3.ok q)
end
end L3
end
section
namespace L3
open PySem PySem.Spec PyProof.Rows L2
def YO(K:W.Frag)(mg:Y_)(x:Str):Prop:=∃f,PySem.W.nsIn K mainGlobals x=some (some (.ref f))/\mg x=some (.ref f)
section
variable {X:Cx} {cl:Za} {E:XK}
def YG(x:Str):FX:=fun _ S=> .ok (.fn x) S
theorem JM:Passes (vA X.prog X.w) X E0:=fun _ _ _ _ _ _ _ ⟨_,_,_,_,_,_,_,_,_,_,_,_,z⟩=>z.elim
theorem K7(h:Jh X cl E e f):PX X cl e f:=⟨h.1.imp fun σ H Q ⟨ρ,S,δ,v,S',En,hf,q⟩=>⟨ρ,S,δ,En, .inl ⟨v,S',hf,q⟩⟩⟩
abbrev GT:=List (Str × (List V3->aM->R3 V3))
def Ft(P:Program)(w:World)(K:W.Frag)(mg:Y_)(base:Heap)(cl:Za)(j n:Nat)(l:GT):Prop:=∀x g,l.lookup x=some g->∃k,k<=j/\fF P w K mg base cl k x n g
def Qr(i:Nat)(l:GT)(fs:FA):FX:=fun δ S=>match δ[i]? with
 | some (some (.fn x))=>(match l.lookup x with | some g=>(fs δ S).bind g | none=> .no)
 | _=> .no
end
end L3
end
section
namespace HT
open PySem PySem.Spec PyProof.Rows
section
variable {prog:Program} {w:World} {A:Around} {E:Y6} {s:Shared}
end
end HT
namespace L2
open PySem PySem.Spec PyProof.Rows
def sj:D->Option Key
 | .int n=>some (Sum.inl n)
 | .str x=>some (Sum.inr x)
 | _=>none
theorem yu{K:W.Frag}{B:List Addr}{d:D}{k:Key}{v:V}(h:sj d=some k)(r:Rep K B H d v):v=kV k:=by
 cases d with
 | int n=>cases h;exact Rep.int.mp r
 | str x=>cases h;exact Rep.str.mp r
 | cD=>cases h
 | bl b=>cases h
 | lst ds=>cases h
 | tup ds=>cases h
 | dct ks ds=>cases h
def Nc(ks:List Key)(k:Key):Bool:=ks.any fun x=>decide (x=k)
def QS(ks:List Key)(ds:List D)(k:Key):Option D:=((ks.zip ds).find? fun p=>decide (p.1=k)).map (·.2)
def VJ(a b:D):R D:=match b with
 | .dct ks _=>(match sj a with | some k=> .ok (.bl (Nc ks k)) | none=> .no)
 | _=> .no
def WD(a b:D):R D:=match b with
 | .dct ks _=>(match sj a with | some k=> .ok (.bl (!Nc ks k)) | none=> .no)
 | _=> .no
def Uc(d k:D):R D:=match d with
 | .dct ks ds=>(match sj k with | some k=>(match QS ks ds k with | some x=> .ok x | none=> .no) | none=> .no)
 | _=> .no
section
variable {X:Cx}
def Ur(f:FD):FD:=fun δ=>(f δ).bind fun d=>match d with | .tup ds=> .ok (.tup ds.reverse) | _=> .no
def TM(i:Nat)(f:FD):FS:=fun δ=>(f δ).bind fun d=>match seqD? d with
 | some es=>(su δ i).bind fun ds=>R.aU (decide (ds.length+es.length<=sizeLine)) (.ok (.nx (δ.set i (.bld (ds++es)))))
 | none=> .no
def Uz(f g:FD):ao->R (List D):=fun δ=>(f δ).bind fun d=>(g δ).bind fun e=>match d,e with
 | .int i, .int j=>R.aU (decide (-(2 ^ 62)<=i/\i < 2 ^ 62/\ -(2 ^ 62)<=j/\j < 2 ^ 62/\j - i < 16777216)) (.ok (rN i (j - i).toNat))
 | _,_=> .no
end
end L2
namespace L3
open PySem PySem.Spec PyProof.Rows L2
section
variable {X:Cx} {cl:Za}
def Ub(i:Nat)(f:FX):FZ:=fun δ S=>match qz δ i with
 | none=> .no
 | some k=>match c5 S k with
   | none=> .no
   | some _=>(f δ S).bind fun v S1=>match v with
     | .d d=>(match seqD? d with
       | some es=>(match c5 S1 k with
         | some ds=>R3.aU (decide (ds.length+es.length<=sizeLine)) (.ok (.nx δ) (S1.set k (.lst (ds++es))))
         | none=> .no)
       | none=> .no)
     | _=> .no
def pC(fo fi fe:FX):FZ:=fun δ S=>(fe δ S).bind fun v S1=>(fo δ S1).bind fun o S2=>(fi δ S2).bind fun j S3=>match v,o,j with
 | .d d, .loc k, .d n=>(match qt S3 k,sj n with | some aw,some key=>R3.aU (decide (aw.length < sizeLine)) (.ok (.nx δ) (S3.set k (.dct (pq aw key d)))) | _,_=> .no)
 | _,_,_=> .no
theorem nT{pos pos':Pos}(hu:X.A.units+1 < cLine)(hv:PX X cl value fe)(ho:PX X cl o fo)(hi:PX X cl i fi)(hs:swapsWith value (some (.Subscript o i pos')) pos.line X.env=pure false:=by rfl):PZ X cl (.Assign [.Subscript o i pos'] value pos) (pC fo fi fe):=
 ⟨(Ir hu ho.1 hi.1 hv.1 hs).imp fun D σ H ⟨ρ,S,δ,ou,S',E,hf,q⟩=>by
   obtain⟨v,S1,h1,h2⟩:=R3.af hf;obtain⟨o,S2,h3,h4⟩:=R3.af h2;obtain⟨j,S3,h5,h6⟩:=R3.af h4;refine⟨ρ,S,δ,v,S1,E,h1,fun u1 bJ H1 p1 w1 r1=>⟨bJ,S1,δ,o,S2,E.to p1 w1,h3,fun u2 pU H2 p2 w2 r2=>⟨pU,S2,δ,j,S3,(E.to p1 w1).to p2 w2,h5,fun u3 CG H3 p3 w3 r3=>?_⟩⟩⟩
   split at h6
   .rename_i d k n;split at h6
    .rename_i aw key hd hn;obtain⟨hl,h7⟩:=R3.aL h6;cases h7;have r2':=r2.pre p3;unfold aV at r2';obtain⟨a,a1,rfl⟩:=r2';unfold aV at r3;have:=yu hn r3;subst this;obtain⟨ys,y1,y2,y3⟩:=w3.ob k a _ a1 (sR hd);have yH:=(r1.pre p2).pre p3;unfold aV at yH;obtain⟨e1,rH⟩:=MU (k:=key) yH y2 y3;have hll:ys.length=aw.length:=by have:=congrArg List.length y2;simpa using this
     refine⟨a,_,rfl,Cc.k (k:=key) y1 (by rw[hll];exact of_decide_eq_true hl),?_⟩
     obtain⟨w4,p4⟩:=w3.put (o:= .dct (pq aw key d)) (u:= .dK (putK ys key u1)) a1 (w3.fz k a a1 (by rw[sR hd];intro h;cases h)) ⟨_,rfl,e1,rH⟩
     exact q σ CG _ (p1.trans (p2.trans (p3.trans p4))) (E.to (p1.trans (p2.trans (p3.trans p4))) w4)
    .cases h6
   .cases h6⟩
theorem qv{fo fi fe:FX}{δ:DE}{S:aM}{QO:Ou->aM->Prop}(h:W3 (fe δ S) fun v S1=>W3 (fo δ S1) fun o S2=>W3 (fi δ S2) fun j S3=>∃d k n key aw,v= .d d/\o= .loc k/\j= .d n/\sj n=some key/\S3[k]? =some (.dct aw)/\aw.length < sizeLine/\QO (.nx δ) (S3.set k (.dct (pq aw key d)))):W3 (pC fo fi fe δ S) QO:=
 W3.bind (h.mono fun _ _ h=>W3.bind (h.mono fun _ _ h=>W3.bind (h.mono fun _ S3 ⟨d,k,n,key,aw,e1,e2,e3,e6,e4,hl,q⟩=>by
  subst e1 e2 e3;have e5:qt S3 k=some aw:=by unfold qt;simp only[e4]
  simp only[e5,e6];exact W3.wh (decide_eq_true hl) (W3.ok q))))
end
end L3
end
section
namespace PySem.W
open PySem PySem.Calls PyProof.Rows
def Jc{α:Type}(n:Nat)(lt:Nat->Nat->Bool):KasT α->Option α
 | .ret a=>some a
 | .ask i j k=>if i < n/\j < n then Jc n lt (k (lt i j)) else none
section
variable {prog:Program} {w:World} {A:Around} {E:Y6} {s:Shared} {a:Addr} {vs:List Value} {κ:SortKind}
abbrev VT(h:Heap)(a:Addr)(vs:List Value):Heap:=((h.update a (Obj.mapSeq fun _=>(#[]:Array Value))).push (seqObj "tuple" vs.toArray 0)).push (seqObj "list" #[] 0)
end
end PySem.W
namespace L2
open PySem PySem.Spec PyProof.Rows
def Vv:D->Option (Int × List Int)
 | .tup [.int a, .tup zs]=>(ints? zs).map fun ns=>(a,ns)
 | _=>none
def MX:List D->Option (List (Int × List Int))
 | []=>some []
 | d ::ds=>(Vv d).bind fun p=>(MX ds).map (p ::·)
def Vm(x y:Int × List Int):Bool:=if x.1=y.1 then(if x.2=y.2 then false else HT.lexLt x.2 y.2) else decide (x.1 < y.1)
def Pz(ps:List (Int × List Int)):Option (Array Nat):=PySem.W.Jc ps.length (fun i j=>Vm (ps.getD i (0,[])) (ps.getD j (0,[]))) (PySem.W.kas_sort ps.length)
def Qn:List D->R D
 | [.lst ds]=>(match MX ds with
   | some ps=>R.aU (decide (2<=ps.length/\ps.length < 64)) (match Pz ps with | some p=>R.aU (p.toList.all (fun i=>decide (i < ps.length)) && decide (p.toList.length < 64)) (.ok (.lst (p.toList.map fun i=>ds.getD i .cD))) | none=> .no)
   | none=> .no)
 | _=> .no
def V1(h:Heap)(v:Value)(p:Int × List Int):Prop:=
 ∃(x b:Addr) (t:Tok) (n:Nat) (o:Obj) (its:Array Value),v= .ref x/\h.get? x=some o/\o.cls= .type "tuple"/\o.data= .seq #[.int p.1 t, .ref b] n/\IsTup h b its/\IntsAre its.toList p.2
section
variable {X:Cx}
end
end L2
end
section
namespace L2
open PySem PySem.Spec PyProof.Rows
def NC(d a:D):Bool:=PyData.eqv (toPy d) (toPy a)
def Ts(d:D):Bool:=cH d && (toPy d).canLay0 && decide ((toPy d).depth<=8)
def TF(a b:D):R Bool:=match seqD? b with
 | some ds=>R.aU (Ts a && ds.all Ts) (.ok (ds.any fun d=>NC d a))
 | none=> .no
def Wj(a b:D):R D:=(TF a b).bind fun x=> .ok (.bl x)
def V6(a b:D):R D:=(TF a b).bind fun x=> .ok (.bl (!x))
section
variable {X:Cx}
open Classical in
def Tx(h:Heap)(a:D)(y:Value):Bool:=decide (∃d as,Reads h y (toPy d) as/\(toPy d).canLay0=true/\NC d a=true)
open Classical in
theorem PM{a d:D}{y:Value}{as:List Addr}(r:Reads h y (toPy d) as)(hl:(toPy d).canLay0=true):Tx h a y=NC d a:=by
 unfold Tx;cases q:NC d a with
 | true=>exact decide_eq_true ⟨d,as,r,hl,q⟩
 | false=>
   refine decide_eq_false fun⟨d',Xr,r',OV,q'⟩=>?_
   have:=SeqAt.Reads.unique _ _ y as Xr hl r r';unfold NC at q q';rw[<-this,q] at q';cases q'
end
end L2
end
section
set_option maxHeartbeats 1000000
namespace L3
open PySem PySem.Spec PyProof.Rows L2
section
variable {X:Cx} {cl:Za}
def Uu(i:Nat)(F:FZ):FZ:=fun δ S=>match qz δ i with
 | some k=>(match S[k]? with | some (.dct aw)=>F (δ.set i (some (.d (.dct (aw.map (·.1)) (aw.map (·.2)))))) (S.set k .lP) | _=> .no)
 | none=> .no
end
end L3
end
section
set_option maxHeartbeats 3200000
namespace PySem.W
open PySem PySem.Calls PyProof.Rows
namespace F2
end F2
section
variable {prog:Program} {w:World} {A:Around} {E:Y6} {s:Shared}
end
section
variable {prog:Program} {w:World} {K:Type} [DecidableEq K] {knd:KeyKind prog w K} {A:Around} {s:Shared}
def Q9(knd:KeyKind prog w K)(h:Heap)(v:Value)(q:K × Value):Prop:=
 ∃(x:Addr) (n:Nat) (o:Obj) (kv:Value),v= .ref x/\h.get? x=some o/\o.cls= .type "tuple"/\o.data= .seq #[kv,q.2] n/\knd.is q.1 kv=true
def fills(qs:List (K × Value))(aw:List (K × Value)):List (K × Value):=qs.foldl (fun acc q=>stored acc q.1 q.2) aw
end
end PySem.W
namespace L2
open PySem PySem.Spec PyProof.Rows
def WY:D->Option (Key × D)
 | .tup [a,b]=>(sj a).map fun k=>(k,b)
 | _=>none
def Ob:List D->Option (List (Key × D))
 | []=>some []
 | d ::ds=>(WY d).bind fun p=>(Ob ds).map (p ::·)
def IT(qs:List (Key × D))(aw:List (Key × D)):List (Key × D):=qs.foldl (fun acc q=>L3.pq acc q.1 q.2) aw
def Qp:List D->R D
 | [.lst ds]=>(match Ob ds with
   | some qs=>R.aU (decide (ds.length<=1000000)) (.ok (.dct ((IT qs []).map (·.1)) ((IT qs []).map (·.2))))
   | none=> .no)
 | _=> .no
section
variable {X:Cx}
end
end L2
end
section
set_option maxHeartbeats 1000000
namespace L3
open PySem PySem.Spec PyProof.Rows L2
def Gq(g:List V3->aM->R3 V3):List V3->aM->R3 V3:=fun vs S=>match g vs S with
 | .ok v S'=>(match res S' v with
   | some d=>R3.aU ((S'.take S.length).all (yt S.length) && m5 S.length v) (.ok (.d d) (S'.take S.length))
   | none=> .no)
 | .ex c S'=>R3.aU ((S'.take S.length).all (yt S.length)) (.ex c (S'.take S.length))
 | .no=> .no
theorem KD{K:W.Frag}{cl:Za}{g:List V3->aM->R3 V3}{n:Nat}{vs:List V}{Q:VK}{E:XK}(h:yq K cl n (Gq g) vs H Q E):yq K cl n g vs H Q E:=by
 obtain⟨hl,ρ,S,xs,w,r,z⟩:=h;refine⟨hl,ρ,S,xs,w,r,?_⟩;have pc:∀{bJ H1},Pre ρ H bJ H1->Pre ρ H (bJ.cut S.length) H1:=fun p1=>SW.FJ (K:=K) (cl:=cl) (by rw[w.len];exact Nat.le_refl _) p1
 rcases z with⟨v,S',hg,q⟩ | ⟨c,S',hg,q⟩
 .unfold Gq at hg;split at hg
  .rename_i v1 S1 h1;split at hg
   .rename_i d e;obtain⟨ok,h3⟩:=R3.aL hg;obtain⟨ok,hk⟩:=Bool.and_eq_true_iff.mp ok;cases h3;refine .inl ⟨v1,S1,h1,fun u bJ H1 p1 w1 r1=>q u _ H1 (pc p1) (w1.cut ok) ?_⟩
    unfold aV;refine r1.resB w1 (jr _) (fun k a hk a1 ha=>?_) hk e
    rcases P3.dY.mp ha with⟨z,_⟩ | z
    .obtain⟨j,hj⟩:=List.getElem?_of_mem z;have hj:(bJ.r.take S.length)[j]? =some a:=hj;rw[List.getElem?_take] at hj;split at hj
     .rename_i hjl;have:=w1.nd j k a hj a1;omega
     .cases hj
    .exact(w1.zb a z).2 (List.mem_of_getElem? a1)
   .cases hg
  .rename_i c1 S1 h1;unfold R3.aU at hg;split at hg <;> cases hg
  .cases hg
 .unfold Gq at hg;split at hg
  .rename_i v1 S1 h1;split at hg
   .unfold R3.aU at hg;split at hg <;> cases hg
   .cases hg
  .rename_i c1 S1 h1;unfold R3.aU at hg;split at hg
   .rename_i ok;cases hg;exact .inr ⟨_,S1,h1,fun bJ H1 p1 w1=>q _ H1 (pc p1) (w1.cut ok)⟩
   .cases hg
  .cases hg
theorem fF.q{K:W.Frag}{mg:Y_}{cl:Za}{k:Nat}{n:Nat}{g:List V3->aM->R3 V3}(C:fF P w K mg base cl k x n g):fF P w K mg base cl k x n (Gq g):=
 let⟨f,fd,ps,F,h⟩:=C;⟨f,fd,ps,F.imp fun _ _ _ _ h=>KD h,h⟩
section
variable {X:Cx} {cl:Za} {E:XK}
def L8(f:FX):FX:=fun δ S=>(f δ S).bind fun v S1=>match v with | .d (.bl b)=> .ok (.d (.bl (!b))) S1 | _=> .no
theorem L9(ha:PX X cl a f):PX X cl (.UnaryOp .Not a pos) (L8 f):=⟨(Kz ha.1).imp fun σ H Q ⟨ρ,S,δ,v,S',En,hf,q⟩=>by
 obtain⟨v1,S1,h1,h2⟩:=R3.af hf;split at h2
 .rename_i b;cases h2;refine⟨ρ,S,δ,_,_,En,h1,fun u bJ H1 p1 w1 r1=>⟨b,?_,q _ bJ H1 p1 w1 (by unfold aV;exact Rep.bl.mpr rfl)⟩⟩
  unfold aV at r1;exact Rep.bl.mp r1
 .cases h2⟩
theorem Lc{f:FX}{δ:DE}{S:aM}{Q:V3->aM->Prop}(h:W3 (f δ S) fun v S1=>∃b,v= .d (.bl b)/\Q (.d (.bl (!b))) S1):W3 (L8 f δ S) Q:=W3.bind (h.mono fun v S1 ⟨b,e,q⟩=>by subst e;exact W3.ok q)
def QY(K:W.Frag)(cl:Za)(E:XK)(ρ:P3)(H:Hp)(D:Ends)(r:R3 Ou):Prop:=match r with
 | .ok o S'=>wz K cl ρ H D S' o
 | .ex c S'=>Av K cl E ρ H S' c
 | .no=>False
def Pa(f:FA):FA:=fun δ S=>Gh (f δ S)
theorem AN{tg iter:Expr}{body:List Stmt}{it:FA}{t:FG}{F:FZ}{pos:Pos}(hp:PassesOwn (model X.prog X.w) X.A X.env X.xe)(hc:X.calm=true)(hi:N3 X cl tg iter it)(hg:OD X cl tg t)(hb:uA X cl E body F)
 (hs:∀x,foldedSetIterable iter X.env x=pure x:=by intro _;rfl):Jn X cl E (.For tg iter body [] pos) (zy (Pa it) t F):=⟨(yP hp hc hi.1 hg.1 hb.1 hs).imp fun D σ H ⟨ρ,S,δ,En,z⟩=>by
 have key:∃ds S0,it δ S= .ok ds S0/\QY X.K cl E ρ H D (ia t F ds δ S0):=by
  rcases z with⟨o,S',hf,q⟩ | ⟨c,S',hf,q⟩
  .obtain⟨ds,S0,h1,h2⟩:=R3.af hf;exact⟨ds,S0,jx h1,by rw[h2];exact q⟩
  .rcases R3.fG hf with h1 | ⟨ds,S0,h1,h2⟩
   .exact(o5 h1).elim
   .exact⟨ds,S0,jx h1,by rw[h2];exact q⟩
 obtain⟨ds,S0,h1,wi⟩:=key;obtain⟨r,hr⟩:∃r,ia t F ds δ S0=r:=⟨_,rfl⟩;rw[hr] at wi;refine⟨ρ,S,δ,ds,S0,En,h1,fun J bJ H1 p1 w1 ir=>?_⟩
 refine⟨fun i m b8 H'=>m=ds.length - i/\i<=ds.length/\∃bA S1 dm,Pre bJ H1 bA H'/\dS X.K cl bA H' S1 b8 dm/\ia t F (ds.drop i) dm S1=r,⟨ds.length,rfl,Nat.zero_le _,bJ,S0,δ,Pre.refl bJ H1,En.to p1 w1,by simpa using hr⟩,?_⟩
 rintro i m b8 H' ⟨rfl,hi,bA,S1,dm,pv,E',hl⟩;obtain⟨go,stop⟩:=ir bA H' pv.pw E'.sw.bs;by_cases hlt:i < ds.length
 .have hd:ds[i]? =some ds[i]:=List.getElem?_eq_getElem hlt;have hdrop:ds.drop i=ds[i] ::ds.drop (i+1):=List.drop_eq_getElem_cons hlt;rw[hdrop] at hl;unfold ia at hl;split at hl
  .rw [<-hl] at wi;exact wi.elim
  .rename_i δ1 h3;obtain⟨g1,g2⟩:=go i _ hd;refine .inr ⟨g1,fun uM H2=>∃pU S2 h_,Pre bJ H1 pU H2/\dS X.K cl pU H2 S2 uM h_/\ia t F (ds.drop (i+1)) h_ S2=r,fun uM H2 n=>⟨ds.length - (i+1),by omega,rfl,hlt,n⟩,fun x pK y=>?_⟩
   obtain⟨ss,rr⟩:=g2 x pK y;refine⟨bA,S1,dm,ds[i],δ1,E'.same ss,rr,h3,fun uM H2 s2 E2=>⟨bA,S1,δ1,E2,?_⟩⟩
   have pv2:Pre bJ H1 bA H2:=pv.trans (Pre.same (ss.trans s2));cases hF:F δ1 S1 with
   | no=>rw [hF] at hl;rw [<-hl] at wi;exact wi.elim
   | ex c S2=>
     rw[hF] at hl;have hl:R3.ex c S2=r:=hl;rw[<-hl] at wi;exact .inr ⟨c,S2,rfl,Av.pre wi (p1.trans pv2)⟩
   | ok o1 S2=>
     rw[hF] at hl;refine .inl ⟨o1,S2,rfl,?_⟩;cases o1 with
     | nx h_=>exact fun Gx CG H3 p3 E3=>⟨CG,S2,h_,pv2.trans p3,E3,hl⟩
     | rt d=>
       have hl:R3.ok (Ou.rt d) S2=r:=hl;rw[<-hl] at wi;exact fun v CG H3 p3 w r=>wi v CG H3 (p1.trans (pv2.trans p3)) w r
 .have e:i=ds.length:=by omega
  subst e;rw[List.drop_length] at hl;have hl:R3.ok (Ou.nx dm) S1=r:=hl;rw[<-hl] at wi;exact .inl ⟨stop,wi b8 bA H' (p1.trans pv) E'⟩⟩
theorem zR{P:Program}{w:World}{K:W.Frag}{mg:Y_}{base:Heap}{N:List Str}{qual:Str}{scope:Scope}{f:Addr}{cd:Value}{A:Around}{outer:List Env}{s:Shared}{H:Hp}{E:XK} :
 PassesOwn (model P w) (lR (vA P w) P w K mg base N qual scope f cd A outer s H E).A (lR (vA P w) P w K mg base N qual scope f cd A outer s H E).env (lR (vA P w) P w K mg base N qual scope f cd A outer s H E).xe:=PassesOwn.leaving
def kZ(P:Program)(w:World)(K:W.Frag)(mg:Y_)(base:Heap)(cl:Za)(k c:Nat)(m:Str)(n:Nat)(g:List V3->aM->R3 V3):Prop:=
 ∃(f:Addr) (fd:FuncData) (ps:List Str),yd K (cl c)/\Meth K (cl c) m f/\jt P w K mg base (vA P w) k f fd ps (yq K cl (n+1) g)/\Binds K fd ps []
theorem nc{g:List V3->aM->R3 V3}{k j n c:Nat}{m:Str}{o e:Expr}{es:List Expr}{fo:FX}{fs:FA}{apos pos:Pos}{pl:Sem Bool}(hp:Passes (vA X.prog X.w) X E)(M:kZ X.prog X.w X.K X.mg X.base cl k c m n g)(hr:dH j X.A)(F4:k<=j)(ho:PX X cl o fo)(ha:Ig X cl (e ::es) fs)(hn:∀δ S ds S',fs δ S= .ok ds S'->ds.length=n)
 (yI:starEach (e ::es) X.env=(false,eval e X.env) ::starEach es X.env:=by rfl) (mT:(backTo pos (starEach es X.env)).any (·.1)=false:=by rfl)
 (ht:eval (.Call (.Attribute o m apos) (e ::es) [] pos) X.env=(do
   let ov <-eval o X.env
   standAt apos.atName
   let(f,first) <-holding [ov] (getMethod ov m pl)
   callWith pos f first (backTo pos (starEach (e ::es) X.env)) (backToKw pos (keywordEach [] X.env))):=by rfl) :
 Jh X cl E (.Call (.Attribute o m apos) (e ::es) [] pos) (qj c m g (uG fo) (ft fs)):=by
 obtain⟨f,fd,ps,hC,hm,F,hb⟩:=M;refine⟨(Hk ho.1 hC hm F (hr.mono F4) hb .nil hp ha.1 yI mT ht).imp fun σ H Q ⟨ρ,S,δ,En,z⟩=>?_⟩
 have key:∃kk ys S1 vs S2,fo δ S= .ok (.loc kk) S1/\lX S1 c kk=some ys/\ys.lookup m=none/\fs δ S1= .ok vs S2/\((∃v S',g (.loc kk ::vs) S2= .ok v S'/\∀u bA H',Pre ρ H bA H'->SW X.K cl bA H' S'->aV X.K bA H' v u->Q u H')\/∃c S',g (.loc kk ::vs) S2= .ex c S'/\Av X.K cl E ρ H S' c):=by
  have go:∀{r:R3 V3},qj c m g (uG fo) (ft fs) δ S=r->r≠ .no->∃kk ys S1 vs S2,fo δ S= .ok (.loc kk) S1/\lX S1 c kk=some ys/\ys.lookup m=none/\fs δ S1= .ok vs S2/\g (.loc kk ::vs) S2=r:=fun {r} hr rV=>by
   unfold qj at hr;cases hfo:fo δ S with
   | no=>unfold uG at hr;rw [hfo] at hr;exact absurd hr.symm rV
   | ex c' S'=>unfold uG at hr;rw [hfo] at hr;exact absurd hr.symm rV
   | ok o S1=>
     unfold uG at hr;rw[hfo] at hr;simp only[Gh,R3.aG] at hr;split at hr
     .rename_i kk;split at hr
      .rename_i ys e1;split at hr
       .rename_i rH;cases hfs:fs δ S1 with
        | no=>unfold ft at hr;rw [hfs] at hr;exact absurd hr.symm rV
        | ex c' S'=>unfold ft at hr;rw [hfs] at hr;exact absurd hr.symm rV
        | ok vs S2=>
          unfold ft at hr;rw[hfs] at hr;exact⟨kk,ys,S1,vs,S2,rfl,e1,rH,hfs,hr⟩
       .exact absurd hr.symm rV
      .exact absurd hr.symm rV
     .exact absurd hr.symm rV
  rcases z with⟨v,S',hf,q⟩ | ⟨c',S',hf,q⟩
  .obtain⟨kk,ys,S1,vs,S2,a1,a2,a3,a4,a5⟩:=go hf (fun h=>by cases h)
   exact⟨kk,ys,S1,vs,S2,a1,a2,a3,a4, .inl ⟨v,S',a5,q⟩⟩
  .obtain⟨kk,ys,S1,vs,S2,a1,a2,a3,a4,a5⟩:=go hf (fun h=>by cases h)
   exact⟨kk,ys,S1,vs,S2,a1,a2,a3,a4, .inr ⟨c',S',a5,q⟩⟩
 obtain⟨kk,ys,S1,vs,S2,h1,e1,rH,h3,z⟩:=key;refine⟨ρ,S,δ, .loc kk,S1,En,h1,fun u bJ H1 p1 w1 r1=>?_⟩
 have yH:=r1;unfold aV at r1;obtain⟨a,a1,rfl⟩:=r1;obtain⟨dx,zs,ey,ek,rs⟩:=w1.ob kk a _ a1 (mm e1);refine⟨a,dx,zs,rfl,ey,xX ek rH,bJ,S1,δ,vs,S2,En.to p1 w1,h3,fun us pU H2 p2 w2 r2=>?_⟩
 show yq X.K cl (n+1) g (V.ref a ::(us++[])) H2 Q E;rw[List.append_nil];refine⟨by rw[List.length_cons,<-r2.length,hn δ S1 vs S2 h3],pU,S2, .loc kk ::vs,w2,az.cons (yH.pre p2) r2,?_⟩
 rcases z with⟨v,S',h4,q⟩ | ⟨c',S',h4,q⟩
 .exact .inl ⟨v,S',h4,fun z CG H3 p3 w3 r3=>q z CG H3 (p1.trans (p2.trans p3)) w3 r3⟩
 .exact .inr ⟨c',S',h4,q.pre (p1.trans p2)⟩
theorem WB{g:List V3->aM->R3 V3}{vs:List V3}{S:aM}{QV:V3->aM->Prop}(hS:Oa S)(h:W3 (g vs S) fun v S1=>m5 S.length v=true/\(∃T,S1=S++T)/\∃d,res S1 v=some d/\QV (.d d) S):W3 (Gq g vs S) QV:=by
 obtain⟨v,S1,e,hg,⟨T,rfl⟩,d,hd,q⟩:=h;unfold Gq;rw[e];simp only[hd];rw[List.take_append_of_le_length (Nat.le_refl _),List.take_length];exact W3.wh (by rw[List.all_eq_true.mpr hS,hg];rfl) (W3.ok q)
theorem Ws{g:List V3->aM->R3 V3}{vs:List V3}{S T:aM}{c:Nat}(hS:Oa S)(h:g vs S= .ex c (S++T)):Gq g vs S= .ex c S:=by
 unfold Gq;rw[h];simp only;rw[List.take_append_of_le_length (Nat.le_refl _),List.take_length];unfold R3.aU;rw[List.all_eq_true.mpr hS];rfl
def WE{α:Type}(r:R3 α)(Q:α->aM->Prop)(Y:Nat->aM->Prop):Prop:=(∃a S,r= .ok a S/\Q a S)\/∃c S,r= .ex c S/\Y c S
section
variable {α β:Type} {S:aM} {δ:DE} {Y:Nat->aM->Prop}
theorem WE.bind{r:R3 α}{f:α->aM->R3 β}{Q:β->aM->Prop}(h:WE r (fun a S1=>WE (f a S1) Q Y) Y):WE (r.bind f) Q Y:=by
 rcases h with⟨a,S1,rfl,q⟩ | ⟨c,S1,rfl,q⟩
 .exact q
 .exact .inr ⟨c,S1,rfl,q⟩
theorem WE.mono{r:R3 α}{Q Q':α->aM->Prop}{Y':Nat->aM->Prop}(h:WE r Q Y)(m:∀a S,Q a S->Q' a S)(n:∀c S,Y c S->Y' c S):WE r Q' Y':=by
 rcases h with⟨a,S1,e,q⟩ | ⟨c,S1,e,q⟩
 .exact .inl ⟨a,S1,e,m _ _ q⟩
 .exact .inr ⟨c,S1,e,n _ _ q⟩
theorem WE.ok{a:α}{Q:α->aM->Prop}(h:Q a S):WE (.ok a S) Q Y:= .inl ⟨a,S,rfl,h⟩
theorem ji{F G:FZ}{Q:Ou->aM->Prop}(h:WE (F δ S) (fun o S1=>∃δ1,o= .nx δ1/\WE (G δ1 S1) Q Y) Y):WE (cB F G δ S) Q Y:=WE.bind (h.mono (fun o S1 ⟨δ1,e,q⟩=>by subst e;exact q) fun _ _ q=>q)
theorem xG{F:FZ}{Q:Ou->aM->Prop}(h:W3 (F δ S) Q):WE (CQ F δ S) Q Y:= .inl (Oj h)
theorem qp{fc:FB}{F G:FZ}{Q:Ou->aM->Prop}(h:W3 (fc δ S) fun b S1=>if b then WE (F δ S1) Q Y else WE (G δ S1) Q Y):WE (ug (xZ fc) F G δ S) Q Y:=WE.bind (.inl (Oi (h.mono fun b S1 q=>by
 show WE (if b=true then F δ S1 else G δ S1) Q Y
 cases b with
 | true=>rw [if_pos rfl] at q ⊢;exact q
 | false=>rw [if_neg (by decide)] at q ⊢;exact q)))
theorem t6{f:FX}{Q:Ou->aM->Prop}(h:WE (f δ S) (fun v S1=>Q (.nx δ) S1) Y):WE (tP f δ S) Q Y:=WE.bind (h.mono (fun v S1 q=>WE.ok q) fun _ _ q=>q)
theorem ED{f:FX}{Q:V3->aM->Prop}(h:W3 (f δ S) Q):WE (uG f δ S) Q Y:= .inl (Fb h)
theorem Ep{g:List V3->aM->R3 V3}{fs:FA}{Q:V3->aM->Prop}(h:W3 (fs δ S) fun vs S1=>WE (g vs S1) Q Y):WE (rF g (ft fs) δ S) Q Y:=WE.bind (.inl (wF h))
theorem sW{c k:Nat}{g:List V3->aM->R3 V3}{fo:FX}{fs:FA}{Q:V3->aM->Prop}(h:W3 (fo δ S) fun v S1=>∃ys,v= .loc k/\S1[k]? =some (.ins c ys)/\ys.lookup m=none/\W3 (fs δ S1) fun vs S2=>WE (g (.loc k ::vs) S2) Q Y):WE (qj c m g (uG fo) (ft fs) δ S) Q Y:=
 WE.bind (.inl (Fb (h.mono fun v S1 ⟨ys,e1,rH,e3,q⟩=>by
  subst e1;have e4:lX S1 c k=some ys:=by unfold lX;simp only[rH,if_true]
  simp only[e4,e3];exact WE.bind (.inl (wF q)))))
theorem rW{c:Nat}{fs:FA}{Q:Ou->aM->Prop}(h:W3 (fs δ S) fun vs S1=>vs.length<=sizeLine/\Y c S1):WE (fJ c (ft fs) δ S) Q Y:=WE.bind (.inl (wF (h.mono fun vs S1 ⟨h1,h2⟩=>by
 unfold R3.aU;rw[decide_eq_true h1];exact .inr ⟨c,S1,rfl,h2⟩)))
theorem nL{Q:Ou->aM->Prop}(h:Q (.nx δ) S):WE (mi δ S) Q Y:=WE.ok h
theorem ME{N:List Str}{F:FZ}{vs:List V3}{Q:V3->aM->Prop}(e:dt N vs=δ)(h:WE (F δ S) (fun o S1=>match o with | .rt v=>Q v S1 | .nx _=>Q (.d .cD) S1) Y):WE (uh N F vs S) Q Y:=by
 unfold uh;rw[e];refine WE.bind (h.mono (fun o S1 q=>?_) fun _ _ q=>q)
 cases o with
 | nx δ1=>exact WE.ok q
 | rt v=>exact WE.ok q
theorem VO{g:List V3->aM->R3 V3}{vs:List V3}{QV:V3->aM->Prop}(hS:Oa S)(h:WE (g vs S) (fun v S1=>m5 S.length v=true/\(∃T,S1=S++T)/\∃d,res S1 v=some d/\QV (.d d) S) (fun c S1=>(∃T,S1=S++T)/\Y c S)):WE (Gq g vs S) QV Y:=by
 rcases h with h | ⟨c,S1,e,⟨T,rfl⟩,q⟩
 .exact .inl (WB hS h)
 .exact .inr ⟨c,S,Ws hS e,q⟩
theorem Mc{t:FG}{F:FZ}(I:Nat->DE->aM->Prop){vs:List V3}(h0:I 0 δ S)(step:∀i v δ1 S1,vs[i]? =some v->I i δ1 S1->∃h_,t v δ1=some h_/\WE (F h_ S1) (fun o S2=>∃R4,o= .nx R4/\I (i+1) R4 S2) Y) :
 WE (ia t F vs δ S) (fun o S1=>∃δ1,o= .nx δ1/\I vs.length δ1 S1) Y:=by
 induction vs generalizing I δ S with
 | nil=>exact .inl ⟨_,_,rfl,δ,rfl,h0⟩
 | cons v vs ih=>
   obtain⟨h_,e,h⟩:=step 0 v δ S rfl h0;unfold ia;rw[e];refine WE.bind (h.mono (fun o S2 ⟨R4,e3,q⟩=>?_) fun _ _ q=>q)
   subst e3;exact ih (fun i=>I (i+1)) q fun i w δ1 S1 hw hi=>step (i+1) w δ1 S1 hw hi
theorem IX{it:FA}{Q:Ou->aM->Prop}(h:W3 (it δ S) fun vs S1=>WE (ia t F vs δ S1) Q Y):WE (zy (Pa it) t F δ S) Q Y:=WE.bind (.inl (Cz h))
theorem Nv{F G:FZ}{ok:Nat->Bool}{i:Nat}{Q:Ou->aM->Prop}(h:WE (F δ S) Q fun c S1=>ok c=true/\W3 (G ((List.replicate δ.length none).set i (some (.loc S1.length))) (S1++[.exc c])) fun o S2=>∃δ1,o= .nx δ1/\Q (.nx (δ1.set i none)) S2):W3 (uF F ok i G δ S) Q:=by
 rcases h with h | ⟨c,S1,e,h1,h2⟩
 .exact LH h
 .exact Lv e h1 h2
end
end
end L3
end
section
namespace L2
open PySem PySem.Spec PyProof.Rows
def gK(ks:List (Str × Int)):List (Key × V):=ks.map fun p=>(Sum.inr p.1,V.int p.2)
def n5(P:Program)(w:World)(K:W.Frag)(mg:Y_)(x:Str)(ks:List (Str × Int)):Prop:=∃a,mg x=some (.ref a)/\∀(H:Hp) (h:Heap),K.In h->dP P w H h a (.dK (gK ks))
theorem wD(x:Str):∀ks:List (Str × Int),jy (gK ks) (Sum.inr x)=(ks.lookup x).map V.int
 | []=>rfl
 | (y,i) ::ks=>by
   have ih:=wD x ks;unfold jy gK at ih ⊢;rw[List.map_cons,List.find?_cons,List.lookup_cons];by_cases h:x=y
   .subst h;simp
   .have h1:decide ((Sum.inr y:Key)=Sum.inr x)=false:=decide_eq_false fun q=>h (Sum.inr.inj q).symm
    have h2:(x==y)=false:=beq_eq_false_iff_ne.mpr h;simp only[h1,h2];exact ih
def NN(w:World)(es:List (Str × Tok × Int × Tok)):List DictEntry:=es.map fun e=>⟨hashStr w e.1, .str e.1 e.2.1, .int e.2.2.1 e.2.2.2⟩
theorem yk{P:Program}{w:World}{K:W.Frag}{h:Heap}{mg:Y_}(X:K.In h)(G:h.Ns mainGlobals mg){x:Str}{a:Addr}{es:Array DictEntry}{n:Nat}(ts:List (Str × Tok × Int × Tok)){ks:List (Str × Int)}
 (e:PySem.W.nsIn K mainGlobals x=some (some (.ref a))) (l:K.lookup a=some {cls:= .type "dict",data:= .dict es n}) (hs:es.toList=NN w ts) (hk:ks=ts.map fun e=>(e.1,e.2.2.1)) (hd:(ks.map (·.1)).Nodup) (hm:(a==sysModules)=false) (hz:ks.length<=1000):n5 P w K mg x ks:=by
 subst hk;refine⟨a,PySem.W.mg_of X G e,fun H h2 X2=>⟨?_,hm,ts.map fun e=>(Sum.inr e.1, .int e.2.2.1 e.2.2.2),?_,_,es,n,X2 a _ l,⟨rfl,rfl,?_⟩,rfl,fun q hq=>?_,?_,?_⟩⟩
 .unfold gK;rw [List.length_map,sizeLine_eq];omega
 .unfold gK;rw[List.map_map]
  clear hs hd hz
  induction ts with
  | nil=>exact .nil
  | cons t ts ih=>exact .cons ⟨rfl,⟨_,rfl⟩⟩ ih
 .rfl
 .have:q∈NN w ts:=by rw[<-hs];exact Array.mem_toList_iff.mpr hq
  obtain⟨t,_,rfl⟩:=List.mem_map.mp this;exact⟨Sum.inr t.1,ny P w _ _,rfl⟩
 .rw [hs]
  clear hs hd hz
  induction ts with
  | nil=>exact .nil
  | cons t ts ih=>exact .cons (ny P w _ _) rfl ih
 .rw [List.map_map] at hd ⊢;have:(ts.map ((fun x:Key × Value=>x.1) ∘ fun e:Str × Tok × Int × Tok=>(Sum.inr e.1, .int e.2.2.1 e.2.2.2)))=(ts.map ((fun x:Str × Int=>x.1) ∘ fun e:Str × Tok × Int × Tok=>(e.1,e.2.2.1))).map Sum.inr:=by
   rw[List.map_map];rfl
  rw[this];exact hd.map _ fun _ _ z q=>z (Sum.inr.inj q)
section
variable {X:Cx}
theorem vE{ks:List (Str × Int)}{p:Pos}(g:n5 X.prog X.w X.K X.mg x ks)(hg:Gl X x)(kL:(x==("__debug__":Str))=false:=by decide):∃a,PE X (.Name x p) (tC (.ref a))/\∀(H:Hp) (h:Heap),X.K.In h->dP X.prog X.w H h a (.dK (gK ks)):=by
 obtain⟨a,hm,ok⟩:=g;exact⟨a,dn (v:= .ref a) hg hm rfl kL,ok⟩
def Mv(ks:List (Str × Int))(d:D):R Bool:=match d with | .str x=> .ok (ks.lookup x).isSome | _=> .no
def KZ(ks:List (Str × Int))(f:FD):FD:=fun δ=>(f δ).bind fun d=>(Mv ks d).bind fun b=> .ok (.bl b)
def Vi(ks:List (Str × Int))(f:FD):FD:=fun δ=>(f δ).bind fun d=>(Mv ks d).bind fun b=> .ok (.bl (!b))
def Wi(ks:List (Str × Int))(f:FD):ao->R Bool:=fun δ=>(f δ).bind fun d=>Mv ks d
def Lh(ks:List (Str × Int))(f:FD):ao->R Bool:=fun δ=>(f δ).bind fun d=>(Mv ks d).bind fun b=> .ok (!b)
def yo(ks:List (Str × Int))(f:FD):FD:=fun δ=>(f δ).bind fun d=>match d with | .str x=>(match ks.lookup x with | some i=> .ok (.int i) | none=> .no) | _=> .no
def Ov(ks:List (Str × Int))(neg:Bool)(t:TE):TE:=fun σ H Q=>t σ H fun y H1=>∃x,y= .str x/\Q (.bl (neg !=(ks.lookup x).isSome)) H1
theorem LY{ks:List (Str × Int)}{p:Pos}{t:TE}(hu:X.A.units+1 < cLine)(hi:PE X i t)(g:n5 X.prog X.w X.K X.mg x ks)(hg:Gl X x)(kL:(x==("__debug__":Str))=false:=by decide):PC X .In i (.Name x p) (Ov ks false t):=by
 obtain⟨a,ho,ok⟩:=vE (p:=p) g hg kL;intro pins s σ H Q I h;refine cJ (hi pins s σ H _ I h) fun iv s1 ⟨y,H1,I1,ry,z,ey,q1⟩=>cJ (ho pins s1 σ H1 (fun u H2=>u= .ref a/\H2=H1) I1 ⟨rfl,rfl⟩) fun u s2 ⟨uv,H2,I2,rx,e1,e2⟩=>?_
 subst ey e1 e2;obtain rfl:u=Value.ref a:=rx;obtain⟨hz,hd,vs,rel,dd⟩:=ok H2 s2.heap I2.vq;refine wpAny_in_of (oY (k:=Sum.inr z) ry) hd dd.mapOf ?_;rw[<-(rel.val (Sum.inr z)).ij,wD,Option.isSome_map];refine⟨.bl _,H2,I2.tok _,rfl,?_⟩;simpa using q1
theorem JQ{ks:List (Str × Int)}{p:Pos}{t:TE}(hu:X.A.units+1 < cLine)(hi:PE X i t)(g:n5 X.prog X.w X.K X.mg x ks)(hg:Gl X x)(kL:(x==("__debug__":Str))=false:=by decide):PC X .NotIn i (.Name x p) (Ov ks true t):=by
 obtain⟨a,ho,ok⟩:=vE (p:=p) g hg kL;intro pins s σ H Q I h;refine cJ (hi pins s σ H _ I h) fun iv s1 ⟨y,H1,I1,ry,z,ey,q1⟩=>cJ (ho pins s1 σ H1 (fun u H2=>u= .ref a/\H2=H1) I1 ⟨rfl,rfl⟩) fun u s2 ⟨uv,H2,I2,rx,e1,e2⟩=>?_
 subst ey e1 e2;obtain rfl:u=Value.ref a:=rx;obtain⟨hz,hd,vs,rel,dd⟩:=ok H2 s2.heap I2.vq;refine wpAny_notIn_of (oY (k:=Sum.inr z) ry) hd dd.mapOf ?_;rw[<-(rel.val (Sum.inr z)).ij,wD,Option.isSome_map];refine⟨.bl _,H2,I2.tok _,rfl,?_⟩;simpa using q1
theorem Ei{ks:List (Str × Int)}{d:D}{b:Bool}(h:Mv ks d= .ok b):∃x,d= .str x/\b=(ks.lookup x).isSome:=by
 unfold Mv at h;split at h
 .cases h;exact⟨_,rfl,rfl⟩
 .cases h
theorem Hq{ks:List (Str × Int)}{p pos:Pos}(hu:X.A.units+1 < cLine)(hi:QD X i f)(g:n5 X.prog X.w X.K X.mg x ks)(hg:Gl X x)(kL:(x==("__debug__":Str))=false:=by decide)(hm:behindInMarks .In (.Name x p)=false:=by with_unfolding_all rfl):QD X (.Compare i [.In] [.Name x p] pos) (KZ ks f):=
 ⟨(Lm (LY hu hi.1 g hg kL) hm).imp fun σ H Q ⟨Z,B,δ,d,E,hf,q⟩=>by
   obtain⟨d1,h1,h2⟩:=R.af hf;obtain⟨b,h3,h4⟩:=R.af h2;cases h4;obtain⟨z,rfl,rfl⟩:=Ei h3;exact⟨Z,B,δ,_,E,h1,fun v H1 s1 r1=>⟨z,Rep.str.mp r1,q _ H1 s1 (by rw[Bool.false_bne];exact Rep.bl.mpr rfl)⟩⟩⟩
theorem GK{ks:List (Str × Int)}{p pos:Pos}(hu:X.A.units+1 < cLine)(hi:QD X i f)(g:n5 X.prog X.w X.K X.mg x ks)(hg:Gl X x)(kL:(x==("__debug__":Str))=false:=by decide)(hm:behindInMarks .NotIn (.Name x p)=false:=by with_unfolding_all rfl):QB X (.Compare i [.NotIn] [.Name x p] pos) (Lh ks f):=
 ⟨(zI (JQ hu hi.1 g hg kL) hm).imp fun σ H Q ⟨Z,B,δ,b,E,hf,q⟩=>by
   obtain⟨d1,h1,h2⟩:=R.af hf;obtain⟨b,h3,h4⟩:=R.af h2;cases h4;obtain⟨z,rfl,rfl⟩:=Ei h3;exact⟨Z,B,δ,_,E,h1,fun v H1 s1 r1=>⟨z,Rep.str.mp r1,_,rfl,by rw[Bool.true_bne];exact q H1 s1⟩⟩⟩
theorem xl{ks:List (Str × Int)}{p pos:Pos}(hi:QD X i f)(g:n5 X.prog X.w X.K X.mg x ks)(hg:Gl X x)(hs:FQ i)(kL:(x==("__debug__":Str))=false:=by decide):QD X (.Subscript (.Name x p) i pos) (yo ks f):=⟨by
 obtain⟨a,ho,ok⟩:=vE (p:=p) g hg kL;intro pins s σ H Q I ⟨Z,B,δ,d,E,hf,q⟩;obtain⟨d1,h1,h2⟩:=R.af hf;have key:∃z n,d1= .str z/\ks.lookup z=some n/\d= .int n:=by
  split at h2
  .split at h2
   .rename_i e;cases h2;exact⟨_,_,rfl,e,rfl⟩
   .cases h2
  .cases h2
 obtain⟨z,n,rfl,hl,rfl⟩:=key;refine AY PySem.F.slot_dict_getitem.lookup hs (cJ (ho pins s σ H (fun u H2=>u= .ref a/\H2=H) I ⟨rfl,rfl⟩) fun u s1 ⟨uv,H1,I1,rx,e1,e2⟩=>?_)
 subst e1 e2;obtain rfl:u=Value.ref a:=rx;refine cJ (hi.1 pins s1 σ H1 (fun v H'=>aO H1 H'/\Rep X.K B H' (.str z) v) I1 ⟨Z,B,δ,_,E,h1,fun v H' s1 r1=>⟨s1,r1⟩⟩) fun iv s2 ⟨y,H2,I2,ry,ss,r2⟩=>?_
 cases Rep.str.mp r2;obtain⟨hz,hd,vs,rel,dd⟩:=ok H2 s2.heap I2.vq;obtain⟨w',hw,yE⟩:=mw.some_of (v:= .int n) (o:=valueAt vs (Sum.inr z)) (by rw[show some (V.int n)=jy (gK ks) (Sum.inr z) by rw[wD,hl];rfl];exact rel.val (Sum.inr z))
 refine⟨dd.typeIs,wpAny_getItem_of (oY (k:=Sum.inr z) ry) dd.mapOf hw ?_⟩;exact⟨.int n,H2,I2.tok _,yE,q _ H2 ss (Rep.int.mpr rfl)⟩⟩
end
end L2
namespace L3
open PySem PySem.Spec PyProof.Rows L2
section
variable {X:Cx} {cl:Za} {E:XK}
def kQ(S:aM)(k:Nat):Option Nat:=match S[k]? with | some (.lst ds)=>some ds.length | some (.dct aw)=>some aw.length | _=>none
def yO(f:FX):FX:=fun δ S=>(f δ S).bind fun v S1=>match v with | .loc k=>(match kQ S1 k with | some n=> .ok (.d (.int n)) S1 | none=> .no) | _=> .no
theorem Fq{K:W.Frag}{ρ:P3}{H:Hp}{S:aM}(w:SW K cl ρ H S){k n:Nat}{a:Addr}(ha:ρ.r[k]? =some a)(h:kQ S k=some n):(∃xs,H a=some (.lst xs)/\xs.length=n)\/∃ys,H a=some (.dK ys)/\ys.length=n:=by
 unfold kQ at h;split at h
 .rename_i ds e;cases h;obtain⟨xs,e1,r⟩:=w.ob k a _ ha e;exact .inl ⟨xs,e1,r.length.symm⟩
 .rename_i aw e;cases h;obtain⟨ys,e1,e2,r⟩:=w.ob k a _ ha e;refine .inr ⟨ys,e1,?_⟩;have:=congrArg List.length e2
  rwa [List.length_map,List.length_map] at this
 .cases h
theorem qg{p pos:Pos}(he:PX X cl e f)(hg:Gl X "len")(hm:X.mg "len"=none)(hs:starEach [e] X.env=(false,eval e X.env) ::starEach [] X.env:=by rfl)(mT:(backTo pos (starEach [] X.env)).any (·.1)=false:=by rfl):PX X cl (.Call (.Name "len" p) [e] [] pos) (yO f):=⟨by
 have both:kf X (.builtin "len") (fun xs H Q=>(∃p ys,xs=[.ref p]/\(oz X.K H p ys\/q9 X.K H p ys)/\Q (.int ys.length) H)\/(∃a aw,xs=[V.ref a]/\H a=some (.dK aw)/\Q (.int aw.length) H)):=fun pins s σ H xs us Q I r h=>h.elim (wb pins s σ H xs us Q I r) (B_ pins s σ H xs us Q I r)
 refine(sS both hg hm boot_len (jc he.1 mq hs) (by decide) (by decide) hs mT).imp fun σ H Q ⟨ρ,S,δ,v,S',En,hf,q⟩=>?_
 obtain⟨v1,S1,h1,h2⟩:=R3.af hf;refine⟨ρ,S,δ,v1,S1,En,h1,fun u bJ H1 p1 w1 r1=>?_⟩
 split at h2
 .rename_i k;split at h2
  .rename_i n hn;cases h2;unfold aV at r1;obtain⟨a,ha,rfl⟩:=r1;rcases Fq w1 ha hn with⟨xs,e1,rfl⟩ | ⟨ys,e1,rfl⟩
   .exact .inl ⟨a,xs,rfl, .inl (oz.of e1),q _ bJ H1 p1 w1 (by unfold aV;exact Rep.int.mpr rfl)⟩
   .exact .inr ⟨a,ys,rfl,e1,q _ bJ H1 p1 w1 (by unfold aV;exact Rep.int.mpr rfl)⟩
  .cases h2
 .cases h2⟩
theorem ye{f:FX}{δ:DE}{S:aM}{Q:V3->aM->Prop}(h:W3 (f δ S) fun v S1=>∃k n,v= .loc k/\kQ S1 k=some n/\Q (.d (.int n)) S1):W3 (yO f δ S) Q:=W3.bind (h.mono fun v S1 ⟨k,n,e,e1,q⟩=>by subst e;simp only[e1];exact W3.ok q)
def nP(f:FX):FB:=fun δ S=>(f δ S).bind fun v S1=>match v with | .loc k=>(match kQ S1 k with | some n=> .ok (decide (n≠0)) S1 | none=> .no) | _=> .no
theorem nY{a:Expr}(ha:PX X cl a f)(he:∀whole,isTrue a X.env whole=(do let v <-whole;standAt a.pos;holding [v] (truthy v)):=by intro _;rfl):CP X cl a (nP f):=⟨(x5 ha.1 he).imp fun σ H Q ⟨ρ,S,δ,b,S',En,hf,q⟩=>by
 obtain⟨v1,S1,h1,h2⟩:=R3.af hf;refine⟨ρ,S,δ,v1,S1,En,h1,fun u bJ H1 p1 w1 r1=>?_⟩
 split at h2
 .rename_i k;split at h2
  .rename_i n hn;cases h2;unfold aV at r1;obtain⟨a,ha,rfl⟩:=r1;refine⟨_,?_,q bJ H1 p1 w1⟩;rcases Fq w1 ha hn with⟨xs,e1,rfl⟩ | ⟨ys,e1,rfl⟩
   .exact .inl ⟨xs,oz.of e1,by cases xs <;> simp⟩
   .exact .inr (.inr ⟨ys,e1,by cases ys <;> simp⟩)
  .cases h2
 .cases h2⟩
theorem tT{f:FX}{δ:DE}{S:aM}{Q:Bool->aM->Prop}(h:W3 (f δ S) fun v S1=>∃k n,v= .loc k/\kQ S1 k=some n/\Q (decide (n≠0)) S1):W3 (nP f δ S) Q:=W3.bind (h.mono fun v S1 ⟨k,n,e,e1,q⟩=>by subst e;simp only[e1];exact W3.ok q)
def q8(v o:V3)(S:aM):Option (Option D):=match v,o with
 | .d x, .loc k=>(match sj x,S[k]? with | some key,some (.dct aw)=>some ((aw.find? fun kv=>decide (kv.1=key)).map (·.2)) | _,_=>none)
 | _,_=>none
def Vc(neg:Bool)(fa fb:FX):FX:=fun δ S=>(fa δ S).bind fun v S1=>(fb δ S1).bind fun o S2=>match q8 v o S2 with | some r=> .ok (.d (.bl (neg !=r.isSome))) S2 | none=> .no
def zh(neg:Bool)(fa fb:FX):FB:=fun δ S=>(fa δ S).bind fun v S1=>(fb δ S1).bind fun o S2=>match q8 v o S2 with | some r=> .ok (neg !=r.isSome) S2 | none=> .no
def D_(fo fi:FX):FX:=fun δ S=>(fo δ S).bind fun o S1=>(fi δ S1).bind fun v S2=>match q8 v o S2 with | some (some d)=> .ok (.d d) S2 | _=> .no
theorem A5{K:W.Frag}{B:List Addr}(key:Key):∀{aw:List (Key × D)} {ys:List (Key × V)},ys.map (·.1)=aw.map (·.1)->ay K B H (aw.map (·.2)) (ys.map (·.2))->
 (jy ys key=none/\aw.find? (fun kv=>decide (kv.1=key))=none)\/∃v kv,jy ys key=some v/\aw.find? (fun kv=>decide (kv.1=key))=some kv/\Rep K B H kv.2 v
 | [],[],_,_=> .inl ⟨rfl,rfl⟩
 | [],_ ::_,e,_=>by simp at e
 | _ ::_,[],e,_=>by simp at e
 | (k1,d) ::aw,(k2,y) ::ys,e,r=>by
   obtain⟨e1,e2⟩:=List.cons.inj e;have e1:k2=k1:=e1;subst e1;obtain⟨z,zs,ez,r1,r2⟩:=r.b_;obtain⟨X1,Xw⟩:=List.cons.inj ez;subst X1 Xw;unfold jy;by_cases h:k2=key
   .refine .inr ⟨_,(k2,d),?_,?_,r1⟩
    .rw [List.find?_cons_of_pos (by simpa using h)];rfl
    .rw [List.find?_cons_of_pos (by simpa using h)]
   .rw [List.find?_cons_of_neg (by simpa using h),List.find?_cons_of_neg (by simpa using h)]
    exact A5 key e2 r2
theorem yW{K:W.Frag}{ρ:P3}{S:aM}(w:SW K cl ρ H S){v o:V3}{r:Option D}{u y:V}(h:q8 v o S=some r)(rv:aV K ρ H v y)(ro:aV K ρ H o u):∃a z,u= .ref a/\nH H a y z/\((z=none/\r=none)\/∃v d,z=some v/\r=some d/\Rep K ρ.b H d v):=by
 unfold q8 at h;split at h
 .rename_i x k;split at h
  .rename_i key aw hk hS;cases h;unfold aV at ro rv;obtain⟨a,ha,rfl⟩:=ro;obtain⟨ys,e1,e2,q⟩:=w.ob k a _ ha hS;have:=yu hk rv;subst this;refine⟨a,_,rfl,nH.k (k:=key) e1,?_⟩;rcases A5 key e2 q with⟨z1,z2⟩ | ⟨v,kv,z1,z2,z3⟩
   .rw [z1,z2];exact .inl ⟨rfl,rfl⟩
   .rw [z1,z2];exact .inr ⟨v,kv.2,rfl,rfl,z3⟩
  .cases h
 .cases h
theorem vM{pos:Pos}(hu:X.A.units+1 < cLine)(ha:PX X cl a fa)(hb:PX X cl b fb)(hm:behindInMarks .In b=false:=by with_unfolding_all rfl):CP X cl (.Compare a [.In] [b] pos) (zh false fa fb):=⟨(zI (Le hu ha.1 hb.1) hm).imp fun σ H Q ⟨ρ,S,δ,v,S',En,hf,q⟩=>by
 obtain⟨j,S1,h1,h2⟩:=R3.af hf;obtain⟨o,S2,h3,h4⟩:=R3.af h2;refine⟨ρ,S,δ,j,S1,En,h1,fun u1 bJ H1 p1 w1 r1=>⟨bJ,S1,δ,o,S2,En.to p1 w1,h3,fun u2 pU H2 p2 w2 r2=>?_⟩⟩
 split at h4
 .rename_i r hd;cases h4;obtain⟨ad,z,rfl,g,c⟩:=yW w2 hd (r1.pre p2) r2;refine⟨ad,z,rfl,g,_,rfl,?_⟩;have:=q pU H2 (p1.trans p2) w2;rcases c with⟨rfl,rfl⟩ | ⟨v,d,rfl,rfl,_⟩ <;> exact this
 .cases h4⟩
theorem Hf{pos:Pos}(hu:X.A.units+1 < cLine)(ha:PX X cl a fa)(hb:PX X cl b fb)(hm:behindInMarks .NotIn b=false:=by with_unfolding_all rfl):CP X cl (.Compare a [.NotIn] [b] pos) (zh true fa fb):=⟨(zI (Cu hu ha.1 hb.1) hm).imp fun σ H Q ⟨ρ,S,δ,v,S',En,hf,q⟩=>by
 obtain⟨j,S1,h1,h2⟩:=R3.af hf;obtain⟨o,S2,h3,h4⟩:=R3.af h2;refine⟨ρ,S,δ,j,S1,En,h1,fun u1 bJ H1 p1 w1 r1=>⟨bJ,S1,δ,o,S2,En.to p1 w1,h3,fun u2 pU H2 p2 w2 r2=>?_⟩⟩
 split at h4
 .rename_i r hd;cases h4;obtain⟨ad,z,rfl,g,c⟩:=yW w2 hd (r1.pre p2) r2;refine⟨ad,z,rfl,g,_,rfl,?_⟩;have:=q pU H2 (p1.trans p2) w2;rcases c with⟨rfl,rfl⟩ | ⟨v,d,rfl,rfl,_⟩ <;> exact this
 .cases h4⟩
theorem HQ(hu:X.A.units+1 < cLine)(ho:PX X cl o fo)(hi:PX X cl i fi)(hs:FQ i):PX X cl (.Subscript o i pos) (D_ fo fi):=⟨(Bh hu ho.1 hi.1 hs).imp fun σ H Q ⟨ρ,S,δ,v,S',En,hf,q⟩=>by
 obtain⟨o,S1,h1,h2⟩:=R3.af hf;obtain⟨j,S2,h3,h4⟩:=R3.af h2;refine⟨ρ,S,δ,o,S1,En,h1,fun u1 bJ H1 p1 w1 r1=>⟨bJ,S1,δ,j,S2,En.to p1 w1,h3,fun u2 pU H2 p2 w2 r2=>?_⟩⟩
 split at h4
 .rename_i d hd;cases h4;obtain⟨ad,z,rfl,g,c⟩:=yW w2 hd r2 (r1.pre p2);rcases c with⟨_,e⟩ | ⟨v,d',rfl,e,r⟩
  .cases e
  .cases e;exact⟨ad,v,rfl,g,q _ pU H2 (p1.trans p2) w2 (by unfold aV;exact r)⟩
 .cases h4⟩
theorem wV{neg:Bool}{fa fb:FX}{δ:DE}{S:aM}{Q:Bool->aM->Prop}(h:W3 (fa δ S) fun v S1=>W3 (fb δ S1) fun o S2=>∃r,q8 v o S2=some r/\Q (neg !=r.isSome) S2):W3 (zh neg fa fb δ S) Q:=W3.bind (h.mono fun v S1 h2=>W3.bind (h2.mono fun o S2 ⟨r,e,q⟩=>by simp only[e];exact W3.ok q))
theorem Mb{fo fi:FX}{δ:DE}{S:aM}{Q:V3->aM->Prop}(h:W3 (fo δ S) fun o S1=>W3 (fi δ S1) fun v S2=>∃d,q8 v o S2=some (some d)/\Q (.d d) S2):W3 (D_ fo fi δ S) Q:=W3.bind (h.mono fun v S1 h2=>W3.bind (h2.mono fun o S2 ⟨r,e,q⟩=>by simp only[e];exact W3.ok q))
theorem Di{g:List V3->aM->R3 V3}{k j c:Nat}{p pos:Pos}(M:C_ X.prog X.w X.K X.mg X.base cl k c x 0 g)(hr:dH j X.A)(F4:k+1<=j)(hg:Gl X x)(kL:(x==("__debug__":Str))=false:=by decide):PX X cl (.Call (.Name x p) [] [] pos) (DH c g dj):=by
 obtain⟨f,fd,ps,M,F,hm,hb⟩:=M;refine⟨(FL M F (hr.mono F4) hg hm hb .nil DM kL).imp fun σ H Q ⟨ρ,S,δ,v,S',En,hf,q⟩=>?_⟩
 obtain⟨vs,S1,h1,h2⟩:=R3.af hf;cases h1;obtain⟨v0,S2,h3,h4⟩:=R3.af h2;split at h4
 .cases h4;intro xa dx hx hdx rV;have hx1:upd H dx (.own xa) xa=none:=by rw[a_ (fun z=>rV z.symm)];exact hx
  have sm:aO H (upd (upd H dx (.own xa)) xa (.ins (cl c) dx [])):=(bB hdx).trans (bB hx1);obtain⟨w2,p2⟩:=En.sw.new (a:=xa) (o:= .ins c []) sm hx ⟨dx,[],aY,rfl,az.nil⟩;have rl:aV X.K (ρ.push xa) (upd (upd H dx (.own xa)) xa (.ins (cl c) dx [])) (.loc S.length) (.ref xa):=by
   unfold aV;exact⟨xa,by show(ρ.r++[xa])[_]? =_;rw [<-En.sw.len,List.getElem?_append_right (Nat.le_refl _),Nat.sub_self];rfl,rfl⟩
  exact⟨rfl,_,_,[.loc S.length], .d .cD,_,w2,az.cons rl az.nil,h3,fun z CG H3 p3 w3 r3=>⟨by unfold aV Rep at r3;exact r3,q _ CG H3 (p2.trans p3) w3 (rl.pre p3)⟩⟩
 .cases h4
end
end L3
end
section
namespace L2
open PySem PySem.Spec PyProof.Rows
section
variable {X:Cx}
def JB(f:FD):FD:=fun δ=>(f δ).bind fun d=>match d with | .str x=>R.aU (decide ((reprText x).length<=sizeLine)) (.ok (.str (reprText x))) | _=> .no
theorem D1(h:QD X e f):QD X (.FormattedValue e 114 none pos) (JB f):=⟨by
 intro pins s σ H Q I ⟨Z,B,δ,d,E,hf,q⟩;obtain⟨d1,h1,h2⟩:=R.af hf;refine wpAny_FormattedValue_repr (cJ (h.1 pins s σ H (fun v H'=>aO H H'/\Rep X.K B H' d1 v) I ⟨Z,B,δ,d1,E,h1,fun v H' s1 r1=>⟨s1,r1⟩⟩) fun v s1 ⟨xv,H1,I1,r1,Mg,e1⟩=>?_)
 split at h2
 .obtain⟨h3,h4⟩:=R.aL h2;cases h4;rw[Rep.str.mp e1] at r1;obtain⟨t,rfl⟩:=r1;have h3:=of_decide_eq_true h3;exact pyReprObj_str (formatField_str (fun t' tk=>⟨.str _,H1,I1.tok _,⟨_,rfl⟩,q _ H1 Mg (Rep.str.mpr rfl)⟩) h3) h3
 .cases h2⟩
end
end L2
end
section
namespace L3
open PySem PySem.Spec PyProof.Rows L2
section
variable {X:Cx} {cl:Za} {E:XK}
theorem yl:zV X cl E [] dj:=⟨mq.imp fun σ H Q ⟨ρ,S,δ,En,z⟩=>by
 rcases z with⟨vs,S',hf,q⟩ | ⟨c,S',hf,q⟩
 .cases hf;exact q _ ρ H (Pre.refl ρ H) En.sw az.nil
 .cases hf⟩
theorem lK(h:Jh X cl E e f)(t:zV X cl E es g)(hs:starEach (e ::es) X.env=(false,eval e X.env) ::starEach es X.env:=by rfl):zV X cl E (e ::es) (a9 f g):=
 ⟨(jc h.1 t.1 hs).imp fun σ H Q ⟨ρ,S,δ,En,z⟩=>by
   refine⟨ρ,S,δ,En,?_⟩;rcases z with⟨v,S',hf,q⟩ | ⟨c,S',hf,q⟩
   .obtain⟨v1,S1,h1,h2⟩:=R3.af hf;obtain⟨vs,S2,h3,h4⟩:=R3.af h2;cases h4;exact .inl ⟨v1,S1,h1,fun u bJ H1 p1 w1 r1=>⟨bJ,S1,δ,En.to p1 w1, .inl ⟨vs,_,h3,fun us pU H2 p2 w2 r2=>q _ pU H2 (p1.trans p2) w2 (az.cons (r1.pre p2) r2)⟩⟩⟩
   .rcases R3.fG hf with h1 | ⟨v1,S1,h1,h2⟩
    .exact .inr ⟨c,S',h1,q⟩
    .rcases R3.fG h2 with h3 | ⟨vs,S2,h3,h4⟩
     .exact .inl ⟨v1,S1,h1,fun u bJ H1 p1 w1 r1=>⟨bJ,S1,δ,En.to p1 w1, .inr ⟨c,S',h3,q.pre p1⟩⟩⟩
     .cases h4⟩
theorem Ad{x1 pos}(h:zV X cl E es g):Jh X cl E (.Tuple es x1 pos) (zG g):=⟨(y4 h.1).imp fun σ H Q ⟨ρ,S,δ,En,z⟩=>by
 refine⟨ρ,S,δ,En,?_⟩;rcases z with⟨v,S',hf,q⟩ | ⟨c,S',hf,q⟩
 .obtain⟨vs,S1,h1,h2⟩:=R3.af hf;obtain⟨hl,h3⟩:=R3.aL h2;cases h3;refine .inl ⟨vs,_,h1,fun us bJ H1 p1 w1 r1=>⟨by rw[<-r1.length];exact of_decide_eq_true hl,fun p hp=>q _ bJ _ (p1.trans (oB hp)) (w1.same (bB hp)) ?_⟩⟩
  refine vv (.inl ⟨fun ha=>?_, .inl aY⟩) (r1.pre (oB hp))
  obtain⟨o,ho⟩:=w1.bs p ha;rw[hp] at ho;cases ho
 .rcases R3.fG hf with h1 | ⟨vs,S1,h1,h2⟩
  .exact .inr ⟨c,S',h1,q⟩
  .unfold R3.aU at h2;split at h2 <;> cases h2⟩
theorem xJ{o e:Expr}{fo f:FX}{apos bf pos:Pos}(ho:PX X cl o fo)(he:Jh X cl E e f)
 (hs:starEach [e] X.env=(false,eval e X.env) ::starEach [] X.env:=by rfl) (fD:(apos.endLine==bf.line)=true:=by rfl)
 (lG:((backTo bf (starEach [e] X.env)).all (fun x=>!x.1) && (backToKw bf (keywordEach [] X.env)).all (fun x=>x.1.isSome)
   && decide (([e]:List Expr).length+([]:List Keyword).length+(if([]:List Keyword).isEmpty then 0 else 1) < 30))=true:=by rfl)
 (CB:swapsWith (.Call (.Attribute o "append" apos) [e] [] bf) none pos.line X.env=pure false:=by rfl)
 (fB:attributeBase o "append" X.env (eval o X.env)=eval o X.env:=by rfl) :
 Jn X cl E (.Expr (.Call (.Attribute o "append" apos) [e] [] bf) pos) (mR (uG fo) f):=by
 refine⟨(sf (Aq (X:=X) PySem.F.plainAttrs_list PySem.F.slot_list_append PySem.F.type_list_append oG ho.1 (jc he.1 mq hs) fB lG fD hs) CB).imp fun D σ H ⟨ρ,S,δ,En,z⟩=>?_⟩
 have key:∃k S0 F9,fo δ S= .ok (.loc k) S0/\c5 S0 k=some F9/\((∃v S1 ds,f δ S0= .ok (.d v) S1/\c5 S1 k=some ds/\ds.length < sizeLine/\wz X.K cl ρ H D (S1.set k (.lst (ds++[v]))) (.nx δ))\/∃c S',f δ S0= .ex c S'/\Av X.K cl E ρ H S' c):=by
  rcases z with⟨oo,S',hf,q⟩ | ⟨c,S',hf,q⟩
  .unfold mR at hf;obtain⟨vo,S0,g1,g2⟩:=R3.af hf;split at g2
   .rename_i k;split at g2
    .cases g2
    .rename_i F9 h0;obtain⟨v,S1,h1,h2⟩:=R3.af g2;split at h2
     .rename_i d;split at h2
      .rename_i ds h3;obtain⟨hl,h4⟩:=R3.aL h2;cases h4;exact⟨k,S0,F9,jx g1,h0, .inl ⟨d,S1,ds,h1,h3,of_decide_eq_true hl,q⟩⟩
      .cases h2
     .cases h2
   .cases g2
  .unfold mR at hf;rcases R3.fG hf with g1 | ⟨vo,S0,g1,g2⟩
   .exact(o5 g1).elim
   .split at g2
    .rename_i k;split at g2
     .cases g2
     .rename_i F9 h0;rcases R3.fG g2 with h1 | ⟨v,S1,h1,h2⟩
      .exact⟨k,S0,F9,jx g1,h0, .inr ⟨c,S',h1,q⟩⟩
      .split at h2
       .split at h2
        .unfold R3.aU at h2;split at h2 <;> cases h2
        .cases h2
       .cases h2
    .cases g2
 obtain⟨k,S0,F9,g1,h0,z⟩:=key;refine⟨ρ,S,δ, .loc k,S0,En,g1,fun u Se H0 p0 w0 r0=>?_⟩
 unfold aV at r0;obtain⟨a,a1,rfl⟩:=r0;obtain⟨Sn,x0,_⟩:=w0.ob k a _ a1 (iq h0);refine⟨.inl ⟨rfl,Sn,oz.of x0⟩,⟨Se,S0,δ,En.to p0 w0,?_⟩⟩;rcases z with⟨d,S1,ds,h1,h3,hl,q⟩ | ⟨c,S',h1,q⟩
 .refine .inl ⟨.d d,S1,h1,fun y bJ H1 p1 w1 r1=>?_⟩
  have b1:=p1.ext k a a1;obtain⟨xs,x1,x2⟩:=w1.ob k a _ b1 (iq h3);refine⟨a,xs,y,rfl,rfl,x1,by rw[<-x2.length];exact hl,?_⟩
  unfold aV at r1;obtain⟨w2,p2⟩:=w1.put (o:= .lst (ds++[d])) (u:= .lst (xs++[y])) b1 (w1.fz k a b1 (by rw[iq h3];intro h;cases h)) ⟨xs++[y],rfl,x2.append (ay.cons r1 ay.nil)⟩
  exact q σ bJ _ (p0.trans (p1.trans p2)) (En.to (p0.trans (p1.trans p2)) w2)
 .exact .inr ⟨c,S',h1,q.pre p0⟩
section
variable {S:aM} {δ:DE} {Y:Nat->aM->Prop}
theorem tw{f:FX}{g:FA}{Q:List V3->aM->Prop}(h:WE (f δ S) (fun v S1=>WE (g δ S1) (fun vs S2=>Q (v ::vs) S2) Y) Y):WE (a9 f g δ S) Q Y:=WE.bind (h.mono (fun v S1 q=>WE.bind (q.mono (fun vs S2 q=>WE.ok q) fun _ _ q=>q)) fun _ _ q=>q)
theorem Ej{Q:List V3->aM->Prop}(h:Q [] S):WE (dj δ S) Q Y:=WE.ok h
theorem Ja{g:FA}{Q:V3->aM->Prop}(h:WE (g δ S) (fun vs S1=>vs.length<=sizeLine/\Q (yp vs) S1) Y):WE (zG g δ S) Q Y:=WE.bind (h.mono (fun vs S1 ⟨hl,q⟩=>by
 unfold R3.aU;rw[decide_eq_true hl];exact WE.ok q) fun _ _ q=>q)
theorem Em{fo f:FX}{k:Nat}{Q:Ou->aM->Prop}(h:W3 (fo δ S) fun o S0=>o= .loc k/\(∃ds,S0[k]? =some (.lst ds))/\WE (f δ S0) (fun v S1=>∃d ds,v= .d d/\S1[k]? =some (.lst ds)/\ds.length < sizeLine/\Q (.nx δ) (S1.set k (.lst (ds++[d])))) Y):WE (mR (uG fo) f δ S) Q Y:=by
 unfold mR;refine WE.bind (.inl (Fb (h.mono fun o S0 ⟨e,⟨F9,h0⟩,h⟩=>?_)))
 subst e;have e0:c5 S0 k=some F9:=by unfold c5;rw [h0]
 simp only[e0];refine WE.bind (h.mono (fun v S1 ⟨d,ds,e1,e2,hl,q⟩=>?_) fun _ _ q=>q)
 subst e1;have e3:c5 S1 k=some ds:=by unfold c5;rw [e2]
 simp only[e3];unfold R3.aU;rw[decide_eq_true hl];exact WE.ok q
end
end
end L3
end
section
namespace L3
open PySem PySem.Spec PyProof.Rows L2
section
variable {X:Cx} {cl:Za} {E:XK}
def Wn(g:D->List D->R D)(fo:FX)(fs:FA):FX:=fun δ S=>(fo δ S).bind fun o S1=>match o with
 | .d (.str z)=>(fs δ S1).bind fun vs S2=>(match qJ vs with | some ds=>(R3.of (g (.str z) ds) S2).bind fun d S=> .ok (.d d) S | none=> .no)
 | _=> .no
end
end L3
end
section
namespace L2
open PySem PySem.Spec PyProof.Rows Builtin Builtin.Str
section
variable {prog:Program} {w:World} {A:Around} {E:Y6} {s:Shared} {x:Str} {t:Tok} {Q:Y6}
theorem Eb{y:Str}{u:Tok}(hy:(y.length==0)=false)
 (hq:∀l k,l.map (·.1)=Txt.split x y->Q (.ref s.heap.objs.size) {s with toks:=k,heap:=s.heap.push {cls:= .type "list",data:= .seq (strValues l).toArray}})
 (hsz:x.length<=sizeLine) (RD:(partsBetween x (occurrences x y 0 x.length (x.length+1)) y.length).length<=sizeLine) :
 wpAny (model prog w) A (call (.builtin "str.split") [.str x t, .str y u]) Q E s:=by
 cases h1:(decide (x.length < y.length) || decide (strKind x < strKind y))
 .cases hf:(occurrences x y 0 x.length (x.length+1)).isEmpty
  .refine call_meets F.slot_str_split (typeIs_str _ _ _) F.entry_str_split (F.args_str_split_2 _ _) (meets_str_split_sep x y t u h1 hy hf hsz RD) ?_;show wants Q E _ {s with toks:=_,heap:=s.heap.push {cls:= .type "list",data:= .seq (strsFrom s.toks (partsBetween x (occurrences x y 0 x.length (x.length+1)) y.length)).toArray}}
   rw[strsFrom_eq];exact hq (numbered s.toks _) _ ((numbered_texts _ _).trans ((if_neg (ne_true_of_eq_false h1)).trans (if_neg (ne_true_of_eq_false hf))).symm)
  .exact call_meets F.slot_str_split (typeIs_str _ _ _) F.entry_str_split (F.args_str_split_2 _ _) (meets_str_split_not_found x y t u h1 hy hf)
    (hq [(x,t)] s.toks ((if_neg (ne_true_of_eq_false h1)).trans (if_pos hf)).symm)
 .exact call_meets F.slot_str_split (typeIs_str _ _ _) F.entry_str_split (F.args_str_split_2 _ _) (meets_str_split_cannot_occur x y t u h1)
   (hq [(x,t)] s.toks (if_pos h1).symm)
def jk(x y:Str):List Str:=match occurrences x y 0 x.length 1 with
 | i ::_=>[strSub x 0 i,y,strSub x (i+y.length) x.length]
 | []=>[x,Str.empty,Str.empty]
theorem HS{y:Str}{u:Tok}(hy:(y.length==0)=false)
 (hq:∀l k,l.map (·.1)=jk x y->Q (.ref s.heap.objs.size) {s with toks:=k,heap:=s.heap.push {cls:= .type "tuple",data:= .seq (strValues l).toArray}}) (hsz:x.length<=sizeLine) :
 wpAny (model prog w) A (call (.builtin "str.partition") [.str x t, .str y u]) Q E s:=by
 refine call_meets F.slot_str_partition (typeIs_str _ _ _) F.entry_str_partition (F.args_str_partition_2 _ _) (meets_str_partition x y t u hy hsz) ?_;show wants Q E _ _;unfold jk at hq;split
 .rename_i i r e;rw[e] at hq;exact hq [(strSub x 0 i,_),(y,u),(strSub x (i+y.length) x.length,_)] _ rfl
 .rename_i e;rw[e] at hq;exact hq [(x,t),(Str.empty,_),(Str.empty,_)] _ rfl
end
section
variable {X:Cx}
def pe(d:D)(ds:List D):R D:=match d,ds with
 | .str x,[.str y]=>R.aU (decide ((y.length==0)=false/\x.length<=sizeLine/\(Txt.split x y).length<=sizeLine/\(partsBetween x (occurrences x y 0 x.length (x.length+1)) y.length).length<=sizeLine)) (.ok (.lst ((Txt.split x y).map .str)))
 | _,_=> .no
def xu(d:D)(ds:List D):R D:=match d,ds with
 | .str x,[.str y]=>R.aU (decide ((y.length==0)=false/\x.length<=sizeLine)) (.ok (.tup ((jk x y).map .str)))
 | _,_=> .no
theorem qI:∀(l:List (Str × Tok)),Vals ((l.map (·.1)).map V.str) (strValues l)
 | []=> .nil
 | p ::l=> .cons ⟨p.2,rfl⟩ (qI l)
theorem m_split:J1 X "str.split" pe:=by
 intro pins s σ H B da d ds x xs v us I hb rx rxs ra rs hg;unfold pe at hg;split at hg
 .rename_i z y;obtain⟨h1,h2⟩:=R.aL hg;obtain⟨hy,hz,hn,hp⟩:=of_decide_eq_true h1;cases h2;rw[Rep.str.mp ra] at rx;obtain⟨t,rfl⟩:=rx;obtain⟨q,rfl,r⟩:=rs.one;rw[Rep.str.mp r] at rxs;obtain⟨u,rfl,ru⟩:=vals1 rxs;obtain⟨tu,rfl⟩:=ru;refine Eb hy (fun l k hl=>?_) hz hp
  have hf:H s.heap.objs.size=none:=I.hok.fresh (Nat.le_refl _);refine⟨.ref s.heap.objs.size,upd H s.heap.objs.size (.lst ((l.map (·.1)).map V.str)),I.laid (a:=s.heap.objs.size) (fun b o q=>Heap.get?_push_of_some _ q) (Nat.le_refl _) ⟨?_,strValues l,0,qI l,Heap.get?_push_size _ rfl⟩,rfl,bB hf,?_⟩
  .rw [List.length_map,hl];exact hn
  .rw [hl];refine Rep.lst.mpr ⟨_,_,rfl, .inl ⟨fun ha=>?_, .inl aY⟩,qm _⟩
   obtain⟨o,ho⟩:=hb _ ha;rw[hf] at ho;cases ho
 .cases hg
theorem KO:J1 X "str.partition" xu:=by
 intro pins s σ H B da d ds x xs v us I hb rx rxs ra rs hg;unfold xu at hg;split at hg
 .rename_i z y;obtain⟨h1,h2⟩:=R.aL hg;obtain⟨hy,hz⟩:=of_decide_eq_true h1;cases h2;rw[Rep.str.mp ra] at rx;obtain⟨t,rfl⟩:=rx;obtain⟨q,rfl,r⟩:=rs.one;rw[Rep.str.mp r] at rxs;obtain⟨u,rfl,ru⟩:=vals1 rxs;obtain⟨tu,rfl⟩:=ru;refine HS hy (fun l k hl=>?_) hz
  have hf:H s.heap.objs.size=none:=I.hok.fresh (Nat.le_refl _);refine⟨.ref s.heap.objs.size,upd H s.heap.objs.size (.tup ((l.map (·.1)).map V.str)),I.laid (a:=s.heap.objs.size) (fun b o q=>Heap.get?_push_of_some _ q) (Nat.le_refl _) ⟨?_,strValues l,qI l,_,Heap.get?_push_size _ rfl,rfl,0,rfl⟩,rfl,bB hf,?_⟩
  .rw [List.length_map,hl];have:(jk z y).length=3:=by unfold jk;split <;> rfl
   rw[this];decide
  .rw [hl];refine Rep.tup.mpr ⟨_,_,rfl, .inl ⟨fun ha=>?_, .inl aY⟩,qm _⟩
   obtain⟨o,ho⟩:=hb _ ha;rw[hf] at ho;cases ho
 .cases hg
theorem vh{o e:Expr}{f:FD}{fs:ao->R (List D)}{apos bf:Pos}(ho:QD X o f)(ha:CI X [e] fs)(fB:attributeBase o "split" X.env (eval o X.env)=eval o X.env:=by rfl)(lG:((backTo bf (starEach [e] X.env)).all (fun x=>!x.1) && (backToKw bf (keywordEach [] X.env)).all (fun x=>x.1.isSome)
 && decide (([e]:List Expr).length+([]:List Keyword).length+(if([]:List Keyword).isEmpty then 0 else 1) < 30))=true:=by rfl) (fD:(apos.endLine==bf.line)=true:=by rfl) (hs:starEach [e] X.env=(false,eval e X.env) ::starEach [] X.env:=by rfl):QD X (.Call (.Attribute o "split" apos) [e] [] bf) (vj "str" pe f fs):=⟨Al F.plainAttrs_str F.slot_str_split F.type_str_split m_split ho.1 ha.1 (.inl rfl) fB lG fD hs⟩
theorem uB{o e:Expr}{f:FD}{fs:ao->R (List D)}{apos bf:Pos}(ho:QD X o f)(ha:CI X [e] fs)(fB:attributeBase o "partition" X.env (eval o X.env)=eval o X.env:=by rfl)(lG:((backTo bf (starEach [e] X.env)).all (fun x=>!x.1) && (backToKw bf (keywordEach [] X.env)).all (fun x=>x.1.isSome)
 && decide (([e]:List Expr).length+([]:List Keyword).length+(if([]:List Keyword).isEmpty then 0 else 1) < 30))=true:=by rfl) (fD:(apos.endLine==bf.line)=true:=by rfl) (hs:starEach [e] X.env=(false,eval e X.env) ::starEach [] X.env:=by rfl):QD X (.Call (.Attribute o "partition" apos) [e] [] bf) (vj "str" xu f fs):=⟨Al F.plainAttrs_str F.slot_str_partition F.type_str_partition KO ho.1 ha.1 (.inl rfl) fB lG fD hs⟩
end
end L2
end
section
namespace L2
open PySem PySem.Spec PyProof.Rows
section
variable {X:Cx}
def Ca(aw:List (Str × Int)):D:= .dct (aw.map fun p=>Sum.inr p.1) (aw.map fun p=> .int p.2)
def Jv(aw:List (Str × Int)):List (Key × V):=aw.map fun p=>((Sum.inr p.1:Key),V.int p.2)
theorem vp{K:W.Frag}{B:List Addr}:∀aw:List (Str × Int),ay K B H (aw.map fun p=>D.int p.2) ((Jv aw).map (·.2))
 | []=>ay.nil
 | p ::aw=>ay.cons (Rep.int.mpr rfl) (vp aw)
theorem BH{keys:List (Option Expr)}{values:List Expr}{ua:List (TE × TE)}{pos:Pos}(aw:List (Str × Int))(h:I0 X pos keys values ua)(yF:keys.all (·.isSome)=true)(hl:keys.length=values.length)(h0:keys≠[])(RB:keys.length<=15)
 (hc:∀σ H Q,Q ((Jv aw).map fun kv=>(kV kv.1,kv.2)) H->o_ ua σ H Q) (hlen:aw.length<=15) (Xg:k7 [] (Jv aw)=Jv aw):QD X (.Dict keys values pos) (eC (Ca aw)):=by
 refine⟨(AK h yF hl h0 RB).imp fun σ H Q ⟨Z,B,δ,d,E,hf,q⟩=>?_⟩
 cases hf;intro p hp;refine hc σ _ _ ⟨aY,Jv aw,rfl,by unfold Jv;rw [List.length_map];exact hlen,?_⟩
 rw[AH,Xg];refine q _ _ (bB hp) ?_;unfold Ca Rep;refine⟨p,Jv aw,rfl,⟨fun ha=>?_,aY⟩,?_,vp aw⟩
 .obtain⟨o,ho⟩:=E.bs p ha;rw[hp] at ho;cases ho
 .unfold Jv;rw [List.map_map];rfl
end
end L2
namespace L3
open PySem PySem.Spec PyProof.Rows L2
def rp(l:List (Nat × Bool))(c:Nat):Option Bool:=l.lookup c
def Oe(P:Nat->Bool->Prop):List (Nat × Bool)->Prop | []=>True | p ::l=>P p.1 p.2/\Oe P l
theorem gH{P:Nat->Bool->Prop}:Oe P []:=trivial
theorem ak{P:Nat->Bool->Prop}{c:Nat}{b:Bool}{l:List (Nat × Bool)}(h:P c b)(t:Oe P l):Oe P ((c,b) ::l):=⟨h,t⟩
theorem ki{P:Nat->Bool->Prop}:∀{l:List (Nat × Bool)},Oe P l->∀c b,rp l c=some b->P c b
 | [],_,c,b,h=>by cases h
 | (c1,b1) ::l,t,c,b,h=>by
   unfold rp at h;rw[List.lookup_cons] at h;cases e:c==c1 with
   | true=>rw [e] at h;cases h;rw [eq_of_beq e];exact t.1
   | false=>rw [e] at h;exact ki t.2 c b h
def ML(P:Nat->Prop):List Nat->Prop | []=>True | c ::l=>P c/\ML P l
theorem Kj{P:Nat->Prop}:ML P []:=trivial
theorem mr{P:Nat->Prop}{c:Nat}{l:List Nat}(h:P c)(t:ML P l):ML P (c ::l):=⟨h,t⟩
theorem Ds{P:Nat->Prop}:∀{l:List Nat},ML P l->∀c∈l,P c
 | [],_,c,h=>by cases h
 | d ::l,t,c,h=>by
   rcases List.mem_cons.mp h with rfl | z
   .exact t.1
   .exact Ds t.2 c z
theorem NS{P:Nat->Prop}{l:List Nat}(t:ML P l):∀c,l.contains c=true->P c:=fun c h=>Ds t c (List.contains_iff_mem.mp h)
end L3
namespace L2
open PySem PySem.Spec PyProof.Rows
section
variable {X:Cx}
def oi(d:D)(ds:List D):R D:=match d,ds with
 | .lst es,[.str k]=>(match strs? es with | some ss=> .ok (.int (ss.count k:Nat)) | none=> .no)
 | _,_=> .no
theorem sO(k:Str):∀ss:List Str,(ss.map V.str).countP (fun y=>Ge y (.str k))=ss.count k
 | []=>rfl
 | y ::ss=>by
   rw[List.map_cons,List.countP_cons,sO k ss,List.count_cons];rfl
theorem EA:J1 X "list.count" oi:=by
 intro pins s σ H B da d ds x xs v us I hb rx rxs ra rs hg;unfold oi at hg;split at hg
 .rename_i es k;split at hg
  .rename_i ss e;cases hg;obtain⟨a,ys,rfl,l,rys⟩:=Rep.lst.mp ra;cases rx;obtain⟨y,rfl,r⟩:=rs.one;rw[Rep.str.mp r] at rxs;obtain⟨u,rfl,ru⟩:=vals1 rxs;obtain⟨its,rv,pl,hz⟩:=I.list l.sq;have hys:=iz rys e;subst hys;have fs:=qX ss;obtain⟨⟨cls,dd,data,sl⟩,ho,hc,n,hd⟩:=pl.isList;simp only at hc hd;subst hc hd;have fx:kY (.str k)=true:=rfl;have hcnt:(its.toArray.toList.countP (xj (.str k)):Nat)=ss.count k:=by
    rw[show its.toArray.toList=its by simp,vc rv fs,sO]
   refine call_meets PySem.F.slot_list_count ⟨_,ho,rfl⟩ PySem.F.entry_list_count (PySem.F.args_list_count_2 _ _) (PySem.SeqAt.list_countAt a its.toArray n dd sl u (xj (.str k))) ⟨ho,fun z hz=>lL ru fx rv fs z (by simpa using hz),?_⟩
   rw[hcnt];exact⟨.int _,H,I.tok _,⟨_,rfl⟩,aO.refl H,Rep.int.mpr rfl⟩
  .cases hg
 .cases hg
theorem sx{o e:Expr}{f:FD}{fs:ao->R (List D)}{apos bf:Pos}(ho:QD X o f)(ha:CI X [e] fs)
 (fB:attributeBase o "count" X.env (eval o X.env)=eval o X.env:=by rfl)
 (lG:((backTo bf (starEach [e] X.env)).all (fun x=>!x.1) && (backToKw bf (keywordEach [] X.env)).all (fun x=>x.1.isSome)
   && decide (([e]:List Expr).length+([]:List Keyword).length+(if([]:List Keyword).isEmpty then 0 else 1) < 30))=true:=by rfl)
 (fD:(apos.endLine==bf.line)=true:=by rfl) (hs:starEach [e] X.env=(false,eval e X.env) ::starEach [] X.env:=by rfl) :
 QD X (.Call (.Attribute o "count" apos) [e] [] bf) (vj "list" oi f fs):=⟨Al F.plainAttrs_list F.slot_list_count F.type_list_count EA ho.1 ha.1 (.inr (.inr rfl)) fB lG fD hs⟩
end
section
variable {X:Cx}
def xk(n:Nat)(t:Fw):FT:=fun d δ=>match d with | .lst ds=>R.aU (decide (ds.length=n)) (t ds δ) | _=> .no
theorem qD{k:Nat}{t:Fw}{n:Nat}{pos:Pos}(hc:X.calm=true)(h:Iu X es t)(hn:(assignEach es X.env).length=n:=by rfl)(yI:(assignEach es X.env).findIdx? (·.1)=none:=by rfl):My X (.Tuple es k pos) (xk n t):=
 ⟨(Lq hc h.1 hn yI).imp fun v σ H Q ⟨Z,B,δ,d,dm,E,r,ht,q⟩=>by
   cases d with
   | lst ds=>
     unfold Rep at r;obtain⟨a,xs,rfl,l,r⟩:=r;obtain⟨hl,h⟩:=R.aL ht;exact⟨a,xs,rfl,l.sq,by rw[<-r.length];exact of_decide_eq_true hl,Z,B,δ,ds,dm,E,r,h,q⟩
   | _=>cases ht⟩
end
section
variable {X:Cx}
def TH(d e:D):R D:=match d,e with
 | .lst ds, .int k=>R.aU (decide (0<=k/\k < 1000000/\ds.length*k.toNat<=sizeLine)) (.ok (.lst (List.replicate k.toNat ds).flatten))
 | _,_=> .no
end
end L2
end
section
set_option maxHeartbeats 4000000
namespace NT
def mx(f:Nat->Nat)(w:List Nat):Nat:=(w.map f).foldl max 0
structure BA (f:Nat->Nat) (M:Nat) (bs:List Int):Prop where
 a:∀(z:Nat) (v:Int),bs[z]? =some v->v= -1\/(0<=v/\v+f z<=M)
def BB(f:Nat->Nat)(M:Nat)(bs:List Int)(n:Nat):Prop:=∃(z:Nat) (v:Int),z < n/\bs[z]? =some v/\0<=v/\(M:Int)<=v+f z
def Up(bs U_:List Int):Prop:=U_.length=bs.length/\∀(z:Nat) (v:Int),bs[z]? =some v->∃v',U_[z]? =some v'/\v<=v'
end NT
namespace NT
open PySem PySem.Spec PyProof.Rows L2 L3
structure Gt where
 k:Str
 w:List Nat
 s:Bool
def nN(z:Nat):D:= .int z
def wN(w:List Nat):D:= .tup (w.map nN)
def gN(g:Gt):D:= .tup [.str g.k,wN g.w, .bl g.s]
def iN(x:Str × Nat):D:= .tup [.str x.1, .int x.2]
def oN(x:Str × List Nat):D:= .tup [.str x.1,wN x.2]
structure Net where
 i:Y7
 g:List Gt
 o:Y8
def Net.d(n:Net):D:= .tup [.lst (n.i.map iN), .lst (n.g.map gN), .lst (n.o.map oN)]
def Net.first(n:Net):Nat:=(n.i.map (·.2)).sum
structure Uy (n:Nat) (w:List Nat):Prop where
 ne:w≠[]
 le:w.length<=3
 lt:∀z∈w,z < n
structure Net.Ok (n:Net):Prop where
 i1:1<=n.i.length
 i6:n.i.length<=6
 iw:∀x∈n.i,1<=x.2/\x.2<=3
 is:∀x∈n.i,kN 0 (.str x.1)
 g60:n.g.length<=60
 gw:∀(p:Nat) (g:Gt),n.g[p]? =some g->Uy (n.first+p) g.w
 gs:∀g∈n.g,kN 0 (.str g.k)
 o1:1<=n.o.length
 o6:n.o.length<=6
 ow:∀x∈n.o,Uy (n.first+n.g.length) x.2
 os:∀x∈n.o,kN 0 (.str x.1)
inductive Sm:Nat->D->Prop where
 | int (n:Nat) (i:Int):Sm n (.int i)
 | bl (n:Nat) (b:Bool):Sm n (.bl b)
 | str (n:Nat) (s:Str):Sm n (.str s)
 | lst {n:Nat} {ds:List D} (h:∀d∈ds,Sm n d) (hl:ds.length<=1000000):Sm (n+1) (.lst ds)
 | tup {n:Nat} {ds:List D} (h:∀d∈ds,Sm n d) (hl:ds.length<=1000000):Sm (n+1) (.tup ds)
theorem eE{F G:FS}{δ:ao}{d:D}(h:F δ= .ok (.rt d)):bW F G δ= .ok (.rt d):=by unfold bW;rw [h];rfl
theorem zj{α:Type}{l:List α}{f:α->D}{i:Nat}{v:V3}(h:((l.map f).map V3.d)[i]? =some v):∃x,l[i]? =some x/\v= .d (f x):=by
 rw[List.getElem?_map,List.getElem?_map] at h;cases q:l[i]? with
 | none=>rw [q] at h;cases h
 | some x=>rw [q] at h;cases h;exact⟨x,rfl,rfl⟩
theorem Bk{α:Type}{l:List α}{f:α->D}{i:Nat}{v:D}(h:(l.map f)[i]? =some v):∃x,l[i]? =some x/\v=f x:=by
 rw[List.getElem?_map] at h;cases q:l[i]? with
 | none=>rw [q] at h;cases h
 | some x=>rw [q] at h;cases h;exact⟨x,rfl,rfl⟩
theorem d6{α:Type}{t:FT}{c:ao->R Bool}{f:FD}{δ:ao}(a b:α->D):∀{xs:List α},(∀x∈xs,∃δ1,t (a x) δ= .ok δ1/\c δ1= .ok true/\f δ1= .ok (b x))->qF t c f δ (xs.map a)= .ok (xs.map b)
 | [],_=>rfl
 | x ::xs,h=>by
   obtain⟨δ1,h1,h2,h3⟩:=h x List.mem_cons_self;have ih:=d6 (t:=t) (c:=c) (f:=f) (δ:=δ) a b (xs:=xs) fun y hy=>h y (List.mem_cons_of_mem _ hy)
   rw[List.map_cons];unfold qF;rw[h1,R.aG,h2,R.aG,if_pos rfl,h3,R.aG,ih];rfl
theorem tE{α:Type}{t:FT}{c:ao->R Bool}{f:FD}{δ:ao}(p:α->Bool)(a b:α->D):∀{xs:List α},(∀x∈xs,∃δ1,t (a x) δ= .ok δ1/\c δ1= .ok (p x)/\(p x=true->f δ1= .ok (b x)))->qF t c f δ (xs.map a)= .ok ((xs.filter p).map b)
 | [],_=>rfl
 | x ::xs,h=>by
   obtain⟨δ1,h1,h2,h3⟩:=h x List.mem_cons_self;have ih:=tE (t:=t) (c:=c) (f:=f) (δ:=δ) p a b (xs:=xs) fun y hy=>h y (List.mem_cons_of_mem _ hy)
   rw[List.map_cons];unfold qF;rw[h1,R.aG,h2,R.aG];cases e:p x with
   | true=>rw [if_pos rfl,h3 e,R.aG,ih,List.filter_cons,if_pos e];rfl
   | false=>rw [if_neg (by decide),ih,List.filter_cons,if_neg (by rw[e];decide)]
theorem HM{n z:Nat}(h:z < n):Fe n (z:Int)=some z:=by
 unfold Fe;rw[if_pos (by omega),if_pos (by omega)]
 simp
theorem Dg{α:Type}{xs:List α}{z:Nat}{x:α}(h:xs[z]? =some x):wY xs (z:Int)=some x:=by
 have hl:=(List.getElem?_eq_some_iff.mp h).1;unfold wY;rw[HM hl];exact h
theorem p9{ds:List D}{z:Nat}{x:D}(h:ds[z]? =some x):eM (.lst ds) (.int z)= .ok x:=LG (Dg h)
end NT
end
section
namespace MT
open PySem PySem.Spec PyProof.Rows L2 L3
abbrev M:=Nat->Bool
theorem QW{N:List Str}{F:FZ}{vs:List V3}{δ:DE}{S:aM}{QV:V3->aM->Prop}(e:dt N vs=δ)(h:W3 (F δ S) fun o S1=>∃dm,o= .nx dm/\QV (.d .cD) S1):W3 (uh N F vs S) QV:=by
 subst e;exact W3.bind (h.mono fun _ _ ⟨_,e,q⟩=>by subst e;exact W3.ok q)
def Ud:Nat->M->Nat
 | 0,_=>0
 | N+1,f=>(if f 0 then 1 else 0)+2*Ud N (fun i=>f (i+1))
def mI(N:Nat)(f:M):D:= .int (Ud N f:Nat)
def one:M:=fun _=>true
def bI(b:Bool):D:= .int (if b then 1 else 0)
def WL:List Bool->Nat
 | []=>0
 | b ::bs=>(if b then 1 else 0)+2*WL bs
def nI(n:Nat):D:= .int (n:Int)
def kS:Nat->Str | 0=>"not" | 1=>"and" | 2=>"or" | 3=>"xor" | _=>"vote"
def ar:Nat->Nat | 0=>1 | 4=>3 | _=>2
theorem EC(k:Nat):ar k<=3:=by unfold ar;split <;> omega
def gv:Nat->List Bool->Bool
 | 0,[a]=>!a
 | 1,[a,b]=>a && b
 | 2,[a,b]=>a || b
 | 3,[a,b]=>a !=b
 | 4,[a,b,c]=>(a && b) || (a && c) || (b && c)
 | _,_=>false
def UM(ws:List M)(n:Nat):M:=ws.getD n fun _=>false
abbrev Gt:=Nat × List Nat × Bool
def BF(g:Gt):D:= .tup [.str (kS g.1), .tup (g.2.1.map nI), .bl g.2.2]
def Nm(n:Nat)(g:Gt):Prop:=g.1<=4/\g.2.1.length=ar g.1/\∀w∈g.2.1,w < n
def inD(x:Str × Nat):D:= .tup [.str x.1,nI x.2]
def CN(x:Str × List Nat):D:= .tup [.str x.1, .tup (x.2.map nI)]
def WQ(ins:Y7)(gs:List Gt)(os:Y8):D:= .tup [.lst (ins.map inD), .lst (gs.map BF), .lst (os.map CN)]
def Pk(ins:Y7):Nat:=(ins.map (·.2)).sum
def gF(g:Gt)(ws:List M):M:=fun p=>gv g.1 (g.2.1.map fun n=>UM ws n p)
def El(bad:List Int)(b:M):Nat->List M->List M
 | 0,ws=>ws
 | n+1,ws=>El bad b n ws++[fun p=>b p !=bad.contains ((El bad b n ws).length:Int)]
def L7(ins:Y7)(bits:List M)(bad:List Int):Nat->List M
 | 0=>[]
 | i+1=>match ins[i]?,bits[i]? with | some x,some b=>El bad b x.2 (L7 ins bits bad i) | _,_=>L7 ins bits bad i
def Ph(gs:List Gt)(turned:List Int)(w0:List M):Nat->List M
 | 0=>w0
 | i+1=>match gs[i]? with | some g=>Ph gs turned w0 i++[fun p=>gF g (Ph gs turned w0 i) p !=turned.contains (i:Int)] | none=>Ph gs turned w0 i
structure UG (ins:Y7) (gs:List Gt) (os:Y8):Prop where
 hi:ins.length < 100
 hw:∀x∈ins,x.2 < 100
 hg:gs.length < 1000
 g:∀(i:Nat) (x:Gt),gs[i]? =some x->Nm (Pk ins+i) x
 ho:os.length < 1000
 o:∀x∈os,x.2.length < 1000/\∀w∈x.2,w < Pk ins+gs.length
def VU(ins:Y7)(gs:List Gt)(bits:List M)(turned bad:List Int):List M:=Ph gs turned (L7 ins bits bad ins.length) gs.length
def tell(ws:List M)(x:Str × List Nat):List M:=x.2.map (UM ws)
def YF:List Bool->Bool × Bool
 | [a]=>(!a,a)
 | [a,b]=>(!(a || b),a && b)
 | [a,b,c]=>let v:=(a && b) || (a && c) || (b && c);(!v,v)
 | _=>(false,false)
def brk(safe:Bool)(x y:Bool × Bool):Bool:=if safe then(x.1 && y.2) || (x.2 && y.1) else(x.1 !=y.1) || (x.2 !=y.2)
def WI:List Nat->Nat->Y9
 | _,0=>[[]]
 | ps,s+1=>(List.range ps.length).flatMap fun a=>(WI (ps.drop (a+1)) s).map (ps.getD a 0 ::·)
theorem v_:∀{l:List Nat} {m:Nat},(∀x∈l,x<=m)->l.sum<=l.length*m
 | [],_,_=>by simp
 | x ::l,m,h=>by
   have:=v_ (l:=l) (m:=m) fun y hy=>h y (List.mem_cons_of_mem _ hy)
   have h0:=h x List.mem_cons_self;rw[List.sum_cons,List.length_cons,Nat.add_mul];omega
end MT
end
section
set_option maxHeartbeats 1000000
namespace JT
open PySem PySem.Spec PyProof.Rows L2 L3 MT
def gB(g:Gt)(ws:List Bool):Bool:=gv g.1 (g.2.1.map fun n=>ws.getD n false)
def wu:List Gt->(Nat->Bool)->List Bool->List Bool
 | [],_,ws=>ws
 | g ::gs,T,ws=>wu gs (fun i=>T (i+1)) (ws++[gB g ws !=T 0])
def OA(f:Nat->Nat)(g:Gt):Gt:=(g.1,g.2.1.map f,g.2.2)
def WT(f:Nat->Nat)(x:Str × List Nat):Str × List Nat:=(x.1,x.2.map f)
def Sh(f:Nat->Nat)(v ws:List Bool):Prop:=∀w,w < v.length->f w < ws.length/\ws.getD (f w) false=v.getD w false
def YN(p:Nat)(ws:List M):List Bool:=ws.map (· p)
def xh:List (Str × Nat)->List Bool->List Bool
 | x ::ins,b ::bits=>List.replicate x.2 b++xh ins bits
 | _,_=>[]
def E9(k:Nat)(bad:Nat->Bool):List Bool->List Bool
 | []=>[]
 | b ::bs=>(b !=bad k) ::E9 (k+1) bad bs
def Q0(ins:Y7)(gs:List Gt)(bits:List Bool)(T bad:Nat->Bool):List Bool:=wu gs T (E9 0 bad (xh ins bits))
end JT
end
section
namespace JT
open PySem PySem.Spec PyProof.Rows L2 L3 MT
def x_(ws:List Bool)(ns:List Nat):List Bool:=ns.map fun n=>ws.getD n false
def D7(f:Nat->List Bool):List (Option Nat × Nat)->List Bool->List Bool
 | [],_=>[]
 | (some o,_) ::r,l=>f o++D7 f r l
 | (none,w) ::r,l=>l.take w++D7 f r (l.drop w)
def GV(f1:Nat->Nat)(os:Nat->List Nat):List (Option Nat × Nat)->Nat->List Nat
 | [],_=>[]
 | (some o,_) ::r,free=>(os o).map f1++GV f1 os r free
 | (none,w) ::r,free=>List.range' free w++GV f1 os r (free+w)
def sG:List (Option Nat × Nat)->Nat
 | []=>0
 | (some _,_) ::r=>sG r
 | (none,w) ::r=>w+sG r
def Qw(n1 l w:Nat):Nat:=if w < n1 then w else w+l
def Uw(L:List Nat)(top w:Nat):Nat:=if w < L.length then L.getD w 0 else top+(w - L.length)
section
variable {gs1 MQ:List Gt} {φ:List (Option Nat × Nat)} {os:Nat->List Nat} {n1:Nat} {r1 rl:List Bool} {T:Nat->Bool}
def gJ(gs1 MQ:List Gt)(φ:List (Option Nat × Nat))(os:Nat->List Nat)(n1:Nat):List Gt:=
 gs1.map (OA (Qw n1 (sG φ)))++MQ.map (OA (Uw (GV (Qw n1 (sG φ)) os φ n1) (n1+sG φ+gs1.length)))
end
def Mw(bits:List Bool):List Bool:=bits.flatMap (List.replicate 3)
def UB:List Bool->Bool
 | [a,b,c]=>(a && b) || (a && c) || (b && c)
 | _=>false
def UA:List Bool->Bool
 | [a,b,c]=>(a !=b) || (a !=c)
 | _=>false
def VG(xs ys:List Bool):List Bool:=List.zipWith (· !=·) xs ys
def lst(xs ys:List Bool):Bool:=UB (VG xs ys)
def Nh:List Bool->List Bool->Prop
 | [],r=>r=[]
 | b ::bs,r=>∃x y z r',r=x ::y ::z ::r'/\UB [b !=x,b !=y,b !=z]=false/\Nh bs r'
def no:Nat->Bool:=fun _=>false
structure V9 (c:Nat) (gs:List Gt) (os:Y8):Prop where
 a:∀bits:List Bool,bits.length=c->∀x∈os,UA (x_ (wu gs no (Mw bits)) x.2)=false
 b:∀bits:List Bool,bits.length=c->∀i g,gs[i]? =some g->g.2.2=false->∀x∈os,lst (x_ (wu gs no (Mw bits)) x.2) (x_ (wu gs (fun j=>j==i) (Mw bits)) x.2)=false
 c:∀bits row:List Bool,bits.length=c->Nh bits row->∀x∈os,lst (x_ (wu gs no (Mw bits)) x.2) (x_ (wu gs no row) x.2)=false
def AO(v:Nat->Bool):List (Option Nat × Nat)->List Bool->List Bool
 | [],_=>[]
 | (some o,_) ::r,l=>v o ::AO v r l
 | (none,_) ::r,l=>l.headD false ::AO v r l.tail
def many:List (Option Nat × Nat)->Nat
 | []=>0
 | (some _,_) ::r=>many r
 | (none,_) ::r=>many r+1
end JT
end
section
namespace JT
open PySem PySem.Spec PyProof.Rows L2 L3 MT
structure Yg (c1:Nat) (gs1 MQ:List Gt) (OW Pp:Y8) (φ:List (Option Nat × Nat)) (os:Nat->List Nat):Prop where
 h3:∀x∈φ,x.2=3
 g1:∀i g,gs1[i]? =some g->∀w∈g.2.1,w < 3*c1+i
 g2:∀i g,MQ[i]? =some g->∀w∈g.2.1,w < 3*φ.length+i
 o1:∀x∈OW,x.2.length=3/\∀n∈x.2,n < 3*c1+gs1.length
 o2:∀x∈Pp,x.2.length=3/\∀n∈x.2,n < 3*φ.length+MQ.length
 ho:∀o w,(some o,w)∈φ->∃x∈OW,x.2=os o
section
variable {c1:Nat} {gs1 MQ:List Gt} {OW Pp U2:Y8} {φ:List (Option Nat × Nat)} {os:Nat->List Nat}
abbrev T8(c1:Nat)(φ:List (Option Nat × Nat)):Nat->Nat:=Qw (3*c1) (sG φ)
abbrev WC(c1:Nat)(gs1:List Gt)(φ:List (Option Nat × Nat))(os:Nat->List Nat):Nat->Nat:=Uw (GV (T8 c1 φ) os φ (3*c1)) (3*c1+sG φ+gs1.length)
def Ut(c1:Nat)(gs1:List Gt)(OW Pp U2:Y8)(φ:List (Option Nat × Nat))(os:Nat->List Nat):Prop:=
 ∀x∈U2,(∃y∈OW,x.2=y.2.map (T8 c1 φ))\/∃y∈Pp,x.2=y.2.map (WC c1 gs1 φ os)
end
end JT
end
section
namespace JT
open PySem PySem.Spec PyProof.Rows L2 L3 MT
def Fv:Nat->List (List Bool)
 | 0=>[[]]
 | c+1=>(Fv c).flatMap fun b=>[b++[false],b++[true]]
def Vu(c j:Nat):M:=fun p=>((Fv c).getD p []).getD j false
def Vt(c:Nat):List M:=(List.range c).map (Vu c)
def IZ(c p:Nat):List Bool:=(Fv c).getD p []
def Uo(f e:Nat):Nat->Y9
 | 0=>[[]]
 | m+1=>(List.range' f (e - f)).flatMap fun w=>(Uo ((w / 3+1)*3) e m).map (w ::·)
def Wx(f e:Nat):List Nat->Prop
 | []=>True
 | w ::B=>f<=w/\w < e/\Wx ((w / 3+1)*3) e B
def Qf(c:Nat)(gs:List Gt):List (List Nat × List Nat):=
 (gs.zipIdx.filter (fun x=>!x.1.2.2)).map (fun x=>(([]:List Nat),[x.2]))++(List.range' 1 c).flatMap fun m=>(Uo 0 (3*c) m).map fun B=>(B,([]:List Nat))
def Eo(c:Nat)(gs:List Gt)(p:Nat):List Bool:=wu gs no (Mw (IZ c p))
def La(c:Nat)(gs:List Gt)(f:List Nat × List Nat)(p:Nat):List Bool:=wu gs (fun i=>f.2.contains i) (E9 0 (fun n=>f.1.contains n) (Mw (IZ c p)))
def P_(c:Nat)(gs:List Gt)(os:Y8)(p:Nat):Bool:=os.any fun x=>UA (x_ (Eo c gs p) x.2)
def NV(c:Nat)(gs:List Gt)(os:Y8)(f:List Nat × List Nat)(p:Nat):Bool:=os.any fun x=>lst (x_ (Eo c gs p) x.2) (x_ (La c gs f p) x.2)
def Rg(c:Nat)(gs:List Gt)(os:Y8):Option (List Nat × List Nat × Nat):=
 match (List.range (2 ^ c)).find? (P_ c gs os) with
 | some p=>some ([],[],p)
 | none=>(Qf c gs).findSome? fun f=>((List.range (2 ^ c)).find? (NV c gs os f)).map fun p=>(f.1,f.2,p)
end JT
end
section
namespace JT
open PySem PySem.Spec PyProof.Rows L2 L3 MT
theorem nE{a b:Nat}(h:0 < b):il (nI a) (nI b)= .ok (nI (a % b)):=by
 show il (.int a) (.int b)=_;rw[tH (by omega)];rfl
theorem sP{a b:Nat}(h:0 < b)(h2:b < 1073741824):ib (nI a) (nI b)= .ok (nI (a / b)):=by
 show ib (.int a) (.int b)=_;rw[AS (by omega) (by omega)];rfl
theorem D6(a b:Nat):eP (nI a) (nI b)= .ok (nI (a+b)):=rfl
theorem Df(a b:Nat):nj (nI a) (nI b)= .ok (.bl (decide (a=b))):=by
 show R.ok (D.bl ((a:Int)==(b:Int)))=_;congr 2;by_cases h:a=b
 .rw [decide_eq_true h];exact beq_iff_eq.mpr (by omega)
 .rw [decide_eq_false h];exact beq_eq_false_iff_ne.mpr (by omega)
theorem Er(a b:Nat):Jr (nI a) (nI b)= .ok (.bl (decide (b < a))):=by
 show R.ok (D.bl (decide ((a:Int) > (b:Int))))=_;congr 2;by_cases h:b < a
 .rw [decide_eq_true h,decide_eq_true (by omega)]
 .rw [decide_eq_false h,decide_eq_false (by omega)]
theorem uj(a b:Nat):yb (nI a) (nI b)= .ok (.bl (decide (a < b))):=by
 show R.ok (D.bl (decide ((a:Int) < (b:Int))))=_;congr 2;by_cases h:a < b
 .rw [decide_eq_true h,decide_eq_true (by omega)]
 .rw [decide_eq_false h,decide_eq_false (by omega)]
theorem DG(a b:Nat):CL (nI a) (nI b)= .ok (.bl (decide (b<=a))):=by
 show R.ok (D.bl (decide ((a:Int)>=(b:Int))))=_;congr 2;by_cases h:b<=a
 .rw [decide_eq_true h,decide_eq_true (by omega)]
 .rw [decide_eq_false h,decide_eq_false (by omega)]
theorem Rf(a b:Nat):QE (nI a) (nI b)= .ok (.bl (decide (a<=b))):=by
 show R.ok (D.bl (decide ((a:Int)<=(b:Int))))=_;congr 2;by_cases h:a<=b
 .rw [decide_eq_true h,decide_eq_true (by omega)]
 .rw [decide_eq_false h,decide_eq_false (by omega)]
theorem qS{ds:List D}:ph [.lst ds]= .ok (nI ds.length):=rfl
theorem Bc{f:FD}{δ:ao}{n:Nat}(h:f δ= .ok (nI n))(hn:n < 1000000):nG f δ= .ok ((List.range n).map nI):=by
 rw[HV h hn];unfold rN;congr 1;refine List.map_congr_left fun i _=>?_
 show D.int (0+(i:Int))=D.int (i:Int);rw[Int.zero_add]
def YD(T:List Nat):D:= .tup (T.map nI)
def Yc(r:Nat):Nat:=[1,2,3,4,0].getD (r % 5) 0
theorem Nt{f:FD}{δ:ao}{k:Nat}(hk:k<=4)(h:f δ= .ok (.str (kS k))):Fh [((Sum.inr "not":Key),V.int 1),((Sum.inr "vote":Key),V.int 3)] f (eC (.int 2)) δ= .ok (nI (ar k)):=by
 unfold Fh;rw[h,R.aG]
 match k,hk with
 | 0,_=>rfl
 | 1,_=>rfl
 | 2,_=>rfl
 | 3,_=>rfl
 | 4,_=>rfl
end JT
end
section
namespace JT
open PySem PySem.Spec PyProof.Rows L2 L3 MT
end JT
end
section
namespace TX
open PySem PySem.Spec PyProof.Rows L2 Builtin Builtin.Str
abbrev SP:Str:=Str.ofString " "
abbrev NL:Str:=Str.ofString "\n"
abbrev CO:Str:=Str.ofString ":"
theorem Dy:SP=⟨#[32]⟩:=by decide+kernel
theorem yf:NL=⟨#[10]⟩:=by decide+kernel
theorem Fj:CO=⟨#[58]⟩:=by decide+kernel
def jn(c:Nat):List (List Nat)->List Nat
 | []=>[]
 | [x]=>x
 | x ::y ::r=>x++c ::jn c (y ::r)
theorem lQ(c:Nat):∀l:List Str,(Str.join ⟨#[c]⟩ l).cps.toList=jn c (l.map fun s=>s.cps.toList)
 | []=>rfl
 | [x]=>rfl
 | x ::y ::r=>by
   show(x++(⟨#[c]⟩:Str)++Str.join ⟨#[c]⟩ (y ::r)).cps.toList=_;rw[jd,jd,lQ c (y ::r),List.append_assoc];rfl
theorem Ai{c:Nat}:∀{x x' a b:List Nat},c ∉ x->c ∉ x'->x++c ::a=x'++c ::b->x=x'/\a=b
 | [],[],a,b,_,_,h=>by cases h;exact⟨rfl,rfl⟩
 | [],y ::ys,a,b,_,h2,h=>by
   have:c=y:=(List.cons.inj h).1;exact absurd (by rw[this];exact List.mem_cons_self) h2
 | y ::ys,[],a,b,h1,_,h=>by
   have:y=c:=(List.cons.inj h).1;exact absurd (by rw[this];exact List.mem_cons_self) h1
 | y ::ys,z ::zs,a,b,h1,h2,h=>by
   obtain⟨e1,e2⟩:=List.cons.inj h;obtain⟨e3,e4⟩:=Ai (fun q=>h1 (List.mem_cons_of_mem _ q)) (fun q=>h2 (List.mem_cons_of_mem _ q)) e2
   exact⟨by rw[e1,e3],e4⟩
theorem Dq{c:Nat}:∀{l l':Y9},l≠[]->l'≠[]->(∀x∈l,c ∉ x)->(∀x∈l',c ∉ x)->jn c l=jn c l'->l=l'
 | [],_,h,_,_,_,_=>absurd rfl h
 | _,[],_,h,_,_,_=>absurd rfl h
 | [x],[y],_,_,_,_,e=>by rw[show x=y from e]
 | [x],y ::z ::r,_,_,h1,_,e=>by
   have e:x=y++c ::jn c (z ::r):=e;exact absurd (by rw[e];simp) (h1 x List.mem_cons_self)
 | y ::z ::r,[x],_,_,_,h2,e=>by
   have e:y++c ::jn c (z ::r)=x:=e;exact absurd (by rw[<-e];simp) (h2 x List.mem_cons_self)
 | x ::x2 ::r,y ::y2 ::s,_,_,h1,h2,e=>by
   obtain⟨e1,e2⟩:=Ai (h1 x List.mem_cons_self) (h2 y List.mem_cons_self) (show x++c ::jn c (x2 ::r)=y++c ::jn c (y2 ::s) from e)
   rw[e1,Dq (by simp) (by simp) (fun z hz=>h1 z (List.mem_cons_of_mem _ hz)) (fun z hz=>h2 z (List.mem_cons_of_mem _ hz)) e2]
theorem map_inj{α β:Type}{f:α->β}(hf:∀a b,f a=f b->a=b):∀{l l':List α},l.map f=l'.map f->l=l'
 | [],[],_=>rfl
 | [],_ ::_,h=>by cases h
 | _ ::_,[],h=>by cases h
 | a ::l,b ::l',h=>by
   obtain⟨e1,e2⟩:=List.cons.inj h;rw[hf a b e1,map_inj hf e2]
theorem tY{c:Nat}{l:List Str}(rV:l≠[])(hf:∀p∈l,c ∉ p.cps.toList):Txt.split (Str.join ⟨#[c]⟩ l) ⟨#[c]⟩=l:=by
 have h1:=StrLaws.join_split (Str.join ⟨#[c]⟩ l) ⟨#[c]⟩;have h2:=StrLaws.split_free (Str.join ⟨#[c]⟩ l) c;have h3:=split_pos (Str.join ⟨#[c]⟩ l) ⟨#[c]⟩;generalize Txt.split (Str.join ⟨#[c]⟩ l) ⟨#[c]⟩=m at h1 h2 h3;have h4:jn c (m.map fun s=>s.cps.toList)=jn c (l.map fun s=>s.cps.toList):=by rw[<-lQ,<-lQ,h1]
 refine map_inj (f:=fun s:Str=>s.cps.toList) (fun a b e=>om e) (Dq (c:=c) ?_ ?_ ?_ ?_ h4)
 .intro q;rw [List.map_eq_nil_iff] at q;rw [q] at h3;simp at h3
 .intro q;rw [List.map_eq_nil_iff] at q;exact rV q
 .intro x hx;obtain⟨s,hs,rfl⟩:=List.mem_map.mp hx;exact h2 s hs
 .intro x hx;obtain⟨s,hs,rfl⟩:=List.mem_map.mp hx;exact hf s hs
theorem yj{x:Str}{c:Nat}(h:x.length<=10000000):pe (.str x) [.str ⟨#[c]⟩]= .ok (.lst ((Txt.split x ⟨#[c]⟩).map .str)):=by
 have hz:sizeLine=16777216:=sizeLine_eq;have h1:=split_le x ⟨#[c]⟩;have h2:=StrLaws.occ_length_le x ⟨#[c]⟩ 0 x.length (x.length+1);unfold pe;refine b6 _ ⟨rfl,by omega,by omega,?_⟩
 unfold partsBetween;rw[List.length_map,List.length_zip];simp;omega
abbrev BX:List Str:=[Str.ofString "in",Str.ofString "gate",Str.ofString "sure",Str.ofString "out",Str.ofString "not",Str.ofString "and",Str.ofString "or",Str.ofString "xor",Str.ofString "vote"]
def low(s:Str):Bool:=s.cps.toList.all fun c=>decide (97<=c/\c<=122)
def isNm(s:Str):Bool:=decide (1<=s.length) && (decide (s.length<=8) && (!BX.contains s && low s))
theorem e8{s:Str}:isNm s=true↔1<=s.length/\s.length<=8/\s ∉ BX/\∀c∈s.cps.toList,97<=c/\c<=122:=by
 unfold isNm low;simp only[Bool.and_eq_true,decide_eq_true_eq,Bool.not_eq_true',List.all_eq_true];constructor
 .rintro⟨h1,h2,h3,h4⟩;refine⟨h1,h2,fun q=>?_,h4⟩
  have h5:=List.contains_iff_mem.mpr q;rw[h3] at h5;cases h5
 .rintro⟨h1,h2,h3,h4⟩;refine⟨h1,h2,?_,h4⟩;cases h:BX.contains s with
  | false=>rfl
  | true=>exact absurd (List.contains_iff_mem.mp h) h3
abbrev He:Str:=Str.ofString "abcdefghijklmnopqrstuvwxyz"
theorem ve:He.cps.toList=(List.range 26).map (97+·):=by decide+kernel
theorem AG{c:Nat}:c∈He.cps.toList↔97<=c/\c<=122:=by
 rw[ve,List.mem_map];constructor
 .rintro⟨i,hi,rfl⟩;have:=List.mem_range.mp hi;omega
 .intro h;exact⟨c - 97,List.mem_range.mpr (by omega),by omega⟩
theorem JU(c:Nat):zu (.str ⟨#[c]⟩) (.str He)= .ok (.bl (decide (97<=c/\c<=122))):=by
 show R.ok (D.bl (!(occurrences He ⟨#[c]⟩ 0 He.length 1).isEmpty))=_;rw[StrLaws.found_one];congr 2;by_cases h:97<=c/\c<=122
 .rw [decide_eq_true h,decide_eq_true (AG.mpr h)]
 .rw [decide_eq_false h,decide_eq_false fun q=>h (AG.mp q)]
theorem BJ{x:Str}{c:Nat}(h:c ∉ x.cps.toList):jk x ⟨#[c]⟩=[x,Str.empty,Str.empty]:=by
 have h1:=StrLaws.found_one x c;rw[decide_eq_false h] at h1;unfold jk;cases ho:occurrences x ⟨#[c]⟩ 0 x.length 1 with
 | nil=>rfl
 | cons i r=>rw [ho] at h1;cases h1
theorem Bw{x a b:Str}{c:Nat}(h:c ∉ a.cps.toList)(e:x=a++⟨#[c]⟩++b):jk x ⟨#[c]⟩=[a,⟨#[c]⟩,b]:=by
 have Gu:x.cps.toList=a.cps.toList++c ::b.cps.toList:=by rw[e,jd,jd,List.append_assoc];rfl
 have hL:x.length=a.length+(b.length+1):=by
  show x.cps.size=a.cps.size+(b.cps.size+1);rw[<-Array.length_toList,<-Array.length_toList,<-Array.length_toList,Gu];simp
 have hat:∀i,StrLaws.At x ⟨#[c]⟩ x.length i↔x.cps.toList[i]? =some c:=fun i=>StrLaws.subAt_one x c i
 unfold jk;have ha:x.cps.toList[a.length]? =some c:=by
  rw[Gu,List.getElem?_append_right (by show a.cps.toList.length<=a.cps.size;simp)]
  show(c ::b.cps.toList)[a.cps.size - a.cps.toList.length]? =_;simp
 rcases StrLaws.occ_head x ⟨#[c]⟩ 1 (Nat.le_refl _) with⟨_,h1⟩ | ⟨i,r,e1,h1,h2⟩
 .exact absurd ((hat _).mpr ha) (h1 _)
 .have hi:i=a.length:=by
   have h3:¬a.length < i:=fun q=>h2 _ q ((hat _).mpr ha)
   by_cases q:i < a.length
   .have h4:=(hat i).mp h1;rw[Gu,List.getElem?_append_left (by show i < a.cps.toList.length;rw [Array.length_toList];exact q)] at h4
    exact absurd (List.mem_of_getElem? h4) h
   .omega
  rw[e1,hi];have s1:strSub x 0 a.length=a:=om (by
   show(x.cps.extract 0 a.length).toList=_;rw[Array.toList_extract,Gu];show(List.take (a.cps.size - 0) (List.drop 0 (a.cps.toList++_)))=_;simp)
  have s2:strSub x (a.length+(⟨#[c]⟩:Str).length) x.length=b:=om (by
   show(x.cps.extract (a.length+1) x.length).toList=_;rw[Array.toList_extract,Gu,hL];show(List.take (a.cps.size+(b.cps.size+1) - (a.cps.size+1)) (List.drop (a.cps.size+1) (a.cps.toList++c ::b.cps.toList)))=_;rw[show a.cps.size+1=(a.cps.toList++[c]).length by simp,show a.cps.toList++c ::b.cps.toList=(a.cps.toList++[c])++b.cps.toList by simp,List.drop_left,List.take_of_length_le (by simp;omega)])
  simp only;rw[s1,s2]
abbrev Lb:List Str:=[Str.ofString "0",Str.ofString "1",Str.ofString "2",Str.ofString "3",Str.ofString "4",Str.ofString "5",Str.ofString "6",Str.ofString "7",Str.ofString "8",Str.ofString "9"]
def nS(w:Str):Bool:=isNm ((jk w CO).getD 0 Str.empty) && (((jk w CO).getD 1 Str.empty==Str.empty) || Lb.contains ((jk w CO).getD 2 Str.empty))
theorem JD{s:Str}(h:isNm s=true){c:Nat}(hc:c < 97\/122 < c):c ∉ s.cps.toList:=fun q=>by
 have:=(e8.mp h).2.2.2 c q;omega
theorem EG(w c:Str):∃a b d,jk w c=[a,b,d]:=by
 unfold jk;split
 .exact⟨_,_,_,rfl⟩
 .exact⟨_,_,_,rfl⟩
abbrev Gm:List (Str × Int):=[(Str.ofString "1",1),(Str.ofString "2",2),(Str.ofString "3",3)]
abbrev ze:List (Str × Int):=[(Str.ofString "not",1),(Str.ofString "and",2),(Str.ofString "or",2),(Str.ofString "xor",2),(Str.ofString "vote",3)]
def wd(ws:List Str)(i:Nat):Str:=ws.getD i Str.empty
def EJ(ws:List Str):Bool:=decide (ws.length=3) && ((wd ws 0==Str.ofString "in") && (isNm (wd ws 1) && (Gm.lookup (wd ws 2)).isSome))
def Dp(ws:List Str):Bool:=(decide (4<=ws.length) && [Str.ofString "gate",Str.ofString "sure"].contains (wd ws 0)) && ((isNm (wd ws 1) && (ze.lookup (wd ws 2)).isSome) && (decide (((ws.drop 3).length:Int)=(ze.lookup (wd ws 2)).getD 0) && (ws.drop 3).all nS))
def Jx(ws:List Str):Bool:=(decide (3<=ws.length) && ((wd ws 0==Str.ofString "out") && isNm (wd ws 1))) && (decide ((ws.drop 2).length<=3) && (ws.drop 2).all nS)
section
variable {f g:FD} {p q:ao->R Bool} {δ:ao} {a b:Bool}
theorem k9(h:p δ= .ok a)(h2:a=false->q δ= .ok b):yM p q δ= .ok (a || b):=by
 unfold yM;rw [h,R.aG];cases a with
 | true=>rfl
 | false=>rw [if_neg (by decide)];exact h2 rfl
theorem qw(h:p δ= .ok a)(h2:a=true->q δ= .ok b):rQ p q δ= .ok (a && b):=by
 unfold rQ;rw [h,R.aG];cases a with
 | true=>rw [if_pos rfl];exact h2 rfl
 | false=>rfl
theorem oq(h:f δ= .ok (.bl a))(h2:a=true->g δ= .ok (.bl b)):uD f g δ= .ok (.bl (a && b)):=by
 unfold uD;rw [DQ h,R.aG];cases a with
 | true=>rw [if_pos rfl];exact h2 rfl
 | false=>rfl
theorem Ff(h:f δ= .ok (.bl a))(h2:a=false->g δ= .ok (.bl b)):Mx f g δ= .ok (.bl (a || b)):=by
 unfold Mx;rw [DQ h,R.aG];cases a with
 | true=>rfl
 | false=>rw [if_neg (by decide)];exact h2 rfl
theorem AW(h:p δ= .ok a):BN p δ= .ok (!a):=by unfold BN;rw [h];rfl
theorem pW(h:f δ= .ok (.bl a)):wq f δ= .ok a:=by unfold wq;rw [h];rfl
theorem Be{c:ao->R Bool}{G:FS}(h:c δ= .ok a)(h2:a=false->G δ= .ok (.rt (.bl b))):bW (qK c (ee (eC (.bl false))) j9) G δ= .ok (.rt (.bl (!a && b))):=by
 cases a with
 | true=>exact NT.eE (jW h rfl)
 | false=>exact aF (jh h rfl) (h2 rfl)
theorem uZ{ws:List Str}{i:Nat}(h:i < ws.length):eM (.lst (ws.map .str)) (.int i)= .ok (.str (wd ws i)):=by
 refine NT.p9 ?_;rw[List.getElem?_map,List.getElem?_eq_getElem h];unfold wd;rw[List.getD_eq_getElem?_getD,List.getElem?_eq_getElem h];rfl
theorem pH(x y:Str):nj (.str x) (.str y)= .ok (.bl (x==y)):=rfl
theorem Kn(x y:Str):Hr (.str x) (.str y)= .ok (.bl (!(x==y))):=rfl
theorem DT(x:Str)(ss:List Str):zu (.str x) (.tup (ss.map .str))= .ok (.bl (ss.contains x)):=by
 show((match strs? (ss.map D.str) with | some ss=>R.ok (ss.contains x) | none=> .no).bind _)=_
 rw[L2.strs_map];rfl
theorem zP(x:Str)(ss:List Str):zu (.str x) (.lst (ss.map .str))= .ok (.bl (ss.contains x)):=by
 show((match strs? (ss.map D.str) with | some ss=>R.ok (ss.contains x) | none=> .no).bind _)=_
 rw[L2.strs_map];rfl
theorem Km(x:Str)(ss:List Str):ml (.str x) (.tup (ss.map .str))= .ok (.bl (!ss.contains x)):=by
 show((match strs? (ss.map D.str) with | some ss=>R.ok (ss.contains x) | none=> .no).bind _)=_
 rw[L2.strs_map];rfl
theorem DO(x:Str)(ss:List Str):ml (.str x) (.lst (ss.map .str))= .ok (.bl (!ss.contains x)):=by
 show((match strs? (ss.map D.str) with | some ss=>R.ok (ss.contains x) | none=> .no).bind _)=_
 rw[L2.strs_map];rfl
theorem DW(bs:List Bool):D0 [.lst (bs.map D.bl)]= .ok (.bl (bs.all id)):=by
 show(match bls? (bs.map D.bl) with | some bs=>R.ok (D.bl (bs.all id)) | none=> .no)=_
 rw[Aw]
theorem len_str{x:Str}(h:x.length<=10000000):ph [.str x]= .ok (MT.nI x.length):=by
 have hz:sizeLine=16777216:=sizeLine_eq;exact b6 _ (by omega)
theorem r6{ds:List D}{k:Nat}(h:k<=ds.length):MG (.lst ds) (some (k:Int)) none= .ok (.lst (ds.drop k)):=by
 show R.ok (D.lst (L2.cutD ds (some (k:Int)) none))=_;unfold L2.cutD;rw[HT.An,HT.xY,Nat.min_eq_left h,List.take_of_length_le (by rw[List.length_drop];omega)]
end
end TX
end
section
namespace TX
open PySem PySem.Spec PyProof.Rows L2 L3 MT
structure Dr where
 ins:Y7
 gs:List Gt
 os:Y8
 nm:List Str
 nu:List Str
def Dr.on(d:Dr):List Str:=d.os.map (·.1)
def xg(l:List Str):List (Key × D):=l.map fun n=>(Sum.inr n, .bl true)
def Gg(k:Nat)(l:List Str):List (Key × D):=(l.zipIdx k).map fun p=>(Sum.inr p.1,nI p.2)
abbrev MB(l:List Str):List (Key × D):=Gg 0 l
theorem wo(l:List Str):(xg l).length=l.length:=by unfold xg;simp
theorem wU(k:Nat)(l:List Str):(Gg k l).length=l.length:=by unfold Gg;simp
theorem FK(k:Nat)(y:Str)(l:List Str):Gg k (y ::l)=(Sum.inr y,nI k) ::Gg (k+1) l:=rfl
theorem A3(y x:Str):decide ((Sum.inr y:Key)=Sum.inr x)=(y==x):=by
 by_cases h:y=x
 .subst h;simp
 .rw [beq_eq_false_iff_ne.mpr h];exact decide_eq_false fun q=>h (Sum.inr.inj q)
theorem p_(x:Str):∀l:List Str,((xg l).find? fun kv=>decide (kv.1=Sum.inr x)).map (·.2)=if x∈l then some (.bl true) else none
 | []=>rfl
 | y ::l=>by
   show(((Sum.inr y,D.bl true) ::xg l).find? fun kv=>decide (kv.1=Sum.inr x)).map (·.2)=_
   rw[List.find?_cons];simp only[A3];by_cases h:y=x
   .subst h;simp
   .rw [beq_eq_false_iff_ne.mpr h];simp only;rw[p_ x l];have:x∈y ::l↔x∈l:=by simp [Ne.symm h]
    simp only[this]
def idx(l:List Str)(x:Str):Option Nat:=l.findIdx? (·==x)
theorem sQ(x:Str):∀(k:Nat) (l:List Str),((Gg k l).find? fun kv=>decide (kv.1=Sum.inr x)).map (·.2)=(idx l x).map fun i=>nI (k+i)
 | k,[]=>rfl
 | k,y ::l=>by
   rw[FK,List.find?_cons];simp only[A3];unfold idx;rw[List.findIdx?_cons];by_cases h:y=x
   .subst h;simp
   .rw [beq_eq_false_iff_ne.mpr h];simp only;rw[sQ x (k+1) l];unfold idx;simp only[Bool.false_eq_true,if_false,Option.map_map];congr 1;funext i;show nI (k+1+i)=nI (k+(i+1));congr 1;omega
theorem xm{l:List Str}:(idx l x).isSome=l.contains x:=by
 unfold idx;rw[List.findIdx?_isSome];rw[Bool.eq_iff_iff,List.any_eq_true,List.contains_iff_mem];exact⟨fun⟨y,h1,h2⟩=>by rw[<-beq_iff_eq.mp h2];exact h1,fun h=>⟨x,h,beq_self_eq_true x⟩⟩
theorem AM{aw:List (Key × D)}{d:D}(h:((aw.find? fun kv=>decide (kv.1=Sum.inr x)).map (·.2))=none):pq aw (Sum.inr x) d=aw++[(Sum.inr x,d)]:=by
 unfold pq;rw[if_neg];intro q;obtain⟨kv,h1,h2⟩:=List.any_eq_true.mp q;have h3:aw.find? (fun kv=>decide (kv.1=Sum.inr x))=none:=by
  cases hf:aw.find? (fun kv=>decide (kv.1=Sum.inr x)) with
  | none=>rfl
  | some z=>rw [hf] at h;cases h
 exact absurd h2 (by have:=List.find?_eq_none.mp h3 kv h1;exact this)
theorem vL{l:List Str}(h:x ∉ l):pq (xg l) (Sum.inr x) (.bl true)=xg (l++[x]):=by
 rw[AM (by rw[p_,if_neg h])]
 unfold xg;simp
theorem AR{l:List Str}(h:x ∉ l):pq (MB l) (Sum.inr x) (nI l.length)=MB (l++[x]):=by
 have h1:idx l x=none:=by
  have:=xm (l:=l) (x:=x);rw[show l.contains x=false by cases q:l.contains x with | false=>rfl | true=>exact absurd (List.contains_iff_mem.mp q) h] at this
  cases q:idx l x with
  | none=>rfl
  | some i=>rw [q] at this;cases this
 rw[AM (by rw[sQ,h1];rfl)]
 show Gg 0 l++_=Gg 0 (l++[x]);unfold Gg;rw[List.zipIdx_append,List.map_append];simp
def lT:Nat->Str | 0=>Str.ofString "0" | 1=>Str.ofString "1" | _=>Str.ofString "2"
def qu(x:Str)(w:Nat):List Str:=if w=1 then [x] else(List.range w).map fun f=>x++CO++lT f
def base(w:Str):Str:=(jk w CO).getD 0 Str.empty
theorem r9(h:isNm x=true):base x=x:=by
 unfold base;rw[Fj,BJ (JD h (by omega))];rfl
theorem ES{x f:Str}(h:isNm x=true):base (x++CO++f)=x:=by
 unfold base;rw[show jk (x++CO++f) CO=[x,CO,f] by rw[Fj];exact Bw (JD h (by omega)) rfl];rfl
theorem sL(h:isNm x=true){w:Nat}:∀y∈qu x w,base y=x:=fun y hy=>by
 unfold qu at hy;split at hy
 .rw [List.mem_singleton.mp hy];exact r9 h
 .obtain⟨f,_,rfl⟩:=List.mem_map.mp hy;exact ES h
theorem D8{a b:Nat}(ha:a < 3)(hb:b < 3)(h:lT a=lT b):a=b:=by
 match a,b,ha,hb with
 | 0,0,_,_=>rfl
 | 1,1,_,_=>rfl
 | 2,2,_,_=>rfl
 | 0,1,_,_=>exact absurd h (by decide+kernel)
 | 0,2,_,_=>exact absurd h (by decide+kernel)
 | 1,0,_,_=>exact absurd h (by decide+kernel)
 | 1,2,_,_=>exact absurd h (by decide+kernel)
 | 2,0,_,_=>exact absurd h (by decide+kernel)
 | 2,1,_,_=>exact absurd h (by decide+kernel)
theorem HH{a b c:Str}(h:a++b=a++c):b=c:=om (by
 have:=congrArg (fun s:Str=>s.cps.toList) h
 simp only[jd] at this;exact List.append_cancel_left this)
theorem EM{w:Nat}(hw:w<=3):(qu x w).Nodup:=by
 unfold qu;split
 .simp
 .rw [List.nodup_iff_pairwise_ne,List.pairwise_map];refine(List.nodup_iff_pairwise_ne.mp (List.nodup_range (n:=w))).imp_of_mem ?_;intro a b ha hb rV e;exact rV (D8 (Nat.lt_of_lt_of_le (List.mem_range.mp ha) hw) (Nat.lt_of_lt_of_le (List.mem_range.mp hb) hw) (HH e))
theorem rZ{w:Nat}:(qu x w).length=w:=by
 unfold qu;split
 .rename_i h;rw [h];rfl
 .simp
structure mU (d:Dr):Prop where
 li:d.ins.length<=6
 lg:d.gs.length<=60
 lo:d.os.length<=6
 ln:d.nm.length<=66
 lw:d.nu.length<=78
 li3:d.nm.length=d.ins.length+d.gs.length
 lw3:d.nu.length<=3*d.ins.length+d.gs.length
 ok:∀n∈d.nm,isNm n=true
 bs:∀w∈d.nu,base w∈d.nm
 nd:d.nu.Nodup
def kO(d:Dr)(x:Str)(w:Nat):Except Nat Dr:=
 if d.gs≠[]\/d.os≠[] then .error 4 else if x∈d.nm then .error 5 else if 6<=d.ins.length then .error 6 else .ok {d with ins:=d.ins++[(x,w)],nm:=d.nm++[x],nu:=d.nu++qu x w}
def eL(nu:List Str):List Str->Option (List Nat)
 | []=>some []
 | w ::ws=>match idx nu w with | some i=>(eL nu ws).map (i ::·) | none=>none
def addGate(d:Dr)(x:Str)(k:Nat)(ws:List Str)(s:Bool):Except Nat Dr:=
 if d.os≠[] then .error 4 else if x∈d.nm then .error 5 else if 60<=d.gs.length then .error 6 else match eL d.nu ws with
 | none=> .error 7
 | some l=> .ok {d with gs:=d.gs++[(k,l,s)],nm:=d.nm++[x],nu:=d.nu++[x]}
def gz(d:Dr)(x:Str)(ws:List Str):Except Nat Dr:=
 if x∈d.on then .error 5 else if 6<=d.os.length then .error 6 else match eL d.nu ws with
 | none=> .error 7
 | some l=> .ok {d with os:=d.os++[(x,l)]}
def x6(w:Str):Nat:=([Str.ofString "not",Str.ofString "and",Str.ofString "or",Str.ofString "xor",Str.ofString "vote"].findIdx? (·==w)).getD 0
def JF(w:Str):Nat:=((Gm.lookup w).getD 0).toNat
def eZ(d:Dr)(ws:List Str):Except Nat Dr:=
 if EJ ws=true then kO d (wd ws 1) (JF (wd ws 2))
 else if Dp ws=true then addGate d (wd ws 1) (x6 (wd ws 2)) (ws.drop 3) (wd ws 0==Str.ofString "sure")
 else if Jx ws=true then gz d (wd ws 1) (ws.drop 2)
 else .error 3
def o3(d:Dr):List Str->Except Nat Dr
 | []=> .ok d
 | r ::rs=>match eZ d (Txt.split r SP) with | .ok d'=>o3 d' rs | .error c=> .error c
def d0:Dr:=⟨[],[],[],[],[]⟩
def sZ(rows:List Str):Except Nat Dr:=
 if 80 < rows.length then .error 2 else match o3 d0 rows with
 | .error c=> .error c
 | .ok d=>if d.ins=[]\/d.os=[] then .error 8 else .ok d
theorem Jg:mU d0:=⟨by simp [d0],by simp [d0],by simp [d0],by simp [d0],by simp [d0],rfl,by simp [d0],by simp [d0],by simp [d0],by simp [d0]⟩
theorem DP(h:(Gm.lookup w).isSome=true):1<=JF w/\JF w<=3/\Gm.lookup w=some (JF w:Int):=by
 obtain⟨n,hn⟩:=Option.isSome_iff_exists.mp h;unfold JF;rw[hn];have:n=1\/n=2\/n=3:=by
  unfold Gm at hn;simp only[List.lookup_cons,List.lookup_nil] at hn;split at hn
  .cases hn;exact .inl rfl
  .split at hn
   .cases hn;exact .inr (.inl rfl)
   .split at hn
    .cases hn;exact .inr (.inr rfl)
    .cases hn
 rcases this with rfl | rfl | rfl <;> exact⟨by decide,by decide,rfl⟩
theorem D2(h:(ze.lookup w).isSome=true):kS (x6 w)=w/\x6 w<=4/\ze.lookup w=some ((ar (x6 w):Nat):Int):=by
 obtain⟨n,hn⟩:=Option.isSome_iff_exists.mp h;unfold ze at hn;simp only[List.lookup_cons,List.lookup_nil] at hn;split at hn
 .rename_i q;rw [beq_iff_eq.mp q];exact⟨by decide+kernel,by decide+kernel,by decide+kernel⟩
 .split at hn
  .rename_i q;rw [beq_iff_eq.mp q];exact⟨by decide+kernel,by decide+kernel,by decide+kernel⟩
  .split at hn
   .rename_i q;rw [beq_iff_eq.mp q];exact⟨by decide+kernel,by decide+kernel,by decide+kernel⟩
   .split at hn
    .rename_i q;rw [beq_iff_eq.mp q];exact⟨by decide+kernel,by decide+kernel,by decide+kernel⟩
    .split at hn
     .rename_i q;rw [beq_iff_eq.mp q];exact⟨by decide+kernel,by decide+kernel,by decide+kernel⟩
     .cases hn
theorem oA{d:Dr}(D:mU d)(hx:x ∉ d.nm)(hy:base y=x):y ∉ d.nu:=fun q=>hx (by rw[<-hy];exact D.bs y q)
theorem E7{d d':Dr}(D:mU d){w:Nat}(hx:isNm x=true)(hw:w<=3)(h:kO d x w= .ok d'):mU d':=by
 unfold kO at h;split at h
 .cases h
 .rename_i h1;split at h
  .cases h
  .rename_i h2;split at h
   .cases h
   .rename_i h3;cases h;have hg:d.gs=[]:=by
     cases q:d.gs with
     | nil=>rfl
     | cons a b=>exact absurd (.inl (by rw[q];simp)) h1
    have:=D.li;have:=D.lw3;have:=D.li3;have hl:(qu x w).length=w:=rZ;have hg0:d.gs.length=0:=by rw[hg];rfl
    refine⟨by simp;omega,D.lg,D.lo,by simp;omega,by simp;omega,by simp;omega,by simp;omega,fun n hn=>?_,fun y hy=>?_,?_⟩
    .rcases List.mem_append.mp hn with z | z
     .exact D.ok n z
     .rw [List.mem_singleton.mp z];exact hx
    .rcases List.mem_append.mp hy with z | z
     .exact List.mem_append_left _ (D.bs y z)
     .rw [sL hx y z];simp
    .exact List.nodup_append.mpr ⟨D.nd,EM hw,fun a ha b hb e=>oA D h2 (sL hx b hb) (by rw[<-e];exact ha)⟩
theorem yQ{d d':Dr}(D:mU d){k:Nat}{ws:List Str}{s:Bool}(hx:isNm x=true)(h:addGate d x k ws s= .ok d'):mU d':=by
 unfold addGate at h;split at h
 .cases h
 .split at h
  .cases h
  .rename_i h2;split at h
   .cases h
   .rename_i h3;split at h
    .cases h
    .rename_i l hl;cases h;have:=D.li;have:=D.lw3;have:=D.li3;have:=D.lg;refine⟨D.li,by simp;omega,D.lo,by simp;omega,by simp;omega,by simp;omega,by simp;omega,fun n hn=>?_,fun y hy=>?_,?_⟩
     .rcases List.mem_append.mp hn with z | z
      .exact D.ok n z
      .rw [List.mem_singleton.mp z];exact hx
     .rcases List.mem_append.mp hy with z | z
      .exact List.mem_append_left _ (D.bs y z)
      .rw [List.mem_singleton.mp z,r9 hx];simp
     .exact List.nodup_append.mpr ⟨D.nd,by simp,fun a ha b hb e=>oA D h2 (y:=b) (by rw[List.mem_singleton.mp hb];exact r9 hx) (by rw[<-e];exact ha)⟩
theorem Cd{d d':Dr}(D:mU d){ws:List Str}(h:gz d x ws= .ok d'):mU d':=by
 unfold gz at h;split at h
 .cases h
 .split at h
  .cases h
  .rename_i h3;split at h
   .cases h
   .rename_i l hl;cases h;have:=D.lo;exact⟨D.li,D.lg,by simp;omega,D.ln,D.lw,D.li3,D.lw3,D.ok,D.bs,D.nd⟩
theorem rY{d d':Dr}(D:mU d){ws:List Str}(h:eZ d ws= .ok d'):mU d':=by
 unfold eZ at h;split at h
 .rename_i h1;unfold EJ at h1;simp only[Bool.and_eq_true] at h1;exact E7 D h1.2.2.1 (DP h1.2.2.2).2.1 h
 .split at h
  .rename_i h1;unfold Dp at h1;simp only[Bool.and_eq_true] at h1;exact yQ D h1.2.1.1 h
  .split at h
   .exact Cd D h
   .cases h
end TX
end
section
namespace TX
open PySem PySem.Spec PyProof.Rows L2 L3 MT JT
structure Lw (n:Nat) (s:Str):Prop where
 len:s.length<=n
 low:∀c∈s.cps.toList,97<=c/\c<=122
def yY(i:Nat):Str:=⟨#[97+i]⟩
theorem GX:He.length=26:=by decide+kernel
theorem HG{i:Nat}(h:i < 26):eM (.str He) (nI i)= .ok (.str (yY i)):=by
 have hz:sizeLine=16777216:=sizeLine_eq;refine KQ (by rw[GX];omega) ?_
 rw[ve,K5 (by omega) (by simp;omega)]
 simp [yY]
theorem Ac{sep:Str}{ss:List Str}(h:(ss.map (·.length)).sum+ss.length*sep.length<=16777216):mM (.str sep) [.lst (ss.map .str)]= .ok (.str (Str.join sep ss)):=by
 unfold mM;simp only[L2.strs_map];rw[joinOk_of h];rfl
theorem HW{ss:List Str}(h:∀s∈ss,PyData.strOk s=true):Gk (.lst (ss.map .str)) (.lst [])= .ok ss.isEmpty:=by
 have hp:∀ss:List Str,gr (ss.map .str)=true:=by
  intro ss
  induction ss with
  | nil=>unfold gr;rfl
  | cons s ss ih=>rw [List.map_cons];unfold gr;rw [ih];unfold cH;rfl
 have ht:∀ss:List Str,km (ss.map .str)=ss.map PyData.str:=by
  intro ss
  induction ss with
  | nil=>unfold km;rfl
  | cons s ss ih=>rw [List.map_cons,List.map_cons];unfold km;rw [ih];unfold toPy;rfl
 have hl:∀ss:List Str,(∀s∈ss,PyData.strOk s=true)->PyData.canLayAll0 (ss.map PyData.str)=true:=by
  intro ss
  induction ss with
  | nil=>intro _;rfl
  | cons s ss ih=>intro h;rw [List.map_cons];unfold PyData.canLayAll0;rw [ih fun t ht=>h t (List.mem_cons_of_mem _ ht)];unfold PyData.canLay0;rw [h s List.mem_cons_self];rfl
 have hd:∀ss:List Str,PyData.depthAll (ss.map PyData.str)=0:=by
  intro ss
  induction ss with
  | nil=>rfl
  | cons s ss ih=>rw [List.map_cons];unfold PyData.depthAll;rw [ih];rfl
 have hsh:SeqAt.shaped (toPy (.lst (ss.map .str)))=true:=by
  unfold toPy SeqAt.shaped;rw[ht];unfold PyData.canLay0 PyData.depth;rw[hl ss h,hd];rfl
 have hpd:cH (.lst (ss.map .str))=true:=by unfold cH;exact hp ss
 have rV:Gk (.lst (ss.map .str)) (.lst [])=R.aU (cH (.lst (ss.map .str)) && cH (.lst []) && SeqAt.shaped (toPy (.lst (ss.map .str))) && SeqAt.shaped (toPy (.lst []))) (.ok (PyData.eqv (toPy (.lst (ss.map .str))) (toPy (.lst [])))):=rfl;rw[rV,hpd,hsh,show cH (.lst [])=true from rfl,show SeqAt.shaped (toPy (.lst []))=true from rfl]
 show R.ok _=_;unfold toPy;rw[ht];cases ss with
 | nil=>rfl
 | cons s ss=>rfl
theorem Io{ss:List Str}(h:∀s∈ss,PyData.strOk s=true):Hr (.lst (ss.map .str)) (.lst [])= .ok (.bl (!ss.isEmpty)):=by
 unfold Hr;rw [HW h];rfl
def Yd:List Str:=(List.range 80).map fun n=>⟨#[122,122,97+n / 26,97+n % 26]⟩
def YS:List Str:=(List.range 144).map fun n=>⟨#[121,97+n / 12,109+n % 12]⟩
def Ym(s:Str):Nat:=s.cps.toList.foldl (fun a c=>a*128+c) 0
abbrev YQ:Str:=Str.ofString "abcdefghijkl"
abbrev YK:Str:=Str.ofString "mnopqrstuvwx"
structure TN (ins:Y7) (gs:List Gt) (os:Y8):Prop where
 i1:1<=ins.length
 i6:ins.length<=6
 iw:∀x∈ins,1<=x.2/\x.2<=3
 ind:(ins.map (·.1)).Nodup
 inm:∀x∈ins,isNm x.1=true
 g60:gs.length<=60
 gok:∀(i:Nat) (x:Gt),gs[i]? =some x->Nm (Pk ins+i) x
 o1:1<=os.length
 o6:os.length<=6
 ond:(os.map (·.1)).Nodup
 onm:∀x∈os,isNm x.1=true
 ow:∀x∈os,1<=x.2.length/\x.2.length<=3/\∀w∈x.2,w < Pk ins+gs.length
end TX
end
section
namespace TX
open PySem PySem.Spec PyProof.Rows L2 L3 MT JT
structure GN (ins:Y7) (n:Nat) (gn:List Str):Prop where
 len:gn.length=n
 nd:gn.Nodup
 nm:∀s∈gn,isNm s=true
 dis:∀s∈gn,s ∉ ins.map (·.1)
def Us(ins:Y7):List Str:=ins.flatMap fun x=>qu x.1 x.2
def tx(W:List Str)(l:List Nat):List Str:=l.map fun w=>W.getD w Str.empty
def wS:Nat->Str | 1=>Str.ofString "1" | 2=>Str.ofString "2" | _=>Str.ofString "3"
def y6(x:Str × Nat):List Str:=[Str.ofString "in",x.1,wS x.2]
def CS(W:List Str)(g:Gt)(n:Str):List Str:=[if g.2.2 then Str.ofString "sure" else Str.ofString "gate",n,kS g.1]++tx W g.2.1
def CH(W:List Str)(o:Str × List Nat):List Str:=[Str.ofString "out",o.1]++tx W o.2
def Vr(ins:Y7)(gs:List Gt)(os:Y8)(gn:List Str):List (List Str):=ins.map y6++(gs.zip gn).map (fun p=>CS (Us ins++gn) p.1 p.2)++os.map (CH (Us ins++gn))
structure Wo (w:Str):Prop where
 len:w.length<=10
 cps:∀c∈w.cps.toList,33<=c/\c < 128
theorem Fc(h:isNm s=true):Wo s:=⟨by have:=(e8.mp h).2.1;omega,fun c hc=>by have:=(e8.mp h).2.2.2 c hc;omega⟩
theorem Ef{W:List Str}{l:List Nat}(h:∀w∈l,w < W.length):∀y∈tx W l,y∈W:=fun y hy=>by
 obtain⟨w,hw,rfl⟩:=List.mem_map.mp hy;rw[List.getD_eq_getElem?_getD,List.getElem?_eq_getElem (h w hw)];exact List.getElem_mem _
theorem Jm(k:Nat):Wo (kS k)/\(ze.lookup (kS k)).isSome=true/\(k<=4->x6 (kS k)=k/\ze.lookup (kS k)=some ((ar k:Nat):Int)):=by
 match k with
 | 0=>exact⟨⟨by decide+kernel,by decide+kernel⟩,by decide+kernel,fun _=>⟨by decide+kernel,by decide+kernel⟩⟩
 | 1=>exact⟨⟨by decide+kernel,by decide+kernel⟩,by decide+kernel,fun _=>⟨by decide+kernel,by decide+kernel⟩⟩
 | 2=>exact⟨⟨by decide+kernel,by decide+kernel⟩,by decide+kernel,fun _=>⟨by decide+kernel,by decide+kernel⟩⟩
 | 3=>exact⟨⟨by decide+kernel,by decide+kernel⟩,by decide+kernel,fun _=>⟨by decide+kernel,by decide+kernel⟩⟩
 | 4=>exact⟨⟨by decide+kernel,by decide+kernel⟩,by decide+kernel,fun _=>⟨by decide+kernel,by decide+kernel⟩⟩
 | n+5=>exact⟨⟨by show(Str.ofString "vote").length<=10;decide+kernel,by show ∀c∈(Str.ofString "vote").cps.toList,_;decide+kernel⟩,by show(ze.lookup (Str.ofString "vote")).isSome=true;decide+kernel,fun h=>by omega⟩
theorem Jl(w:Nat):Wo (wS w)/\(Gm.lookup (wS w)).isSome=true/\(1<=w->w<=3->JF (wS w)=w):=by
 match w with
 | 1=>exact⟨⟨by decide+kernel,by decide+kernel⟩,by decide+kernel,fun _ _=>by decide+kernel⟩
 | 2=>exact⟨⟨by decide+kernel,by decide+kernel⟩,by decide+kernel,fun _ _=>by decide+kernel⟩
 | 3=>exact⟨⟨by decide+kernel,by decide+kernel⟩,by decide+kernel,fun _ _=>by decide+kernel⟩
 | 0=>exact⟨⟨by show(Str.ofString "3").length<=10;decide+kernel,by show ∀c∈(Str.ofString "3").cps.toList,_;decide+kernel⟩,by show(Gm.lookup (Str.ofString "3")).isSome=true;decide+kernel,fun h=>by omega⟩
 | n+4=>exact⟨⟨by show(Str.ofString "3").length<=10;decide+kernel,by show ∀c∈(Str.ofString "3").cps.toList,_;decide+kernel⟩,by show(Gm.lookup (Str.ofString "3")).isSome=true;decide+kernel,fun _ h=>by omega⟩
theorem zF(s:Str)(h:(decide (s.length<=10) && s.cps.toList.all fun c=>decide (33<=c/\c < 128))=true):Wo s:=by
 rw[Bool.and_eq_true,List.all_eq_true] at h;exact⟨of_decide_eq_true h.1,fun c hc=>of_decide_eq_true (h.2 c hc)⟩
theorem DC{x:Str × Nat}(h:isNm x.1=true):∀w∈y6 x,Wo w:=fun w hw=>by
 unfold y6 at hw;simp only[List.mem_cons,List.not_mem_nil,or_false] at hw;rcases hw with rfl | rfl | rfl
 .exact zF _ (by decide+kernel)
 .exact Fc h
 .exact(Jl x.2).1
theorem EI{W:List Str}{g:Gt}(h:isNm n=true)(hW:∀y∈W,Wo y)(hg:∀w∈g.2.1,w < W.length):∀w∈CS W g n,Wo w:=fun w hw=>by
 unfold CS at hw;rcases List.mem_append.mp hw with z | z
 .simp only[List.mem_cons,List.not_mem_nil,or_false] at z;rcases z with rfl | rfl | rfl
  .split <;> exact zF _ (by decide+kernel)
  .exact Fc h
  .exact(Jm g.1).1
 .exact hW w (Ef hg w z)
theorem FN{W:List Str}{o:Str × List Nat}(h:isNm o.1=true)(hW:∀y∈W,Wo y)(hg:∀w∈o.2,w < W.length):∀w∈CH W o,Wo w:=fun w hw=>by
 unfold CH at hw;rcases List.mem_append.mp hw with z | z
 .simp only[List.mem_cons,List.not_mem_nil,or_false] at z;rcases z with rfl | rfl
  .exact zF _ (by decide+kernel)
  .exact Fc h
 .exact hW w (Ef hg w z)
theorem HI{d:Dr}{x:Str × Nat}(h:isNm x.1=true)(hw:1<=x.2/\x.2<=3):eZ d (y6 x)=kO d x.1 x.2:=by
 obtain⟨_,h2,h3⟩:=Jl x.2;have:EJ (y6 x)=true:=by
  show(decide _ && ((Str.ofString "in"==Str.ofString "in") && (isNm x.1 && (Gm.lookup (wS x.2)).isSome)))=true;rw[h,h2];rfl
 unfold eZ;rw[if_pos this];show kO d x.1 (JF (wS x.2))=_;rw[h3 hw.1 hw.2]
theorem Am{ws:List Str}(h:(w==Str.ofString "in")=false):EJ (w ::ws)=false:=by
 show(decide _ && ((w==Str.ofString "in") && _))=false;rw[h];simp
theorem Hs{d:Dr}{W:List Str}{g:Gt}(h:isNm n=true)(hk:g.1<=4)(hl:g.2.1.length=ar g.1)(hW:∀y∈tx W g.2.1,nS y=true):eZ d (CS W g n)=addGate d n g.1 (tx W g.2.1) g.2.2:=by
 obtain⟨_,h2,h3⟩:=Jm g.1;obtain⟨h3,h4⟩:=h3 hk;have h1:EJ (CS W g n)=false:=by
  unfold CS;refine Am ?_;split <;> decide+kernel
 have hg0:[Str.ofString "gate",Str.ofString "sure"].contains (if g.2.2 then Str.ofString "sure" else Str.ofString "gate")=true:=by split <;> decide+kernel
 have ha:1<=ar g.1:=by unfold ar;split <;> omega
 have htl:(tx W g.2.1).length=ar g.1:=by unfold tx;rw [List.length_map,hl]
 have h5:Dp (CS W g n)=true:=by
  show((decide (4<=(CS W g n).length) && [Str.ofString "gate",Str.ofString "sure"].contains (if g.2.2 then Str.ofString "sure" else Str.ofString "gate")) && ((isNm n && (ze.lookup (kS g.1)).isSome) && (decide (((tx W g.2.1).length:Int)=(ze.lookup (kS g.1)).getD 0) && (tx W g.2.1).all nS)))=true
  rw[hg0,h,h2,h4,htl,List.all_eq_true.mpr hW,decide_eq_true (by unfold CS;simp [htl];omega:4<=(CS W g n).length)]
  simp
 unfold eZ;rw[h1,if_neg (by decide),if_pos h5]
 show addGate d n (x6 (kS g.1)) (tx W g.2.1) ((if g.2.2 then Str.ofString "sure" else Str.ofString "gate")==Str.ofString "sure")=_
 rw[h3];congr 1;cases g.2.2 <;> decide+kernel
theorem IG{d:Dr}{W:List Str}{o:Str × List Nat}(h:isNm o.1=true)(hl:1<=o.2.length/\o.2.length<=3)(hW:∀y∈tx W o.2,nS y=true):eZ d (CH W o)=gz d o.1 (tx W o.2):=by
 have htl:(tx W o.2).length=o.2.length:=by unfold tx;rw [List.length_map]
 have h1:EJ (CH W o)=false:=Am (by decide+kernel)
 have h2:Dp (CH W o)=false:=by
  show((decide _ && [Str.ofString "gate",Str.ofString "sure"].contains (Str.ofString "out")) && _)=false;rw[show [Str.ofString "gate",Str.ofString "sure"].contains (Str.ofString "out")=false by decide+kernel];simp
 have h3:Jx (CH W o)=true:=by
  show((decide (3<=(CH W o).length) && ((Str.ofString "out"==Str.ofString "out") && isNm o.1)) && (decide ((tx W o.2).length<=3) && (tx W o.2).all nS))=true;rw[h,htl,List.all_eq_true.mpr hW,decide_eq_true (by unfold CH;simp [htl];omega:3<=(CH W o).length),decide_eq_true hl.2]
  simp
 unfold eZ;rw[h1,if_neg (by decide),h2,if_neg (by decide),if_pos h3]
 rfl
section
variable {ins:Y7} {gs:List Gt} {os:Y8} {gn:List Str}
end
end TX
end
section
namespace TX
open PySem PySem.Spec PyProof.Rows L2 L3 MT JT
theorem Hj(ds:List D):pZ (ds.map .d)= .d (.lst ds):=by unfold pZ;rw [qx]
theorem Fy{α:Type}{t:FG}{c:FB}{f:FX}{δ:DE}{S:aM}(a b:α->D):∀{xs:List α},(∀x∈xs,∃δ1,t (.d (a x)) δ=some δ1/\W3 (c δ1 S) (fun k S1=>k=true/\S1=S)/\W3 (f δ1 S) fun v S1=>v= .d (b x)/\S1=S)->W3 (lS t c f δ ((xs.map a).map .d) S) fun ys S1=>ys=(xs.map b).map .d/\S1=S
 | [],_=>W3.ok ⟨rfl,rfl⟩
 | x ::xs,h=>by
   obtain⟨δ1,h1,h2,h3⟩:=h x List.mem_cons_self;have ih:=Fy a b (t:=t) (c:=c) (f:=f) (δ:=δ) (S:=S) (xs:=xs) fun y hy=>h y (List.mem_cons_of_mem _ hy)
   simp only[List.map_cons];unfold lS;rw[h1];refine W3.bind (h2.mono ?_);rintro k S1 ⟨rfl,rfl⟩;rw[if_pos rfl];refine W3.bind (h3.mono ?_);rintro v S2 ⟨rfl,rfl⟩;refine W3.bind (ih.mono ?_);rintro ys S3 ⟨rfl,rfl⟩;exact W3.ok ⟨rfl,rfl⟩
theorem G6{α:Type}{it:FA}{t:FG}{c:FB}{f:FX}{own:List Str}{kp:List Nat}{δ:DE}{S:aM}{Q:V3->aM->Prop}(a b:α->D){xs:List α}(hi:W3 (it δ S) fun vs S1=>vs=(xs.map a).map .d/\S1=S)(hl:xs.length<=sizeLine)(h:∀x∈xs,∃δ1,t (.d (a x)) (nQ own kp δ)=some δ1/\W3 (c δ1 S) (fun k S1=>k=true/\S1=S)/\W3 (f δ1 S) fun v S1=>v= .d (b x)/\S1=S)(hq:Q (.d (.lst (xs.map b))) S):W3 (rn it t c f own kp δ S) Q:=by
 refine DS (hi.mono ?_);rintro vs S1 ⟨rfl,rfl⟩;refine⟨by rw[List.length_map,List.length_map];exact hl,(Fy a b h).mono ?_⟩
 rintro ys S2 ⟨rfl,rfl⟩;rw[Hj];exact hq
theorem tU{c:Nat}:∀{l:Y9} {d:Nat},d∈jn c l->d=c\/∃x∈l,d∈x
 | [],d,h=>by cases h
 | [x],d,h=> .inr ⟨x,List.mem_cons_self,h⟩
 | x ::y ::r,d,h=>by
   rcases List.mem_append.mp h with z | z
   .exact .inr ⟨x,List.mem_cons_self,z⟩
   .rcases List.mem_cons.mp z with z | z
    .exact .inl z
    .rcases tU z with z | ⟨w,hw,z⟩
     .exact .inl z
     .exact .inr ⟨w,List.mem_cons_of_mem _ hw,z⟩
theorem Et{c:Nat}:∀(l:Y9),(jn c l).length<=(l.map (·.length)).sum+l.length
 | []=>by simp [jn]
 | [x]=>by simp [jn]
 | x ::y ::r=>by
   have:=Et (c:=c) (y ::r);show(x++c ::jn c (y ::r)).length<=_;rw[List.length_append,List.length_cons,List.map_cons,List.sum_cons,List.length_cons];omega
theorem Aa(s:Str):s.length=s.cps.toList.length:=by rw[Array.length_toList];rfl
theorem xW{c:Nat}{l:List Str}{m:Nat}(h:∀s∈l,s.length<=m):(Str.join ⟨#[c]⟩ l).length<=l.length*(m+1):=by
 rw[Aa,lQ];have h1:=Et (c:=c) (l.map fun s=>s.cps.toList)
 have h2:=v_ (l:=(l.map fun s=>s.cps.toList).map (·.length)) (m:=m) fun x hx=>by
  obtain⟨y,hy,rfl⟩:=List.mem_map.mp hx;obtain⟨s,hs,rfl⟩:=List.mem_map.mp hy;rw[<-Aa];exact h s hs
 rw[List.length_map,List.length_map] at h2;rw[List.length_map] at h1;rw[Nat.mul_add,Nat.mul_one];omega
theorem yC{c d:Nat}{l:List Str}(h:d∈(Str.join ⟨#[c]⟩ l).cps.toList):d=c\/∃s∈l,d∈s.cps.toList:=by
 rw[lQ] at h;rcases tU h with z | ⟨x,hx,z⟩
 .exact .inl z
 .obtain⟨s,hs,rfl⟩:=List.mem_map.mp hx;exact .inr ⟨s,hs,z⟩
structure Ro (r:Str):Prop where
 len:r.length<=110
 cps:∀c∈r.cps.toList,32<=c/\c < 128
theorem G0{ws:List Str}(hl:ws.length<=10)(h:∀w∈ws,Wo w):Ro (Str.join SP ws):=by
 rw[Dy];refine⟨?_,fun c hc=>?_⟩
 .have:=xW (c:=32) (m:=10) fun w hw=>(h w hw).len
  omega
 .rcases yC hc with z | ⟨w,hw,z⟩
  .omega
  .have:=(h w hw).cps c z;omega
section
variable {rs:List Str}
end
section
variable {ins:Y7} {gs:List Gt} {os:Y8} {gn:List Str}
def Yb(ins:Y7)(gs:List Gt)(os:Y8)(gn:List Str):Str:=Str.join NL ((Vr ins gs os gn).map (Str.join SP))
inductive Sx:Nat->D->Prop where
 | int (n:Nat) (i:Int):Sx n (.int i)
 | bl (n:Nat) (b:Bool):Sx n (.bl b)
 | str (n:Nat) (s:Str):Sx n (.str s)
 | lst {n:Nat} {ds:List D} (h:∀d∈ds,Sx n d) (hl:ds.length < 1000000):Sx (n+1) (.lst ds)
 | tup {n:Nat} {ds:List D} (h:∀d∈ds,Sx n d) (hl:ds.length < 1000000):Sx (n+1) (.tup ds)
end
end TX
end
section
namespace TX
open PySem PySem.Spec PyProof.Rows L2 L3 MT JT
abbrev IN:Str:=Str.ofString "in"
abbrev GA:Str:=Str.ofString "gate"
abbrev OU:Str:=Str.ofString "out"
abbrev BD:Str:=Str.ofString "bad"
structure Rx where
 t:Str
 wd:Str
 nm:Str
 w:Nat
 ws:List Str
def Rx.d(r:Rx):D:= .lst [.str r.t, .str r.wd, .str r.nm,nI r.w, .lst (r.ws.map .str)]
structure Ls where
 wd:List Str
 nm:List Str
 on:List Str
 kn:List Str
def Ls.d(s:Ls):D:= .lst [.lst (s.wd.map .str), .lst (s.nm.map .str), .lst (s.on.map .str), .lst (s.kn.map .str)]
def lim(w:Str):Nat:=if w==GA then 60 else 6
def fK(r:Rx)(s:Ls):Option Nat:=
 if((r.wd==IN && (s.wd.contains GA || s.wd.contains OU)) || (r.wd==GA && s.wd.contains OU))=true then some 2
 else if((r.wd==OU && s.on.contains r.nm) || (r.wd !=OU && s.nm.contains r.nm))=true then some 3
 else if s.wd.count r.wd=lim r.wd then some 4
 else if r.ws.filter (fun w=>!s.kn.contains w)=[] then none else some 5
def lh(r:Rx)(s:Ls):Ls:=
 if(r.wd==OU)=true then⟨s.wd++[r.wd],s.nm,s.on++[r.nm],s.kn⟩
 else⟨s.wd++[r.wd],s.nm++[r.nm],s.on,s.kn++(if 1 < r.w then qu r.nm r.w else [r.nm])⟩
def qQ(s:Ls):List Rx->Option Nat
 | []=>if(!s.wd.contains IN || !s.wd.contains OU)=true then some 6 else none
 | r ::rs=>if(r.wd==BD)=true then some 1 else match fK r s with | some n=>some n | none=>qQ (lh r s) rs
def s0:Ls:=⟨[],[],[],[]⟩
def oD:Option Nat->D | none=> .int (-1) | some n=>nI n
structure uR (r:Rx):Prop where
 len:r.t.length<=6000
 cps:∀c∈r.t.cps.toList,c≠10/\c < 1114112
 nl:r.nm.length<=8
 wl:r.ws.length<=3
 by4:(r.wd=IN/\r.ws=[]/\1<=r.w/\r.w<=3/\∀d,eZ d (Txt.split r.t SP)=kO d r.nm r.w)\/
  (r.wd=GA/\r.w=0/\∃k s,∀d,eZ d (Txt.split r.t SP)=addGate d r.nm k r.ws s)\/
  (r.wd=OU/\r.w=0/\∀d,eZ d (Txt.split r.t SP)=gz d r.nm r.ws)\/
  (r.wd=BD/\∀d,eZ d (Txt.split r.t SP)= .error 3)
structure Inv (s:Ls) (d:Dr):Prop where
 ci:s.wd.count IN=d.ins.length
 cg:s.wd.count GA=d.gs.length
 co:s.wd.count OU=d.os.length
 nm:s.nm=d.nm
 on:s.on=d.on
 kn:s.kn=d.nu
 ok:mU d
theorem rX{l:List Str}{n:Nat}(h:l.count x=n):l.contains x=decide (n≠0):=by
 rw[Bool.eq_iff_iff,List.contains_iff_mem,decide_eq_true_eq,<-h];exact⟨fun z=>Nat.ne_of_gt (List.count_pos_iff.mpr z),fun z=>List.count_pos_iff.mp (by omega)⟩
theorem ot{nu:List Str}:∀{ws:List Str},(eL nu ws=none↔ws.filter (fun w=>!nu.contains w)≠[])
 | []=>by simp [eL]
 | w ::ws=>by
   have ih:=ot (nu:=nu) (ws:=ws);have h:=xm (l:=nu) (x:=w);unfold eL;cases hi:idx nu w with
   | none=>
     rw[hi] at h;rw[List.filter_cons,<-h];simp
   | some i=>
     rw[hi] at h;rw[List.filter_cons,<-h];simpa using ih
theorem u0{nu ws:List Str}(h:ws.filter (fun w=>!nu.contains w)=[]):∃l,eL nu ws=some l:=by
 cases e:eL nu ws with
 | some l=>exact⟨l,rfl⟩
 | none=>exact absurd h (ot.mp e)
theorem F0:(GA==IN)=false:=by decide+kernel
theorem AF:(GA==OU)=false:=by decide+kernel
theorem E_:(IN==GA)=false:=by decide+kernel
theorem A_:(IN==OU)=false:=by decide+kernel
theorem JE:(OU==IN)=false:=by decide+kernel
theorem Jk:(OU==GA)=false:=by decide+kernel
theorem d7(l:List Str)(x y:Str):(l++[y]).count x=l.count x+if y==x then 1 else 0:=by
 rw[List.count_append,List.count_cons,List.count_nil];simp
theorem oE{α:Type}(l:List α):(l≠[])=(l.length≠0):=by
 rw[ne_eq,ne_eq,List.length_eq_zero_iff]
theorem FV{r:Rx}{s:Ls}{d:Dr}(R:uR r)(I:Inv s d)(hb:r.wd≠BD):(match fK r s with | none=>∃d',eZ d (Txt.split r.t SP)= .ok d'/\Inv (lh r s) d' | some n=>eZ d (Txt.split r.t SP)= .error (n+2)):=by
 have D:=I.ok;have li:=D.li;have lg:=D.lg;have lo:=D.lo;have cG:=rX I.cg;have cO:=rX I.co;rcases R.by4 with⟨e,hw,w1,w3,h⟩ | ⟨e,hw,k,sr,h⟩ | ⟨e,hw,h⟩ | ⟨e,h⟩
 .have st:=fun d'=>rY D (ws:=Txt.split r.t SP) (d':=d')
  rw[h d] at st ⊢;unfold fK;rw[e,hw,cG,cO,I.nm,I.ci];simp only[beq_self_eq_true,Bool.true_and,E_,A_,Bool.false_and,Bool.or_false,bne,Bool.not_false,Bool.false_or,List.filter_nil,if_true];unfold kO at st ⊢;by_cases h1:d.gs≠[]\/d.os≠[]
  .rw [if_pos h1,if_pos (by rw[oE,oE] at h1;rcases h1 with z | z <;> simp [z])]
  .rw [if_neg h1] at st ⊢;rw[if_neg (by rw[oE,oE] at h1;simp only[not_or,Decidable.not_not] at h1;simp [h1.1,h1.2])]
   by_cases h2:r.nm∈d.nm
   .rw [if_pos h2,if_pos (List.contains_iff_mem.mpr h2)]
   .rw [if_neg h2] at st ⊢;rw[if_neg (fun z=>h2 (List.contains_iff_mem.mp z))]
    by_cases h3:6<=d.ins.length
    .rw [if_pos h3,if_pos (show d.ins.length=lim IN by show d.ins.length=6;omega)]
    .rw [if_neg h3] at st ⊢;rw[if_neg (show ¬d.ins.length=lim IN by show ¬d.ins.length=6;omega)]
     refine⟨_,rfl,?_⟩;have e2:(if 1 < r.w then qu r.nm r.w else [r.nm])=qu r.nm r.w:=by
      by_cases q:1 < r.w
      .rw [if_pos q]
      .rw [if_neg q];have:r.w=1:=by omega
       rw[this];rfl
     unfold lh;rw[e,A_,if_neg (by decide),e2]
     exact⟨by rw[d7,I.ci,List.length_append];rfl,by rw[d7,E_];exact I.cg,by rw[d7,A_];exact I.co,by rw[I.nm],I.on,by rw[I.kn],st _ rfl⟩
 .have st:=fun d'=>rY D (ws:=Txt.split r.t SP) (d':=d')
  rw[h d] at st ⊢;unfold fK;rw[e,cO,I.nm,I.cg,I.kn];simp only[beq_self_eq_true,Bool.true_and,F0,AF,Bool.false_and,Bool.or_false,bne,Bool.not_false,Bool.false_or];unfold addGate at st ⊢;by_cases h1:d.os≠[]
  .rw [if_pos h1,if_pos (by rw[oE] at h1;simp [h1])]
  .rw [if_neg h1] at st ⊢;rw[if_neg (by rw[oE] at h1;simp only[Decidable.not_not] at h1;simp [h1])]
   by_cases h2:r.nm∈d.nm
   .rw [if_pos h2,if_pos (List.contains_iff_mem.mpr h2)]
   .rw [if_neg h2] at st ⊢;rw[if_neg (fun z=>h2 (List.contains_iff_mem.mp z))]
    by_cases h3:60<=d.gs.length
    .rw [if_pos h3,if_pos (show d.gs.length=lim GA by show d.gs.length=60;omega)]
    .rw [if_neg h3] at st ⊢;rw[if_neg (show ¬d.gs.length=lim GA by show ¬d.gs.length=60;omega)]
     by_cases h4:r.ws.filter (fun w=>!d.nu.contains w)=[]
     .rw [if_pos h4];obtain⟨l,hl⟩:=u0 h4;rw[hl] at st ⊢;refine⟨_,rfl,?_⟩;unfold lh;rw[e,AF,if_neg (by decide),if_neg (show ¬1 < r.w by omega)]
      exact⟨by rw[d7,F0];exact I.ci,by rw[d7,I.cg,List.length_append];rfl,by rw[d7,AF];exact I.co,by rw[I.nm],I.on,by rw[I.kn],st _ rfl⟩
     .rw [if_neg h4];rw[ot.mpr h4]
 .have st:=fun d'=>rY D (ws:=Txt.split r.t SP) (d':=d')
  rw[h d] at st ⊢;unfold fK;rw[e,I.on,I.co,I.kn];simp only[beq_self_eq_true,Bool.true_and,JE,Jk,Bool.false_and,Bool.or_false,bne,Bool.not_true,Bool.false_eq_true,if_false];unfold gz at st ⊢;by_cases h2:r.nm∈d.on
  .rw [if_pos h2,if_pos (List.contains_iff_mem.mpr h2)]
  .rw [if_neg h2] at st ⊢;rw[if_neg (fun z=>h2 (List.contains_iff_mem.mp z))]
   by_cases h3:6<=d.os.length
   .rw [if_pos h3,if_pos (show d.os.length=lim OU by show d.os.length=6;omega)]
   .rw [if_neg h3] at st ⊢;rw[if_neg (show ¬d.os.length=lim OU by show ¬d.os.length=6;omega)]
    by_cases h4:r.ws.filter (fun w=>!d.nu.contains w)=[]
    .rw [if_pos h4];obtain⟨l,hl⟩:=u0 h4;rw[hl] at st ⊢;refine⟨_,rfl,?_⟩;unfold lh;rw[e,if_pos (by rfl)]
     exact⟨by rw[d7,JE];exact I.ci,by rw[d7,Jk];exact I.cg,by rw[d7,I.co,List.length_append];rfl,I.nm,by rw[I.on];unfold Dr.on;rw [List.map_append];rfl,I.kn,st _ rfl⟩
    .rw [if_neg h4];rw[ot.mpr h4]
 .exact absurd e hb
theorem xM:∀{rs:List Rx} {s:Ls} {d:Dr},(∀r∈rs,uR r)->Inv s d->(match qQ s rs with | none=>∃d',o3 d (rs.map (·.t))= .ok d'/\d'.ins≠[]/\d'.os≠[]/\d'.ins.length=s.wd.count IN+(rs.map (·.wd)).count IN/\d'.gs.length=s.wd.count GA+(rs.map (·.wd)).count GA/\d'.os.length=s.wd.count OU+(rs.map (·.wd)).count OU | some n=>(n=6/\∃d',o3 d (rs.map (·.t))= .ok d'/\(d'.ins=[]\/d'.os=[]))\/(n < 6/\o3 d (rs.map (·.t))= .error (n+2)))
 | [],s,d,_,I=>by
   have cI:=rX I.ci;have cO:=rX I.co;unfold qQ;rw[cI,cO];by_cases h:(!decide (d.ins.length≠0) || !decide (d.os.length≠0))=true
   .rw [if_pos h];refine .inl ⟨rfl,d,rfl,?_⟩;simp only[Bool.or_eq_true,Bool.not_eq_true',decide_eq_false_iff_not,Decidable.not_not] at h;rcases h with z | z
    .exact .inl (List.length_eq_zero_iff.mp z)
    .exact .inr (List.length_eq_zero_iff.mp z)
   .rw [if_neg h];simp only[Bool.or_eq_true,Bool.not_eq_true',decide_eq_false_iff_not,Decidable.not_not,not_or] at h;exact⟨d,rfl,fun z=>h.1 (by rw[z];rfl),fun z=>h.2 (by rw[z];rfl),by rw[I.ci];rfl,by rw[I.cg];rfl,by rw[I.co];rfl⟩
 | r ::rs,s,d,hr,I=>by
   have R:=hr r List.mem_cons_self;unfold qQ;show match (if(r.wd==BD)=true then some 1 else match fK r s with | some n=>some n | none=>qQ (lh r s) rs) with | none=>_ | some n=>_
   simp only[List.map_cons];unfold o3;by_cases hb:r.wd=BD
   .rw [hb,if_pos (by rfl)]
    rcases R.by4 with⟨e,_⟩ | ⟨e,_⟩ | ⟨e,_⟩ | ⟨e,h⟩
    .rw [hb] at e;exact absurd e (by decide+kernel)
    .rw [hb] at e;exact absurd e (by decide+kernel)
    .rw [hb] at e;exact absurd e (by decide+kernel)
    .rw [h d];exact .inr ⟨by decide,rfl⟩
   .rw [if_neg (fun z=>hb (eq_of_beq z))]
    have st:=FV R I hb;cases hd:fK r s with
    | some n=>
      rw[hd] at st;simp only at st ⊢;rw[st];refine .inr ⟨?_,rfl⟩;unfold fK at hd
      repeat' split at hd
      all_goals first | (cases hd;omega) | cases hd
    | none=>
      rw[hd] at st;simp only at st ⊢;obtain⟨d',e,I'⟩:=st;rw[e];have ih:=xM (rs:=rs) (s:=lh r s) (d:=d') (fun x hx=>hr x (List.mem_cons_of_mem _ hx)) I'
      have hw:(lh r s).wd=s.wd++[r.wd]:=by unfold lh;split <;> rfl
      rw[hw] at ih;cases hj:qQ (lh r s) rs with
      | some n=>rw [hj] at ih;exact ih
      | none=>
        rw[hj] at ih;obtain⟨d2,e2,a,b,c1,c2,c3⟩:=ih;refine⟨d2,e2,a,b,?_,?_,?_⟩
        .rw [c1,List.count_append,List.count_cons,List.count_cons,List.count_nil];omega
        .rw [c2,List.count_append,List.count_cons,List.count_cons,List.count_nil];omega
        .rw [c3,List.count_append,List.count_cons,List.count_cons,List.count_nil];omega
theorem PY:Inv s0 d0:=⟨rfl,rfl,rfl,rfl,rfl,rfl,Jg⟩
theorem DL{rs:List Rx}(hr:∀r∈rs,uR r)(hl:rs.length<=80):(match qQ s0 rs with | none=>∃d,sZ (rs.map (·.t))= .ok d/\d.ins.length=(rs.map (·.wd)).count IN/\d.gs.length=(rs.map (·.wd)).count GA/\d.os.length=(rs.map (·.wd)).count OU | some n=>n<=6/\sZ (rs.map (·.t))= .error (n+2)):=by
 have:=xM hr PY;unfold sZ;rw[if_neg (by rw[List.length_map];omega)]
 cases hj:qQ s0 rs with
 | none=>
   rw[hj] at this;obtain⟨d,e,a,b,c1,c2,c3⟩:=this;rw[e];simp only;rw[if_neg (by simp [a,b])]
   exact⟨d,rfl,by rw[c1];exact Nat.zero_add _,by rw[c2];exact Nat.zero_add _,by rw[c3];exact Nat.zero_add _⟩
 | some n=>
   rw[hj] at this;rcases this with⟨rfl,d,e,h⟩ | ⟨h6,e⟩
   .rw [e];simp only;rw[if_pos h];exact⟨by omega,rfl⟩
   .rw [e];exact⟨by omega,rfl⟩
theorem A1(ws:List Str):tx ws (List.range ws.length)=ws:=by
 unfold tx;refine List.ext_getElem? fun i=>?_
 rw[List.getElem?_map];by_cases hi:i < ws.length
 .rw [List.getElem?_range hi,List.getElem?_eq_getElem hi];simp [List.getD_eq_getElem?_getD,List.getElem?_eq_getElem hi]
 .rw [List.getElem?_eq_none (by rw[List.length_range];omega),List.getElem?_eq_none (by omega)];rfl
theorem xB{ws:List Str}(h0:ws≠[])(h:∀w∈ws,Wo w):Txt.split (Str.join SP ws) SP=ws:=by
 rw[Dy];exact tY h0 fun w hw hc=>by have:=(h w hw).cps 32 hc;omega
theorem zX{t wd nm:Str}{w:Nat}{ws words:List Str}(R_:words≠[])(hl:words.length<=10)(hW:∀y∈words,Wo y)(ht:t=Str.join SP words)(hn:nm.length<=8)(h3:ws.length<=3)(h:(wd=IN/\ws=[]/\1<=w/\w<=3/\∀d,eZ d words=kO d nm w)\/(wd=GA/\w=0/\∃k s,∀d,eZ d words=addGate d nm k ws s)\/(wd=OU/\w=0/\∀d,eZ d words=gz d nm ws)):uR ⟨t,wd,nm,w,ws⟩:=by
 subst ht;have ro:=G0 hl hW;refine⟨by have:=ro.len;show(Str.join SP words).length<=_;omega,fun c hc=>by have:=ro.cps c hc;omega,hn,h3,?_⟩
 show _\/_;simp only[xB R_ hW];rcases h with h | h | h
 .exact .inl h
 .exact .inr (.inl h)
 .exact .inr (.inr (.inl h))
theorem yS{w:Nat}(h:isNm n=true)(hw:1<=w/\w<=3):uR ⟨Str.join SP (y6 (n,w)),IN,n,w,[]⟩:=
 zX (words:=y6 (n,w)) (by unfold y6;simp) (by unfold y6;simp) (DC h) rfl ((e8.mp h).2.1) (by simp) (.inl ⟨rfl,rfl,hw.1,hw.2,fun d=>HI h hw⟩)
theorem Kv{k:Nat}{ws:List Str}{s:Bool}(h:isNm n=true)(hk:k<=4)(hl:ws.length=ar k)(hW:∀y∈ws,Wo y/\nS y=true):uR ⟨Str.join SP ([if s then Str.ofString "sure" else Str.ofString "gate",n,kS k]++ws),GA,n,0,ws⟩:=by
 have e:=A1 ws;have ha:=EC k;have e2:∀g:Gt,g=(k,List.range ws.length,s)->CS ws g n=[if s then Str.ofString "sure" else Str.ofString "gate",n,kS k]++ws:=fun g hg=>by subst hg;unfold CS;rw [e]
 have hwo:=EI (W:=ws) (g:=(k,List.range ws.length,s)) (n:=n) h (fun y hy=>(hW y hy).1) fun w hw=>List.mem_range.mp hw
 rw[e2 _ rfl] at hwo;refine zX (words:=[if s then Str.ofString "sure" else Str.ofString "gate",n,kS k]++ws) (by simp) (by simp;omega) hwo rfl ((e8.mp h).2.1) (by omega) (.inr (.inl ⟨rfl,rfl,k,s,fun d=>?_⟩))
 have:=Hs (d:=d) (W:=ws) (g:=(k,List.range ws.length,s)) (n:=n) h hk (by rw[List.length_range];exact hl) (by rw[e];exact fun y hy=>(hW y hy).2)
 rw[e2 _ rfl] at this;rw[this];show addGate d n k (tx ws (List.range ws.length)) s=_;rw[e]
theorem JW{ws:List Str}(h:isNm n=true)(hl:1<=ws.length/\ws.length<=3)(hW:∀y∈ws,Wo y/\nS y=true):uR ⟨Str.join SP ([Str.ofString "out",n]++ws),OU,n,0,ws⟩:=by
 have e:=A1 ws;have e2:∀o:Str × List Nat,o=(n,List.range ws.length)->CH ws o=[Str.ofString "out",n]++ws:=fun o ho=>by subst ho;unfold CH;rw [e]
 have hwo:=FN (W:=ws) (o:=(n,List.range ws.length)) h (fun y hy=>(hW y hy).1) fun w hw=>List.mem_range.mp hw
 rw[e2 _ rfl] at hwo;refine zX (words:=[Str.ofString "out",n]++ws) (by simp) (by simp;omega) hwo rfl ((e8.mp h).2.1) (by omega) (.inr (.inr ⟨rfl,rfl,fun d=>?_⟩))
 have:=IG (d:=d) (W:=ws) (o:=(n,List.range ws.length)) h (by rw[List.length_range];exact hl) (by rw[e];exact fun y hy=>(hW y hy).2)
 rw[e2 _ rfl] at this;rw[this];show gz d n (tx ws (List.range ws.length))=_;rw[e]
def JG(w:Str):Bool:=decide (w.length<=10) && w.cps.toList.all (fun c=>decide (33<=c) && decide (c < 128)) && nS w
theorem Ew(h:JG w=true):Wo w/\nS w=true:=by
 unfold JG at h;simp only[Bool.and_eq_true,decide_eq_true_eq,List.all_eq_true] at h;exact⟨⟨h.1.1,fun c hc=>h.1.2 c hc⟩,h.2⟩
theorem Hg{l:List Str}{i:Nat}(h:i < l.length):∃w∈l,eM (.lst (l.map .str)) (nI i)= .ok (.str w):=⟨l[i],List.getElem_mem h,NT.p9 (by rw[List.getElem?_map,List.getElem?_eq_getElem h];rfl)⟩
theorem vO{ds:List D}{n:Nat}:MG (.lst ds) none (some (n:Int))= .ok (.lst (ds.take n)):=by
 show R.ok (D.lst (L2.cutD _ none (some ((n:Nat):Int))))=_;unfold L2.cutD;rw[HT.An,HT.xY,List.drop_zero,Nat.sub_zero];by_cases h:n<=ds.length
 .rw [Nat.min_eq_left h]
 .rw [Nat.min_eq_right (by omega),List.take_of_length_le (Nat.le_refl _),List.take_of_length_le (by omega)]
theorem wJ{ws:List Str}(hl:ws.length<=100)(h:∀w∈ws,Wo w):mM (.str SP) [.lst (ws.map .str)]= .ok (.str (Str.join SP ws)):=by
 refine Ac ?_;have:(ws.map (·.length)).sum<=ws.length*10:=by
  have:=v_ (l:=ws.map (·.length)) (m:=10) fun x hx=>by obtain⟨w,hw,rfl⟩:=List.mem_map.mp hx;exact(h w hw).len
  rwa [List.length_map] at this
 have:SP.length=1:=by decide+kernel
 rw[this];omega
theorem NM{w:Nat}(h:1<=w/\w<=3):cStr [nI w]= .ok (.str (wS w)):=by
 rcases(show w=1\/w=2\/w=3 by omega) with rfl | rfl | rfl
 .exact(wX (i:=1) (by decide+kernel)).trans (by rw[show(toString (1:Int):Str)=wS 1 by decide+kernel])
 .exact(wX (i:=2) (by decide+kernel)).trans (by rw[show(toString (2:Int):Str)=wS 2 by decide+kernel])
 .exact(wX (i:=3) (by decide+kernel)).trans (by rw[show(toString (3:Int):Str)=wS 3 by decide+kernel])
theorem AA{g:D->List D->R D}{f:FD}{fs:ao->R (List D)}{δ:ao}{l ds:List D}{r:R D}(h:f δ= .ok (.lst l))(h2:fs δ= .ok ds)(h3:g (.lst l) ds=r):vj "list" g f fs δ=r:=by
 unfold vj;rw [h,R.aG,h2];exact h3
theorem JA(b:Bool):xC [.bl b]= .ok (nI (if b then 1 else 0)):=by cases b <;> rfl
theorem Iw{x:Str}{w:Nat}(h:x.length<=1000)(hw:2<=w/\w<=3):[x++Str.ofString ":0",x++Str.ofString ":1",x++Str.ofString ":2"].take w=qu x w:=by
 have fg:∀f:Nat,∀s:Str,s=CO++lT f->x++s=x++CO++lT f:=fun f s e=>by rw[e,BS]
 rcases(show w=2\/w=3 by omega) with rfl | rfl
 .show [x++Str.ofString ":0",x++Str.ofString ":1"]=[x++CO++lT 0,x++CO++lT 1];rw[fg 0 (Str.ofString ":0") (by decide+kernel),fg 1 (Str.ofString ":1") (by decide+kernel)]
 .show [x++Str.ofString ":0",x++Str.ofString ":1",x++Str.ofString ":2"]=[x++CO++lT 0,x++CO++lT 1,x++CO++lT 2];rw[fg 0 (Str.ofString ":0") (by decide+kernel),fg 1 (Str.ofString ":1") (by decide+kernel),fg 2 (Str.ofString ":2") (by decide+kernel)]
def BG(s:Ls):List Rx->Except Nat Ls
 | []=> .ok s
 | r ::rs=>if(r.wd==BD)=true then .error 1 else match fK r s with | some n=> .error n | none=>BG (lh r s) rs
theorem Ab:∀(rs:List Rx) (s:Ls),qQ s rs=match BG s rs with | .error n=>some n | .ok s'=>if(!s'.wd.contains IN || !s'.wd.contains OU)=true then some 6 else none
 | [],s=>rfl
 | r ::rs,s=>by
   unfold qQ BG;by_cases h:(r.wd==BD)=true
   .rw [if_pos h,if_pos h]
   .rw [if_neg h,if_neg h];cases fK r s with
    | some n=>rfl
    | none=>exact Ab rs (lh r s)
theorem xF(h:isNm s=true):PyData.strOk s=true:=by
 unfold PyData.strOk;rw[<-Array.all_toList,List.all_eq_true];intro c hc;have:=(e8.mp h).2.2.2 c hc;exact decide_eq_true (by omega)
theorem wx(h:PyData.strOk s=true):kN 0 (.str s):=kN.str (by unfold PyData.canLay0;exact h)
theorem uR.VR{r:Rx}(R:uR r):PyData.strOk r.t=true:=by
 unfold PyData.strOk;rw[<-Array.all_toList,List.all_eq_true];exact fun c hc=>decide_eq_true (R.cps c hc).2
theorem uR.Vs{r:Rx}(R:uR r):PyData.strOk r.wd=true:=by
 rcases R.by4 with⟨e,_⟩ | ⟨e,_⟩ | ⟨e,_⟩ | ⟨e,_⟩ <;> rw[e] <;> decide+kernel
theorem Ki{r:Rx}(R:uR r)(hn:PyData.strOk r.nm=true)(hw:∀w∈r.ws,PyData.strOk w=true):kN 2 r.d:=by
 refine kN.lst (n:=1) fun d hd=>?_
 simp only[List.mem_cons,List.not_mem_nil,or_false] at hd;rcases hd with rfl | rfl | rfl | rfl | rfl
 .exact(wx R.VR).mono (by omega)
 .exact(wx R.Vs).mono (by omega)
 .exact(wx hn).mono (by omega)
 .exact(kN.int _).mono (by omega)
 .exact kN.lst (n:=0) fun d hd=>by obtain⟨w,h,rfl⟩:=List.mem_map.mp hd;exact wx (hw w h)
theorem EK{rs:List Rx}(h:∀r∈rs,kN 2 r.d):nj (.lst (rs.map Rx.d)) (.lst [])= .ok (.bl rs.isEmpty):=by
 have f:kN 3 (.lst (rs.map Rx.d)):=kN.lst fun d hd=>by obtain⟨g,hg,rfl⟩:=List.mem_map.mp hd;exact h g hg
 have f2:kN 1 (.lst []):=kN.lst fun d hd=>by cases hd
 show(Gk (.lst _) (.lst [])).bind _=_;rw[show Gk (.lst (rs.map Rx.d)) (.lst [])=R.aU (cH (.lst (rs.map Rx.d)) && cH (.lst []) && SeqAt.shaped (toPy (.lst (rs.map Rx.d))) && SeqAt.shaped (toPy (.lst []))) (.ok (PyData.eqv (toPy (.lst (rs.map Rx.d))) (toPy (.lst [])))) from rfl,f.pl,f.sh (by omega),f2.pl,f2.sh (by omega)]
 cases rs <;> rfl
theorem DK(bs:List Bool):nj (.lst (bs.map .bl)) (.lst (bs.map .bl))= .ok (.bl true):=by
 have f:kN 1 (.lst (bs.map .bl)):=kN.lst fun d hd=>by obtain⟨g,hg,rfl⟩:=List.mem_map.mp hd;exact kN.bl g
 unfold nj;rw [kN.TC f (by omega)];rfl
theorem Cy(zs:List Int):nj (.lst (zs.map .int)) (.lst (zs.map .int))= .ok (.bl true):=by
 unfold nj;rw [kN.TC (kN.NO zs) (by omega)];rfl
theorem zA{rs:List Rx}(h:∀r∈rs,uR r)(hl:rs.length<=2000):mM (.str NL) [.lst ((rs.map (·.t)).map .str)]= .ok (.str (Str.join NL (rs.map (·.t)))):=by
 refine Ac ?_;have h2:=v_ (l:=(rs.map (·.t)).map (·.length)) (m:=6000) fun x hx=>by
  obtain⟨s,hs,rfl⟩:=List.mem_map.mp hx;obtain⟨r,hr,rfl⟩:=List.mem_map.mp hs;exact(h r hr).len
 rw[List.length_map,List.length_map] at h2;have:NL.length=1:=by decide+kernel
 rw[this,List.length_map];omega
theorem Ci{rs:List Rx}(h:∀r∈rs,uR r):(Str.join NL (rs.map (·.t))).length<=rs.length*6001:=by
 rw[yf];have:=xW (c:=10) (l:=rs.map (·.t)) (m:=6000) fun s hs=>by obtain⟨r,hr,rfl⟩:=List.mem_map.mp hs;exact(h r hr).len
 rwa [List.length_map] at this
theorem BI{rs:List Rx}(h:∀r∈rs,uR r):∀c∈(Str.join NL (rs.map (·.t))).cps.toList,c < 1114112:=fun c hc=>by
 rw[yf] at hc;rcases yC hc with z | ⟨w,hw,z⟩
 .omega
 .obtain⟨r,hr,rfl⟩:=List.mem_map.mp hw;exact((h r hr).cps c z).2
theorem xy{rs:List Rx}(h:∀r∈rs,uR r)(h0:rs≠[]):Txt.split (Str.join NL (rs.map (·.t))) NL=rs.map (·.t):=by
 rw[yf];exact tY (fun e=>h0 (List.map_eq_nil_iff.mp e)) fun s hs hc=>by
  obtain⟨r,hr,rfl⟩:=List.mem_map.mp hs;exact((h r hr).cps 10 hc).1 rfl
end TX
end
section
set_option maxHeartbeats 4000000
namespace K04
open PySem PySem.Spec PyProof.Rows L2 L3
variable {P:Program} {w:World} {K:W.Frag} {mg:Y_} {base:Heap} {cl:Za}
def top(i:Nat):Stmt:=PySem.Challenge.pw_bearfaults_k04_rows_in_any_order.main.body.getD i (.Pass ⟨0,0,0,0⟩)
def dX:D:=(.int 8)
def nA:D:=(.tup [(.str "in"),(.str "gate"),(.str "sure"),(.str "out"),(.str "not"),(.str "and"),(.str "or"),(.str "xor"),(.str "vote")])
def lY:D:=(.str "abcdefghijklmnopqrstuvwxyz")
def lM:D:=(.tup [(.str "0"),(.str "1"),(.str "2"),(.str "3"),(.str "4"),(.str "5"),(.str "6"),(.str "7"),(.str "8"),(.str "9")])
def c_:D:=(.int 3)
def ko:D:=(.int 6)
def gm:D:=(.int 60)
def jj:D:=(.int 6)
def jm:D:=(.int 80)
def oC:List (Str × Int):=[("1",1),("2",2),("3",3)]
def ja:List (Str × Int):=[("not",1),("and",2),("or",2),("xor",2),("vote",3)]
structure Tp (P:Program) (w:World) (K:W.Frag) (mg:Y_) (cl:Za):Prop where
 z_len:mg "len"=none
 z_all:mg "all"=none
 z_range:mg "range"=none
 z_tuple:mg "tuple"=none
 z_str:mg "str"=none
 z_int:mg "int"=none
 z_isinstance:mg "isinstance"=none
 z_ValueError:mg "ValueError"=none
 dX:Glob K mg "MOST_LETTERS" dX
 nA:Glob K mg "BARRED" nA
 lY:Glob K mg "LETTERS" lY
 lM:Glob K mg "FIGURES" lM
 c_:Glob K mg "MOST_OUT_WIRES" c_
 ko:Glob K mg "MOST_INS" ko
 gm:Glob K mg "MOST_GATES" gm
 jj:Glob K mg "MOST_OUTS" jj
 jm:Glob K mg "MOST_ROWS" jm
 gd_WIDTHS:n5 P w K mg "WIDTHS" oC
 gd_KIND_WIRES:n5 P w K mg "KIND_WIRES" ja
 C_Draft:yd K (cl 0)
 N_Draft_ins:cZ K (cl 0) "ins"
 N_Draft_gates:cZ K (cl 0) "gates"
 N_Draft_outs:cZ K (cl 0) "outs"
 N_Draft_names:cZ K (cl 0) "names"
 N_Draft_out_names:cZ K (cl 0) "out_names"
 N_Draft_numbers:cZ K (cl 0) "numbers"
 M_Draft:mg "Draft"=some (.ref (cl 0))
 M_FaultError:mg "FaultError"=some (.ref (cl 1))
 M_TooLong:mg "TooLong"=some (.ref (cl 2))
 M_NoForm:mg "NoForm"=some (.ref (cl 3))
 M_NoPlace:mg "NoPlace"=some (.ref (cl 4))
 M_Twice:mg "Twice"=some (.ref (cl 5))
 M_Full:mg "Full"=some (.ref (cl 6))
 M_NoWire:mg "NoWire"=some (.ref (cl 7))
 M_Open:mg "Open"=some (.ref (cl 8))
 M_NotPlain:mg "NotPlain"=some (.ref (cl 9))
 M_NotThree:mg "NotThree"=some (.ref (cl 10))
 M_NotSound:mg "NotSound"=some (.ref (cl 11))
 M_NoFit:mg "NoFit"=some (.ref (cl 12))
 M_NoShape:mg "NoShape"=some (.ref (cl 13))
 M_NoneYet:mg "NoneYet"=some (.ref (cl 14))
 X_TooLong:XC K (cl 2)
 X_NoForm:XC K (cl 3)
 X_NoPlace:XC K (cl 4)
 X_Twice:XC K (cl 5)
 X_Full:XC K (cl 6)
 X_NoWire:XC K (cl 7)
 X_Open:XC K (cl 8)
 I_Open_Twice:PySem.W.kitOne K (.ref (cl 8)) (.ref (cl 5))=some false
 I_NoWire_Twice:PySem.W.kitOne K (.ref (cl 7)) (.ref (cl 5))=some false
 I_Full_Twice:PySem.W.kitOne K (.ref (cl 6)) (.ref (cl 5))=some false
 I_Twice_Twice:PySem.W.kitOne K (.ref (cl 5)) (.ref (cl 5))=some true
 I_NoPlace_Twice:PySem.W.kitOne K (.ref (cl 4)) (.ref (cl 5))=some false
 I_NoForm_Twice:PySem.W.kitOne K (.ref (cl 3)) (.ref (cl 5))=some false
 I_TooLong_Twice:PySem.W.kitOne K (.ref (cl 2)) (.ref (cl 5))=some false
 O_Twice:PySem.W.kitOne K (.type "NoneType") (.ref (cl 5))=some false
 I_Open_NoPlace:PySem.W.kitOne K (.ref (cl 8)) (.ref (cl 4))=some false
 I_NoWire_NoPlace:PySem.W.kitOne K (.ref (cl 7)) (.ref (cl 4))=some false
 I_Full_NoPlace:PySem.W.kitOne K (.ref (cl 6)) (.ref (cl 4))=some false
 I_Twice_NoPlace:PySem.W.kitOne K (.ref (cl 5)) (.ref (cl 4))=some false
 I_NoPlace_NoPlace:PySem.W.kitOne K (.ref (cl 4)) (.ref (cl 4))=some true
 I_NoForm_NoPlace:PySem.W.kitOne K (.ref (cl 3)) (.ref (cl 4))=some false
 I_TooLong_NoPlace:PySem.W.kitOne K (.ref (cl 2)) (.ref (cl 4))=some false
 O_NoPlace:PySem.W.kitOne K (.type "NoneType") (.ref (cl 4))=some false
 I_Open_NoForm:PySem.W.kitOne K (.ref (cl 8)) (.ref (cl 3))=some false
 I_NoWire_NoForm:PySem.W.kitOne K (.ref (cl 7)) (.ref (cl 3))=some false
 I_Full_NoForm:PySem.W.kitOne K (.ref (cl 6)) (.ref (cl 3))=some false
 I_Twice_NoForm:PySem.W.kitOne K (.ref (cl 5)) (.ref (cl 3))=some false
 I_NoPlace_NoForm:PySem.W.kitOne K (.ref (cl 4)) (.ref (cl 3))=some false
 I_NoForm_NoForm:PySem.W.kitOne K (.ref (cl 3)) (.ref (cl 3))=some true
 I_TooLong_NoForm:PySem.W.kitOne K (.ref (cl 2)) (.ref (cl 3))=some false
 O_NoForm:PySem.W.kitOne K (.type "NoneType") (.ref (cl 3))=some false
 I_Open_TooLong:PySem.W.kitOne K (.ref (cl 8)) (.ref (cl 2))=some false
 I_NoWire_TooLong:PySem.W.kitOne K (.ref (cl 7)) (.ref (cl 2))=some false
 I_Full_TooLong:PySem.W.kitOne K (.ref (cl 6)) (.ref (cl 2))=some false
 I_Twice_TooLong:PySem.W.kitOne K (.ref (cl 5)) (.ref (cl 2))=some false
 I_NoPlace_TooLong:PySem.W.kitOne K (.ref (cl 4)) (.ref (cl 2))=some false
 I_NoForm_TooLong:PySem.W.kitOne K (.ref (cl 3)) (.ref (cl 2))=some false
 I_TooLong_TooLong:PySem.W.kitOne K (.ref (cl 2)) (.ref (cl 2))=some true
 O_TooLong:PySem.W.kitOne K (.type "NoneType") (.ref (cl 2))=some false
 I_Open_NotPlain:PySem.W.kitOne K (.ref (cl 8)) (.ref (cl 9))=some false
 I_NoWire_NotPlain:PySem.W.kitOne K (.ref (cl 7)) (.ref (cl 9))=some false
 I_Full_NotPlain:PySem.W.kitOne K (.ref (cl 6)) (.ref (cl 9))=some false
 I_Twice_NotPlain:PySem.W.kitOne K (.ref (cl 5)) (.ref (cl 9))=some false
 I_NoPlace_NotPlain:PySem.W.kitOne K (.ref (cl 4)) (.ref (cl 9))=some false
 I_NoForm_NotPlain:PySem.W.kitOne K (.ref (cl 3)) (.ref (cl 9))=some false
 I_TooLong_NotPlain:PySem.W.kitOne K (.ref (cl 2)) (.ref (cl 9))=some false
 O_NotPlain:PySem.W.kitOne K (.type "NoneType") (.ref (cl 9))=some false
 I_Open_Open:PySem.W.kitOne K (.ref (cl 8)) (.ref (cl 8))=some true
 I_NoWire_Open:PySem.W.kitOne K (.ref (cl 7)) (.ref (cl 8))=some false
 I_Full_Open:PySem.W.kitOne K (.ref (cl 6)) (.ref (cl 8))=some false
 I_Twice_Open:PySem.W.kitOne K (.ref (cl 5)) (.ref (cl 8))=some false
 I_NoPlace_Open:PySem.W.kitOne K (.ref (cl 4)) (.ref (cl 8))=some false
 I_NoForm_Open:PySem.W.kitOne K (.ref (cl 3)) (.ref (cl 8))=some false
 I_TooLong_Open:PySem.W.kitOne K (.ref (cl 2)) (.ref (cl 8))=some false
 O_Open:PySem.W.kitOne K (.type "NoneType") (.ref (cl 8))=some false
 I_Open_NoWire:PySem.W.kitOne K (.ref (cl 8)) (.ref (cl 7))=some false
 I_NoWire_NoWire:PySem.W.kitOne K (.ref (cl 7)) (.ref (cl 7))=some true
 I_Full_NoWire:PySem.W.kitOne K (.ref (cl 6)) (.ref (cl 7))=some false
 I_Twice_NoWire:PySem.W.kitOne K (.ref (cl 5)) (.ref (cl 7))=some false
 I_NoPlace_NoWire:PySem.W.kitOne K (.ref (cl 4)) (.ref (cl 7))=some false
 I_NoForm_NoWire:PySem.W.kitOne K (.ref (cl 3)) (.ref (cl 7))=some false
 I_TooLong_NoWire:PySem.W.kitOne K (.ref (cl 2)) (.ref (cl 7))=some false
 O_NoWire:PySem.W.kitOne K (.type "NoneType") (.ref (cl 7))=some false
 I_Open_Full:PySem.W.kitOne K (.ref (cl 8)) (.ref (cl 6))=some false
 I_NoWire_Full:PySem.W.kitOne K (.ref (cl 7)) (.ref (cl 6))=some false
 I_Full_Full:PySem.W.kitOne K (.ref (cl 6)) (.ref (cl 6))=some true
 I_Twice_Full:PySem.W.kitOne K (.ref (cl 5)) (.ref (cl 6))=some false
 I_NoPlace_Full:PySem.W.kitOne K (.ref (cl 4)) (.ref (cl 6))=some false
 I_NoForm_Full:PySem.W.kitOne K (.ref (cl 3)) (.ref (cl 6))=some false
 I_TooLong_Full:PySem.W.kitOne K (.ref (cl 2)) (.ref (cl 6))=some false
 O_Full:PySem.W.kitOne K (.type "NoneType") (.ref (cl 6))=some false
 I_Open_NoShape:PySem.W.kitOne K (.ref (cl 8)) (.ref (cl 13))=some false
 I_NoWire_NoShape:PySem.W.kitOne K (.ref (cl 7)) (.ref (cl 13))=some false
 I_Full_NoShape:PySem.W.kitOne K (.ref (cl 6)) (.ref (cl 13))=some false
 I_Twice_NoShape:PySem.W.kitOne K (.ref (cl 5)) (.ref (cl 13))=some false
 I_NoPlace_NoShape:PySem.W.kitOne K (.ref (cl 4)) (.ref (cl 13))=some false
 I_NoForm_NoShape:PySem.W.kitOne K (.ref (cl 3)) (.ref (cl 13))=some false
 I_TooLong_NoShape:PySem.W.kitOne K (.ref (cl 2)) (.ref (cl 13))=some false
 O_NoShape:PySem.W.kitOne K (.type "NoneType") (.ref (cl 13))=some false
 I_Open_NoFit:PySem.W.kitOne K (.ref (cl 8)) (.ref (cl 12))=some false
 I_NoWire_NoFit:PySem.W.kitOne K (.ref (cl 7)) (.ref (cl 12))=some false
 I_Full_NoFit:PySem.W.kitOne K (.ref (cl 6)) (.ref (cl 12))=some false
 I_Twice_NoFit:PySem.W.kitOne K (.ref (cl 5)) (.ref (cl 12))=some false
 I_NoPlace_NoFit:PySem.W.kitOne K (.ref (cl 4)) (.ref (cl 12))=some false
 I_NoForm_NoFit:PySem.W.kitOne K (.ref (cl 3)) (.ref (cl 12))=some false
 I_TooLong_NoFit:PySem.W.kitOne K (.ref (cl 2)) (.ref (cl 12))=some false
 O_NoFit:PySem.W.kitOne K (.type "NoneType") (.ref (cl 12))=some false
 I_Open_NotSound:PySem.W.kitOne K (.ref (cl 8)) (.ref (cl 11))=some false
 I_NoWire_NotSound:PySem.W.kitOne K (.ref (cl 7)) (.ref (cl 11))=some false
 I_Full_NotSound:PySem.W.kitOne K (.ref (cl 6)) (.ref (cl 11))=some false
 I_Twice_NotSound:PySem.W.kitOne K (.ref (cl 5)) (.ref (cl 11))=some false
 I_NoPlace_NotSound:PySem.W.kitOne K (.ref (cl 4)) (.ref (cl 11))=some false
 I_NoForm_NotSound:PySem.W.kitOne K (.ref (cl 3)) (.ref (cl 11))=some false
 I_TooLong_NotSound:PySem.W.kitOne K (.ref (cl 2)) (.ref (cl 11))=some false
 O_NotSound:PySem.W.kitOne K (.type "NoneType") (.ref (cl 11))=some false
 I_Open_NotThree:PySem.W.kitOne K (.ref (cl 8)) (.ref (cl 10))=some false
 I_NoWire_NotThree:PySem.W.kitOne K (.ref (cl 7)) (.ref (cl 10))=some false
 I_Full_NotThree:PySem.W.kitOne K (.ref (cl 6)) (.ref (cl 10))=some false
 I_Twice_NotThree:PySem.W.kitOne K (.ref (cl 5)) (.ref (cl 10))=some false
 I_NoPlace_NotThree:PySem.W.kitOne K (.ref (cl 4)) (.ref (cl 10))=some false
 I_NoForm_NotThree:PySem.W.kitOne K (.ref (cl 3)) (.ref (cl 10))=some false
 I_TooLong_NotThree:PySem.W.kitOne K (.ref (cl 2)) (.ref (cl 10))=some false
 O_NotThree:PySem.W.kitOne K (.type "NoneType") (.ref (cl 10))=some false
 I_Open_ValueError:PySem.W.kitOne K (.ref (cl 8)) (.type "ValueError")=some true
 I_NoWire_ValueError:PySem.W.kitOne K (.ref (cl 7)) (.type "ValueError")=some true
 I_Full_ValueError:PySem.W.kitOne K (.ref (cl 6)) (.type "ValueError")=some true
 I_Twice_ValueError:PySem.W.kitOne K (.ref (cl 5)) (.type "ValueError")=some true
 I_NoPlace_ValueError:PySem.W.kitOne K (.ref (cl 4)) (.type "ValueError")=some true
 I_NoForm_ValueError:PySem.W.kitOne K (.ref (cl 3)) (.type "ValueError")=some true
 I_TooLong_ValueError:PySem.W.kitOne K (.ref (cl 2)) (.type "ValueError")=some true
 O_ValueError:PySem.W.kitOne K (.type "NoneType") (.type "ValueError")=some false
 I_Open_NoneYet:PySem.W.kitOne K (.ref (cl 8)) (.ref (cl 14))=some false
 I_NoWire_NoneYet:PySem.W.kitOne K (.ref (cl 7)) (.ref (cl 14))=some false
 I_Full_NoneYet:PySem.W.kitOne K (.ref (cl 6)) (.ref (cl 14))=some false
 I_Twice_NoneYet:PySem.W.kitOne K (.ref (cl 5)) (.ref (cl 14))=some false
 I_NoPlace_NoneYet:PySem.W.kitOne K (.ref (cl 4)) (.ref (cl 14))=some false
 I_NoForm_NoneYet:PySem.W.kitOne K (.ref (cl 3)) (.ref (cl 14))=some false
 I_TooLong_NoneYet:PySem.W.kitOne K (.ref (cl 2)) (.ref (cl 14))=some false
 O_NoneYet:PySem.W.kitOne K (.type "NoneType") (.ref (cl 14))=some false
 E_Open_FaultError:PySem.W.exmOne K (.ref (cl 8)) (.ref (cl 1))=some true
 E_NoWire_FaultError:PySem.W.exmOne K (.ref (cl 7)) (.ref (cl 1))=some true
 E_Full_FaultError:PySem.W.exmOne K (.ref (cl 6)) (.ref (cl 1))=some true
 E_Twice_FaultError:PySem.W.exmOne K (.ref (cl 5)) (.ref (cl 1))=some true
 E_NoPlace_FaultError:PySem.W.exmOne K (.ref (cl 4)) (.ref (cl 1))=some true
 E_NoForm_FaultError:PySem.W.exmOne K (.ref (cl 3)) (.ref (cl 1))=some true
 E_TooLong_FaultError:PySem.W.exmOne K (.ref (cl 2)) (.ref (cl 1))=some true
abbrev l7:Stmt:=top 27
noncomputable abbrev qP:List Str:=["word"]
noncomputable def y0:{b:List Stmt // aX l7=b}:=⟨_,by conv=>lhs;whnf⟩
noncomputable def pA:{b:Scope // aC l7=b}:=⟨_,by conv=>lhs;whnf⟩
theorem BK:bq qP ["word"] pA.1:=⟨rfl,rfl,rfl,by decide+kernel,rfl,by decide+kernel,by decide+kernel⟩
def uW:FS:=(bW (qK (yM (b2 yb (bt ph (ai (ah 0) aJ)) (eC (.int 1))) (yM (b2 Jr (bt ph (ai (ah 0) aJ)) (eC dX)) (b2 zu (ah 0) (eC nA)))) (ee (eC (.bl false))) j9) (ee (bt D0 (ai (eNew (kh (Dm (ah 0)) (aR 0) ur (e2 zu (ah 0) (eC lY)) ["sign"] [])) aJ))))
def c9:List D->R D:=u6 qP uW
theorem B8(T:Tp P w K mg cl)(h:Def K mg "is_name" l7):Callee P w K mg base 1 "is_name" 1 c9:=by
 obtain⟨f,fd,F,hm⟩:=h;exact⟨f,fd,_,cx (k:=0) y0.2 pA.2 F BK (fun dF A outer s H E hr=>(av (cL (eD (je (ba yD (cQ oP rfl T.z_len PySem.boot_len (aa (ae 0) ag)) aj (bo _)) (je (ba DZ (cQ oP rfl T.z_len PySem.boot_len (aa (ae 0) ag)) (gq T.dX rfl) (bo _)) (jq (ba ym (ae 0) (gq T.nA rfl) (by with_unfolding_all rfl)))))) (aS (bb pk)) b7) (aS (bb (cQ (IU rfl) rfl T.z_all PyProof.Rows.boot_all (aa (aA (gx rfl (cM.of (own:=["sign"]) (kp:=[]) (kn:=[]) (sc:=pA.1) (N:=qP) rfl rfl (by decide+kernel)) (DU (ae 0)) (fun _ _ _=>(aP (show List.Nodup [(Str.ofString "sign")] from by decide+kernel) rfl (Or.inl rfl))) (fun _ _ _=>gb) (fun _ _ _=>(eI ym (ae 0) (gq T.lY rfl) (by with_unfolding_all rfl))))) ag)))))),hm,F.kp,F.binds fun _ _ _ _ _ _ us hl=>match us,hl with | [_],_=>rfl⟩
abbrev ke:Stmt:=top 28
noncomputable abbrev pB:List Str:=["name","width"]
noncomputable def x9:{b:List Stmt // aX ke=b}:=⟨_,by conv=>lhs;whnf⟩
noncomputable def nF:{b:Scope // aC ke=b}:=⟨_,by conv=>lhs;whnf⟩
theorem zB:bq pB ["name","width"] nF.1:=⟨rfl,rfl,rfl,by decide+kernel,rfl,by decide+kernel,by decide+kernel⟩
def tV:FS:=(bW (qK (b2 nj (ah 1) (eC (.int 1))) (ee (eNew (bN (ai (ah 0) aJ)))) j9) (ee (eNew (kh (nG (ah 1)) (aR 0) ur (cW (bV (l6 (ah 1)) (bV (eC (.str ":")) (bV (l6 (ah 0)) pz)))) ["figure"] [0]))))
def j8:List D->R D:=u6 pB tV
theorem zt(T:Tp P w K mg cl)(h:Def K mg "in_wires" ke):Callee P w K mg base 1 "in_wires" 2 j8:=by
 obtain⟨f,fd,F,hm⟩:=h;exact⟨f,fd,_,cx (k:=0) x9.2 nF.2 F zB (fun dF A outer s H E hr=>(av (cL (ba (mW hr.units) (ae 1) aj (bo _)) (aS (bb (aA (aE (aa (ae 0) ag))))) b7) (aS (bb (aA (gx rfl (cM.of (own:=["figure"]) (kp:=[0]) (kn:=["name"]) (sc:=nF.1) (N:=pB) rfl rfl (by decide+kernel)) (mZ (ae 1) rfl T.z_range) (fun _ _ _=>(aP (show List.Nodup [(Str.ofString "figure"),"name"] from by decide+kernel) rfl (Or.inl rfl))) (fun _ _ _=>gb) (fun _ _ _=>(cF (aZ (gh (ae 1)) (aZ aq (aZ (gh (ae 0)) gG))))))))))),hm,F.kp,F.binds fun _ _ _ _ _ _ us hl=>match us,hl with | [_,_],_=>rfl⟩
abbrev eg:Stmt:=top 29
noncomputable abbrev kc:List Str:=["word","parts"]
noncomputable def rL:{b:List Stmt // aX eg=b}:=⟨_,by conv=>lhs;whnf⟩
noncomputable def mP:{b:Scope // aC eg=b}:=⟨_,by conv=>lhs;whnf⟩
theorem n4:bq kc ["word"] mP.1:=⟨rfl,rfl,rfl,by decide+kernel,rfl,by decide+kernel,by decide+kernel⟩
def nB:FS:=(bW (dA 1 (vj "str" xu (ah 0) (ai (eC (.str ":")) aJ))) (ee (uD (bt c9 (ai (e2 eM (ah 1) (eC (.int 0))) aJ)) (Mx (e2 nj (e2 eM (ah 1) (eC (.int 1))) (eC (.str ""))) (e2 zu (e2 eM (ah 1) (eC (.int 2))) (eC lM))))))
def d4:List D->R D:=u6 kc nB
theorem tL(T:Tp P w K mg cl)(h:Def K mg "is_wire_form" eg)(cS:Callee P w K mg base 1 "is_name" 1 c9):Callee P w K mg base 2 "is_wire_form" 1 d4:=by
 obtain⟨f,fd,F,hm⟩:=h;exact⟨f,fd,_,cx (k:=1) rL.2 mP.2 F n4 (fun dF A outer s H E hr=>(av (bu n4.nd rfl (Or.inl rfl) (uB (ae 0) (aa aq ag))) (aS (bb (oF (bp cS hr (by decide) rfl (aa (bw (ae 1) aj (fun _ _=>rfl)) ag) (aI bD)) (oh (EY (eI (mW hr.units) (bw (ae 1) aj (fun _ _=>rfl)) aq (bo _)) (oh (eI ym (bw (ae 1) aj (fun _ _=>rfl)) (gq T.lM rfl) (by with_unfolding_all rfl)))))))))),hm,F.kp,F.binds fun _ _ _ _ _ _ us hl=>match us,hl with | [_],_=>rfl⟩
abbrev dc:Stmt:=top 30
noncomputable abbrev iu:List Str:=["words"]
noncomputable def qB:{b:List Stmt // aX dc=b}:=⟨_,by conv=>lhs;whnf⟩
noncomputable def gO:{b:Scope // aC dc=b}:=⟨_,by conv=>lhs;whnf⟩
theorem qU:bq iu ["words"] gO.1:=⟨rfl,rfl,rfl,by decide+kernel,rfl,by decide+kernel,by decide+kernel⟩
def lZ:FS:=(ee (bt D0 (ai (eNew (kh (dW (ah 0)) (aR 0) ur (bt d4 (ai (ah 0) aJ)) ["word"] [])) aJ)))
def b9:List D->R D:=u6 iu lZ
theorem qT(T:Tp P w K mg cl)(h:Def K mg "are_wire_forms" dc)(kr:Callee P w K mg base 2 "is_wire_form" 1 d4):Callee P w K mg base 3 "are_wire_forms" 1 b9:=by
 obtain⟨f,fd,F,hm⟩:=h;exact⟨f,fd,_,cx (k:=2) qB.2 gO.2 F qU (fun dF A outer s H E hr=>(aS (bb (cQ (IU rfl) rfl T.z_all PyProof.Rows.boot_all (aa (aA (gx rfl (cM.of (own:=["word"]) (kp:=[]) (kn:=[]) (sc:=gO.1) (N:=iu) rfl rfl (by decide+kernel)) (cV (ae 0)) (fun _ _ _=>(aP (show List.Nodup [(Str.ofString "word")] from by decide+kernel) rfl (Or.inl rfl))) (fun _ _ _=>gb) (fun _ _ _=>(bp kr hr (by decide) rfl (aa (ae 0) ag) (aI bD))))) ag))))),hm,F.kp,F.binds fun _ _ _ _ _ _ us hl=>match us,hl with | [_],_=>rfl⟩
abbrev gf:Stmt:=top 31
noncomputable abbrev mh:List Str:=["words"]
noncomputable def ux:{b:List Stmt // aX gf=b}:=⟨_,by conv=>lhs;whnf⟩
noncomputable def oW:{b:Scope // aC gf=b}:=⟨_,by conv=>lhs;whnf⟩
theorem vY:bq mh ["words"] oW.1:=⟨rfl,rfl,rfl,by decide+kernel,rfl,by decide+kernel,by decide+kernel⟩
def pV:FS:=(ee (uD (e2 nj (bt ph (ai (ah 0) aJ)) (eC (.int 3))) (uD (e2 nj (e2 eM (ah 0) (eC (.int 0))) (eC (.str "in"))) (uD (bt c9 (ai (e2 eM (ah 0) (eC (.int 1))) aJ)) (KZ oC (e2 eM (ah 0) (eC (.int 2))))))))
def gu:List D->R D:=u6 mh pV
theorem vQ(T:Tp P w K mg cl)(h:Def K mg "is_in_form" gf)(cS:Callee P w K mg base 1 "is_name" 1 c9):Callee P w K mg base 2 "is_in_form" 1 gu:=by
 obtain⟨f,fd,F,hm⟩:=h;exact⟨f,fd,_,cx (k:=1) ux.2 oW.2 F vY (fun dF A outer s H E hr=>(aS (bb (oF (eI (mW hr.units) (cQ oP rfl T.z_len PySem.boot_len (aa (ae 0) ag)) aj (bo _)) (oF (eI (mW hr.units) (bw (ae 0) aj (fun _ _=>rfl)) aq (bo _)) (oF (bp cS hr (by decide) rfl (aa (bw (ae 0) aj (fun _ _=>rfl)) ag) (aI bD)) (oh (Hq (kR hr) (bw (ae 0) aj (fun _ _=>rfl)) T.gd_WIDTHS rfl)))))))),hm,F.kp,F.binds fun _ _ _ _ _ _ us hl=>match us,hl with | [_],_=>rfl⟩
abbrev dU:Stmt:=top 32
noncomputable abbrev gg:List Str:=["words","wires"]
noncomputable def rS:{b:List Stmt // aX dU=b}:=⟨_,by conv=>lhs;whnf⟩
noncomputable def mS:{b:Scope // aC dU=b}:=⟨_,by conv=>lhs;whnf⟩
theorem nh:bq gg ["words"] mS.1:=⟨rfl,rfl,rfl,by decide+kernel,rfl,by decide+kernel,by decide+kernel⟩
def nk:FS:=(bW (qK (yM (b2 yb (bt ph (ai (ah 0) aJ)) (eC (.int 4))) (b2 ml (e2 eM (ah 0) (eC (.int 0))) (BV (ai (eC (.str "gate")) (ai (eC (.str "sure")) aJ))))) (ee (eC (.bl false))) j9) (bW (qK (yM (BN (wq (bt c9 (ai (e2 eM (ah 0) (eC (.int 1))) aJ)))) (Lh ja (e2 eM (ah 0) (eC (.int 2))))) (ee (eC (.bl false))) j9) (bW (dA 1 (Bo (ah 0) (lW (eC (.int 3))) ng)) (ee (uD (e2 nj (bt ph (ai (ah 1) aJ)) (yo ja (e2 eM (ah 0) (eC (.int 2))))) (bt b9 (ai (ah 1) aJ)))))))
def eh:List D->R D:=u6 gg nk
theorem s_(T:Tp P w K mg cl)(h:Def K mg "is_gate_form" dU)(cS:Callee P w K mg base 1 "is_name" 1 c9)(cC:Callee P w K mg base 3 "are_wire_forms" 1 b9):Callee P w K mg base 4 "is_gate_form" 1 eh:=by
 obtain⟨f,fd,F,hm⟩:=h;exact⟨f,fd,_,cx (k:=3) rS.2 mS.2 F nh (fun dF A outer s H E hr=>(av (cL (eD (je (ba yD (cQ oP rfl T.z_len PySem.boot_len (aa (ae 0) ag)) aj (bo _)) (jq (ba sd (bw (ae 0) aj (fun _ _=>rfl)) (AD (aa aq (aa aq ag))) (by with_unfolding_all rfl))))) (aS (bb pk)) b7) (av (cL (eD (je (A6 (qf (bp cS hr (by decide) rfl (aa (bw (ae 0) aj (fun _ _=>rfl)) ag) (aI bD)))) (jq (GK (kR hr) (bw (ae 0) aj (fun _ _=>rfl)) T.gd_KIND_WIRES rfl)))) (aS (bb pk)) b7) (av (bu nh.nd rfl (Or.inl rfl) (nD (ae 0) (ju aj) jg)) (aS (bb (oF (eI (mW hr.units) (cQ oP rfl T.z_len PySem.boot_len (aa (ae 1) ag)) (xl (bw (ae 0) aj (fun _ _=>rfl)) T.gd_KIND_WIRES rfl (fun _ _=>rfl)) (bo _)) (oh (bp cC hr (by decide) rfl (aa (ae 1) ag) (aI bD)))))))))),hm,F.kp,F.binds fun _ _ _ _ _ _ us hl=>match us,hl with | [_],_=>rfl⟩
abbrev fm:Stmt:=top 33
noncomputable abbrev ll:List Str:=["words","wires"]
noncomputable def tK:{b:List Stmt // aX fm=b}:=⟨_,by conv=>lhs;whnf⟩
noncomputable def nK:{b:Scope // aC fm=b}:=⟨_,by conv=>lhs;whnf⟩
theorem oM:bq ll ["words"] nK.1:=⟨rfl,rfl,rfl,by decide+kernel,rfl,by decide+kernel,by decide+kernel⟩
def oO:FS:=(bW (qK (yM (b2 yb (bt ph (ai (ah 0) aJ)) (eC (.int 3))) (yM (b2 Hr (e2 eM (ah 0) (eC (.int 0))) (eC (.str "out"))) (BN (wq (bt c9 (ai (e2 eM (ah 0) (eC (.int 1))) aJ)))))) (ee (eC (.bl false))) j9) (bW (dA 1 (Bo (ah 0) (lW (eC (.int 2))) ng)) (ee (uD (e2 QE (bt ph (ai (ah 1) aJ)) (eC c_)) (bt b9 (ai (ah 1) aJ))))))
def fA:List D->R D:=u6 ll oO
theorem uo(T:Tp P w K mg cl)(h:Def K mg "is_out_form" fm)(cS:Callee P w K mg base 1 "is_name" 1 c9)(cC:Callee P w K mg base 3 "are_wire_forms" 1 b9):Callee P w K mg base 4 "is_out_form" 1 fA:=by
 obtain⟨f,fd,F,hm⟩:=h;exact⟨f,fd,_,cx (k:=3) tK.2 nK.2 F oM (fun dF A outer s H E hr=>(av (cL (eD (je (ba yD (cQ oP rfl T.z_len PySem.boot_len (aa (ae 0) ag)) aj (bo _)) (je (ba (Kg hr.units) (bw (ae 0) aj (fun _ _=>rfl)) aq (bo _)) (jq (A6 (qf (bp cS hr (by decide) rfl (aa (bw (ae 0) aj (fun _ _=>rfl)) ag) (aI bD)))))))) (aS (bb pk)) b7) (av (bu oM.nd rfl (Or.inl rfl) (nD (ae 0) (ju aj) jg)) (aS (bb (oF (eI Qx (cQ oP rfl T.z_len PySem.boot_len (aa (ae 1) ag)) (gq T.c_ rfl) (bo _)) (oh (bp cC hr (by decide) rfl (aa (ae 1) ag) (aI bD))))))))),hm,F.kp,F.binds fun _ _ _ _ _ _ us hl=>match us,hl with | [_],_=>rfl⟩
abbrev b5:Stmt:=inClass (top 34) 1
noncomputable abbrev gd:List Str:=["self","name","width","wire"]
noncomputable def rK:{b:List Stmt // aX b5=b}:=⟨_,by conv=>lhs;whnf⟩
noncomputable def mL:{b:Scope // aC b5=b}:=⟨_,by conv=>lhs;whnf⟩
theorem m7:bq gd ["self","name","width"] mL.1:=⟨rfl,rfl,rfl,by decide+kernel,rfl,by decide+kernel,by decide+kernel⟩
def lO:FZ:=(pC (eO 0 "numbers" (bK 0)) (xP (ah 3)) (yO (eO 0 "numbers" (bK 0))))
def kj:FZ:=(cB (ug (xZ (NZ (nP (eO 0 "gates" (bK 0))) (nP (eO 0 "outs" (bK 0))))) (fJ 4 (ft (a9 (xP (cW (bV (eC (.str "in ")) (bV (l6 (ah 1)) (bV (eC (.str " stands behind a gate or an out")) pz))))) dj))) mi) (cB (ug (xZ (zh false (xP (ah 1)) (eO 0 "names" (bK 0)))) (fJ 5 (ft (a9 (xP (cW (bV (eC (.str "there is an in ")) (bV (l6 (ah 1)) (bV (eC (.str " ahead")) pz))))) dj))) mi) (cB (ug (xZ (Oh CL (yO (eO 0 "ins" (bK 0))) (xP (eC ko)))) (fJ 6 (ft (a9 (xP (cW (bV (eC (.str "in ")) (bV (l6 (ah 1)) (bV (eC (.str " is one too many")) pz))))) dj))) mi) (CQ (cB (pC (eO 0 "names" (bK 0)) (xP (ah 1)) (xP (eC (.bl true)))) (cB (zy (iP (dW (bt j8 (ai (ah 1) (ai (ah 2) aJ))))) (JC 3) lO) (mR (eO 0 "ins" (bK 0)) (xP (BV (ai (ah 1) (ai (ah 2) aJ)))))))))))
def cN:List V3->aM->R3 V3:=uh gd kj
def CM:List V3->aM->R3 V3:=yL gd kj
theorem d_(T:Tp P w K mg cl)(h:rT K (cl 0) "add_in" "Draft.add_in" b5)(pS:Callee P w K mg base 1 "in_wires" 2 j8):kZ P w K mg base cl 2 0 "add_in" 2 cN:=by
 obtain⟨f,fd,F,hm⟩:=h;exact⟨f,fd,_,T.C_Draft,hm,l8 (k:=1) rK.2 mL.2 F m7 (fun dF A outer s H E hr=>(bX (gE (JV.pb (Fp (nY (cm T.C_Draft T.N_Draft_gates (aT 0))) (Ax (nY (cm T.C_Draft T.N_Draft_outs (aT 0)))))) (bO (cR cP rfl T.X_NoPlace rfl T.M_NoPlace (dq (aD (ax (cF (aZ aq (aZ (gh (ae 1)) (aZ aq gG))))) bG)))) d9) (bX (gE (vM (kR hr) (ax (ae 1)) (cm T.C_Draft T.N_Draft_names (aT 0))) (bO (cR cP rfl T.X_Twice rfl T.M_Twice (dq (aD (ax (cF (aZ aq (aZ (gh (ae 1)) (aZ aq gG))))) bG)))) d9) (bX (gE (wj Cn (qg (cm T.C_Draft T.N_Draft_ins (aT 0)) rfl T.z_len) (ax (gq T.ko rfl)) (bo _)) (bO (cR cP rfl T.X_Full rfl T.M_Full (dq (aD (ax (cF (aZ aq (aZ (gh (ae 1)) (aZ aq gG))))) bG)))) d9) (qc (bE (nT (kR hr) (ax pk) (cm T.C_Draft T.N_Draft_names (aT 0)) (ax (ae 1))) (bE (Kp zR rfl (m4 (cV (bp pS hr (by decide) rfl (aa (ae 1) (aa (ae 2) ag)) (aI (aI bD))))) (m6 m7.nd rfl (Or.inl rfl)) (dQ (nT (kR hr) (qg (cm T.C_Draft T.N_Draft_numbers (aT 0)) rfl T.z_len) (cm T.C_Draft T.N_Draft_numbers (aT 0)) (ax (ae 3))))) (dQ (Ib (cm T.C_Draft T.N_Draft_ins (aT 0)) (ax (AD (aa (ae 1) (aa (ae 2) ag))))))))))))),F.binds fun _ _ _ _ _ _ us hl=>match us,hl with | [_,_,_],_=>rfl⟩
abbrev bc:Stmt:=inClass (top 34) 4
noncomputable abbrev cq:List Str:=["self","wires","wire"]
noncomputable def mV:{b:List Stmt // aX bc=b}:=⟨_,by conv=>lhs;whnf⟩
noncomputable def dG:{b:Scope // aC bc=b}:=⟨_,by conv=>lhs;whnf⟩
theorem jv:bq cq ["self","wires"] dG.1:=⟨rfl,rfl,rfl,by decide+kernel,rfl,by decide+kernel,by decide+kernel⟩
def gC:FZ:=(ug (xZ (zh true (xP (ah 2)) (eO 0 "numbers" (bK 0)))) (fJ 7 (ft (a9 (xP (cW (bV (eC (.str "there is no wire ")) (bV (l6 (ah 2)) (bV (eC (.str " ahead")) pz))))) dj))) mi)
def ef:FZ:=(cB (zy (Pa (iP (dW (ah 1)))) (JC 2) gC) (CQ (za (vz y9 (a9 (rn (iP (dW (ah 1))) (JC 0) G2 (D_ (eO 0 "numbers" (bK 1)) (xP (ah 0))) ["wire"] [0]) dj)))))
def bj:List V3->aM->R3 V3:=uh cq ef
def xi:List V3->aM->R3 V3:=yL cq ef
theorem cf(T:Tp P w K mg cl)(h:rT K (cl 0) "wire_numbers" "Draft.wire_numbers" bc):kZ P w K mg base cl 1 0 "wire_numbers" 1 bj:=by
 obtain⟨f,fd,F,hm⟩:=h;exact⟨f,fd,_,T.C_Draft,hm,l8 (k:=0) mV.2 dG.2 F jv (fun dF A outer s H E hr=>(bX (AN zR rfl (m4 (cV (ae 1))) (m6 jv.nd rfl (Or.inl rfl)) (bO (gE (Hf (kR hr) (ax (ae 2)) (cm T.C_Draft T.N_Draft_numbers (aT 0))) (bO (cR cP rfl T.X_NoWire rfl T.M_NoWire (dq (aD (ax (cF (aZ aq (aZ (gh (ae 2)) (aZ aq gG))))) bG)))) d9))) (qc (dQ (sN (BW Iz rfl T.z_tuple PyProof.Rows.boot_tuple (aD (GU rfl (cM.of (own:=["wire"]) (kp:=[0]) (kn:=["self"]) (sc:=dG.1) (N:=cq) rfl rfl (by decide+kernel)) (m4 (cV (ae 1))) (fun _ _ _=>(m6 (show List.Nodup [(Str.ofString "wire"),"self"] from by decide+kernel) rfl (Or.inl rfl))) (fun _ _ _=>uT) (fun _ _ _=>(HQ (kR hr) (cm T.C_Draft T.N_Draft_numbers (aT 1)) (ax (ae 0)) (fun _ _=>rfl)))) bG))))))),F.binds fun _ _ _ _ _ _ us hl=>match us,hl with | [_,_],_=>rfl⟩
abbrev bF:Stmt:=inClass (top 34) 2
noncomputable abbrev eF:List Str:=["self","name","kind","wires","sure"]
noncomputable def qC:{b:List Stmt // aX bF=b}:=⟨_,by conv=>lhs;whnf⟩
noncomputable def kT:{b:Scope // aC bF=b}:=⟨_,by conv=>lhs;whnf⟩
theorem qG:bq eF ["self","name","kind","wires","sure"] kT.1:=⟨rfl,rfl,rfl,by decide+kernel,rfl,by decide+kernel,by decide+kernel⟩
def iy:FZ:=(cB (ug (xZ (nP (eO 0 "outs" (bK 0)))) (fJ 4 (ft (a9 (xP (cW (bV (eC (.str "gate ")) (bV (l6 (ah 1)) (bV (eC (.str " stands behind an out")) pz))))) dj))) mi) (cB (ug (xZ (zh false (xP (ah 1)) (eO 0 "names" (bK 0)))) (fJ 5 (ft (a9 (xP (cW (bV (eC (.str "there is an in or a gate ")) (bV (l6 (ah 1)) (bV (eC (.str " ahead")) pz))))) dj))) mi) (cB (ug (xZ (Oh CL (yO (eO 0 "gates" (bK 0))) (xP (eC gm)))) (fJ 6 (ft (a9 (xP (cW (bV (eC (.str "gate ")) (bV (l6 (ah 1)) (bV (eC (.str " is one too many")) pz))))) dj))) mi) (cB (mR (uG (eO 0 "gates" (bK 0))) (zG (a9 (uG (xP (ah 2))) (a9 (qj 0 "wire_numbers" bj (uG (bK 0)) (ft (a9 (xP (ah 3)) dj))) (a9 (uG (xP (ah 4))) dj))))) (CQ (cB (pC (eO 0 "names" (bK 0)) (xP (ah 1)) (xP (eC (.bl true)))) (pC (eO 0 "numbers" (bK 0)) (xP (ah 1)) (yO (eO 0 "numbers" (bK 0))))))))))
def cy:List V3->aM->R3 V3:=uh eF iy
def A4:List V3->aM->R3 V3:=yL eF iy
theorem de(T:Tp P w K mg cl)(h:rT K (cl 0) "add_gate" "Draft.add_gate" bF)(bL:kZ P w K mg base cl 1 0 "wire_numbers" 1 bj):kZ P w K mg base cl 2 0 "add_gate" 4 cy:=by
 obtain⟨f,fd,F,hm⟩:=h;exact⟨f,fd,_,T.C_Draft,hm,l8 (k:=1) qC.2 kT.2 F qG (fun dF A outer s H E hr=>(bX (gE (nY (cm T.C_Draft T.N_Draft_outs (aT 0))) (bO (cR cP rfl T.X_NoPlace rfl T.M_NoPlace (dq (aD (ax (cF (aZ aq (aZ (gh (ae 1)) (aZ aq gG))))) bG)))) d9) (bX (gE (vM (kR hr) (ax (ae 1)) (cm T.C_Draft T.N_Draft_names (aT 0))) (bO (cR cP rfl T.X_Twice rfl T.M_Twice (dq (aD (ax (cF (aZ aq (aZ (gh (ae 1)) (aZ aq gG))))) bG)))) d9) (bX (gE (wj Cn (qg (cm T.C_Draft T.N_Draft_gates (aT 0)) rfl T.z_len) (ax (gq T.gm rfl)) (bo _)) (bO (cR cP rfl T.X_Full rfl T.M_Full (dq (aD (ax (cF (aZ aq (aZ (gh (ae 1)) (aZ aq gG))))) bG)))) d9) (bX (xJ (cm T.C_Draft T.N_Draft_gates (aT 0)) (Ad (lK (zp (ax (ae 2))) (lK (nc j0 bL hr (by decide) (aT 0) (aD (ax (ae 3)) bG) (cb gL)) (lK (zp (ax (ae 4))) yl))))) (qc (bE (nT (kR hr) (ax pk) (cm T.C_Draft T.N_Draft_names (aT 0)) (ax (ae 1))) (dQ (nT (kR hr) (qg (cm T.C_Draft T.N_Draft_numbers (aT 0)) rfl T.z_len) (cm T.C_Draft T.N_Draft_numbers (aT 0)) (ax (ae 1))))))))))),F.binds fun _ _ _ _ _ _ us hl=>match us,hl with | [_,_,_,_,_],_=>rfl⟩
abbrev bS:Stmt:=inClass (top 34) 3
noncomputable abbrev fE:List Str:=["self","name","wires"]
noncomputable def q0:{b:List Stmt // aX bS=b}:=⟨_,by conv=>lhs;whnf⟩
noncomputable def lV:{b:Scope // aC bS=b}:=⟨_,by conv=>lhs;whnf⟩
theorem rP:bq fE ["self","name","wires"] lV.1:=⟨rfl,rfl,rfl,by decide+kernel,rfl,by decide+kernel,by decide+kernel⟩
def jz:FZ:=(cB (ug (xZ (zh false (xP (ah 1)) (eO 0 "out_names" (bK 0)))) (fJ 5 (ft (a9 (xP (cW (bV (eC (.str "there is an out ")) (bV (l6 (ah 1)) (bV (eC (.str " ahead")) pz))))) dj))) mi) (cB (ug (xZ (Oh CL (yO (eO 0 "outs" (bK 0))) (xP (eC jj)))) (fJ 6 (ft (a9 (xP (cW (bV (eC (.str "out ")) (bV (l6 (ah 1)) (bV (eC (.str " is one too many")) pz))))) dj))) mi) (cB (mR (uG (eO 0 "outs" (bK 0))) (zG (a9 (uG (xP (ah 1))) (a9 (qj 0 "wire_numbers" bj (uG (bK 0)) (ft (a9 (xP (ah 2)) dj))) dj)))) (CQ (pC (eO 0 "out_names" (bK 0)) (xP (ah 1)) (xP (eC (.bl true))))))))
def cA:List V3->aM->R3 V3:=uh fE jz
def B5:List V3->aM->R3 V3:=yL fE jz
theorem dz(T:Tp P w K mg cl)(h:rT K (cl 0) "add_out" "Draft.add_out" bS)(bL:kZ P w K mg base cl 1 0 "wire_numbers" 1 bj):kZ P w K mg base cl 2 0 "add_out" 2 cA:=by
 obtain⟨f,fd,F,hm⟩:=h;exact⟨f,fd,_,T.C_Draft,hm,l8 (k:=1) q0.2 lV.2 F rP (fun dF A outer s H E hr=>(bX (gE (vM (kR hr) (ax (ae 1)) (cm T.C_Draft T.N_Draft_out_names (aT 0))) (bO (cR cP rfl T.X_Twice rfl T.M_Twice (dq (aD (ax (cF (aZ aq (aZ (gh (ae 1)) (aZ aq gG))))) bG)))) d9) (bX (gE (wj Cn (qg (cm T.C_Draft T.N_Draft_outs (aT 0)) rfl T.z_len) (ax (gq T.jj rfl)) (bo _)) (bO (cR cP rfl T.X_Full rfl T.M_Full (dq (aD (ax (cF (aZ aq (aZ (gh (ae 1)) (aZ aq gG))))) bG)))) d9) (bX (xJ (cm T.C_Draft T.N_Draft_outs (aT 0)) (Ad (lK (zp (ax (ae 1))) (lK (nc j0 bL hr (by decide) (aT 0) (aD (ax (ae 2)) bG) (cb gL)) yl)))) (qc (dQ (nT (kR hr) (ax pk) (cm T.C_Draft T.N_Draft_out_names (aT 0)) (ax (ae 1))))))))),F.binds fun _ _ _ _ _ _ us hl=>match us,hl with | [_,_,_],_=>rfl⟩
abbrev j_:Stmt:=top 35
noncomputable abbrev me:List Str:=["draft","row","words"]
noncomputable def yz:{b:List Stmt // aX j_=b}:=⟨_,by conv=>lhs;whnf⟩
noncomputable def rE:{b:Scope // aC j_=b}:=⟨_,by conv=>lhs;whnf⟩
theorem sI:bq me ["draft","row"] rE.1:=⟨rfl,rfl,rfl,by decide+kernel,rfl,by decide+kernel,by decide+kernel⟩
def pf:FZ:=(cB (CQ (lj 2 (xP (vj "str" pe (ah 1) (ai (eC (.str " ")) aJ))))) (ug (xZ (bP (wq (bt gu (ai (ah 2) aJ))))) (tP (qj 0 "add_in" cN (uG (bK 0)) (ft (a9 (xP (e2 eM (ah 2) (eC (.int 1)))) (a9 (xP (yo oC (e2 eM (ah 2) (eC (.int 2))))) dj))))) (ug (xZ (bP (wq (bt eh (ai (ah 2) aJ))))) (tP (qj 0 "add_gate" cy (uG (bK 0)) (ft (a9 (xP (e2 eM (ah 2) (eC (.int 1)))) (a9 (xP (e2 eM (ah 2) (eC (.int 2)))) (a9 (xP (Bo (ah 2) (lW (eC (.int 3))) ng)) (a9 (xP (e2 nj (e2 eM (ah 2) (eC (.int 0))) (eC (.str "sure")))) dj))))))) (ug (xZ (bP (wq (bt fA (ai (ah 2) aJ))))) (tP (qj 0 "add_out" cA (uG (bK 0)) (ft (a9 (xP (e2 eM (ah 2) (eC (.int 1)))) (a9 (xP (Bo (ah 2) (lW (eC (.int 2))) ng)) dj))))) (fJ 3 (ft (a9 (xP (cW (bV (eC (.str "a row of no form: ")) (bV (JB (ah 1)) pz)))) dj)))))))
def f_:List V3->aM->R3 V3:=uh me pf
def IY:List V3->aM->R3 V3:=yL me pf
theorem yV(T:Tp P w K mg cl)(h:Def K mg "read_row" j_)(mD:Callee P w K mg base 2 "is_in_form" 1 gu)(kD:Callee P w K mg base 4 "is_gate_form" 1 eh)(lH:Callee P w K mg base 4 "is_out_form" 1 fA)(jK:kZ P w K mg base cl 2 0 "add_in" 2 cN)(hJ:kZ P w K mg base cl 2 0 "add_gate" 4 cy)(iL:kZ P w K mg base cl 2 0 "add_out" 2 cA):fF P w K mg base cl 5 "read_row" 2 f_:=by
 obtain⟨f,fd,F,hm⟩:=h;exact⟨f,fd,_,l8 (k:=4) yz.2 rE.2 F sI (fun dF A outer s H E hr=>(bX (zW (eN sI.nd rfl (Or.inl rfl) (ax (vh (ae 1) (aa aq ag))))) (bO (gE (js (qf (bp mD hr (by decide) rfl (aa (ae 2) ag) (aI bD)))) (bO (nX (nc j0 jK hr (by decide) (aT 0) (aD (ax (bw (ae 2) aj (fun _ _=>rfl))) (aD (ax (xl (bw (ae 2) aj (fun _ _=>rfl)) T.gd_WIDTHS rfl (fun _ _=>rfl))) bG)) (cb (cb gL))))) (bO (gE (js (qf (bp kD hr (by decide) rfl (aa (ae 2) ag) (aI bD)))) (bO (nX (nc j0 hJ hr (by decide) (aT 0) (aD (ax (bw (ae 2) aj (fun _ _=>rfl))) (aD (ax (bw (ae 2) aj (fun _ _=>rfl))) (aD (ax (nD (ae 2) (ju aj) jg)) (aD (ax (eI (mW hr.units) (bw (ae 2) aj (fun _ _=>rfl)) aq (bo _))) bG)))) (cb (cb (cb (cb gL))))))) (bO (gE (js (qf (bp lH hr (by decide) rfl (aa (ae 2) ag) (aI bD)))) (bO (nX (nc j0 iL hr (by decide) (aT 0) (aD (ax (bw (ae 2) aj (fun _ _=>rfl))) (aD (ax (nD (ae 2) (ju aj) jg)) bG)) (cb (cb gL))))) (bO (cR cP rfl T.X_NoForm rfl T.M_NoForm (dq (aD (ax (cF (aZ aq (aZ (D1 (ae 1)) gG)))) bG)))))))))))),hm,F.kp,F.binds fun _ _ _ _ _ _ us hl=>match us,hl with | [_,_],_=>rfl⟩
abbrev bH:Stmt:=inClass (top 34) 0
noncomputable abbrev eG:List Str:=["self"]
noncomputable def qd:{b:List Stmt // aX bH=b}:=⟨_,by conv=>lhs;whnf⟩
noncomputable def kP:{b:Scope // aC bH=b}:=⟨_,by conv=>lhs;whnf⟩
theorem qL:bq eG ["self"] kP.1:=⟨rfl,rfl,rfl,by decide+kernel,rfl,by decide+kernel,by decide+kernel⟩
def ip:FZ:=(cB (wW 0 "ins" (bK 0) (Eg (bN aJ))) (cB (wW 0 "gates" (bK 0) (Eg (bN aJ))) (cB (wW 0 "outs" (bK 0) (Eg (bN aJ))) (cB (wW 0 "names" (bK 0) yy) (cB (wW 0 "out_names" (bK 0) yy) (wW 0 "numbers" (bK 0) yy))))))
def cU:List V3->aM->R3 V3:=uh eG ip
def Ar:List V3->aM->R3 V3:=yL eG ip
theorem c6(T:Tp P w K mg cl)(h:K3 K (cl 0) "__init__" "Draft.__init__" bH):C_ P w K mg base cl 1 0 "Draft" 0 cU:=by
 obtain⟨f,fd,F,hm⟩:=h;exact⟨f,fd,_,hm,tG (k:=0) qd.2 kP.2 F qL (fun dF A outer s H E hr=>(bE (qY T.C_Draft T.N_Draft_ins (aT 0) (zc (aE ag))) (bE (qY T.C_Draft T.N_Draft_gates (aT 0) (zc (aE ag))) (bE (qY T.C_Draft T.N_Draft_outs (aT 0) (zc (aE ag))) (bE (qY T.C_Draft T.N_Draft_names (aT 0) vJ) (bE (qY T.C_Draft T.N_Draft_out_names (aT 0) vJ) (dQ (qY T.C_Draft T.N_Draft_numbers (aT 0) vJ)))))))),T.M_Draft,F.binds fun _ _ _ _ _ _ us hl=>match us,hl with | [_],_=>rfl⟩
abbrev sF:Stmt:=top 36
noncomputable abbrev vC:List Str:=["text","rows","draft","row"]
noncomputable def IC:{b:List Stmt // aX sF=b}:=⟨_,by conv=>lhs;whnf⟩
noncomputable def Af:{b:Scope // aC sF=b}:=⟨_,by conv=>lhs;whnf⟩
theorem we:bq vC ["text"] Af.1:=⟨rfl,rfl,rfl,by decide+kernel,rfl,by decide+kernel,by decide+kernel⟩
def qh:FZ:=(tP (rF f_ (ft (a9 (bK 2) (a9 (xP (ah 3)) dj)))))
def zU:FZ:=(cB (CQ (lj 1 (xP (vj "str" pe (ah 0) (ai (eC (.str "\n")) aJ))))) (cB (ug (xZ (bP (b2 Jr (bt ph (ai (ah 1) aJ)) (eC jm)))) (fJ 2 (ft (a9 (xP (eC (.str "a text of too many rows"))) dj))) mi) (cB (CQ (lj 2 (DH 0 cU dj))) (cB (zy (Pa (iP (dW (ah 1)))) (JC 3) qh) (cB (ug (xZ (NZ (FU (nP (eO 0 "ins" (bK 2)))) (FU (nP (eO 0 "outs" (bK 2)))))) (fJ 8 (ft (a9 (xP (eC (.str "a net without an in, or without an out"))) dj))) mi) (CQ (za (zG (a9 (eO 0 "ins" (bK 2)) (a9 (eO 0 "gates" (bK 2)) (a9 (eO 0 "outs" (bK 2)) dj)))))))))))
def mv:List V3->aM->R3 V3:=uh vC zU
def O6:List V3->aM->R3 V3:=yL vC zU
theorem Ka(T:Tp P w K mg cl)(h:Def K mg "read" sF)(g8:C_ P w K mg base cl 1 0 "Draft" 0 cU)(oa:fF P w K mg base cl 5 "read_row" 2 f_):fF P w K mg base cl 6 "read" 1 mv:=by
 obtain⟨f,fd,F,hm⟩:=h;exact⟨f,fd,_,l8 (k:=5) IC.2 Af.2 F we (fun dF A outer s H E hr=>(bX (zW (eN we.nd rfl (Or.inl rfl) (ax (vh (ae 0) (aa aq ag))))) (bX (gE (js (ba DZ (cQ oP rfl T.z_len PySem.boot_len (aa (ae 1) ag)) (gq T.jm rfl) (bo _))) (bO (cR cP rfl T.X_TooLong rfl T.M_TooLong (dq (aD (ax aq) bG)))) d9) (bX (zW (eN we.nd rfl (Or.inl rfl) (Di g8 hr (by decide) rfl))) (bX (AN zR rfl (m4 (cV (ae 1))) (m6 we.nd rfl (Or.inl rfl)) (bO (nX (t8 j0 oa hr (by decide) rfl (dq (aD (aT 2) (aD (ax (ae 3)) bG))) (vG (cb (cb gL))))))) (bX (gE (JV.pb (Fp (Ah (nY (cm T.C_Draft T.N_Draft_ins (aT 2)))) (Ax (Ah (nY (cm T.C_Draft T.N_Draft_outs (aT 2))))))) (bO (cR cP rfl T.X_Open rfl T.M_Open (dq (aD (ax aq) bG)))) d9) (qc (dQ (sN (Ky (aD (cm T.C_Draft T.N_Draft_ins (aT 2)) (aD (cm T.C_Draft T.N_Draft_gates (aT 2)) (aD (cm T.C_Draft T.N_Draft_outs (aT 2)) bG))))))))))))),hm,F.kp,F.binds fun _ _ _ _ _ _ us hl=>match us,hl with | [_],_=>rfl⟩
abbrev e_:Stmt:=top 38
noncomputable abbrev oU:List Str:=["script","k"]
noncomputable def tj:{b:List Stmt // aX e_=b}:=⟨_,by conv=>lhs;whnf⟩
noncomputable def nq:{b:Scope // aC e_=b}:=⟨_,by conv=>lhs;whnf⟩
theorem uy:bq oU ["script","k"] nq.1:=⟨rfl,rfl,rfl,by decide+kernel,rfl,by decide+kernel,by decide+kernel⟩
def oZ:FS:=(bW (qK (b2 yb (ah 1) (bt ph (ai (ah 0) aJ))) (ee (e2 eM (ah 0) (ah 1))) j9) (ee (eC (.int 0))))
def i9:List D->R D:=u6 oU oZ
theorem ui(T:Tp P w K mg cl)(h:Def K mg "_law_cell_at" e_):Callee P w K mg base 1 "_law_cell_at" 2 i9:=by
 obtain⟨f,fd,F,hm⟩:=h;exact⟨f,fd,_,cx (k:=0) tj.2 nq.2 F uy (fun dF A outer s H E hr=>(av (cL (ba yD (ae 1) (cQ oP rfl T.z_len PySem.boot_len (aa (ae 0) ag)) (bo _)) (aS (bb (bw (ae 0) (ae 1) (fun _ _=>rfl)))) b7) (aS (bb aj)))),hm,F.kp,F.binds fun _ _ _ _ _ _ us hl=>match us,hl with | [_,_],_=>rfl⟩
abbrev ka:Stmt:=top 39
noncomputable abbrev md:List Str:=["cell","k","number"]
noncomputable def xn:{b:List Stmt // aX ka=b}:=⟨_,by conv=>lhs;whnf⟩
noncomputable def rG:{b:Scope // aC ka=b}:=⟨_,by conv=>lhs;whnf⟩
theorem pd:bq md ["cell","k"] rG.1:=⟨rfl,rfl,rfl,by decide+kernel,rfl,by decide+kernel,by decide+kernel⟩
def tf:FS:=(bW (qK (b2 CL (ah 0) (e2 BR (eC (.int 10)) (eC (.int 18)))) (ee (e2 il (e2 Oz (e2 Ox (ah 0) (e2 BR (eC (.int 10)) (eC (.int 18)))) (e2 um (eC (.int 28)) (ah 1))) (e2 BR (eC (.int 2)) (eC (.int 28))))) j9) (bW (dA 2 (e2 il (e2 um (e2 eP (e2 eP (ah 0) (e2 um (eC (.int 1013)) (ah 1))) (eC (.int 1))) (eC (.int 16807))) (eC (.int 2147483647)))) (bW (dA 2 (e2 il (e2 um (ah 2) (ah 2)) (eC (.int 2147483629)))) (ee (e2 ib (e2 il (e2 um (ah 2) (eC (.int 39373))) (eC (.int 2147483587))) (eC (.int 8)))))))
def cz:List D->R D:=u6 md tf
theorem yX(T:Tp P w K mg cl)(h:Def K mg "_law_stir" ka):Callee P w K mg base 1 "_law_stir" 2 cz:=by
 obtain⟨f,fd,F,hm⟩:=h;exact⟨f,fd,_,cx (k:=0) xn.2 rG.2 F pd (fun dF A outer s H E hr=>(av (cL (ba Cn (ae 0) (aQ FH aj aj) (bo _)) (aS (bb (aQ jf (aQ N8 (aQ NY (ae 0) (aQ FH aj aj)) (aQ xR aj (ae 1))) (aQ FH aj aj)))) b7) (av (bu pd.nd rfl (Or.inl rfl) (aQ jf (aQ xR (aQ fj (aQ fj (ae 0) (aQ xR aj (ae 1))) aj) aj) aj)) (av (bu pd.nd rfl (Or.inl rfl) (aQ jf (aQ xR (ae 2) (ae 2)) aj)) (aS (bb (aQ k6 (aQ jf (aQ xR (ae 2) aj) aj) aj))))))),hm,F.kp,F.binds fun _ _ _ _ _ _ us hl=>match us,hl with | [_,_],_=>rfl⟩
abbrev fu:Stmt:=top 40
noncomputable abbrev i_:List Str:=["cell","number","far","some","name","kind","width","wires","k","wire","word","first"]
noncomputable def t7:{b:List Stmt // aX fu=b}:=⟨_,by conv=>lhs;whnf⟩
noncomputable def nW:{b:Scope // aC fu=b}:=⟨_,by conv=>lhs;whnf⟩
theorem bg:bq i_ ["cell"] nW.1:=⟨rfl,rfl,rfl,by decide+kernel,rfl,by decide+kernel,by decide+kernel⟩
def fH:FS:=(bW (dA 2 (bt cz (ai (ah 0) (ai (e2 eP (eC (.int 82)) (ah 8)) aJ)))) (bW (dA 9 (e2 eP (e2 eM (ah 3) (e2 il (ah 2) (eC (.int 8)))) (e2 eM (eNew (bN (ai (eC (.str "")) (ai (eC (.str "")) (ai (eC (.str ":0")) (ai (eC (.str ":1")) (ai (eC (.str ":2")) (ai (eC (.str ":7")) aJ)))))))) (e2 il (e2 ib (ah 2) (eC (.int 8))) (eC (.int 6)))))) (xq 7 (e2 eM (eNew (bN (ai (ah 9) (ai (e2 eM (eNew (bN (ai (eC (.str "a")) (ai (eC (.str "ab")) (ai (eC (.str "b:1")) (ai (eC (.str "a:0")) aJ)))))) (e2 il (e2 ib (ah 2) (eC (.int 64))) (eC (.int 4)))) aJ)))) (e2 il (e2 ib (ah 2) (eC (.int 256))) (eC (.int 2)))))))
def oK:FS:=(bW (dA 1 (bt cz (ai (ah 0) (ai (eC (.int 80)) aJ)))) (bW (dA 2 (bt cz (ai (ah 0) (ai (eC (.int 81)) aJ)))) (bW (dA 3 (eNew (bN (ai (eC (.str "a")) (ai (eC (.str "ab")) (ai (eC (.str "b")) (ai (eC (.str "c")) (ai (eC (.str "q")) (ai (eC (.str "r")) (ai (eC (.str "s")) (ai (eC (.str "t")) aJ))))))))))) (bW (dA 4 (e2 eM (eNew (bN (ai (e2 eM (ah 3) (e2 il (ah 2) (eC (.int 8)))) (ai (e2 eP (eC (.str "ab")) (e2 eM (eC (.str "abcdefghijklmnopqrstuvwxyz")) (e2 il (e2 ib (ah 2) (eC (.int 8))) (eC (.int 26))))) aJ)))) (e2 il (e2 ib (ah 1) (eC (.int 8))) (eC (.int 2))))) (bW (dA 5 (e2 il (ah 1) (eC (.int 8)))) (bW (qK (b2 yb (ah 5) (eC (.int 2))) (bW (dA 6 (e2 eP (eC (.int 1)) (e2 il (e2 ib (ah 1) (eC (.int 16))) (eC (.int 3))))) (ee (eNew (bN (ai (vj "str" mM (eC (.str " ")) (ai (eNew (bN (ai (eC (.str "in")) (ai (ah 4) (ai (bt cStr (ai (ah 6) aJ)) aJ))))) aJ)) (ai (eC (.str "in")) (ai (ah 4) (ai (ah 6) (ai (eNew (bN aJ)) aJ))))))))) j9) (bW (y7 7 (bN aJ)) (bW (uI (nG (eC (.int 3))) (aR 8) fH) (zT 7 (bW (qK (b2 yb (ah 5) (eC (.int 6))) (bW (dA 10 (e2 eM (eNew (bN (ai (eC (.str "not")) (ai (eC (.str "and")) (ai (eC (.str "or")) (ai (eC (.str "xor")) (ai (eC (.str "vote")) aJ))))))) (e2 il (e2 ib (ah 1) (eC (.int 16))) (eC (.int 5))))) (bW (dA 7 (Bo (ah 7) ng (lW (Fh [((Sum.inr "not":Key),V.int 1),((Sum.inr "vote":Key),V.int 3)] (ah 10) (eC (.int 2)))))) (bW (dA 11 (e2 eM (eNew (bN (ai (eC (.str "gate")) (ai (eC (.str "sure")) aJ)))) (e2 il (e2 ib (ah 1) (eC (.int 80))) (eC (.int 2))))) (ee (eNew (bN (ai (vj "str" mM (eC (.str " ")) (ai (e2 eP (eNew (bN (ai (ah 11) (ai (ah 4) (ai (ah 10) aJ))))) (ah 7)) aJ)) (ai (eC (.str "gate")) (ai (ah 4) (ai (eC (.int 0)) (ai (ah 7) aJ))))))))))) j9) (bW (dA 7 (Bo (ah 7) ng (lW (e2 eP (eC (.int 1)) (e2 il (e2 ib (ah 1) (eC (.int 16))) (eC (.int 3))))))) (ee (eNew (bN (ai (vj "str" mM (eC (.str " ")) (ai (e2 eP (eNew (bN (ai (eC (.str "out")) (ai (ah 4) aJ)))) (ah 7)) aJ)) (ai (eC (.str "out")) (ai (ah 4) (ai (eC (.int 0)) (ai (ah 7) aJ)))))))))))))))))))
def fw:List D->R D:=u6 i_ oK
theorem uE(T:Tp P w K mg cl)(h:Def K mg "_law_any_row" fu)(i4:Callee P w K mg base 1 "_law_stir" 2 cz):Callee P w K mg base 2 "_law_any_row" 1 fw:=by
 obtain⟨f,fd,F,hm⟩:=h;exact⟨f,fd,_,cx (k:=1) t7.2 nW.2 F bg (fun dF A outer s H E hr=>(av (bu bg.nd rfl (Or.inl rfl) (bp i4 hr (by decide) rfl (aa (ae 0) (aa aj ag)) (aI (aI bD)))) (av (bu bg.nd rfl (Or.inl rfl) (bp i4 hr (by decide) rfl (aa (ae 0) (aa aj ag)) (aI (aI bD)))) (av (bu bg.nd rfl (Or.inl rfl) (aA (aE (aa aq (aa aq (aa aq (aa aq (aa aq (aa aq (aa aq (aa aq ag))))))))))) (av (bu bg.nd rfl (Or.inl rfl) (bw (aA (aE (aa (bw (ae 3) (aQ jf (ae 2) aj) (fun _ _=>rfl)) (aa (aQ fj aq (bw aq (aQ jf (aQ k6 (ae 2) aj) aj) (fun _ _=>rfl))) ag)))) (aQ jf (aQ k6 (ae 1) aj) aj) (fun _ _=>rfl))) (av (bu bg.nd rfl (Or.inl rfl) (aQ jf (ae 1) aj)) (av (cL (ba yD (ae 5) aj (bo _)) (av (bu bg.nd rfl (Or.inl rfl) (aQ fj aj (aQ jf (aQ k6 (ae 1) aj) aj))) (aS (bb (aA (aE (aa (p7 aq (aa (aA (aE (aa aq (aa (ae 4) (aa (pG Og rfl T.z_str PyProof.Rows.boot_str (aa (ae 6) ag)) ag))))) ag)) (aa aq (aa (ae 4) (aa (ae 6) (aa (aA (aE ag)) ag)))))))))) b7) (av (xw bg.nd rfl (Or.inl rfl) (aE ag)) (av (pX PassesOwn.never rfl (mZ aj rfl T.z_range) (aP bg.nd rfl (Or.inl rfl)) (av (bu bg.nd rfl (Or.inl rfl) (bp i4 hr (by decide) rfl (aa (ae 0) (aa (aQ fj aj (ae 8)) ag)) (aI (aI bD)))) (av (bu bg.nd rfl (Or.inl rfl) (aQ fj (bw (ae 3) (aQ jf (ae 2) aj) (fun _ _=>rfl)) (bw (aA (aE (aa aq (aa aq (aa aq (aa aq (aa aq (aa aq ag)))))))) (aQ jf (aQ k6 (ae 2) aj) aj) (fun _ _=>rfl)))) (aS (yA rfl (Or.inl rfl) (bw (aA (aE (aa (ae 9) (aa (bw (aA (aE (aa aq (aa aq (aa aq (aa aq ag)))))) (aQ jf (aQ k6 (ae 2) aj) aj) (fun _ _=>rfl)) ag)))) (aQ jf (aQ k6 (ae 2) aj) aj) (fun _ _=>rfl))))))) (xV 7 (av (cL (ba yD (ae 5) aj (bo _)) (av (bu bg.nd rfl (Or.inl rfl) (bw (aA (aE (aa aq (aa aq (aa aq (aa aq (aa aq ag))))))) (aQ jf (aQ k6 (ae 1) aj) aj) (fun _ _=>rfl))) (av (bu bg.nd rfl (Or.inl rfl) (nD (ae 7) jg (ju (Ij (kR hr) (kg m_ nJ (kg m_ nJ wK)) rfl rfl (by simp) (fun _ _ _ h=>h) (by decide) (ae 10) aj ⟨rfl,rfl,rfl,rfl⟩ (AK (kg m_ nJ (kg m_ nJ wK)) rfl rfl (by simp) (by decide)))))) (av (bu bg.nd rfl (Or.inl rfl) (bw (aA (aE (aa aq (aa aq ag)))) (aQ jf (aQ k6 (ae 1) aj) aj) (fun _ _=>rfl))) (aS (bb (aA (aE (aa (p7 aq (aa (aQ fj (aA (aE (aa (ae 11) (aa (ae 4) (aa (ae 10) ag))))) (ae 7)) ag)) (aa aq (aa (ae 4) (aa aj (aa (ae 7) ag)))))))))))) b7) (av (bu bg.nd rfl (Or.inl rfl) (nD (ae 7) jg (ju (aQ fj aj (aQ jf (aQ k6 (ae 1) aj) aj))))) (aS (bb (aA (aE (aa (p7 aq (aa (aQ fj (aA (aE (aa aq (aa (ae 4) ag)))) (ae 7)) ag)) (aa aq (aa (ae 4) (aa aj (aa (ae 7) ag))))))))))))))))))))),hm,F.kp,F.binds fun _ _ _ _ _ _ us hl=>match us,hl with | [_],_=>rfl⟩
abbrev lI:Stmt:=top 41
noncomputable abbrev qW:List Str:=["row","state","text","word","name","width","wires","words","names","outs","known"]
noncomputable def yN:{b:List Stmt // aX lI=b}:=⟨_,by conv=>lhs;whnf⟩
noncomputable def pF:{b:Scope // aC lI=b}:=⟨_,by conv=>lhs;whnf⟩
theorem dE:bq qW ["row","state"] pF.1:=⟨rfl,rfl,rfl,by decide+kernel,rfl,by decide+kernel,by decide+kernel⟩
def vf:FS:=(bW (Cg (ah 0) (xk 5 (c7 (aR 2) (c7 (aR 3) (c7 (aR 4) (c7 (aR 5) (c7 (aR 6) uS))))))) (bW (Cg (ah 1) (xk 4 (c7 (aR 7) (c7 (aR 8) (c7 (aR 9) (c7 (aR 10) uS)))))) (bW (qK (yM (rQ (b2 nj (ah 3) (eC (.str "in"))) (yM (b2 zu (eC (.str "gate")) (ah 7)) (b2 zu (eC (.str "out")) (ah 7)))) (rQ (b2 nj (ah 3) (eC (.str "gate"))) (b2 zu (eC (.str "out")) (ah 7)))) (ee (eC (.int 2))) j9) (bW (qK (yM (rQ (b2 nj (ah 3) (eC (.str "out"))) (b2 zu (ah 4) (ah 9))) (rQ (b2 Hr (ah 3) (eC (.str "out"))) (b2 zu (ah 4) (ah 8)))) (ee (eC (.int 3))) j9) (bW (qK (b2 nj (vj "list" oi (ah 7) (ai (ah 3) aJ)) (e2 Eu (eC (Ca [("in",6),("gate",60),("out",6)])) (ah 3))) (ee (eC (.int 4))) j9) (ee (e2 eM (eNew (bN (ai (LO (eC (.int 1))) (ai (eC (.int 5)) aJ)))) (bt xC (ai (e2 Hr (eNew (kh (dW (ah 6)) (aR 0) (b2 ml (ah 0) (ah 1)) (ah 0) ["wire"] [10])) (eNew (bN aJ))) aJ)))))))))
def eB:List D->R D:=u6 qW vf
theorem Cm(T:Tp P w K mg cl)(h:Def K mg "_law_due" lI):Callee P w K mg base 1 "_law_due" 2 eB:=by
 obtain⟨f,fd,F,hm⟩:=h;exact⟨f,fd,_,cx (k:=0) yN.2 pF.2 F dE (fun dF A outer s H E hr=>(av (qo (ae 0) (qD rfl (bx (aP dE.nd rfl (Or.inl rfl)) (bx (aP dE.nd rfl (Or.inl rfl)) (bx (aP dE.nd rfl (Or.inl rfl)) (bx (aP dE.nd rfl (Or.inl rfl)) (bx (aP dE.nd rfl (Or.inl rfl)) oj))))))) (av (qo (ae 1) (qD rfl (bx (aP dE.nd rfl (Or.inl rfl)) (bx (aP dE.nd rfl (Or.inl rfl)) (bx (aP dE.nd rfl (Or.inl rfl)) (bx (aP dE.nd rfl (Or.inr rfl)) oj)))))) (av (cL (eD (je (eD (nv (ba (mW hr.units) (ae 3) aq (bo _)) (lN (eD (je (ba ym aq (ae 7) (by with_unfolding_all rfl)) (jq (ba ym aq (ae 7) (by with_unfolding_all rfl)))))))) (jq (eD (nv (ba (mW hr.units) (ae 3) aq (bo _)) (lN (ba ym aq (ae 7) (by with_unfolding_all rfl)))))))) (aS (bb aj)) b7) (av (cL (eD (je (eD (nv (ba (mW hr.units) (ae 3) aq (bo _)) (lN (ba ym (ae 4) (ae 9) (by with_unfolding_all rfl))))) (jq (eD (nv (ba (Kg hr.units) (ae 3) aq (bo _)) (lN (ba ym (ae 4) (ae 8) (by with_unfolding_all rfl)))))))) (aS (bb aj)) b7) (av (cL (ba (mW hr.units) (sx (ae 7) (aa (ae 3) ag)) (Ez (kR hr) (BH [("in",6),("gate",60),("out",6)] (kg m_ nJ (kg m_ nJ (kg m_ nJ wK))) rfl rfl (by simp) (by decide) (fun _ _ _ h=>h) (by decide) rfl) (ae 3) (fun _ _=>rfl)) (bo _)) (aS (bb aj)) b7) (aS (bb (bw (aA (aE (aa (Ak aj) (aa aj ag)))) (pG EW rfl T.z_int PyProof.Rows.boot_int (aa (eI (Kg hr.units) (aA (gx rfl (cM.of (own:=["wire"]) (kp:=[10]) (kn:=["known"]) (sc:=pF.1) (N:=qW) rfl rfl (by decide+kernel)) (cV (ae 6)) (fun _ _ _=>(aP (show List.Nodup [(Str.ofString "wire"),"known"] from by decide+kernel) rfl (Or.inl rfl))) (fun _ _ _=>(ER (ba sd (ae 0) (ae 1) (by with_unfolding_all rfl)))) (fun _ _ _=>(ae 0)))) (aA (aE ag)) (bo _)) ag)) (fun _ _=>rfl)))))))))),hm,F.kp,F.binds fun _ _ _ _ _ _ us hl=>match us,hl with | [_,_],_=>rfl⟩
abbrev gp:Stmt:=top 42
noncomputable abbrev qe:List Str:=["row","state","text","word","name","width","wires","words","names","outs","known","own"]
noncomputable def uK:{b:List Stmt // aX gp=b}:=⟨_,by conv=>lhs;whnf⟩
noncomputable def oS:{b:Scope // aC gp=b}:=⟨_,by conv=>lhs;whnf⟩
theorem bQ:bq qe ["row","state"] oS.1:=⟨rfl,rfl,rfl,by decide+kernel,rfl,by decide+kernel,by decide+kernel⟩
def qr:FS:=(bW (Cg (ah 0) (xk 5 (c7 (aR 2) (c7 (aR 3) (c7 (aR 4) (c7 (aR 5) (c7 (aR 6) uS))))))) (bW (Cg (ah 1) (xk 4 (c7 (aR 7) (c7 (aR 8) (c7 (aR 9) (c7 (aR 10) uS)))))) (bW (qK (b2 nj (ah 3) (eC (.str "out"))) (ee (eNew (bN (ai (e2 eP (ah 7) (eNew (bN (ai (ah 3) aJ)))) (ai (ah 8) (ai (e2 eP (ah 9) (eNew (bN (ai (ah 4) aJ)))) (ai (ah 10) aJ))))))) j9) (bW (dA 11 (eNew (bN (ai (ah 4) aJ)))) (bW (qK (b2 Jr (ah 5) (eC (.int 1))) (dA 11 (Bo (eNew (bN (ai (e2 eP (ah 4) (eC (.str ":0"))) (ai (e2 eP (ah 4) (eC (.str ":1"))) (ai (e2 eP (ah 4) (eC (.str ":2"))) aJ))))) ng (lW (ah 5)))) j9) (ee (eNew (bN (ai (e2 eP (ah 7) (eNew (bN (ai (ah 3) aJ)))) (ai (e2 eP (ah 8) (eNew (bN (ai (ah 4) aJ)))) (ai (ah 9) (ai (e2 eP (ah 10) (ah 11)) aJ))))))))))))
def cX:List D->R D:=u6 qe qr
theorem wG(T:Tp P w K mg cl)(h:Def K mg "_law_behind" gp):Callee P w K mg base 1 "_law_behind" 2 cX:=by
 obtain⟨f,fd,F,hm⟩:=h;exact⟨f,fd,_,cx (k:=0) uK.2 oS.2 F bQ (fun dF A outer s H E hr=>(av (qo (ae 0) (qD rfl (bx (aP bQ.nd rfl (Or.inl rfl)) (bx (aP bQ.nd rfl (Or.inl rfl)) (bx (aP bQ.nd rfl (Or.inl rfl)) (bx (aP bQ.nd rfl (Or.inl rfl)) (bx (aP bQ.nd rfl (Or.inl rfl)) oj))))))) (av (qo (ae 1) (qD rfl (bx (aP bQ.nd rfl (Or.inl rfl)) (bx (aP bQ.nd rfl (Or.inl rfl)) (bx (aP bQ.nd rfl (Or.inl rfl)) (bx (aP bQ.nd rfl (Or.inl rfl)) oj)))))) (av (cL (ba (mW hr.units) (ae 3) aq (bo _)) (aS (bb (aA (aE (aa (aQ fj (ae 7) (aA (aE (aa (ae 3) ag)))) (aa (ae 8) (aa (aQ fj (ae 9) (aA (aE (aa (ae 4) ag)))) (aa (ae 10) ag)))))))) b7) (av (bu bQ.nd rfl (Or.inl rfl) (aA (aE (aa (ae 4) ag)))) (av (cL (ba DZ (ae 5) aj (bo _)) (aS (bu bQ.nd rfl (Or.inl rfl) (nD (aA (aE (aa (aQ fj (ae 4) aq) (aa (aQ fj (ae 4) aq) (aa (aQ fj (ae 4) aq) ag))))) jg (ju (ae 5))))) b7) (aS (bb (aA (aE (aa (aQ fj (ae 7) (aA (aE (aa (ae 3) ag)))) (aa (aQ fj (ae 8) (aA (aE (aa (ae 4) ag)))) (aa (ae 9) (aa (aQ fj (ae 10) (ae 11)) ag)))))))))))))),hm,F.kp,F.binds fun _ _ _ _ _ _ us hl=>match us,hl with | [_,_],_=>rfl⟩
abbrev gI:Stmt:=top 43
noncomputable abbrev jY:List Str:=["rows","state","row","due"]
noncomputable def uC:{b:List Stmt // aX gI=b}:=⟨_,by conv=>lhs;whnf⟩
noncomputable def oR:{b:Scope // aC gI=b}:=⟨_,by conv=>lhs;whnf⟩
theorem gP:bq jY ["rows"] oR.1:=⟨rfl,rfl,rfl,by decide+kernel,rfl,by decide+kernel,by decide+kernel⟩
def bZ:FS:=(bW (qK (b2 nj (e2 eM (ah 2) (eC (.int 1))) (eC (.str "bad"))) (ee (eC (.int 1))) j9) (bW (dA 3 (bt eB (ai (ah 2) (ai (ah 1) aJ)))) (bW (qK (b2 CL (ah 3) (eC (.int 0))) (ee (ah 3)) j9) (dA 1 (bt cX (ai (ah 2) (ai (ah 1) aJ)))))))
def pY:FS:=(bW (dA 1 (eNew (bN (ai (eNew (bN aJ)) (ai (eNew (bN aJ)) (ai (eNew (bN aJ)) (ai (eNew (bN aJ)) aJ))))))) (bW (uI (dW (ah 0)) (aR 2) bZ) (ee (e2 eM (eNew (bN (ai (LO (eC (.int 1))) (ai (eC (.int 6)) aJ)))) (bt xC (ai (Mx (e2 ml (eC (.str "in")) (e2 eM (ah 1) (eC (.int 0)))) (e2 ml (eC (.str "out")) (e2 eM (ah 1) (eC (.int 0))))) aJ))))))
def jZ:List D->R D:=u6 jY pY
theorem wA(T:Tp P w K mg cl)(h:Def K mg "_law_judged" gI)(j6:Callee P w K mg base 1 "_law_due" 2 eB)(eJ:Callee P w K mg base 1 "_law_behind" 2 cX):Callee P w K mg base 2 "_law_judged" 1 jZ:=by
 obtain⟨f,fd,F,hm⟩:=h;exact⟨f,fd,_,cx (k:=1) uC.2 oR.2 F gP (fun dF A outer s H E hr=>(av (bu gP.nd rfl (Or.inl rfl) (aA (aE (aa (aA (aE ag)) (aa (aA (aE ag)) (aa (aA (aE ag)) (aa (aA (aE ag)) ag))))))) (av (pX PassesOwn.never rfl (cV (ae 0)) (aP gP.nd rfl (Or.inl rfl)) (av (cL (ba (mW hr.units) (bw (ae 2) aj (fun _ _=>rfl)) aq (bo _)) (aS (bb aj)) b7) (av (bu gP.nd rfl (Or.inl rfl) (bp j6 hr (by decide) rfl (aa (ae 2) (aa (ae 1) ag)) (aI (aI bD)))) (av (cL (ba Cn (ae 3) aj (bo _)) (aS (bb (ae 3))) b7) (aS (bu gP.nd rfl (Or.inl rfl) (bp eJ hr (by decide) rfl (aa (ae 2) (aa (ae 1) ag)) (aI (aI bD))))))))) (aS (bb (bw (aA (aE (aa (Ak aj) (aa aj ag)))) (pG EW rfl T.z_int PyProof.Rows.boot_int (aa (EY (eI sd aq (bw (ae 1) aj (fun _ _=>rfl)) (by with_unfolding_all rfl)) (oh (eI sd aq (bw (ae 1) aj (fun _ _=>rfl)) (by with_unfolding_all rfl)))) ag)) (fun _ _=>rfl))))))),hm,F.kp,F.binds fun _ _ _ _ _ _ us hl=>match us,hl with | [_],_=>rfl⟩
abbrev fq:Stmt:=top 44
noncomputable abbrev e7:List Str:=["text","found","e"]
noncomputable def tQ:{b:List Stmt // aX fq=b}:=⟨_,by conv=>lhs;whnf⟩
noncomputable def nV:{b:Scope // aC fq=b}:=⟨_,by conv=>lhs;whnf⟩
theorem c4:bq e7 ["text"] nV.1:=⟨rfl,rfl,rfl,by decide+kernel,rfl,by decide+kernel,by decide+kernel⟩
def lb:FZ:=(cB (lj 1 (xP (eNew (bN aJ)))) (cB (uF (tP (rF (Gq mv) (ft (a9 (xP (ah 0)) dj)))) (fun c=>[2,3,4,5,6,7,8].contains c) 2 (cB (lj 1 (yR (a9 (k8 (bK 2) (rp [(2,true),(3,false),(4,false),(5,false),(6,false),(7,false),(8,false)])) (a9 (k8 (bK 2) (rp [(2,false),(3,true),(4,false),(5,false),(6,false),(7,false),(8,false)])) (a9 (k8 (bK 2) (rp [(2,false),(3,false),(4,true),(5,false),(6,false),(7,false),(8,false)])) (a9 (k8 (bK 2) (rp [(2,false),(3,false),(4,false),(5,true),(6,false),(7,false),(8,false)])) dj)))))) (cB (lj 1 (x2 eP (xP (ah 1)) (yR (a9 (k8 (bK 2) (rp [(2,false),(3,false),(4,false),(5,false),(6,true),(7,false),(8,false)])) (a9 (k8 (bK 2) (rp [(2,false),(3,false),(4,false),(5,false),(6,false),(7,true),(8,false)])) (a9 (k8 (bK 2) (rp [(2,false),(3,false),(4,false),(5,false),(6,false),(7,false),(8,true)])) (a9 (k8 (bK 2) (rp [(2,false),(3,false),(4,false),(5,false),(6,false),(7,false),(8,false)])) dj))))))) (cB (lj 1 (x2 eP (xP (ah 1)) (yR (a9 (k8 (bK 2) (rp [(2,false),(3,false),(4,false),(5,false),(6,false),(7,false),(8,false)])) (a9 (k8 (bK 2) (rp [(2,false),(3,false),(4,false),(5,false),(6,false),(7,false),(8,false)])) (a9 (k8 (bK 2) (rp [(2,false),(3,false),(4,false),(5,false),(6,false),(7,false),(8,false)])) (a9 (k8 (bK 2) (rp [(2,false),(3,false),(4,false),(5,false),(6,false),(7,false),(8,false)])) dj))))))) (lj 1 (x2 eP (xP (ah 1)) (yR (a9 (k8 (bK 2) (rp [(2,false),(3,false),(4,false),(5,false),(6,false),(7,false),(8,false)])) (a9 (L8 (k8 (bK 2) (rp [(2,true),(3,true),(4,true),(5,true),(6,true),(7,true),(8,true)]))) dj))))))))) (za (xP (ah 1)))))
def sH:List V3->aM->R3 V3:=uh e7 lb
def kl:List V3->aM->R3 V3:=yL e7 lb
theorem uH(T:Tp P w K mg cl)(h:Def K mg "_law_refused" fq)(si:fF P w K mg base cl 6 "read" 1 mv):qA P w K mg base cl 7 "_law_refused" 1 sH:=by
 obtain⟨f,fd,F,hm⟩:=h;exact⟨f,fd,_,tG (k:=6) tQ.2 nV.2 F c4 (fun dF A outer s H E hr=>(bE (eN c4.nd rfl (Or.inl rfl) (ax (aA (aE ag)))) (bE (K1 rfl rfl rfl (NS (mr T.E_TooLong_FaultError (mr T.E_NoForm_FaultError (mr T.E_NoPlace_FaultError (mr T.E_Twice_FaultError (mr T.E_Full_FaultError (mr T.E_NoWire_FaultError (mr T.E_Open_FaultError Kj)))))))) rfl T.M_FaultError c4.nd rfl rfl (fun pn xe E hp=>(bO (nX (t8 hp (fF.q si) hr (by decide) rfl (dq (aD (ax (ae 0)) bG)) (vG (cb gL)))))) (fun a pn=>(bE (eN c4.nd rfl (Or.inl rfl) (vU (aD (gA (aT 2) (dn (v:= .ref (cl 2)) rfl T.M_TooLong rfl) rfl rfl T.z_isinstance (ki (ak ⟨T.X_TooLong,T.I_TooLong_TooLong⟩ (ak ⟨T.X_NoForm,T.I_NoForm_TooLong⟩ (ak ⟨T.X_NoPlace,T.I_NoPlace_TooLong⟩ (ak ⟨T.X_Twice,T.I_Twice_TooLong⟩ (ak ⟨T.X_Full,T.I_Full_TooLong⟩ (ak ⟨T.X_NoWire,T.I_NoWire_TooLong⟩ (ak ⟨T.X_Open,T.I_Open_TooLong⟩ gH)))))))) T.O_TooLong) (aD (gA (aT 2) (dn (v:= .ref (cl 3)) rfl T.M_NoForm rfl) rfl rfl T.z_isinstance (ki (ak ⟨T.X_TooLong,T.I_TooLong_NoForm⟩ (ak ⟨T.X_NoForm,T.I_NoForm_NoForm⟩ (ak ⟨T.X_NoPlace,T.I_NoPlace_NoForm⟩ (ak ⟨T.X_Twice,T.I_Twice_NoForm⟩ (ak ⟨T.X_Full,T.I_Full_NoForm⟩ (ak ⟨T.X_NoWire,T.I_NoWire_NoForm⟩ (ak ⟨T.X_Open,T.I_Open_NoForm⟩ gH)))))))) T.O_NoForm) (aD (gA (aT 2) (dn (v:= .ref (cl 4)) rfl T.M_NoPlace rfl) rfl rfl T.z_isinstance (ki (ak ⟨T.X_TooLong,T.I_TooLong_NoPlace⟩ (ak ⟨T.X_NoForm,T.I_NoForm_NoPlace⟩ (ak ⟨T.X_NoPlace,T.I_NoPlace_NoPlace⟩ (ak ⟨T.X_Twice,T.I_Twice_NoPlace⟩ (ak ⟨T.X_Full,T.I_Full_NoPlace⟩ (ak ⟨T.X_NoWire,T.I_NoWire_NoPlace⟩ (ak ⟨T.X_Open,T.I_Open_NoPlace⟩ gH)))))))) T.O_NoPlace) (aD (gA (aT 2) (dn (v:= .ref (cl 5)) rfl T.M_Twice rfl) rfl rfl T.z_isinstance (ki (ak ⟨T.X_TooLong,T.I_TooLong_Twice⟩ (ak ⟨T.X_NoForm,T.I_NoForm_Twice⟩ (ak ⟨T.X_NoPlace,T.I_NoPlace_Twice⟩ (ak ⟨T.X_Twice,T.I_Twice_Twice⟩ (ak ⟨T.X_Full,T.I_Full_Twice⟩ (ak ⟨T.X_NoWire,T.I_NoWire_Twice⟩ (ak ⟨T.X_Open,T.I_Open_Twice⟩ gH)))))))) T.O_Twice) bG)))))) (bE (eN c4.nd rfl (Or.inl rfl) (Dh fj (ax (ae 1)) (vU (aD (gA (aT 2) (dn (v:= .ref (cl 6)) rfl T.M_Full rfl) rfl rfl T.z_isinstance (ki (ak ⟨T.X_TooLong,T.I_TooLong_Full⟩ (ak ⟨T.X_NoForm,T.I_NoForm_Full⟩ (ak ⟨T.X_NoPlace,T.I_NoPlace_Full⟩ (ak ⟨T.X_Twice,T.I_Twice_Full⟩ (ak ⟨T.X_Full,T.I_Full_Full⟩ (ak ⟨T.X_NoWire,T.I_NoWire_Full⟩ (ak ⟨T.X_Open,T.I_Open_Full⟩ gH)))))))) T.O_Full) (aD (gA (aT 2) (dn (v:= .ref (cl 7)) rfl T.M_NoWire rfl) rfl rfl T.z_isinstance (ki (ak ⟨T.X_TooLong,T.I_TooLong_NoWire⟩ (ak ⟨T.X_NoForm,T.I_NoForm_NoWire⟩ (ak ⟨T.X_NoPlace,T.I_NoPlace_NoWire⟩ (ak ⟨T.X_Twice,T.I_Twice_NoWire⟩ (ak ⟨T.X_Full,T.I_Full_NoWire⟩ (ak ⟨T.X_NoWire,T.I_NoWire_NoWire⟩ (ak ⟨T.X_Open,T.I_Open_NoWire⟩ gH)))))))) T.O_NoWire) (aD (gA (aT 2) (dn (v:= .ref (cl 8)) rfl T.M_Open rfl) rfl rfl T.z_isinstance (ki (ak ⟨T.X_TooLong,T.I_TooLong_Open⟩ (ak ⟨T.X_NoForm,T.I_NoForm_Open⟩ (ak ⟨T.X_NoPlace,T.I_NoPlace_Open⟩ (ak ⟨T.X_Twice,T.I_Twice_Open⟩ (ak ⟨T.X_Full,T.I_Full_Open⟩ (ak ⟨T.X_NoWire,T.I_NoWire_Open⟩ (ak ⟨T.X_Open,T.I_Open_Open⟩ gH)))))))) T.O_Open) (aD (gA (aT 2) (dn (v:= .ref (cl 9)) rfl T.M_NotPlain rfl) rfl rfl T.z_isinstance (ki (ak ⟨T.X_TooLong,T.I_TooLong_NotPlain⟩ (ak ⟨T.X_NoForm,T.I_NoForm_NotPlain⟩ (ak ⟨T.X_NoPlace,T.I_NoPlace_NotPlain⟩ (ak ⟨T.X_Twice,T.I_Twice_NotPlain⟩ (ak ⟨T.X_Full,T.I_Full_NotPlain⟩ (ak ⟨T.X_NoWire,T.I_NoWire_NotPlain⟩ (ak ⟨T.X_Open,T.I_Open_NotPlain⟩ gH)))))))) T.O_NotPlain) bG))))))) (bE (eN c4.nd rfl (Or.inl rfl) (Dh fj (ax (ae 1)) (vU (aD (gA (aT 2) (dn (v:= .ref (cl 10)) rfl T.M_NotThree rfl) rfl rfl T.z_isinstance (ki (ak ⟨T.X_TooLong,T.I_TooLong_NotThree⟩ (ak ⟨T.X_NoForm,T.I_NoForm_NotThree⟩ (ak ⟨T.X_NoPlace,T.I_NoPlace_NotThree⟩ (ak ⟨T.X_Twice,T.I_Twice_NotThree⟩ (ak ⟨T.X_Full,T.I_Full_NotThree⟩ (ak ⟨T.X_NoWire,T.I_NoWire_NotThree⟩ (ak ⟨T.X_Open,T.I_Open_NotThree⟩ gH)))))))) T.O_NotThree) (aD (gA (aT 2) (dn (v:= .ref (cl 11)) rfl T.M_NotSound rfl) rfl rfl T.z_isinstance (ki (ak ⟨T.X_TooLong,T.I_TooLong_NotSound⟩ (ak ⟨T.X_NoForm,T.I_NoForm_NotSound⟩ (ak ⟨T.X_NoPlace,T.I_NoPlace_NotSound⟩ (ak ⟨T.X_Twice,T.I_Twice_NotSound⟩ (ak ⟨T.X_Full,T.I_Full_NotSound⟩ (ak ⟨T.X_NoWire,T.I_NoWire_NotSound⟩ (ak ⟨T.X_Open,T.I_Open_NotSound⟩ gH)))))))) T.O_NotSound) (aD (gA (aT 2) (dn (v:= .ref (cl 12)) rfl T.M_NoFit rfl) rfl rfl T.z_isinstance (ki (ak ⟨T.X_TooLong,T.I_TooLong_NoFit⟩ (ak ⟨T.X_NoForm,T.I_NoForm_NoFit⟩ (ak ⟨T.X_NoPlace,T.I_NoPlace_NoFit⟩ (ak ⟨T.X_Twice,T.I_Twice_NoFit⟩ (ak ⟨T.X_Full,T.I_Full_NoFit⟩ (ak ⟨T.X_NoWire,T.I_NoWire_NoFit⟩ (ak ⟨T.X_Open,T.I_Open_NoFit⟩ gH)))))))) T.O_NoFit) (aD (gA (aT 2) (dn (v:= .ref (cl 13)) rfl T.M_NoShape rfl) rfl rfl T.z_isinstance (ki (ak ⟨T.X_TooLong,T.I_TooLong_NoShape⟩ (ak ⟨T.X_NoForm,T.I_NoForm_NoShape⟩ (ak ⟨T.X_NoPlace,T.I_NoPlace_NoShape⟩ (ak ⟨T.X_Twice,T.I_Twice_NoShape⟩ (ak ⟨T.X_Full,T.I_Full_NoShape⟩ (ak ⟨T.X_NoWire,T.I_NoWire_NoShape⟩ (ak ⟨T.X_Open,T.I_Open_NoShape⟩ gH)))))))) T.O_NoShape) bG))))))) (dQ (eN c4.nd rfl (Or.inl rfl) (Dh fj (ax (ae 1)) (vU (aD (gA (aT 2) (dn (v:= .ref (cl 14)) rfl T.M_NoneYet rfl) rfl rfl T.z_isinstance (ki (ak ⟨T.X_TooLong,T.I_TooLong_NoneYet⟩ (ak ⟨T.X_NoForm,T.I_NoForm_NoneYet⟩ (ak ⟨T.X_NoPlace,T.I_NoPlace_NoneYet⟩ (ak ⟨T.X_Twice,T.I_Twice_NoneYet⟩ (ak ⟨T.X_Full,T.I_Full_NoneYet⟩ (ak ⟨T.X_NoWire,T.I_NoWire_NoneYet⟩ (ak ⟨T.X_Open,T.I_Open_NoneYet⟩ gH)))))))) T.O_NoneYet) (aD (L9 (gA (aT 2) (GH (v:= .ty "ValueError") rfl T.z_ValueError PyProof.Rows.Boot.«ValueError» rfl) rfl rfl T.z_isinstance (ki (ak ⟨T.X_TooLong,T.I_TooLong_ValueError⟩ (ak ⟨T.X_NoForm,T.I_NoForm_ValueError⟩ (ak ⟨T.X_NoPlace,T.I_NoPlace_ValueError⟩ (ak ⟨T.X_Twice,T.I_Twice_ValueError⟩ (ak ⟨T.X_Full,T.I_Full_ValueError⟩ (ak ⟨T.X_NoWire,T.I_NoWire_ValueError⟩ (ak ⟨T.X_Open,T.I_Open_ValueError⟩ gH)))))))) T.O_ValueError)) bG))))))))))) (dQ (sN (ax (ae 1))))))),hm,F.kp,F.binds fun _ _ _ _ _ _ us hl=>match us,hl with | [_],_=>rfl⟩
abbrev gM:Stmt:=top 45
noncomputable abbrev mj:List Str:=["rows","kept","found","state","word","row","due"]
noncomputable def uk:{b:List Stmt // aX gM=b}:=⟨_,by conv=>lhs;whnf⟩
noncomputable def oX:{b:Scope // aC gM=b}:=⟨_,by conv=>lhs;whnf⟩
theorem dw:bq mj ["rows","kept"] oX.1:=⟨rfl,rfl,rfl,by decide+kernel,rfl,by decide+kernel,by decide+kernel⟩
def cE:FS:=(bW (dA 6 (bt eB (ai (ah 5) (ai (ah 3) aJ)))) (qK (rQ (b2 nj (e2 eM (ah 5) (eC (.int 1))) (ah 4)) (yM (b2 yb (ah 6) (eC (.int 0))) (b2 nj (ah 6) (ah 1)))) (bW (xq 2 (ah 5)) (qK (b2 yb (ah 6) (eC (.int 0))) (dA 3 (bt cX (ai (ah 5) (ai (ah 3) aJ)))) j9)) j9))
def cj:FS:=(uI (dW (ah 0)) (aR 5) cE)
def qy:FS:=(bW (y7 2 (bN aJ)) (bW (dA 3 (eNew (bN (ai (eNew (bN aJ)) (ai (eNew (bN aJ)) (ai (eNew (bN aJ)) (ai (eNew (bN aJ)) aJ))))))) (bW (uI (dW (eNew (bN (ai (eC (.str "in")) (ai (eC (.str "gate")) (ai (eC (.str "out")) aJ)))))) (aR 4) cj) (zT 2 (ee (ah 2))))))
def jX:List D->R D:=u6 mj qy
theorem vD(T:Tp P w K mg cl)(h:Def K mg "_law_mended" gM)(j6:Callee P w K mg base 1 "_law_due" 2 eB)(eJ:Callee P w K mg base 1 "_law_behind" 2 cX):Callee P w K mg base 2 "_law_mended" 2 jX:=by
 obtain⟨f,fd,F,hm⟩:=h;exact⟨f,fd,_,cx (k:=1) uk.2 oX.2 F dw (fun dF A outer s H E hr=>(av (xw dw.nd rfl (Or.inl rfl) (aE ag)) (av (bu dw.nd rfl (Or.inl rfl) (aA (aE (aa (aA (aE ag)) (aa (aA (aE ag)) (aa (aA (aE ag)) (aa (aA (aE ag)) ag))))))) (av (pX PassesOwn.never rfl (cV (aA (aE (aa aq (aa aq (aa aq ag)))))) (aP dw.nd rfl (Or.inl rfl)) (aS (pX PassesOwn.never rfl (cV (ae 0)) (aP dw.nd rfl (Or.inl rfl)) (av (bu dw.nd rfl (Or.inl rfl) (bp j6 hr (by decide) rfl (aa (ae 5) (aa (ae 3) ag)) (aI (aI bD)))) (aS (cL (eD (nv (ba (mW hr.units) (bw (ae 5) aj (fun _ _=>rfl)) (ae 4) (bo _)) (lN (eD (je (ba yD (ae 6) aj (bo _)) (jq (ba (mW hr.units) (ae 6) (ae 1) (bo _)))))))) (av (yA rfl (Or.inl rfl) (ae 5)) (aS (cL (ba yD (ae 6) aj (bo _)) (aS (bu dw.nd rfl (Or.inl rfl) (bp eJ hr (by decide) rfl (aa (ae 5) (aa (ae 3) ag)) (aI (aI bD))))) b7))) b7)))))) (xV 2 (aS (bb (ae 2)))))))),hm,F.kp,F.binds fun _ _ _ _ _ _ us hl=>match us,hl with | [_,_],_=>rfl⟩
abbrev Aj:Stmt:=top 46
noncomputable abbrev kU:List Str:=["script","rows","way","due","text","found","words"]
noncomputable def Lg:{b:List Stmt // aX Aj=b}:=⟨_,by conv=>lhs;whnf⟩
noncomputable def nO:{b:Scope // aC Aj=b}:=⟨_,by conv=>lhs;whnf⟩
theorem oQ:bq kU ["script"] nO.1:=⟨rfl,rfl,rfl,by decide+kernel,rfl,by decide+kernel,by decide+kernel⟩
def tq:FZ:=(cB (lj 1 (rn (iP (dW (Bo (ah 0) ng (lW (eC (.int 63)))))) (JC 0) G2 (xP (bt fw (ai (ah 0) aJ))) ["cell"] [])) (cB (lj 2 (xP (e2 il (bt cz (ai (bt i9 (ai (ah 0) (ai (eC (.int 0)) aJ))) (ai (eC (.int 90)) aJ))) (eC (.int 8))))) (cB (ug (bP (b2 Jr (ah 2) (eC (.int 1)))) (cB (ug (bP (b2 Jr (ah 2) (eC (.int 4)))) (lj 1 (xP (e2 eP (eNew (bN (ai (eNew (bN (ai (eC (.str "in a 1")) (ai (eC (.str "in")) (ai (eC (.str "a")) (ai (eC (.int 1)) (ai (eNew (bN aJ)) aJ))))))) (ai (eNew (bN (ai (eC (.str "in b 2")) (ai (eC (.str "in")) (ai (eC (.str "b")) (ai (eC (.int 2)) (ai (eNew (bN aJ)) aJ))))))) aJ)))) (ah 1)))) mi) (lj 1 (xP (bt jX (ai (ah 1) (ai (e2 eM (eNew (bN (ai (eC (.int 9)) (ai (eC (.int 9)) (ai (eC (.int 9)) (ai (eC (.int 3)) (ai (eC (.int 4)) (ai (eC (.int 5)) (ai (eC (.int 9)) (ai (eC (.int 9)) aJ)))))))))) (ah 2)) aJ)))))) mi) (cB (ug (bP (b2 nj (ah 1) (eNew (bN aJ)))) (lj 1 (xP (eNew (bN (ai (eNew (bN (ai (eC (.str "in a 1")) (ai (eC (.str "in")) (ai (eC (.str "a")) (ai (eC (.int 1)) (ai (eNew (bN aJ)) aJ))))))) aJ))))) mi) (cB (lj 3 (xP (bt jZ (ai (ah 1) aJ)))) (cB (lj 4 (xP (vj "str" mM (eC (.str "\n")) (ai (eNew (kh (dW (ah 1)) (aR 0) ur (e2 eM (ah 0) (eC (.int 0))) ["row"] [])) aJ)))) (cB (ug (bP (b2 CL (ah 3) (eC (.int 0)))) (za (x2 nj (rF kl (a9 (xP (ah 4)) dj)) (xP (eNew (kh (nG (eC (.int 14))) (aR 0) ur (e2 nj (ah 1) (ah 0)) ["k"] [3]))))) mi) (cB (lj 5 (rF mv (ft (a9 (xP (ah 4)) dj)))) (cB (lj 6 (xP (eNew (kh (dW (ah 1)) (aR 0) ur (e2 eM (ah 0) (eC (.int 1))) ["row"] [])))) (za (xT (e2 nj (eNew (kh (dW (ah 5)) (aR 0) ur (bt ph (ai (ah 0) aJ)) ["some"] [])) (eNew (kh (dW (eNew (bN (ai (eC (.str "in")) (ai (eC (.str "gate")) (ai (eC (.str "out")) aJ)))))) (aR 0) ur (vj "list" oi (ah 1) (ai (ah 0) aJ)) ["word"] [6]))))))))))))))
def P9:List V3->aM->R3 V3:=uh kU tq
def Rc:List V3->aM->R3 V3:=yL kU tq
def AJ:List D->R D:=O4 kU tq
structure Cf (K:W.Frag) (mg:Y_) (cl:Za):Prop where
 C_Draft:yd K (cl 0)
 N_Draft_ins:cZ K (cl 0) "ins"
 N_Draft_gates:cZ K (cl 0) "gates"
 N_Draft_outs:cZ K (cl 0) "outs"
 N_Draft_names:cZ K (cl 0) "names"
 N_Draft_out_names:cZ K (cl 0) "out_names"
 N_Draft_numbers:cZ K (cl 0) "numbers"
 M_Draft:mg "Draft"=some (.ref (cl 0))
 M_FaultError:mg "FaultError"=some (.ref (cl 1))
 M_TooLong:mg "TooLong"=some (.ref (cl 2))
 M_NoForm:mg "NoForm"=some (.ref (cl 3))
 M_NoPlace:mg "NoPlace"=some (.ref (cl 4))
 M_Twice:mg "Twice"=some (.ref (cl 5))
 M_Full:mg "Full"=some (.ref (cl 6))
 M_NoWire:mg "NoWire"=some (.ref (cl 7))
 M_Open:mg "Open"=some (.ref (cl 8))
 M_NotPlain:mg "NotPlain"=some (.ref (cl 9))
 M_NotThree:mg "NotThree"=some (.ref (cl 10))
 M_NotSound:mg "NotSound"=some (.ref (cl 11))
 M_NoFit:mg "NoFit"=some (.ref (cl 12))
 M_NoShape:mg "NoShape"=some (.ref (cl 13))
 M_NoneYet:mg "NoneYet"=some (.ref (cl 14))
 X_TooLong:XC K (cl 2)
 X_NoForm:XC K (cl 3)
 X_NoPlace:XC K (cl 4)
 X_Twice:XC K (cl 5)
 X_Full:XC K (cl 6)
 X_NoWire:XC K (cl 7)
 X_Open:XC K (cl 8)
 I_Open_Twice:PySem.W.kitOne K (.ref (cl 8)) (.ref (cl 5))=some false
 I_NoWire_Twice:PySem.W.kitOne K (.ref (cl 7)) (.ref (cl 5))=some false
 I_Full_Twice:PySem.W.kitOne K (.ref (cl 6)) (.ref (cl 5))=some false
 I_Twice_Twice:PySem.W.kitOne K (.ref (cl 5)) (.ref (cl 5))=some true
 I_NoPlace_Twice:PySem.W.kitOne K (.ref (cl 4)) (.ref (cl 5))=some false
 I_NoForm_Twice:PySem.W.kitOne K (.ref (cl 3)) (.ref (cl 5))=some false
 I_TooLong_Twice:PySem.W.kitOne K (.ref (cl 2)) (.ref (cl 5))=some false
 O_Twice:PySem.W.kitOne K (.type "NoneType") (.ref (cl 5))=some false
 I_Open_NoPlace:PySem.W.kitOne K (.ref (cl 8)) (.ref (cl 4))=some false
 I_NoWire_NoPlace:PySem.W.kitOne K (.ref (cl 7)) (.ref (cl 4))=some false
 I_Full_NoPlace:PySem.W.kitOne K (.ref (cl 6)) (.ref (cl 4))=some false
 I_Twice_NoPlace:PySem.W.kitOne K (.ref (cl 5)) (.ref (cl 4))=some false
 I_NoPlace_NoPlace:PySem.W.kitOne K (.ref (cl 4)) (.ref (cl 4))=some true
 I_NoForm_NoPlace:PySem.W.kitOne K (.ref (cl 3)) (.ref (cl 4))=some false
 I_TooLong_NoPlace:PySem.W.kitOne K (.ref (cl 2)) (.ref (cl 4))=some false
 O_NoPlace:PySem.W.kitOne K (.type "NoneType") (.ref (cl 4))=some false
 I_Open_NoForm:PySem.W.kitOne K (.ref (cl 8)) (.ref (cl 3))=some false
 I_NoWire_NoForm:PySem.W.kitOne K (.ref (cl 7)) (.ref (cl 3))=some false
 I_Full_NoForm:PySem.W.kitOne K (.ref (cl 6)) (.ref (cl 3))=some false
 I_Twice_NoForm:PySem.W.kitOne K (.ref (cl 5)) (.ref (cl 3))=some false
 I_NoPlace_NoForm:PySem.W.kitOne K (.ref (cl 4)) (.ref (cl 3))=some false
 I_NoForm_NoForm:PySem.W.kitOne K (.ref (cl 3)) (.ref (cl 3))=some true
 I_TooLong_NoForm:PySem.W.kitOne K (.ref (cl 2)) (.ref (cl 3))=some false
 O_NoForm:PySem.W.kitOne K (.type "NoneType") (.ref (cl 3))=some false
 I_Open_TooLong:PySem.W.kitOne K (.ref (cl 8)) (.ref (cl 2))=some false
 I_NoWire_TooLong:PySem.W.kitOne K (.ref (cl 7)) (.ref (cl 2))=some false
 I_Full_TooLong:PySem.W.kitOne K (.ref (cl 6)) (.ref (cl 2))=some false
 I_Twice_TooLong:PySem.W.kitOne K (.ref (cl 5)) (.ref (cl 2))=some false
 I_NoPlace_TooLong:PySem.W.kitOne K (.ref (cl 4)) (.ref (cl 2))=some false
 I_NoForm_TooLong:PySem.W.kitOne K (.ref (cl 3)) (.ref (cl 2))=some false
 I_TooLong_TooLong:PySem.W.kitOne K (.ref (cl 2)) (.ref (cl 2))=some true
 O_TooLong:PySem.W.kitOne K (.type "NoneType") (.ref (cl 2))=some false
 I_Open_NotPlain:PySem.W.kitOne K (.ref (cl 8)) (.ref (cl 9))=some false
 I_NoWire_NotPlain:PySem.W.kitOne K (.ref (cl 7)) (.ref (cl 9))=some false
 I_Full_NotPlain:PySem.W.kitOne K (.ref (cl 6)) (.ref (cl 9))=some false
 I_Twice_NotPlain:PySem.W.kitOne K (.ref (cl 5)) (.ref (cl 9))=some false
 I_NoPlace_NotPlain:PySem.W.kitOne K (.ref (cl 4)) (.ref (cl 9))=some false
 I_NoForm_NotPlain:PySem.W.kitOne K (.ref (cl 3)) (.ref (cl 9))=some false
 I_TooLong_NotPlain:PySem.W.kitOne K (.ref (cl 2)) (.ref (cl 9))=some false
 O_NotPlain:PySem.W.kitOne K (.type "NoneType") (.ref (cl 9))=some false
 I_Open_Open:PySem.W.kitOne K (.ref (cl 8)) (.ref (cl 8))=some true
 I_NoWire_Open:PySem.W.kitOne K (.ref (cl 7)) (.ref (cl 8))=some false
 I_Full_Open:PySem.W.kitOne K (.ref (cl 6)) (.ref (cl 8))=some false
 I_Twice_Open:PySem.W.kitOne K (.ref (cl 5)) (.ref (cl 8))=some false
 I_NoPlace_Open:PySem.W.kitOne K (.ref (cl 4)) (.ref (cl 8))=some false
 I_NoForm_Open:PySem.W.kitOne K (.ref (cl 3)) (.ref (cl 8))=some false
 I_TooLong_Open:PySem.W.kitOne K (.ref (cl 2)) (.ref (cl 8))=some false
 O_Open:PySem.W.kitOne K (.type "NoneType") (.ref (cl 8))=some false
 I_Open_NoWire:PySem.W.kitOne K (.ref (cl 8)) (.ref (cl 7))=some false
 I_NoWire_NoWire:PySem.W.kitOne K (.ref (cl 7)) (.ref (cl 7))=some true
 I_Full_NoWire:PySem.W.kitOne K (.ref (cl 6)) (.ref (cl 7))=some false
 I_Twice_NoWire:PySem.W.kitOne K (.ref (cl 5)) (.ref (cl 7))=some false
 I_NoPlace_NoWire:PySem.W.kitOne K (.ref (cl 4)) (.ref (cl 7))=some false
 I_NoForm_NoWire:PySem.W.kitOne K (.ref (cl 3)) (.ref (cl 7))=some false
 I_TooLong_NoWire:PySem.W.kitOne K (.ref (cl 2)) (.ref (cl 7))=some false
 O_NoWire:PySem.W.kitOne K (.type "NoneType") (.ref (cl 7))=some false
 I_Open_Full:PySem.W.kitOne K (.ref (cl 8)) (.ref (cl 6))=some false
 I_NoWire_Full:PySem.W.kitOne K (.ref (cl 7)) (.ref (cl 6))=some false
 I_Full_Full:PySem.W.kitOne K (.ref (cl 6)) (.ref (cl 6))=some true
 I_Twice_Full:PySem.W.kitOne K (.ref (cl 5)) (.ref (cl 6))=some false
 I_NoPlace_Full:PySem.W.kitOne K (.ref (cl 4)) (.ref (cl 6))=some false
 I_NoForm_Full:PySem.W.kitOne K (.ref (cl 3)) (.ref (cl 6))=some false
 I_TooLong_Full:PySem.W.kitOne K (.ref (cl 2)) (.ref (cl 6))=some false
 O_Full:PySem.W.kitOne K (.type "NoneType") (.ref (cl 6))=some false
 I_Open_NoShape:PySem.W.kitOne K (.ref (cl 8)) (.ref (cl 13))=some false
 I_NoWire_NoShape:PySem.W.kitOne K (.ref (cl 7)) (.ref (cl 13))=some false
 I_Full_NoShape:PySem.W.kitOne K (.ref (cl 6)) (.ref (cl 13))=some false
 I_Twice_NoShape:PySem.W.kitOne K (.ref (cl 5)) (.ref (cl 13))=some false
 I_NoPlace_NoShape:PySem.W.kitOne K (.ref (cl 4)) (.ref (cl 13))=some false
 I_NoForm_NoShape:PySem.W.kitOne K (.ref (cl 3)) (.ref (cl 13))=some false
 I_TooLong_NoShape:PySem.W.kitOne K (.ref (cl 2)) (.ref (cl 13))=some false
 O_NoShape:PySem.W.kitOne K (.type "NoneType") (.ref (cl 13))=some false
 I_Open_NoFit:PySem.W.kitOne K (.ref (cl 8)) (.ref (cl 12))=some false
 I_NoWire_NoFit:PySem.W.kitOne K (.ref (cl 7)) (.ref (cl 12))=some false
 I_Full_NoFit:PySem.W.kitOne K (.ref (cl 6)) (.ref (cl 12))=some false
 I_Twice_NoFit:PySem.W.kitOne K (.ref (cl 5)) (.ref (cl 12))=some false
 I_NoPlace_NoFit:PySem.W.kitOne K (.ref (cl 4)) (.ref (cl 12))=some false
 I_NoForm_NoFit:PySem.W.kitOne K (.ref (cl 3)) (.ref (cl 12))=some false
 I_TooLong_NoFit:PySem.W.kitOne K (.ref (cl 2)) (.ref (cl 12))=some false
 O_NoFit:PySem.W.kitOne K (.type "NoneType") (.ref (cl 12))=some false
 I_Open_NotSound:PySem.W.kitOne K (.ref (cl 8)) (.ref (cl 11))=some false
 I_NoWire_NotSound:PySem.W.kitOne K (.ref (cl 7)) (.ref (cl 11))=some false
 I_Full_NotSound:PySem.W.kitOne K (.ref (cl 6)) (.ref (cl 11))=some false
 I_Twice_NotSound:PySem.W.kitOne K (.ref (cl 5)) (.ref (cl 11))=some false
 I_NoPlace_NotSound:PySem.W.kitOne K (.ref (cl 4)) (.ref (cl 11))=some false
 I_NoForm_NotSound:PySem.W.kitOne K (.ref (cl 3)) (.ref (cl 11))=some false
 I_TooLong_NotSound:PySem.W.kitOne K (.ref (cl 2)) (.ref (cl 11))=some false
 O_NotSound:PySem.W.kitOne K (.type "NoneType") (.ref (cl 11))=some false
 I_Open_NotThree:PySem.W.kitOne K (.ref (cl 8)) (.ref (cl 10))=some false
 I_NoWire_NotThree:PySem.W.kitOne K (.ref (cl 7)) (.ref (cl 10))=some false
 I_Full_NotThree:PySem.W.kitOne K (.ref (cl 6)) (.ref (cl 10))=some false
 I_Twice_NotThree:PySem.W.kitOne K (.ref (cl 5)) (.ref (cl 10))=some false
 I_NoPlace_NotThree:PySem.W.kitOne K (.ref (cl 4)) (.ref (cl 10))=some false
 I_NoForm_NotThree:PySem.W.kitOne K (.ref (cl 3)) (.ref (cl 10))=some false
 I_TooLong_NotThree:PySem.W.kitOne K (.ref (cl 2)) (.ref (cl 10))=some false
 O_NotThree:PySem.W.kitOne K (.type "NoneType") (.ref (cl 10))=some false
 I_Open_ValueError:PySem.W.kitOne K (.ref (cl 8)) (.type "ValueError")=some true
 I_NoWire_ValueError:PySem.W.kitOne K (.ref (cl 7)) (.type "ValueError")=some true
 I_Full_ValueError:PySem.W.kitOne K (.ref (cl 6)) (.type "ValueError")=some true
 I_Twice_ValueError:PySem.W.kitOne K (.ref (cl 5)) (.type "ValueError")=some true
 I_NoPlace_ValueError:PySem.W.kitOne K (.ref (cl 4)) (.type "ValueError")=some true
 I_NoForm_ValueError:PySem.W.kitOne K (.ref (cl 3)) (.type "ValueError")=some true
 I_TooLong_ValueError:PySem.W.kitOne K (.ref (cl 2)) (.type "ValueError")=some true
 O_ValueError:PySem.W.kitOne K (.type "NoneType") (.type "ValueError")=some false
 I_Open_NoneYet:PySem.W.kitOne K (.ref (cl 8)) (.ref (cl 14))=some false
 I_NoWire_NoneYet:PySem.W.kitOne K (.ref (cl 7)) (.ref (cl 14))=some false
 I_Full_NoneYet:PySem.W.kitOne K (.ref (cl 6)) (.ref (cl 14))=some false
 I_Twice_NoneYet:PySem.W.kitOne K (.ref (cl 5)) (.ref (cl 14))=some false
 I_NoPlace_NoneYet:PySem.W.kitOne K (.ref (cl 4)) (.ref (cl 14))=some false
 I_NoForm_NoneYet:PySem.W.kitOne K (.ref (cl 3)) (.ref (cl 14))=some false
 I_TooLong_NoneYet:PySem.W.kitOne K (.ref (cl 2)) (.ref (cl 14))=some false
 O_NoneYet:PySem.W.kitOne K (.type "NoneType") (.ref (cl 14))=some false
 E_Open_FaultError:PySem.W.exmOne K (.ref (cl 8)) (.ref (cl 1))=some true
 E_NoWire_FaultError:PySem.W.exmOne K (.ref (cl 7)) (.ref (cl 1))=some true
 E_Full_FaultError:PySem.W.exmOne K (.ref (cl 6)) (.ref (cl 1))=some true
 E_Twice_FaultError:PySem.W.exmOne K (.ref (cl 5)) (.ref (cl 1))=some true
 E_NoPlace_FaultError:PySem.W.exmOne K (.ref (cl 4)) (.ref (cl 1))=some true
 E_NoForm_FaultError:PySem.W.exmOne K (.ref (cl 3)) (.ref (cl 1))=some true
 E_TooLong_FaultError:PySem.W.exmOne K (.ref (cl 2)) (.ref (cl 1))=some true
 et:rT K (cl 0) "add_in" "Draft.add_in" b5
 cu:rT K (cl 0) "wire_numbers" "Draft.wire_numbers" bc
 df:rT K (cl 0) "add_gate" "Draft.add_gate" bF
 dD:rT K (cl 0) "add_out" "Draft.add_out" bS
 dh:K3 K (cl 0) "__init__" "Draft.__init__" bH
theorem M5{K:W.Frag}{h:Heap}{mg:Y_}(X:K.In h)(G:h.Ns mainGlobals mg){C0:Addr}{C1:Addr}{C2:Addr}{C3:Addr}{C4:Addr}{C5:Addr}{C6:Addr}{C7:Addr}{C8:Addr}{C9:Addr}{Gz:Addr}{Gy:Addr}{Gv:Addr}{GC:Addr}{Gw:Addr}{f0:Addr}{W8 W6:Option Addr}{XE:Array (Option Value)}{XQ Xa Xf XZ U6 XJ:Value}{f1:Addr}{XD Xi:Option Addr}{XY:Array (Option Value)}{XR X8 Xt XM UR Xm:Value}{f2:Addr}{X5 X3:Option Addr}{Sv:Array (Option Value)}{W9 Xq Xs X_ U9 X9:Value}{f3:Addr}{Xc Xh:Option Addr}{Mt:Array (Option Value)}{Xb XU Xd XX U1 XB:Value}{f4:Addr}{Xe XO:Option Addr}{Xn:Array (Option Value)}{XW Xk Xv Xp UX X6:Value}(Sr:PySem.W.nsIn K mainGlobals "Draft"=some (some (.ref C0)))(S7:PySem.W.plainGet K C0 Str.empty=true)(RM:PySem.W.hasDictIn K C0=true)(SG:PySem.W.plainOver K C0=true)(Si:PySem.W.findIn K (.ref C0) "__setattr__"=some (some (.builtin "object.__setattr__")))(SR:PySem.W.makesIn K C0=true)(Te:PySem.W.keepIn K (.ref C0)=true)(z0:PySem.W.findIn K (.ref C0) "ins"=some none)(ue:PySem.W.findIn K (.ref C0) "gates"=some none)(xb:PySem.W.findIn K (.ref C0) "outs"=some none)(ud:PySem.W.findIn K (.ref C0) "names"=some none)(mz:PySem.W.findIn K (.ref C0) "out_names"=some none)(pN:PySem.W.findIn K (.ref C0) "numbers"=some none)(SK:PySem.W.nsIn K mainGlobals "FaultError"=some (some (.ref C1)))(Ta:PySem.W.nsIn K mainGlobals "TooLong"=some (some (.ref C2)))(SS:PySem.W.nsIn K mainGlobals "NoForm"=some (some (.ref C3)))(Sk:PySem.W.nsIn K mainGlobals "NoPlace"=some (some (.ref C4)))(Sw:PySem.W.nsIn K mainGlobals "Twice"=some (some (.ref C5)))(SA:PySem.W.nsIn K mainGlobals "Full"=some (some (.ref C6)))(Tg:PySem.W.nsIn K mainGlobals "NoWire"=some (some (.ref C7)))(S5:PySem.W.nsIn K mainGlobals "Open"=some (some (.ref C8)))(Rm:PySem.W.nsIn K mainGlobals "NotPlain"=some (some (.ref C9)))(Mp:PySem.W.nsIn K mainGlobals "NotThree"=some (some (.ref Gz)))(Ms:PySem.W.nsIn K mainGlobals "NotSound"=some (some (.ref Gy)))(Mj:PySem.W.nsIn K mainGlobals "NoFit"=some (some (.ref Gv)))(Mf:PySem.W.nsIn K mainGlobals "NoShape"=some (some (.ref GC)))(Mi:PySem.W.nsIn K mainGlobals "NoneYet"=some (some (.ref Gw)))(Ru:PySem.W.excIn K C2 DN "ValueError.__new__"=true)(RX:PySem.W.findIn K (.ref C2) "__getattribute__"=some (some (.builtin "BaseException.__getattribute__")))(Rn:PySem.W.findIn K (.ref C2) "__getattr__"=some none)(R6:PySem.W.findIn K (.ref C2) "__class__"=some (some (.builtin "object.__class__")))(RW:PySem.W.mroIn K C2 (.type "object")=some true)(Tb:PySem.W.mroIn K C2 (.type "BaseException")=some true)(R1:(PySem.W.clsIn K C2).isSome=true)(Ry:PySem.W.excIn K C3 DN "ValueError.__new__"=true)(S9:PySem.W.findIn K (.ref C3) "__getattribute__"=some (some (.builtin "BaseException.__getattribute__")))(RG:PySem.W.findIn K (.ref C3) "__getattr__"=some none)(Sa:PySem.W.findIn K (.ref C3) "__class__"=some (some (.builtin "object.__class__")))(SX:PySem.W.mroIn K C3 (.type "object")=some true)(So:PySem.W.mroIn K C3 (.type "BaseException")=some true)(Tf:(PySem.W.clsIn K C3).isSome=true)(SU:PySem.W.excIn K C4 DN "ValueError.__new__"=true)(Sd:PySem.W.findIn K (.ref C4) "__getattribute__"=some (some (.builtin "BaseException.__getattribute__")))(SE:PySem.W.findIn K (.ref C4) "__getattr__"=some none)(SQ:PySem.W.findIn K (.ref C4) "__class__"=some (some (.builtin "object.__class__")))(RC:PySem.W.mroIn K C4 (.type "object")=some true)(RY:PySem.W.mroIn K C4 (.type "BaseException")=some true)(Rq:(PySem.W.clsIn K C4).isSome=true)(Sq:PySem.W.excIn K C5 DN "ValueError.__new__"=true)(Sg:PySem.W.findIn K (.ref C5) "__getattribute__"=some (some (.builtin "BaseException.__getattribute__")))(Sj:PySem.W.findIn K (.ref C5) "__getattr__"=some none)(SV:PySem.W.findIn K (.ref C5) "__class__"=some (some (.builtin "object.__class__")))(Su:PySem.W.mroIn K C5 (.type "object")=some true)(SM:PySem.W.mroIn K C5 (.type "BaseException")=some true)(RE:(PySem.W.clsIn K C5).isSome=true)(Rr:PySem.W.excIn K C6 DN "ValueError.__new__"=true)(R9:PySem.W.findIn K (.ref C6) "__getattribute__"=some (some (.builtin "BaseException.__getattribute__")))(RP:PySem.W.findIn K (.ref C6) "__getattr__"=some none)(RO:PySem.W.findIn K (.ref C6) "__class__"=some (some (.builtin "object.__class__")))(RV:PySem.W.mroIn K C6 (.type "object")=some true)(RF:PySem.W.mroIn K C6 (.type "BaseException")=some true)(RU:(PySem.W.clsIn K C6).isSome=true)(Rt:PySem.W.excIn K C7 DN "ValueError.__new__"=true)(RQ:PySem.W.findIn K (.ref C7) "__getattribute__"=some (some (.builtin "BaseException.__getattribute__")))(Sz:PySem.W.findIn K (.ref C7) "__getattr__"=some none)(Rl:PySem.W.findIn K (.ref C7) "__class__"=some (some (.builtin "object.__class__")))(SH:PySem.W.mroIn K C7 (.type "object")=some true)(Sb:PySem.W.mroIn K C7 (.type "BaseException")=some true)(Rp:(PySem.W.clsIn K C7).isSome=true)(RZ:PySem.W.excIn K C8 DN "ValueError.__new__"=true)(SD:PySem.W.findIn K (.ref C8) "__getattribute__"=some (some (.builtin "BaseException.__getattribute__")))(Rz:PySem.W.findIn K (.ref C8) "__getattr__"=some none)(RJ:PySem.W.findIn K (.ref C8) "__class__"=some (some (.builtin "object.__class__")))(Rv:PySem.W.mroIn K C8 (.type "object")=some true)(SI:PySem.W.mroIn K C8 (.type "BaseException")=some true)(R5:(PySem.W.clsIn K C8).isSome=true)(IJ:PySem.W.specialIn K (.builtin "object.__class__") "__get__"=some (some (.builtin "getset_descriptor.__get__")))(IL:PySem.W.takesIn K (.builtin "object.__class__")=some true)(lz:PySem.W.kitOne K (.ref C8) (.ref C5)=some false)(jC:PySem.W.kitOne K (.ref C7) (.ref C5)=some false)(lA:PySem.W.kitOne K (.ref C6) (.ref C5)=some false)(kE:PySem.W.kitOne K (.ref C5) (.ref C5)=some true)(iM:PySem.W.kitOne K (.ref C4) (.ref C5)=some false)(jP:PySem.W.kitOne K (.ref C3) (.ref C5)=some false)(iH:PySem.W.kitOne K (.ref C2) (.ref C5)=some false)(t_:PySem.W.kitOne K (.type "NoneType") (.ref C5)=some false)(jA:PySem.W.kitOne K (.ref C8) (.ref C4)=some false)(gS:PySem.W.kitOne K (.ref C7) (.ref C4)=some false)(jL:PySem.W.kitOne K (.ref C6) (.ref C4)=some false)(iK:PySem.W.kitOne K (.ref C5) (.ref C4)=some false)(fW:PySem.W.kitOne K (.ref C4) (.ref C4)=some true)(hV:PySem.W.kitOne K (.ref C3) (.ref C4)=some false)(fQ:PySem.W.kitOne K (.ref C2) (.ref C4)=some false)(pL:PySem.W.kitOne K (.type "NoneType") (.ref C4)=some false)(kF:PySem.W.kitOne K (.ref C8) (.ref C3)=some false)(i8:PySem.W.kitOne K (.ref C7) (.ref C3)=some false)(kJ:PySem.W.kitOne K (.ref C6) (.ref C3)=some false)(jM:PySem.W.kitOne K (.ref C5) (.ref C3)=some false)(hX:PySem.W.kitOne K (.ref C4) (.ref C3)=some false)(iR:PySem.W.kitOne K (.ref C3) (.ref C3)=some true)(g7:PySem.W.kitOne K (.ref C2) (.ref C3)=some false)(rh:PySem.W.kitOne K (.type "NoneType") (.ref C3)=some false)(jU:PySem.W.kitOne K (.ref C8) (.ref C2)=some false)(gW:PySem.W.kitOne K (.ref C7) (.ref C2)=some false)(jV:PySem.W.kitOne K (.ref C6) (.ref C2)=some false)(iX:PySem.W.kitOne K (.ref C5) (.ref C2)=some false)(fN:PySem.W.kitOne K (.ref C4) (.ref C2)=some false)(gY:PySem.W.kitOne K (.ref C3) (.ref C2)=some false)(fL:PySem.W.kitOne K (.ref C2) (.ref C2)=some true)(pP:PySem.W.kitOne K (.type "NoneType") (.ref C2)=some false)(iI:PySem.W.kitOne K (.ref C8) (.ref C9)=some false)(fV:PySem.W.kitOne K (.ref C7) (.ref C9)=some false)(iQ:PySem.W.kitOne K (.ref C6) (.ref C9)=some false)(g4:PySem.W.kitOne K (.ref C5) (.ref C9)=some false)(eX:PySem.W.kitOne K (.ref C4) (.ref C9)=some false)(fZ:PySem.W.kitOne K (.ref C3) (.ref C9)=some false)(eV:PySem.W.kitOne K (.ref C2) (.ref C9)=some false)(n8:PySem.W.kitOne K (.type "NoneType") (.ref C9)=some false)(mJ:PySem.W.kitOne K (.ref C8) (.ref C8)=some true)(kC:PySem.W.kitOne K (.ref C7) (.ref C8)=some false)(mK:PySem.W.kitOne K (.ref C6) (.ref C8)=some false)(lq:PySem.W.kitOne K (.ref C5) (.ref C8)=some false)(jE:PySem.W.kitOne K (.ref C4) (.ref C8)=some false)(kK:PySem.W.kitOne K (.ref C3) (.ref C8)=some false)(jI:PySem.W.kitOne K (.ref C2) (.ref C8)=some false)(xf:PySem.W.kitOne K (.type "NoneType") (.ref C8)=some false)(ky:PySem.W.kitOne K (.ref C8) (.ref C7)=some false)(iF:PySem.W.kitOne K (.ref C7) (.ref C7)=some true)(kA:PySem.W.kitOne K (.ref C6) (.ref C7)=some false)(jJ:PySem.W.kitOne K (.ref C5) (.ref C7)=some false)(gR:PySem.W.kitOne K (.ref C4) (.ref C7)=some false)(iZ:PySem.W.kitOne K (.ref C3) (.ref C7)=some false)(gU:PySem.W.kitOne K (.ref C2) (.ref C7)=some false)(rg:PySem.W.kitOne K (.type "NoneType") (.ref C7)=some false)(mC:PySem.W.kitOne K (.ref C8) (.ref C6)=some false)(kx:PySem.W.kitOne K (.ref C7) (.ref C6)=some false)(mG:PySem.W.kitOne K (.ref C6) (.ref C6)=some true)(lF:PySem.W.kitOne K (.ref C5) (.ref C6)=some false)(jG:PySem.W.kitOne K (.ref C4) (.ref C6)=some false)(kI:PySem.W.kitOne K (.ref C3) (.ref C6)=some false)(jQ:PySem.W.kitOne K (.ref C2) (.ref C6)=some false)(wZ:PySem.W.kitOne K (.type "NoneType") (.ref C6)=some false)(jO:PySem.W.kitOne K (.ref C8) (.ref GC)=some false)(g6:PySem.W.kitOne K (.ref C7) (.ref GC)=some false)(jT:PySem.W.kitOne K (.ref C6) (.ref GC)=some false)(iY:PySem.W.kitOne K (.ref C5) (.ref GC)=some false)(f6:PySem.W.kitOne K (.ref C4) (.ref GC)=some false)(gZ:PySem.W.kitOne K (.ref C3) (.ref GC)=some false)(fM:PySem.W.kitOne K (.ref C2) (.ref GC)=some false)(pO:PySem.W.kitOne K (.type "NoneType") (.ref GC)=some false)(lC:PySem.W.kitOne K (.ref C8) (.ref Gv)=some false)(jD:PySem.W.kitOne K (.ref C7) (.ref Gv)=some false)(lE:PySem.W.kitOne K (.ref C6) (.ref Gv)=some false)(kq:PySem.W.kitOne K (.ref C5) (.ref Gv)=some false)(iE:PySem.W.kitOne K (.ref C4) (.ref Gv)=some false)(jH:PySem.W.kitOne K (.ref C3) (.ref Gv)=some false)(iJ:PySem.W.kitOne K (.ref C2) (.ref Gv)=some false)(uf:PySem.W.kitOne K (.type "NoneType") (.ref Gv)=some false)(iS:PySem.W.kitOne K (.ref C8) (.ref Gy)=some false)(fO:PySem.W.kitOne K (.ref C7) (.ref Gy)=some false)(iO:PySem.W.kitOne K (.ref C6) (.ref Gy)=some false)(gT:PySem.W.kitOne K (.ref C5) (.ref Gy)=some false)(eW:PySem.W.kitOne K (.ref C4) (.ref Gy)=some false)(f7:PySem.W.kitOne K (.ref C3) (.ref Gy)=some false)(eR:PySem.W.kitOne K (.ref C2) (.ref Gy)=some false)(n9:PySem.W.kitOne K (.type "NoneType") (.ref Gy)=some false)(iG:PySem.W.kitOne K (.ref C8) (.ref Gz)=some false)(fR:PySem.W.kitOne K (.ref C7) (.ref Gz)=some false)(i3:PySem.W.kitOne K (.ref C6) (.ref Gz)=some false)(g_:PySem.W.kitOne K (.ref C5) (.ref Gz)=some false)(eS:PySem.W.kitOne K (.ref C4) (.ref Gz)=some false)(fY:PySem.W.kitOne K (.ref C3) (.ref Gz)=some false)(eU:PySem.W.kitOne K (.ref C2) (.ref Gz)=some false)(n_:PySem.W.kitOne K (.type "NoneType") (.ref Gz)=some false)(fP:PySem.W.kitOne K (.ref C8) (.type "ValueError")=some true)(eA:PySem.W.kitOne K (.ref C7) (.type "ValueError")=some true)(fX:PySem.W.kitOne K (.ref C6) (.type "ValueError")=some true)(eQ:PySem.W.kitOne K (.ref C5) (.type "ValueError")=some true)(dN:PySem.W.kitOne K (.ref C4) (.type "ValueError")=some true)(en:PySem.W.kitOne K (.ref C3) (.type "ValueError")=some true)(dO:PySem.W.kitOne K (.ref C2) (.type "ValueError")=some true)(lB:PySem.W.kitOne K (.type "NoneType") (.type "ValueError")=some false)(jS:PySem.W.kitOne K (.ref C8) (.ref Gw)=some false)(g9:PySem.W.kitOne K (.ref C7) (.ref Gw)=some false)(jN:PySem.W.kitOne K (.ref C6) (.ref Gw)=some false)(i0:PySem.W.kitOne K (.ref C5) (.ref Gw)=some false)(fT:PySem.W.kitOne K (.ref C4) (.ref Gw)=some false)(g5:PySem.W.kitOne K (.ref C3) (.ref Gw)=some false)(f9:PySem.W.kitOne K (.ref C2) (.ref Gw)=some false)(pJ:PySem.W.kitOne K (.type "NoneType") (.ref Gw)=some false)(fU:PySem.W.exmOne K (.ref C8) (.ref C1)=some true)(eu:PySem.W.exmOne K (.ref C7) (.ref C1)=some true)(fS:PySem.W.exmOne K (.ref C6) (.ref C1)=some true)(eT:PySem.W.exmOne K (.ref C5) (.ref C1)=some true)(dM:PySem.W.exmOne K (.ref C4) (.ref C1)=some true)(eo:PySem.W.exmOne K (.ref C3) (.ref C1)=some true)(dJ:PySem.W.exmOne K (.ref C2) (.ref C1)=some true)(kz:PySem.W.findIn K (.ref C0) "add_in"=some (some (.ref f0)))(kH:PySem.W.isFn K (.ref f0)=true)(kG:K.lookup f0=some ⟨XQ,W8, .func (PySem.W.fnOf "add_in" "Draft.add_in" (jb b5) (aX b5) (aC b5) .none Xa Xf XZ W6 U6 XJ),XE⟩)(d_:PySem.W.codeIn K U6 "Draft.add_in"=true)(hU:PySem.W.keepIn K (.ref f0)=true)(er:PySem.W.findIn K (.ref C0) "wire_numbers"=some (some (.ref f1)))(el:PySem.W.isFn K (.ref f1)=true)(ei:K.lookup f1=some ⟨XR,XD, .func (PySem.W.fnOf "wire_numbers" "Draft.wire_numbers" (jb bc) (aX bc) (aC bc) .none X8 Xt XM Xi UR Xm),XY⟩)(cf:PySem.W.codeIn K UR "Draft.wire_numbers"=true)(cY:PySem.W.keepIn K (.ref f1)=true)(iB:PySem.W.findIn K (.ref C0) "add_gate"=some (some (.ref f2)))(iU:PySem.W.isFn K (.ref f2)=true)(iA:K.lookup f2=some ⟨W9,X5, .func (PySem.W.fnOf "add_gate" "Draft.add_gate" (jb bF) (aX bF) (aC bF) .none Xq Xs X_ X3 U9 X9),Sv⟩)(de:PySem.W.codeIn K U9 "Draft.add_gate"=true)(eK:PySem.W.keepIn K (.ref f2)=true)(jR:PySem.W.findIn K (.ref C0) "add_out"=some (some (.ref f3)))(jB:PySem.W.isFn K (.ref f3)=true)(jF:K.lookup f3=some ⟨Xb,Xc, .func (PySem.W.fnOf "add_out" "Draft.add_out" (jb bS) (aX bS) (aC bS) .none XU Xd XX Xh U1 XB),Mt⟩)(dz:PySem.W.codeIn K U1 "Draft.add_out"=true)(fI:PySem.W.keepIn K (.ref f3)=true)(iW:PySem.W.findIn K (.ref C0) "__init__"=some (some (.ref f4)))(i5:PySem.W.isFn K (.ref f4)=true)(iT:K.lookup f4=some ⟨XW,Xe, .func (PySem.W.fnOf "__init__" "Draft.__init__" (jb bH) (aX bH) (aC bH) .none Xk Xv Xp XO UX X6),Xn⟩)(c6:PySem.W.codeIn K UX "Draft.__init__"=true)(iV:PySem.W.keepIn K (.ref f4)=true):∃cl,Cf K mg cl:=by
 exact⟨fun n=>if n=0 then C0 else if n=1 then C1 else if n=2 then C2 else if n=3 then C3 else if n=4 then C4 else if n=5 then C5 else if n=6 then C6 else if n=7 then C7 else if n=8 then C8 else if n=9 then C9 else if n=10 then Gz else if n=11 then Gy else if n=12 then Gv else if n=13 then GC else Gw,⟨S7,RM,SG,Si⟩,z0,ue,xb,ud,mz,pN,PySem.W.mg_of X G Sr,PySem.W.mg_of X G SK,PySem.W.mg_of X G Ta,PySem.W.mg_of X G SS,PySem.W.mg_of X G Sk,PySem.W.mg_of X G Sw,PySem.W.mg_of X G SA,PySem.W.mg_of X G Tg,PySem.W.mg_of X G S5,PySem.W.mg_of X G Rm,PySem.W.mg_of X G Mp,PySem.W.mg_of X G Ms,PySem.W.mg_of X G Mj,PySem.W.mg_of X G Mf,PySem.W.mg_of X G Mi,⟨Ru,RX,Rn,R6,IJ,IL,RW,Tb,R1⟩,⟨Ry,S9,RG,Sa,IJ,IL,SX,So,Tf⟩,⟨SU,Sd,SE,SQ,IJ,IL,RC,RY,Rq⟩,⟨Sq,Sg,Sj,SV,IJ,IL,Su,SM,RE⟩,⟨Rr,R9,RP,RO,IJ,IL,RV,RF,RU⟩,⟨Rt,RQ,Sz,Rl,IJ,IL,SH,Sb,Rp⟩,⟨RZ,SD,Rz,RJ,IJ,IL,Rv,SI,R5⟩,lz,jC,lA,kE,iM,jP,iH,t_,jA,gS,jL,iK,fW,hV,fQ,pL,kF,i8,kJ,jM,hX,iR,g7,rh,jU,gW,jV,iX,fN,gY,fL,pP,iI,fV,iQ,g4,eX,fZ,eV,n8,mJ,kC,mK,lq,jE,kK,jI,xf,ky,iF,kA,jJ,gR,iZ,gU,rg,mC,kx,mG,lF,jG,kI,jQ,wZ,jO,g6,jT,iY,f6,gZ,fM,pO,lC,jD,lE,kq,iE,jH,iJ,uf,iS,fO,iO,gT,eW,f7,eR,n9,iG,fR,i3,g_,eS,fY,eU,n_,fP,eA,fX,eQ,dN,en,dO,lB,jS,g9,jN,i0,fT,g5,f9,pJ,fU,eu,fS,eT,dM,eo,dJ,⟨_,_,qR (st:=b5) kG d_ hU,⟨kz,kH,hU⟩⟩,⟨_,_,qR (st:=bc) ei cf cY,⟨er,el,cY⟩⟩,⟨_,_,qR (st:=bF) iA de eK,⟨iB,iU,eK⟩⟩,⟨_,_,qR (st:=bS) jF dz fI,⟨jR,jB,fI⟩⟩,⟨_,_,qR (st:=bH) iT c6 iV,⟨SR,iW,i5,Te⟩⟩⟩
theorem LA{K:W.Frag}{mg:Y_}{f:Addr}{fd:FuncData}{cl:Za}(T:Tp P w K mg cl)(ri:Def K mg "is_name" l7)(pR:Def K mg "in_wires" ke)(kB:Def K mg "is_wire_form" eg)(iC:Def K mg "are_wire_forms" dc)(my:Def K mg "is_in_form" gf)(ku:Def K mg "is_gate_form" dU)(lD:Def K mg "is_out_form" fm)(et:rT K (cl 0) "add_in" "Draft.add_in" b5)(cu:rT K (cl 0) "wire_numbers" "Draft.wire_numbers" bc)(df:rT K (cl 0) "add_gate" "Draft.add_gate" bF)(dD:rT K (cl 0) "add_out" "Draft.add_out" bS)(pM:Def K mg "read_row" j_)(dh:K3 K (cl 0) "__init__" "Draft.__init__" bH)(z7:Def K mg "read" sF)(lu:Def K mg "_law_cell_at" e_)(pQ:Def K mg "_law_stir" ka)(lr:Def K mg "_law_any_row" fu)(q_:Def K mg "_law_due" lI)(mH:Def K mg "_law_behind" gp)(mB:Def K mg "_law_judged" gI)(lx:Def K mg "_law_refused" fq)(mF:Def K mg "_law_mended" gM)(F:zw K "law" "law" Aj f fd):jt P w K mg base uV 8 f fd ["script"] (GW K 1 AJ):=by
 have cS:=B8 (P:=P) (w:=w) (base:=base) T ri;have pS:=zt (P:=P) (w:=w) (base:=base) T pR;have kr:=tL (P:=P) (w:=w) (base:=base) T kB cS;have cC:=qT (P:=P) (w:=w) (base:=base) T iC kr;have mD:=vQ (P:=P) (w:=w) (base:=base) T my cS;have kD:=s_ (P:=P) (w:=w) (base:=base) T ku cS cC;have lH:=uo (P:=P) (w:=w) (base:=base) T lD cS cC;have jK:kZ P w K mg base cl 2 0 "add_in" 2 cN:=d_ T et pS;have bL:kZ P w K mg base cl 1 0 "wire_numbers" 1 bj:=cf T cu;have hJ:kZ P w K mg base cl 2 0 "add_gate" 4 cy:=de T df bL;have iL:kZ P w K mg base cl 2 0 "add_out" 2 cA:=dz T dD bL;have oa:fF P w K mg base cl 5 "read_row" 2 f_:=yV T pM mD kD lH jK hJ iL;have g8:=c6 (P:=P) (w:=w) (base:=base) T dh;have si:fF P w K mg base cl 6 "read" 1 mv:=Ka T z7 g8 oa;have C_law_cell_at:=ui (P:=P) (w:=w) (base:=base) T lu;have i4:=yX (P:=P) (w:=w) (base:=base) T pQ;have C_law_any_row:=uE (P:=P) (w:=w) (base:=base) T lr i4;have j6:=Cm (P:=P) (w:=w) (base:=base) T q_;have eJ:=wG (P:=P) (w:=w) (base:=base) T mH;have C_law_judged:=wA (P:=P) (w:=w) (base:=base) T mB j6 eJ;have XK_law_refused:=uH (P:=P) (w:=w) (base:=base) T lx si;have XP_law_refused:=XK_law_refused.p;have C_law_mended:=vD (P:=P) (w:=w) (base:=base) T mF j6 eJ;exact(tG (cl:=cl) (N:=kU) (F:=tq) (k:=7) Lg.2 nO.2 F oQ (fun dF A outer s H E hr=>(bE (zE rfl oQ.nd rfl rfl (cM.of (own:=["cell"]) (kp:=[]) (kn:=[]) (sc:=nO.1) (N:=kU) rfl rfl (by decide+kernel)) (m4 (cV (nD (ae 0) jg (ju aj)))) (fun _ _ _=>(m6 (show List.Nodup [(Str.ofString "cell")] from by decide+kernel) rfl (Or.inl rfl))) (fun _ _ _=>uT) (fun _ _ _=>(ax (bp C_law_any_row hr (by decide) rfl (aa (ae 0) ag) (aI bD))))) (bE (eN oQ.nd rfl (Or.inl rfl) (ax (aQ jf (bp i4 hr (by decide) rfl (aa (bp C_law_cell_at hr (by decide) rfl (aa (ae 0) (aa aj ag)) (aI (aI bD))) (aa aj ag)) (aI (aI bD))) aj))) (bE (AZ (js (ba DZ (ae 2) aj (bo _))) (bE (AZ (js (ba DZ (ae 2) aj (bo _))) (dQ (eN oQ.nd rfl (Or.inl rfl) (ax (aQ fj (aA (aE (aa (aA (aE (aa aq (aa aq (aa aq (aa aj (aa (aA (aE ag)) ag))))))) (aa (aA (aE (aa aq (aa aq (aa aq (aa aj (aa (aA (aE ag)) ag))))))) ag)))) (ae 1))))) sg) (dQ (eN oQ.nd rfl (Or.inl rfl) (ax (bp C_law_mended hr (by decide) rfl (aa (ae 1) (aa (bw (aA (aE (aa aj (aa aj (aa aj (aa aj (aa aj (aa aj (aa aj (aa aj ag)))))))))) (ae 2) (fun _ _=>rfl)) ag)) (aI (aI bD))))))) sg) (bE (AZ (js (ba (mW hr.units) (ae 1) (aA (aE ag)) (bo _))) (dQ (eN oQ.nd rfl (Or.inl rfl) (ax (aA (aE (aa (aA (aE (aa aq (aa aq (aa aq (aa aj (aa (aA (aE ag)) ag))))))) ag)))))) sg) (bE (eN oQ.nd rfl (Or.inr rfl) (ax (bp C_law_judged hr (by decide) rfl (aa (ae 1) ag) (aI bD)))) (bE (eN oQ.nd rfl (Or.inl rfl) (ax (p7 aq (aa (aA (gx rfl (cM.of (own:=["row"]) (kp:=[]) (kn:=[]) (sc:=nO.1) (N:=kU) rfl rfl (by decide+kernel)) (cV (ae 1)) (fun _ _ _=>(aP (show List.Nodup [(Str.ofString "row")] from by decide+kernel) rfl (Or.inl rfl))) (fun _ _ _=>gb) (fun _ _ _=>(bw (ae 0) aj (fun _ _=>rfl))))) ag)))) (bE (AZ (js (ba Cn (ae 3) aj (bo _))) (dQ (sN (JS (mW hr.units) (Hc XP_law_refused hr (by decide) rfl (aD (ax (ae 4)) bG) (cb gL)) (ax (aA (gx rfl (cM.of (own:=["k"]) (kp:=[3]) (kn:=["due"]) (sc:=nO.1) (N:=kU) rfl rfl (by decide+kernel)) (mZ aj rfl T.z_range) (fun _ _ _=>(aP (show List.Nodup [(Str.ofString "k"),"due"] from by decide+kernel) rfl (Or.inl rfl))) (fun _ _ _=>gb) (fun _ _ _=>(eI (mW hr.units) (ae 1) (ae 0) (bo _)))))) (bo _)))) sg) (bE (eN oQ.nd rfl (Or.inl rfl) (K7 (t8 JM si hr (by decide) rfl (dq (aD (ax (ae 4)) bG)) (vG (cb gL))))) (bE (eN oQ.nd rfl (Or.inr rfl) (ax (aA (gx rfl (cM.of (own:=["row"]) (kp:=[]) (kn:=[]) (sc:=nO.1) (N:=kU) rfl rfl (by decide+kernel)) (cV (ae 1)) (fun _ _ _=>(aP (show List.Nodup [(Str.ofString "row")] from by decide+kernel) rfl (Or.inl rfl))) (fun _ _ _=>gb) (fun _ _ _=>(bw (ae 0) aj (fun _ _=>rfl))))))) (dQ (sN (G9 (eI (mW hr.units) (aA (gx rfl (cM.of (own:=["some"]) (kp:=[]) (kn:=[]) (sc:=nO.1) (N:=kU) rfl rfl (by decide+kernel)) (cV (ae 5)) (fun _ _ _=>(aP (show List.Nodup [(Str.ofString "some")] from by decide+kernel) rfl (Or.inl rfl))) (fun _ _ _=>gb) (fun _ _ _=>(cQ oP rfl T.z_len PySem.boot_len (aa (ae 0) ag))))) (aA (gx rfl (cM.of (own:=["word"]) (kp:=[6]) (kn:=["words"]) (sc:=nO.1) (N:=kU) rfl rfl (by decide+kernel)) (cV (aA (aE (aa aq (aa aq (aa aq ag)))))) (fun _ _ _=>(aP (show List.Nodup [(Str.ofString "word"),"words"] from by decide+kernel) rfl (Or.inl rfl))) (fun _ _ _=>gb) (fun _ _ _=>(sx (ae 1) (aa (ae 0) ag))))) (bo _)))))))))))))))).imp fun _ _ _ _ h=>L5 h
end K04
end
section
set_option maxHeartbeats 1000000
namespace K04
open PySem PySem.Spec PyProof.Rows L2 L3 MT JT TX
theorem l_{w:Str}(h:w.length<=10000000):c9 [.str w]= .ok (.bl (isNm w)):=by
 have hz:sizeLine=16777216:=sizeLine_eq;unfold c9 uW;have e:isNm w=(!(decide (w.length < 1) || (decide (8 < w.length) || BX.contains w)) && low w):=by
  unfold isNm;by_cases h1:1<=w.length
  .rw [decide_eq_true h1,decide_eq_false (by omega:¬w.length < 1)]
   by_cases h2:w.length<=8
   .rw [decide_eq_true h2,decide_eq_false (by omega:¬8 < w.length)];simp
   .rw [decide_eq_false h2,decide_eq_true (by omega:8 < w.length)];simp
  .rw [decide_eq_false h1,decide_eq_true (by omega:w.length < 1)];simp
 rw[e];refine d5 (Be (k9 (ck (a:=nI w.length) (b:=nI 1) (aN (ds:=[.str w]) rfl (len_str h)) rfl (uj _ _)) fun _=>k9 (ck (a:=nI w.length) (b:=nI 8) (aN (ds:=[.str w]) rfl (len_str h)) rfl (Er _ _)) fun _=>ck (a:= .str w) (b:= .tup (BX.map .str)) rfl rfl (DT w BX)) fun _=>bU ?_)
 refine aN (ds:=[.lst ((w.cps.toList.map fun c=>decide (97<=c/\c<=122)).map D.bl)]) (au (aK (gQ (ds:=w.cps.toList.map fun c=> .str ⟨#[c]⟩) rfl (by rw[List.length_map,Array.length_toList];show w.length<=_;omega) ?_)) rfl) ?_
 .rw [List.map_map];exact NT.d6 (fun c=> .str ⟨#[c]⟩) _ fun c hc=>⟨[.val (.str ⟨#[c]⟩)],rfl,rfl,aH (a:= .str ⟨#[c]⟩) (b:= .str He) rfl rfl (JU c)⟩
 .rw [DW,List.all_map];rfl
theorem vR{w:Str}(h:w.length<=10000000):d4 [.str w]= .ok (.bl (nS w)):=by
 have hz:sizeLine=16777216:=sizeLine_eq;obtain⟨a,b,d,e⟩:=EG w CO;have ha:a.length<=10000000:=by
  unfold jk at e;split at e
  .have:a=Builtin.Str.strSub w 0 _:=(List.cons.inj e).1.symm;rw[this];exact Nat.le_trans (strSub_length_le ..) h
  .have:a=w:=(List.cons.inj e).1.symm;rw[this];exact h
 unfold d4 nB nS;rw[e];have hp:xu (.str w) [.str CO]= .ok (.tup ([a,b,d].map .str)):=by
  rw[<-e];exact b6 _ ⟨by rw[Fj];rfl,by omega⟩
 refine d5 (aF (bR (d:= .tup ([a,b,d].map .str)) (ma (x:=w) rfl rfl hp) (by simp [dv,kc])) (bU ?_))
 exact oq (aN (ds:=[.str a]) rfl (l_ ha)) fun _=>Ff (aH (a:= .str b) (b:= .str Str.empty) rfl rfl (pH _ _)) fun _=>aH (a:= .str d) (b:= .tup (Lb.map .str)) rfl rfl (DT d Lb)
theorem oT{ws:List Str}(hl:ws.length<=10000000)(h:∀w∈ws,w.length<=10000000):b9 [.lst (ws.map .str)]= .ok (.bl (ws.all nS)):=by
 have hz:sizeLine=16777216:=sizeLine_eq;unfold b9 lZ;refine d5 (bU (aN (ds:=[.lst ((ws.map nS).map D.bl)]) (au (aK (gQ (ds:=ws.map .str) (gy rfl) (by rw[List.length_map];omega) ?_)) rfl) ?_))
 .rw [List.map_map];exact NT.d6 D.str _ fun w hw=>⟨[.val (.str w)],rfl,rfl,aN (ds:=[.str w]) rfl (vR (h w hw))⟩
 .rw [DW,List.all_map];rfl
section
variable {ws:List Str}
theorem zg(hl:ws.length<=10000000)(h:∀w∈ws,w.length<=10000000):gu [.lst (ws.map .str)]= .ok (.bl (EJ ws)):=by
 have hw:∀i,(wd ws i).length<=10000000:=fun i=>by
  unfold wd;rw[List.getD_eq_getElem?_getD];cases hx:ws[i]? with
  | none=>exact Nat.zero_le _
  | some w=>exact h w (List.mem_of_getElem? hx)
 unfold gu pV EJ;refine d5 (bU (oq (aH (a:=nI ws.length) (b:=nI 3) (aN (ds:=[.lst (ws.map .str)]) rfl (by rw[qS,List.length_map])) rfl (Df _ _)) fun h3=>?_))
 have h3:=of_decide_eq_true h3;refine oq (aH (a:= .str (wd ws 0)) (b:= .str (Str.ofString "in")) (aH (a:= .lst (ws.map .str)) (b:= .int (0:Nat)) rfl rfl (uZ (by omega))) rfl (pH _ _)) fun _=>?_
 refine oq (aN (ds:=[.str (wd ws 1)]) (au (aH (a:= .lst (ws.map .str)) (b:= .int (1:Nat)) rfl rfl (uZ (by omega))) rfl) (l_ (hw 1))) fun _=>?_
 unfold KZ;rw[show e2 eM (ah 0) (eC (.int 2)) (dv mh [.lst (ws.map .str)])= .ok (.str (wd ws 2)) from aH (a:= .lst (ws.map .str)) (b:= .int (2:Nat)) rfl rfl (uZ (by omega)),R.aG]
 rfl
theorem vN(hl:ws.length<=10000000)(h:∀w∈ws,w.length<=10000000):eh [.lst (ws.map .str)]= .ok (.bl (Dp ws)):=by
 have hw:∀i,(wd ws i).length<=10000000:=fun i=>by
  unfold wd;rw[List.getD_eq_getElem?_getD];cases hx:ws[i]? with
  | none=>exact Nat.zero_le _
  | some w=>exact h w (List.mem_of_getElem? hx)
 have ix:∀{i:Nat} {δ:ao},i < ws.length->ah 0 δ= .ok (.lst (ws.map .str))->e2 eM (ah 0) (eC (.int i)) δ= .ok (.str (wd ws i)):=fun hi hv=>aH (a:= .lst (ws.map .str)) hv rfl (uZ hi)
 unfold eh nk;have e:Dp ws=(!(decide (ws.length < 4) || !([Str.ofString "gate",Str.ofString "sure"].contains (wd ws 0))) && (!(!(isNm (wd ws 1)) || !((ze.lookup (wd ws 2)).isSome)) && (decide (((ws.drop 3).length:Int)=(ze.lookup (wd ws 2)).getD 0) && (ws.drop 3).all nS))):=by
  unfold Dp;by_cases h4:4<=ws.length
  .rw [decide_eq_true h4,decide_eq_false (by omega:¬ws.length < 4)];simp
  .rw [decide_eq_false h4,decide_eq_true (by omega:ws.length < 4)];simp
 rw[e];refine d5 (Be (k9 (ck (a:=nI ws.length) (b:=nI 4) (aN (ds:=[.lst (ws.map .str)]) rfl (by rw[qS,List.length_map])) rfl (uj _ _)) fun h4=>ck (a:= .str (wd ws 0)) (b:= .tup ([Str.ofString "gate",Str.ofString "sure"].map .str)) (ix (i:=0) (by have:=of_decide_eq_false h4;omega) rfl) rfl (Km _ _)) fun h4=>?_)
 have h4:4<=ws.length:=by
  have:=(Bool.or_eq_false_iff.mp h4).1;have:=of_decide_eq_false this;omega
 refine Be (k9 (AW (pW (aN (ds:=[.str (wd ws 1)]) (au (ix (i:=1) (by omega) rfl) rfl) (l_ (hw 1))))) fun _=>?_) fun hk=>?_
 .unfold Lh;rw[show e2 eM (ah 0) (eC (.int 2)) (dv gg [.lst (ws.map .str)])= .ok (.str (wd ws 2)) from ix (i:=2) (by omega) rfl,R.aG]
  rfl
 .have hk:(ze.lookup (wd ws 2)).isSome=true:=by
   have:=(Bool.or_eq_false_iff.mp hk).2;cases hq:(ze.lookup (wd ws 2)).isSome with
   | true=>rfl
   | false=>rw [hq] at this;cases this
  obtain⟨n,hn⟩:=Option.isSome_iff_exists.mp hk;refine aF (bR (d:= .lst ((ws.drop 3).map .str)) (o4 (d:= .lst (ws.map .str)) (lo:=some ((3:Nat):Int)) (hi:=none) rfl (j7 rfl) rfl ((r6 (by rw[List.length_map];omega)).trans (by rw[List.map_drop]))) (by simp [dv,gg])) (bU (oq ?_ fun _=>?_))
  .rw [hn];refine aH (a:=nI (ws.drop 3).length) (b:= .int n) (aN (ds:=[.lst ((ws.drop 3).map .str)]) rfl (by rw[qS,List.length_map])) ?_ ?_
   .unfold yo;rw[show e2 eM (ah 0) (eC (.int 2)) _= .ok (.str (wd ws 2)) from ix (i:=2) (by omega) rfl,R.aG]
    show(match ze.lookup (wd ws 2) with | some i=>R.ok (D.int i) | none=> .no)=_
    rw[hn]
   .show R.ok (D.bl ((((ws.drop 3).length:Nat):Int)==n))=_;congr 2
  .exact aN (ds:=[.lst ((ws.drop 3).map .str)]) rfl (oT (by rw[List.length_drop];omega) fun w RS=>h w (List.mem_of_mem_drop RS))
theorem yg(hl:ws.length<=10000000)(h:∀w∈ws,w.length<=10000000):fA [.lst (ws.map .str)]= .ok (.bl (Jx ws)):=by
 have hw:∀i,(wd ws i).length<=10000000:=fun i=>by
  unfold wd;rw[List.getD_eq_getElem?_getD];cases hx:ws[i]? with
  | none=>exact Nat.zero_le _
  | some w=>exact h w (List.mem_of_getElem? hx)
 have ix:∀{i:Nat} {δ:ao},i < ws.length->ah 0 δ= .ok (.lst (ws.map .str))->e2 eM (ah 0) (eC (.int i)) δ= .ok (.str (wd ws i)):=fun hi hv=>aH (a:= .lst (ws.map .str)) hv rfl (uZ hi)
 unfold fA oO;have e:Jx ws=(!(decide (ws.length < 3) || (!(wd ws 0==Str.ofString "out") || !(isNm (wd ws 1)))) && (decide ((ws.drop 2).length<=3) && (ws.drop 2).all nS)):=by
  unfold Jx;by_cases h4:3<=ws.length
  .rw [decide_eq_true h4,decide_eq_false (by omega:¬ws.length < 3)];simp
  .rw [decide_eq_false h4,decide_eq_true (by omega:ws.length < 3)];simp
 rw[e];refine d5 (Be (k9 (ck (a:=nI ws.length) (b:=nI 3) (aN (ds:=[.lst (ws.map .str)]) rfl (by rw[qS,List.length_map])) rfl (uj _ _)) fun h4=>?_) fun h4=>?_)
 .have h4:=of_decide_eq_false h4;exact k9 (ck (a:= .str (wd ws 0)) (b:= .str (Str.ofString "out")) (ix (i:=0) (by omega) rfl) rfl (Kn _ _)) fun _=>AW (pW (aN (ds:=[.str (wd ws 1)]) (au (ix (i:=1) (by omega) rfl) rfl) (l_ (hw 1))))
 have h4:3<=ws.length:=by
  have:=(Bool.or_eq_false_iff.mp h4).1;have:=of_decide_eq_false this;omega
 refine aF (bR (d:= .lst ((ws.drop 2).map .str)) (o4 (d:= .lst (ws.map .str)) (lo:=some ((2:Nat):Int)) (hi:=none) rfl (j7 rfl) rfl ((r6 (by rw[List.length_map];omega)).trans (by rw[List.map_drop]))) (by simp [dv,ll])) (bU (oq ?_ fun _=>?_))
 .exact aH (a:=nI (ws.drop 2).length) (b:=nI 3) (aN (ds:=[.lst ((ws.drop 2).map .str)]) rfl (by rw[qS,List.length_map])) rfl (Rf _ _)
 .exact aN (ds:=[.lst ((ws.drop 2).map .str)]) rfl (oT (by rw[List.length_drop];omega) fun w RS=>h w (List.mem_of_mem_drop RS))
end
end K04
end
section
namespace K04
open PySem PySem.Spec PyProof.Rows L2 L3 MT JT TX
theorem cn{S:aM}{l:List SO}(i:Nat):(S++l)[S.length+i]? =l[i]?:=by rw[List.getElem?_append_right (by omega),Nat.add_sub_cancel_left]
theorem dR{S:List SO}{l:List SO}(i:Nat)(x:SO):(S++l).set (S.length+i) x=S++l.set i x:=by
 rw[List.set_append,if_neg (by omega),Nat.add_sub_cancel_left]
def Bs(n:Nat):List (Str × V3):=[(Str.ofString "ins", .loc (n+1)),(Str.ofString "gates", .loc (n+2)),(Str.ofString "outs", .loc (n+3)),(Str.ofString "names", .loc (n+4)),(Str.ofString "out_names", .loc (n+5)),(Str.ofString "numbers", .loc (n+6))]
def M3(n:Nat)(d:Dr):List SO:=[.ins 0 (Bs n), .lst (d.ins.map MT.inD), .lst (d.gs.map BF), .lst (d.os.map CN), .dct (xg d.nm), .dct (xg d.on), .dct (MB d.nu)]
abbrev kM(S:aM)(d:Dr):aM:=S++M3 S.length d
theorem lk{n:Nat}{i:Nat}(h:([Str.ofString "ins",Str.ofString "gates",Str.ofString "outs",Str.ofString "names",Str.ofString "out_names",Str.ofString "numbers"].findIdx? (·==k))=some i):(Bs n).lookup k=some (.loc (n+(i+1))):=by
 unfold Bs;simp only[List.findIdx?_cons,List.findIdx?_nil] at h;have sw:∀a:Str,(k==a)=(a==k):=fun a=>by
  by_cases q:a=k
  .subst q;rfl
  .rw [beq_eq_false_iff_ne.mpr q,beq_eq_false_iff_ne.mpr (Ne.symm q)]
 simp only[List.lookup_cons,sw];split at h
 .rename_i q;rw [q];cases h;rfl
 .rename_i q1;rw[Bool.not_eq_true] at q1;rw[q1];simp only[Option.map_eq_some_iff] at h;obtain⟨j1,h,rfl⟩:=h;split at h
  .rename_i q;rw [q];cases h;rfl
  .rename_i q2;rw[Bool.not_eq_true] at q2;rw[q2];simp only[Option.map_eq_some_iff] at h;obtain⟨j2,h,rfl⟩:=h;split at h
   .rename_i q;rw [q];cases h;rfl
   .rename_i q3;rw[Bool.not_eq_true] at q3;rw[q3];simp only[Option.map_eq_some_iff] at h;obtain⟨j3,h,rfl⟩:=h;split at h
    .rename_i q;rw [q];cases h;rfl
    .rename_i q4;rw[Bool.not_eq_true] at q4;rw[q4];simp only[Option.map_eq_some_iff] at h;obtain⟨j4,h,rfl⟩:=h;split at h
     .rename_i q;rw [q];cases h;rfl
     .rename_i q5;rw[Bool.not_eq_true] at q5;rw[q5];simp only[Option.map_eq_some_iff] at h;obtain⟨j5,h,rfl⟩:=h;split at h
      .rename_i q;rw [q];cases h;rfl
      .cases h
theorem NP{n:Nat}(h:([Str.ofString "ins",Str.ofString "gates",Str.ofString "outs",Str.ofString "names",Str.ofString "out_names",Str.ofString "numbers"].contains m)=false):(Bs n).lookup m=none:=by
 unfold Bs;simp only[List.contains_cons,List.contains_nil,Bool.or_eq_false_iff] at h;obtain⟨h1,h2,h3,h4,h5,h6,_⟩:=h;simp only[List.lookup_cons,h1,h2,h3,h4,h5,h6,List.lookup_nil]
section
variable {S:aM} {d:Dr} {δ:DE}
theorem jw{i j:Nat}{Q:V3->aM->Prop}(hv:δ[j]? =some (some (.loc S.length)))(hk:([Str.ofString "ins",Str.ofString "gates",Str.ofString "outs",Str.ofString "names",Str.ofString "out_names",Str.ofString "numbers"].findIdx? (·==k))=some i)(h:Q (.loc (S.length+(i+1))) (kM S d)):W3 (eO 0 k (bK j) δ (kM S d)) Q:=
 w_fld (k:=S.length) <| w_var (v:= .loc S.length) hv ⟨_,_,rfl,cn 0,lk hk,h⟩
theorem I_:kQ (kM S d) (S.length+(0+1))=some d.ins.length:=by unfold kQ;rw [cn];simp [M3]
theorem Jq:kQ (kM S d) (S.length+(1+1))=some d.gs.length:=by unfold kQ;rw [cn];simp [M3]
theorem AX:kQ (kM S d) (S.length+(2+1))=some d.os.length:=by unfold kQ;rw [cn];simp [M3]
theorem Jd:kQ (kM S d) (S.length+(5+1))=some d.nu.length:=by unfold kQ;rw [cn];simp [M3,wU]
theorem Je:q8 (.d (.str x)) (.loc (S.length+(3+1))) (kM S d)=some (if x∈d.nm then some (.bl true) else none):=by
 have e:(kM S d)[S.length+(3+1)]? =some (.dct (xg d.nm)):=cn _;unfold q8;simp only[sj,e];rw[p_]
theorem MY:q8 (.d (.str x)) (.loc (S.length+(4+1))) (kM S d)=some (if x∈d.on then some (.bl true) else none):=by
 have e:(kM S d)[S.length+(4+1)]? =some (.dct (xg d.on)):=cn _;unfold q8;simp only[sj,e];rw[p_]
theorem Jf:q8 (.d (.str x)) (.loc (S.length+(5+1))) (kM S d)=some ((idx d.nu x).map nI):=by
 have e:(kM S d)[S.length+(5+1)]? =some (.dct (Gg 0 d.nu)):=cn _;unfold q8;simp only[sj,e];rw[sQ];congr 1;cases idx d.nu x with
 | none=>rfl
 | some i=>show some (nI (0+i))=_;rw [Nat.zero_add];rfl
theorem PF{a b:Str}{f:FD}{δ:ao}{x:Str}(h:f δ= .ok (.str x))(hl:x.length<=1000000)(ha:a.length<=1000)(hb:b.length<=1000):∃y,cW (bV (eC (.str a)) (bV (l6 f) (bV (eC (.str b)) pz))) δ= .ok (.str y):=by
 have hz:sizeLine=16777216:=sizeLine_eq;refine⟨_,px (ss:=[a,x,b]) (jo rfl (jo (yB h (by omega)) (jo rfl rfl))) ?_⟩
 show(((Str.empty++a)++x)++b).length<=_;rw[Str.length_append,Str.length_append,Str.length_append];show 0+a.length+x.length+b.length<=_;omega
theorem wm{c i:Nat}{a b:Str}{x:Str}{Y:Nat->aM->Prop}{Q:Ou->aM->Prop}(h:(down δ)[i]? =some (.val (.str x)))(hl:x.length<=1000000)(ha:a.length<=1000)(hb:b.length<=1000)(hy:Y c S):WE (fJ c (ft (a9 (xP (cW (bV (eC (.str a)) (bV (l6 (ah i)) (bV (eC (.str b)) pz))))) dj)) δ S) Q Y:=by
 obtain⟨y,e⟩:=PF (a:=a) (b:=b) (f:=ah i) (δ:=down δ) (x:=x) (by unfold ah;rw [h]) hl ha hb
 exact rW <| bY <| ik e <| ie ⟨by show 1<=sizeLine;decide,hy⟩
theorem AB{nu:List Str}:∀{ws:List Str},eL nu (ws++[w])=(eL nu ws).bind fun l=>(idx nu w).map fun i=>l++[i]
 | []=>by
   show(match idx nu w with | some i=>(eL nu []).map (i ::·) | none=>none)=_
   cases idx nu w <;> rfl
 | y ::ws=>by
   show(match idx nu y with | some i=>(eL nu (ws++[w])).map (i ::·) | none=>none)=_
   rw[AB];show _=(match idx nu y with | some i=>(eL nu ws).map (i ::·) | none=>none).bind _
   cases idx nu y with
   | none=>rfl
   | some i=>
     cases eL nu ws with
     | none=>rfl
     | some l=>cases idx nu w <;> rfl
theorem As{nu:List Str}(h:idx nu w=none):∀{ws:List Str},w∈ws->eL nu ws=none
 | y ::ws,hm=>by
   show(match idx nu y with | some i=>(eL nu ws).map (i ::·) | none=>none)=_
   rcases List.mem_cons.mp hm with e | e
   .rw [<-e,h]
   .rw [As h e];cases idx nu y <;> rfl
theorem EN{nu:List Str}:∀{ws:List Str},(∀w∈ws,∃i,idx nu w=some i)->∃l,eL nu ws=some l
 | [],_=>⟨[],rfl⟩
 | y ::ws,h=>by
   obtain⟨i,hi⟩:=h y List.mem_cons_self;obtain⟨l,hl⟩:=EN (ws:=ws) fun w hw=>h w (List.mem_cons_of_mem _ hw)
   refine⟨i ::l,?_⟩;show(match idx nu y with | some i=>(eL nu ws).map (i ::·) | none=>none)=_
   rw[hi,hl];rfl
theorem mQ{ws:List Str}(hl:ws.length<=1000)(hw:∀w∈ws,w.length<=1000000):WE (bj [.loc S.length, .d (.lst (ws.map .str))] (kM S d)) (fun v S1=>S1=kM S d/\∃l,eL d.nu ws=some l/\v= .d (.tup (l.map nI))) (fun c S1=>S1=kM S d/\c=7/\eL d.nu ws=none):=by
 have hz:sizeLine=16777216:=sizeLine_eq;unfold bj;refine ME rfl ?_;simp only[dt,cq,List.map,List.length,List.replicate,List.cons_append,List.nil_append,Nat.reduceAdd,Nat.reduceSub];unfold ef;refine ji <| IX <| FI (ds:=ws.map .str) (gy rfl) ?_
 refine(Mc (fun i δ S1=>S1=kM S d/\(∃a2,δ=[some (.loc S.length),some (.d (.lst (ws.map .str))),a2])/\∀w∈ws.take i,∃j,idx d.nu w=some j) ⟨rfl,⟨_,rfl⟩,by simp⟩ ?_).mono (fun o S1 ⟨δ1,e1,e2,⟨a2,e3⟩,h1⟩=>⟨δ1,e1,?_⟩) fun _ _ q=>q
 .rintro i v δ1 S1 hv ⟨rfl,⟨a2,rfl⟩,hi⟩;obtain⟨w,hwi,rfl⟩:=NT.zj hv;refine⟨[some (.loc S.length),some (.d (.lst (ws.map .str))),some (.d (.str w))],rfl,?_⟩;unfold gC;refine qp <| wV <| ik (d:= .str w) rfl <| jw (i:=5) rfl (by decide+kernel) ⟨_,Jf,?_⟩
  cases hj:idx d.nu w with
  | none=>
    simp only[Option.map_none,Option.isSome_none,Bool.true_bne,Bool.not_false,if_true];exact wm (x:=w) rfl (hw w (List.mem_of_getElem? hwi)) (by decide+kernel) (by decide+kernel) ⟨rfl,rfl,As hj (List.mem_of_getElem? hwi)⟩
  | some j=>
    simp only[Option.map_some,Option.isSome_some,Bool.true_bne,Bool.not_true,Bool.false_eq_true,if_false];refine nL ⟨_,rfl,rfl,⟨_,rfl⟩,fun y hy=>?_⟩
    rw[List.take_add_one,hwi] at hy;rcases List.mem_append.mp hy with z | z
    .exact hi y z
    .rw [List.mem_singleton.mp z];exact⟨j,hj⟩
 .subst e2 e3;rw[List.length_map,List.length_map,List.take_length] at h1;obtain⟨l,OV⟩:=EN h1;refine xG <| u7 <| G1 <| bY <| Iv (fun i ds S2=>S2=kM S d/\∃m,eL d.nu (ws.take i)=some m/\ds=m.map nI) <| FI (ds:=ws.map .str) (gy rfl) ⟨by rw[List.length_map,List.length_map];omega,⟨rfl,[],rfl,rfl⟩,?_,?_⟩
  .rintro i v ds S2 hv ⟨rfl,m,hm,rfl⟩;obtain⟨w,hwi,rfl⟩:=NT.zj hv;obtain⟨j,hj⟩:=h1 w (List.mem_of_getElem? hwi);refine⟨[some (.d (.str w)),some (.loc S.length)],rfl,IV ?_⟩;rw[if_pos rfl];refine Mb <| jw (i:=5) rfl (by decide+kernel) <| ik (d:= .str w) rfl ⟨nI j,by rw[Jf,hj];rfl,_,rfl,rfl,m++[j],?_,?_⟩
   .rw [List.take_add_one,hwi];show eL d.nu (ws.take i++[w])=_;rw[AB,hm,hj];rfl
   .rw [List.map_append];rfl
  .rintro ds S2 ⟨rfl,m,hm,rfl⟩;rw[List.length_map,List.length_map,List.take_length] at hm;exact ie ⟨[.lst (m.map nI)], .tup (m.map nI),rfl,rfl,rfl,m,hm,rfl⟩
end
end K04
end
section
namespace K04
open PySem PySem.Spec PyProof.Rows L2 L3 MT JT TX
theorem HY{f:FD}{δ:ao}{k:Nat}(hk:k < 3)(h:f δ= .ok (nI k)):l6 f δ= .ok (.str (lT k)):=by
 match k,hk with
 | 0,_=>exact(sk (i:=0) h (by decide+kernel)).trans (by rw[show(toString (0:Int):Str)=lT 0 by decide+kernel])
 | 1,_=>exact(sk (i:=1) h (by decide+kernel)).trans (by rw[show(toString (1:Int):Str)=lT 1 by decide+kernel])
 | 2,_=>exact(sk (i:=2) h (by decide+kernel)).trans (by rw[show(toString (2:Int):Str)=lT 2 by decide+kernel])
theorem xo{x:Str}{w:Nat}(hx:x.length<=8)(hw:w<=3):j8 [.str x,nI w]= .ok (.lst ((qu x w).map .str)):=by
 have hz:sizeLine=16777216:=sizeLine_eq;unfold j8 tV qu;by_cases h1:w=1
 .rw [if_pos h1];exact d5 (NT.eE (jW (ck (a:=nI w) (b:=nI 1) rfl rfl (by rw[Df,decide_eq_true h1])) (bU (aK (aW (ds:=[.str x]) rfl (by show 1<=sizeLine;omega))))))
 .rw [if_neg h1];refine d5 (aF (jh (ck (a:=nI w) (b:=nI 1) rfl rfl (by rw[Df,decide_eq_false h1])) rfl) (bU (aK (gQ (ds:=(List.range w).map nI) (Bc rfl (by omega)) (by simp;omega) ?_))))
  rw[show((List.range w).map fun f=>x++CO++lT f).map D.str=(List.range w).map fun f=>D.str (x++CO++lT f) from List.map_map]
  refine NT.d6 nI _ fun f hf=>⟨[.val (nI f), .val (.str x)],rfl,rfl,?_⟩
  have hf:f < 3:=Nat.lt_of_lt_of_le (List.mem_range.mp hf) hw;have hfl:(lT f).length<=1:=by match f,hf with | 0,_=>decide+kernel | 1,_=>decide+kernel | 2,_=>decide+kernel
  refine(px (ss:=[x,CO,lT f]) (jo (yB rfl (by omega)) (jo rfl (jo (HY hf rfl) rfl))) ?_).trans ?_
  .show(((Str.empty++x)++CO)++lT f).length<=_;rw[Str.length_append,Str.length_append,Str.length_append];show 0+x.length+1+_<=_;omega
  .show R.ok (D.str (((Str.empty++x)++CO)++lT f))=_;rw[empty_app]
section
variable {S:aM} {d:Dr}
theorem m8{x:Str}(h:isNm x=true):x.length<=1000000:=by have:=(e8.mp h).2.1;omega
theorem sE{α:Type}(l:List α):decide (l.length≠0)=decide (l≠[]):=by cases l <;> simp
theorem Cr{δ:DE}{Q:Bool->aM->Prop}(hv:δ[0]? =some (some (.loc S.length)))(h:Q (decide (d.gs≠[]\/d.os≠[])) (kM S d)):W3 (NZ (nP (eO 0 (Str.ofString "gates") (bK 0))) (nP (eO 0 (Str.ofString "outs") (bK 0))) δ (kM S d)) Q:=by
 refine W3.bind (tT <| jw (i:=1) hv (by decide+kernel) ⟨_,_,rfl,Jq,?_⟩)
 rw[sE d.gs];by_cases hg:d.gs≠[]
 .rw [decide_eq_true hg,if_pos rfl];rw[decide_eq_true (.inl hg)] at h;exact W3.ok h
 .rw [decide_eq_false hg,if_neg (by decide)]
  refine tT <| jw (i:=2) hv (by decide+kernel) ⟨_,_,rfl,AX,?_⟩
  rw[sE d.os];have:decide (d.gs≠[]\/d.os≠[])=decide (d.os≠[]):=by
   by_cases ho:d.os≠[]
   .rw [decide_eq_true ho,decide_eq_true (.inr ho)]
   .rw [decide_eq_false ho,decide_eq_false fun q=>q.elim hg ho]
  rw[this] at h;exact h
theorem Cb(DD:mU d){w:Nat}(hx:isNm x=true)(hw:w<=3):WE (cN [.loc S.length, .d (.str x), .d (nI w)] (kM S d)) (fun v S1=>v= .d .cD/\∃d',kO d x w= .ok d'/\S1=kM S d') (fun c S1=>kO d x w= .error c/\S1=kM S d):=by
 have hz:sizeLine=16777216:=sizeLine_eq;have hx8:=(e8.mp hx).2.1;unfold cN;refine ME rfl ?_;simp only[dt,gd,List.map,List.length,List.replicate,List.cons_append,List.nil_append,Nat.reduceAdd,Nat.reduceSub];unfold kj;refine ji <| qp <| Cr rfl ?_
 by_cases hb:d.gs≠[]\/d.os≠[]
 .rw [decide_eq_true hb,if_pos rfl];exact wm (x:=x) rfl (m8 hx) (by decide+kernel) (by decide+kernel) ⟨by unfold kO;rw [if_pos hb],rfl⟩
 .rw [decide_eq_false hb,if_neg (by decide)]
  refine nL ⟨_,rfl,?_⟩;refine ji <| qp <| wV <| ik (d:= .str x) rfl <| jw (i:=3) rfl (by decide+kernel) ⟨_,Je,?_⟩
  by_cases h2:x∈d.nm
  .rw [if_pos h2];simp only[Option.isSome_some,Bool.false_bne,if_true];exact wm (x:=x) rfl (m8 hx) (by decide+kernel) (by decide+kernel) ⟨by unfold kO;rw [if_neg hb,if_pos h2],rfl⟩
  .rw [if_neg h2];simp only[Option.isSome_none,Bool.false_bne,Bool.false_eq_true,if_false];refine nL ⟨_,rfl,?_⟩;refine ji <| qp <| J4 <| ye <| jw (i:=0) rfl (by decide+kernel) ⟨_,_,rfl,I_,ik (d:=nI 6) rfl ⟨nI d.ins.length,nI 6,_,rfl,rfl,DG _ _,?_⟩⟩
   by_cases h3:6<=d.ins.length
   .rw [decide_eq_true h3,if_pos rfl];exact wm (x:=x) rfl (m8 hx) (by decide+kernel) (by decide+kernel) ⟨by unfold kO;rw [if_neg hb,if_neg h2,if_pos h3],rfl⟩
   .rw [decide_eq_false h3,if_neg (by decide)]
    refine nL ⟨_,rfl,?_⟩;have S_:=DD.ln;have Va:=DD.lw;have hl3:=DD.li;refine xG <| d8 <| qv <| ik (d:= .bl true) rfl <| jw (i:=3) rfl (by decide+kernel) <| ik (d:= .str x) rfl ⟨_,_,_,Sum.inr x,xg d.nm,rfl,rfl,rfl,rfl,cn _,by rw[wo];omega,_,rfl,?_⟩
    rw[show(kM S d).set (S.length+(3+1)) (.dct (pq (xg d.nm) (Sum.inr x) (.bl true)))=kM S {d with nm:=d.nm++[x]} by rw[vL h2];exact dR _ _]
    refine d8 <| Oo <| FI (ds:=(qu x w).map .str) (gy (aN (ds:=[.str x,nI w]) rfl (xo hx8 hw))) ?_
    refine(Bu (fun i δ S1=>S1=kM S {d with nm:=d.nm++[x],nu:=d.nu++(qu x w).take i}/\∃a3,δ=[some (.loc S.length),some (.d (.str x)),some (.d (nI w)),a3]) ⟨by simp,_,rfl⟩ ?_).mono fun o S1 ⟨h_,e1,e2,a3,e3⟩=>⟨h_,e1,?_⟩
    .rintro i v δ S1 hv ⟨rfl,a3,rfl⟩;obtain⟨y,hy,rfl⟩:=NT.zj hv;refine⟨[some (.loc S.length),some (.d (.str x)),some (.d (nI w)),some (.d (.str y))],rfl,?_⟩;unfold lO;have hyn:y ∉ d.nu++(qu x w).take i:=fun q=>by
      rcases List.mem_append.mp q with z | z
      .exact oA DD h2 (sL hx y (List.mem_of_getElem? hy)) z
      .have nd:=EM (x:=x) hw;obtain⟨j,hj⟩:=List.getElem?_of_mem z;rw[List.getElem?_take] at hj;split at hj
       .rename_i hji;have:=qb nd hj hy;omega
       .cases hj
     have hil:(qu x w).length<=3:=by rw[rZ];exact hw
     have htl:((qu x w).take i).length<=3:=by rw[List.length_take];omega
     refine qv <| ye <| jw (i:=5) rfl (by decide+kernel) ⟨_,_,rfl,Jd,jw (i:=5) rfl (by decide+kernel) <| ik (d:= .str y) rfl ⟨_,_,_,Sum.inr y,MB (d.nu++(qu x w).take i),rfl,rfl,rfl,rfl,cn _,by rw[wU,List.length_append];omega,_,rfl,?_,_,rfl⟩⟩
     rw[show({d with nm:=d.nm++[x],nu:=d.nu++(qu x w).take i}:Dr).nu=d.nu++(qu x w).take i from rfl,show D.int ((d.nu++(qu x w).take i).length:Nat)=nI (d.nu++(qu x w).take i).length from rfl,AR hyn,List.append_assoc,show(qu x w).take i++[y]=(qu x w).take (i+1) by rw[List.take_add_one,hy];rfl]
     exact dR _ _
    .subst e2 e3;rw[List.length_map,List.length_map,List.take_length];refine Ke (k:=S.length+(0+1)) <| jw (i:=0) rfl (by decide+kernel) ⟨rfl,⟨_,cn _⟩,ik (d:=MT.inD (x,w)) (Iy rfl (by show 2<=sizeLine;omega)) ⟨_,d.ins.map MT.inD,rfl,cn _,by rw[List.length_map];omega,trivial,_,by unfold kO;rw [if_neg hb,if_neg h2,if_neg h3],?_⟩⟩
     rw[show d.ins.map MT.inD++[MT.inD (x,w)]=(d.ins++[(x,w)]).map MT.inD by simp]
     exact dR _ _
theorem yi(DD:mU d){ws:List Str}{s:Bool}(hx:isNm x=true)(hk:kS (x6 k)=k)(hl:ws.length<=1000)(hw:∀w∈ws,w.length<=1000000):WE (cy [.loc S.length, .d (.str x), .d (.str k), .d (.lst (ws.map .str)), .d (.bl s)] (kM S d)) (fun v S1=>v= .d .cD/\∃d',addGate d x (x6 k) ws s= .ok d'/\S1=kM S d') (fun c S1=>addGate d x (x6 k) ws s= .error c/\S1=kM S d):=by
 have hz:sizeLine=16777216:=sizeLine_eq;unfold cy;refine ME rfl ?_;simp only[dt,eF,List.map,List.length,List.replicate,List.cons_append,List.nil_append,Nat.reduceAdd,Nat.reduceSub];unfold iy;refine ji <| qp <| tT <| jw (i:=2) rfl (by decide+kernel) ⟨_,_,rfl,AX,?_⟩
 rw[sE d.os];by_cases h1:d.os≠[]
 .rw [decide_eq_true h1,if_pos rfl];exact wm (x:=x) rfl (m8 hx) (by decide+kernel) (by decide+kernel) ⟨by unfold addGate;rw [if_pos h1],rfl⟩
 rw[decide_eq_false h1,if_neg (by decide)]
 refine nL ⟨_,rfl,?_⟩;refine ji <| qp <| wV <| ik (d:= .str x) rfl <| jw (i:=3) rfl (by decide+kernel) ⟨_,Je,?_⟩
 by_cases h2:x∈d.nm
 .rw [if_pos h2];simp only[Option.isSome_some,Bool.false_bne,if_true];exact wm (x:=x) rfl (m8 hx) (by decide+kernel) (by decide+kernel) ⟨by unfold addGate;rw [if_neg h1,if_pos h2],rfl⟩
 rw[if_neg h2];simp only[Option.isSome_none,Bool.false_bne,Bool.false_eq_true,if_false];refine nL ⟨_,rfl,?_⟩;refine ji <| qp <| J4 <| ye <| jw (i:=1) rfl (by decide+kernel) ⟨_,_,rfl,Jq,ik (d:=nI 60) rfl ⟨nI d.gs.length,nI 60,_,rfl,rfl,DG _ _,?_⟩⟩
 by_cases h3:60<=d.gs.length
 .rw [decide_eq_true h3,if_pos rfl];exact wm (x:=x) rfl (m8 hx) (by decide+kernel) (by decide+kernel) ⟨by unfold addGate;rw [if_neg h1,if_neg h2,if_pos h3],rfl⟩
 rw[decide_eq_false h3,if_neg (by decide)]
 refine nL ⟨_,rfl,?_⟩;have S_:=DD.ln;have Va:=DD.lw;have hl3:=DD.lg;refine ji <| Em (k:=S.length+(1+1)) <| jw (i:=1) rfl (by decide+kernel) ⟨rfl,⟨_,cn _⟩,Ja <| tw <| ED <| ik (d:= .str k) rfl <| tw <| sW (k:=S.length) <| w_var (v:= .loc S.length) rfl ⟨_,rfl,cn 0,NP (by decide+kernel),bY <| ik (d:= .lst (ws.map .str)) rfl <| ie ?_⟩⟩
 refine(mQ hl hw).mono ?_ ?_
 .rintro v S1 ⟨rfl,l,OV,rfl⟩;refine tw <| ED <| ik (d:= .bl s) rfl <| Ej ⟨by show 3<=sizeLine;omega,BF (x6 k,l,s),d.gs.map BF,?_,cn _,by rw[List.length_map];omega,_,rfl,?_⟩
  .show V3.d (.tup [.str k, .tup (l.map nI), .bl s])=_;unfold BF;rw[hk]
  rw[show(kM S d).set (S.length+(1+1)) (.lst (d.gs.map BF++[BF (x6 k,l,s)]))=kM S {d with gs:=d.gs++[(x6 k,l,s)]} by rw[show d.gs.map BF++[BF (x6 k,l,s)]=(d.gs++[(x6 k,l,s)]).map BF by simp];exact dR _ _]
  refine xG <| d8 <| qv <| ik (d:= .bl true) rfl <| jw (i:=3) rfl (by decide+kernel) <| ik (d:= .str x) rfl ⟨_,_,_,Sum.inr x,xg d.nm,rfl,rfl,rfl,rfl,cn _,by rw[wo];omega,_,rfl,?_⟩
  rw[show(kM S {d with gs:=d.gs++[(x6 k,l,s)]}).set (S.length+(3+1)) (.dct (pq (xg d.nm) (Sum.inr x) (.bl true)))=kM S {d with gs:=d.gs++[(x6 k,l,s)],nm:=d.nm++[x]} by rw[vL h2];exact dR _ _]
  refine qv <| ye <| jw (i:=5) rfl (by decide+kernel) ⟨_,_,rfl,Jd,jw (i:=5) rfl (by decide+kernel) <| ik (d:= .str x) rfl ⟨_,_,_,Sum.inr x,MB d.nu,rfl,rfl,rfl,rfl,cn _,by rw[wU];omega,trivial,_,by unfold addGate;rw [if_neg h1,if_neg h2,if_neg h3,OV],?_⟩⟩
  rw[show D.int (d.nu.length:Nat)=nI d.nu.length from rfl,AR (oA DD h2 (r9 hx))]
  exact dR _ _
 .rintro c S1 ⟨rfl,rfl,hn⟩;exact⟨by unfold addGate;rw [if_neg h1,if_neg h2,if_neg h3,hn],rfl⟩
theorem zi(DD:mU d){ws:List Str}(hx:isNm x=true)(hl:ws.length<=1000)(hw:∀w∈ws,w.length<=1000000):WE (cA [.loc S.length, .d (.str x), .d (.lst (ws.map .str))] (kM S d)) (fun v S1=>v= .d .cD/\∃d',gz d x ws= .ok d'/\S1=kM S d') (fun c S1=>gz d x ws= .error c/\S1=kM S d):=by
 have hz:sizeLine=16777216:=sizeLine_eq;unfold cA;refine ME rfl ?_;simp only[dt,fE,List.map,List.length,List.replicate,List.cons_append,List.nil_append,Nat.reduceAdd,Nat.reduceSub];unfold jz;refine ji <| qp <| wV <| ik (d:= .str x) rfl <| jw (i:=4) rfl (by decide+kernel) ⟨_,MY,?_⟩
 by_cases h2:x∈d.on
 .rw [if_pos h2];simp only[Option.isSome_some,Bool.false_bne,if_true];exact wm (x:=x) rfl (m8 hx) (by decide+kernel) (by decide+kernel) ⟨by unfold gz;rw [if_pos h2],rfl⟩
 rw[if_neg h2];simp only[Option.isSome_none,Bool.false_bne,Bool.false_eq_true,if_false];refine nL ⟨_,rfl,?_⟩;refine ji <| qp <| J4 <| ye <| jw (i:=2) rfl (by decide+kernel) ⟨_,_,rfl,AX,ik (d:=nI 6) rfl ⟨nI d.os.length,nI 6,_,rfl,rfl,DG _ _,?_⟩⟩
 by_cases h3:6<=d.os.length
 .rw [decide_eq_true h3,if_pos rfl];exact wm (x:=x) rfl (m8 hx) (by decide+kernel) (by decide+kernel) ⟨by unfold gz;rw [if_neg h2,if_pos h3],rfl⟩
 rw[decide_eq_false h3,if_neg (by decide)]
 refine nL ⟨_,rfl,?_⟩;have hl3:=DD.lo;have hon:d.on.length=d.os.length:=by unfold Dr.on;rw [List.length_map]
 refine ji <| Em (k:=S.length+(2+1)) <| jw (i:=2) rfl (by decide+kernel) ⟨rfl,⟨_,cn _⟩,Ja <| tw <| ED <| ik (d:= .str x) rfl <| tw <| sW (k:=S.length) <| w_var (v:= .loc S.length) rfl ⟨_,rfl,cn 0,NP (by decide+kernel),bY <| ik (d:= .lst (ws.map .str)) rfl <| ie ?_⟩⟩
 refine(mQ hl hw).mono ?_ ?_
 .rintro v S1 ⟨rfl,l,OV,rfl⟩;refine Ej ⟨by show 2<=sizeLine;omega,CN (x,l),d.os.map CN,rfl,cn _,by rw[List.length_map];omega,_,rfl,?_⟩
  rw[show(kM S d).set (S.length+(2+1)) (.lst (d.os.map CN++[CN (x,l)]))=S++[.ins 0 (Bs S.length), .lst (d.ins.map MT.inD), .lst (d.gs.map BF), .lst ((d.os++[(x,l)]).map CN), .dct (xg d.nm), .dct (xg d.on), .dct (MB d.nu)] by rw[show d.os.map CN++[CN (x,l)]=(d.os++[(x,l)]).map CN by simp];exact dR _ _]
  refine xG <| qv <| ik (d:= .bl true) rfl <| w_fld (k:=S.length) <| w_var (v:= .loc S.length) rfl ⟨_,_,rfl,cn 0,lk (i:=4) (by decide+kernel),ik (d:= .str x) rfl ⟨_,_,_,Sum.inr x,xg d.on,rfl,rfl,rfl,rfl,cn _,by rw[wo,hon];omega,trivial,_,by unfold gz;rw [if_neg h2,if_neg h3,OV],?_⟩⟩
  rw[vL h2,show d.on++[x]=({d with os:=d.os++[(x,l)]}:Dr).on by unfold Dr.on;simp]
  exact dR _ _
 .rintro c S1 ⟨rfl,rfl,hn⟩;exact⟨by unfold gz;rw [if_neg h2,if_neg h3,hn],rfl⟩
end
end K04
end
section
namespace K04
open PySem PySem.Spec PyProof.Rows L2 L3 MT JT TX
structure Rw (n:Nat) (r:Str):Prop where
 len:r.length<=n
 cps:∀c∈r.cps.toList,c < 16 ^ 8
section
variable {S:aM} {d:Dr}
theorem BE{r:Str}{n:Nat}(h:r.length<=n):(Txt.split r SP).length<=n+2/\∀w∈Txt.split r SP,w.length<=n:=
 ⟨Nat.le_trans (split_le r SP) (by omega),fun w hw=>Nat.le_trans (part_short hw) h⟩
theorem L4(DD:mU d)(hr:Rw 1000000 r):WE (f_ [.loc S.length, .d (.str r)] (kM S d)) (fun v S1=>v= .d .cD/\∃d',eZ d (Txt.split r SP)= .ok d'/\S1=kM S d') (fun c S1=>eZ d (Txt.split r SP)= .error c/\S1=kM S d):=by
 have hz:sizeLine=16777216:=sizeLine_eq;have hrl:=hr.len;obtain⟨OJ,hww⟩:=BE hrl;unfold f_;refine ME rfl ?_;simp only[dt,me,List.map,List.length,List.replicate,List.cons_append,List.nil_append,Nat.reduceAdd,Nat.reduceSub];unfold pf;refine ji <| xG <| jl (by simp) <| ik (d:= .lst ((Txt.split r SP).map .str)) (ma (x:=r) rfl (au rfl rfl) (by rw[Dy];exact yj (by omega))) ⟨_,rfl,?_⟩
 simp only[List.set];generalize Txt.split r SP=ws at OJ hww;have h7:∀w∈ws,w.length<=10000000:=fun w hw=>Nat.le_trans (hww w hw) (by omega)
 have ix:∀{i:Nat} {δ:ao},i < ws.length->ah 2 δ= .ok (.lst (ws.map .str))->e2 eM (ah 2) (eC (.int i)) δ= .ok (.str (wd ws i)):=fun hi hv=>aH (a:= .lst (ws.map .str)) hv rfl (uZ hi)
 refine qp <| vZ (b:=EJ ws) (pW (aN (ds:=[.lst (ws.map .str)]) rfl (zg (by omega) h7))) ?_
 unfold eZ;cases hi:EJ ws with
 | true=>
   rw[if_pos rfl,if_pos rfl];have hi':=hi;unfold EJ at hi';simp only[Bool.and_eq_true,decide_eq_true_eq] at hi';obtain⟨h3,_,hn,R_⟩:=hi';obtain⟨_,w3,wk⟩:=DP R_;refine t6 <| sW (k:=S.length) <| w_var (v:= .loc S.length) rfl ⟨_,rfl,cn 0,NP (by decide+kernel),bY <| ik (d:= .str (wd ws 1)) (ix (i:=1) (by omega) rfl) <| bY <| ik (d:=nI (JF (wd ws 2))) ?_ <| ie ?_⟩
   .unfold yo;rw[show e2 eM (ah 2) (eC (.int 2)) _= .ok (.str (wd ws 2)) from ix (i:=2) (by omega) rfl,R.aG]
    show(match Gm.lookup (wd ws 2) with | some i=>R.ok (D.int i) | none=> .no)=_
    rw[wk];rfl
   .refine(Cb DD hn w3).mono ?_ fun _ _ q=>q
    rintro v S1 ⟨rfl,q⟩;exact⟨trivial,q⟩
 | false=>
   rw[if_neg (by decide),if_neg (by decide)]
   refine qp <| vZ (b:=Dp ws) (pW (aN (ds:=[.lst (ws.map .str)]) rfl (vN (by omega) h7))) ?_
   cases hg:Dp ws with
   | true=>
     rw[if_pos rfl,if_pos rfl];have hg':=hg;unfold Dp at hg';simp only[Bool.and_eq_true,decide_eq_true_eq] at hg';obtain⟨⟨h4,_⟩,⟨hn,hk⟩,_,_⟩:=hg';obtain⟨k1,_,_⟩:=D2 hk;have hdl:(ws.drop 3).length<=1000:=by
      have hg':=hg;unfold Dp at hg';simp only[Bool.and_eq_true,decide_eq_true_eq] at hg';have h5:=hg'.2.2.1;obtain⟨_,k2,k3⟩:=D2 hk;rw[k3] at h5;have:=EC (x6 (wd ws 2));simp only[Option.getD_some] at h5;omega
     refine t6 <| sW (k:=S.length) <| w_var (v:= .loc S.length) rfl ⟨_,rfl,cn 0,NP (by decide+kernel),bY <| ik (d:= .str (wd ws 1)) (ix (i:=1) (by omega) rfl) <| bY <| ik (d:= .str (wd ws 2)) (ix (i:=2) (by omega) rfl) <| bY <| ik (d:= .lst ((ws.drop 3).map .str)) (o4 (d:= .lst (ws.map .str)) (lo:=some ((3:Nat):Int)) (hi:=none) rfl (j7 rfl) rfl ((r6 (by rw[List.length_map];omega)).trans (by rw[List.map_drop]))) <| bY <| ik (d:= .bl (wd ws 0==Str.ofString "sure")) (aH (a:= .str (wd ws 0)) (b:= .str (Str.ofString "sure")) (ix (i:=0) (by omega) rfl) rfl (pH _ _)) <| ie ?_⟩
     refine(yi DD hn k1 hdl fun w hw=>Nat.le_trans (hww w (List.mem_of_mem_drop hw)) (by omega)).mono ?_ fun _ _ q=>q
     rintro v S1 ⟨rfl,q⟩;exact⟨trivial,q⟩
   | false=>
     rw[if_neg (by decide),if_neg (by decide)]
     refine qp <| vZ (b:=Jx ws) (pW (aN (ds:=[.lst (ws.map .str)]) rfl (yg (by omega) h7))) ?_
     cases ho:Jx ws with
     | true=>
       rw[if_pos rfl,if_pos rfl];have uO:=ho;unfold Jx at uO;simp only[Bool.and_eq_true,decide_eq_true_eq] at uO;obtain⟨⟨h4,_,hn⟩,h5,_⟩:=uO;refine t6 <| sW (k:=S.length) <| w_var (v:= .loc S.length) rfl ⟨_,rfl,cn 0,NP (by decide+kernel),bY <| ik (d:= .str (wd ws 1)) (ix (i:=1) (by omega) rfl) <| bY <| ik (d:= .lst ((ws.drop 2).map .str)) (o4 (d:= .lst (ws.map .str)) (lo:=some ((2:Nat):Int)) (hi:=none) rfl (j7 rfl) rfl ((r6 (by rw[List.length_map];omega)).trans (by rw[List.map_drop]))) <| ie ?_⟩
       refine(zi DD hn (by omega) fun w hw=>Nat.le_trans (hww w (List.mem_of_mem_drop hw)) (by omega)).mono ?_ fun _ _ q=>q
       rintro v S1 ⟨rfl,q⟩;exact⟨trivial,q⟩
     | false=>
       rw[if_neg (by decide),if_neg (by decide)]
       have hrp:=StrLaws.reprText_len r hr.cps;refine rW <| bY <| ik (d:= .str _) (px (ss:=[Str.ofString "a row of no form: ",reprText r]) (jo rfl (jo (x:=reprText r) ?_ rfl)) ?_) <| ie ⟨by show 1<=sizeLine;omega,rfl,rfl⟩
       .show R.aU (decide ((reprText r).length<=sizeLine)) (R.ok (D.str (reprText r)))=_;exact b6 _ (by omega)
       .show((Str.empty++Str.ofString "a row of no form: ")++reprText r).length<=_;rw[Str.length_append,Str.length_append];have:(Str.ofString "a row of no form: ").length<=100:=by decide+kernel
        show 0+_+_<=_;omega
theorem pl{v:V3}{n:Nat}:∀{fs:List (Str × V3)},fs.length < n->(wC f v fs).length < n+1
 | [],h=>by show 1 < n+1;simp at h;omega
 | (g,x) ::r,h=>by
   unfold wC;split
   .simp at h ⊢;omega
   .have:=pl (f:=f) (v:=v) (n:=n - 1) (fs:=r) (by simp at h;omega)
    simp at h ⊢;omega
theorem HA{Q:V3->aM->Prop}(h:Q (.d .cD) (kM S d0)):W3 (cU [.loc S.length] (S++[.ins 0 []])) Q:=by
 unfold cU;refine QW rfl ?_;simp only[dt,eG,List.map,List.length,List.replicate,List.cons_append,List.nil_append,Nat.reduceAdd,Nat.reduceSub];unfold ip;have a0:∀{l:List SO},(S++l)[S.length]? =l[0]?:=fun {l}=>cn 0
 have ln:∀{l:List SO},(S++l).length=S.length+l.length:=fun {l}=>List.length_append
 refine d8 <| lJ (k:=S.length) <| FR (ds:=[]) rfl <| w_var (v:= .loc S.length) rfl ⟨[],rfl,by rw[List.append_assoc];exact a0,by decide,_,rfl,?_⟩
 rw[ln,List.append_assoc,show ∀x:SO,List.set (S++([.ins 0 []]++[.lst []])) S.length x=S++[x, .lst []] from fun x=>dR (S:=S) (l:=[.ins 0 [], .lst []]) 0 x]
 refine d8 <| lJ (k:=S.length) <| FR (ds:=[]) rfl <| w_var (v:= .loc S.length) rfl ⟨_,rfl,by rw[List.append_assoc];exact a0,pl (by decide),_,rfl,?_⟩
 rw[ln,List.append_assoc];refine(show ∀{F:FZ} {δ:DE} {Q:Ou->aM->Prop} {x y:aM},x=y->W3 (F δ y) Q->W3 (F δ x) Q from fun e h=>by rw[e];exact h) (dR (S:=S) (l:=[_, .lst [], .lst []]) 0 _) ?_
 show W3 (cB _ _ _ (S++[_,SO.lst [],SO.lst []])) _;refine d8 <| lJ (k:=S.length) <| FR (ds:=[]) rfl <| w_var (v:= .loc S.length) rfl ⟨_,rfl,by rw[List.append_assoc];exact a0,pl (pl (by decide)),_,rfl,?_⟩
 rw[ln,List.append_assoc];refine(show ∀{F:FZ} {δ:DE} {Q:Ou->aM->Prop} {x y:aM},x=y->W3 (F δ y) Q->W3 (F δ x) Q from fun e h=>by rw[e];exact h) (dR (S:=S) (l:=[_, .lst [], .lst [], .lst []]) 0 _) ?_
 show W3 (cB _ _ _ (S++[_,SO.lst [],SO.lst [],SO.lst []])) _;refine d8 <| lJ (k:=S.length) <| yT <| w_var (v:= .loc S.length) rfl ⟨_,rfl,by rw[List.append_assoc];exact a0,pl (pl (pl (by decide))),_,rfl,?_⟩
 rw[ln,List.append_assoc];refine(show ∀{F:FZ} {δ:DE} {Q:Ou->aM->Prop} {x y:aM},x=y->W3 (F δ y) Q->W3 (F δ x) Q from fun e h=>by rw[e];exact h) (dR (S:=S) (l:=[_, .lst [], .lst [], .lst [], .dct []]) 0 _) ?_
 show W3 (cB _ _ _ (S++[_,SO.lst [],SO.lst [],SO.lst [],SO.dct []])) _;refine d8 <| lJ (k:=S.length) <| yT <| w_var (v:= .loc S.length) rfl ⟨_,rfl,by rw[List.append_assoc];exact a0,pl (pl (pl (pl (by decide)))),_,rfl,?_⟩
 rw[ln,List.append_assoc];refine(show ∀{F:FZ} {δ:DE} {Q:Ou->aM->Prop} {x y:aM},x=y->W3 (F δ y) Q->W3 (F δ x) Q from fun e h=>by rw[e];exact h) (dR (S:=S) (l:=[_, .lst [], .lst [], .lst [], .dct [], .dct []]) 0 _) ?_
 show W3 (wW _ _ _ _ _ (S++[_,SO.lst [],SO.lst [],SO.lst [],SO.dct [],SO.dct []])) _;refine lJ (k:=S.length) <| yT <| w_var (v:= .loc S.length) rfl ⟨_,rfl,by rw[List.append_assoc];exact a0,pl (pl (pl (pl (pl (by decide))))),_,rfl,?_⟩
 rw[ln,List.append_assoc];refine(show ∀{x y:aM},x=y->Q (.d .cD) y->Q (.d .cD) x from fun e h=>by rw[e];exact h) (dR (S:=S) (l:=[_, .lst [], .lst [], .lst [], .dct [], .dct [], .dct []]) 0 _) ?_
 exact h
end
end K04
end
section
namespace K04
open PySem PySem.Spec PyProof.Rows L2 L3 MT JT TX
theorem tU{c a:Nat}:∀{l:Y9} {x:List Nat},x∈l->a∈x->a∈jn c l
 | [y],x,hx,ha=>by rw[List.mem_singleton.mp hx] at ha;exact ha
 | y ::z ::r,x,hx,ha=>by
   show a∈y++c ::jn c (z ::r);rcases List.mem_cons.mp hx with e | e
   .rw [e] at ha;exact List.mem_append_left _ ha
   .exact List.mem_append_right _ (List.mem_cons_of_mem _ (tU e ha))
theorem IF{n c:Nat}(h:Rw n x)(hp:p∈Txt.split x ⟨#[c]⟩):Rw n p:=by
 refine⟨Nat.le_trans (part_short hp) h.len,fun a ha=>h.cps a ?_⟩
 rw[<-StrLaws.join_split x ⟨#[c]⟩,lQ];exact tU (List.mem_map_of_mem hp) ha
section
variable {S:aM}
theorem Ht{rs:List Str}(hr:∀r∈rs,Rw 1000000 r){d:Dr}(DD:mU d){T:Str}{ws:List Str}{a3:Option V3}:WE (ia (JC 3) qh ((rs.map D.str).map V3.d) [some (.d (.str T)),some (.d (.lst (ws.map .str))),some (.loc S.length),a3] (kM S d)) (fun o S1=>∃d' b3,o= .nx [some (.d (.str T)),some (.d (.lst (ws.map .str))),some (.loc S.length),b3]/\o3 d rs= .ok d'/\mU d'/\S1=kM S d') (fun c S1=>o3 d rs= .error c/\∃T,S1=S++T):=by
 induction rs generalizing d a3 with
 | nil=>exact .inl ⟨_,_,rfl,d,a3,rfl,rfl,DD,rfl⟩
 | cons r rs ih=>
   show WE ((qh [some (.d (.str T)),some (.d (.lst (ws.map .str))),some (.loc S.length),some (.d (.str r))] (kM S d)).bind _) _ _;refine WE.bind ?_;unfold qh;refine t6 <| Ep <| bY <| w_var (v:= .loc S.length) rfl <| bY <| ik (d:= .str r) rfl <| ie <| (L4 DD (hr r List.mem_cons_self)).mono ?_ ?_
   .rintro v S1 ⟨rfl,d',h1,rfl⟩;have:=ih (fun x hx=>hr x (List.mem_cons_of_mem _ hx)) (rY DD h1) (a3:=some (.d (.str r)))
    unfold o3;rw[h1];exact this
   .rintro c S1 ⟨h1,rfl⟩;unfold o3;rw[h1];exact⟨rfl,_,rfl⟩
theorem Ap(ht:Rw 1000000 text):WE (mv [.d (.str text)] S) (fun v S1=>∃d,sZ (Txt.split text NL)= .ok d/\mU d/\v= .tup [.loc (S.length+1), .loc (S.length+2), .loc (S.length+3)]/\S1=kM S d) (fun c S1=>sZ (Txt.split text NL)= .error c/\∃T,S1=S++T):=by
 have hz:sizeLine=16777216:=sizeLine_eq;have htl:=ht.len;unfold mv;refine ME rfl ?_;simp only[dt,vC,List.map,List.length,List.replicate,List.cons_append,List.nil_append,Nat.reduceAdd,Nat.reduceSub];unfold zU;have hrl:(Txt.split text NL).length<=1000002:=Nat.le_trans (split_le text NL) (by omega)
 have hrr:∀r∈Txt.split text NL,Rw 1000000 r:=by rw[yf];exact fun r hr=>IF ht hr
 refine ji <| xG <| jl (by simp) <| ik (d:= .lst ((Txt.split text NL).map .str)) (ma (x:=text) rfl (au rfl rfl) (by rw[yf];exact yj (by omega))) ⟨_,rfl,?_⟩
 simp only[List.set];generalize Txt.split text NL=rs at hrl hrr;refine ji <| qp <| vZ (b:=decide (80 < rs.length)) (ck (a:=nI rs.length) (b:=nI 80) (aN (ds:=[.lst (rs.map .str)]) rfl (by rw[qS,List.length_map])) rfl (Er _ _)) ?_
 unfold sZ;by_cases h1:80 < rs.length
 .rw [decide_eq_true h1,if_pos rfl,if_pos h1];exact rW <| bY <| ik (d:= .str _) rfl <| ie ⟨by show 1<=sizeLine;omega,rfl,[],by simp⟩
 .rw [decide_eq_false h1,if_neg (by decide),if_neg h1]
  refine nL ⟨_,rfl,?_⟩;refine ji <| xG <| jl (by simp) <| Ma <| ie <| HA ⟨rfl,_,rfl,?_⟩
  simp only[List.set];refine ji <| IX <| FI (ds:=rs.map .str) (gy rfl) ?_
  refine(Ht hrr Jg).mono ?_ ?_
  .rintro o S1 ⟨d,b3,rfl,h2,DD,rfl⟩;refine⟨_,rfl,?_⟩;rw[h2];have key:W3 (NZ (FU (nP (eO 0 (Str.ofString "ins") (bK 2)))) (FU (nP (eO 0 (Str.ofString "outs") (bK 2)))) [some (.d (.str text)),some (.d (.lst (rs.map .str))),some (.loc S.length),b3] (kM S d)) fun b S1=>b=decide (d.ins=[]\/d.os=[])/\S1=kM S d:=by
    refine W3.bind (W3.bind (tT <| jw (i:=0) rfl (by decide+kernel) ⟨_,_,rfl,I_,W3.ok ?_⟩))
    rw[sE d.ins];by_cases hi:d.ins=[]
    .rw [decide_eq_false (fun q=>q hi),decide_eq_true (.inl hi)]
     exact W3.ok ⟨rfl,rfl⟩
    .rw [decide_eq_true hi,show(!true)=false from rfl,if_neg (by decide)]
     refine W3.bind (tT <| jw (i:=2) rfl (by decide+kernel) ⟨_,_,rfl,AX,W3.ok ?_⟩)
     rw[sE d.os];refine⟨?_,rfl⟩;by_cases ho:d.os=[]
     .rw [decide_eq_false (fun q=>q ho),decide_eq_true (.inr ho)];rfl
     .rw [decide_eq_true ho,decide_eq_false fun q=>q.elim hi ho];rfl
   refine ji <| qp <| key.mono ?_
   rintro b S1 ⟨rfl,rfl⟩;simp only;by_cases h3:d.ins=[]\/d.os=[]
   .rw [decide_eq_true h3,if_pos rfl,if_pos h3];exact rW <| bY <| ik (d:= .str _) rfl <| ie ⟨by show 1<=sizeLine;omega,rfl,_,rfl⟩
   .rw [decide_eq_false h3,if_neg (by decide),if_neg h3]
    refine nL ⟨_,rfl,?_⟩;exact xG <| u7 <| NR <| bY <| jw (i:=0) rfl (by decide+kernel) <| bY <| jw (i:=1) rfl (by decide+kernel) <| bY <| jw (i:=2) rfl (by decide+kernel) <| ie ⟨by show 3<=sizeLine;omega,d,rfl,DD,rfl,rfl⟩
  .rintro c S1 ⟨h2,q⟩;rw[h2];exact⟨rfl,q⟩
end
end K04
end
section
set_option maxHeartbeats 4000000
namespace K04
open PySem PySem.Spec PyProof.Rows L2 L3 MT JT
def stir(cell k:Int):Int:=if 10 ^ 18<=cell then(cell - 10 ^ 18) / 2 ^ (28*k).toNat % 2 ^ 28
 else((cell+1013*k+1)*16807 % 2147483647)*((cell+1013*k+1)*16807 % 2147483647) % 2147483629*39373 % 2147483587 / 8
theorem HU(cell k:Int)(hk:0<=k):cz [.int cell, .int k]= .ok (.int (stir cell k)):=by
 have p1:∀δ,e2 BR (eC (.int 10)) (eC (.int 18)) δ= .ok (.int (10 ^ 18)):=fun δ=>rfl
 have p2:∀δ,e2 BR (eC (.int 2)) (eC (.int 28)) δ= .ok (.int (2 ^ 28)):=fun δ=>rfl
 have ge:∀a b:Int,CL (.int a) (.int b)= .ok (.bl (decide (a>=b))):=fun a b=>rfl
 have mulc:∀(a b:Int),(-(2 ^ 64) < b/\b < 2 ^ 64)->um (.int a) (.int b)= .ok (.int (a*b)):=fun a b h=>by
  show R.aU (decide _) (R.ok (D.int (a*b)))=_;exact b6 _ (.inr h)
 have mulc':∀(a b:Int),(-(2 ^ 64) < a/\a < 2 ^ 64)->um (.int a) (.int b)= .ok (.int (a*b)):=fun a b h=>by
  show R.aU (decide _) (R.ok (D.int (a*b)))=_;exact b6 _ (.inl h)
 unfold cz tf stir;by_cases h:(10:Int) ^ 18<=cell
 .rw [if_pos h];refine d5 (NT.eE (jW (ck (a:= .int cell) (b:= .int (10 ^ 18)) rfl (p1 _) ((ge _ _).trans (by rw[decide_eq_true h]))) (bU (aH (a:= .int ((cell - 10 ^ 18) / 2 ^ (28*k).toNat)) (b:= .int (2 ^ 28)) (aH (a:= .int (cell - 10 ^ 18)) (b:= .int (28*k)) (aH (a:= .int cell) (b:= .int (10 ^ 18)) rfl (p1 _) rfl) (aH (a:= .int 28) (b:= .int k) rfl rfl (mulc' _ _ ⟨by omega,by omega⟩)) ?_) (p2 _) (tH (by omega))))))
  show R.aU (decide ((0:Int)<=28*k)) (R.ok (D.int ((cell - 10 ^ 18) / 2 ^ (28*k).toNat)))=_;exact b6 _ (by omega)
 .rw [if_neg h];refine d5 (aF (jh (ck (a:= .int cell) (b:= .int (10 ^ 18)) rfl (p1 _) ((ge _ _).trans (by rw[decide_eq_false h]))) rfl) (aF (bR (d:= .int ((cell+1013*k+1)*16807 % 2147483647)) (aH (a:= .int ((cell+1013*k+1)*16807)) (b:= .int 2147483647) (aH (a:= .int (cell+1013*k+1)) (b:= .int 16807) (aH (a:= .int (cell+1013*k)) (b:= .int 1) (aH (a:= .int cell) (b:= .int (1013*k)) rfl (aH (a:= .int 1013) (b:= .int k) rfl rfl (mulc' _ _ ⟨by omega,by omega⟩)) rfl) rfl rfl) rfl (mulc _ _ ⟨by omega,by omega⟩)) rfl (tH (by omega))) (by simp [dv,md])) ?_))
  have b1:0<=(cell+1013*k+1)*16807 % 2147483647:=Int.emod_nonneg _ (by omega)
  have SY:(cell+1013*k+1)*16807 % 2147483647 < 2147483647:=Int.emod_lt_of_pos _ (by omega)
  generalize (cell+1013*k+1)*16807 % 2147483647=x at b1 SY;refine aF (bR (d:= .int (x*x % 2147483629)) (aH (a:= .int (x*x)) (b:= .int 2147483629) (aH (a:= .int x) (b:= .int x) rfl rfl (mulc _ _ ⟨by omega,by omega⟩)) rfl (tH (by omega))) (by simp [dv,md])) (bU ?_)
  exact aH (a:= .int (x*x % 2147483629*39373 % 2147483587)) (b:= .int 8) (aH (a:= .int (x*x % 2147483629*39373)) (b:= .int 2147483587) (aH (a:= .int (x*x % 2147483629)) (b:= .int 39373) rfl rfl (mulc _ _ ⟨by omega,by omega⟩)) rfl (tH (by omega))) rfl (AS (by omega) (by omega))
theorem G7(cell k:Int):0<=stir cell k:=by
 unfold stir;split <;> omega
def stN(cell:Int)(k:Nat):Nat:=(stir cell k).toNat
theorem Au(cell:Int)(k:Nat):cz [.int cell,nI k]= .ok (nI (stN cell k)):=by
 show cz [.int cell, .int k]=_;rw[HU cell k (by omega)]
 unfold nI stN;rw[Int.toNat_of_nonneg (G7 _ _)]
end K04
end
section
set_option maxHeartbeats 1000000
namespace K04
open PySem PySem.Spec PyProof.Rows L2 L3 MT JT
theorem Im(ns:List Int)(k:Nat):i9 [.lst (ns.map .int),nI k]= .ok (.int (ns.getD k 0)):=by
 unfold i9 oZ;by_cases h:k < ns.length
 .refine d5 (NT.eE (jW (ck (a:=nI k) (b:=nI ns.length) rfl (aN (ds:=[.lst (ns.map .int)]) rfl (by rw[Ni,List.length_map];rfl)) (by rw[uj,decide_eq_true h])) (bU (aH (a:= .lst (ns.map .int)) (b:=nI k) rfl rfl (NT.p9 ?_)))))
  rw[List.getElem?_map,List.getD_eq_getElem?_getD,List.getElem?_eq_getElem h];rfl
 .refine d5 (aF (jh (ck (a:=nI k) (b:=nI ns.length) rfl (aN (ds:=[.lst (ns.map .int)]) rfl (by rw[Ni,List.length_map];rfl)) (by rw[uj,decide_eq_false h])) rfl) (bU ?_))
  rw[List.getD_eq_getElem?_getD,List.getElem?_eq_none (by omega)]
  rfl
end K04
end
section
namespace K04
open PySem PySem.Spec PyProof.Rows L2 L3 MT JT TX
theorem Dx{r:Rx}{s:Ls}(h3:r.wd=IN\/r.wd=GA\/r.wd=OU)(hs:∀w∈r.ws,PyData.strOk w=true)(hl:r.ws.length<=1000):eB [r.d,s.d]= .ok (oD (fK r s)):=by
 have hz:sizeLine=16777216:=sizeLine_eq;unfold eB vf;have E:ao:=[];refine d5 (aF (δ1:=[.val r.d, .val s.d, .val (.str r.t), .val (.str r.wd), .val (.str r.nm), .val (nI r.w), .val (.lst (r.ws.map .str)), .un, .un, .un, .un]) rfl (aF (δ1:=[.val r.d, .val s.d, .val (.str r.t), .val (.str r.wd), .val (.str r.nm), .val (nI r.w), .val (.lst (r.ws.map .str)), .val (.lst (s.wd.map .str)), .val (.lst (s.nm.map .str)), .val (.lst (s.on.map .str)), .val (.lst (s.kn.map .str))]) rfl ?_));generalize hδ:([.val r.d, .val s.d, .val (.str r.t), .val (.str r.wd), .val (.str r.nm), .val (nI r.w), .val (.lst (r.ws.map .str)), .val (.lst (s.wd.map .str)), .val (.lst (s.nm.map .str)), .val (.lst (s.on.map .str)), .val (.lst (s.kn.map .str))]:ao)=δ;have v3:ah 3 δ= .ok (.str r.wd):=by rw[<-hδ];rfl
 have v4:ah 4 δ= .ok (.str r.nm):=by rw[<-hδ];rfl
 have v6:ah 6 δ= .ok (.lst (r.ws.map .str)):=by rw[<-hδ];rfl
 have v7:ah 7 δ= .ok (.lst (s.wd.map .str)):=by rw[<-hδ];rfl
 have v8:ah 8 δ= .ok (.lst (s.nm.map .str)):=by rw[<-hδ];rfl
 have v9:ah 9 δ= .ok (.lst (s.on.map .str)):=by rw[<-hδ];rfl
 have q:∀w:Str,b2 nj (ah 3) (eC (.str w)) δ= .ok (r.wd==w):=fun w=>ck (a:= .str r.wd) (b:= .str w) v3 rfl (pH _ _)
 have n:∀w:Str,b2 Hr (ah 3) (eC (.str w)) δ= .ok (r.wd !=w):=fun w=>ck (a:= .str r.wd) (b:= .str w) v3 rfl rfl
 have i7:∀w:Str,b2 zu (eC (.str w)) (ah 7) δ= .ok (s.wd.contains w):=fun w=>ck (a:= .str w) (b:= .lst (s.wd.map .str)) rfl v7 (zP _ _)
 have c1:=k9 (qw (q IN) fun _=>k9 (i7 GA) fun _=>i7 OU) fun _=>qw (q GA) fun _=>i7 OU
 have c2:yM (rQ (b2 nj (ah 3) (eC (.str (Str.ofString "out")))) (b2 zu (ah 4) (ah 9))) (rQ (b2 Hr (ah 3) (eC (.str (Str.ofString "out")))) (b2 zu (ah 4) (ah 8))) δ= .ok ((r.wd==OU && s.on.contains r.nm) || (r.wd !=OU && s.nm.contains r.nm)):=k9 (qw (q OU) fun _=>ck (a:= .str r.nm) (b:= .lst (s.on.map .str)) v4 v9 (zP _ _)) fun _=>qw (n OU) fun _=>ck (a:= .str r.nm) (b:= .lst (s.nm.map .str)) v4 v8 (zP _ _)
 have hlm:Eu (Ca [((Str.ofString "in"),6),((Str.ofString "gate"),60),((Str.ofString "out"),6)]) (.str r.wd)= .ok (nI (lim r.wd)):=by
  rcases h3 with e | e | e <;> rw[e] <;> rfl
 have c3:b2 nj (vj "list" oi (ah 7) (ai (ah 3) aJ)) (e2 Eu (eC (Ca [((Str.ofString "in"),6),((Str.ofString "gate"),60),((Str.ofString "out"),6)])) (ah 3)) δ= .ok (decide (s.wd.count r.wd=lim r.wd)):=by
  refine ck (a:=nI (s.wd.count r.wd)) (b:=nI (lim r.wd)) (AA (ds:=[.str r.wd]) v7 (au v3 rfl) ?_) (aH (a:=Ca [((Str.ofString "in"),6),((Str.ofString "gate"),60),((Str.ofString "out"),6)]) (b:= .str r.wd) rfl v3 hlm) (Df _ _);show(match strs? (s.wd.map D.str) with | some ss=>R.ok (D.int (ss.count r.wd:Nat)) | none=> .no)=_
  rw[L2.strs_map];rfl
 unfold fK;by_cases g1:((r.wd==IN && (s.wd.contains GA || s.wd.contains OU)) || (r.wd==GA && s.wd.contains OU))=true
 .rw [if_pos g1];rw[g1] at c1;exact NT.eE (jW c1 (bU rfl))
 rw[if_neg g1];rw[Bool.not_eq_true] at g1;rw[g1] at c1;refine aF (jh c1 rfl) ?_;by_cases g2:((r.wd==OU && s.on.contains r.nm) || (r.wd !=OU && s.nm.contains r.nm))=true
 .rw [if_pos g2];rw[g2] at c2;exact NT.eE (jW c2 (bU rfl))
 rw[if_neg g2];rw[Bool.not_eq_true] at g2;rw[g2] at c2;refine aF (jh c2 rfl) ?_;by_cases g3:s.wd.count r.wd=lim r.wd
 .rw [if_pos g3];rw[decide_eq_true g3] at c3;exact NT.eE (jW c3 (bU rfl))
 rw[if_neg g3];rw[decide_eq_false g3] at c3;refine aF (jh c3 rfl) ?_;have hc:eNew (kh (dW (ah 6)) (aR 0) (b2 ml (ah 0) (ah 1)) (ah 0) [(Str.ofString "wire")] [10]) δ= .ok (.lst ((r.ws.filter fun w=>!s.kn.contains w).map .str)):=by
  refine aK (gQ (ds:=r.ws.map .str) (gy v6) (by rw[List.length_map];omega) (NT.tE (fun w=>!s.kn.contains w) D.str D.str fun w hw=>⟨[.val (.str w), .val (.lst (s.kn.map .str))],by rw[<-hδ];rfl,ck (a:= .str w) (b:= .lst (s.kn.map .str)) rfl rfl (DO _ _),fun _=>rfl⟩))
 have hn:=Io (ss:=r.ws.filter fun w=>!s.kn.contains w) fun w hw=>hs w (List.mem_filter.mp hw).1
 refine bU (aH (a:= .lst [.int (-1), .int 5]) (b:=nI (if !(r.ws.filter fun w=>!s.kn.contains w).isEmpty then 1 else 0)) (aK (aW (ds:=[.int (-1), .int 5]) rfl (by show 2<=sizeLine;omega))) (aN (ds:=[.bl (!(r.ws.filter fun w=>!s.kn.contains w).isEmpty)]) (au (aH (a:= .lst ((r.ws.filter fun w=>!s.kn.contains w).map .str)) (b:= .lst []) hc (aK (aW rfl (by show 0<=sizeLine;omega))) hn) rfl) (JA _)) ?_)
 cases hf:r.ws.filter fun w=>!s.kn.contains w with
 | nil=>rfl
 | cons a l=>rw [if_neg (show ¬a ::l=[] from List.cons_ne_nil a l)];rfl
theorem Ba{r:Rx}{s:Ls}(hn:r.nm.length<=1000)(hw:r.w<=3)(h1:s.wd.length<=10000)(h2:s.nm.length<=10000)(h3:s.on.length<=10000)(h4:s.kn.length<=10000):cX [r.d,s.d]= .ok (lh r s).d:=by
 have hz:sizeLine=16777216:=sizeLine_eq;unfold cX qr;refine d5 (aF (δ1:=[.val r.d, .val s.d, .val (.str r.t), .val (.str r.wd), .val (.str r.nm), .val (nI r.w), .val (.lst (r.ws.map .str)), .un, .un, .un, .un, .un]) rfl (aF (δ1:=[.val r.d, .val s.d, .val (.str r.t), .val (.str r.wd), .val (.str r.nm), .val (nI r.w), .val (.lst (r.ws.map .str)), .val (.lst (s.wd.map .str)), .val (.lst (s.nm.map .str)), .val (.lst (s.on.map .str)), .val (.lst (s.kn.map .str)), .un]) rfl ?_));have ad:∀(l:List Str) (x:Str),l.length<=10000->eP (.lst (l.map .str)) (.lst [.str x])= .ok (.lst ((l++[x]).map .str)):=fun l x h=>(ox (by rw[List.length_map];show l.length+1<=_;omega)).trans (by rw[List.map_append];rfl)
 have one:∀(i:Nat) (x:Str) (δ:ao),ah i δ= .ok (.str x)->eNew (bN (ai (ah i) aJ)) δ= .ok (.lst [.str x]):=fun i x δ h=>aK (aW (ds:=[.str x]) (au h rfl) (by show 1<=sizeLine;omega))
 generalize hδ:([.val r.d, .val s.d, .val (.str r.t), .val (.str r.wd), .val (.str r.nm), .val (nI r.w), .val (.lst (r.ws.map .str)), .val (.lst (s.wd.map .str)), .val (.lst (s.nm.map .str)), .val (.lst (s.on.map .str)), .val (.lst (s.kn.map .str)), .un]:ao)=δ;have q:b2 nj (ah 3) (eC (.str (Str.ofString "out"))) δ= .ok (r.wd==OU):=by rw[<-hδ];exact ck (a:= .str r.wd) (b:= .str OU) rfl rfl (pH _ _)
 unfold lh;by_cases g:(r.wd==OU)=true
 .rw [if_pos g];rw[g] at q;refine NT.eE (jW q (bU ?_));rw[<-hδ];exact aK (aW (ds:=[.lst ((s.wd++[r.wd]).map .str), .lst (s.nm.map .str), .lst ((s.on++[r.nm]).map .str), .lst (s.kn.map .str)]) (au (aH (a:= .lst (s.wd.map .str)) (b:= .lst [.str r.wd]) rfl (one 3 _ _ rfl) (ad _ _ h1)) (au rfl (au (aH (a:= .lst (s.on.map .str)) (b:= .lst [.str r.nm]) rfl (one 4 _ _ rfl) (ad _ _ h3)) (au rfl rfl)))) (by show 4<=sizeLine;omega))
 .rw [if_neg g];rw[Bool.not_eq_true] at g;rw[g] at q;refine aF (jh q rfl) ?_;rw[<-hδ];refine aF (bR (d:= .lst [.str r.nm]) (one 4 _ _ rfl) (by simp)) ?_
  obtain⟨own,hown⟩:∃own,(if 1 < r.w then qu r.nm r.w else [r.nm])=own:=⟨_,rfl⟩
  have ol:own.length<=3:=by
   rw[<-hown];split
   .rw [rZ];exact hw
   .simp
  rw[hown];refine aF (δ1:=[.val r.d, .val s.d, .val (.str r.t), .val (.str r.wd), .val (.str r.nm), .val (nI r.w), .val (.lst (r.ws.map .str)), .val (.lst (s.wd.map .str)), .val (.lst (s.nm.map .str)), .val (.lst (s.on.map .str)), .val (.lst (s.kn.map .str)), .val (.lst (own.map .str))]) ?_ ?_
  .have c:b2 Jr (ah 5) (eC (.int 1)) [.val r.d, .val s.d, .val (.str r.t), .val (.str r.wd), .val (.str r.nm), .val (nI r.w), .val (.lst (r.ws.map .str)), .val (.lst (s.wd.map .str)), .val (.lst (s.nm.map .str)), .val (.lst (s.on.map .str)), .val (.lst (s.kn.map .str)), .val (.lst [.str r.nm])]= .ok (decide (1 < r.w)):=ck (a:=nI r.w) (b:=nI 1) rfl rfl (Er _ _);have pw:∀(x:Str) (δ:ao),x.length=2->ah 4 δ= .ok (.str r.nm)->e2 eP (ah 4) (eC (.str x)) δ= .ok (.str (r.nm++x)):=fun x δ hx h=>aH (a:= .str r.nm) (b:= .str x) h rfl (vV (by omega))
   by_cases g2:1 < r.w
   .rw [if_pos g2] at hown;rw[decide_eq_true g2] at c;refine jW c ((bR (d:= .lst (own.map .str)) (o4 (d:= .lst ([r.nm++Str.ofString ":0",r.nm++Str.ofString ":1",r.nm++Str.ofString ":2"].map .str)) (lo:=none) (hi:=some (r.w:Int)) (aK (aW (ds:=[r.nm++Str.ofString ":0",r.nm++Str.ofString ":1",r.nm++Str.ofString ":2"].map .str) (au (pw _ _ (by decide+kernel) rfl) (au (pw _ _ (by decide+kernel) rfl) (au (pw _ _ (by decide+kernel) rfl) rfl))) (by show 3<=sizeLine;omega))) rfl (j7 rfl) ?_) (by simp)).trans rfl)
    rw[vO,<-List.map_take,Iw hn ⟨by omega,hw⟩,hown]
   .rw [if_neg g2] at hown;rw[decide_eq_false g2] at c;rw[<-hown];exact jh c rfl
  .exact bU (aK (aW (ds:=[.lst ((s.wd++[r.wd]).map .str), .lst ((s.nm++[r.nm]).map .str), .lst (s.on.map .str), .lst ((s.kn++own).map .str)]) (au (aH (a:= .lst (s.wd.map .str)) (b:= .lst [.str r.wd]) rfl (one 3 _ _ rfl) (ad _ _ h1)) (au (aH (a:= .lst (s.nm.map .str)) (b:= .lst [.str r.nm]) rfl (one 4 _ _ rfl) (ad _ _ h2)) (au rfl (au (aH (a:= .lst (s.kn.map .str)) (b:= .lst (own.map .str)) rfl rfl ((ox (by rw[List.length_map,List.length_map];omega)).trans (by rw[List.map_append]))) rfl)))) (by show 4<=sizeLine;omega)))
end K04
end
section
namespace K04
open PySem PySem.Spec PyProof.Rows L2 L3 MT JT TX
structure Pl (r:Rx):Prop where
 w4:r.wd=IN\/r.wd=GA\/r.wd=OU\/r.wd=BD
 so:∀w∈r.ws,PyData.strOk w=true
 wl:r.ws.length<=1000
 nl:r.nm.length<=1000
 w3:r.w<=3
structure Bd (n:Nat) (s:Ls):Prop where
 a:s.wd.length<=n
 b:s.nm.length<=n
 c:s.on.length<=n
 d:s.kn.length<=3*n
theorem Fo{n:Nat}{r:Rx}{s:Ls}(h:Bd n s)(hw:r.w<=3):Bd (n+1) (lh r s):=by
 have h1:=h.a;have h2:=h.b;have h3:=h.c;have h4:=h.d;have ol:(if 1 < r.w then qu r.nm r.w else [r.nm]).length<=3:=by
  split
  .rw [rZ];exact hw
  .simp
 unfold lh;split
 .refine⟨?_,?_,?_,?_⟩ <;> simp only[List.length_append,List.length_cons,List.length_nil] <;> omega
 .refine⟨?_,?_,?_,?_⟩ <;> simp only[List.length_append,List.length_cons,List.length_nil] <;> omega
theorem xS(x:Sl):∀(rs:List Rx) (s:Ls) (n:Nat) (a b:Sl),(∀r∈rs,Pl r)->Bd n s->n+rs.length<=3000->(match BG s rs with | .error m=>eY (aR 2) bZ (rs.map Rx.d) [x, .val s.d,a,b]= .ok (.rt (nI m)) | .ok s'=>∃a' b',eY (aR 2) bZ (rs.map Rx.d) [x, .val s.d,a,b]= .ok (.nx [x, .val s'.d,a',b']))
 | [],s,n,a,b,_,_,_=>⟨a,b,rfl⟩
 | r ::rs,s,n,a,b,hj,hb,hn=>by
   rw[List.length_cons] at hn;have J:=hj r List.mem_cons_self;have h1:=hb.a;have h2:=hb.b;have h3:=hb.c;have h4:=hb.d;have q:b2 nj (e2 eM (ah 2) (eC (.int 1))) (eC (.str (Str.ofString "bad"))) [x, .val s.d, .val r.d,b]= .ok (r.wd==BD):=ck (a:= .str r.wd) (b:= .str BD) (aH (a:=r.d) (b:= .int 1) rfl rfl rfl) rfl (pH _ _);have lp:∀(o:R Out),bZ [x, .val s.d, .val r.d,b]=o->eY (aR 2) bZ ((r ::rs).map Rx.d) [x, .val s.d,a,b]=o.bind fun o=>match o with | .nx h_=>eY (aR 2) bZ (rs.map Rx.d) h_ | .rt r=> .ok (.rt r):=fun o h=>by
    rw[<-h];rfl
   unfold BG;by_cases g:(r.wd==BD)=true
   .rw [if_pos g];rw[g] at q;rw[lp (.ok (.rt (nI 1))) (by unfold bZ;exact NT.eE (jW q (bU rfl)))]
    rfl
   .rw [if_neg g];have rV:r.wd≠BD:=fun e=>g (by rw[e];rfl)
    rw[Bool.not_eq_true] at g;rw[g] at q;have du:=Dx (r:=r) (s:=s) (by rcases J.w4 with e | e | e | e;exact .inl e;exact .inr (.inl e);exact .inr (.inr e);exact absurd e rV) J.so J.wl
    have IP:dA 3 (bt eB (ai (ah 2) (ai (ah 1) aJ))) [x, .val s.d, .val r.d,b]= .ok (.nx [x, .val s.d, .val r.d, .val (oD (fK r s))]):=bR (d:=oD (fK r s)) (aN (ds:=[r.d,s.d]) rfl du) (by simp)
    cases hd:fK r s with
    | some m=>
      rw[hd] at IP;have q2:b2 CL (ah 3) (eC (.int 0)) [x, .val s.d, .val r.d, .val (oD (some m))]= .ok true:=(ck (a:=nI m) (b:=nI 0) rfl rfl (DG _ _)).trans (by rw[decide_eq_true (Nat.zero_le m)])
      show eY _ _ _ _=_;rw[lp (.ok (.rt (nI m))) (by unfold bZ;exact aF (jh q rfl) (aF IP (NT.eE (jW q2 (bU rfl)))))]
      rfl
    | none=>
      rw[hd] at IP;have q2:b2 CL (ah 3) (eC (.int 0)) [x, .val s.d, .val r.d, .val (oD none)]= .ok false:=rfl;have bh:=Ba (r:=r) (s:=s) J.nl J.w3 (by omega) (by omega) (by omega) (by omega)
      have ih:=xS x rs (lh r s) (n+1) (.val r.d) (.val (oD none)) (fun y hy=>hj y (List.mem_cons_of_mem _ hy)) (Fo hb J.w3) (by omega)
      have e:=lp (.ok (.nx [x, .val (lh r s).d, .val r.d, .val (oD none)])) (by unfold bZ;exact aF (jh q rfl) (aF IP (aF (jh q2 rfl) (bR (d:=(lh r s).d) (aN (ds:=[r.d,s.d]) rfl bh) (by simp)))))
      rw[e];exact ih
theorem BL{rs:List Rx}(hj:∀r∈rs,Pl r)(hl:rs.length<=3000):jZ [.lst (rs.map Rx.d)]= .ok (oD (qQ s0 rs)):=by
 have hz:sizeLine=16777216:=sizeLine_eq;have lp:=xS (.val (.lst (rs.map Rx.d))) rs s0 0 .un .un hj ⟨Nat.le_refl _,Nat.le_refl _,Nat.le_refl _,Nat.le_refl _⟩ (by omega)
 unfold jZ pY;have e0:eNew (bN aJ) (dv jY [.lst (rs.map Rx.d)])= .ok (.lst []):=aK (aW rfl (by show 0<=sizeLine;omega))
 refine d5 (aF (δ1:=[.val (.lst (rs.map Rx.d)), .val s0.d, .un, .un]) (bR (d:=s0.d) (aK (aW (ds:=[.lst [], .lst [], .lst [], .lst []]) (au e0 (au e0 (au e0 (au e0 rfl)))) (by show 4<=sizeLine;omega))) (by simp [dv,jY])) ?_)
 rw[Ab];cases hx:BG s0 rs with
 | error m=>
   rw[hx] at lp;refine NT.eE ?_;unfold uI;rw[show dW (ah 0) [.val (.lst (rs.map Rx.d)), .val s0.d, .un, .un]= .ok (rs.map Rx.d) from gy rfl,R.aG]
   exact lp
 | ok s'=>
   rw[hx] at lp;obtain⟨a,b,lp⟩:=lp;refine aF (se (ds:=rs.map Rx.d) (gy rfl) lp) ?_;have ni:∀w:Str,e2 ml (eC (.str w)) (e2 eM (ah 1) (eC (.int 0))) [.val (.lst (rs.map Rx.d)), .val s'.d,a,b]= .ok (.bl (!s'.wd.contains w)):=fun w=>aH (a:= .str w) (b:= .lst (s'.wd.map .str)) rfl (aH (a:=s'.d) (b:= .int 0) rfl rfl rfl) (DO _ _)
   refine bU (aH (a:= .lst [.int (-1), .int 6]) (b:=nI (if(!s'.wd.contains IN || !s'.wd.contains OU) then 1 else 0)) (aK (aW (ds:=[.int (-1), .int 6]) rfl (by show 2<=sizeLine;omega))) (aN (ds:=[.bl (!s'.wd.contains IN || !s'.wd.contains OU)]) (au (Ff (ni IN) fun _=>ni OU) rfl) (JA _)) ?_)
   show _=R.ok (oD (if(!s'.wd.contains IN || !s'.wd.contains OU)=true then some 6 else none))
   cases(!s'.wd.contains IN || !s'.wd.contains OU) <;> rfl
theorem HD{r:Rx}(R:uR r)(hs:∀w∈r.ws,PyData.strOk w=true)(h3:r.w<=3):Pl r:=by
 refine⟨?_,hs,by have:=R.wl;omega,by have:=R.nl;omega,h3⟩
 rcases R.by4 with⟨e,_⟩ | ⟨e,_⟩ | ⟨e,_⟩ | ⟨e,_⟩
 .exact .inl e
 .exact .inr (.inl e)
 .exact .inr (.inr (.inl e))
 .exact .inr (.inr (.inr e))
end K04
end
section
namespace K04
open PySem PySem.Spec PyProof.Rows L2 L3 MT JT TX
def HZ(o:Option Nat):D:=match o with | none=> .lst [] | some n=> .lst ((List.range 14).map fun k=> .bl (decide (n=k)))
theorem zo(ht:Rw 1000000 text){o:Option Nat}(ho:match sZ (Txt.split text NL) with | .ok _=>o=none | .error c=>2<=c/\c<=8/\o=some (c - 2)){Q:V3->aM->Prop}(h:Q (.d (HZ o)) []):W3 (kl [.d (.str text)] []) Q:=by
 have hz:sizeLine=16777216:=sizeLine_eq;have f0:Flat ([]:aM):=Flat.nil;unfold kl;refine Jp f0.QC (Tu rfl ?_);simp only[dt,e7,List.map,List.length,List.replicate,List.cons_append,List.nil_append,Nat.reduceAdd,Nat.reduceSub];unfold lb;refine d8 <| jl (by simp) <| ik (d:= .lst []) (aK (aW rfl (by show 0<=sizeLine;omega))) ⟨_,rfl,?_⟩
 simp only[List.set];refine d8 <| Nv <| t6 <| Ep <| bY <| ik (d:= .str text) rfl <| ie <| VO f0.QC <| (Ap (S:=[]) ht).mono ?_ ?_
 .rintro v S1 ⟨d,hd,_,rfl,rfl⟩;rw[hd] at ho;subst ho;refine⟨rfl,⟨_,rfl⟩,_,rfl,⟨_,rfl,u7 <| ik rfl ⟨_,rfl,rfl,⟨_,rfl⟩,_,rfl,h⟩⟩⟩
 .rintro c S1 ⟨hc,T,rfl⟩;rw[hc] at ho;obtain⟨c2,c8,rfl⟩:=ho;refine⟨⟨_,rfl⟩,?_⟩;have isE:∀{tb:List (Nat × Bool)} {b:Bool} {δ:DE} {Q:V3->aM->Prop},δ[2]? =some (some (.loc 0))->rp tb c=some b->Q (.d (.bl b)) [.exc c]->W3 (k8 (bK 2) (rp tb) δ [.exc c]) Q:=fun h1 h2 h3=>NQ <| w_var h1 ⟨0,c,_,rfl,rfl,h2,h3⟩
  have l4:∀{U3 U4 Vb U5:List (Nat × Bool)} {b1 b2 b3 b4:Bool} {δ:DE} {Q:V3->aM->Prop},δ[2]? =some (some (.loc 0))->rp U3 c=some b1->rp U4 c=some b2->rp Vb c=some b3->rp U5 c=some b4->Q (.d (.lst [.bl b1, .bl b2, .bl b3, .bl b4])) [.exc c]->W3 (yR (a9 (k8 (bK 2) (rp U3)) (a9 (k8 (bK 2) (rp U4)) (a9 (k8 (bK 2) (rp Vb)) (a9 (k8 (bK 2) (rp U5)) dj)))) δ [.exc c]) Q:=fun h1 t1 t2 t3 t4 hq=>Jo <| bY <| isE h1 t1 <| bY <| isE h1 t2 <| bY <| isE h1 t3 <| bY <| isE h1 t4 <| ie ⟨by show 4<=sizeLine;omega,hq⟩
  have ad:∀(a b:List D),a.length+b.length<=14->eP (.lst a) (.lst b)= .ok (.lst (a++b)):=fun a b h=>ox (by omega)
  refine⟨by rcases(show c=2\/c=3\/c=4\/c=5\/c=6\/c=7\/c=8 by omega) with rfl | rfl | rfl | rfl | rfl | rfl | rfl <;> rfl,?_⟩
  simp only[dt,e7,List.map,List.length,List.replicate,List.cons_append,List.nil_append,Nat.reduceAdd,Nat.reduceSub];simp only[List.set];rcases(show c=2\/c=3\/c=4\/c=5\/c=6\/c=7\/c=8 by omega) with rfl | rfl | rfl | rfl | rfl | rfl | rfl
  all_goals
   refine d8 <| jl (by simp) <| l4 rfl rfl rfl rfl rfl ⟨_,rfl,?_⟩
   simp only[List.set];refine d8 <| jl (by simp) <| Na <| ik rfl <| l4 rfl rfl rfl rfl rfl ⟨_,_,_,rfl,rfl,ad _ _ (by decide),⟨_,rfl,?_⟩⟩
   simp only[List.set];refine d8 <| jl (by simp) <| Na <| ik rfl <| l4 rfl rfl rfl rfl rfl ⟨_,_,_,rfl,rfl,ad _ _ (by decide),⟨_,rfl,?_⟩⟩
   simp only[List.set];refine jl (by simp) <| Na <| ik rfl <| Jo <| bY <| isE rfl rfl <| bY <| Lc <| isE rfl rfl ⟨_,rfl,ie ⟨by show 2<=sizeLine;omega,⟨_,_,_,rfl,rfl,ad _ _ (by decide),⟨_,rfl,⟨_,rfl,u7 <| ik rfl ⟨_,rfl,rfl,⟨_,rfl⟩,_,rfl,h⟩⟩⟩⟩⟩⟩
end K04
end
section
namespace K04
open PySem PySem.Spec PyProof.Rows L2 L3 MT JT TX
abbrev SOM:List Str:=[Str.ofString "a",Str.ofString "ab",Str.ofString "b",Str.ofString "c",Str.ofString "q",Str.ofString "r",Str.ofString "s",Str.ofString "t"]
abbrev Od:List Str:=[Str.ofString "",Str.ofString "",Str.ofString ":0",Str.ofString ":1",Str.ofString ":2",Str.ofString ":7"]
abbrev Pe:List Str:=[Str.ofString "a",Str.ofString "ab",Str.ofString "b:1",Str.ofString "a:0"]
theorem KS:∀a∈SOM,isNm a=true:=by decide+kernel
theorem Ku:∀a∈SOM,∀b∈Od,JG (a++b)=true:=by decide+kernel
theorem Ly:∀a∈Pe,JG a=true:=by decide+kernel
theorem Nj:∀i,i < 26->isNm (Str.ofString "ab"++yY i)=true:=by decide+kernel
theorem GJ:∀a∈SOM,a.length<=8:=by decide+kernel
theorem GP:∀a∈Od,a.length<=8:=by decide+kernel
theorem FE{n:Nat}(h:n < 2):∃w,(w=a\/w=b)/\eM (.lst [.str a, .str b]) (nI n)= .ok (.str w):=by
 rcases(show n=0\/n=1 by omega) with rfl | rfl
 .exact⟨a, .inl rfl,NT.p9 (z:=0) rfl⟩
 .exact⟨b, .inr rfl,NT.p9 (z:=1) rfl⟩
theorem o8(cell:Int):∃r:Rx,uR r/\r.wd≠BD/\r.w<=3/\(∀w∈r.ws,PyData.strOk w=true)/\PyData.strOk r.nm=true/\fw [.int cell]= .ok r.d:=by
 have hz:sizeLine=16777216:=sizeLine_eq;obtain⟨n,hn⟩:∃n,stN cell 80=n:=⟨_,rfl⟩;obtain⟨f,hf⟩:∃f,stN cell 81=f:=⟨_,rfl⟩;obtain⟨so,hso,eso⟩:=Hg (l:=SOM) (i:=f % 8) (by show f % 8 < 8;omega)
 obtain⟨nm,hnm,enm⟩:=FE (a:=so) (b:=Str.ofString "ab"++yY (f / 8 % 26)) (n:=n / 8 % 2) (by omega)
 have nmok:isNm nm=true:=by
  rcases hnm with rfl | rfl
  .exact KS _ hso
  .exact Nj _ (by omega)
 have nml:nm.length<=8:=(e8.mp nmok).2.1;have abl:(Str.ofString "ab").length=2:=by decide+kernel
 have strok:∀w:Str,JG w=true->PyData.strOk w=true:=fun w hw=>by
  have:=(Ew hw).1.cps;unfold PyData.strOk;rw[<-Array.all_toList,List.all_eq_true];exact fun c hc=>decide_eq_true (by have:=this c hc;omega)
 have lp:∃(ws:List Str) (δ1:ao) (a b c:Sl),ws.length=3/\(∀w∈ws,JG w=true)/\δ1=[.val (.int cell), .val (nI n),a, .val (.lst (SOM.map .str)), .val (.str nm), .val (nI (n % 8)), .un, .bld (ws.map .str),b,c, .un, .un]/\eY (aR 8) fH ((List.range 3).map nI) [.val (.int cell), .val (nI n), .val (nI f), .val (.lst (SOM.map .str)), .val (.str nm), .val (nI (n % 8)), .un, .bld [], .un, .un, .un, .un]= .ok (.nx δ1):=by
  obtain⟨dm,h1,ws,a,b,c,hδ,hlen,hg⟩:=uX (t:=aR 8) (body:=fH) (ds:=(List.range 3).map nI) (fun i δ=>∃(ws:List Str) (a b c:Sl),δ=[.val (.int cell), .val (nI n),a, .val (.lst (SOM.map .str)), .val (.str nm), .val (nI (n % 8)), .un, .bld (ws.map .str),b,c, .un, .un]/\ws.length=i/\∀w∈ws,JG w=true)
   (δ:=[.val (.int cell), .val (nI n), .val (nI f), .val (.lst (SOM.map .str)), .val (.str nm), .val (nI (n % 8)), .un, .bld [], .un, .un, .un, .un]) ⟨[],_,_,_,rfl,rfl,by simp⟩ (by
     rintro i d δ hd ⟨ws,a,b,c,rfl,hl,hg⟩;obtain⟨j,hj,rfl⟩:=NT.Bk hd;obtain⟨hjl,ej⟩:=List.getElem?_eq_some_iff.mp hj;rw[List.length_range] at hjl;obtain⟨m,hm⟩:∃m,stN cell (82+j)=m:=⟨_,rfl⟩;obtain⟨w1,UO,e1⟩:=Hg (l:=SOM) (i:=m % 8) (by show m % 8 < 8;omega)
     obtain⟨w2,UY,e2⟩:=Hg (l:=Od) (i:=m / 8 % 6) (by show m / 8 % 6 < 6;omega)
     obtain⟨w3,Xz,e3⟩:=Hg (l:=Pe) (i:=m / 64 % 4) (by show m / 64 % 4 < 4;omega)
     obtain⟨w,hw,ew⟩:=FE (a:=w1++w2) (b:=w3) (n:=m / 256 % 2) (by omega)
     have wok:JG w=true:=by
      rcases hw with rfl | rfl
      .exact Ku _ UO _ UY
      .exact Ly _ Xz
     have l1:=GJ _ UO;have l2:=GP _ UY;refine⟨[.val (.int cell), .val (nI n), .val (nI m), .val (.lst (SOM.map .str)), .val (.str nm), .val (nI (n % 8)), .un, .bld ((ws++[w]).map .str), .val (nI j), .val (.str (w1++w2)), .un, .un],?_,ws++[w],_,_,_,rfl,by simp [hl],fun x hx=>?_⟩
     .rw [show aR 8 (nI j) [.val (.int cell), .val (nI n),a, .val (.lst (SOM.map .str)), .val (.str nm), .val (nI (n % 8)), .un, .bld (ws.map .str),b,c, .un, .un]= .ok [.val (.int cell), .val (nI n),a, .val (.lst (SOM.map .str)), .val (.str nm), .val (nI (n % 8)), .un, .bld (ws.map .str), .val (nI j),c, .un, .un] from rfl,R.aG]
      unfold fH;refine aF (bR (d:=nI m) (aN (ds:=[.int cell,nI (82+j)]) (au rfl (au (aH (a:=nI 82) (b:=nI j) rfl rfl (D6 _ _)) rfl)) (by rw[Au,hm])) (by simp)) ?_
      refine aF (bR (d:= .str (w1++w2)) (aH (a:= .str w1) (b:= .str w2) (aH (a:= .lst (SOM.map .str)) (b:=nI (m % 8)) rfl (aH (a:=nI m) (b:=nI 8) rfl rfl (nE (by omega))) e1) (aH (a:= .lst (Od.map .str)) (b:=nI (m / 8 % 6)) (aK (aW (ds:=Od.map .str) rfl (by show 6<=sizeLine;omega))) (aH (a:=nI (m / 8)) (b:=nI 6) (aH (a:=nI m) (b:=nI 8) rfl rfl (sP (by omega) (by omega))) rfl (nE (by omega))) e2) (vV (by omega))) (by simp)) ?_
      refine(A7 (d:= .str w) (ds:=ws.map .str) (aH (a:= .lst [.str (w1++w2), .str w3]) (b:=nI (m / 256 % 2)) (aK (aW (ds:=[.str (w1++w2), .str w3]) (au rfl (au (aH (a:= .lst (Pe.map .str)) (b:=nI (m / 64 % 4)) (aK (aW (ds:=Pe.map .str) rfl (by show 4<=sizeLine;omega))) (aH (a:=nI (m / 64)) (b:=nI 4) (aH (a:=nI m) (b:=nI 64) rfl rfl (sP (by omega) (by omega))) rfl (nE (by omega))) e3) rfl)) (by show 2<=sizeLine;omega))) (aH (a:=nI (m / 256)) (b:=nI 2) (aH (a:=nI m) (b:=nI 256) rfl rfl (sP (by omega) (by omega))) rfl (nE (by omega))) ew) rfl (by rw[List.length_map];omega)).trans ?_
      rw[show ws.map D.str++[.str w]=(ws++[w]).map .str by simp]
      rfl
     .rcases List.mem_append.mp hx with z | z
      .exact hg x z
      .rw [List.mem_singleton.mp z];exact wok)
  rw[List.length_map,List.length_range] at hlen;exact⟨ws,dm,a,b,c,hlen,hg,hδ,h1⟩
 obtain⟨ws,δ1,a,b,c,wl,wg,hδ,hlp⟩:=lp;subst hδ;have wwo:∀(l:List Str),(∀w∈l,w∈ws)->∀y∈l,Wo y/\nS y=true:=fun l hl y hy=>Ew (wg y (hl y hy))
 let MO:ao:=[.val (.int cell), .val (nI n), .val (nI f), .val (.lst (SOM.map .str)), .val (.str nm), .val (nI (n % 8)), .un, .un, .un, .un, .un, .un]
 have c1:b2 yb (ah 5) (eC (.int 2)) MO= .ok (decide (n % 8 < 2)):=ck (a:=nI (n % 8)) (b:=nI 2) rfl rfl (uj _ _);have lead:∀(r:Rx) (F:FS),F MO= .ok (.rt r.d)->u6 i_ (bW (dA 1 (bt cz (ai (ah 0) (ai (eC (.int 80)) aJ)))) (bW (dA 2 (bt cz (ai (ah 0) (ai (eC (.int 81)) aJ)))) (bW (dA 3 (eNew (bN (ai (eC (.str (Str.ofString "a"))) (ai (eC (.str (Str.ofString "ab"))) (ai (eC (.str (Str.ofString "b"))) (ai (eC (.str (Str.ofString "c"))) (ai (eC (.str (Str.ofString "q"))) (ai (eC (.str (Str.ofString "r"))) (ai (eC (.str (Str.ofString "s"))) (ai (eC (.str (Str.ofString "t"))) aJ))))))))))) (bW (dA 4 (e2 eM (eNew (bN (ai (e2 eM (ah 3) (e2 il (ah 2) (eC (.int 8)))) (ai (e2 eP (eC (.str (Str.ofString "ab"))) (e2 eM (eC (.str (Str.ofString "abcdefghijklmnopqrstuvwxyz"))) (e2 il (e2 ib (ah 2) (eC (.int 8))) (eC (.int 26))))) aJ)))) (e2 il (e2 ib (ah 1) (eC (.int 8))) (eC (.int 2))))) (bW (dA 5 (e2 il (ah 1) (eC (.int 8)))) F))))) [.int cell]= .ok r.d:=fun r F hF=>by
  refine d5 (aF (δ1:=[.val (.int cell), .val (nI n), .un, .un, .un, .un, .un, .un, .un, .un, .un, .un]) (bR (d:=nI n) (aN (ds:=[.int cell,nI 80]) rfl (by rw[Au,hn])) (by simp [dv,i_])) ?_)
  refine aF (bR (d:=nI f) (aN (ds:=[.int cell,nI 81]) rfl (by rw[Au,hf])) (by simp)) ?_
  refine aF (bR (d:= .lst (SOM.map .str)) (aK (aW (ds:=SOM.map .str) rfl (by show 8<=sizeLine;omega))) (by simp)) ?_
  refine aF (bR (d:= .str nm) (aH (a:= .lst [.str so, .str (Str.ofString "ab"++yY (f / 8 % 26))]) (b:=nI (n / 8 % 2)) (aK (aW (ds:=[.str so, .str (Str.ofString "ab"++yY (f / 8 % 26))]) (au (aH (a:= .lst (SOM.map .str)) (b:=nI (f % 8)) rfl (aH (a:=nI f) (b:=nI 8) rfl rfl (nE (by omega))) eso) (au (aH (a:= .str (Str.ofString "ab")) (b:= .str (yY (f / 8 % 26))) rfl (aH (a:= .str He) (b:=nI (f / 8 % 26)) rfl (aH (a:=nI (f / 8)) (b:=nI 26) (aH (a:=nI f) (b:=nI 8) rfl rfl (sP (by omega) (by omega))) rfl (nE (by omega))) (HG (by omega))) (vV (by rw[abl];show 2+1<=_;omega))) rfl)) (by show 2<=sizeLine;omega))) (aH (a:=nI (n / 8)) (b:=nI 2) (aH (a:=nI n) (b:=nI 8) rfl rfl (sP (by omega) (by omega))) rfl (nE (by omega))) enm) (by simp)) ?_
  exact aF (bR (d:=nI (n % 8)) (aH (a:=nI n) (b:=nI 8) rfl rfl (nE (by omega))) (by simp)) hF
 have n16:∀(m:Nat) (δ:ao),0 < m->ah 1 δ= .ok (nI n)->e2 il (e2 ib (ah 1) (eC (.int 16))) (eC (.int m)) δ= .ok (nI (n / 16 % m)):=fun m δ hm h=>aH (a:=nI (n / 16)) (b:=nI m) (aH (a:=nI n) (b:=nI 16) h rfl (sP (by omega) (by omega))) rfl (nE hm)
 unfold fw oK;by_cases g1:n % 8 < 2
 .rw [decide_eq_true g1] at c1;have hw:1<=1+n / 16 % 3/\1+n / 16 % 3<=3:=by omega
  refine⟨⟨Str.join SP (y6 (nm,1+n / 16 % 3)),IN,nm,1+n / 16 % 3,[]⟩,yS nmok hw,by show IN≠BD;decide+kernel,hw.2,(fun w h=>by cases h),xF nmok,lead _ _ (NT.eE (jW c1 (aF (bR (d:=nI (1+n / 16 % 3)) (aH (a:=nI 1) (b:=nI (n / 16 % 3)) rfl (n16 3 _ (by omega) rfl) (D6 _ _)) (by simp [MO])) (bU ?_))))⟩
  refine aK (aW (ds:=[.str (Str.join SP (y6 (nm,1+n / 16 % 3))), .str IN, .str nm,nI (1+n / 16 % 3), .lst []]) (au (ma (x:=SP) rfl (au (aK (aW (ds:=(y6 (nm,1+n / 16 % 3)).map .str) (au rfl (au rfl (au (aN (ds:=[nI (1+n / 16 % 3)]) rfl (NM hw)) rfl))) (by show 3<=sizeLine;omega))) rfl) (wJ (by unfold y6;simp) (DC (x:=(nm,1+n / 16 % 3)) nmok))) (au rfl (au rfl (au rfl (au (aK (aW rfl (by show 0<=sizeLine;omega))) rfl))))) (by show 5<=sizeLine;omega))
 rw[decide_eq_false g1] at c1;have wt:∀k,∀w∈ws.take k,w∈ws:=fun k w hw=>List.mem_of_mem_take hw
 have sl:∀(k:Nat) (δ:ao) (fk:FD),ah 7 δ= .ok (.lst (ws.map .str))->fk δ= .ok (nI k)->Bo (ah 7) ng (lW fk) δ= .ok (.lst ((ws.take k).map .str)):=fun k δ fk h1 h2=>o4 (d:= .lst (ws.map .str)) (lo:=none) (hi:=some (k:Int)) h1 rfl (j7 h2) (by rw[vO,List.map_take])
 by_cases g2:n % 8 < 6
 .obtain⟨k,hk⟩:∃k,n / 16 % 5=k:=⟨_,rfl⟩;have k4:k<=4:=by omega
  have ek:eM (.lst ([Str.ofString "not",Str.ofString "and",Str.ofString "or",Str.ofString "xor",Str.ofString "vote"].map .str)) (nI k)= .ok (.str (kS k)):=by
   rcases(show k=0\/k=1\/k=2\/k=3\/k=4 by omega) with e | e | e | e | e <;> rw[e] <;> rfl
  obtain⟨sr,hsr⟩:∃sr,decide (n / 80 % 2=1)=sr:=⟨_,rfl⟩;have es:eM (.lst ([Str.ofString "gate",Str.ofString "sure"].map .str)) (nI (n / 80 % 2))= .ok (.str (if sr then Str.ofString "sure" else Str.ofString "gate")):=by
   rcases(show n / 80 % 2=0\/n / 80 % 2=1 by omega) with e | e <;> rw[<-hsr,e] <;> rfl
  have al:=EC k;have tl:(ws.take (ar k)).length=ar k:=by rw[List.length_take];omega
  have RK:=Kv (s:=sr) nmok k4 tl (wwo (ws.take (ar k)) (wt _));have hwo:∀y∈[if sr then Str.ofString "sure" else Str.ofString "gate",nm,kS k]++ws.take (ar k),Wo y:=by
   intro y hy;rcases List.mem_append.mp hy with z | z
   .have:=EI (W:=[]) (g:=(k,[],sr)) (n:=nm) nmok (fun y hy=>by cases hy) (fun w hw=>by cases hw)
    exact this y (List.mem_append_left _ z)
   .exact(wwo _ (wt _) y z).1
  refine⟨_,RK,by show GA≠BD;decide+kernel,Nat.zero_le _,fun w hw=>strok w (wg w (wt _ w hw)),xF nmok,lead _ _ (aF (jh c1 rfl) (aF (wQ (ds:=[]) (aW rfl (by show 0<=sizeLine;omega)) (by simp [MO])) (aF (se (ds:=(List.range 3).map nI) (Bc (n:=3) rfl (by omega)) hlp) ?_)))⟩
  unfold zT;have c2:b2 yb (ah 5) (eC (.int 6)) (lP 7 [.val (.int cell), .val (nI n),a, .val (.lst (SOM.map .str)), .val (.str nm), .val (nI (n % 8)), .un, .bld (ws.map .str),b,c, .un, .un])= .ok true:=(ck (a:=nI (n % 8)) (b:=nI 6) rfl rfl (uj _ _)).trans (by rw[decide_eq_true g2])
  refine NT.eE (jW c2 ?_);refine aF (bR (d:= .str (kS k)) (aH (a:= .lst ([Str.ofString "not",Str.ofString "and",Str.ofString "or",Str.ofString "xor",Str.ofString "vote"].map .str)) (b:=nI k) (aK (aW (ds:=[Str.ofString "not",Str.ofString "and",Str.ofString "or",Str.ofString "xor",Str.ofString "vote"].map .str) rfl (by show 5<=sizeLine;omega))) ((n16 5 _ (by omega) rfl).trans (by rw[hk])) ek) (by simp [lP])) ?_
  refine aF (bR (d:= .lst ((ws.take (ar k)).map .str)) (sl (ar k) _ _ rfl (Nt k4 rfl)) (by simp [lP])) ?_
  refine aF (bR (d:= .str (if sr then Str.ofString "sure" else Str.ofString "gate")) (aH (a:= .lst ([Str.ofString "gate",Str.ofString "sure"].map .str)) (b:=nI (n / 80 % 2)) (aK (aW (ds:=[Str.ofString "gate",Str.ofString "sure"].map .str) rfl (by show 2<=sizeLine;omega))) (aH (a:=nI (n / 80)) (b:=nI 2) (aH (a:=nI n) (b:=nI 80) rfl rfl (sP (by omega) (by omega))) rfl (nE (by omega))) es) (by simp [lP])) ?_
  refine bU (aK (aW (ds:=[.str (Str.join SP ([if sr then Str.ofString "sure" else Str.ofString "gate",nm,kS k]++ws.take (ar k))), .str GA, .str nm,nI 0, .lst ((ws.take (ar k)).map .str)]) (au (ma (x:=SP) rfl (au (aH (a:= .lst ([if sr then Str.ofString "sure" else Str.ofString "gate",nm,kS k].map .str)) (b:= .lst ((ws.take (ar k)).map .str)) (aK (aW (ds:=[if sr then Str.ofString "sure" else Str.ofString "gate",nm,kS k].map .str) rfl (by show 3<=sizeLine;omega))) rfl ((ox (by simp;omega)).trans (by rw[<-List.map_append]))) rfl) (wJ (by simp;omega) hwo)) rfl) (by show 5<=sizeLine;omega)))
 .have hw:1<=1+n / 16 % 3/\1+n / 16 % 3<=3:=by omega
  have tl:(ws.take (1+n / 16 % 3)).length=1+n / 16 % 3:=by rw[List.length_take];omega
  have RK:=JW nmok (by rw[tl];exact hw) (wwo (ws.take (1+n / 16 % 3)) (wt _))
  have hwo:∀y∈[Str.ofString "out",nm]++ws.take (1+n / 16 % 3),Wo y:=by
   intro y hy;rcases List.mem_append.mp hy with z | z
   .have:=FN (W:=[]) (o:=(nm,[])) nmok (fun y hy=>by cases hy) (fun w hw=>by cases hw)
    exact this y (List.mem_append_left _ z)
   .exact(wwo _ (wt _) y z).1
  refine⟨_,RK,by show OU≠BD;decide+kernel,Nat.zero_le _,fun w hw=>strok w (wg w (wt _ w hw)),xF nmok,lead _ _ (aF (jh c1 rfl) (aF (wQ (ds:=[]) (aW rfl (by show 0<=sizeLine;omega)) (by simp [MO])) (aF (se (ds:=(List.range 3).map nI) (Bc (n:=3) rfl (by omega)) hlp) ?_)))⟩
  unfold zT;have c2:b2 yb (ah 5) (eC (.int 6)) (lP 7 [.val (.int cell), .val (nI n),a, .val (.lst (SOM.map .str)), .val (.str nm), .val (nI (n % 8)), .un, .bld (ws.map .str),b,c, .un, .un])= .ok false:=(ck (a:=nI (n % 8)) (b:=nI 6) rfl rfl (uj _ _)).trans (by rw[decide_eq_false g2])
  refine aF (jh c2 rfl) ?_;refine aF (bR (d:= .lst ((ws.take (1+n / 16 % 3)).map .str)) (sl (1+n / 16 % 3) _ _ rfl (aH (a:=nI 1) (b:=nI (n / 16 % 3)) rfl (n16 3 _ (by omega) rfl) (D6 _ _))) (by simp [lP])) ?_
  refine bU (aK (aW (ds:=[.str (Str.join SP ([Str.ofString "out",nm]++ws.take (1+n / 16 % 3))), .str OU, .str nm,nI 0, .lst ((ws.take (1+n / 16 % 3)).map .str)]) (au (ma (x:=SP) rfl (au (aH (a:= .lst ([Str.ofString "out",nm].map .str)) (b:= .lst ((ws.take (1+n / 16 % 3)).map .str)) (aK (aW (ds:=[Str.ofString "out",nm].map .str) rfl (by show 2<=sizeLine;omega))) rfl ((ox (by simp;omega)).trans (by rw[<-List.map_append]))) rfl) (wJ (by simp;omega) hwo)) rfl) (by show 5<=sizeLine;omega)))
end K04
end
section
namespace K04
open PySem PySem.Spec PyProof.Rows L2 L3 MT JT TX
structure Gr (r:Rx):Prop where
 R:uR r
 nb:r.wd≠BD
 w3:r.w<=3
 so:∀w∈r.ws,PyData.strOk w=true
 sn:PyData.strOk r.nm=true
theorem Gr.j{r:Rx}(h:Gr r):Pl r:=HD h.R h.so h.w3
theorem Gr.fit{r:Rx}(h:Gr r):kN 2 r.d:=Ki h.R h.sn h.so
theorem Gr.k{r:Rx}(h:Gr r):r.wd=IN\/r.wd=GA\/r.wd=OU:=by
 rcases h.j.w4 with e | e | e | e
 .exact .inl e
 .exact .inr (.inl e)
 .exact .inr (.inr e)
 .exact absurd e h.nb
section
variable {rs:List Rx} {kept:Nat}
abbrev mE(rs:List Rx)(kept:Nat)(fs:List Rx)(s:Ls)(a b c:Sl):ao:=[.val (.lst (rs.map Rx.d)), .val (nI kept), .bld (fs.map Rx.d), .val s.d,a,b,c]
theorem wa(hg:∀r∈rs,Gr r)(hl:rs.length<=100)(w:Str)(fs:List Rx)(s:Ls)(n:Nat)(b c:Sl)(hf:fs.length<=100)(CV:∀r∈fs,r∈rs)(hb:Bd n s)(hn:n<=200):∃mY s' b' c',eY (aR 5) cE (rs.map Rx.d) (mE rs kept fs s (.val (.str w)) b c)= .ok (.nx (mE rs kept mY s' (.val (.str w)) b' c'))/\mY.length<=fs.length+(rs.map (·.wd)).count w/\(∀r∈mY,r∈rs)/\Bd (n+rs.length) s':=by
 have hz:sizeLine=16777216:=sizeLine_eq;obtain⟨dm,h1,mY,s',b',c',hδ,h2,h3,h4⟩:=uX (t:=aR 5) (body:=cE) (ds:=rs.map Rx.d) (fun i δ=>∃(mY:List Rx) (s':Ls) (b c:Sl),δ=mE rs kept mY s' (.val (.str w)) b c/\mY.length<=fs.length+((rs.take i).map (·.wd)).count w/\(∀r∈mY,r∈rs)/\Bd (n+i) s')
  (δ:=mE rs kept fs s (.val (.str w)) b c) ⟨fs,s,b,c,rfl,by simp,CV,hb⟩ (by
    rintro i d δ hd ⟨mY,s',b,c,rfl,Va,OI,pT⟩;obtain⟨r,hr,rfl⟩:=NT.Bk hd;have hil:=(List.getElem?_eq_some_iff.mp hr).1;have hrm:=List.mem_of_getElem? hr;have G:=hg r hrm;have e1:(rs.take (i+1)).map (·.wd)=(rs.take i).map (·.wd)++[r.wd]:=by rw[List.take_add_one,hr];simp
    have hcl:((rs.take i).map (·.wd)).count w<=i:=Nat.le_trans List.count_le_length (by rw[List.length_map,List.length_take];omega)
    have a1:=pT.a;have a2:=pT.b;have a3:=pT.c;have a4:=pT.d;have IP:dA 6 (bt eB (ai (ah 5) (ai (ah 3) aJ))) (mE rs kept mY s' (.val (.str w)) (.val r.d) c)= .ok (.nx (mE rs kept mY s' (.val (.str w)) (.val r.d) (.val (oD (fK r s'))))):=bR (d:=oD (fK r s')) (aN (ds:=[r.d,s'.d]) rfl (Dx G.k G.so (by have:=G.R.wl;omega))) (by simp)
    have q1:b2 nj (e2 eM (ah 5) (eC (.int 1))) (ah 4) (mE rs kept mY s' (.val (.str w)) (.val r.d) (.val (oD (fK r s'))))= .ok (r.wd==w):=ck (a:= .str r.wd) (b:= .str w) (aH (a:=r.d) (b:= .int 1) rfl rfl rfl) rfl (pH _ _);have q2:b2 yb (ah 6) (eC (.int 0)) (mE rs kept mY s' (.val (.str w)) (.val r.d) (.val (oD (fK r s'))))= .ok (fK r s').isNone:=by
     cases fK r s' with
     | none=>rfl
     | some m=>exact(ck (a:=nI m) (b:=nI 0) rfl rfl (uj _ _)).trans (by rw[decide_eq_false (Nat.not_lt_zero m)];rfl)
    obtain⟨k3,q3⟩:∃k3,b2 nj (ah 6) (ah 1) (mE rs kept mY s' (.val (.str w)) (.val r.d) (.val (oD (fK r s'))))= .ok k3:=by
     cases fK r s' with
     | none=>exact⟨_,rfl⟩
     | some m=>exact⟨_,rfl⟩
    have qq:=qw q1 fun _=>k9 q2 fun _=>q3
    have Po:b2 yb (ah 6) (eC (.int 0)) (mE rs kept (mY++[r]) s' (.val (.str w)) (.val r.d) (.val (oD (fK r s'))))= .ok (fK r s').isNone:=by
     cases fK r s' with
     | none=>rfl
     | some m=>exact(ck (a:=nI m) (b:=nI 0) rfl rfl (uj _ _)).trans (by rw[decide_eq_false (Nat.not_lt_zero m)];rfl)
    have go:∀h_,qK (rQ (b2 nj (e2 eM (ah 5) (eC (.int 1))) (ah 4)) (yM (b2 yb (ah 6) (eC (.int 0))) (b2 nj (ah 6) (ah 1)))) (bW (xq 2 (ah 5)) (qK (b2 yb (ah 6) (eC (.int 0))) (dA 3 (bt cX (ai (ah 5) (ai (ah 3) aJ)))) j9)) j9 (mE rs kept mY s' (.val (.str w)) (.val r.d) (.val (oD (fK r s'))))= .ok (.nx h_)->((aR 5 r.d (mE rs kept mY s' (.val (.str w)) b c)).bind cE)= .ok (.nx h_):=fun h_ h=>by
     rw[show aR 5 r.d (mE rs kept mY s' (.val (.str w)) b c)= .ok (mE rs kept mY s' (.val (.str w)) (.val r.d) c) from rfl,R.aG]
     unfold cE;exact aF IP h
    by_cases hc:(r.wd==w && ((fK r s').isNone || k3))=true
    .rw [hc] at qq;have hw:=(Bool.and_eq_true _ _▸hc).1;have cw:((rs.take i).map (·.wd)++[r.wd]).count w=((rs.take i).map (·.wd)).count w+1:=by rw[d7,hw];rfl
     have ap:xq 2 (ah 5) (mE rs kept mY s' (.val (.str w)) (.val r.d) (.val (oD (fK r s'))))= .ok (.nx (mE rs kept (mY++[r]) s' (.val (.str w)) (.val r.d) (.val (oD (fK r s'))))):=(A7 (d:=r.d) (ds:=mY.map Rx.d) rfl rfl (by rw[List.length_map];omega)).trans (by rw[show mY.map Rx.d++[r.d]=(mY++[r]).map Rx.d by simp];rfl)
     have mem:∀x∈mY++[r],x∈rs:=fun x hx=>by
      rcases List.mem_append.mp hx with z | z
      .exact OI x z
      .rw [List.mem_singleton.mp z];exact hrm
     cases hd:(fK r s').isNone with
     | true=>
       rw[hd] at Po;refine⟨_,go _ (jW qq (aF ap (jW Po (bR (d:=(lh r s').d) (aN (ds:=[r.d,s'.d]) rfl (Ba (by have:=G.R.nl;omega) G.w3 (by omega) (by omega) (by omega) (by omega))) (by simp))))),mY++[r],lh r s',_,_,rfl,?_,mem,Fo pT G.w3⟩
       rw[List.length_append,e1,cw];show _+1<=_;omega
     | false=>
       rw[hd] at Po;refine⟨_,go _ (jW qq (aF ap (jh Po rfl))),mY++[r],s',_,_,rfl,?_,mem,⟨by omega,by omega,by omega,by omega⟩⟩
       rw[List.length_append,e1,cw];show _+1<=_;omega
    .rw [Bool.not_eq_true] at hc;rw[hc] at qq;refine⟨_,go _ (jh qq rfl),mY,s',_,_,rfl,?_,OI,⟨by omega,by omega,by omega,by omega⟩⟩
     rw[e1,d7];omega)
 rw[List.length_map,List.take_length] at h2;rw[List.length_map] at h4;subst hδ;exact⟨mY,s',b',c',h1,h2,h3,h4⟩
theorem QR(ws:List Str):ws.count IN+ws.count GA+ws.count OU<=ws.length:=by
 induction ws with
 | nil=>simp
 | cons w ws ih=>
   rw[List.count_cons,List.count_cons,List.count_cons,List.length_cons];by_cases h1:w=IN
   .subst h1;rw [E_,A_];simp;omega
   .by_cases h2:w=GA
    .subst h2;rw [F0,AF];simp;omega
    .rw [beq_eq_false_iff_ne.mpr h1,beq_eq_false_iff_ne.mpr h2];simp only[Bool.false_eq_true,if_false,Nat.add_zero];split <;> omega
theorem B6(hg:∀r∈rs,Gr r)(hl:rs.length<=66):∃fs:List Rx,jX [.lst (rs.map Rx.d),nI kept]= .ok (.lst (fs.map Rx.d))/\(∀r∈fs,r∈rs)/\fs.length<=rs.length:=by
 have hz:sizeLine=16777216:=sizeLine_eq;have c3:=QR (rs.map (·.wd))
 rw[List.length_map] at c3;have ci:(rs.map (·.wd)).count IN<=rs.length:=by omega
 obtain⟨f1,s1,b1,c1,e1,l1,m1,d1⟩:=wa (kept:=kept) hg (by omega) IN [] s0 0 .un .un (by simp) (by simp) ⟨Nat.le_refl _,Nat.le_refl _,Nat.le_refl _,Nat.le_refl _⟩ (by omega)
 rw[List.length_nil] at l1;obtain⟨f2,s2,SY,c2,e2,l2,m2,d2⟩:=wa (kept:=kept) hg (by omega) GA f1 s1 _ b1 c1 (by omega) m1 d1 (by omega)
 obtain⟨f3,s3,b3,Xo,e3,l3,m3,d3⟩:=wa (kept:=kept) hg (by omega) OU f2 s2 _ SY c2 (by omega) m2 d2 (by omega)
 refine⟨f3,?_,m3,by omega⟩
 have it:∀(fs:List Rx) (s:Ls) (a b c:Sl),dW (ah 0) (mE rs kept fs s a b c)= .ok (rs.map Rx.d):=fun fs s a b c=>gy rfl
 have lp:eY (aR 4) cj ([IN,GA,OU].map .str) (mE rs kept [] s0 .un .un .un)= .ok (.nx (mE rs kept f3 s3 (.val (.str OU)) b3 Xo)):=by
  have one:∀(w:Str) (fs:List Rx) (s:Ls) (a b c:Sl),((aR 4 (.str w) (mE rs kept fs s a b c)).bind cj)=eY (aR 5) cE (rs.map Rx.d) (mE rs kept fs s (.val (.str w)) b c):=fun w fs s a b c=>by
   rw[show aR 4 (.str w) (mE rs kept fs s a b c)= .ok (mE rs kept fs s (.val (.str w)) b c) from rfl,R.aG]
   unfold cj uI;rw[it,R.aG]
  have stp:∀(w:Str) (ws:List D) (fs:List Rx) (s:Ls) (a b c:Sl) (h_:ao),eY (aR 5) cE (rs.map Rx.d) (mE rs kept fs s (.val (.str w)) b c)= .ok (.nx h_)->eY (aR 4) cj (.str w ::ws) (mE rs kept fs s a b c)=eY (aR 4) cj ws h_:=fun w ws fs s a b c h_ h=>by
   have o:=one w fs s a b c;rw[h] at o;show((aR 4 (.str w) (mE rs kept fs s a b c)).bind fun δ1=>(cj δ1).bind _)=_
   rw[show aR 4 (.str w) (mE rs kept fs s a b c)= .ok (mE rs kept fs s (.val (.str w)) b c) from rfl,R.aG] at o ⊢
   rw[o];rfl
  show eY (aR 4) cj [.str IN, .str GA, .str OU] _=_;rw[stp IN _ _ _ _ _ _ _ e1,stp GA _ _ _ _ _ _ _ e2,stp OU _ _ _ _ _ _ _ e3];rfl
 unfold jX qy;have e0:∀δ,eNew (bN aJ) δ= .ok (.lst []):=fun δ=>aK (aW rfl (by show 0<=sizeLine;omega))
 refine d5 (aF (δ1:=[.val (.lst (rs.map Rx.d)), .val (nI kept), .bld [], .un, .un, .un, .un]) (wQ (ds:=[]) (aW rfl (by show 0<=sizeLine;omega)) (by simp [dv,mj])) ?_)
 refine aF (bR (d:=s0.d) (aK (aW (ds:=[.lst [], .lst [], .lst [], .lst []]) (au (e0 _) (au (e0 _) (au (e0 _) (au (e0 _) rfl)))) (by show 4<=sizeLine;omega))) (by simp)) ?_
 refine aF (se (ds:=[IN,GA,OU].map .str) (gy (aK (aW (ds:=[IN,GA,OU].map .str) rfl (by show 3<=sizeLine;omega)))) lp) ?_
 exact(show ee (ah 2) (lP 2 _)=_ from bU rfl)
end
end K04
end
section
namespace K04
open PySem PySem.Spec PyProof.Rows L2 L3 MT JT TX
def xp(cell:Int):Rx:=Classical.choose (o8 cell)
theorem HJ(cell:Int):Gr (xp cell):=by
 obtain⟨h1,h2,h3,h4,h5,_⟩:=Classical.choose_spec (o8 cell);exact⟨h1,h2,h3,h4,h5⟩
theorem Ic(cell:Int):fw [.int cell]= .ok (xp cell).d:=(Classical.choose_spec (o8 cell)).2.2.2.2.2
def rA:Rx:=⟨Str.ofString "in a 1",IN,Str.ofString "a",1,[]⟩
def rB:Rx:=⟨Str.ofString "in b 2",IN,Str.ofString "b",2,[]⟩
theorem Jw:Gr rA:=by
 have h:isNm (Str.ofString "a")=true:=by decide+kernel
 have e:Str.ofString "in a 1"=Str.join SP (y6 (Str.ofString "a",1)):=by decide+kernel
 refine⟨?_,by show IN≠BD;decide+kernel,by decide,(fun w h=>by cases h),xF h⟩
 unfold rA;rw[e];exact yS h ⟨by omega,by omega⟩
theorem N1:Gr rB:=by
 have h:isNm (Str.ofString "b")=true:=by decide+kernel
 have e:Str.ofString "in b 2"=Str.join SP (y6 (Str.ofString "b",2)):=by decide+kernel
 refine⟨?_,by show IN≠BD;decide+kernel,by decide,(fun w h=>by cases h),xF h⟩
 unfold rB;rw[e];exact yS h ⟨by omega,by omega⟩
theorem Dk(ns:List Int)(hn:ns.length<=63):AJ [.lst (ns.map D.int)]= .ok (.bl true):=by
 have hz:sizeLine=16777216:=sizeLine_eq;have f0:Flat ([]:aM):=Flat.nil;have key:W3 (yL kU tq [.d (.lst (ns.map .int))] []) fun v S1=>v= .d (.bl true)/\S1=[]:=by
  refine Jp f0.QC (Tu rfl ?_);simp only[dt,kU,List.map,List.length,List.replicate,List.cons_append,List.nil_append,Nat.reduceAdd,Nat.reduceSub];unfold tq;have tk:ns.take 63=ns:=List.take_of_length_le hn;refine d8 <| jl (by simp) <| G6 (α:=Int) D.int (fun c=>(xp c).d) (xs:=ns) (FI (gy (ds:=ns.map .int) (o4 (d:= .lst (ns.map .int)) (lo:=none) (hi:=some ((63:Nat):Int)) rfl rfl (j7 rfl) (by rw[vO,<-List.map_take,tk]))) ⟨rfl,rfl⟩) (by omega) (fun c _=>⟨_,rfl,IV ⟨rfl,rfl⟩,ik (aN (ds:=[.int c]) rfl (Ic c)) ⟨rfl,rfl⟩⟩) ⟨_,rfl,?_⟩
  simp only[List.set];rw[show(ns.map fun c=>(xp c).d)=(ns.map xp).map Rx.d by rw[List.map_map];rfl]
  have g0:∀r∈ns.map xp,Gr r:=fun r hr=>by obtain⟨c,_,rfl⟩:=List.mem_map.mp hr;exact HJ c
  have l0:(ns.map xp).length<=63:=by rw[List.length_map];exact hn
  generalize ns.map xp=MN at g0 l0;obtain⟨wy,hwy⟩:∃wy,stN (ns.getD 0 0) 90 % 8=wy:=⟨_,rfl⟩;have wy8:wy < 8:=by omega
  refine d8 <| jl (by simp) <| ik (d:=nI wy) ((aH (a:=nI (stN (ns.getD 0 0) 90)) (b:=nI 8) (aN (ds:=[.int (ns.getD 0 0),nI 90]) (au (aN (ds:=[.lst (ns.map .int),nI 0]) rfl (Im ns 0)) rfl) (Au _ 90)) rfl (nE (by omega))).trans (by rw[hwy])) ⟨_,rfl,?_⟩
  simp only[List.set];refine d8 (W3.mono (Q:=fun o S1=>S1=[]/\∃rs:List Rx,(∀r∈rs,Gr r)/\rs.length<=65/\o= .nx [some (.d (.lst (ns.map .int))),some (.d (.lst (rs.map Rx.d))),some (.d (nI wy)),none,none,none,none]) ?_ ?_)
  .refine E6 <| vZ (b:=decide (1 < wy)) (ck (a:=nI wy) (b:=nI 1) rfl rfl (Er _ _)) ?_
   by_cases h1:1 < wy
   .rw [decide_eq_true h1];refine d8 (W3.mono (Q:=fun o S1=>S1=[]/\∃rs:List Rx,(∀r∈rs,Gr r)/\rs.length<=65/\o= .nx [some (.d (.lst (ns.map .int))),some (.d (.lst (rs.map Rx.d))),some (.d (nI wy)),none,none,none,none]) ?_ ?_)
    .refine E6 <| vZ (b:=decide (4 < wy)) (ck (a:=nI wy) (b:=nI 4) rfl rfl (Er _ _)) ?_
     by_cases h4:4 < wy
     .rw [decide_eq_true h4];have e0:∀δ,eNew (bN aJ) δ= .ok (.lst []):=fun δ=>aK (aW rfl (by show 0<=sizeLine;omega))
      refine jl (by simp) <| ik (d:= .lst ((rA ::rB ::MN).map Rx.d)) (aH (a:= .lst [rA.d,rB.d]) (b:= .lst (MN.map Rx.d)) (aK (aW (ds:=[rA.d,rB.d]) (au (aK (aW (ds:=[.str rA.t, .str IN, .str rA.nm,nI 1, .lst []]) (au rfl (au rfl (au rfl (au rfl (au (e0 _) rfl))))) (by show 5<=sizeLine;omega))) (au (aK (aW (ds:=[.str rB.t, .str IN, .str rB.nm,nI 2, .lst []]) (au rfl (au rfl (au rfl (au rfl (au (e0 _) rfl))))) (by show 5<=sizeLine;omega))) rfl)) (by show 2<=sizeLine;omega))) rfl (ox (by rw[List.length_map];show 2+MN.length<=_;omega))) ⟨rfl,rA ::rB ::MN,fun r hr=>?_,by simp only[List.length_cons];omega,rfl⟩
      rcases List.mem_cons.mp hr with rfl | hr
      .exact Jw
      .rcases List.mem_cons.mp hr with rfl | hr
       .exact N1
       .exact g0 r hr
     .rw [decide_eq_false h4];exact wR ⟨rfl,MN,g0,by omega,rfl⟩
    .rintro o S1 ⟨rfl,rs,g,l,rfl⟩;refine⟨_,rfl,?_⟩;obtain⟨kp,hkp⟩:∃kp:Nat,eM (.lst [.int 9, .int 9, .int 9, .int 3, .int 4, .int 5, .int 9, .int 9]) (nI wy)= .ok (nI kp):=by
      rcases(show wy=0\/wy=1\/wy=2\/wy=3\/wy=4\/wy=5\/wy=6\/wy=7 by omega) with e | e | e | e | e | e | e | e <;> rw[e]
      .exact⟨9,rfl⟩
      .exact⟨9,rfl⟩
      .exact⟨9,rfl⟩
      .exact⟨3,rfl⟩
      .exact⟨4,rfl⟩
      .exact⟨5,rfl⟩
      .exact⟨9,rfl⟩
      .exact⟨9,rfl⟩
     obtain⟨fs,hfs,hm,hfl⟩:=B6 (rs:=rs) (kept:=kp) g (by omega)
     refine jl (by simp) <| ik (d:= .lst (fs.map Rx.d)) (aN (ds:=[.lst (rs.map Rx.d),nI kp]) (au rfl (au (aH (a:= .lst [.int 9, .int 9, .int 9, .int 3, .int 4, .int 5, .int 9, .int 9]) (b:=nI wy) (aK (aW (ds:=[.int 9, .int 9, .int 9, .int 3, .int 4, .int 5, .int 9, .int 9]) rfl (by show 8<=sizeLine;omega))) rfl hkp) rfl)) hfs) ⟨rfl,fs,fun r hr=>g r (hm r hr),by omega,rfl⟩
   .rw [decide_eq_false h1];exact wR ⟨rfl,MN,g0,by omega,rfl⟩
  rintro o S1 ⟨rfl,R8,g1,l1,rfl⟩;refine⟨_,rfl,?_⟩;refine d8 (W3.mono (Q:=fun o S1=>S1=[]/\∃rs:List Rx,(∀r∈rs,Gr r)/\rs.length<=65/\rs≠[]/\o= .nx [some (.d (.lst (ns.map .int))),some (.d (.lst (rs.map Rx.d))),some (.d (nI wy)),none,none,none,none]) ?_ ?_)
  .have e0:∀δ,eNew (bN aJ) δ= .ok (.lst []):=fun δ=>aK (aW rfl (by show 0<=sizeLine;omega))
   refine E6 <| vZ (b:=R8.isEmpty) (ck (a:= .lst (R8.map Rx.d)) (b:= .lst []) rfl (e0 _) (EK fun r hr=>(g1 r hr).fit)) ?_
   cases hr1:R8 with
   | nil=>
     exact jl (by simp) <| ik (d:= .lst [rA.d]) (aK (aW (ds:=[rA.d]) (au (aK (aW (ds:=[.str rA.t, .str IN, .str rA.nm,nI 1, .lst []]) (au rfl (au rfl (au rfl (au rfl (au (e0 _) rfl))))) (by show 5<=sizeLine;omega))) rfl) (by show 1<=sizeLine;omega))) ⟨rfl,[rA],(fun r hr=>by rw[List.mem_singleton.mp hr];exact Jw),by simp,by simp,rfl⟩
   | cons r l=>
     subst hr1;exact wR ⟨rfl,r ::l,g1,l1,by simp,rfl⟩
  rintro o S1 ⟨rfl,rs,g,l,rV,rfl⟩;refine⟨_,rfl,?_⟩;have hR:∀r∈rs,uR r:=fun r hr=>(g r hr).R
  refine d8 <| jl (by simp) <| ik (d:=oD (qQ s0 rs)) (aN (ds:=[.lst (rs.map Rx.d)]) rfl (BL (fun r hr=>(g r hr).j) (by omega))) ⟨_,rfl,?_⟩
  simp only[List.set];refine d8 <| jl (by simp) <| ik (d:= .str (Str.join NL (rs.map (·.t)))) (ma (x:=NL) rfl (au (aK (gQ (ds:=rs.map Rx.d) (gy rfl) (by rw[List.length_map];omega) (NT.d6 Rx.d (fun r=> .str r.t) fun r _=>⟨[.val r.d],rfl,rfl,aH (a:=r.d) (b:= .int 0) rfl rfl rfl⟩))) rfl) (by rw[show(rs.map fun r=>D.str r.t)=(rs.map (·.t)).map .str by rw[List.map_map];rfl];exact zA hR (by omega))) ⟨_,rfl,?_⟩
  simp only[List.set];have hrw:Rw 1000000 (Str.join NL (rs.map (·.t))):=⟨by have:=Ci hR;omega,fun c hc=>by have:=BI hR c hc;omega⟩
  have Bm:=xy hR rV;have sim:=DL hR (by omega)
  cases hj:qQ s0 rs with
  | some n=>
    rw[hj] at sim;obtain⟨n6,sim⟩:=sim;have c1:b2 CL (ah 3) (eC (.int 0)) (down [some (.d (.lst (ns.map .int))),some (.d (.lst (rs.map Rx.d))),some (.d (nI wy)),some (.d (oD (some n))),some (.d (.str (Str.join NL (rs.map (·.t))))),none,none])= .ok true:=(ck (a:=nI n) (b:=nI 0) rfl rfl (DG _ _)).trans (by rw[decide_eq_true (Nat.zero_le n)])
    refine JN <| E6 <| vZ (b:=true) c1 (u7 <| Na <| EV <| bY <| ik rfl <| ie <| zo hrw (o:=some n) (by rw[Bm,sim];exact⟨by omega,by omega,rfl⟩) <| ik (d:=HZ (some n)) (aK (gQ (ds:=(List.range 14).map nI) (Bc (n:=14) rfl (by omega)) (by simp;omega) (NT.d6 nI (fun k=> .bl (decide (n=k))) fun k _=>⟨[.val (nI k), .val (nI n)],rfl,rfl,aH (a:=nI n) (b:=nI k) rfl rfl (Df _ _)⟩))) ⟨_,_, .bl true,rfl,rfl,?_,_,rfl,_,rfl,rfl,⟨_,rfl⟩,_,rfl,rfl,trivial⟩)
    have:HZ (some n)= .lst (((List.range 14).map fun k=>decide (n=k)).map .bl):=by unfold HZ;rw [List.map_map];rfl
    rw[this];exact DK _
  | none=>
    rw[hj] at sim;obtain⟨d,hd,di,dg,Xj⟩:=sim;refine d8 <| E6 <| vZ (b:=false) rfl (wR ⟨_,rfl,?_⟩)
    refine d8 <| jl (by simp) <| EV <| wF <| bY <| ik rfl <| ie <| (?_:W3 _ _)
    rcases Ap (S:=[]) hrw with⟨v,S1,e,d',MS,ok,hv,hS⟩ | ⟨c,S1,e,hc,_⟩
    .rw [Bm,hd] at MS;cases MS;subst hv hS;refine⟨_,_,e,_,rfl,?_⟩;simp only[List.set];refine d8 <| jl (by simp) <| ik (d:= .lst ((rs.map (·.wd)).map .str)) (aK (gQ (ds:=rs.map Rx.d) (gy rfl) (by rw[List.length_map];omega) ((NT.d6 Rx.d (fun r=> .str r.wd) fun r _=>⟨[.val r.d],rfl,rfl,aH (a:=r.d) (b:= .int 1) rfl rfl rfl⟩).trans (by rw[List.map_map];rfl)))) ⟨_,rfl,?_⟩
     simp only[List.set]
     let zs:List Int:=[(d.ins.length:Int),(d.gs.length:Int),(d.os.length:Int)]
     refine u7 <| Vx (d:= .bl true) (aH (a:= .lst (zs.map .int)) (b:= .lst (zs.map .int)) (aK (gQ (ds:=[.lst (d.ins.map MT.inD), .lst (d.gs.map BF), .lst (d.os.map CN)]) (Kx rfl) (by show 3<=sizeLine;omega) ?_)) (aK (gQ (ds:=[IN,GA,OU].map .str) (gy (aK (aW (ds:=[IN,GA,OU].map .str) rfl (by show 3<=sizeLine;omega)))) (by show 3<=sizeLine;omega) ?_)) (Cy zs)) rfl ⟨_,rfl,rfl,⟨_,rfl⟩,_,rfl,rfl,trivial⟩
     .show R.ok [nI (d.ins.map MT.inD).length,nI (d.gs.map BF).length,nI (d.os.map CN).length]=_;rw[List.length_map,List.length_map,List.length_map];rfl
     .refine(NT.d6 D.str (fun w=>nI ((rs.map (·.wd)).count w)) fun w _=>⟨[.val (.str w), .val (.lst ((rs.map (·.wd)).map .str))],rfl,rfl,AA (l:=(rs.map (·.wd)).map .str) (ds:=[.str w]) rfl rfl ?_⟩).trans ?_
      .show(match strs? ((rs.map (·.wd)).map D.str) with | some ss=>R.ok (D.int (ss.count w:Nat)) | none=> .no)=_
       rw[L2.strs_map];rfl
      .show R.ok [nI _,nI _,nI _]=R.ok [D.int _,D.int _,D.int _];rw[<-di,<-dg,<-Xj];rfl
    .rw [Bm,hd] at hc;cases hc
 obtain⟨v,S1,e1,rH,e3⟩:=key;unfold AJ O4;show(match yL kU tq ([D.lst (ns.map D.int)].map V3.d) [] with | .ok (.d d) []=>R.aU d.atom (R.ok d) | _=> .no)=_
 rw[show [D.lst (ns.map D.int)].map V3.d=[V3.d (.lst (ns.map .int))] from rfl,e1,rH,e3]
 rfl
end K04
end
open PySem PySem.W PyProof.Rows
set_option maxRecDepth 100000 in
set_option maxHeartbeats 0 in
theorem PySem.Challenge.cw_bearfaults_k04_rows_in_any_order_holds : PySem.Challenge.rw_bearfaults_k04_rows_in_any_order.Holds := by
 w_on;o_law;k_head;(case hw=>w_witness2)
 k_fill
 refine L2.N2 (l:=PySem.Challenge.rw_bearfaults_k04_rows_in_any_order) (n:=63) (k:=8) (x:="script") (g:=K04.AJ) rfl (by decide) rfl ⟨rfl,by decide,by decide⟩ (fun w h Y=>PySem.W.kIn_of Y) ?F K04.Dk
 case F=>
  intro w mg fa h KX G ON
  have ri:L2.Def (L2.gc KX) mg "is_name" K04.l7:=by
   dsimp only[L2.gc]
   refine' L2.dI KX G ?a ?l ?c ?k
   (case a=>k_is);(case l=>k_is);(case c=>k_is);(case k=>k_is)
  have pR:L2.Def (L2.gc KX) mg "in_wires" K04.ke:=by
   dsimp only[L2.gc]
   refine' L2.dI KX G ?a ?l ?c ?k
   (case a=>k_is);(case l=>k_is);(case c=>k_is);(case k=>k_is)
  have kB:L2.Def (L2.gc KX) mg "is_wire_form" K04.eg:=by
   dsimp only[L2.gc]
   refine' L2.dI KX G ?a ?l ?c ?k
   (case a=>k_is);(case l=>k_is);(case c=>k_is);(case k=>k_is)
  have iC:L2.Def (L2.gc KX) mg "are_wire_forms" K04.dc:=by
   dsimp only[L2.gc]
   refine' L2.dI KX G ?a ?l ?c ?k
   (case a=>k_is);(case l=>k_is);(case c=>k_is);(case k=>k_is)
  have my:L2.Def (L2.gc KX) mg "is_in_form" K04.gf:=by
   dsimp only[L2.gc]
   refine' L2.dI KX G ?a ?l ?c ?k
   (case a=>k_is);(case l=>k_is);(case c=>k_is);(case k=>k_is)
  have ku:L2.Def (L2.gc KX) mg "is_gate_form" K04.dU:=by
   dsimp only[L2.gc]
   refine' L2.dI KX G ?a ?l ?c ?k
   (case a=>k_is);(case l=>k_is);(case c=>k_is);(case k=>k_is)
  have lD:L2.Def (L2.gc KX) mg "is_out_form" K04.fm:=by
   dsimp only[L2.gc]
   refine' L2.dI KX G ?a ?l ?c ?k
   (case a=>k_is);(case l=>k_is);(case c=>k_is);(case k=>k_is)
  have pM:L2.Def (L2.gc KX) mg "read_row" K04.j_:=by
   dsimp only[L2.gc]
   refine' L2.dI KX G ?a ?l ?c ?k
   (case a=>k_is);(case l=>k_is);(case c=>k_is);(case k=>k_is)
  have z7:L2.Def (L2.gc KX) mg "read" K04.sF:=by
   dsimp only[L2.gc]
   refine' L2.dI KX G ?a ?l ?c ?k
   (case a=>k_is);(case l=>k_is);(case c=>k_is);(case k=>k_is)
  have lu:L2.Def (L2.gc KX) mg "_law_cell_at" K04.e_:=by
   dsimp only[L2.gc]
   refine' L2.dI KX G ?a ?l ?c ?k
   (case a=>k_is);(case l=>k_is);(case c=>k_is);(case k=>k_is)
  have pQ:L2.Def (L2.gc KX) mg "_law_stir" K04.ka:=by
   dsimp only[L2.gc]
   refine' L2.dI KX G ?a ?l ?c ?k
   (case a=>k_is);(case l=>k_is);(case c=>k_is);(case k=>k_is)
  have lr:L2.Def (L2.gc KX) mg "_law_any_row" K04.fu:=by
   dsimp only[L2.gc]
   refine' L2.dI KX G ?a ?l ?c ?k
   (case a=>k_is);(case l=>k_is);(case c=>k_is);(case k=>k_is)
  have q_:L2.Def (L2.gc KX) mg "_law_due" K04.lI:=by
   dsimp only[L2.gc]
   refine' L2.dI KX G ?a ?l ?c ?k
   (case a=>k_is);(case l=>k_is);(case c=>k_is);(case k=>k_is)
  have mH:L2.Def (L2.gc KX) mg "_law_behind" K04.gp:=by
   dsimp only[L2.gc]
   refine' L2.dI KX G ?a ?l ?c ?k
   (case a=>k_is);(case l=>k_is);(case c=>k_is);(case k=>k_is)
  have mB:L2.Def (L2.gc KX) mg "_law_judged" K04.gI:=by
   dsimp only[L2.gc]
   refine' L2.dI KX G ?a ?l ?c ?k
   (case a=>k_is);(case l=>k_is);(case c=>k_is);(case k=>k_is)
  have lx:L2.Def (L2.gc KX) mg "_law_refused" K04.fq:=by
   dsimp only[L2.gc]
   refine' L2.dI KX G ?a ?l ?c ?k
   (case a=>k_is);(case l=>k_is);(case c=>k_is);(case k=>k_is)
  have mF:L2.Def (L2.gc KX) mg "_law_mended" K04.gM:=by
   dsimp only[L2.gc]
   refine' L2.dI KX G ?a ?l ?c ?k
   (case a=>k_is);(case l=>k_is);(case c=>k_is);(case k=>k_is)
  have D_law:L2.Def (L2.gc KX) mg "law" K04.Aj:=by
   dsimp only[L2.gc]
   refine' L2.dI KX G ?a ?l ?c ?k
   (case a=>k_is);(case l=>k_is);(case c=>k_is);(case k=>k_is)
  have uc:L2.Glob (L2.gc KX) mg "MOST_LETTERS" K04.dX:=by
   dsimp only[L2.gc]
   refine' L2.lU KX G ?a
   (case a=>k_is)
  have Gd:L2.Glob (L2.gc KX) mg "BARRED" K04.nA:=by
   dsimp only[L2.gc]
   refine' L2.xD KX G ["in","gate","sure","out","not","and","or","xor","vote"] ?a ?l ?c ?d ?z ?r
   (case a=>k_is);(case l=>k_is);(case c=>rfl);(case d=>rfl);(case z=>decide);(case r=>exact .cons ⟨_,rfl⟩ (.cons ⟨_,rfl⟩ (.cons ⟨_,rfl⟩ (.cons ⟨_,rfl⟩ (.cons ⟨_,rfl⟩ (.cons ⟨_,rfl⟩ (.cons ⟨_,rfl⟩ (.cons ⟨_,rfl⟩ (.cons ⟨_,rfl⟩ (.nil))))))))))
  have CC:L2.Glob (L2.gc KX) mg "LETTERS" K04.lY:=by
   dsimp only[L2.gc]
   refine' L2.CZ KX G ?a
   (case a=>k_is)
  have CD:L2.Glob (L2.gc KX) mg "FIGURES" K04.lM:=by
   dsimp only[L2.gc]
   refine' L2.xD KX G ["0","1","2","3","4","5","6","7","8","9"] ?a ?l ?c ?d ?z ?r
   (case a=>k_is);(case l=>k_is);(case c=>rfl);(case d=>rfl);(case z=>decide);(case r=>exact .cons ⟨_,rfl⟩ (.cons ⟨_,rfl⟩ (.cons ⟨_,rfl⟩ (.cons ⟨_,rfl⟩ (.cons ⟨_,rfl⟩ (.cons ⟨_,rfl⟩ (.cons ⟨_,rfl⟩ (.cons ⟨_,rfl⟩ (.cons ⟨_,rfl⟩ (.cons ⟨_,rfl⟩ (.nil)))))))))))
  have rf:L2.Glob (L2.gc KX) mg "MOST_OUT_WIRES" K04.c_:=by
   dsimp only[L2.gc]
   refine' L2.lU KX G ?a
   (case a=>k_is)
  have z6:L2.Glob (L2.gc KX) mg "MOST_INS" K04.ko:=by
   dsimp only[L2.gc]
   refine' L2.lU KX G ?a
   (case a=>k_is)
  have w_:L2.Glob (L2.gc KX) mg "MOST_GATES" K04.gm:=by
   dsimp only[L2.gc]
   refine' L2.lU KX G ?a
   (case a=>k_is)
  have yJ:L2.Glob (L2.gc KX) mg "MOST_OUTS" K04.jj:=by
   dsimp only[L2.gc]
   refine' L2.lU KX G ?a
   (case a=>k_is)
  have yK:L2.Glob (L2.gc KX) mg "MOST_ROWS" K04.jm:=by
   dsimp only[L2.gc]
   refine' L2.lU KX G ?a
   (case a=>k_is)
  have CA:L2.n5 PySem.Challenge.rw_bearfaults_k04_rows_in_any_order.prog w (L2.gc KX) mg "WIDTHS" K04.oC:=by
   dsimp only[L2.gc]
   refine' L2.yk KX G [("1",_,1,_),("2",_,2,_),("3",_,3,_)] ?a ?l ?s ?k ?d ?m ?z
   (case a=>k_is);(case l=>k_is);(case s=>rfl);(case k=>rfl);(case d=>decide);(case m=>rfl);(case z=>decide)
  have uP:L2.n5 PySem.Challenge.rw_bearfaults_k04_rows_in_any_order.prog w (L2.gc KX) mg "KIND_WIRES" K04.ja:=by
   dsimp only[L2.gc]
   refine' L2.yk KX G [("not",_,1,_),("and",_,2,_),("or",_,2,_),("xor",_,2,_),("vote",_,3,_)] ?a ?l ?s ?k ?d ?m ?z
   (case a=>k_is);(case l=>k_is);(case s=>rfl);(case k=>rfl);(case d=>decide);(case m=>rfl);(case z=>decide)
  obtain⟨cl,CF⟩:∃cl,K04.Cf (L2.gc KX) mg cl:=by
   dsimp only[L2.gc]
   refine' K04.M5 KX G ?Sr ?S7 ?RM ?SG ?Si ?SR ?Te ?z0 ?ue ?xb ?ud ?mz ?pN ?SK ?Ta ?SS ?Sk ?Sw ?SA ?Tg ?S5 ?Rm ?Mp ?Ms ?Mj ?Mf ?Mi ?Ru ?RX ?Rn ?R6 ?RW ?Tb ?R1 ?Ry ?S9 ?RG ?Sa ?SX ?So ?Tf ?SU ?Sd ?SE ?SQ ?RC ?RY ?Rq ?Sq ?Sg ?Sj ?SV ?Su ?SM ?RE ?Rr ?R9 ?RP ?RO ?RV ?RF ?RU ?Rt ?RQ ?Sz ?Rl ?SH ?Sb ?Rp ?RZ ?SD ?Rz ?RJ ?Rv ?SI ?R5 ?IJ ?IL ?lz ?jC ?lA ?kE ?iM ?jP ?iH ?t_ ?jA ?gS ?jL ?iK ?fW ?hV ?fQ ?pL ?kF ?i8 ?kJ ?jM ?hX ?iR ?g7 ?rh ?jU ?gW ?jV ?iX ?fN ?gY ?fL ?pP ?iI ?fV ?iQ ?g4 ?eX ?fZ ?eV ?n8 ?mJ ?kC ?mK ?lq ?jE ?kK ?jI ?xf ?ky ?iF ?kA ?jJ ?gR ?iZ ?gU ?rg ?mC ?kx ?mG ?lF ?jG ?kI ?jQ ?wZ ?jO ?g6 ?jT ?iY ?f6 ?gZ ?fM ?pO ?lC ?jD ?lE ?kq ?iE ?jH ?iJ ?uf ?iS ?fO ?iO ?gT ?eW ?f7 ?eR ?n9 ?iG ?fR ?i3 ?g_ ?eS ?fY ?eU ?n_ ?fP ?eA ?fX ?eQ ?dN ?en ?dO ?lB ?jS ?g9 ?jN ?i0 ?fT ?g5 ?f9 ?pJ ?fU ?eu ?fS ?eT ?dM ?eo ?dJ ?kz ?kH ?kG ?d_ ?hU ?er ?el ?ei ?cf ?cY ?iB ?iU ?iA ?de ?eK ?jR ?jB ?jF ?dz ?fI ?iW ?i5 ?iT ?c6 ?iV
   (case Sr=>k_is)
   (case S7=>k_is)
   (case RM=>k_is)
   (case SG=>k_is)
   (case Si=>k_is)
   (case SR=>k_is)
   (case Te=>k_is)
   (case z0=>k_is)
   (case ue=>k_is)
   (case xb=>k_is)
   (case ud=>k_is)
   (case mz=>k_is)
   (case pN=>k_is)
   (case SK=>k_is)
   (case Ta=>k_is)
   (case SS=>k_is)
   (case Sk=>k_is)
   (case Sw=>k_is)
   (case SA=>k_is)
   (case Tg=>k_is)
   (case S5=>k_is)
   (case Rm=>k_is)
   (case Mp=>k_is)
   (case Ms=>k_is)
   (case Mj=>k_is)
   (case Mf=>k_is)
   (case Mi=>k_is)
   (case Ru=>kernel_rfl)
   (case RX=>k_is)
   (case Rn=>k_is)
   (case R6=>k_is)
   (case RW=>k_is)
   (case Tb=>k_is)
   (case R1=>kernel_rfl)
   (case Ry=>kernel_rfl)
   (case S9=>k_is)
   (case RG=>k_is)
   (case Sa=>k_is)
   (case SX=>k_is)
   (case So=>k_is)
   (case Tf=>kernel_rfl)
   (case SU=>kernel_rfl)
   (case Sd=>k_is)
   (case SE=>k_is)
   (case SQ=>k_is)
   (case RC=>k_is)
   (case RY=>k_is)
   (case Rq=>kernel_rfl)
   (case Sq=>kernel_rfl)
   (case Sg=>k_is)
   (case Sj=>k_is)
   (case SV=>k_is)
   (case Su=>k_is)
   (case SM=>k_is)
   (case RE=>kernel_rfl)
   (case Rr=>kernel_rfl)
   (case R9=>k_is)
   (case RP=>k_is)
   (case RO=>k_is)
   (case RV=>k_is)
   (case RF=>k_is)
   (case RU=>kernel_rfl)
   (case Rt=>kernel_rfl)
   (case RQ=>k_is)
   (case Sz=>k_is)
   (case Rl=>k_is)
   (case SH=>k_is)
   (case Sb=>k_is)
   (case Rp=>kernel_rfl)
   (case RZ=>kernel_rfl)
   (case SD=>k_is)
   (case Rz=>k_is)
   (case RJ=>k_is)
   (case Rv=>k_is)
   (case SI=>k_is)
   (case R5=>kernel_rfl)
   (case IJ=>k_is)
   (case IL=>k_is)
   (case lz=>first | kit_is | kernel_rfl)
   (case jC=>first | kit_is | kernel_rfl)
   (case lA=>first | kit_is | kernel_rfl)
   (case kE=>first | kit_is | kernel_rfl)
   (case iM=>first | kit_is | kernel_rfl)
   (case jP=>first | kit_is | kernel_rfl)
   (case iH=>first | kit_is | kernel_rfl)
   (case t_=>first | kit_is | kernel_rfl)
   (case jA=>first | kit_is | kernel_rfl)
   (case gS=>first | kit_is | kernel_rfl)
   (case jL=>first | kit_is | kernel_rfl)
   (case iK=>first | kit_is | kernel_rfl)
   (case fW=>first | kit_is | kernel_rfl)
   (case hV=>first | kit_is | kernel_rfl)
   (case fQ=>first | kit_is | kernel_rfl)
   (case pL=>first | kit_is | kernel_rfl)
   (case kF=>first | kit_is | kernel_rfl)
   (case i8=>first | kit_is | kernel_rfl)
   (case kJ=>first | kit_is | kernel_rfl)
   (case jM=>first | kit_is | kernel_rfl)
   (case hX=>first | kit_is | kernel_rfl)
   (case iR=>first | kit_is | kernel_rfl)
   (case g7=>first | kit_is | kernel_rfl)
   (case rh=>first | kit_is | kernel_rfl)
   (case jU=>first | kit_is | kernel_rfl)
   (case gW=>first | kit_is | kernel_rfl)
   (case jV=>first | kit_is | kernel_rfl)
   (case iX=>first | kit_is | kernel_rfl)
   (case fN=>first | kit_is | kernel_rfl)
   (case gY=>first | kit_is | kernel_rfl)
   (case fL=>first | kit_is | kernel_rfl)
   (case pP=>first | kit_is | kernel_rfl)
   (case iI=>first | kit_is | kernel_rfl)
   (case fV=>first | kit_is | kernel_rfl)
   (case iQ=>first | kit_is | kernel_rfl)
   (case g4=>first | kit_is | kernel_rfl)
   (case eX=>first | kit_is | kernel_rfl)
   (case fZ=>first | kit_is | kernel_rfl)
   (case eV=>first | kit_is | kernel_rfl)
   (case n8=>first | kit_is | kernel_rfl)
   (case mJ=>first | kit_is | kernel_rfl)
   (case kC=>first | kit_is | kernel_rfl)
   (case mK=>first | kit_is | kernel_rfl)
   (case lq=>first | kit_is | kernel_rfl)
   (case jE=>first | kit_is | kernel_rfl)
   (case kK=>first | kit_is | kernel_rfl)
   (case jI=>first | kit_is | kernel_rfl)
   (case xf=>first | kit_is | kernel_rfl)
   (case ky=>first | kit_is | kernel_rfl)
   (case iF=>first | kit_is | kernel_rfl)
   (case kA=>first | kit_is | kernel_rfl)
   (case jJ=>first | kit_is | kernel_rfl)
   (case gR=>first | kit_is | kernel_rfl)
   (case iZ=>first | kit_is | kernel_rfl)
   (case gU=>first | kit_is | kernel_rfl)
   (case rg=>first | kit_is | kernel_rfl)
   (case mC=>first | kit_is | kernel_rfl)
   (case kx=>first | kit_is | kernel_rfl)
   (case mG=>first | kit_is | kernel_rfl)
   (case lF=>first | kit_is | kernel_rfl)
   (case jG=>first | kit_is | kernel_rfl)
   (case kI=>first | kit_is | kernel_rfl)
   (case jQ=>first | kit_is | kernel_rfl)
   (case wZ=>first | kit_is | kernel_rfl)
   (case jO=>first | kit_is | kernel_rfl)
   (case g6=>first | kit_is | kernel_rfl)
   (case jT=>first | kit_is | kernel_rfl)
   (case iY=>first | kit_is | kernel_rfl)
   (case f6=>first | kit_is | kernel_rfl)
   (case gZ=>first | kit_is | kernel_rfl)
   (case fM=>first | kit_is | kernel_rfl)
   (case pO=>first | kit_is | kernel_rfl)
   (case lC=>first | kit_is | kernel_rfl)
   (case jD=>first | kit_is | kernel_rfl)
   (case lE=>first | kit_is | kernel_rfl)
   (case kq=>first | kit_is | kernel_rfl)
   (case iE=>first | kit_is | kernel_rfl)
   (case jH=>first | kit_is | kernel_rfl)
   (case iJ=>first | kit_is | kernel_rfl)
   (case uf=>first | kit_is | kernel_rfl)
   (case iS=>first | kit_is | kernel_rfl)
   (case fO=>first | kit_is | kernel_rfl)
   (case iO=>first | kit_is | kernel_rfl)
   (case gT=>first | kit_is | kernel_rfl)
   (case eW=>first | kit_is | kernel_rfl)
   (case f7=>first | kit_is | kernel_rfl)
   (case eR=>first | kit_is | kernel_rfl)
   (case n9=>first | kit_is | kernel_rfl)
   (case iG=>first | kit_is | kernel_rfl)
   (case fR=>first | kit_is | kernel_rfl)
   (case i3=>first | kit_is | kernel_rfl)
   (case g_=>first | kit_is | kernel_rfl)
   (case eS=>first | kit_is | kernel_rfl)
   (case fY=>first | kit_is | kernel_rfl)
   (case eU=>first | kit_is | kernel_rfl)
   (case n_=>first | kit_is | kernel_rfl)
   (case fP=>first | kit_is | kernel_rfl)
   (case eA=>first | kit_is | kernel_rfl)
   (case fX=>first | kit_is | kernel_rfl)
   (case eQ=>first | kit_is | kernel_rfl)
   (case dN=>first | kit_is | kernel_rfl)
   (case en=>first | kit_is | kernel_rfl)
   (case dO=>first | kit_is | kernel_rfl)
   (case lB=>first | kit_is | kernel_rfl)
   (case jS=>first | kit_is | kernel_rfl)
   (case g9=>first | kit_is | kernel_rfl)
   (case jN=>first | kit_is | kernel_rfl)
   (case i0=>first | kit_is | kernel_rfl)
   (case fT=>first | kit_is | kernel_rfl)
   (case g5=>first | kit_is | kernel_rfl)
   (case f9=>first | kit_is | kernel_rfl)
   (case pJ=>first | kit_is | kernel_rfl)
   (case fU=>kernel_rfl)
   (case eu=>kernel_rfl)
   (case fS=>kernel_rfl)
   (case eT=>kernel_rfl)
   (case dM=>kernel_rfl)
   (case eo=>kernel_rfl)
   (case dJ=>kernel_rfl)
   (case kz=>k_is)
   (case kH=>k_is)
   (case kG=>k_is)
   (case d_=>k_is)
   (case hU=>k_is)
   (case er=>k_is)
   (case el=>k_is)
   (case ei=>k_is)
   (case cf=>k_is)
   (case cY=>k_is)
   (case iB=>k_is)
   (case iU=>k_is)
   (case iA=>k_is)
   (case de=>k_is)
   (case eK=>k_is)
   (case jR=>k_is)
   (case jB=>k_is)
   (case jF=>k_is)
   (case dz=>k_is)
   (case fI=>k_is)
   (case iW=>k_is)
   (case i5=>k_is)
   (case iT=>k_is)
   (case c6=>k_is)
   (case iV=>k_is)
  have et:=CF.et
  have cu:=CF.cu
  have df:=CF.df
  have dD:=CF.dD
  have dh:=CF.dh
  have T:K04.Tp PySem.Challenge.rw_bearfaults_k04_rows_in_any_order.prog w (L2.gc KX) mg cl:=by
   dsimp only[L2.gc]
   refine' ⟨PySem.W.mg_none_of KX G ?z_len,PySem.W.mg_none_of KX G ?z_all,PySem.W.mg_none_of KX G ?z_range,PySem.W.mg_none_of KX G ?z_tuple,PySem.W.mg_none_of KX G ?z_str,PySem.W.mg_none_of KX G ?z_int,PySem.W.mg_none_of KX G ?z_isinstance,PySem.W.mg_none_of KX G ?z_ValueError,uc,Gd,CC,CD,rf,z6,w_,yJ,yK,CA,uP,CF.C_Draft,CF.N_Draft_ins,CF.N_Draft_gates,CF.N_Draft_outs,CF.N_Draft_names,CF.N_Draft_out_names,CF.N_Draft_numbers,CF.M_Draft,CF.M_FaultError,CF.M_TooLong,CF.M_NoForm,CF.M_NoPlace,CF.M_Twice,CF.M_Full,CF.M_NoWire,CF.M_Open,CF.M_NotPlain,CF.M_NotThree,CF.M_NotSound,CF.M_NoFit,CF.M_NoShape,CF.M_NoneYet,CF.X_TooLong,CF.X_NoForm,CF.X_NoPlace,CF.X_Twice,CF.X_Full,CF.X_NoWire,CF.X_Open,CF.I_Open_Twice,CF.I_NoWire_Twice,CF.I_Full_Twice,CF.I_Twice_Twice,CF.I_NoPlace_Twice,CF.I_NoForm_Twice,CF.I_TooLong_Twice,CF.O_Twice,CF.I_Open_NoPlace,CF.I_NoWire_NoPlace,CF.I_Full_NoPlace,CF.I_Twice_NoPlace,CF.I_NoPlace_NoPlace,CF.I_NoForm_NoPlace,CF.I_TooLong_NoPlace,CF.O_NoPlace,CF.I_Open_NoForm,CF.I_NoWire_NoForm,CF.I_Full_NoForm,CF.I_Twice_NoForm,CF.I_NoPlace_NoForm,CF.I_NoForm_NoForm,CF.I_TooLong_NoForm,CF.O_NoForm,CF.I_Open_TooLong,CF.I_NoWire_TooLong,CF.I_Full_TooLong,CF.I_Twice_TooLong,CF.I_NoPlace_TooLong,CF.I_NoForm_TooLong,CF.I_TooLong_TooLong,CF.O_TooLong,CF.I_Open_NotPlain,CF.I_NoWire_NotPlain,CF.I_Full_NotPlain,CF.I_Twice_NotPlain,CF.I_NoPlace_NotPlain,CF.I_NoForm_NotPlain,CF.I_TooLong_NotPlain,CF.O_NotPlain,CF.I_Open_Open,CF.I_NoWire_Open,CF.I_Full_Open,CF.I_Twice_Open,CF.I_NoPlace_Open,CF.I_NoForm_Open,CF.I_TooLong_Open,CF.O_Open,CF.I_Open_NoWire,CF.I_NoWire_NoWire,CF.I_Full_NoWire,CF.I_Twice_NoWire,CF.I_NoPlace_NoWire,CF.I_NoForm_NoWire,CF.I_TooLong_NoWire,CF.O_NoWire,CF.I_Open_Full,CF.I_NoWire_Full,CF.I_Full_Full,CF.I_Twice_Full,CF.I_NoPlace_Full,CF.I_NoForm_Full,CF.I_TooLong_Full,CF.O_Full,CF.I_Open_NoShape,CF.I_NoWire_NoShape,CF.I_Full_NoShape,CF.I_Twice_NoShape,CF.I_NoPlace_NoShape,CF.I_NoForm_NoShape,CF.I_TooLong_NoShape,CF.O_NoShape,CF.I_Open_NoFit,CF.I_NoWire_NoFit,CF.I_Full_NoFit,CF.I_Twice_NoFit,CF.I_NoPlace_NoFit,CF.I_NoForm_NoFit,CF.I_TooLong_NoFit,CF.O_NoFit,CF.I_Open_NotSound,CF.I_NoWire_NotSound,CF.I_Full_NotSound,CF.I_Twice_NotSound,CF.I_NoPlace_NotSound,CF.I_NoForm_NotSound,CF.I_TooLong_NotSound,CF.O_NotSound,CF.I_Open_NotThree,CF.I_NoWire_NotThree,CF.I_Full_NotThree,CF.I_Twice_NotThree,CF.I_NoPlace_NotThree,CF.I_NoForm_NotThree,CF.I_TooLong_NotThree,CF.O_NotThree,CF.I_Open_ValueError,CF.I_NoWire_ValueError,CF.I_Full_ValueError,CF.I_Twice_ValueError,CF.I_NoPlace_ValueError,CF.I_NoForm_ValueError,CF.I_TooLong_ValueError,CF.O_ValueError,CF.I_Open_NoneYet,CF.I_NoWire_NoneYet,CF.I_Full_NoneYet,CF.I_Twice_NoneYet,CF.I_NoPlace_NoneYet,CF.I_NoForm_NoneYet,CF.I_TooLong_NoneYet,CF.O_NoneYet,CF.E_Open_FaultError,CF.E_NoWire_FaultError,CF.E_Full_FaultError,CF.E_Twice_FaultError,CF.E_NoPlace_FaultError,CF.E_NoForm_FaultError,CF.E_TooLong_FaultError⟩
   (case z_len=>k_is);(case z_all=>k_is);(case z_range=>k_is);(case z_tuple=>k_is);(case z_str=>k_is);(case z_int=>k_is);(case z_isinstance=>k_is);(case z_ValueError=>k_is)
  obtain⟨fl,fd,Fl,hl⟩:=D_law
  have e0:=ON.symm.trans hl
  cases e0
  refine' ⟨fd,?b,fun base kb nb=>K04.LA T ri pR kB iC my ku lD et cu df dD pM dh z7 lu pQ lr q_ mH mB lx mF Fl⟩
  obtain⟨_,_,_,_,_,_,_,_,_,e,_,_⟩:=Fl.ex
  subst e
  exact fun s u=> .of_eq rfl
