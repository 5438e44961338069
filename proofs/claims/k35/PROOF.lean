import PyProof.Rows.All
import Wide.All
import OpenK.AllK
import Wide.FinOn
import Lean
import PyProof.EqAt
import PyProof.EqKinds
import PyProof.TupleCall
import PyProof.Rows.StrJoin2
import PyProof.TupleOfGen
import PyProof.ListRange
import PyProof.Draws
import PyProof.Rows.StrClose3
import KE.KSortedM
import PyProof.Rows.SortWalk
import PyProof.WalkInts
import PyProof.Rows.Range3
import PyProof.ZipIter
import PyProof.ConsumeWalk
import PyProof.Rows.SeqMore
import KE.KRevIter
import KE.KRevSl
import KE.KUnpack
import KE.KDictSum
import KE.KTupSum
import KE.KSortTup
import KE.KDictOf
import OpenK.KRaise
import KE.KTryMore
import PyProof.ExcArgs
import PyProof.ExcBaseAll.ValueError
import PyProof.NsDelKeeps
import PyProof.AttrMissSeq
import PyProof.FString4
import PyProof.StrLawsRepr
import PyProof.Rows.StrSplitAre
import PyProof.Rows.StrNews2
import PyProof.StrLawsChain
import PyProof.StrLawsTight
import PyProof.Rows.StrJoinRep
import PyProof.Rows.StrMul
import PyProof.StrReplace2
import PyProof.StrLawsReplace
import PyProof.Rows.SetFrom
import PyProof.WalksMore
import PyProof.Rows.SortStr
import PySem.Challenge.RW_bearfaults_k35_joins_refused
noncomputable section
set_option bootstrap.genMatcherCode false
section
open PySem
abbrev Wo:=List (Addr×Obj)
abbrev Wq:=Value->Shared->Prop
abbrev Wr:=List (Str×Nat)
abbrev Ws:=List (Str×List Nat)
abbrev Wt:=List (List Nat)
abbrev Wu:=Str->Option Value
abbrev Wv:=Nat->Addr
end
def PySem.W.Fast.tw8609588405590994092:=0
def PySem.W.Fast.tw12153046696619140072:=0
def PySem.W.Fast.tw1799980282435287149:=0
def PySem.W.Fast.tw892010025705237229:=0
def PySem.W.Fast.tw692375646139250624:=0
def PySem.W.Fast.tw2729186815474560383:=0
def PySem.W.Fast.tw10471268028197820814:=0
def PySem.W.Fast.tw16435565905315110921:=0
def PySem.W.Fast.tw4157863458868473991:=0
def PySem.W.Fast.tw5566070113224212650:=0
def PySem.W.Fast.tw853479287794457976:=0
def PySem.W.Fast.tw1331549361901817698:=0
def PySem.W.Fast.tw10788905411690904691:=0
def PySem.W.Fast.tw1892995601826632850:=0
def PySem.W.Fast.tw922316735585081369:=0
def PySem.W.Fast.tw13450974878501278609:=0
def PySem.W.Fast.tw16810556822483083716:=0
def PySem.W.Fast.tw12030075262624012549:=0
def PySem.W.Fast.tw17346773327144029382:=0
def PySem.W.Fast.tw7727645419310432206:=0
def PySem.W.Fast.tw3955933495914095764:=0
def PySem.W.Fast.tw15269117101228181844:=0
def PySem.W.Fast.tw15648896120367186158:=0
def PySem.W.Fast.tw16087789056015794966:=0
def PySem.W.Fast.tw8125766079413517521:=0
def PySem.W.Fast.tw17337434897006761159:=0
def PySem.W.Fast.tw4345945894861705388:=0
def PySem.W.Fast.tw2074147999345232530:=0
def PySem.W.Fast.tw15886365712976010272:=0
def PySem.W.Fast.tw18135387354733016675:=0
def PySem.W.Fast.tw7313427628518510796:=0
def PySem.W.Fast.tw16467245962933307140:=0
def PySem.W.Fast.tw2234899340506280977:=0
def PySem.W.Fast.tw12838283366827179868:=0
def PySem.W.Fast.tw4703489218717230684:=0
def PySem.W.Fast.tw7274777437750812944:=0
def PySem.W.Fast.tw8400801022944194095:=0
def PySem.W.Fast.tw14224338979110923014:=0
def PySem.W.Fast.tw13302435066899969485:=0
def PySem.W.Fast.tw2372743732147993080:=0
set_option Elab.async false
set_option linter.all false
set_option maxRecDepth 100000
set_option maxHeartbeats 4000000
section
namespace L2
open PySem PySem.Spec PyProof.Rows
abbrev Key:=Sum Int Str
def sC:Key->Value->Bool
 | .inl k,v=>Value.isInt k v
 | .inr x,v=>Value.isStrOf x v
def Nw(w:World):Key->Int
 | .inl k=>hashInt k
 | .inr x=>hashStr w x
theorem cP:∀{k:Key} {v:Value},sC k v=true->(∃i t,k=Sum.inl i/\v=Value.int i t)\/(∃x t,k=Sum.inr x/\v=Value.str x t)
 | .inl i,v,h=>by
   obtain⟨t,e⟩:=Value.isInt_shape (k:=i) (v:=v) h;exact .inl ⟨i,t,rfl,e⟩
 | .inr x,v,h=>by
   obtain⟨t,e⟩:=Value.isStrOf_shape (x:=x) (v:=v) h;exact .inr ⟨x,t,rfl,e⟩
theorem zq(i:Int)(t:Tok):sC (.inl i) (.int i t)=true:=by simp [sC,Value.isInt]
theorem zJ(x:Str)(t:Tok):sC (.inr x) (.str x t)=true:=by simp [sC,Value.isStrOf]
theorem Ha(a b:Int):decide ((Sum.inl a:Key)=Sum.inl b)=(a==b):=by
 by_cases e:a=b
 .subst e;simp
 .have h:¬(Sum.inl a:Key)=Sum.inl b:=fun q=>e (Sum.inl.inj q)
  rw[decide_eq_false h];exact(beq_eq_false_iff_ne.mpr e).symm
theorem GS(a b:Str):decide ((Sum.inr a:Key)=Sum.inr b)=decide (a=b):=by
 by_cases e:a=b
 .subst e;simp
 .have h:¬(Sum.inr a:Key)=Sum.inr b:=fun q=>e (Sum.inr.inj q)
  rw[decide_eq_false h,decide_eq_false e]
theorem G7(a:Int)(b:Str):decide ((Sum.inl a:Key)=Sum.inr b)=false:=decide_eq_false (fun q=>nomatch q)
theorem He(a:Str)(b:Int):decide ((Sum.inr a:Key)=Sum.inl b)=false:=decide_eq_false (fun q=>nomatch q)
def cL(prog:Program)(w:World):PySem.KeyKind prog w Key where
 is:=sC
 hash:=Nw w
 inj:=fun v a b ha hb=>by
  rcases cP ha with⟨i,t,rfl,rfl⟩ | ⟨x,t,rfl,rfl⟩
  .rcases cP hb with⟨j,u,rfl,e⟩ | ⟨y,u,rfl,e⟩
   .injection e with e1 _;rw [e1]
   .exact nomatch e
  .rcases cP hb with⟨j,u,rfl,e⟩ | ⟨y,u,rfl,e⟩
   .exact nomatch e
   .injection e with e1 _;rw [e1]
 byValue:=fun k v h=>by
  rcases cP h with⟨i,t,rfl,rfl⟩ | ⟨x,t,rfl,rfl⟩ <;> rfl
 pyHash:=fun hv h=>by
  rcases cP hv with⟨i,t,rfl,rfl⟩ | ⟨x,t,rfl,rfl⟩
  .exact wpAny_pyHash_int h
  .exact wpAny_pyHash_str h
 eqBool:=fun hu hv h=>by
  rcases cP hu with⟨i,t,rfl,rfl⟩ | ⟨x,t,rfl,rfl⟩
  .rcases cP hv with⟨j,u,rfl,rfl⟩ | ⟨y,u,rfl,rfl⟩
   .rw [Ha] at h;exact wpAny_eqBool_int h
   .rw [G7] at h;exact SeqAt.EqAt.int_str i t y u _ _ _ _ h
  .rcases cP hv with⟨j,u,rfl,rfl⟩ | ⟨y,u,rfl,rfl⟩
   .rw [He] at h;exact SeqAt.EqAt.str_int x t j u _ _ _ _ h
   .rw [GS] at h;exact wpAny_eqBool_str h
 «strs»:=fun k x t v h=>by
  rcases cP h with⟨i,u,rfl,e⟩ | ⟨y,u,rfl,e⟩
  .exact nomatch e
  .injection e with e1 _
   subst e1;cases v <;> rfl
theorem vR(prog:Program)(w:World)(i:Int)(t:Tok):(cL prog w).is (.inl i) (.int i t)=true:=zq i t
theorem vh(prog:Program)(w:World)(x:Str)(t:Tok):(cL prog w).is (.inr x) (.str x t)=true:=zJ x t
inductive V where
 | cI | bl (b:Bool) | int (i:Int) | str (x:Str) | byt (b:Array UInt8) | flt (b:UInt64) | ref (a:Addr) | ty (n:String)
 deriving DecidableEq
def RelV:V->Value->Prop
 | .cI,u=>u=Value.none
 | .bl b,u=>u=Value.bool b
 | .int i,u=>∃t,u=Value.int i t
 | .str x,u=>∃t,u=Value.str x t
 | .byt b,u=>∃t,u=Value.bytes b t
 | .flt b,u=>∃t,u=Value.float b t
 | .ref a,u=>u=Value.ref a
 | .ty n,u=>u=Value.type n
abbrev Vals:List V->List Value->Prop:=Paired RelV
theorem Vals.length{xs:List V}{us:List Value}(r:Vals xs us):xs.length=us.length:=Paired.length r
theorem Vals.get:∀{xs:List V} {us:List Value} {i:Nat} {x:V},Vals xs us->xs[i]? =some x->∃u,us[i]? =some u/\RelV x u
 | _,_,_,_, .nil,e=>by simp at e
 | _,_,0,_, .cons r _,e=>by simp at e;subst e;exact⟨_,rfl,r⟩
 | _,_,i+1,x, .cons _ t,e=>by
   obtain⟨u,h1,h2⟩:=Vals.get (i:=i) (x:=x) t (by simpa using e)
   exact⟨u,by simpa using h1,h2⟩
theorem Vals.append:∀{xs ys:List V} {us ws:List Value},Vals xs us->Vals ys ws->Vals (xs++ys) (us++ws)
 | _,_,_,_, .nil,s=>s
 | _,_,_,_, .cons r t,s=> .cons r (Vals.append t s)
theorem Vals.take:∀{xs:List V} {us:List Value} (n:Nat),Vals xs us->Vals (xs.take n) (us.take n)
 | _,_,0,_=> .nil
 | _,_,_+1, .nil=> .nil
 | _,_,n+1, .cons r t=> .cons r (Vals.take n t)
theorem Vals.drop:∀{xs:List V} {us:List Value} (n:Nat),Vals xs us->Vals (xs.drop n) (us.drop n)
 | _,_,0,r=>r
 | _,_,_+1, .nil=> .nil
 | _,_,n+1, .cons _ t=>Vals.drop n t
def oY:Option V->Option Value->Prop
 | some v,some u=>RelV v u
 | none,none=>True
 | _,_=>False
def KV{κ:Type}:List (κ × V)->List (κ × Value)->Prop:=Paired fun(p:κ × V) (q:κ × Value)=>p.1=q.1/\RelV p.2 q.2
def kV:Key->V
 | .inl i=> .int i
 | .inr x=> .str x
inductive HO where
 | lst (xs:List V)
 | tup (xs:List V)
 | dK (aC:List (Key × V)) | dT (aC:List (List Key × V))
 | set (S:Int->Bool) (n:Nat)
 | ins (C dx:Addr) (fs:List (Str × V))
 | own (x:Addr)
 | xd (fs:List (Str × V))
 | met (f x:Addr)
 | rng (lo hi:Int)
 | jn (o:Obj) (u:HO)
 | qc (ps:Array Value)
 | ext (φ:Heap->Prop)
abbrev Hp:=Addr->Option HO
def upd(H:Hp)(a:Addr)(o:HO):Hp:=fun b=>if b=a then some o else H b
theorem a_{a:Addr}{o:HO}:upd H a o a=some o:=by unfold upd;rw [if_pos rfl]
theorem bf{H:Hp}{a b:Addr}{o:HO}(h:b≠a):upd H a o b=H b:=by unfold upd;rw [if_neg h]
theorem EY{a:Addr}{o u:HO}:upd (upd H a o) a u=upd H a u:=by
 funext b;unfold upd;split <;> rfl
theorem KS{H:Hp}{a b:Addr}{o u:HO}(h:H a=some o)(h':H b=some u)(d:o≠u):a≠b:=by
 intro e;subst e;rw [h] at h';exact d (Option.some.inj h')
theorem bD{H:Hp}{a b:Addr}{o:HO}(h:H a=some o)(h':H b=none):a≠b:=by
 intro e;subst e;rw [h] at h';cases h'
section
variable (P:Program) (w:World)
def de(H:Hp)(h:Heap)(a:Addr):HO->Prop
 | .lst xs=>xs.length<=sizeLine/\∃(its:List Value) (n:Nat),Vals xs its/\h.get? a=some {cls:= .type "list",data:= .seq its.toArray n}
 | .tup xs=>xs.length<=sizeLine/\∃its:List Value,Vals xs its/\IsTup h a its.toArray
 | .dK aC=>aC.length<=sizeLine/\(a==sysModules)=false/\∃vs,KV aC vs/\h.DictOf (cL P w) a vs
 | .dT aC=>aC.length<=sizeLine/\(a==sysModules)=false/\∃xs:List (List Key × Addr × Value),
    Paired (fun(p:List Key × V) (q:List Key × Addr × Value)=>p.1=q.1/\H q.2.1=some (.tup (p.1.map kV))/\RelV p.2 q.2.2) aC xs/\
    ∃o es ep,h.get? a=some o/\o.ExactDict/\o.data= .dict es ep/\es.toList=xs.map (entryOfKey (tupleKind (cL P w)))/\(xs.map (·.1)).Nodup
 | .set S n=>h.SetOf (intKind P w) a S n
 | .ins C dx fs=>H dx=some (.own a)/\fs.length<=1000/\dx≠a/\h.get? a=some (PySem.W.instObj C dx)/\
    ∃mA,h.Ns1 dx mA/\(∀f,oY (fs.lookup f) (mA f))/\PySem.Within mA (fs.map (·.1))
 | .own _=>∃o,h.get? a=some o
 | .xd fs=>∃mA,h.Ns1 a mA/\∀f,oY (fs.lookup f) (mA f)
 | .rng lo hi=>∃t u v,h.get? a=some {cls:= .type "range",data:= .fields #[.int lo t, .int hi u, .int 1 v]}
 | .jn o u=>h.get? a=some o/\de H h a u
 | .qc ps=>h.get? a=some {cls:= .none,data:= .fields ps}
 | .met f x=>h.get? a=some (PySem.W.methodObj (.ref f) (.ref x))
 | .ext φ=>φ h/\(∃o,h.get? a=some o)/\∀h1 h2:Heap,φ h1->(∀o,h1.get? a=some o->h2.get? a=some o)->φ h2
def kU(H:Hp)(h:Heap):Prop:=∀a o,H a=some o->de P w H h a o
end
section
variable {P:Program} {w:World} {H H':Hp} {h h':Heap} {a:Addr} {o:HO}
theorem de.lt(x:de P w H h a o):a < h.objs.size:=by
 cases o with
 | lst xs=>obtain⟨_,_,_,_,e⟩:=x;exact Heap.lt_size e
 | tup xs=>obtain⟨_,_,_,p⟩:=x;exact p.lt
 | dK aC=>obtain⟨_,_,_,_,o,_,_,e,_⟩:=x;exact Heap.lt_size e
 | dT aC=>obtain⟨_,_,_,_,o,_,_,e,_⟩:=x;exact Heap.lt_size e
 | set S n=>obtain⟨o,_,_,_,e,_⟩:=x;exact Heap.lt_size e
 | ins C dx fs=>obtain⟨_,_,_,e,_⟩:=x;exact Heap.lt_size e
 | own y=>obtain⟨_,e⟩:=x;exact Heap.lt_size e
 | xd fs=>obtain⟨_,⟨_,_,_,e,_⟩,_⟩:=x;exact Heap.lt_size e
 | rng lo hi=>obtain⟨_,_,_,e⟩:=x;exact Heap.lt_size e
 | jn ob u=>obtain⟨e,_⟩:=x;exact Heap.lt_size e
 | qc ps=>exact Heap.lt_size (show h.get? a=some _ from x)
 | met f y=>exact Heap.lt_size (show h.get? a=some _ from x)
 | ext φ=>obtain⟨_,⟨_,e⟩,_⟩:=x;exact Heap.lt_size e
theorem Paired.I_{α β:Type}{F G:α->β->Prop}:∀{L_:List α} {LQ:List β},Paired F L_ LQ->(∀a b,F a b->G a b)->Paired G L_ LQ
 | _,_, .nil,_=> .nil
 | _,_, .cons r t,f=> .cons (f _ _ r) (Paired.I_ t f)
theorem de.tU(x:de P w H h a o)(k:∀b u,(b=a\/H b=some (.own a))->h.get? b=some u->h'.get? b=some u)
 (ho:∀b,H b=some (.own a)->H' b=some (.own a)) (ht:∀b xs,H b=some (.tup xs)->H' b=some (.tup xs)):de P w H' h' a o:=by
 induction o with
 | lst xs=>obtain⟨z,its,n,r,e⟩:=x;exact⟨z,its,n,r,k _ _ (.inl rfl) e⟩
 | tup xs=>obtain⟨z,its,r,ob,e,c⟩:=x;exact⟨z,its,r,ob,k _ _ (.inl rfl) e,c⟩
 | dK aC=>obtain⟨z,y,vs,r,ob,es,ep,e,c⟩:=x;exact⟨z,y,vs,r,ob,es,ep,k _ _ (.inl rfl) e,c⟩
 | dT aC=>
   obtain⟨z,y,xs,r,ob,es,ep,e,c⟩:=x;exact⟨z,y,xs,Paired.I_ r fun p q z=>⟨z.1,ht _ _ z.2.1,z.2.2⟩,ob,es,ep,k _ _ (.inl rfl) e,c⟩
 | set S n=>obtain⟨ob,es,ep,t,e,c⟩:=x;exact⟨ob,es,ep,t,k _ _ (.inl rfl) e,c⟩
 | ins C dx fs=>
   obtain⟨d,z,ne,e,mA,⟨od,es,ep,e2,c⟩,r⟩:=x;exact⟨ho _ d,z,ne,k _ _ (.inl rfl) e,mA,⟨od,es,ep,k _ _ (.inr d) e2,c⟩,r⟩
 | own y=>obtain⟨ob,e⟩:=x;exact⟨ob,k _ _ (.inl rfl) e⟩
 | xd fs=>obtain⟨mA,⟨od,es,ep,e,c⟩,r⟩:=x;exact⟨mA,⟨od,es,ep,k _ _ (.inl rfl) e,c⟩,r⟩
 | rng lo hi=>obtain⟨t,u,v,e⟩:=x;exact⟨t,u,v,k _ _ (.inl rfl) e⟩
 | jn ob u ih=>obtain⟨e,q⟩:=x;exact⟨k _ _ (.inl rfl) e,ih q⟩
 | qc ps=>
   have e:h.get? a=some {cls:= .none,data:= .fields ps}:=x;show h'.get? a=some {cls:= .none,data:= .fields ps};exact k a _ (.inl rfl) e
 | met f y=>
   have e:h.get? a=some (PySem.W.methodObj (.ref f) (.ref y)):=x;show h'.get? a=some (PySem.W.methodObj (.ref f) (.ref y));exact k a _ (.inl rfl) e
 | ext φ=>obtain⟨p,⟨o,e⟩,st⟩:=x;exact⟨st _ _ p fun o q=>k _ _ (.inl rfl) q,⟨o,k _ _ (.inl rfl) e⟩,st⟩
theorem kU.lt(x:kU P w H h)(e:H a=some o):a < h.objs.size:=(x a o e).lt
theorem kU.fresh(x:kU P w H h)(e:h.objs.size<=a):H a=none:=by
 cases q:H a with
 | none=>rfl
 | some u=>exact absurd (Nat.lt_of_lt_of_le (x.lt q) e) (Nat.lt_irrefl _)
theorem kU.kept(x:kU P w H h)(k:∀b u,h.get? b=some u->h'.get? b=some u):kU P w H h':=fun a o e=>
 (x a o e).tU (fun b u _ q=>k b u q) (fun _ q=>q) fun _ _ q=>q
theorem kU.laid(x:kU P w H h)(k:∀b u,h.get? b=some u->h'.get? b=some u)(hp:h.objs.size<=a)(new:de P w (upd H a o) h' a o):kU P w (upd H a o) h':=fun b u e=>by
 have hn:=x.fresh hp;by_cases hb:b=a
 .subst hb;rw [a_] at e;cases e;exact new
 .rw [bf hb] at e;exact(x b u e).tU (fun c v _ q=>k c v q) (fun c q=>by rw[bf (bD q hn)];exact q) fun c xs q=>by rw[bf (bD q hn)];exact q
end
def Rd(H:Hp)(a:Addr)(u:HO):Prop:=H a=some u\/∃o,H a=some (.jn o u)
theorem Rd.ok{a:Addr}{u:HO}(r:Rd H a u)(x:kU P w H h):de P w H h a u:=by
 rcases r with r | ⟨o,r⟩
 .exact x a u r
 .obtain⟨_,q⟩:=x a _ r;exact q
def Kj:Option HO->Prop
 | some (.lst _)=>True
 | some (.dK _)=>True
 | some (.dT _)=>True
 | some (.set _ _)=>True
 | some (.ins _ _ _)=>True
 | some (.ext _)=>True
 | _=>False
section
variable {P:Program} {w:World} {H:Hp} {h h':Heap} {x e:Addr} {o':HO}
theorem kU.write(ok:kU P w H h)(mu:Kj (H x))(he:e=x\/H e=some (.own x))(k:∀b u,b≠e->h.get? b=some u->h'.get? b=some u)(Gz:∃u,h'.get? e=some u)
 (new:de P w (upd H x o') h' x o'):kU P w (upd H x o') h':=fun b u q=>by
 have nown:∀c y,H c=some (.own y)->c≠x:=fun c y r z=>by subst z;rw [r] at mu;exact mu
 have ntup:∀c xs,H c=some (.tup xs)->c≠x:=fun c xs r z=>by subst z;rw [r] at mu;exact mu
 by_cases hb:b=x
 .subst hb;rw [a_] at q;cases q;exact new
 .rw [bf hb] at q;by_cases hbe:b=e
  .have q':H b=some (.own x):=by
    rcases he with z | z
    .exact absurd (hbe.trans z) hb
    .rw [hbe];exact z
   rw[q] at q';cases q';obtain⟨v,hv⟩:=Gz;exact⟨v,by rw[hbe];exact hv⟩
  .refine(ok b u q).tU (fun c v hc r=>k c v ?_ r) (fun c r=>by rw[bf (nown c b r)];exact r) fun c xs r=>by rw[bf (ntup c xs r)];exact r
   rcases hc with rfl | hc
   .exact hbe
   .rintro rfl;rcases he with z | z
    .exact nown c b hc z
    .rw [hc] at z;cases z;exact hb rfl
end
structure Un (fs ex:List Addr) (H H':Hp) (h h':Heap):Prop where
 keep:∀b o,h.get? b=some o->H b=none->b ∉ fs->b ∉ ex->h'.get? b=some o
 slot:∀b o,h.get? b=some o->H b=none->b∈fs->b ∉ ex->∃sl,h'.get? b=some {o with slots:=sl}
 free:∀b o,h.get? b=some o->H b=none->b ∉ ex->H' b=none
 there:∀b o,h.get? b=some o->b ∉ ex->∃o',h'.get? b=some o'
 tups:∀b xs,H b=some (.tup xs)->H' b=some (.tup xs)
 frzs:∀b o u,H b=some (.jn o u)->H' b=some (.jn o u)
 tbls:∀b ps,H b=some (.qc ps)->∃more,H' b=some (.qc (ps++more))
section
variable {fs Md ex V8:List Addr} {H H1 H2:Hp} {h h1 h2 h':Heap} {a x e:Addr} {o:HO}
theorem Un.any(u:Un fs ex H H1 h h1){b:Addr}{ob:Obj}(q:h.get? b=some ob)(n:H b=none)(hx:b ∉ ex):∃sl,h1.get? b=some {ob with slots:=sl}:=by
 by_cases hb:b∈fs
 .exact u.slot b ob q n hb hx
 .exact⟨ob.slots,u.keep b ob q n hb hx⟩
theorem Un.kept(k:∀b u,h.get? b=some u->h'.get? b=some u):Un fs ex H H h h':=
 ⟨fun b ob q _ _ _=>k b ob q,fun b ob q _ _ _=>⟨ob.slots,k b ob q⟩,fun _ _ _ n _=>n,fun b ob q _=>⟨ob,k b ob q⟩,fun _ _ q=>q,fun _ _ _ q=>q,fun _ ps q=>⟨#[],by rw[q];simp⟩⟩
theorem Un.refl:Un fs ex H H h h:=Un.kept fun _ _ q=>q
theorem Un.laid(k:∀b u,h.get? b=some u->h'.get? b=some u)(hp:h.objs.size<=a)(hn:H a=none):Un fs ex H (upd H a o) h h' where
 keep:=fun b u q _ _ _=>k b u q
 slot:=fun b u q _ _ _=>⟨u.slots,k b u q⟩
 free:=fun b u q n _=>by rw[bf (Nat.ne_of_lt (Nat.lt_of_lt_of_le (Heap.lt_size q) hp))];exact n
 there:=fun b u q _=>⟨u,k b u q⟩
 tups:=fun b xs q=>by rw[bf (bD q hn)];exact q
 frzs:=fun b u xs q=>by rw[bf (bD q hn)];exact q
 tbls:=fun b ps q=>⟨#[],by rw[bf (bD q hn),q];simp⟩
theorem Un.write(mu:Kj (H x))(he:e=x\/H e=some (.own x))(k:∀b u,b≠e->h.get? b=some u->h'.get? b=some u)(Gz:∃u,h'.get? e=some u):Un fs ex H (upd H x o) h h':=by
 have hx:∀b,H b=none->b≠x:=fun b n z=>by subst z;rw [n] at mu;exact mu
 have hb:∀b,H b=none->b≠e:=fun b n z=>by
  subst z;rcases he with r | r
  .exact hx b n r
  .rw [n] at r;cases r
 have hm:∀b u,H b=some u->¬Kj (some u)->b≠x:=fun b u q nm z=>by subst z;rw [q] at mu;exact nm mu
 refine⟨fun b u q n _ _=>k b u (hb b n) q,fun b u q n _ _=>⟨u.slots,k b u (hb b n) q⟩,fun b u q n _=>by rw[bf (hx b n)];exact n,fun b u q _=>?_,
  fun b xs q=>by rw[bf (hm b _ q fun z=>z)];exact q,fun b u xs q=>by rw[bf (hm b _ q fun z=>z)];exact q,fun b ps q=>⟨#[],by rw[bf (hm b _ q fun z=>z),q];simp⟩⟩
 by_cases hbe:b=e
 .subst hbe;exact Gz
 .exact⟨u,k b u hbe q⟩
end
def Dg(h:Heap)(H:Hp):List Addr:=(List.range h.objs.size).filter fun a=>(H a).isSome
def t6(h:Heap)(H:Hp):Heap:=PySem.W.hideAll h (Dg h H)
theorem zp(h:Heap)(H:Hp):(t6 h H).objs.size=h.objs.size:=PySem.W.hideAll_size _ _
theorem Cs{h:Heap}{H:Hp}{b:Addr}{o:Obj}(e:h.get? b=some o)(n:H b=none):(t6 h H).get? b=some o:=
 PySem.W.hideAll_get _ e fun hm=>by
  have q:(H b).isSome=true:=(List.mem_filter.mp hm).2;rw[n] at q;simp at q
theorem DZ{h:Heap}{H:Hp}{b:Addr}{o:Obj}(e:(t6 h H).get? b=some o):h.get? b=some o/\H b=none:=by
 have e':h.get? b=some o:=PySem.W.of_hideAll (Dg h H) e;refine⟨e',?_⟩;cases q:H b with
 | none=>rfl
 | some x=>
   have hm:b∈Dg h H:=List.mem_filter.mpr ⟨List.mem_range.mpr (Heap.lt_size e'),by simp [q]⟩
   have z:(t6 h H).get? b=none:=PySem.W.hideAll_none (Dg h H) hm;rw[z] at e;cases e
def Eo(g h:Heap)(L:Addr):Wo:=(List.range h.objs.size).filterMap fun a=>if a=L\/(g.get? a).isSome=true then none else(h.get? a).map fun o=>(a,o)
def rest(g h:Heap)(L d:Addr):Wo:=(Eo g h L).filter fun p=>decide (p.1≠d)
structure Mod (K:W.Frag) (mg:Wu) (base:Heap):Prop where
 kin:K.In base
 glob:base.Ns mainGlobals mg
 blt:∃mb,base.Ns builtinsNs mb/\∀x:Str,x≠"__name__"->mb x=bootBuiltins x
 nolimit:base.NoLimit
structure Cx where
 prog:Program
 w:World
 K:W.Frag
 mg:Wu
 base:Heap
 A:Around
 N:List Str
 s₀:Shared
 H₀:Hp
 env:Env
 outer:List Env
 stack:List Env
 ex:List Addr
 fn:Str->Bool
 calm:Bool
 pn:Wo
 xe:Wq
def mD(l:List Env):List Addr:=l.filterMap (·.frame)
abbrev Cx.fs(X:Cx):List Addr:=mD X.outer
def DA(sc:Scope)(x:Str):Prop:=sc.names.lookup x=some .local\/sc.names.lookup x=some .cell\/sc.names.lookup x=some .free
def Loc(sc:Scope)(x:Str):Prop:=sc.names.lookup x=some .local\/sc.names.lookup x=some .cell
def Look(env:Env)(h:Heap)(m:Wu)(x:Str)(u:Value):Prop:=
 (env.kindOf x=some .local/\m x=some u)\/((env.kindOf x=some .cell\/env.kindOf x=some .free)/\∃c,env.cells.lookup x=some c/\h.IsCell c (some u))
structure Cx.Ok (X:Cx):Prop where
 mod:Mod X.K X.mg X.base
 kind:X.env.scope.kind= .function
 glob:X.env.globals=mainGlobals
 blt:X.env.builtins=builtinsNs
 above:X.s₀.heap.objs.size<=X.env.locals
 inj:∀x y c,X.env.cells.lookup x=some c->X.env.cells.lookup y=some c->x=y
 has:∀x,(X.env.kindOf x=some .cell\/X.env.kindOf x=some .free)->∃c,X.env.cells.lookup x=some c
 cab:∀x c,X.fn x=true->X.env.cells.lookup x=some c->X.s₀.heap.objs.size<=c
 hd:X.calm=true->X.A.handled=none
 frames:X.A.frames=some X.stack
 stk:X.stack=X.outer\/(X.stack=X.env ::X.outer/\X.env.frame=some X.env.locals)
 exf:∀b∈X.ex,b≠X.env.locals/\∀x c,X.env.cells.lookup x=some c->c≠b
 bs:∀b o,X.base.get? b=some o->X.s₀.heap.get? b=some o/\X.H₀ b=none
 bsz:X.base.objs.size<=X.s₀.heap.objs.size
 noex:∀b o,X.base.get? b=some o->b ∉ X.ex
 exfs:∀b∈X.ex,b ∉ X.fs
 n9:X.s₀.heap.FunFrames X.base X.outer
 frf:∀b∈X.fs,X.H₀ b=none
structure Inv (X:Cx) (pins:Wo) (σ:List (Option V)) (H:Hp) (s:Shared):Prop where
 ok:X.Ok
 os:s.os=X.s₀.os
 bare:AllBare s.gens
 base:Un X.fs X.ex X.H₀ H X.s₀.heap s.heap
 loc:∃m,s.heap.Ns X.env.locals m/\∀(i:Nat) (x:Str) (v:V),X.N[i]? =some x->σ[i]? =some (some v)->DA X.env.scope x->∃u,RelV v u/\Look X.env s.heap m x u
 cell:∀x c,X.env.cells.lookup x=some c->∃v,s.heap.IsCell c v
 free:H X.env.locals=none
 freeC:∀x c,X.env.cells.lookup x=some c->H c=none
 pin:∀p∈X.pn++pins,s.heap.get? p.1=some p.2/\H p.1=none/\p.1≠X.env.locals/\p.1 ∉ X.fs/\∀v,p.2.data≠ .cell v
 hok:kU X.prog X.w H s.heap
 len:σ.length=X.N.length
section
variable {X:Cx} {pins:Wo} {σ:List (Option V)} {H H':Hp} {s:Shared} {h':Heap}
theorem Cx.Ok.Nm(ok:X.Ok){b:Addr}{o:Obj}(e:X.base.get? b=some o):b ∉ X.fs:=fun hb=>by
 have:=(ok.n9.mem hb).1;rw[e] at this;cases this
theorem Inv.bs(I:Inv X pins σ H s):∀b o,X.base.get? b=some o->s.heap.get? b=some o/\H b=none:=fun b o e=>
 ⟨I.base.keep b o (I.ok.bs b o e).1 (I.ok.bs b o e).2 (I.ok.Nm e) (I.ok.noex b o e),I.base.free b o (I.ok.bs b o e).1 (I.ok.bs b o e).2 (I.ok.noex b o e)⟩
theorem Inv.bk(I:Inv X pins σ H s):∀b o,X.base.get? b=some o->s.heap.get? b=some o:=fun b o e=>(I.bs b o e).1
theorem Inv.mod(I:Inv X pins σ H s):Mod X.K X.mg X.base:=I.ok.mod
theorem Inv.Dj(I:Inv X pins σ H s):X.K.In s.heap:=I.ok.mod.kin.keeps I.bk
theorem Inv.lt(I:Inv X pins σ H s):X.env.locals < s.heap.objs.size:=let⟨_,hn,_⟩:=I.loc;hn.lt
theorem Inv.sz(I:Inv X pins σ H s):X.s₀.heap.objs.size<=s.heap.objs.size:=Nat.le_trans I.ok.above (Nat.le_of_lt I.lt)
theorem Inv.N_(I:Inv X pins σ H s){a:Addr}(h:s.heap.objs.size<=a):a ∉ X.fs:=fun hb=>by
 obtain⟨_,o,ho,_⟩:=I.ok.n9.mem hb;exact absurd (Nat.lt_of_lt_of_le (Heap.lt_size ho) (Nat.le_trans I.sz h)) (Nat.lt_irrefl _)
theorem Inv.Cj(I:Inv X pins σ H s):∀x c,X.env.cells.lookup x=some c->c≠X.env.locals:=fun x c e z=>by
 obtain⟨v,o,ho,hd⟩:=I.cell x c e;obtain⟨m,⟨o',es,ep,v3,U2,_⟩,_⟩:=I.loc;rw[z,v3] at ho;cases ho;rw [U2] at hd;cases hd
theorem Inv.n9(I:Inv X pins σ H s):s.heap.FunFrames X.base X.outer:=by
 have all:∀(l:List Env),(∀b∈mD l,b∈X.fs)->X.s₀.heap.FunFrames X.base l->s.heap.FunFrames X.base l:=by
  intro l
  induction l with
  | nil=>intro _ _;trivial
  | cons env r ih=>
    intro hs hl;obtain⟨hk,⟨L,o,hf,hn,ho,hd⟩,hr⟩:=hl;have hL:L∈X.fs:=hs L (by unfold mD;rw [List.filterMap_cons,hf];exact List.mem_cons_self)
    obtain⟨sl,e⟩:=I.base.slot L o ho (I.ok.frf L hL) hL fun z=>I.ok.exfs L z hL
    exact⟨hk,⟨L,_,hf,hn,e,hd⟩,ih (fun b hb=>hs b (by unfold mD;rw [List.filterMap_cons,hf];exact List.mem_cons_of_mem _ hb)) hr⟩
 exact all X.outer (fun _ hb=>hb) I.ok.n9
theorem Inv.stack(I:Inv X pins σ H s):s.heap.FunFrames X.base X.stack:=by
 rcases I.ok.stk with e | ⟨e,hf⟩
 .rw [e];exact I.n9
 .rw [e];obtain⟨m,hn,_⟩:=I.loc;refine .cons (by rw[I.ok.kind];decide) hf hn ?_ I.n9
  exact Heap.get?_none_of_le (Nat.le_trans I.ok.bsz I.ok.above)
theorem Inv.wD(I:Inv X pins σ H s):∀b∈mD X.stack,b∈X.env.locals ::X.fs:=fun b hb=>by
 rcases I.ok.stk with e | ⟨e,hf⟩
 .rw [e] at hb;exact List.mem_cons_of_mem _ hb
 .rw [e] at hb;unfold mD at hb;rw[List.filterMap_cons,hf] at hb;exact hb
theorem Inv.l5(I:Inv X pins σ H s):∀b∈mD X.stack,H b=none:=fun b hb=>by
 rcases List.mem_cons.mp (I.wD b hb) with e | hb
 .rw [e];exact I.free
 .obtain⟨_,o,ho,_⟩:=I.ok.n9.mem hb;exact I.base.free b o ho (I.ok.frf b hb) fun z=>I.ok.exfs b z hb
theorem Inv.step{g':Array GenState}{t':Nat}{d':Drawn}{ch:List Addr}(I:Inv X pins σ H s)
 (Dp:∀b∈ch,(b∈X.ex\/X.s₀.heap.objs.size<=b)/\b≠X.env.locals/\(∀x c,X.env.cells.lookup x=some c->c≠b)/\∀p∈X.pn++pins,p.1≠b)
 (keep:∀b o,b≠X.env.locals->b ∉ X.fs->b ∉ ch->s.heap.get? b=some o->H b=none->h'.get? b=some o)
 (slot:∀b o,b≠X.env.locals->b∈X.fs->b ∉ ch->s.heap.get? b=some o->H b=none->∃sl,h'.get? b=some {o with slots:=sl}) (free:∀b o,b ∉ ch->s.heap.get? b=some o->H b=none->H' b=none)
 (there:∀b o,b ∉ ch->s.heap.get? b=some o->∃o',h'.get? b=some o')
 (tups:∀b xs,H b=some (.tup xs)->H' b=some (.tup xs)) (frzs:∀b o u,H b=some (.jn o u)->H' b=some (.jn o u)) (tbls:∀b ps,H b=some (.qc ps)->∃more,H' b=some (.qc (ps++more)))
 (ns:∀m,s.heap.Ns X.env.locals m->h'.Ns X.env.locals m) (hok:kU X.prog X.w H' h') (hg:AllBare g') :
 Inv X pins σ H' {s with heap:=h',gens:=g',drawn:=d',toks:=t'}:=by
 have neL:∀b o,X.s₀.heap.get? b=some o->b≠X.env.locals:=fun b o e=>Nat.ne_of_lt (Nat.lt_of_lt_of_le (Heap.lt_size e) I.ok.above)
 have neC:∀b o,X.s₀.heap.get? b=some o->b ∉ X.ex->b ∉ ch:=fun b o e hx hb=>by
  rcases(Dp b hb).1 with z | z
  .exact hx z
  .exact absurd (Nat.lt_of_lt_of_le (Heap.lt_size e) z) (Nat.lt_irrefl _)
 have cellK:∀x c,X.env.cells.lookup x=some c->∀v,s.heap.IsCell c v->h'.IsCell c v:=fun x c e v ⟨o,ho,hd⟩=>by
  have nch:c ∉ ch:=fun z=>(Dp c z).2.2.1 x c e rfl
  by_cases hc:c∈X.fs
  .obtain⟨sl,q⟩:=slot c o (I.Cj x c e) hc nch ho (I.freeC x c e);exact⟨_,q,hd⟩
  .exact⟨o,keep c o (I.Cj x c e) hc nch ho (I.freeC x c e),hd⟩
 refine⟨I.ok,I.os,hg,⟨fun b o e n hb hx=>?_,fun b o e n hb hx=>?_,fun b o e n hx=>?_,fun b o e hx=>?_,fun b xs e=>tups b xs (I.base.tups b xs e),fun b o xs e=>frzs b o xs (I.base.frzs b o xs e),fun b ps e=>?_⟩,?_,fun x c e=>?_,?_,fun x c e=>?_,fun p hp=>?_,hok,I.len⟩
 .exact keep b o (neL b o e) hb (neC b o e hx) (I.base.keep b o e n hb hx) (I.base.free b o e n hx)
 .obtain⟨sl,e1⟩:=I.base.slot b o e n hb hx;obtain⟨U3,e2⟩:=slot b _ (neL b o e) hb (neC b o e hx) e1 (I.base.free b o e n hx);exact⟨U3,e2⟩
 .obtain⟨o',e1⟩:=I.base.there b o e hx;exact free b o' (neC b o e hx) e1 (I.base.free b o e n hx)
 .obtain⟨o',e1⟩:=I.base.there b o e hx;exact there b o' (neC b o e hx) e1
 .obtain⟨m1,e1⟩:=I.base.tbls b ps e;obtain⟨m2,e2⟩:=tbls b _ e1;exact⟨m1++m2,by rw[e2,Array.append_assoc]⟩
 .obtain⟨m,hn,hl⟩:=I.loc;refine⟨m,ns m hn,fun i x v e1 e2 e3=>?_⟩
  obtain⟨u,r,l⟩:=hl i x v e1 e2 e3;refine⟨u,r,?_⟩;rcases l with l | ⟨k,c,e,z⟩
  .exact .inl l
  .exact .inr ⟨k,c,e,cellK x c e _ z⟩
 .obtain⟨v,z⟩:=I.cell x c e;exact⟨v,cellK x c e v z⟩
 .obtain⟨m,⟨o,_,_,ho,_⟩,_⟩:=I.loc;exact free _ o (fun z=>(Dp _ z).2.1 rfl) ho I.free
 .obtain⟨v,o,ho,hd⟩:=I.cell x c e;exact free c o (fun z=>(Dp c z).2.2.1 x c e rfl) ho (I.freeC x c e)
 .obtain⟨e,n,ne,nf,d⟩:=I.pin p hp;have nch:p.1 ∉ ch:=fun z=>(Dp p.1 z).2.2.2 p hp rfl
  exact⟨keep p.1 p.2 ne nf nch e n,free p.1 p.2 nch e n,ne,nf,d⟩
theorem Inv.un{t':Nat}(I:Inv X pins σ H s)(u:Un X.fs [] H H' s.heap h')(hok:kU X.prog X.w H' h'):Inv X pins σ H' {s with heap:=h',toks:=t'}:=by
 obtain⟨m,⟨o,es,ep,ho,r⟩,_⟩:=id I.loc;obtain⟨sl,hL⟩:=u.any ho I.free (by simp)
 exact I.step (g':=s.gens) (d':=s.drawn) (ch:=[]) (fun _ z=>nomatch z) (fun b o _ hb _ e n=>u.keep b o e n hb (by simp)) (fun b o _ hb _ e n=>u.slot b o e n hb (by simp)) (fun b o _ e n=>u.free b o e n (by simp)) (fun b o _ e=>u.there b o e (by simp)) u.tups u.frzs u.tbls (fun m' hm=>by
  obtain⟨o',xK,FJ,v3,r'⟩:=hm;rw[ho] at v3;cases v3;exact⟨_,xK,FJ,hL,r'⟩) hok I.bare
theorem Inv.call{g':Array GenState}{t':Nat}{d':Drawn}{ch:List Addr}(I:Inv X pins σ H s)(u:Un (mD X.stack) ch H H' s.heap h')(hok:kU X.prog X.w H' h')(hg:AllBare g')
 (Dp:∀b∈ch,(b∈X.ex\/X.s₀.heap.objs.size<=b)/\b≠X.env.locals/\(∀x c,X.env.cells.lookup x=some c->c≠b)/\∀p∈X.pn++pins,p.1≠b) :
 Inv X pins σ H' {s with heap:=h',gens:=g',drawn:=d',toks:=t'}:=by
 obtain⟨m,⟨o,es,ep,ho,r⟩,_⟩:=id I.loc;obtain⟨sl,hL⟩:=u.any ho I.free fun z=>(Dp _ z).2.1 rfl
 exact I.step (ch:=ch) Dp (fun b o hL hb hc e n=>u.keep b o e n (fun z=>(List.mem_cons.mp (I.wD b z)).elim hL hb) hc) (fun b o _ _ hc e n=>u.any e n hc) (fun b o hc e n=>u.free b o e n hc) (fun b o hc e=>u.there b o e hc) u.tups u.frzs u.tbls (fun m' hm=>by
  obtain⟨o',xK,FJ,v3,r'⟩:=hm;rw[ho] at v3;cases v3;exact⟨_,xK,FJ,hL,r'⟩) hok hg
theorem Inv.turned{t':Nat}{it:Addr}(I:Inv X pins σ H s)(k:∀b o,b≠it->s.heap.get? b=some o->h'.get? b=some o)(hn:H it=none)(hL:it≠X.env.locals)
 (h1:it∈X.ex\/X.s₀.heap.objs.size<=it) (h2:∀x c,X.env.cells.lookup x=some c->c≠it) (h3:∀p∈X.pn++pins,p.1≠it):Inv X pins σ H {s with heap:=h',toks:=t'}:=by
 have nit:∀b u,H b=some u->b≠it:=fun b u e z=>by rw[z,hn] at e;cases e
 refine I.step (g':=s.gens) (d':=s.drawn) (ch:=[it]) (fun b hb=>?_) (fun b o _ _ hc e _=>k b o (fun z=>hc (by simp [z])) e) (fun b o _ _ hc e _=>⟨o.slots,k b o (fun z=>hc (by simp [z])) e⟩) (fun _ _ _ _ n=>n)
  (fun b o hc e=>⟨o,k b o (fun z=>hc (by simp [z])) e⟩) (fun _ _ e=>e) (fun _ _ _ e=>e) (fun b ps e=>⟨#[],by rw[e];simp⟩) (fun m hm=>?_) (fun b u e=>?_) I.bare
 .have e:b=it:=by simpa using hb
  subst e;exact⟨h1,hL,h2,h3⟩
 .obtain⟨o,es,ep,ho,r⟩:=hm;exact⟨o,es,ep,k _ o (Ne.symm hL) ho,r⟩
 .refine(I.hok b u e).tU (fun c v hc q=>k c v ?_ q) (fun _ q=>q) fun _ _ q=>q
  rcases hc with z | z
  .rw [z];exact nit b u e
  .exact nit c _ z
theorem Inv.tok(I:Inv X pins σ H s)(t:Nat):Inv X pins σ H {s with toks:=t}:=I.un (h':=s.heap) (t':=t) Un.refl I.hok
theorem Inv.kept{t':Nat}(I:Inv X pins σ H s)(k:∀b u,s.heap.get? b=some u->h'.get? b=some u):Inv X pins σ H {s with heap:=h',toks:=t'}:=I.un (Un.kept k) (I.hok.kept k)
theorem Inv.laid{a:Addr}{o:HO}{t':Nat}(I:Inv X pins σ H s)(k:∀b u,s.heap.get? b=some u->h'.get? b=some u)(hp:s.heap.objs.size<=a)(new:de X.prog X.w (upd H a o) h' a o) :
 Inv X pins σ (upd H a o) {s with heap:=h',toks:=t'}:=I.un (Un.laid k hp (I.hok.fresh hp)) (I.hok.laid k hp new)
theorem Inv.write{x e:Addr}{o:HO}{t':Nat}(I:Inv X pins σ H s)(mu:Kj (H x))(he:e=x\/H e=some (.own x))(k:∀b u,b≠e->s.heap.get? b=some u->h'.get? b=some u)(Gz:∃u,h'.get? e=some u)
 (new:de X.prog X.w (upd H x o) h' x o):Inv X pins σ (upd H x o) {s with heap:=h',toks:=t'}:=I.un (Un.write mu he k Gz) (I.hok.write mu he k Gz new)
theorem Inv.yr{jF:Wo}(I:Inv X pins σ H s)(h:∀p∈jF,s.heap.get? p.1=some p.2/\H p.1=none/\p.1≠X.env.locals/\p.1 ∉ X.fs/\∀v,p.2.data≠ .cell v):Inv X jF σ H s:=
 ⟨I.ok,I.os,I.bare,I.base,I.loc,I.cell,I.free,I.freeC,fun p hp=>(List.mem_append.mp hp).elim (fun z=>I.pin p (List.mem_append_left _ z)) (h p),I.hok,I.len⟩
theorem qv{N:List Str}(hN:N.Nodup){i j:Nat}(a:N[i]? =some x)(b:N[j]? =some x):i=j:=by
 obtain⟨h1,e1⟩:=List.getElem?_eq_some_iff.mp a;obtain⟨h2,e2⟩:=List.getElem?_eq_some_iff.mp b;exact(List.getElem_inj hN).mp (e1.trans e2.symm)
theorem sI{M:Model}{A:Around}{E:Wq}{i:Nat}{x:Str}{v:V}{u:Value}{Q:Unit->Shared->Prop}(I:Inv X pins σ H s)(hN:X.N.Nodup)(hi:X.N[i]? =some x)(hx:Loc X.env.scope x)(r:RelV v u)
 (h:∀s',Inv X pins (σ.set i (some v)) H s'->(∃a,Heap.SameBut a s.heap s'.heap/\(a=X.env.locals\/X.env.cells.lookup x=some a))->Q () s') (hf:X.fn x=true\/X.env.scope.names.lookup x=some .local:=by first | exact .inl rfl | exact .inr rfl | assumption):wpAny M A (storeName X.env x u) Q E s:=by
 obtain⟨m,hn,hl⟩:=id I.loc;have hcls:(X.env.scope.kind== .class || (X.env.scope.kind== .module && X.env.locals !=X.env.globals))=false:=by rw[I.ok.kind];rfl
 have hiσ:i < σ.length:=by rw[I.len];exact(List.getElem?_eq_some_iff.mp hi).1
 have Cj:=I.Cj;have tracked:∀{a:Addr} {h':Heap},(∃o,s.heap.get? a=some o/\H a=none)->Heap.SameBut a s.heap h'->kU X.prog X.w H h':=fun {a h'} ha hs b ob e=>by
  obtain⟨_,_,hfree⟩:=ha;refine(I.hok b ob e).tU (fun c w' hc q=>(hs.2 c ?_).trans q) (fun _ q=>q) fun _ _ q=>q
  rintro rfl;rcases hc with rfl | hc
  .rw [hfree] at e;cases e
  .rw [hfree] at hc;cases hc
 rcases hx with hk | hk
 .refine wpAny_storeName_local hk hn (fun h' Px hs=>?_) hcls
  obtain⟨oL,_,_,hoL,_⟩:=id hn;refine h _ ⟨I.ok,I.os,I.bare,⟨fun b o e n hb hx=>?_,fun b o e n hb hx=>?_,I.base.free,fun b o e hx=>?_,I.base.tups,I.base.frzs,I.base.tbls⟩,⟨_,Px,fun j y v' e1 e2 e3=>?_⟩,fun y c e=>?_,I.free,I.freeC,fun p hp=>?_,tracked ⟨oL,hoL,I.free⟩ hs,by simpa using I.len⟩ ⟨_,hs, .inl rfl⟩
  .exact(hs.2 b (Nat.ne_of_lt (Nat.lt_of_lt_of_le (Heap.lt_size e) I.ok.above))).trans (I.base.keep b o e n hb hx)
  .obtain⟨sl,e1⟩:=I.base.slot b o e n hb hx;exact⟨sl,(hs.2 b (Nat.ne_of_lt (Nat.lt_of_lt_of_le (Heap.lt_size e) I.ok.above))).trans e1⟩
  .obtain⟨o',e1⟩:=I.base.there b o e hx;exact⟨o',(hs.2 b (Nat.ne_of_lt (Nat.lt_of_lt_of_le (Heap.lt_size e) I.ok.above))).trans e1⟩
  .by_cases hj:j=i
   .subst hj;rw[hi] at e1;cases e1;rw[List.getElem?_set_self hiσ] at e2;cases e2;exact⟨u,r, .inl ⟨hk,by simp⟩⟩
   .rw [List.getElem?_set_ne (Ne.symm hj)] at e2;obtain⟨u',r',q⟩:=hl j y v' e1 e2 e3;refine⟨u',r',?_⟩;rcases q with⟨k,e⟩ | ⟨k,c,e,z⟩
    .refine .inl ⟨k,?_⟩;have:y≠x:=fun e=>hj (qv hN e1 (e▸hi))
     simp [this,e]
    .exact .inr ⟨k,c,e,z.sameBut hs (Cj y c e)⟩
  .obtain⟨w',z⟩:=I.cell y c e;exact⟨w',z.sameBut hs (Cj y c e)⟩
  .obtain⟨e,n,ne,nf,d⟩:=I.pin p hp;exact⟨(hs.2 p.1 ne).trans e,n,ne,nf,d⟩
 .have hfn:X.fn x=true:=by
   rcases hf with z | z
   .exact z
   .rw [z] at hk;cases hk
  obtain⟨c,hc⟩:=I.ok.has x (.inl hk);obtain⟨w',z⟩:=I.cell x c hc;refine wpAny_storeName_cell I.ok.kind hk hc z (fun h' yY hs=>?_)
  obtain⟨oc,hoc,hocd⟩:=id z;refine h {s with heap:=h'} ⟨I.ok,I.os,I.bare,⟨fun b o e n hb hx=>?_,fun b o e n hb hx=>?_,I.base.free,fun b o e hx=>?_,I.base.tups,I.base.frzs,I.base.tbls⟩,⟨m,hn.sameBut hs (Ne.symm (Cj x c hc)),fun j y v' e1 e2 e3=>?_⟩,fun y c' e=>?_,I.free,I.freeC,fun p hp=>?_,tracked ⟨oc,hoc,I.freeC x c hc⟩ hs,by simpa using I.len⟩ ⟨c,hs, .inr hc⟩
  .exact(hs.2 b (Nat.ne_of_lt (Nat.lt_of_lt_of_le (Heap.lt_size e) (I.ok.cab x c hfn hc)))).trans (I.base.keep b o e n hb hx)
  .obtain⟨sl,e1⟩:=I.base.slot b o e n hb hx;exact⟨sl,(hs.2 b (Nat.ne_of_lt (Nat.lt_of_lt_of_le (Heap.lt_size e) (I.ok.cab x c hfn hc)))).trans e1⟩
  .obtain⟨o',e1⟩:=I.base.there b o e hx;exact⟨o',(hs.2 b (Nat.ne_of_lt (Nat.lt_of_lt_of_le (Heap.lt_size e) (I.ok.cab x c hfn hc)))).trans e1⟩
  .by_cases hj:j=i
   .subst hj;rw[hi] at e1;cases e1;rw[List.getElem?_set_self hiσ] at e2;cases e2;exact⟨u,r, .inr ⟨.inl hk,c,hc,yY⟩⟩
   .rw [List.getElem?_set_ne (Ne.symm hj)] at e2;obtain⟨u',r',q⟩:=hl j y v' e1 e2 e3;refine⟨u',r',?_⟩;rcases q with q | ⟨k,c',e,z'⟩
    .exact .inl q
    .refine .inr ⟨k,c',e,z'.sameBut hs ?_⟩;rintro rfl;exact hj (qv hN e1 (I.ok.inj _ _ _ e hc▸hi))
  .by_cases hcc:c'=c
   .subst hcc;exact⟨_,yY⟩
   .obtain⟨w2,z2⟩:=I.cell y c' e;exact⟨w2,z2.sameBut hs hcc⟩
  .obtain⟨e,n,ne,nf,d⟩:=I.pin p hp;refine⟨(hs.2 p.1 ?_).trans e,n,ne,nf,d⟩;intro q;rw[q,hoc] at e;have q':oc=p.2:=Option.some.inj e;exact d w' (by rw[<-q'];exact hocd)
theorem qu{M:Model}{A:Around}{E:Wq}{i:Nat}{x:Str}{v:V}{u:Value}{Q:Unit->Shared->Prop}(I:Inv X pins σ H s)(hN:X.N.Nodup)(hi:X.N[i]? =some x)(hx:Loc X.env.scope x)(r:RelV v u)
 (h:∀s',Inv X pins (σ.set i (some v)) H s'->Q () s') (hf:X.fn x=true\/X.env.scope.names.lookup x=some .local:=by first | exact .inl rfl | exact .inr rfl | assumption):wpAny M A (storeName X.env x u) Q E s:=
 sI I hN hi hx r (fun s' I' _=>h s' I') hf
theorem Inv.Gk{s':Shared}{ch:List Addr}(I:Inv X pins σ H s)(ho:s'.os=s.os)(u:Un (mD X.stack) ch H H' s.heap s'.heap)(hok:kU X.prog X.w H' s'.heap)(hg:AllBare s'.gens)
 (Dp:∀b∈ch,(b∈X.ex\/X.s₀.heap.objs.size<=b)/\b≠X.env.locals/\(∀x c,X.env.cells.lookup x=some c->c≠b)/\∀p∈X.pn++pins,p.1≠b):Inv X pins σ H' s':=by
 obtain⟨h',g',d',t',o'⟩:=s';have e:o'=s.os:=ho;subst e;exact I.call (g':=g') (t':=t') (d':=d') u hok hg Dp
end
abbrev XK:=Value->Option Addr->Hp->Prop
abbrev St:=List (Option V)
abbrev VK:=V->Hp->Prop
abbrev TE:=St->Hp->VK->Prop
abbrev TT:=St->Hp->(Bool->Hp->Prop)->Prop
abbrev TA:=St->Hp->(List V->Hp->Prop)->Prop
structure Ends where
 nx:St->Hp->Prop
 rt:VK
 bk:St->Hp->Prop:=fun _ _=>False
 ct:St->Hp->Prop:=fun _ _=>False
abbrev TS:=Ends->St->Hp->Prop
def EP(X:Cx)(pins:Wo)(σ:St)(Q:VK)(u:Value)(s':Shared):Prop:=∃v H',Inv X pins σ H' s'/\RelV v u/\Q v H'
def TP(X:Cx)(pins:Wo)(σ:St)(Q:Bool->Hp->Prop)(b:Bool)(s':Shared):Prop:=∃H',Inv X pins σ H' s'/\Q b H'
def AP(X:Cx)(pins:Wo)(σ:St)(Q:List V->Hp->Prop)(us:List Value)(s':Shared):Prop:=∃vs H',Inv X pins σ H' s'/\Vals vs us/\Q vs H'
def SP(X:Cx)(pins:Wo)(D:Ends)(f:Flow)(s':Shared):Prop:=
 match f with
 | .next=>∃b8 H',Inv X pins b8 H' s'/\D.nx b8 H'
 | .brk=>∃b8 H',Inv X pins b8 H' s'/\D.bk b8 H'
 | .cont=>∃b8 H',Inv X pins b8 H' s'/\D.ct b8 H'
 | .ret u=>∃v b8 H',Inv X pins b8 H' s'/\RelV v u/\D.rt v H'
def PE(X:Cx)(e:Expr)(t:TE):Prop:=
 ∀(pins:Wo) (s:Shared) (σ:St) (H:Hp) (Q:VK),Inv X pins σ H s->t σ H Q->wpAny (model X.prog X.w) X.A (eval e X.env) (EP X pins σ Q) X.xe s
def PT(X:Cx)(e:Expr)(t:TT):Prop:=
 ∀(pins:Wo) (s:Shared) (σ:St) (H:Hp) (Q:Bool->Hp->Prop),Inv X pins σ H s->t σ H Q->wpAny (model X.prog X.w) X.A (isTrue e X.env (eval e X.env)) (TP X pins σ Q) X.xe s
def PW(X:Cx)(e:Expr)(t:TT):Prop:=
 ∀(whole:Sem Value) (pins:Wo) (s:Shared) (σ:St) (H:Hp) (Q:Bool->Hp->Prop),Inv X pins σ H s->t σ H Q->wpAny (model X.prog X.w) X.A (isTrue e X.env whole) (TP X pins σ Q) X.xe s
theorem PW.pt{X:Cx}{t:TT}(h:PW X e t):PT X e t:=h _
def PA(X:Cx)(es:List Expr)(t:TA):Prop:=
 ∀(pos:Pos) (pins:Wo) (s:Shared) (σ:St) (H:Hp) (Q:List V->Hp->Prop),Inv X pins σ H s->t σ H Q->wpAny (model X.prog X.w) X.A (spliced (backTo pos (starEach es X.env))) (AP X pins σ Q) X.xe s
def PS(X:Cx)(st:Stmt)(t:TS):Prop:=
 ∀(pins:Wo) (s:Shared) (σ:St) (H:Hp) (D:Ends),Inv X pins σ H s->t D σ H->wpAny (model X.prog X.w) X.A (exec st X.env) (SP X pins D) X.xe s
def sZ(X:Cx)(st:List Stmt)(t:TS):Prop:=
 ∀(pins:Wo) (s:Shared) (σ:St) (H:Hp) (D:Ends),Inv X pins σ H s->t D σ H->wpAny (model X.prog X.w) X.A (execs st X.env) (SP X pins D) X.xe s
theorem di{α:Type}{t:Sem α}{Q Q':α->Shared->Prop}{M:Model}{E:Wq}{s:Shared}(h:wpAny M A t Q E s)(hQ:∀a s,Q a s->Q' a s):wpAny M A t Q' E s:=wpAny_mono h hQ fun _ _ x=>x
section
variable {X:Cx}
def M8(i:Nat):TE:=fun σ H Q=>∃v,σ[i]? =some (some v)/\Q v H
def tC(v:V):TE:=fun _ H Q=>Q v H
theorem qY{i:Nat}{pos:Pos}(hN:X.N[i]? =some x)(hv:DA X.env.scope x)(hd:(x==("__debug__":Str))=false:=by decide)(px:(x==("__classdict__":Str))=false:=by decide):PE X (.Name x pos) (M8 i):=by
 intro pins s σ H Q I h;obtain⟨v,e,h⟩:=h;obtain⟨m,hn,hl⟩:=I.loc;obtain⟨u,r,l⟩:=hl i x v hN e hv;have fin:EP X pins σ Q u s:=⟨v,H,I,r,h⟩;rcases l with⟨hk,hm⟩ | ⟨hk,c,hc,hcell⟩
 .exact wpAny_Name (wpAny_loadName_local I.ok.kind hk hn hm fin) hd
 .rcases hk with hk | hk
  .exact wpAny_Name (wpAny_loadName_cell I.ok.kind hk hc hcell fin) hd
  .exact wpAny_Name (wpAny_loadName_free I.ok.kind hk hc hcell fin px) hd
theorem qp{i j pos}:PE X (.Constant (.int i) j pos) (tC (.int i)):=fun _ _ _ H _ I h=>wpAny_Constant_int ⟨.int i,H,I.tok _,⟨_,rfl⟩,h⟩
theorem Kt{b j pos}:PE X (.Constant (.bool b) j pos) (tC (.bl b)):=fun _ _ _ H _ I h=>Constant_bool ⟨.bl b,H,I,rfl,h⟩
theorem qU{x j pos}:PE X (.Constant (.str x) j pos) (tC (.str x)):=fun _ _ _ H _ I h=>Calls.Constant_str ⟨.str x,H,I.tok _,⟨_,rfl⟩,h⟩
def Gl(X:Cx)(x:Str):Prop:=X.env.kindOf x=some .globalImplicit
theorem pA{E:Wq}{pins:Wo}{s:Shared}{σ:St}{H:Hp}{x:Str}{u:Value}{pos:Pos}{Q:Wq}(I:Inv X pins σ H s)(hg:Gl X x)(hm:X.mg x=some u)(h:Q u s)
 (hd:(x==("__debug__":Str))=false:=by decide):wpAny (model X.prog X.w) X.A (eval (.Name x pos) X.env) Q E s:=
 Calls.Name_function_global I.ok.kind hg (Calls.loadGlobal_global (by rw[I.ok.glob];exact I.mod.glob.keeps I.bk) hm h) hd
theorem gA{E:Wq}{pins:Wo}{s:Shared}{σ:St}{H:Hp}{x:Str}{u:Value}{pos:Pos}{Q:Wq}(I:Inv X pins σ H s)(hg:Gl X x)(hm:X.mg x=none)(hv:bootBuiltins x=some u)(h:Q u s)
 (hn:x≠"__name__":=by decide) (hd:(x==("__debug__":Str))=false:=by decide):wpAny (model X.prog X.w) X.A (eval (.Name x pos) X.env) Q E s:=by
 obtain⟨mb,h1,h2⟩:=I.mod.blt;exact Calls.Name_function_global I.ok.kind hg (Calls.loadGlobal_builtin (by rw[I.ok.glob];exact I.mod.glob.keeps I.bk) hm (by rw[I.ok.blt];exact h1.keeps I.bk) ((h2 x hn).trans hv) h) hd
theorem dv{v:V}{u:Value}{pos:Pos}(hg:Gl X x)(hm:X.mg x=some u)(r:RelV v u)(hd:(x==("__debug__":Str))=false:=by decide):PE X (.Name x pos) (tC v):=
 fun _ _ _ H _ I h=>pA I hg hm ⟨v,H,I,r,h⟩ hd
theorem DD{v:V}{u:Value}{pos:Pos}(hg:Gl X x)(hm:X.mg x=none)(hv:bootBuiltins x=some u)(r:RelV v u)(hn:x≠"__name__":=by decide)(hd:(x==("__debug__":Str))=false:=by decide):PE X (.Name x pos) (tC v):=
 fun _ _ _ H _ I h=>gA I hg hm hv ⟨v,H,I,r,h⟩ hn hd
def Mu(ta tb:TE)(k:Int->Int->Hp->Prop):St->Hp->Prop:=fun σ H=>ta σ H fun x H1=>tb σ H1 fun y H2=>∃i j,x= .int i/\y= .int j/\k i j H2
def Sv(ta tb:TE):TE:=fun σ H Q=>Mu ta tb (fun i j H2=>Q (.int (i+j)) H2) σ H
def Uo(ta tb:TE):TE:=fun σ H Q=>Mu ta tb (fun i j H2=>Q (.int (i - j)) H2) σ H
def T6(ta tb:TE):TE:=fun σ H Q=>Mu ta tb (fun i j H2=>(-(2 ^ 64) < i/\i < 2 ^ 64)/\Q (.int (i*j)) H2) σ H
variable {a b:Expr} {ta tb:TE} {pos:Pos}
def PC(X:Cx)(op:CmpOp)(a b:Expr)(t:TE):Prop:=
 ∀(pins:Wo) (s:Shared) (σ:St) (H:Hp) (Q:VK),Inv X pins σ H s->t σ H Q->
  wpAny (model X.prog X.w) X.A (eval a X.env) (fun v s₁=>wpAny (model X.prog X.w) X.A (eval b X.env) (fun u rY=>wpAny (model X.prog X.w) X.A (compareOp op v u) (EP X pins σ Q) X.xe rY) X.xe s₁) X.xe s
def zC(p:Int->Int->Bool)(ta tb:TE):TE:=fun σ H Q=>Mu ta tb (fun i j H2=>Q (.bl (p i j)) H2) σ H
abbrev VQ:TE->TE->TE:=zC fun i j=>decide (i < j)
abbrev Vi:TE->TE->TE:=zC fun i j=>decide (i<=j)
abbrev Vh:TE->TE->TE:=zC fun i j=>decide (j < i)
abbrev VR:TE->TE->TE:=zC fun i j=>decide (j<=i)
abbrev RW:TE->TE->TE:=zC fun i j=>decide (i=j)
abbrev Se:TE->TE->TE:=zC fun i j=>!decide (i=j)
def SH(ta:TE):TE:=fun σ H Q=>ta σ H fun x H1=>Q (.bl (decide (x= .cI))) H1
def P7(ta:TE):TE:=fun σ H Q=>ta σ H fun x H1=>Q (.bl (!decide (x= .cI))) H1
def tB(t:TE):TT:=fun σ H Q=>t σ H fun x H1=>∃c,x= .bl c/\Q c H1
variable {tA MI:TT} {rest:List Expr}
def NS(t u:TT):TT:=fun σ H Q=>t σ H fun c H1=>if c=true then u σ H1 Q else Q false H1
def SN(t u:TT):TT:=fun σ H Q=>t σ H fun c H1=>if c=true then Q true H1 else u σ H1 Q
def SM(t:TT):TT:=fun σ H Q=>t σ H fun c H1=>Q (!c) H1
theorem EE(ha:PT X a tA):PW X (.BoolOp .And [a] pos) tA:=by
 intro wh pins s σ H Q I h;refine isTrue_and (di (ha pins s σ H Q I h) fun c s1 e=>?_)
 cases c with
 | true=>exact isTrue_and_nil e
 | false=>exact e
theorem HJ(ha:PT X a tA):PW X (.BoolOp .Or [a] pos) tA:=by
 intro wh pins s σ H Q I h;refine isTrue_or (di (ha pins s σ H Q I h) fun c s1 e=>?_)
 cases c with
 | false=>exact isTrue_or_nil e
 | true=>exact e
theorem IK(ha:PT X a tA)(hb:PW X (.BoolOp .And (b ::rest) pos) MI):PW X (.BoolOp .And (a ::b ::rest) pos) (NS tA MI):=by
 intro wh pins s σ H Q I h;refine isTrue_and (di (ha pins s σ H _ I h) fun c s1 ⟨H1,I1,q1⟩=>?_)
 cases c with
 | true=>exact hb wh pins s1 σ H1 Q I1 q1
 | false=>exact⟨H1,I1,q1⟩
theorem Lp(ha:PT X a tA)(hb:PW X (.BoolOp .Or (b ::rest) pos) MI):PW X (.BoolOp .Or (a ::b ::rest) pos) (SN tA MI):=by
 intro wh pins s σ H Q I h;refine isTrue_or (di (ha pins s σ H _ I h) fun c s1 ⟨H1,I1,q1⟩=>?_)
 cases c with
 | true=>exact⟨H1,I1,q1⟩
 | false=>exact hb wh pins s1 σ H1 Q I1 q1
def QC(ta tb:TE):TE:=fun σ H Q=>ta σ H fun x H1=>∃c,x= .bl c/\if c=true then tb σ H1 Q else Q (.bl false) H1
def R6(ta tb:TE):TE:=fun σ H Q=>ta σ H fun x H1=>∃c,x= .bl c/\if c=true then Q (.bl true) H1 else tb σ H1 Q
def Kf(ta:TE):TE:=fun σ H Q=>ta σ H fun x H1=>∃c,x= .bl c/\Q (.bl (!c)) H1
theorem GP(ha:PE X a ta):PE X (.UnaryOp .Not a pos) (Kf ta):=by
 intro pins s σ H Q I h;refine UnaryOp_ (di (ha pins s σ H _ I h) fun v s1 ⟨x,H1,I1,r1,q1⟩=>?_)
 obtain⟨c,rfl,q1⟩:=q1;cases r1;exact not_of (wpAny_truthy_bool ⟨.bl (!c),H1,I1,rfl,q1⟩)
def VM(t:TT)(ta tb:TE):TE:=fun σ H Q=>t σ H fun c H1=>if c=true then ta σ H1 Q else tb σ H1 Q
end
def m4(K:W.Frag)(H:Hp)(a:Addr)(xs:List V):Prop:=
 Rd H a (.lst xs)\/
  ∃(o:Obj) (its:Array Value) (n:Nat),K.lookup a=some o/\o.cls= .type "list"/\o.dict=none/\o.data= .seq its n/\its.size<=sizeLine/\Vals xs its.toList
def oy(K:W.Frag)(H:Hp)(a:Addr)(xs:List V):Prop:=
 Rd H a (.tup xs)\/
  ∃(o:Obj) (its:Array Value) (n:Nat),K.lookup a=some o/\o.cls= .type "tuple"/\o.data= .seq its n/\its.size<=sizeLine/\Vals xs its.toList
def Oj:Value->Option V
 | .none=>some .cI
 | .bool b=>some (.bl b)
 | .int i _=>some (.int i)
 | .str x _=>some (.str x)
 | .bytes b _=>some (.byt b)
 | .float b _=>some (.flt b)
 | .ref a=>some (.ref a)
 | .type n=>some (.ty n)
 | _=>none
theorem RelV.abs{x:V}{u:Value}(r:RelV x u):Oj u=some x:=by
 cases x with
 | cI=>cases r;rfl
 | bl _=>cases r;rfl
 | int _=>obtain⟨t,rfl⟩:=r;rfl
 | str _=>obtain⟨t,rfl⟩:=r;rfl
 | byt _=>obtain⟨t,rfl⟩:=r;rfl
 | flt _=>obtain⟨t,rfl⟩:=r;rfl
 | ref _=>cases r;rfl
 | ty _=>cases r;rfl
theorem RelV.inj{x y:V}{u:Value}(r:RelV x u)(q:RelV y u):x=y:=Option.some.inj (r.abs.symm.trans q.abs)
theorem Vals.inj:∀{xs ys:List V} {us:List Value},Vals xs us->Vals ys us->xs=ys
 | _,_,_, .nil, .nil=>rfl
 | _,_,_, .cons r t, .cons r' t'=>by rw[r.inj r',Vals.inj t t']
section
variable {X:Cx} {pins:Wo} {σ:St} {H:Hp} {s:Shared} {a:Addr} {xs ys:List V}
theorem m4.of{K:W.Frag}(h:H a=some (.lst xs)):m4 K H a xs:= .inl (.inl h)
theorem Inv.list(I:Inv X pins σ H s)(h:m4 X.K H a xs):∃its:List Value,Vals xs its/\PlainL s.heap a its.toArray/\xs.length<=sizeLine:=by
 rcases h with h | ⟨o,its,n,hk,hc,hd,hs,hz,r⟩
 .obtain⟨z,its,n,r,e⟩:=h.ok I.hok;exact⟨its,r,⟨_,n,e,rfl,rfl,rfl⟩,z⟩
 .refine⟨its.toList,r,⟨o,n,I.Dj a o hk,hc,hd,by simpa using hs⟩,?_⟩
  have e:=r.length;simp only[Array.length_toList] at e;omega
theorem Inv.tuple(I:Inv X pins σ H s)(h:oy X.K H a xs):∃its:List Value,Vals xs its/\IsTup s.heap a its.toArray/\xs.length<=sizeLine:=by
 rcases h with h | ⟨o,its,n,hk,hc,hs,hz,r⟩
 .obtain⟨z,its,r,p⟩:=h.ok I.hok;exact⟨its,r,p,z⟩
 .refine⟨its.toList,r,⟨o,I.Dj a o hk,hc,n,by simpa using hs⟩,?_⟩
  have e:=r.length;simp only[Array.length_toList] at e;omega
theorem Inv.vZ(I:Inv X pins σ H s)(h:m4 X.K H a xs)(h':m4 X.K H a ys):xs=ys:=by
 obtain⟨its,r,⟨o,n,e,_,_,d⟩,_⟩:=I.list h;obtain⟨its',r',⟨o',n',e',_,_,d'⟩,_⟩:=I.list h';rw[e] at e';cases e';rw[d] at d';injection d' with d1 _
 have:its=its':=by simpa using congrArg Array.toList d1
 subst this;exact r.inj r'
theorem Inv.zU(I:Inv X pins σ H s)(h:oy X.K H a xs)(h':oy X.K H a ys):xs=ys:=by
 obtain⟨its,r,⟨o,e,_,n,d⟩,_⟩:=I.tuple h;obtain⟨its',r',⟨o',e',_,n',d'⟩,_⟩:=I.tuple h';rw[e] at e';cases e';rw[d] at d';injection d' with d1 _
 have:its=its':=by simpa using congrArg Array.toList d1
 subst this;exact r.inj r'
end
abbrev Cx.rK(X:Cx)(E:Wq):Cx:={X with xe:=E}
abbrev Cx.BK(X:Cx):Cx:=X.rK fun _ _=>False
theorem Cx.Ok.rK{X:Cx}(ok:X.Ok)(E:Wq):(X.rK E).Ok:=
 ⟨ok.mod,ok.kind,ok.glob,ok.blt,ok.above,ok.inj,ok.has,ok.cab,ok.hd,ok.frames,ok.stk,ok.exf,ok.bs,ok.bsz,ok.noex,ok.exfs,ok.n9,ok.frf⟩
theorem Cx.Ok.ll{X:Cx}{E:Wq}(ok:(X.rK E).Ok):X.Ok:=
 ⟨ok.mod,ok.kind,ok.glob,ok.blt,ok.above,ok.inj,ok.has,ok.cab,ok.hd,ok.frames,ok.stk,ok.exf,ok.bs,ok.bsz,ok.noex,ok.exfs,ok.n9,ok.frf⟩
section
variable {X:Cx} {pins:Wo} {σ:St} {H:Hp} {s:Shared} {E:Wq}
theorem Inv.rK(I:Inv X pins σ H s)(E:Wq):Inv (X.rK E) pins σ H s:=⟨I.ok.rK E,I.os,I.bare,I.base,I.loc,I.cell,I.free,I.freeC,I.pin,I.hok,I.len⟩
theorem Inv.ll(I:Inv (X.rK E) pins σ H s):Inv X pins σ H s:=⟨I.ok.ll,I.os,I.bare,I.base,I.loc,I.cell,I.free,I.freeC,I.pin,I.hok,I.len⟩
theorem SP.ll{D:Ends}{f:Flow}{s':Shared}(h:SP (X.rK E) pins D f s'):SP X pins D f s':=by
 cases f with
 | next=>obtain⟨b8,H',I,q⟩:=h;exact⟨b8,H',I.ll,q⟩
 | brk=>obtain⟨b8,H',I,q⟩:=h;exact⟨b8,H',I.ll,q⟩
 | cont=>obtain⟨b8,H',I,q⟩:=h;exact⟨b8,H',I.ll,q⟩
 | ret u=>obtain⟨v,b8,H',I,r,q⟩:=h;exact⟨v,b8,H',I.ll,r,q⟩
theorem sZ.BK{st:List Stmt}{t:TS}(h:sZ X.BK st t):sZ X st t:=fun pins s σ H D I hw=>
 wpAny_mono (h pins s σ H D (I.rK _) hw) (fun _ _ q=>q.ll) fun _ _ z=>False.elim z
end
section
variable {X:Cx} {st:Stmt} {rest:List Stmt} {t u:TS} {e:Expr} {te:TE} {pos:Pos}
def Kz:TS:=fun D σ H=>D.nx σ H
def K5(t u:TS):TS:=fun D σ H=>t {D with nx:=u D} σ H
theorem tw:sZ X [] Kz:=fun _ _ σ H _ I h=>wpAny_execs_nil ⟨σ,H,I,h⟩
theorem q_(h1:PS X st t)(h2:sZ X rest u):sZ X (st ::rest) (K5 t u):=by
 intro pins s σ H D I h;refine wpAny_execs_cons (di (h1 pins s σ H {D with nx:=u D} I h) fun f s1 q=>?_)
 cases f with
 | next=>
   obtain⟨b8,H',I',q⟩:=q;exact h2 pins s1 b8 H' D I' q
 | ret v=>exact q
 | brk=>exact q
 | cont=>exact q
theorem t5(h1:PS X st t):sZ X [st] t:=by
 intro pins s σ H D I h;refine wpAny_execs_cons (di (h1 pins s σ H D I h) fun f s1 q=>?_)
 cases f with
 | next=>exact wpAny_execs_nil q
 | ret v=>exact q
 | brk=>exact q
 | cont=>exact q
def Nz:TS:=fun D σ H=>D.bk σ H
def Qw:TS:=fun D σ H=>D.ct σ H
theorem Inv.quiet{pins:Wo}{s:Shared}(I:Inv X pins σ H s):interactive X.env=false:=by simp [interactive,I.ok.kind]
def KH(te:TE):TS:=fun D σ H=>te σ H fun _ H1=>D.nx σ H1
theorem pJ(he:PE X e te)(hs:swapsWith e none pos.line X.env=pure false:=by rfl):PS X (.Expr e pos) (KH te):=by
 intro pins s σ H D I h;exact wpAny_Expr_any (di (he pins s σ H _ I h) fun v s1 ⟨x,H1,I1,r1,q1⟩=>⟨σ,H1,I1,q1⟩) I.quiet hs
def M0(te:TE):TS:=fun D σ H=>te σ H D.rt
theorem Cw(he:PE X e te):PS X (.Return (some e) pos) (M0 te):=by
 intro pins s σ H D I h;exact wpAny_Return_some (di (he pins s σ H _ I h) fun v s1 ⟨x,H1,I1,r1,q1⟩=>⟨x,σ,H1,I1,r1,q1⟩)
def QR:TS:=fun D _ H=>D.rt .cI H
def Lu(c:TT)(t u:TS):TS:=fun D σ H=>c σ H fun b H1=>if b=true then t D σ H1 else u D σ H1
theorem Ck{tc:TT}(hc:PT X c tc)(ha:sZ X a t)(hb:sZ X b u):PS X (.If c a b pos) (Lu tc t u):=by
 intro pins s σ H D I h;refine wpAny_If (di (hc pins s σ H _ I h) fun d s1 ⟨H1,I1,q1⟩=>?_)
 cases d with
 | true=>exact ha pins s1 σ H1 D I1 q1
 | false=>exact hb pins s1 σ H1 D I1 q1
def N3:TS:=fun _ _ _=>False
end
abbrev TG:=V->St->Hp->(St->Hp->Prop)->Prop
abbrev Ar:=List V->St->Hp->(St->Hp->Prop)->Prop
def PG(X:Cx)(target:Expr)(t:TG):Prop:=
 ∀(pins:Wo) (s:Shared) (σ:St) (H:Hp) (v:V) (u:Value) (Q:St->Hp->Prop),Inv X pins σ H s->RelV v u->t v σ H Q->
  wpAny (model X.prog X.w) X.A (assign target X.env u) (fun _ s'=>∃b8 H',Inv X pins b8 H' s'/\Q b8 H') X.xe s
def EG(X:Cx)(ts:List Expr)(t:Ar):Prop:=
 ∀(pins:Wo) (s:Shared) (σ:St) (H:Hp) (vs:List V) (us:List Value) (Q:St->Hp->Prop),Inv X pins σ H s->Vals vs us->t vs σ H Q->
  wpAny (model X.prog X.w) X.A (assignInOrder ((assignEach ts X.env).map (·.2)) us) (fun _ s'=>∃b8 H',Inv X pins b8 H' s'/\Q b8 H') X.xe s
abbrev HZ:=V->V->V->Hp->(Hp->Prop)->Prop
def Ss(X:Cx)(t:HZ):Prop:=
 ∀(pins:Wo) (s:Shared) (σ:St) (H:Hp) (o i v:V) (ov iv u:Value) (Q:Hp->Prop),Inv X pins σ H s->RelV o ov->RelV i iv->RelV v u->t o i v H Q->
  wpAny (model X.prog X.w) X.A (setItem ov iv u) (fun _ s'=>∃H',Inv X pins σ H' s'/\Q H') X.xe s
abbrev MC:=V->V->Hp->VK->Prop
def VX(X:Cx)(op:Operator)(t:MC):Prop:=
 ∀(pins:Wo) (s:Shared) (σ:St) (H:Hp) (x y:V) (v u:Value) (Q:VK),Inv X pins σ H s->RelV x v->RelV y u->t x y H Q->
  wpAny (model X.prog X.w) X.A (inplaceOp op v u) (EP X pins σ Q) X.xe s
section
variable {X:Cx} {pos:Pos}
def qg(i:Nat):TG:=fun v σ H Q=>Q (σ.set i (some v)) H
theorem yd{i:Nat}(hN:X.N.Nodup)(hi:X.N[i]? =some x)(hx:Loc X.env.scope x)(hf:X.fn x=true\/X.env.scope.names.lookup x=some .local:=by first | exact .inl rfl | exact .inr rfl | assumption):PG X (.Name x pos) (qg i):=by
 intro pins s σ H v u Q I r h;exact wpAny_assign_Name (qu I hN hi hx r (fun s' I'=>⟨_,H,I',h⟩) hf)
def NY:Ar:=fun vs σ H Q=>vs=[]/\Q σ H
def KZ(t:TG)(u:Ar):Ar:=fun vs σ H Q=>∃v r,vs=v ::r/\t v σ H fun b8 H'=>u r b8 H' Q
theorem yH:EG X [] NY:=by
 intro pins s σ H vs us Q I r h;obtain⟨e,h⟩:=h;subst e;cases r;exact assignInOrder_nil ⟨σ,H,I,h⟩
theorem vy{e:Expr}{es:List Expr}{t:TG}{u:Ar}(h1:PG X e t)(h2:EG X es u)
 (hs:(assignEach (e ::es) X.env).map (·.2)=assign e X.env ::(assignEach es X.env).map (·.2):=by rfl):EG X (e ::es) (KZ t u):=by
 intro pins s σ H vs us Q I r h;obtain⟨v,vr,e1,h⟩:=h;subst e1;cases r with
 | cons r rr=>
   rw[hs];refine assignInOrder_cons (di (h1 pins s σ H _ _ _ I r h) fun _ s1 ⟨Js,H1,I1,q1⟩=>?_)
   exact h2 pins s1 Js H1 _ _ Q I1 rr q1
def Oa(K:W.Frag)(n:Nat)(t:Ar):TG:=fun v σ H Q=>∃a xs,v= .ref a/\oy K H a xs/\xs.length=n/\t xs σ H Q
theorem Ao{es:List Expr}{k:Nat}{t:Ar}{n:Nat}(hc:X.calm=true)(h:EG X es t)
 (hn:(assignEach es X.env).length=n:=by rfl) (pz:(assignEach es X.env).findIdx? (·.1)=none:=by rfl):PG X (.Tuple es k pos) (Oa X.K n t):=by
 intro pins s σ H v u Q I r hw;obtain⟨a,xs,e1,hq,hl,hw⟩:=hw;subst e1;cases r;obtain⟨its,rv,ht,hz⟩:=I.tuple hq;refine assign_Tuple_tuple (I.ok.hd hc) ht (by simp [hn,<-hl,rv.length]) pz fun h' hx=>?_
 have I1:Inv X pins σ H {s with heap:=h'}:=I.kept (t':=s.toks) fun b o e=>hx b o (Nat.ne_of_lt (Heap.lt_size e)) e
 exact h pins _ σ H xs _ Q I1 (by simpa using rv) hw
def Td(to ti:TE)(t:HZ):TG:=fun v σ H Q=>to σ H fun o H1=>ti σ H1 fun i H2=>t o i v H2 fun H3=>Q σ H3
def zd(te:TE)(g:TG):TS:=fun D σ H=>te σ H fun x H1=>g x σ H1 D.nx
theorem Hk{tg e:Expr}{te:TE}{g:TG}(he:PE X e te)(hg:PG X tg g)(hs:swapsWithSole [tg] e pos.line X.env=pure false:=by rfl)(hw:swappedStores [tg] e X.env=pure none:=by rfl)
 (h1:(assignEach [tg] X.env).map (·.2)=[assign tg X.env]:=by rfl):PS X (.Assign [tg] e pos) (zd te g):=by
 intro pins s σ H D I h;refine wpAny_Assign_stores (di (he pins s σ H _ I h) fun v s1 ⟨x,H1,I1,r1,q1⟩=>?_) hs hw
 rw[h1];exact di (hg pins s1 σ H1 x v _ I1 r1 q1) fun _ s2 q=>q
theorem tS{i:Nat}{te:TE}(hN:X.N.Nodup)(hi:X.N[i]? =some x)(hx:Loc X.env.scope x)(he:PE X e te)(hs:swapsWith e (some (.Name x pos')) pos.line X.env=pure false:=by rfl)(hf:X.fn x=true\/X.env.scope.names.lookup x=some .local:=by first | exact .inl rfl | exact .inr rfl | assumption) :
 PS X (.Assign [.Name x pos'] e pos) (zd te (qg i)):=by
 intro pins s σ H D I h;refine wpAny_Assign_Name (di (he pins s σ H _ I h) fun v s1 ⟨y,H1,I1,r1,q1⟩=>?_) hs
 exact qu I1 hN hi hx r1 (fun s2 I2=>⟨_,H1,I2,q1⟩) hf
def Ti(i j:Nat)(ta:TA):TS:=fun D σ H=>ta σ H fun vs H1=>∃v w,vs=[v,w]/\D.nx ((σ.set i (some v)).set j (some w)) H1
def T7(i:Nat)(te:TE)(ti:MC):TS:=fun D σ H=>∃x,σ[i]? =some (some x)/\te σ H fun y H1=>ti x y H1 fun z H2=>D.nx (σ.set i (some z)) H2
def Qs(to ti te:TE)(OD:V->V->Hp->VK->Prop)(UL:MC)(OU:HZ):TS:=fun D σ H=>to σ H fun o H1=>ti σ H1 fun i H2=>OD o i H2 fun x H3=>te σ H3 fun y H4=>UL x y H4 fun z H5=>OU o i z H5 fun H6=>D.nx σ H6
def Ta(X:Cx)(t:V->V->Hp->VK->Prop):Prop:=
 ∀(pins:Wo) (s:Shared) (σ:St) (H:Hp) (o i:V) (ov iv:Value) (Q:VK),Inv X pins σ H s->RelV o ov->RelV i iv->t o i H Q->
  wpAny (model X.prog X.w) X.A (getItem ov iv) (EP X pins σ Q) X.xe s
def V5(f:Int->Int->Int):MC:=fun x y H Q=>∃i j,x= .int i/\y= .int j/\Q (.int (f i j)) H
end
section
variable {X:Cx} {pos:Pos}
def NA(c:TT)(tb:TS):TS:=fun D σ H=>∃W:Nat->St->Hp->Prop,(∃m,W m σ H)/\∀m σ H,W m σ H->
 c σ H fun b H1=>if b=true then ∃N:St->Hp->Prop,(∀b8 H',N b8 H'->∃m',m' < m/\W m' b8 H')/\tb {D with nx:=N,ct:=N,bk:=D.nx} σ H1 else D.nx σ H1
end
structure It where
 go:Nat->Hp->Prop
 yld:Nat->Hp->V->Hp->Prop
 stop:Nat->Hp->Prop
def o9(X:Cx)(pins:Wo)(H:Hp)(b:Addr):Prop:=
 H b=none/\b≠X.env.locals/\b ∉ X.fs/\(b∈X.ex\/X.s₀.heap.objs.size<=b)/\(∀x c,X.env.cells.lookup x=some c->c≠b)/\∀p∈X.pn++pins,p.1≠b
theorem Inv.zk{X:Cx}{pins:Wo}{H H':Hp}{s:Shared}{b:Addr}(I:Inv X pins σ H s)(hb:s.heap.objs.size<=b)(hn:H' b=none):o9 X pins H' b:=by
 refine⟨hn,Nat.ne_of_gt (Nat.lt_of_lt_of_le I.lt hb),I.N_ hb, .inr (Nat.le_trans I.sz hb),fun x c e z=>?_,fun p hp z=>?_⟩
 .obtain⟨v,q⟩:=I.cell x c e;exact absurd (Nat.lt_of_lt_of_le q.lt (by rw[z];exact hb)) (Nat.lt_irrefl _)
 .exact absurd (Nat.lt_of_lt_of_le (Heap.lt_size (I.pin p hp).1) (by rw[z];exact hb)) (Nat.lt_irrefl _)
structure Turn (P:Program) (w:World) (K:W.Frag) (tg:Expr) (J:It) (fp:List Addr) (it:Addr) (tn:Nat->Heap->Prop):Prop where
 mem:it∈fp
 obj:∀i h,tn i h->∀b∈fp,∃o,h.get? b=some o/\∀v,o.data≠ .cell v
 keep:∀i h h',tn i h->(∀b∈fp,∀o,h.get? b=some o->h'.get? b=some o)->tn i h'
 item:∀(X:Cx),X.prog=P->X.w=w->X.K=K->X.calm=true->∀(i:Nat) (pins:Wo) (s:Shared) (σ:St) (H:Hp) (E:Wq),Inv X pins σ H s->(∀b∈fp,o9 X pins H b)->tn i s.heap->J.go i H->
  wpAny (model P w) X.A (pyNext (.ref it)) (fun r s1=>∃u,r=some u/\
   wpAny (model P w) X.A (letOwnedTupleGo tg (.ref it) u) (fun _ s2=>∃x H',Inv X pins σ H' s2/\RelV x u/\J.yld i H x H'/\tn (i+1) s2.heap/\∀b∈fp,H' b=none) E s1) E s
 done:∀(X:Cx),X.prog=P->X.w=w->X.K=K->X.calm=true->∀(i:Nat) (pins:Wo) (s:Shared) (σ:St) (H:Hp) (E:Wq),Inv X pins σ H s->(∀b∈fp,o9 X pins H b)->tn i s.heap->J.stop i H->
  wpAny (model P w) X.A (pyNext (.ref it)) (fun r s1=>r=none/\Inv X pins σ H s1) E s
 self:∀(A:Around) (i:Nat) (s:Shared) (Q:Wq) (E:Wq),tn i s.heap->Q (.ref it) s->wpAny (model P w) A (pyIter (.ref it)) Q E s
abbrev TI:=St->Hp->(It->Hp->Prop)->Prop
def QF(X:Cx)(pins:Wo)(σ:St)(tg:Expr)(R:It->Hp->Prop)(MH:Value)(s2:Shared):Prop:=
 ∃(it:Addr) (fp:List Addr) (tn:Nat->Heap->Prop) (J:It) (H':Hp),MH= .ref it/\Inv X pins σ H' s2/\Turn X.prog X.w X.K tg J fp it tn/\tn 0 s2.heap/\(∀b∈fp,o9 X pins H' b)/\R J H'
def PI(X:Cx)(tg iter:Expr)(wi:TI):Prop:=
 ∀(pins:Wo) (s:Shared) (σ:St) (H:Hp) (R:It->Hp->Prop),Inv X pins σ H s->wi σ H R->
  wpAny (model X.prog X.w) X.A (eval iter X.env) (fun v s1=>wpAny (model X.prog X.w) X.A (pyIter v) (QF X pins σ tg R) X.xe s1) X.xe s
theorem Ay{M:Model}{A:Around}{E:Wq}{s:Shared}{tg:Expr}{it:Addr}{u:Value}{o:Obj}{n:String}{vs:Array Value}{Q:Unit->Shared->Prop}(ho:s.heap.get? it=some o)(hc:o.cls= .type n)(hd:o.data= .fields vs)
 (hn:["enumerate","zip","dict_itemiterator","dict_reverseitemiterator","odict_iterator","itertools.zip_longest","itertools.pairwise"].contains n=false) (hQ:Q () s):wpAny M A (letOwnedTupleGo tg (.ref it) u) Q E s:=by
 unfold letOwnedTupleGo;cases tg <;> first
  | exact wpAny_pure hQ
  | (cases u <;> first
      | exact wpAny_pure hQ
      | (refine wpAny_bind (wpAny_load ho ?_)
         rw[hc,hd];show wpAny M A (if(["enumerate","zip","dict_itemiterator","dict_reverseitemiterator","odict_iterator","itertools.zip_longest","itertools.pairwise"].contains n && vs[0]? ==some (rawInt _))=true then _ else _) Q E s
         rw[if_neg (by intro h;rw [hn,Bool.false_and] at h;cases h)]
         exact wpAny_pure hQ))
def Q5(K:W.Frag)(a:Addr):It:=
 ⟨fun i H=>∃xs x,m4 K H a xs/\xs[i]? =some x,fun i H x H'=>H'=H/\∀xs,m4 K H a xs->xs[i]? =some x,fun i H=>∃xs,m4 K H a xs/\xs.length<=i⟩
def Qh(K:W.Frag)(a:Addr):It:=
 ⟨fun i H=>∃xs x,oy K H a xs/\xs[i]? =some x,fun i H x H'=>H'=H/\∀xs,oy K H a xs->xs[i]? =some x,fun i H=>∃xs,oy K H a xs/\xs.length<=i⟩
def K9(lo:Int)(n:Nat):It:=⟨fun i _=>i < n,fun i H x H'=>H'=H/\x= .int (lo+i),fun i _=>n<=i⟩
theorem zL{K:W.Frag}(a it:Addr):Turn P w K tg (Q5 K a) [it] it (fun i h=>h.IsListIter it a i) where
 mem:=by simp
 obj:=fun i h st b hb=>by
  have e:b=it:=by simpa using hb
  subst e;obtain⟨o,e,c,d⟩:=st;exact⟨o,e,fun v z=>by rw[d] at z;cases z⟩
 keep:=fun i h h' st k=>st.at fun o e=>k it (by simp) o e
 item:=by
  intro X hP hw hK hc i pins s σ H E I hf st hg;subst hP hw hK;obtain⟨xs,x,hq,hx⟩:=hg;obtain⟨its,rv,p,hz⟩:=I.list hq;obtain⟨u,hu,ru⟩:=rv.get hx;obtain⟨f0,f1,f2,f3,f4,f5⟩:=hf it (by simp)
  refine wpAny_pyNext_list_item st p.isList (x:=u) (by simpa using hu) fun h' FE sb=>?_
  have I1:Inv X pins σ H {s with heap:=h'}:=I.turned (t':=s.toks) (fun b o hb e=>(sb.2 b hb).trans e) f0 f1 f3 f4 f5
  obtain⟨o,e,c,d⟩:=id FE;exact⟨u,rfl,Ay (s:={s with heap:=h'}) e c d (by decide) ⟨x,H,I1,ru,⟨rfl,fun ys hy=>by rw[I.vZ hy hq];exact hx⟩,FE,fun b hb=>(hf b hb).1⟩⟩
 done:=by
  intro X hP hw hK hc i pins s σ H E I hf st hg;subst hP hw hK;obtain⟨xs,hq,hx⟩:=hg;obtain⟨its,rv,p,hz⟩:=I.list hq;obtain⟨f0,f1,f2,f3,f4,f5⟩:=hf it (by simp)
  have hl:=rv.length;exact wpAny_pyNext_list_end (I.ok.hd hc) st p.isList (by simp;omega) fun h' eb=>⟨rfl,I.turned (t':=s.toks) (fun b o hb e=>eb b o hb e) f0 f1 f3 f4 f5⟩
 self:=fun _ _ _ _ _ st h=>wpAny_pyIter_listiter st h
theorem xo{K:W.Frag}(a it:Addr):Turn P w K tg (Qh K a) [it] it (fun i h=>h.IsTupleIter it a i) where
 mem:=by simp
 obj:=fun i h st b hb=>by
  have e:b=it:=by simpa using hb
  subst e;obtain⟨o,e,c,d⟩:=st;exact⟨o,e,fun v z=>by rw[d] at z;cases z⟩
 keep:=fun i h h' st k=>st.at fun o e=>k it (by simp) o e
 item:=by
  intro X hP hw hK hc i pins s σ H E I hf st hg;subst hP hw hK;obtain⟨xs,x,hq,hx⟩:=hg;obtain⟨its,rv,p,hz⟩:=I.tuple hq;obtain⟨u,hu,ru⟩:=rv.get hx;obtain⟨f0,f1,f2,f3,f4,f5⟩:=hf it (by simp)
  refine wpAny_pyNext_tuple_item st (show s.heap.IsTuple a its.toArray from p) (x:=u) (by simpa using hu) fun h' FE sb=>?_
  have I1:Inv X pins σ H {s with heap:=h'}:=I.turned (t':=s.toks) (fun b o hb e=>(sb.2 b hb).trans e) f0 f1 f3 f4 f5
  obtain⟨o,e,c,d⟩:=id FE;exact⟨u,rfl,Ay (s:={s with heap:=h'}) e c d (by decide) ⟨x,H,I1,ru,⟨rfl,fun ys hy=>by rw[I.zU hy hq];exact hx⟩,FE,fun b hb=>(hf b hb).1⟩⟩
 done:=by
  intro X hP hw hK hc i pins s σ H E I hf st hg;subst hP hw hK;obtain⟨xs,hq,hx⟩:=hg;obtain⟨its,rv,p,hz⟩:=I.tuple hq;obtain⟨f0,f1,f2,f3,f4,f5⟩:=hf it (by simp)
  have hl:=rv.length;exact wpAny_pyNext_tuple_end (I.ok.hd hc) st (show s.heap.IsTuple a its.toArray from p) (by simp;omega) fun h' eb=>⟨rfl,I.turned (t':=s.toks) (fun b o hb e=>eb b o hb e) f0 f1 f3 f4 f5⟩
 self:=fun _ _ _ _ _ st h=>wpAny_pyIter_tupleiter st h
theorem wL{K:W.Frag}(it:Addr)(lo:Int)(n:Nat):Turn P w K tg (K9 lo n) [it] it (fun i h=>IsRangeIter h it (lo+(i:Nat)*1) ((n:Int) - (i:Nat)) 1) where
 mem:=by simp
 obj:=fun i h st b hb=>by
  have e:b=it:=by simpa using hb
  subst e;exact⟨_,st,fun v z=>by
   have z':Data.fields _=Data.cell v:=z;cases z'⟩
 keep:=fun i h h' st k=>k it (by simp) _ st
 item:=by
  intro X hP hw hK hc i pins s σ H E I hf st hg;subst hP hw hK;obtain⟨f0,f1,f2,f3,f4,f5⟩:=hf it (by simp)
  have W:=Walks.range (prog:=X.prog) (w:=X.w) (I.ok.hd hc) it lo 1 n;refine W.item i s _ _ hg st fun v h' tk hv FE kk=>?_
  obtain⟨t,rfl⟩:=hv;have I1:Inv X pins σ H {s with heap:=h',toks:=tk}:=I.turned (fun b o hb e=>kk b o (by simpa using hb) e) f0 f1 f3 f4 f5
  refine⟨_,rfl,Ay (s:={s with heap:=h',toks:=tk}) (n:="range_iterator") FE rfl rfl (by decide) ⟨.int (lo+i),H,I1,⟨t,?_⟩,⟨rfl,rfl⟩,FE,fun b hb=>(hf b hb).1⟩⟩
  rw[Int.mul_one]
 done:=by
  intro X hP hw hK hc i pins s σ H E I hf st hg;subst hP hw hK;obtain⟨f0,f1,f2,f3,f4,f5⟩:=hf it (by simp)
  exact wpAny_pyNext_range_end (I.ok.hd hc) st (by have:n<=i:=hg;omega) fun h' eb=>⟨rfl,I.turned (t':=s.toks) (fun b o hb e=>eb b o hb e) f0 f1 f3 f4 f5⟩
 self:=fun _ _ _ _ _ st h=>wpAny_pyIter_rangeiter st h
section
variable {X:Cx} {tg:Expr}
def Qa(K:W.Frag)(tl:TE):TI:=fun σ H R=>tl σ H fun x H1=>∃a,x= .ref a/\(∃xs,m4 K H1 a xs)/\R (Q5 K a) H1
def Ot(K:W.Frag)(tl:TE):TI:=fun σ H R=>tl σ H fun x H1=>∃a,x= .ref a/\(∃xs,oy K H1 a xs)/\R (Qh K a) H1
theorem CB{pins:Wo}{σ:St}{H:Hp}{s:Shared}{R:It->Hp->Prop}{E:Wq}{lo hi:Int}{t u v:Tok}{tk:Nat}(I:Inv X pins σ H s)(h1: -(2 ^ 62)<=lo)(h2:lo < 2 ^ 62)(h3: -(2 ^ 62)<=hi)(h4:hi < 2 ^ 62)
 (q:R (K9 lo (hi - lo).toNat) H):wpAny (model X.prog X.w) X.A (pyIter (.ref s.heap.objs.size)) (QF X pins σ tg R) E {s with heap:=s.heap.push {cls:= .type "range",data:= .fields #[.int lo t, .int hi u, .int 1 v]},toks:=tk}:=by
 refine wpAny_pyIter_range (IsRange.new ..) (small_one h1 h2 h3 h4) ?_;have I1:Inv X pins σ H {s with heap:=s.heap.push {cls:= .type "range",data:= .fields #[.int lo t, .int hi u, .int 1 v]},toks:=tk}:=I.kept fun b o e=>Heap.get?_push_of_some _ e
 refine⟨(s.heap.push {cls:= .type "range",data:= .fields #[.int lo t, .int hi u, .int 1 v]}).objs.size,[(s.heap.push {cls:= .type "range",data:= .fields #[.int lo t, .int hi u, .int 1 v]}).objs.size],_,_,H,rfl,
  I1.kept (t':=tk) fun b o e=>Heap.get?_push_of_some _ e,wL _ lo (hi - lo).toNat,?_,fun b hb=>?_,q⟩
 .have e1:lo+((0:Nat):Int)*1=lo:=by simp
  have e2:(((hi - lo).toNat:Nat):Int) - ((0:Nat):Int)=Builtin.Range.rangeSize lo hi 1:=by rw[rangeSize_one];split <;> omega
  show IsRangeIter _ _ (lo+((0:Nat):Int)*1) ((((hi - lo).toNat:Nat):Int) - ((0:Nat):Int)) 1;rw[e1,e2];exact Heap.get?_push_size _ rfl
 .have e:b=(s.heap.push {cls:= .type "range",data:= .fields #[.int lo t, .int hi u, .int 1 v]}).objs.size:=by simpa using hb
  subst e;exact I1.zk (Nat.le_refl _) (I1.hok.fresh (Nat.le_refl _))
def F6(ta:TA):TI:=fun σ H R=>ta σ H fun vs H1=>∃j:Int,vs=[.int j]/\ -(2 ^ 62)<=j/\j < 2 ^ 62/\R (K9 0 j.toNat) H1
def Qx(ta:TA):TI:=fun σ H R=>ta σ H fun vs H1=>∃i j:Int,vs=[.int i, .int j]/\(-(2 ^ 62)<=i/\i < 2 ^ 62/\ -(2 ^ 62)<=j/\j < 2 ^ 62)/\R (K9 i (j - i).toNat) H1
theorem zt{ta:TA}{p pos:Pos}(hg:Gl X "range")(hm:X.mg "range"=none)(ha:PA X [a] ta)(hs:starEach [a] X.env=[(false,eval a X.env)]:=by rfl):PI X tg (.Call (.Name "range" p) [a] [] pos) (F6 ta):=by
 intro pins s σ H R I h;refine Call_ (gA I hg hm boot_range (PyProof.Rows.callWith_type1 (di (ha pos pins s σ H _ I h) fun us s1 ⟨vs,H1,I1,r1,q1⟩=>?_) hs rfl))
 obtain⟨j,e,q1,q2,q⟩:=q1;subst e;cases r1 with
 | cons r rr=>
   cases rr;obtain⟨t,rfl⟩:=r;exact call_range_1 (CB I1 (by omega) (by omega) q1 q2 (by simpa using q))
def M6(wi:TI)(g:TG)(tb:TS):TS:=fun D σ H=>wi σ H fun J H1=>∃W:Nat->Nat->St->Hp->Prop,(∃m,W 0 m σ H1)/\∀i m σ H,W i m σ H->
 (J.stop i H/\D.nx σ H)\/(J.go i H/\∃N:St->Hp->Prop,(∀b8 H',N b8 H'->∃m',m' < m/\W (i+1) m' b8 H')/\∀x H',J.yld i H x H'->g x σ H' fun rq H2=>tb {D with nx:=N,ct:=N,bk:=D.nx} rq H2)
def mL(fp:List Addr)(h:Heap):Wo:=fp.filterMap fun b=>(h.get? b).map fun o=>(b,o)
theorem jZ{fp:List Addr}{h:Heap}{b:Addr}{o:Obj}(hb:b∈fp)(e:h.get? b=some o):(b,o)∈mL fp h:=List.mem_filterMap.mpr ⟨b,hb,by rw[e];rfl⟩
theorem zj{fp:List Addr}{h:Heap}{p:Addr × Obj}(hp:p∈mL fp h):p.1∈fp/\h.get? p.1=some p.2:=by
 obtain⟨b,hb,e⟩:=List.mem_filterMap.mp hp;cases q:h.get? b with
 | none=>rw [q] at e;cases e
 | some o=>
   rw[q] at e;have e':(b,o)=p:=Option.some.inj e;subst e';exact⟨hb,q⟩
theorem Inv.pinned{pins:Wo}{s:Shared}{fp:List Addr}(I:Inv X pins σ H s)(hf:∀b∈fp,o9 X pins H b)(ho:∀b∈fp,∃o,s.heap.get? b=some o/\∀v,o.data≠ .cell v):Inv X (pins++mL fp s.heap) σ H s:=
 I.yr fun p hp=>(List.mem_append.mp hp).elim (fun z=>I.pin p (List.mem_append_right _ z)) fun z=>by
  obtain⟨hb,e⟩:=zj z;obtain⟨f0,f1,f2,_⟩:=hf p.1 hb;obtain⟨o,e',d⟩:=ho p.1 hb;rw[e] at e';cases e';exact⟨e,f0,f1,f2,d⟩
theorem Inv.nu{pins pl:Wo}{s:Shared}(I:Inv X (pins++pl) σ H s):Inv X pins σ H s:=I.yr fun p hp=>I.pin p (List.mem_append_right _ (List.mem_append_left _ hp))
theorem wW{iter:Expr}{body:List Stmt}{wi:TI}{g:TG}{tb:TS}{pos:Pos}(hp:PassesOwn (model X.prog X.w) X.A X.env X.xe)(hc:X.calm=true)(hi:PI X tg iter wi)(hg:PG X tg g)(hb:sZ X body tb)
 (hs:∀x,foldedSetIterable iter X.env x=pure x:=by intro _;rfl):PS X (.For tg iter body [] pos) (M6 wi g tb):=by
 intro pins s σ H D I h;refine wpAny_For (di (hi pins s σ H _ I h) fun v s1 h1=>di h1 fun MH s2 h2=>?_) hs
 obtain⟨it,fp,tn,J,H2,e,I2,T,Jg,f2,W,⟨m0,w0⟩,turn⟩:=h2;subst e;have stat:∀{H':Hp},(∀b∈fp,H' b=none)->∀b∈fp,o9 X pins H' b:=fun hn b hb=>⟨hn b hb,(f2 b hb).2⟩
 refine codeAny_forLoop_any (fun n s'=>∃i b8 H',Inv X pins b8 H' s'/\tn i s'.heap/\(∀b∈fp,H' b=none)/\W i n b8 H') ?_ m0 ⟨0,σ,H2,I2,Jg,fun b hb=>(f2 b hb).1,w0⟩
 rintro n s3 ⟨i,Dq,H3,I3,FL,L4,w3⟩;rcases turn i n Dq H3 w3 with⟨stop,qn⟩ | ⟨go,N,hN,step⟩
 .refine wpAny_passesOwn hp (di (T.done X rfl rfl rfl hc i pins s3 Dq H3 X.xe I3 (stat L4) FL stop) fun r s4 ⟨hr,I4⟩=>?_)
  subst hr;exact wpAny_execs_nil ⟨Dq,H3,I4,qn⟩
 .refine wpAny_passesOwn hp (di (T.item X rfl rfl rfl hc i pins s3 Dq H3 X.xe I3 (stat L4) FL go) fun r s4 ⟨u,hr,h4⟩=>?_)
  subst hr;refine wpAny_passesOwn hp (di h4 fun _ s5 ⟨x,H5,I5,r5,y5,Jk,Pz⟩=>?_)
  have I5':=I5.pinned (stat Pz) (T.obj _ _ Jk);refine wpAny_passesOwn hp (di (hg _ s5 Dq H5 x u _ I5' r5 (step x H5 y5)) fun _ s6 ⟨LY,H6,I6,q6⟩=>?_)
  refine wpAny_passesOwn hp (di (hb _ s6 LY H6 _ I6 q6) fun f s7 q7=>?_)
  have again:∀{wb:St} {H7:Hp},Inv X (pins++mL fp s5.heap) wb H7 s7->N wb H7->∃m,m < n/\∃i b8 H',Inv X pins b8 H' s7/\tn i s7.heap/\(∀b∈fp,H' b=none)/\W i m b8 H':=fun {wb H7} I7 n7=>by
   obtain⟨m',hm,w7⟩:=hN wb H7 n7;refine⟨m',hm,i+1,wb,H7,I7.nu,T.keep _ _ _ Jk fun b hb o e=>(I7.pin (b,o) (List.mem_append_right _ (List.mem_append_right _ (jZ hb e)))).1,fun b hb=>?_,w7⟩
   obtain⟨o,e,d⟩:=T.obj _ _ Jk b hb;exact(I7.pin (b,o) (List.mem_append_right _ (List.mem_append_right _ (jZ hb e)))).2.1
  cases f with
  | next=>obtain⟨wb,H7,I7,n7⟩:=q7;exact again I7 n7
  | cont=>obtain⟨wb,H7,I7,n7⟩:=q7;exact again I7 n7
  | brk=>obtain⟨wb,H7,I7,q7⟩:=q7;exact⟨wb,H7,I7.nu,q7⟩
  | ret v=>obtain⟨x7,wb,H7,I7,r7,q7⟩:=q7;exact⟨x7,wb,H7,I7.nu,r7,q7⟩
end
abbrev R2:=V->V->Hp->VK->Prop
def mE(X:Cx)(f:Value->Value->Sem Value)(r:R2):Prop:=
 ∀(pins:Wo) (s:Shared) (σ:St) (H:Hp) (x y:V) (v u:Value) (Q:VK),Inv X pins σ H s->RelV x v->RelV y u->r x y H Q->
  wpAny (model X.prog X.w) X.A (f v u) (EP X pins σ Q) X.xe s
def MQ(X:Cx)(f:Value->Sem Value)(r:V->Hp->VK->Prop):Prop:=
 ∀(pins:Wo) (s:Shared) (σ:St) (H:Hp) (x:V) (v:Value) (Q:VK),Inv X pins σ H s->RelV x v->r x H Q->
  wpAny (model X.prog X.w) X.A (f v) (EP X pins σ Q) X.xe s
def jC(X:Cx)(f:Value)(r:List V->Hp->VK->Prop):Prop:=
 ∀(pins:Wo) (s:Shared) (σ:St) (H:Hp) (xs:List V) (us:List Value) (Q:VK),Inv X pins σ H s->Vals xs us->r xs H Q->
  wpAny (model X.prog X.w) X.A (call f us) (EP X pins σ Q) X.xe s
def TM(X:Cx)(r:V->Hp->(Bool->Hp->Prop)->Prop):Prop:=
 ∀(pins:Wo) (s:Shared) (σ:St) (H:Hp) (x:V) (v:Value) (Q:Bool->Hp->Prop),Inv X pins σ H s->RelV x v->r x H Q->
  wpAny (model X.prog X.w) X.A (truthy v) (TP X pins σ Q) X.xe s
def JE(r:R2)(ta tb:TE):TE:=fun σ H Q=>ta σ H fun x H1=>tb σ H1 fun y H2=>r x y H2 Q
def RX(r:V->Hp->VK->Prop)(ta:TE):TE:=fun σ H Q=>ta σ H fun x H1=>r x H1 Q
def rI(C:Int->Int->Prop)(g:Int->Int->V):R2:=fun x y H Q=>∃i j,x= .int i/\y= .int j/\C i j/\Q (g i j) H
def ET(g:Int->Int->V):R2:=fun x y H Q=>∃i j,x= .int i/\y= .int j/\Q (g i j) H
def rU(g:Int->V):V->Hp->VK->Prop:=fun x H Q=>∃i,x= .int i/\Q (g i) H
section
variable {X:Cx} {a b c:Expr} {ta tb tc:TE} {pos:Pos}
theorem Iz(ha:PE X a ta)(hb:PE X b tb){pins:Wo}{s:Shared}{σ:St}{H:Hp}{R:V->V->Hp->Prop}(I:Inv X pins σ H s)
 (h:ta σ H fun x H1=>tb σ H1 fun y H2=>R x y H2) {Q:Wq} {f:Value->Value->Sem Value}
 (hf:∀v u s2 x y H2,Inv X pins σ H2 s2->RelV x v->RelV y u->R x y H2->wpAny (model X.prog X.w) X.A (f v u) Q X.xe s2) :
 wpAny (model X.prog X.w) X.A (eval a X.env) (fun v s₁=>wpAny (model X.prog X.w) X.A (eval b X.env) (fun u rY=>wpAny (model X.prog X.w) X.A (f v u) Q X.xe rY) X.xe s₁) X.xe s:=by
 refine di (ha pins s σ H _ I h) fun v s1 ⟨x,H1,I1,r1,q1⟩=>?_
 refine di (hb pins s1 σ H1 _ I1 q1) fun u s2 ⟨y,H2,I2,r2,q2⟩=>?_
 exact hf v u s2 x y H2 I2 r1 r2 q2
theorem Ct{op:Operator}{r:R2}(ho:mE X (binaryOp op) r)(ha:PE X a ta)(hb:PE X b tb):PE X (.BinOp a op b pos) (JE r ta tb):=by
 intro pins s σ H Q I h;exact wpAny_BinOp (Iz ha hb I h fun v u s2 x y H2 I2 rx ry q=>ho pins s2 σ H2 x y v u Q I2 rx ry q)
theorem Kd{op:UnaryOp}{r:V->Hp->VK->Prop}(ho:MQ X (unaryOp op) r)(ha:PE X a ta):PE X (.UnaryOp op a pos) (RX r ta):=by
 intro pins s σ H Q I h;exact UnaryOp_ (di (ha pins s σ H _ I h) fun v s1 ⟨x,H1,I1,r1,q1⟩=>ho pins s1 σ H1 x v Q I1 r1 q1)
theorem Lj{f:Value->Value->Sem Value}{C:Int->Int->Prop}{g:Int->Int->Int}
 (rule:∀(i j:Int) (t u:Tok) (s:Shared) (Q:Wq) (E:Wq),C i j->Q (.int (g i j) s.toks) {s with toks:=s.toks+1}->wpAny (model X.prog X.w) X.A (f (.int i t) (.int j u)) Q E s) :
 mE X f (rI C fun i j=> .int (g i j)):=by
 intro pins s σ H x y v u Q I rx ry h;obtain⟨i,j,rfl,rfl,hc,q⟩:=h;obtain⟨t,rfl⟩:=rx;obtain⟨t',rfl⟩:=ry;exact rule i j t t' s _ _ hc ⟨.int (g i j),H,I.tok _,⟨_,rfl⟩,q⟩
theorem KW{f:Value->Value->Sem Value}{g:Int->Int->Int}
 (rule:∀(i j:Int) (t u:Tok) (s:Shared) (Q:Wq) (E:Wq),Q (.int (g i j) s.toks) {s with toks:=s.toks+1}->wpAny (model X.prog X.w) X.A (f (.int i t) (.int j u)) Q E s) :
 mE X f (ET fun i j=> .int (g i j)):=by
 intro pins s σ H x y v u Q I rx ry h;obtain⟨i,j,rfl,rfl,q⟩:=h;obtain⟨t,rfl⟩:=rx;obtain⟨t',rfl⟩:=ry;exact rule i j t t' s _ _ ⟨.int (g i j),H,I.tok _,⟨_,rfl⟩,q⟩
theorem Hb{f:Value->Value->Sem Value}{g:Int->Int->Bool}
 (rule:∀(i j:Int) (t u:Tok) (s:Shared) (Q:Wq) (E:Wq),Q (.bool (g i j)) s->wpAny (model X.prog X.w) X.A (f (.int i t) (.int j u)) Q E s) :
 mE X f (ET fun i j=> .bl (g i j)):=by
 intro pins s σ H x y v u Q I rx ry h;obtain⟨i,j,rfl,rfl,q⟩:=h;obtain⟨t,rfl⟩:=rx;obtain⟨t',rfl⟩:=ry;exact rule i j t t' s _ _ ⟨.bl (g i j),H,I,rfl,q⟩
def NK(i j:Int):Prop:=0 < j/\j < 1073741824
def Qf(i j:Int):Prop:=j≠0/\j.natAbs < 1073741824
def NU(i j:Int):Prop:=0<=j/\j<=1000000/\i.natAbs < 2 ^ 64
def G0(i j:Int):Prop:=(-(2 ^ 64) < i/\i < 2 ^ 64)\/(-(2 ^ 64) < j/\j < 2 ^ 64)
theorem G0.ok{i j:Int}(h:G0 i j):IntMulOk i j:=by
 rcases h with⟨h1,h2⟩ | ⟨h1,h2⟩
 .exact .of_left (intBits_le_64 h1 h2)
 .exact .of_right (intBits_le_64 h1 h2)
theorem wy(k:Nat):(0:Int)<=2 ^ k:=by
 rw[two_pow_cast];exact Int.natCast_nonneg _
theorem G9:mE X (binaryOp .Add) (ET fun i j=> .int (i+j)):=KW fun _ _ _ _ _ _ _ q=>add_int q
theorem Hj:mE X (binaryOp .Sub) (ET fun i j=> .int (i - j)):=KW fun _ _ _ _ _ _ _ q=>sub_int q
theorem HL:mE X (binaryOp .Mult) (rI G0 fun i j=> .int (i*j)):=Lj fun _ _ _ _ _ _ _ hc q=>mul_int q hc.ok
theorem Es:mE X (binaryOp .FloorDiv) (rI NK fun i j=> .int (i / j)):=Lj fun i j _ _ _ _ _ hc q=>by
 have h1:(0:Int) < j:=hc.1;have h2:j < 1073741824:=hc.2;exact floordiv_int (by omega) (by rw[Int.fdiv_eq_ediv_of_nonneg i (by omega)];exact q) (.inl (PyProof.noPylong_small (by omega)))
theorem G1:mE X (binaryOp .Mod) (rI (fun _ j=>0 < j) fun i j=> .int (i % j)):=Lj fun i j _ _ _ _ _ hc q=>by
 have h1:(0:Int) < j:=hc;exact mod_int' (by omega) (by rw[Int.fmod_eq_emod_of_nonneg i (by omega)];exact q)
theorem HC:mE X (binaryOp .Pow) (rI NU fun i j=> .int (i ^ j.toNat)):=Lj fun _ _ _ _ _ _ _ hc q=>pow_int_small hc.1 hc.2.1 hc.2.2 q
theorem GX:mE X (binaryOp .RShift) (rI (fun _ j=>0<=j) fun i j=> .int (i / 2 ^ j.toNat)):=Lj fun i j _ _ _ _ _ hc q=>
 rshift_int hc (by rw[Int.fdiv_eq_ediv_of_nonneg i (wy _)];exact q)
theorem TK{f:Value->Sem Value}{g:Int->Int}
 (rule:∀(i:Int) (t:Tok) (s:Shared) (Q:Wq) (E:Wq),Q (.int (g i) s.toks) {s with toks:=s.toks+1}->wpAny (model X.prog X.w) X.A (f (.int i t)) Q E s) :
 MQ X f (rU fun i=> .int (g i)):=by
 intro pins s σ H x v Q I rx h;obtain⟨i,rfl,q⟩:=h;obtain⟨t,rfl⟩:=rx;exact rule i t s _ _ ⟨.int (g i),H,I.tok _,⟨_,rfl⟩,q⟩
theorem Hw:MQ X (unaryOp .USub) (rU fun i=> .int (-i)):=TK fun _ _ _ _ _ q=>neg_int q
end
def Ko:V->V->Bool
 | .cI, .cI=>true | .cI, .int _=>true | .int _, .cI=>true | .cI, .bl _=>true | .bl _, .cI=>true | .cI, .str _=>true | .str _, .cI=>true
 | .int _, .int _=>true | .bl _, .bl _=>true | .str _, .str _=>true | .byt _, .byt _=>true
 | .int _, .str _=>true | .str _, .int _=>true | .bl _, .str _=>true | .str _, .bl _=>true
 | _,_=>false
def SD:R2:=fun x y H Q=>Ko x y=true/\Q (.bl (decide (x=y))) H
def TH:R2:=fun x y H Q=>Ko x y=true/\Q (.bl (!decide (x=y))) H
theorem xW{i j:Int}:decide (V.int i=V.int j)=(i==j):=by
 rw[Bool.eq_iff_iff];simp
theorem By{i j:Bool}:decide (V.bl i=V.bl j)=(i==j):=by
 rw[Bool.eq_iff_iff];simp
theorem yV:decide (V.str i=V.str j)=(i==j):=by
 rw[Bool.eq_iff_iff];simp
theorem yw{i j:Array UInt8}:decide (V.byt i=V.byt j)=(i.toList==j.toList):=by
 rw[Bool.eq_iff_iff];cases i;cases j;simp
section
variable {X:Cx} {a b c:Expr} {ta tb tc:TE} {pos:Pos}
theorem bX{pins:Wo}{s:Shared}{Q:VK}{k k':Bool}(I:Inv X pins σ H s)(q:Q (.bl k) H)(e:k=k'):EP X pins σ Q (.bool k') s:=by
 subst e;exact⟨.bl k,H,I,rfl,q⟩
theorem AE:mE X (compareOp .Eq) SD:=by
 intro pins s σ H x y v u Q I rx ry h;obtain⟨hs,q⟩:=h;cases x with
 | cI=>
   cases rx;cases y with
   | cI=>cases ry;exact PySem.EqNone.eq_none_none (bX I q (by simp))
   | bl j=>cases ry;exact PySem.EqNone.eq_none_bool (bX I q (by simp))
   | int j=>obtain⟨t',rfl⟩:=ry;exact PySem.EqNone.eq_none_int (bX I q (by simp))
   | str j=>obtain⟨t',rfl⟩:=ry;exact PySem.EqNone.eq_none_str (bX I q (by simp))
   | _=>exact absurd (show false=true from hs) Bool.false_ne_true
 | bl i=>
   cases rx;cases y with
   | cI=>cases ry;exact PySem.EqNone.eq_bool_none (bX I q (by simp))
   | bl j=>cases ry;exact eq_bool (bX I q By)
   | str j=>obtain⟨t',rfl⟩:=ry;exact PySem.EqMixed.eq_bool_str (bX I q (by simp))
   | _=>exact absurd (show false=true from hs) Bool.false_ne_true
 | int i=>
   obtain⟨t,rfl⟩:=rx;cases y with
   | cI=>cases ry;exact PySem.EqNone.eq_int_none (bX I q (by simp))
   | int j=>obtain⟨t',rfl⟩:=ry;exact eq_int (bX I q xW)
   | str j=>obtain⟨t',rfl⟩:=ry;exact PySem.EqMixed.eq_int_str (bX I q (by simp))
   | _=>exact absurd (show false=true from hs) Bool.false_ne_true
 | str i=>
   obtain⟨t,rfl⟩:=rx;cases y with
   | cI=>cases ry;exact PySem.EqNone.eq_str_none (bX I q (by simp))
   | bl j=>cases ry;exact PySem.EqMixed.eq_str_bool (bX I q (by simp))
   | int j=>obtain⟨t',rfl⟩:=ry;exact PySem.EqMixed.eq_str_int (bX I q (by simp))
   | str j=>obtain⟨t',rfl⟩:=ry;exact eq_str (bX I q yV)
   | _=>exact absurd (show false=true from hs) Bool.false_ne_true
 | byt i=>
   obtain⟨t,rfl⟩:=rx;cases y with
   | byt j=>obtain⟨t',rfl⟩:=ry;exact PySem.W.eq_bytes (bX I q yw)
   | _=>exact absurd (show false=true from hs) Bool.false_ne_true
 | _=>cases y <;> exact absurd (show false=true from hs) Bool.false_ne_true
theorem A9:mE X (compareOp .NotEq) TH:=by
 intro pins s σ H x y v u Q I rx ry h;obtain⟨hs,q⟩:=h;cases x with
 | cI=>
   cases rx;cases y with
   | cI=>cases ry;exact PySem.EqNone.ne_none_none (bX I q (by simp))
   | bl j=>cases ry;exact PySem.EqNone.ne_none_bool (bX I q (by simp))
   | int j=>obtain⟨t',rfl⟩:=ry;exact PySem.EqNone.ne_none_int (bX I q (by simp))
   | str j=>obtain⟨t',rfl⟩:=ry;exact PySem.EqNone.ne_none_str (bX I q (by simp))
   | _=>exact absurd (show false=true from hs) Bool.false_ne_true
 | bl i=>
   cases rx;cases y with
   | cI=>cases ry;exact PySem.EqNone.ne_bool_none (bX I q (by simp))
   | bl j=>cases ry;exact ne_bool (bX I q (congrArg not By))
   | str j=>obtain⟨t',rfl⟩:=ry;exact PySem.EqMixed.ne_bool_str (bX I q (by simp))
   | _=>exact absurd (show false=true from hs) Bool.false_ne_true
 | int i=>
   obtain⟨t,rfl⟩:=rx;cases y with
   | cI=>cases ry;exact PySem.EqNone.ne_int_none (bX I q (by simp))
   | int j=>obtain⟨t',rfl⟩:=ry;exact ne_int (bX I q (congrArg not xW))
   | str j=>obtain⟨t',rfl⟩:=ry;exact PySem.EqMixed.ne_int_str (bX I q (by simp))
   | _=>exact absurd (show false=true from hs) Bool.false_ne_true
 | str i=>
   obtain⟨t,rfl⟩:=rx;cases y with
   | cI=>cases ry;exact PySem.EqNone.ne_str_none (bX I q (by simp))
   | bl j=>cases ry;exact PySem.EqMixed.ne_str_bool (bX I q (by simp))
   | int j=>obtain⟨t',rfl⟩:=ry;exact PySem.EqMixed.ne_str_int (bX I q (by simp))
   | str j=>obtain⟨t',rfl⟩:=ry;exact ne_str (bX I q (congrArg not yV))
   | _=>exact absurd (show false=true from hs) Bool.false_ne_true
 | byt i=>
   obtain⟨t,rfl⟩:=rx;cases y with
   | byt j=>obtain⟨t',rfl⟩:=ry;exact PySem.W.ne_bytes (bX I q (congrArg not yw))
   | _=>exact absurd (show false=true from hs) Bool.false_ne_true
 | _=>cases y <;> exact absurd (show false=true from hs) Bool.false_ne_true
theorem J1:mE X (compareOp .Lt) (ET fun i j=> .bl (decide (i < j))):=Hb fun _ _ _ _ _ _ _ q=>lt_int q
theorem Le:mE X (compareOp .Gt) (ET fun i j=> .bl (decide (j < i))):=Hb fun _ _ _ _ _ _ _ q=>gt_int q
theorem Lb:mE X (compareOp .GtE) (ET fun i j=> .bl (decide (j<=i))):=Hb fun _ _ _ _ _ _ _ q=>ge_int q
theorem tG:mE X (compareOp .NotIn) (fun x y H Q=>∃i j,x= .str i/\y= .str j/\Q (.bl (!(!(Builtin.Str.occurrences j i 0 j.length 1).isEmpty))) H):=by
 intro pins s σ H x y v u Q I rx ry h;obtain⟨i,j,rfl,rfl,q⟩:=h;obtain⟨t,rfl⟩:=rx;obtain⟨t',rfl⟩:=ry;exact notIn_str (bX I q rfl)
def isObj:HO->Bool
 | .lst _=>true
 | .ins _ _ _=>true
 | _=>false
theorem xx(b:Expr){op:CmpOp}(h:op≠ .In:=by decide)(h2:op≠ .NotIn:=by decide):behindInMarks op b=false:=by
 have e1:(op==CmpOp.In)=false:=by cases op <;> first | rfl | exact absurd rfl h
 have e2:(op==CmpOp.NotIn)=false:=by cases op <;> first | rfl | exact absurd rfl h2
 cases b <;> simp [behindInMarks,e1,e2]
theorem Eg{op:CmpOp}{r:R2}(ho:mE X (compareOp op) r)(ha:PE X a ta)(hb:PE X b tb)(hm:behindInMarks op b=false):PE X (.Compare a [op] [b] pos) (JE r ta tb):=by
 intro pins s σ H Q I h;exact wpAny_Compare1 (Iz ha hb I h fun v u s2 x y H2 I2 rx ry q=>ho pins s2 σ H2 x y v u Q I2 rx ry q) hm
def K_(t:TE):TT:=fun σ H Q=>t σ H fun x H'=>∃k,x= .bl k/\Q k H'
theorem yh{op:CmpOp}{r:R2}(ho:mE X (compareOp op) r)(ha:PE X a ta)(hb:PE X b tb)(hm:behindInMarks op b=false):PT X (.Compare a [op] [b] pos) (K_ (JE r ta tb)):=by
 intro pins s σ H Q I h;refine wpAny_isTrue_Compare1 (di (ha pins s σ H _ I h) fun v s1 ⟨x,H1,I1,r1,q1⟩=>di (hb pins s1 σ H1 _ I1 q1) fun u s2 ⟨y,H2,I2,r2,q2⟩=>
  di (ho pins s2 σ H2 x y v u _ I2 r1 r2 q2) fun c s3 ⟨z,H3,I3,r3,k,e,q3⟩=>?_) hm
 subst e;cases r3;exact wpAny_truthy_bool ⟨H3,I3,q3⟩
def Of(r r':R2)(ta tb tc:TE):TE:=fun σ H Q=>ta σ H fun x H1=>tb σ H1 fun y H2=>r x y H2 fun z H3=>∃k,z= .bl k/\
 (if k=true then tc σ H3 fun w' H4=>r' y w' H4 Q else Q (.bl false) H3)
def SY(K:W.Frag)(x:V)(H:Hp)(k:Bool):Prop:=
 match x with
 | .cI=>k=false
 | .bl b=>k=b
 | .int i=>k=(i !=0)
 | .str y=>y.length<=sizeLine/\k=((y.length:Int) !=0)
 | .byt y=>y.size<=sizeLine/\k=((y.size:Int) !=0)
 | .ref p=>(∃xs,m4 K H p xs/\k=!xs.isEmpty)\/(∃xs,oy K H p xs/\k=!xs.isEmpty)\/∃aC,H p=some (.dK aC)/\k=!aC.isEmpty
 | _=>False
theorem tJ:(sizeLine:Nat) < 2 ^ 63:=by rw[sizeLine_eq];decide
theorem wY:mE X (binaryOp .Add) (fun x y H Q=>∃i j,x= .str i/\y= .str j/\i.length+j.length<=sizeLine/\Q (.str (i++j)) H):=by
 intro pins s σ H x y v u Q I rx ry h;obtain⟨i,j,rfl,rfl,hz,q⟩:=h;obtain⟨t,rfl⟩:=rx;obtain⟨t',rfl⟩:=ry;exact add_str (fun t' tk=>⟨.str (i++j),H,I.tok _,⟨_,rfl⟩,q⟩) hz
def Kh(b:Expr):Prop:=∀o i,subscripted b false o i=operate [o,i] (getItem o i)
theorem vals1{x:V}{us:List Value}(r:Vals [x] us):∃u,us=[u]/\RelV x u:=by
 cases r with
 | cons r1 r2=>cases r2;exact⟨_,rfl,r1⟩
theorem vals2{x y:V}{us:List Value}(r:Vals [x,y] us):∃u w',us=[u,w']/\RelV x u/\RelV y w':=by
 cases r with
 | cons r1 r2=>
   cases r2 with
   | cons r3 r4=>cases r4;exact⟨_,_,rfl,r1,r3⟩
theorem z0(hc:X.calm=true):jC X (.builtin "min") (fun xs H Q=>∃i j,xs=[.int i, .int j]/\Q (.int (if j < i then j else i)) H):=by
 intro pins s σ H xs us Q I r h;obtain⟨i,j,rfl,q⟩:=h;obtain⟨u,w',rfl,⟨t,rfl⟩,⟨t',rfl⟩⟩:=vals2 r;refine min_two_ints (I.ok.hd hc) fun h' tk k=>⟨_,H,I.kept k,?_,q⟩
 by_cases hj:j < i
 .rw [if_pos hj,if_pos hj];exact⟨_,rfl⟩
 .rw [if_neg hj,if_neg hj];exact⟨_,rfl⟩
theorem zZ:jC X (.type "int") (fun xs H Q=>(∃i,xs=[.int i]/\Q (.int i) H)\/∃k,xs=[.bl k]/\Q (.int (if k then 1 else 0)) H):=by
 intro pins s σ H xs us Q I r h;rcases h with⟨i,rfl,q⟩ | ⟨k,rfl,q⟩
 .obtain⟨u,rfl,t,rfl⟩:=vals1 r;exact call_int_int ⟨.int i,H,I,⟨_,rfl⟩,q⟩
 .obtain⟨u,rfl,r1⟩:=vals1 r;cases r1;exact call_int_bool ⟨.int (if k then 1 else 0),H,I.tok _,⟨_,rfl⟩,q⟩
def NM(K:W.Frag)(x:V)(H:Hp)(n:Nat):Prop:=
 match x with
 | .str y=>y.length<=sizeLine/\n=y.length
 | .byt y=>y.size<=sizeLine/\n=y.size
 | .ref p=>(∃xs,m4 K H p xs/\n=xs.length)\/∃xs,oy K H p xs/\n=xs.length
 | _=>False
theorem AH:jC X (.builtin "len") (fun xs H Q=>∃x n,xs=[x]/\NM X.K x H n/\Q (.int n) H):=by
 intro pins s σ H xs us Q I r h;obtain⟨x,n,rfl,e,q⟩:=h;obtain⟨u,rfl,rx⟩:=vals1 r;have hl:=tJ;have hs:sizeLine=16777216:=sizeLine_eq;cases x with
 | str y=>
   obtain⟨t,rfl⟩:=rx;obtain⟨hy,e'⟩:y.length<=sizeLine/\n=y.length:=e;subst e';exact len_str (by omega) ⟨.int _,H,I.tok _,⟨_,rfl⟩,q⟩
 | byt y=>
   obtain⟨t,rfl⟩:=rx;obtain⟨hy,e'⟩:y.size<=sizeLine/\n=y.size:=e;subst e';exact PySem.W.len_bytes (by omega) ⟨.int _,H,I.tok _,⟨_,rfl⟩,q⟩
 | ref p=>
   cases rx;have e':(∃xs,m4 X.K H p xs/\n=xs.length)\/∃xs,oy X.K H p xs/\n=xs.length:=e;rcases e' with⟨xs,hx,e'⟩ | ⟨xs,hx,e'⟩
   .subst e';obtain⟨its,r',pl,hz⟩:=I.list hx;have hlen:=r'.length;exact Calls.call_len_list pl.isList (by simp only[List.size_toArray];omega) ⟨.int xs.length,H,I.tok _,⟨_,by simp only[List.size_toArray];rw [hlen]⟩,q⟩
   .subst e';obtain⟨its,r',pl,hz⟩:=I.tuple hx;have hlen:=r'.length;exact len_tuple pl (by simp only[List.size_toArray];omega) ⟨.int xs.length,H,I.tok _,⟨_,by simp only[List.size_toArray];rw [hlen]⟩,q⟩
 | _=>exact(show False from e).elim
end
structure Su (h:Heap) (x dx C:Addr) (mA:Wu):Prop where
 obj:h.get? x=some (PySem.W.instObj C dx)
 ns:h.Ns1 dx mA
 ne:dx≠x
section
variable {prog:Program} {w:World} {A:Around} {E:Wq} {s:Shared} {K:W.Frag} {x dx C f:Addr} {mA:Wu} {name:Str} {v:Value}
end
def GY(f:Str)(v:V):List (Str × V)->List (Str × V)
 | []=>[(f,v)]
 | (g,x) ::r=>if g=f then(g,v) ::r else(g,x) ::GY f v r
theorem oY.some_of{v:V}{o:Option Value}(r:oY (some v) o):∃u,o=some u/\RelV v u:=by
 cases o with
 | none=>exact(show False from r).elim
 | some u=>exact⟨u,rfl,r⟩
section
variable {P:Program} {w:World} {H H':Hp} {h h':Heap} {a C dx:Addr} {fs Md:List (Str × V)}
end
structure IB (K:W.Frag) (C:Addr):Prop where
 pg:PySem.W.plainGet K C Str.empty=true
 hd:PySem.W.hasDictIn K C=true
 po:PySem.W.plainOver K C=true
 sa:PySem.W.findIn K (.ref C) "__setattr__"=some (some (.builtin "object.__setattr__"))
def wJ(K:W.Frag)(C:Addr)(f:Str):Prop:=PySem.W.findIn K (.ref C) f=some none
structure SR (K:W.Frag) (C:Addr) (f:Str) (v:V) (u:Value):Prop where
 at_:PySem.W.findIn K (.ref C) f=some (some u)
 rel:RelV v u
 get:PySem.W.specialIn K u "__get__"=some none
 cp:PySem.W.copiedNames.contains f=false
structure Meth (K:W.Frag) (C:Addr) (m:Str) (f:Addr):Prop where
 at_:PySem.W.findIn K (.ref C) m=some (some (.ref f))
 fn:PySem.W.isFn K (.ref f)=true
 kp:PySem.W.keepIn K (.ref f)=true
section
variable {X:Cx} {pins:Wo} {σ:St} {H:Hp} {s:Shared} {a C dx:Addr} {fs:List (Str × V)} {f:Str} {v:V} {A:Around} {E:Wq}
end
def SJ(K:W.Frag)(ta:TE)(f:Str):TE:=fun σ H Q=>ta σ H fun x H1=>∃a C dx fs v,x= .ref a/\H1 a=some (.ins C dx fs)/\IB K C/\wJ K C f/\fs.lookup f=some v/\Q v H1
def SX(K:W.Frag)(ta:TE)(f:Str):TE:=fun σ H Q=>ta σ H fun x H1=>∃a C dx fs v u,x= .ref a/\H1 a=some (.ins C dx fs)/\IB K C/\SR K C f v u/\fs.lookup f=none/\Q v H1
def TR(K:W.Frag)(ta tv:TE)(f:Str):TS:=fun D σ H=>tv σ H fun y H1=>ta σ H1 fun x H2=>∃a C dx fs,x= .ref a/\H2 a=some (.ins C dx fs)/\IB K C/\wJ K C f/\fs.length < 1000/\
 D.nx σ (upd H2 a (.ins C dx (GY f y fs)))
def Sg(X:Cx)(op:Operator)(rd:V->V->Hp->VK->Prop):Prop:=
 ∀(pins:Wo) (s:Shared) (σ:St) (H:Hp) (x y:V) (u v:Value) (Q:VK),Inv X pins σ H s->RelV x u->RelV y v->rd x y H Q->wpAny (model X.prog X.w) X.A (inplaceOp op u v) (EP X pins σ Q) X.xe s
def Mw(K:W.Frag)(ta tv:TE)(rd:V->V->Hp->VK->Prop)(f:Str):TS:=fun D σ H=>ta σ H fun x H1=>∃a C dx fs v,x= .ref a/\H1 a=some (.ins C dx fs)/\IB K C/\wJ K C f/\fs.lookup f=some v/\
 tv σ H1 fun y H2=>rd v y H2 fun z H3=>∃dx' Md,H3 a=some (.ins C dx' Md)/\Md.length < 1000/\D.nx σ (upd H3 a (.ins C dx' (GY f z Md)))
section
variable {X:Cx} {o e value:Expr} {f:Str} {pos pos' CP:Pos} {ta tv:TE}
def Sa:V->V->Hp->VK->Prop:=fun x y H Q=>∃i j,x= .int i/\y= .int j/\Q (.int (i+j)) H
def S8:V->V->Hp->VK->Prop:=fun x y H Q=>∃i j,x= .int i/\y= .int j/\Q (.int (i - j)) H
end
section
variable {X:Cx} {pins:Wo} {σ:St} {H:Hp} {s:Shared} {A:Around} {E:Wq} {Q:Wq} {c:Value} {b:Bool}
inductive qI (K:W.Frag) (H:Hp):V->Value->Prop where
 | cI:qI K H .cI (.type "NoneType")
 | bl (x:Bool):qI K H (.bl x) (.type "bool")
 | int (i:Int):qI K H (.int i) (.type "int")
 | str (x:Str):qI K H (.str x) (.type "str")
 | flt (x:UInt64):qI K H (.flt x) (.type "float")
 | lst {a:Addr} {xs:List V} (e:H a=some (.lst xs)):qI K H (.ref a) (.type "list")
 | jn {a:Addr} {o:Obj} {xs:List V} (e:H a=some (.jn o (.lst xs))):qI K H (.ref a) (.type "list")
 | tup {a:Addr} {xs:List V} (e:H a=some (.tup xs)):qI K H (.ref a) (.type "tuple")
 | dK {a:Addr} {aC:List (Key × V)} (e:H a=some (.dK aC)):qI K H (.ref a) (.type "dict")
 | dT {a:Addr} {aC:List (List Key × V)} (e:H a=some (.dT aC)):qI K H (.ref a) (.type "dict")
 | ins {a C dx:Addr} {fs:List (Str × V)} (e:H a=some (.ins C dx fs)) (cl:IB K C) (ha:PySem.W.findIn K (.ref C) "__class__"=some (some (.builtin "object.__class__")))
    (hn:PySem.W.specialIn K (.builtin "object.__class__") "__get__"=some (some (.builtin "getset_descriptor.__get__"))) (V_:PySem.W.takesIn K (.builtin "object.__class__")=some true)
    (hm:PySem.W.mroIn K C (.type "object")=some true):qI K H (.ref a) (.ref C)
end
structure eJ (k:Nat) (A:Around):Prop where
 hd:A.handled=none
 dp:A.depth+3*k+5 < recursionLimit
 un:A.units+16*k+200 < cLine
theorem eJ.mono{j k:Nat}(r:eJ k A)(h:j<=k):eJ j A:=⟨r.hd,by have:=r.dp;omega,by have:=r.un;omega⟩
theorem eJ.deeper{k:Nat}{A:Around}(r:eJ (k+1) A)(env:Env):eJ k (A.deeper env):=
 ⟨r.hd,by have:=r.dp;show A.depth+1+3*k+5 < _;omega,by have:=r.un;show A.units+3+16*k+200 < _;omega⟩
theorem eJ.depth{k:Nat}{A:Around}(r:eJ k A):A.depth < recursionLimit:=by have:=r.dp;omega
theorem eJ.units{k:Nat}{A:Around}(r:eJ k A):A.units+64 < cLine:=by have:=r.un;omega
def NW:TA:=fun _ H Q=>Q [] H
def Kv(ta:TE)(tr:TA):TA:=fun σ H Q=>ta σ H fun x H1=>tr σ H1 fun xs H2=>Q (x ::xs) H2
section
variable {X:Cx} {e:Expr} {es:List Expr} {te:TE} {t:TA} {pos:Pos}
theorem iW:PA X [] NW:=fun _ _ _ _ H Q I h=>Calls.spliced_nil ⟨[],H,I, .nil,h⟩
theorem eE(ha:PE X e te)(hr:PA X es t)(hs:starEach (e ::es) X.env=(false,eval e X.env) ::starEach es X.env:=by rfl):PA X (e ::es) (Kv te t):=by
 intro pos pins s σ H Q I h;rw[hs];show wpAny _ _ (spliced ((false,eval e X.env) ::backTo pos (starEach es X.env))) _ _ s;refine Calls.spliced_cons (di (ha pins s σ H _ I h) fun u s1 ⟨x,H1,I1,r1,q1⟩=>?_)
 exact di (hr pos pins s1 σ H1 _ I1 q1) fun us s2 ⟨xs,H2,I2,r2,q2⟩=>⟨x ::xs,H2,I2, .cons r1 r2,q2⟩
def NQ(t:TA):TE:=fun σ H Q=>t σ H fun xs H1=>xs.length<=sizeLine/\∀p,H1 p=none->Q (.ref p) (upd H1 p (.tup xs))
def M4(t:TA):TE:=fun σ H Q=>t σ H fun xs H1=>xs.length<=sizeLine/\∀p,H1 p=none->Q (.ref p) (upd H1 p (.lst xs))
theorem Hi{x1}(h:PA X es t):PE X (.Tuple es x1 pos) (NQ t):=by
 intro pins s σ H Q I hq;refine wpAny_Tuple_spliced (di (h pos pins s σ H _ I hq) fun us s1 ⟨xs,H1,I1,r,z,q⟩=>⟨by rw[<-r.length];exact z,?_⟩)
 have hf:H1 s1.heap.objs.size=none:=I1.hok.fresh (Nat.le_refl _);refine⟨.ref s1.heap.objs.size,upd H1 s1.heap.objs.size (.tup xs),I1.laid (t':=s1.toks) (fun b u e=>Heap.get?_push_of_some _ e) (Nat.le_refl _) ?_,rfl,q _ hf⟩
 exact⟨z,us,r,⟨_,Heap.get?_push_size _ rfl,rfl,_,rfl⟩⟩
theorem Bm(h:PA X es t):PE X (.List es pos) (M4 t):=by
 intro pins s σ H Q I hq;refine wpAny_List_spliced (di (h pos pins s σ H _ I hq) fun us s1 ⟨xs,H1,I1,r,z,q⟩=>⟨by rw[<-r.length];exact z,?_⟩)
 have hf:H1 s1.heap.objs.size=none:=I1.hok.fresh (Nat.le_refl _);refine⟨.ref s1.heap.objs.size,upd H1 s1.heap.objs.size (.lst xs),I1.laid (t':=s1.toks) (fun b u e=>Heap.get?_push_of_some _ e) (Nat.le_refl _) ?_,rfl,q _ hf⟩
 exact⟨z,us,0,r,Heap.get?_push_size _ rfl⟩
end
abbrev Sp:=List V->Hp->VK->XK->Prop
abbrev Aj:=List Env->Hp->Shared->XK->Value->Shared->Prop
structure Ea (P:Program) (w:World) (K:W.Frag) (mg:Wu) (base:Heap) (A:Around) (outer:List Env) (s:Shared) (H:Hp):Prop where
 frames:A.frames=some outer
 mod:Mod K mg base
 bs:∀b o,base.get? b=some o->s.heap.get? b=some o/\H b=none
 bsz:base.objs.size<=s.heap.objs.size
 n9:s.heap.FunFrames base outer
 frf:∀b∈mD outer,H b=none
 hok:kU P w H s.heap
 bare:AllBare s.gens
def CE(outer:List Env)(P:Program)(w:World)(H:Hp)(s:Shared)(Q:VK)(u:Value)(s':Shared):Prop:=
 ∃v H',s'.os=s.os/\AllBare s'.gens/\Un (mD outer) [] H H' s.heap s'.heap/\kU P w H' s'.heap/\RelV v u/\Q v H'
def CR(CX:Aj)(outer:List Env)(P:Program)(w:World)(H:Hp)(s:Shared)(Q:VK)(E:XK)(r:Result)(s':Shared):Prop:=
 match r with
 | .ok (.ret u)=>CE outer P w H s Q u s'
 | .ok _=>False
 | .error e=>CX outer H s E e s'
structure hJ (P:Program) (w:World) (K:W.Frag) (mg:Wu) (base:Heap) (CX:Aj) (k:Nat) (f:Addr) (fd:FuncData) (ps:List Str) (sp:Sp):Prop where
 len:∀vs H Q E,sp vs H Q E->vs.length=ps.length
 run:∀(A:Around) (outer:List Env) (s:Shared) (H:Hp) (args:Args) (us:List Value) (vs:List V) (Q:VK) (E:XK),eJ k A->Ea P w K mg base A outer s H->BindsTo s fd args (ps.zip us)->Vals vs us->sp vs H Q E->
  codeAny (model P w) A (.call (.ref f) args) (CR CX outer P w H s Q E) s
theorem hJ.imp{P:Program}{w:World}{K:W.Frag}{mg:Wu}{base:Heap}{CX:Aj}{k:Nat}{f:Addr}{fd:FuncData}{ps:List Str}{sp Rn:Sp}(F:hJ P w K mg base CX k f fd ps sp)
 (h:∀vs H Q E,Rn vs H Q E->sp vs H Q E):hJ P w K mg base CX k f fd ps Rn:=
 ⟨fun vs H Q E q=>F.len vs H Q E (h _ _ _ _ q),fun A outer s H args us vs Q E hr he hb hv hs=>F.run A outer s H args us vs Q E hr he hb hv (h _ _ _ _ hs)⟩
section
variable {X:Cx} {pins:Wo} {σ:St} {H:Hp} {s s':Shared}
theorem Inv.Ni(I:Inv X pins σ H s):Ea X.prog X.w X.K X.mg X.base X.A X.stack s H:=
 ⟨I.ok.frames,I.ok.mod,I.bs,Nat.le_trans I.ok.bsz I.sz,I.stack,I.l5,I.hok,I.bare⟩
theorem Inv.after{Q:VK}{u:Value}(I:Inv X pins σ H s)(h:CE X.stack X.prog X.w H s Q u s'):EP X pins σ Q u s':=by
 obtain⟨v,H',os,bare,un,hok,r,q⟩:=h;obtain⟨hh,g,d,t,U1⟩:=s';obtain rfl:U1=s.os:=os;exact⟨v,H',I.call (h':=hh) (g':=g) (d':=d) (t':=t) (ch:=[]) un hok bare (fun b z=>absurd z (by simp)),r,q⟩
end
def KA(sp:Sp)(An:List V)(E:XK)(t:TA):TE:=fun σ H Q=>t σ H fun vs H1=>sp (vs++An) H1 Q E
def QM(C:Addr)(m:Str)(sp:Sp)(An:List V)(E:XK)(ta:TE)(t:TA):TE:=fun σ H Q=>ta σ H fun x H1=>∃a dx fs,x= .ref a/\H1 a=some (.ins C dx fs)/\fs.lookup m=none/\
 t σ H1 fun vs H2=>sp (x ::(vs++An)) H2 Q E
def Q1(C:Addr)(sp:Sp)(An:List V)(E:XK)(t:TA):TE:=fun σ H Q=>t σ H fun vs H1=>∀x dx,H1 x=none->H1 dx=none->dx≠x->
 sp (.ref x ::(vs++An)) (upd (upd H1 dx (.own x)) x (.ins C dx [])) (fun v H2=>v= .cI/\Q (.ref x) H2) E
def Binds(K:W.Frag)(fd:FuncData)(ps:List Str)(ds:List Value):Prop:=
 ∀(s:Shared) (us:List Value),K.In s.heap->(us++ds).length=ps.length->BindsTo s fd ⟨us,[]⟩ (ps.zip (us++ds))
theorem Binds.all{K:W.Frag}{fd:FuncData}{ps:List Str}(h:∀us:List Value,us.length=ps.length->bindArgs fd ⟨us,[]⟩=pure (ps.zip us)):Binds K fd ps []:=fun s us _ hl=>by
 rw[List.append_nil] at hl ⊢;exact .of_eq (h us hl)
def Passes(CX:Aj)(X:Cx)(E:XK):Prop:=∀(pins:Wo) (σ:St) (H:Hp) (s:Shared) (e:Value) (s':Shared),Inv X pins σ H s->CX X.stack H s E e s'->X.xe e s'
section
variable {X:Cx} {CX:Aj} {k:Nat} {f C:Addr} {fd:FuncData} {ps:List Str} {sp:Sp} {An:List V} {ds:List Value} {E:XK} {x m:Str} {p pos apos:Pos} {e o:Expr} {es:List Expr} {ta:TE} {t:TA}
theorem Hx{pins:Wo}{σ:St}{H:Hp}{s:Shared}{Q:VK}{us:List Value}{vs:List V}(F:hJ X.prog X.w X.K X.mg X.base CX k f fd ps sp)(hr:eJ k X.A)(hb:Binds X.K fd ps ds)(hd:Vals An ds)(hx:Passes CX X E)
 (I:Inv X pins σ H s) (r:Vals vs us) (h:sp (vs++An) H Q E):wpAny (model X.prog X.w) X.A (call (.ref f) us) (EP X pins σ Q) X.xe s:=by
 have r2:Vals (vs++An) (us++ds):=r.append hd;have hl:(us++ds).length=ps.length:=by rw[<-r2.length];exact F.len _ _ _ _ h
 refine wpAny_call (codeAny_mono (F.run X.A X.stack s H ⟨us,[]⟩ (us++ds) (vs++An) Q E hr I.Ni (hb s us I.Dj hl) r2 h) fun r s' hq=>?_)
 cases r with
 | error e=>exact hx pins σ H s e s' I hq
 | ok fl=>
   cases fl with
   | ret u=>exact I.after hq
   | next=>exact False.elim hq
   | brk=>exact False.elim hq
   | cont=>exact False.elim hq
theorem tj(F:hJ X.prog X.w X.K X.mg X.base CX k f fd ps sp)(hr:eJ k X.A)(hg:Gl X x)(hm:X.mg x=some (.ref f))(hk:PySem.W.keepIn X.K (.ref f)=true)(hb:Binds X.K fd ps ds)(hd:Vals An ds)(hx:Passes CX X E)
 (ha:PA X (e ::es) t) (nR:(x==("__debug__":Str))=false:=by decide) (he:starEach (e ::es) X.env=(false,eval e X.env) ::starEach es X.env:=by rfl) (jE:(backTo pos (starEach es X.env)).any (·.1)=false:=by rfl) :
 PE X (.Call (.Name x p) (e ::es) [] pos) (KA sp An E t):=by
 intro pins s σ H Q I h;refine wpAny_Call_Name_kw (pA I hg hm ?_ nR);refine PySem.W.callWith_K (h₀:=X.base) I.ok.mod.kin hk (di (ha pos pins s σ H _ I h) fun us s1 ⟨vs,H1,I1,r,q⟩=>⟨I1.Dj,?_⟩) he jE
 exact Hx F hr hb hd hx I1 r q
structure Mk (K:W.Frag) (C f:Addr):Prop where
 makes:PySem.W.makesIn K C=true
 init:PySem.W.findIn K (.ref C) "__init__"=some (some (.ref f))
 fn:PySem.W.isFn K (.ref f)=true
 kp:PySem.W.keepIn K (.ref C)=true
end
def PK(X:Cx)(RH:List Keyword)(t:TA):Prop:=
 ∀(pos:Pos) (pins:Wo) (s:Shared) (σ:St) (H:Hp) (Q:List V->Hp->Prop),Inv X pins σ H s->t σ H Q->wpAny (model X.prog X.w) X.A (evalAll ((backToKw pos (keywordEach RH X.env)).map (·.2))) (AP X pins σ Q) X.xe s
section
variable {X:Cx} {CX:Aj} {k:Nat} {f C:Addr} {fd:FuncData} {ps ks:List Str} {sp:Sp} {E:XK} {x m:Str} {p pos apos Ve:Pos} {e o:Expr} {es:List Expr} {RH:List Keyword} {te ta:TE} {t tk:TA} {nm:Option Str}
structure Om (K:W.Frag) (fd:FuncData) (ps ks:List Str) (g:List Value->List Value->List Value) (gV:List V->List V->List V):Prop where
 to:∀(s:Shared) (us ws:List Value),K.In s.heap->(g us ws).length=ps.length->BindsTo s fd ⟨us,ks.zip ws⟩ (ps.zip (g us ws))
 rel:∀{vs:List V} {us:List Value} {zs:List V} {ws:List Value},Vals vs us->Vals zs ws->Vals (gV vs zs) (g us ws)
def Nn(sp:Sp)(gV:List V->List V->List V)(E:XK)(t tk:TA):TE:=fun σ H Q=>t σ H fun vs H1=>tk σ H1 fun zs H2=>sp (gV vs zs) H2 Q E
variable {g:List Value->List Value->List Value} {gV:List V->List V->List V}
end
structure bz (N P:List Str) (sc:Scope):Prop where
 kind:sc.kind= .function
 co:sc.isCoroutine=false
 gen:sc.isGenerator=false
 nd:N.Nodup
 pre:N.take P.length=P
 par:∀x∈P,sc.names.lookup x=some .local\/sc.names.lookup x=some .cell
 nofree:∀y∈sc.names,y.2≠ .free
theorem sF{kindOf:Str->Option NameKind}:∀{binds:List (Str × Value)} {m:Wu},(∀v,(x,v) ∉ binds)->bindL kindOf binds m x=m x
 | [],_,_=>rfl
 | (n,v) ::r,m,h=>by
   unfold bindL;rw[sF fun w hw=>h w (List.mem_cons_of_mem _ hw)]
   split
   .have:x≠n:=by rintro rfl;exact h v List.mem_cons_self
    simp [this]
   .rfl
theorem r_{kindOf:Str->Option NameKind}:∀{binds:List (Str × Value)} {m:Wu},(∀v,(x,v) ∉ binds)->bindC kindOf binds m x=m x
 | [],_,_=>rfl
 | (n,v) ::r,m,h=>by
   unfold bindC;rw[r_ fun w hw=>h w (List.mem_cons_of_mem _ hw)]
   split
   .rfl
   .have:x≠n:=by rintro rfl;exact h v List.mem_cons_self
    simp [this]
theorem sH{kindOf:Str->Option NameKind}{v:Value}:∀{P:List Str} {vs:List Value} {i:Nat} {m:Wu},P.Nodup->P[i]? =some x->vs[i]? =some v->kindOf x=some .local->
 bindL kindOf (P.zip vs) m x=some v
 | [],_,_,_,_,h,_,_=>by simp at h
 | _ ::_,[],_,_,_,_,h,_=>by simp at h
 | p ::P,w ::vs,0,m,nd,h1,h2,hk=>by
   simp at h1 h2;subst h1;subst h2;show bindL kindOf ((p,w) ::P.zip vs) m p=_;unfold bindL;rw[sF fun v hv=>(List.nodup_cons.mp nd).1 (List.of_mem_zip hv).1,if_pos hk]
   simp
 | p ::P,w ::vs,i+1,m,nd,h1,h2,hk=>by
   show bindL kindOf ((p,w) ::P.zip vs) m x=_;unfold bindL;exact sH (i:=i) (List.nodup_cons.mp nd).2 (by simpa using h1) (by simpa using h2) hk
theorem sE{kindOf:Str->Option NameKind}{v:Value}:∀{P:List Str} {vs:List Value} {i:Nat} {m:Wu},P.Nodup->P[i]? =some x->vs[i]? =some v->kindOf x≠some .local->
 bindC kindOf (P.zip vs) m x=some v
 | [],_,_,_,_,h,_,_=>by simp at h
 | _ ::_,[],_,_,_,_,h,_=>by simp at h
 | p ::P,w ::vs,0,m,nd,h1,h2,hk=>by
   simp at h1 h2;subst h1;subst h2;show bindC kindOf ((p,w) ::P.zip vs) m p=_;unfold bindC;rw[r_ fun v hv=>(List.nodup_cons.mp nd).1 (List.of_mem_zip hv).1,if_neg hk]
   simp
 | p ::P,w ::vs,i+1,m,nd,h1,h2,hk=>by
   show bindC kindOf ((p,w) ::P.zip vs) m x=_;unfold bindC;exact sE (i:=i) (List.nodup_cons.mp nd).2 (by simpa using h1) (by simpa using h2) hk
def start(N:List Str)(vs:List V):St:=vs.map some++List.replicate (N.length - vs.length) none
def iG(CX:Aj)(P:Program)(w:World)(K:W.Frag)(mg:Wu)(base:Heap)(N:List Str)(qual:Str)(scope:Scope)(f:Addr)(cd:Value)(A:Around)(outer:List Env)(s:Shared)(H:Hp)(E:XK):Cx where
 prog:=P
 w:=w
 K:=K
 mg:=mg
 base:=base
 A:=A.deeper (envOfC qual scope s.heap.objs.size f cd)
 N:=N
 s₀:=s
 H₀:=H
 env:=envOfC qual scope s.heap.objs.size f cd
 outer:=outer
 stack:=envOfC qual scope s.heap.objs.size f cd ::outer
 ex:=[]
 calm:=true
 fn:=fun _=>true
 pn:=[]
 xe:=fun e s'=>wpAny (model P w) (A.deeper (envOfC qual scope s.heap.objs.size f cd)) (leaving (envOfC qual scope s.heap.objs.size f cd) e) (fun _ Mc=>CX outer H s E e Mc) (fun e' Mc=>CX outer H s E e' Mc) s'
theorem qC{sc:Scope}{n:Nat}(h:sc.names.lookup x=some .cell):∃c,(cellsFrom n sc.names []).lookup x=some c:=by
 have q:=PySem.W.cellsFrom_some sc.names n [] (.inl h);exact Option.isSome_iff_exists.mp q
theorem zo{CX:Aj}{P:Program}{w:World}{K:W.Frag}{mg:Wu}{base:Heap}{N ps:List Str}{qual:Str}{scope:Scope}{f:Addr}{cd:Value}{A:Around}{outer:List Env}{s s1:Shared}{H:Hp}{E:XK}{us:List Value}{vs:List V}
 (S:bz N ps scope) (hd:A.handled=none) (e0:Ea P w K mg base A outer s H) (hl:vs.length=ps.length) (r:Vals vs us)
 (x:InCallC s s.heap.objs.size (bindL (envOfC qual scope s.heap.objs.size f cd).kindOf (ps.zip us) fun _=>none) (cellsFrom (s.heap.objs.size+1) scope.names []) (bindC (envOfC qual scope s.heap.objs.size f cd).kindOf (ps.zip us) fun _=>none) s1) :
 Inv (iG CX P w K mg base N qual scope f cd A outer s H E) [] (start N vs) H s1:=by
 have jE:ps.length<=N.length:=by have:=congrArg List.length S.pre;rw [List.length_take] at this;omega
 obtain⟨h1,tk,rfl,hk⟩:=x.done;have noA:∀b:Addr,b ∉ (iG CX P w K mg base N qual scope f cd A outer s H E).ex:=fun b z=>absurd (show b∈([]:List Addr) from z) (by simp)
 refine⟨⟨e0.mod,S.kind,rfl,rfl,Nat.le_refl _,fun y z c h1 h2=>?_,fun y hy=>?_,fun y c _ h=>?_,fun _=>hd,Around.frames_deeper e0.frames, .inr ⟨rfl,rfl⟩,fun b z=>absurd z (noA b),e0.bs,e0.bsz,fun b _ _=>noA b,fun b z=>absurd z (noA b),e0.n9,e0.frf⟩,
  rfl,e0.bare,Un.kept hk,⟨_,x.toInCall.ns,fun i y v h1 h2 h3=>?_⟩,fun y c h=>⟨_,x.cell y c h⟩,e0.hok.fresh (Nat.le_refl _),fun y c h=>?_,fun p hp=>absurd (show p∈([]:Wo) from hp) (by simp),e0.hok.kept hk,?_⟩
 .exact name_of_addr x.apart (PySem.mem_of_lookup h1) (PySem.mem_of_lookup h2)
 .have hy:scope.names.lookup y=some .cell\/scope.names.lookup y=some .free:=hy;rcases hy with hy | hy
  .exact qC hy
  .exact absurd rfl (S.nofree _ (PySem.mem_of_lookup hy))
 .exact Nat.le_of_lt (x.above y c (PySem.mem_of_lookup h))
 .have hi:i < vs.length:=by
   unfold start at h2;by_cases hi:i < vs.length
   .exact hi
   .rw [List.getElem?_append_right (by simpa using hi)] at h2
    rw[List.getElem?_replicate] at h2;split at h2 <;> cases h2
  have ha:vs[i]? =some v:=by
   unfold start at h2;rw[List.getElem?_append_left (by simpa using hi),List.getElem?_map] at h2
   cases e:vs[i]? with
   | none=>rw [e] at h2;cases h2
   | some a=>rw [e] at h2;cases h2;rfl
  obtain⟨u,hu,rv⟩:=r.get ha;have hp:ps[i]? =some y:=by
   rw[<-S.pre,List.getElem?_take_of_lt (by omega)];exact h1
  have ndP:ps.Nodup:=by rw[<-S.pre];exact S.nd.sublist (List.take_sublist _ _)
  refine⟨u,rv,?_⟩;rcases S.par y (List.mem_of_getElem? hp) with k | k
  .exact .inl ⟨k,sH ndP hp hu k⟩
  .obtain⟨c,e⟩:=qC (n:=s.heap.objs.size+1) k;refine .inr ⟨.inl k,c,e,?_⟩;have q:=x.cell y c e;rw[sE ndP hp hu (by show scope.names.lookup y≠_;rw [k];decide)] at q
   exact q
 .exact e0.hok.fresh (Nat.le_of_lt (x.above y c (PySem.mem_of_lookup h)))
 .unfold start;show _=N.length;rw[List.length_append,List.length_map,List.length_replicate];omega
theorem F8{CX:Aj}{P:Program}{w:World}{K:W.Frag}{mg:Wu}{base:Heap}{k:Nat}{f:Addr}{name qual:Str}{params:Arguments}{body:List Stmt}{scope:Scope}{dV kV doc pm d8 ct oc:Value}{an od:Option Addr}
 {CS:Array (Option Value)} {N ps:List Str} {sp:Sp} (lk:K.lookup f=some ⟨oc,od, .func (PySem.W.fnOf name qual params body scope dV kV doc pm an d8 ct),CS⟩) (px:PySem.W.codeIn K d8 qual=true) (S:bz N ps scope)
 (len:∀vs H Q E,sp vs H Q E->vs.length=ps.length)
 (dS:∀(A:Around) (outer:List Env) (s:Shared) (H:Hp) (vs:List V) (Q:VK) (E:XK),eJ k (A.deeper (envOfC qual scope s.heap.objs.size f d8))->sp vs H Q E->
   ∃t,sZ (iG CX P w K mg base N qual scope f d8 A outer s H E) body t/\t {nx:=fun _ H'=>Q .cI H',rt:=Q} (start N vs) H) :
 hJ P w K mg base CX (k+1) f (PySem.W.fnOf name qual params body scope dV kV doc pm an d8 ct) ps sp:=by
 refine⟨len,fun A outer s H args us vs Q E hr e0 hb r Dm=>?_⟩
 have hl:=len _ _ _ _ Dm;have KX:K.In s.heap:=e0.mod.kin.keeps fun b o e=>(e0.bs b o e).1
 have lim:s.heap.NoLimit:=e0.mod.nolimit.keeps fun b o e=>(e0.bs b o e).1
 have hkind:∀y∈ps.zip us,scope.names.lookup y.1=some .local\/(scope.names.lookup y.1=some .cell/\((cellsFrom (s.heap.objs.size+1) scope.names []).lookup y.1).isSome=true):=fun⟨n,v⟩ hy=>by
  rcases S.par n (List.of_mem_zip hy).1 with q | q
  .exact .inl q
  .exact .inr ⟨q,PySem.W.cellsFrom_some _ _ _ (.inl q)⟩
 refine codeAny_call_function hr.depth (KX _ _ lk) rfl S.co S.gen rfl (PySem.W.codeRec_of KX px) (hb _ _ _ _ ?_);refine wpAny_newFunctionEnv_cells S.kind hkind fun env he s1 x=>?_
 subst he;refine⟨lim.keeps x.toInCall.keep,codeAny_func ?_⟩;obtain⟨t,ht,hq⟩:=dS A outer s H vs Q E (hr.deeper _) Dm;have I:Inv (iG CX P w K mg base N qual scope f d8 A outer s H E) [] (start N vs) H s1:=zo S hr.hd e0 hl r x;refine wpAny_mono (ht [] s1 (start N vs) H _ I hq) (fun fl s' hs=>?_) fun e s' hs=>hs
 have fin:∀{b8:St} {H':Hp} {v:V} {u:Value},Inv (iG CX P w K mg base N qual scope f d8 A outer s H E) [] b8 H' s'->RelV v u->Q v H'->CE outer P w H s Q u s':=
  fun {b8 H' v u} J rv q=>⟨v,H',J.os,J.bare,J.base,J.hok,rv,q⟩
 cases fl with
 | ret u=>
   obtain⟨v,b8,H',J,rv,q⟩:=hs;exact fin J rv q
 | next=>
   obtain⟨b8,H',J,q⟩:=hs;exact fin (v:=V.cI) (u:=Value.none) J rfl q
 | brk=>
   obtain⟨_,_,_,q⟩:=hs;exact False.elim q
 | cont=>
   obtain⟨_,_,_,q⟩:=hs;exact False.elim q
section
variable {X:Cx} {x:Str} {p pos:Pos} {e:Expr} {es:List Expr} {t:TA} {id T:String} {r:List V->Hp->VK->Prop}
def PL(r:List V->Hp->VK->Prop)(t:TA):TE:=fun σ H Q=>t σ H fun vs H1=>r vs H1 Q
theorem vx(hc:jC X (.builtin id) r)(hg:Gl X x)(hm:X.mg x=none)(hv:bootBuiltins x=some (.builtin id))(ha:PA X (e ::es) t)(hn:x≠"__name__":=by decide)(nR:(x==("__debug__":Str))=false:=by decide)
 (he:starEach (e ::es) X.env=(false,eval e X.env) ::starEach es X.env:=by rfl) (jE:(backTo pos (starEach es X.env)).any (·.1)=false:=by rfl):PE X (.Call (.Name x p) (e ::es) [] pos) (PL r t):=by
 intro pins s σ H Q I h;refine wpAny_Call_Name_kw (gA I hg hm hv ?_ hn nR);exact PyProof.Rows.callWith_builtin1 (di (ha pos pins s σ H _ I h) fun us s1 ⟨vs,H1,I1,r1,q1⟩=>hc pins s1 σ H1 vs us Q I1 r1 q1) he jE
theorem zG(hc:jC X (.type T) r)(hg:Gl X x)(hm:X.mg x=none)(hv:bootBuiltins x=some (.type T))(ha:PA X (e ::es) t)(hn:x≠"__name__":=by decide)(nR:(x==("__debug__":Str))=false:=by decide)
 (he:starEach (e ::es) X.env=(false,eval e X.env) ::starEach es X.env:=by rfl) (jE:(backTo pos (starEach es X.env)).any (·.1)=false:=by rfl):PE X (.Call (.Name x p) (e ::es) [] pos) (PL r t):=by
 intro pins s σ H Q I h;refine wpAny_Call_Name_kw (gA I hg hm hv ?_ hn nR);exact PyProof.Rows.callWith_type1 (di (ha pos pins s σ H _ I h) fun us s1 ⟨vs,H1,I1,r1,q1⟩=>hc pins s1 σ H1 vs us Q I1 r1 q1) he jE
end
section
variable {κ:Type} [DecidableEq κ]
def iE(aC:List (κ × V))(k:κ):Option V:=(aC.find? fun kv=>decide (kv.1=k)).map (·.2)
def putK(aC:List (κ × V))(k:κ)(v:V):List (κ × V):=
 if(aC.any fun kv=>decide (kv.1=k))=true then aC.map (fun kv=>if kv.1=k then(kv.1,v) else kv) else aC++[(k,v)]
def A7(aC:List (κ × V))(k:κ):List (κ × V):=aC.filter fun kv=>decide (kv.1≠k)
theorem pX{p:κ × V}{r:List (κ × V)}{k:κ}(e:p.1=k):iE (p ::r) k=some p.2:=by simp [iE,List.find?_cons,e]
theorem qG{p:κ × V}{r:List (κ × V)}{k:κ}(e:¬p.1=k):iE (p ::r) k=iE r k:=by simp [iE,List.find?_cons,e]
theorem uR(k:κ):∀aC:List (κ × V),(aC.any fun kv=>decide (kv.1=k))=(iE aC k).isSome
 | []=>rfl
 | p ::r=>by
   rw[List.any_cons];by_cases e:p.1=k
   .simp only[pX e,decide_eq_true e,Bool.true_or,Option.isSome_some]
   .rw [qG e,decide_eq_false e,Bool.false_or];exact uR k r
theorem lL(aC:List (κ × V))(k:κ)(v:V):(putK aC k v).length<=aC.length+1:=by
 unfold putK;split
 .rw [List.length_map];omega
 .rw [List.length_append,List.length_cons,List.length_nil];omega
theorem oY.jA{o:Option V}{u:Option Value}(r:oY o u):o.isSome=u.isSome:=by
 cases o with
 | none=>cases u with
   | none=>rfl
   | some _=>exact(show False from r).elim
 | some _=>cases u with
   | none=>exact(show False from r).elim
   | some _=>rfl
theorem oY.getD{o:Option V}{u:Option Value}{d:V}{d':Value}(r:oY o u)(rd:RelV d d'):RelV (o.getD d) (u.getD d'):=by
 cases o with
 | none=>cases u with
   | none=>exact rd
   | some _=>exact(show False from r).elim
 | some _=>cases u with
   | none=>exact(show False from r).elim
   | some _=>exact r
theorem KV.val{aC:List (κ × V)}{vs:List (κ × Value)}(r:KV aC vs)(k:κ):oY (iE aC k) (valueAt vs k):=by
 unfold KV at r
 induction r with
 | nil=>exact True.intro
 | @cons p q ps qs h t ih=>
   obtain⟨h1,h2⟩:=h;by_cases e:p.1=k
   .have e':q.1=k:=h1.symm.trans e;have b:valueAt (q ::qs) k=some q.2:=by simp [valueAt,List.find?_cons,e']
    rw[pX e,b];exact h2
   .have e':¬q.1=k:=fun z=>e (h1.trans z)
    have b:valueAt (q ::qs) k=valueAt qs k:=by simp [valueAt,List.find?_cons,e']
    rw[qG e,b];exact ih
theorem KV.any{aC:List (κ × V)}{vs:List (κ × Value)}(r:KV aC vs)(k:κ):(aC.any fun kv=>decide (kv.1=k))=vs.any fun kv=>decide (kv.1=k):=by
 unfold KV at r
 induction r with
 | nil=>rfl
 | cons h t ih=>rw [List.any_cons,List.any_cons,ih,h.1]
theorem KV.G8{aC:List (κ × V)}{vs:List (κ × Value)}(r:KV aC vs)(k:κ){y:V}{u:Value}(ry:RelV y u) :
 KV (aC.map fun kv=>if kv.1=k then(kv.1,y) else kv) (vs.map fun kv=>if kv.1=k then(kv.1,u) else kv):=by
 unfold KV at r ⊢
 induction r with
 | nil=>exact .nil
 | @cons p q ps qs h t ih=>
   rw[List.map_cons,List.map_cons];refine .cons ?_ ih;obtain⟨h1,h2⟩:=h;by_cases e:p.1=k
   .rw [if_pos e,if_pos (h1.symm.trans e)];exact⟨h1,ry⟩
   .rw [if_neg e,if_neg (fun z=>e (h1.trans z))];exact⟨h1,h2⟩
theorem KV.put{aC:List (κ × V)}{vs:List (κ × Value)}(r:KV aC vs)(k:κ){y:V}{u:Value}(ry:RelV y u):KV (putK aC k y) (stored vs k u):=by
 unfold putK stored;rw[r.any k];by_cases e:(vs.any fun kv=>decide (kv.1=k))=true
 .rw [if_pos e,if_pos e];exact r.G8 k ry
 .rw [if_neg e,if_neg e];exact Paired.snoc r ⟨rfl,ry⟩
theorem KV.length{aC:List (κ × V)}{vs:List (κ × Value)}(r:KV aC vs):aC.length=vs.length:=Paired.length r
end
theorem pU{k:Key}{u:Value}(r:RelV (kV k) u):(cL P w).is k u=true:=by
 cases k with
 | inl i=>obtain⟨t,e⟩:=(show ∃t,u=Value.int i t from r);subst e;exact vR P w i t
 | inr x=>obtain⟨t,e⟩:=(show ∃t,u=Value.str x t from r);subst e;exact vh P w x t
theorem sJ:∀{ks:List Key} {us:List Value},Vals (ks.map kV) us->ItemsAre (cL P w) ks us
 | [],_,r=>by rw[List.map_nil] at r;cases r;exact .nil
 | k ::ks,_,r=>by
   rw[List.map_cons] at r;cases r with
   | cons h t=>exact .cons (pU h) (sJ t)
abbrev KT(H:Hp):List (List Key × V)->List (List Key × Addr × Value)->Prop:=Paired fun p q=>p.1=q.1/\H q.2.1=some (.tup (p.1.map kV))/\RelV p.2 q.2.2
theorem KT.val{aC:List (List Key × V)}{xs:List (List Key × Addr × Value)}(r:KT H aC xs)(k:List Key):oY (iE aC k) ((atKey xs k).map (·.2)):=by
 induction r with
 | nil=>exact True.intro
 | @cons p q ps qs h t ih=>
   obtain⟨h1,_,h2⟩:=h;by_cases e:p.1=k
   .have e':q.1=k:=h1.symm.trans e;have b:atKey (q ::qs) k=some q.2:=by simp [atKey,List.find?_cons,e']
    rw[pX e,b];exact h2
   .have e':¬q.1=k:=fun z=>e (h1.trans z)
    have b:atKey (q ::qs) k=atKey qs k:=by simp [atKey,List.find?_cons,e']
    rw[qG e,b];exact ih
theorem KT.G8{aC:List (List Key × V)}{xs:List (List Key × Addr × Value)}(r:KT H aC xs)(k:List Key){y:V}{u:Value}(ry:RelV y u) :
 KT H (aC.map fun kv=>if kv.1=k then(kv.1,y) else kv) (xs.map (putAt k u)):=by
 induction r with
 | nil=>exact .nil
 | @cons p q ps qs h t ih=>
   rw[List.map_cons,List.map_cons];refine .cons ?_ ih;obtain⟨h1,h2,h3⟩:=h;unfold putAt;by_cases e:p.1=k
   .rw [if_pos e,if_pos (h1.symm.trans e)];exact⟨h1,h2,ry⟩
   .rw [if_neg e,if_neg (fun z=>e (h1.trans z))];exact⟨h1,h2,h3⟩
theorem KT.put{H:Hp}{aC:List (List Key × V)}{xs:List (List Key × Addr × Value)}(r:KT H aC xs)(k:List Key){b:Addr}{y:V}{u:Value}(hb:H b=some (.tup (k.map kV)))(ry:RelV y u) :
 KT H (putK aC k y) (storedH xs k b u):=by
 have e:(aC.any fun kv=>decide (kv.1=k))=(atKey xs k).isSome:=by
  rw[uR,(r.val k).jA,Option.isSome_map]
 unfold putK storedH;rw[e];by_cases q:(atKey xs k).isSome=true
 .rw [if_pos q,if_pos q];exact r.G8 k ry
 .rw [if_neg q,if_neg q];exact Paired.snoc r ⟨rfl,hb,ry⟩
theorem KT.keeps{H H':Hp}{aC:List (List Key × V)}{xs:List (List Key × Addr × Value)}(r:KT H aC xs)(ht:∀b ys,H b=some (.tup ys)->H' b=some (.tup ys)):KT H' aC xs:=
 Paired.I_ r fun _ _ z=>⟨z.1,ht _ _ z.2.1,z.2.2⟩
section
variable {P:Program} {w:World} {H:Hp} {h:Heap} {a:Addr}
theorem Gs{u:HO}(ok:kU P w H h)(e:Rd H a u):de P w H h a u:=e.ok ok
theorem pQ{aC:List (Key × V)}(ok:kU P w H h)(e:Rd H a (.dK aC)):aC.length<=sizeLine/\(a==sysModules)=false/\∃vs,KV aC vs/\h.DictOf (cL P w) a vs:=
 show de P w H h a (.dK aC) from Gs ok e
theorem F4{aC:List (Key × V)}(ok:kU P w H h)(e:H a=some (.dK aC)):aC.length<=sizeLine/\(a==sysModules)=false/\∃vs,KV aC vs/\h.DictOf (cL P w) a vs:=pQ ok (.inl e)
theorem n_{ks:List Key}(ok:kU P w H h)(e:H a=some (.tup (ks.map kV))):(tupleKind (cL P w)).is h ks a:=by
 obtain⟨_,its,r,o,h1,h2,n,h3⟩:=(show de P w H h a (.tup (ks.map kV)) from ok a _ e)
 exact⟨o,its.toArray,n,h1,h2,h3,by simpa using sJ r⟩
theorem rf{aC:List (List Key × V)}(ok:kU P w H h)(e:Rd H a (.dT aC)):aC.length<=sizeLine/\(a==sysModules)=false/\
 ∃xs,KT H aC xs/\h.DictOfH (tupleKind (cL P w)) a xs:=by
 obtain⟨z,y,xs,r,o,es,ep,h1,h2,h3,h4,h5⟩:=(show de P w H h a (.dT aC) from Gs ok e)
 refine⟨z,y,xs,r,o,es,ep,h1,h2,h3,h4,fun x hx=>?_,h5⟩
 have all:∀{l:List (List Key × V)} {m:List (List Key × Addr × Value)},KT H l m->∀x∈m,(tupleKind (cL P w)).is h x.1 x.2.1:=by
  intro l m q
  induction q with
  | nil=>intro x hx;exact nomatch hx
  | @cons p q ps qs hq t ih=>
    intro x hx;rcases List.mem_cons.mp hx with e | hx
    .subst e;exact n_ ok (by rw[<-hq.1];exact hq.2.1)
    .exact ih x hx
 exact all r x hx
theorem Kk{aC:List (List Key × V)}(ok:kU P w H h)(e:H a=some (.dT aC)):aC.length<=sizeLine/\(a==sysModules)=false/\
 ∃xs,KT H aC xs/\h.DictOfH (tupleKind (cL P w)) a xs:=rf ok (.inl e)
end
def lx(H:Hp)(a:Addr)(y:V)(r:Option V):Prop:=
 (∃aC k,Rd H a (.dK aC)/\y=kV k/\r=iE aC k)\/∃aC k b,Rd H a (.dT aC)/\y= .ref b/\H b=some (.tup (k.map kV))/\r=iE aC k
def zD(H:Hp)(a:Addr)(y v:V)(H':Hp):Prop:=
 (∃aC k,H a=some (.dK aC)/\y=kV k/\aC.length < sizeLine/\H'=upd H a (.dK (putK aC k v)))\/
 ∃aC k b,H a=some (.dT aC)/\y= .ref b/\H b=some (.tup (k.map kV))/\aC.length < sizeLine/\H'=upd H a (.dT (putK aC k v))
theorem lx.k{H:Hp}{a:Addr}{aC:List (Key × V)}{k:Key}(e:H a=some (.dK aC)):lx H a (kV k) (iE aC k):= .inl ⟨aC,k, .inl e,rfl,rfl⟩
theorem zD.k{H:Hp}{a:Addr}{aC:List (Key × V)}{k:Key}{v:V}(e:H a=some (.dK aC))(hl:aC.length < sizeLine):zD H a (kV k) v (upd H a (.dK (putK aC k v))):= .inl ⟨aC,k,e,rfl,hl,rfl⟩
section
variable {X:Cx} {pins:Wo} {σ:St} {H:Hp} {s:Shared} {a:Addr} {y v:V} {u r:Value} {o:Option V} {A:Around} {E:Wq}
theorem Inv.big(I:Inv X pins σ H s):sysModules < s.heap.objs.size:=by
 have h:mainGlobals < s.heap.objs.size:=(I.mod.glob.keeps I.bk).lt;exact Nat.lt_trans (by decide) h
theorem Aa{Q:Wq}(hu:A.units+1 < cLine)(I:Inv X pins σ H s)(g:lx H a y (some v))(ry:RelV y u)(h:∀w' s',Inv X pins σ H s'->RelV v w'->Q w' s') :
 wpAny (model X.prog X.w) A (getItem (.ref a) u) Q E s:=by
 rcases g with⟨aC,k,e,ey,l⟩ | ⟨aC,k,b,e,ey,eb,l⟩
 .subst ey;obtain⟨z,hd,vs,rel,dd⟩:=pQ I.hok e;obtain⟨w',hw,xM⟩:=oY.some_of (v:=v) (o:=valueAt vs k) (by rw[l];exact rel.val k)
  exact wpAny_getItem_of (pU ry) dd.mapOf hw (h w' _ (I.tok _) xM)
 .subst ey;cases(show u=Value.ref b from ry)
  obtain⟨z,hd,xs,rel,dd⟩:=rf I.hok e;obtain⟨w',hw,xM⟩:=oY.some_of (v:=v) (o:=(atKey xs k).map (·.2)) (by rw[l];exact rel.val k)
  obtain⟨p,hp,Jp⟩:=Option.map_eq_some_iff.mp hw;refine wpAny_getItem_heap (tupleKind_room_in1 hu) (n_ I.hok eb) dd hp ?_;rw[Jp];exact h w' _ (I.tok _) xM
theorem Nj{Q:Wq}(hu:A.units+1 < cLine)(I:Inv X pins σ H s)(g:lx H a y o)(ry:RelV y u)(h:∀s',Inv X pins σ H s'->Q (.bool o.isSome) s') :
 wpAny (model X.prog X.w) A (compareOp .In u (.ref a)) Q E s:=by
 rcases g with⟨aC,k,e,ey,l⟩ | ⟨aC,k,b,e,ey,eb,l⟩
 .subst ey;obtain⟨z,hd,vs,rel,dd⟩:=pQ I.hok e;refine wpAny_in_of (pU ry) hd dd.mapOf ?_;rw[<-(rel.val k).jA,<-l];exact h _ (I.tok _)
 .subst ey;cases(show u=Value.ref b from ry)
  obtain⟨z,hd,xs,rel,dd⟩:=rf I.hok e;refine wpAny_in_heap (tupleKind_room_in1 hu) (n_ I.hok eb) hd dd ?_;have q:=(rel.val k).jA;rw[Option.isSome_map] at q;rw[<-q,<-l];exact h _ (I.tok _)
theorem DH{Q:Wq}(hu:A.units+1 < cLine)(I:Inv X pins σ H s)(g:lx H a y o)(ry:RelV y u)(h:∀s',Inv X pins σ H s'->Q (.bool (!o.isSome)) s') :
 wpAny (model X.prog X.w) A (compareOp .NotIn u (.ref a)) Q E s:=by
 rcases g with⟨aC,k,e,ey,l⟩ | ⟨aC,k,b,e,ey,eb,l⟩
 .subst ey;obtain⟨z,hd,vs,rel,dd⟩:=pQ I.hok e;refine wpAny_notIn_of (pU ry) hd dd.mapOf ?_;rw[<-(rel.val k).jA,<-l];exact h _ (I.tok _)
 .subst ey;cases(show u=Value.ref b from ry)
  obtain⟨z,hd,xs,rel,dd⟩:=rf I.hok e;refine wpAny_notIn_heap (tupleKind_room_in1 hu) (n_ I.hok eb) hd dd ?_;have q:=(rel.val k).jA;rw[Option.isSome_map] at q;rw[<-q,<-l];exact h _ (I.tok _)
theorem tq{h':Heap}{t':Nat}{ob:HO}(I:Inv X pins σ H s)(mu:Kj (H a))(hs:Heap.SameBut a s.heap h')(he:∃q,h'.get? a=some q)(new:de X.prog X.w (upd H a ob) h' a ob) :
 Inv X pins σ (upd H a ob) {s with heap:=h',toks:=t'}:=
 I.write (x:=a) (e:=a) mu (.inl rfl) (fun b q hb z=>(hs.2 b hb).trans z) he new
theorem AY{H':Hp}{h':Heap}{aC:List (Key × V)}{vs:List (Key × Value)}(z:aC.length<=sizeLine)(hd:(a==sysModules)=false)(rel:KV aC vs)(dd:h'.DictOf (cL P w) a vs) :
 de P w H' h' a (.dK aC):=⟨z,hd,vs,rel,dd⟩
theorem zx{Q:Unit->Shared->Prop}(hu:A.units+1 < cLine)(I:Inv X pins σ H s)(g:zD H a y v H')(ry:RelV y u)(rv:RelV v r)(h:∀s',Inv X pins σ H' s'->Q () s') :
 wpAny (model X.prog X.w) A (setItem (.ref a) u r) Q E s:=by
 rcases g with⟨aC,k,e,ey,l,eH⟩ | ⟨aC,k,b,e,ey,eb,l,eH⟩
 .subst ey eH;obtain⟨z,hd,vs,rel,dd⟩:=F4 I.hok e;have hz:vs.length<=sizeLine:=by rw[<-rel.length];exact z
  have hl:(putK aC k v).length<=sizeLine:=by have:=lL aC k v;omega
  refine wpAny_setItem_pairs (hsz:=hz) (pU ry) dd fun h' Jn hs=>h _ ?_
  have he:∃q,h'.get? a=some q:=let⟨q,_,_,hq,_⟩:=Jn;⟨q,hq⟩
  exact tq I (by rw[e];exact True.intro) hs he (AY hl hd (rel.put k rv) Jn)
 .subst ey eH;cases(show u=Value.ref b from ry)
  obtain⟨z,hd,xs,rel,dd⟩:=Kk I.hok e;have hz:xs.length<=sizeLine:=by rw[<-Paired.length rel];exact z
  have hl:(putK aC k v).length<=sizeLine:=by have:=lL aC k v;omega
  refine wpAny_setItem_heap (hsz:=hz) (tupleKind_room_in1 hu) (n_ I.hok eb) dd fun h' Jn hs=>h _ ?_
  obtain⟨q,es,ep,hq,h2,h3,h4,_,h5⟩:=Jn;refine tq I (by rw[e];exact True.intro) hs ⟨q,hq⟩ ⟨hl,hd,_,(rel.put k eb rv).keeps fun c ys ec=>?_,q,es,ep,hq,h2,h3,h4,h5⟩
  rw[bf (KS ec e (fun z=>nomatch z))]
  exact ec
end
section
variable {X:Cx} {pins:Wo} {σ:St} {H:Hp} {s:Shared} {a:Addr} {aC:List (Key × V)} {k:Key} {u:Value} {A:Around} {E:Wq}
end
def Hg(i:Expr):Prop:=∀ov iv,subscripted i false ov iv=operate [ov,iv] (getItem ov iv)
theorem Fc{prog:Program}{w:World}{A:Around}{E:Wq}{s:Shared}{env:Env}{value slice:Expr}{pos:Pos}{T id:String}{Q:Wq}
 (hl:typeLookup (.type T) "__getitem__"=pure (some (.builtin id))) (hs:Hg slice)
 (h:wpAny (model prog w) A (eval value env) (fun o s₁=>wpAny (model prog w) A (eval slice env) (fun i rY=>rY.TypeIs o T/\wpAny (model prog w) A (getItem o i) Q E rY) E s₁) E s) :
 wpAny (model prog w) A (eval (.Subscript value slice pos) env) Q E s:=by
 refine Subscript_ (wpAny_mono h (fun o s₁ kO=>wpAny_mono kO (fun i rY ux=>?_) fun _ _ x=>x) fun _ _ x=>x)
 obtain⟨hT,ux⟩:=ux;unfold subscriptTail;refine wpAny_bind ?_;rw[getitemInPython_of_ne hT.not_modules];refine wpAny_bind (wpAny_specialOf hT hl ?_);have fin:wpAny (model prog w) A (subscripted slice false o i) (fun r FI=>wpAny (model prog w) A (letTemporaryGo value o r >>=fun _=>pure r) Q E FI) E rY:=by
  rw[hs o i];exact wpAny_operating (wpAny_mono ux (fun r FI Pm=>wpAny_bind (wpAny_letTemporaryGo (wpAny_pure Pm))) fun _ _ x=>x)
 first
  | exact wpAny_pure (wpAny_bind fin)
  | exact wpAny_bind (wpAny_pure (wpAny_bind fin))
  | exact wpAny_bind fin
theorem vB{X:Cx}{pins:Wo}{s:Shared}{a:Addr}{y:V}{o:Option V}(I:Inv X pins σ H s)(g:lx H a y o):s.TypeIs (.ref a) "dict":=by
 rcases g with⟨aC,k,e,_,_⟩ | ⟨aC,k,b,e,_,_,_⟩
 .obtain⟨_,_,vs,_,dd⟩:=pQ I.hok e;exact dd.typeIs
 .obtain⟨_,_,xs,_,dd⟩:=rf I.hok e;exact dd.typeIs
def K4(td ty:TE):TE:=fun σ H Q=>td σ H fun x H1=>ty σ H1 fun y H2=>∃a v,x= .ref a/\lx H2 a y (some v)/\Q v H2
def R4(ty td:TE):TE:=fun σ H Q=>ty σ H fun y H1=>td σ H1 fun x H2=>∃a o,x= .ref a/\lx H2 a y o/\Q (.bl o.isSome) H2
def Mr(ty td:TE):TE:=fun σ H Q=>ty σ H fun y H1=>td σ H1 fun x H2=>∃a o,x= .ref a/\lx H2 a y o/\Q (.bl (!o.isSome)) H2
def Kn(td ty tv:TE):TS:=fun D σ H=>tv σ H fun v H1=>td σ H1 fun x H2=>ty σ H2 fun y H3=>∃a H4,x= .ref a/\zD H3 a y v H4/\D.nx σ H4
def QY(td ty tv:TE)(rd:V->V->Hp->VK->Prop):TS:=fun D σ H=>td σ H fun x H1=>ty σ H1 fun y H2=>∃a v,x= .ref a/\lx H2 a y (some v)/\
 tv σ H2 fun y2 H3=>rd v y2 H3 fun z H4=>∃H5,zD H4 a y z H5/\D.nx σ H5
def PR(td ty:TE):TS:=fun D σ H=>td σ H fun x H1=>ty σ H1 fun y H2=>∃a aC k,x= .ref a/\H2 a=some (.dK aC)/\y=kV k/\(iE aC k).isSome=true/\D.nx σ (upd H2 a (.dK (A7 aC k)))
section
variable {X:Cx} {o i e value:Expr} {pos pos' CP:Pos} {td ty tv:TE}
theorem Fm(hu:X.A.units+1 < cLine)(ho:PE X o td)(hi:PE X i ty)(hs:Hg i):PE X (.Subscript o i pos) (K4 td ty):=by
 intro pins s σ H Q I h;refine Fc PySem.F.slot_dict_getitem.lookup hs (di (ho pins s σ H _ I h) fun u s1 ⟨x,H1,I1,rx,q1⟩=>di (hi pins s1 σ H1 _ I1 q1) fun iv s2 ⟨y,H2,I2,ry,a,v,ex,g,q2⟩=>?_)
 subst ex;obtain rfl:u=Value.ref a:=rx;exact⟨vB I2 g,Aa hu I2 g ry fun w' s3 I3 xM=>⟨v,H2,I3,xM,q2⟩⟩
theorem E4(hu:X.A.units+1 < cLine)(ho:PE X o td)(hi:PE X i ty)(hv:PE X value tv)(hs:swapsWith value (some (.Subscript o i pos')) pos.line X.env=pure false) :
 PS X (.Assign [.Subscript o i pos'] value pos) (Kn td ty tv):=by
 intro pins s σ H D I h;refine wpAny_Assign_Subscript (di (hv pins s σ H _ I h) fun r s1 ⟨v,H1,I1,rv,q1⟩=>di (ho pins s1 σ H1 _ I1 q1) fun u s2 ⟨x,H2,I2,rx,q2⟩=>di (hi pins s2 σ H2 _ I2 q2) fun iv s3 ⟨y,H3,I3,ry,a,H4,ex,g,q3⟩=>?_) hs
 subst ex;obtain rfl:u=Value.ref a:=rx;exact zx hu I3 g ry rv fun s4 I4=>⟨σ,H4,I4,q3⟩
end
theorem vP(h:Heap)(hb:sysModules < h.objs.size):de P w H (h.push {cls:= .type "dict",data:= .dict #[]}) h.objs.size (.dK []):=
 ⟨Nat.zero_le _,beq_eq_false_iff_ne.mpr (Ne.symm (Nat.ne_of_lt hb)),[], .nil,Heap.DictOf.new h⟩
def G5:TE:=fun _ H Q=>∀p,H p=none->Q (.ref p) (upd H p (.dK []))
def N5:TE:=fun _ H Q=>∀p,H p=none->Q (.ref p) (upd H p (.dT []))
section
variable {X:Cx} {pos:Pos}
theorem Br:PE X (.Dict [] [] pos) G5:=fun pins s σ H Q I h=>
 wpAny_Dict_empty ⟨.ref s.heap.objs.size,_,I.laid (a:=s.heap.objs.size) (o:= .dK []) (t':=s.toks) (fun _ _ q=>Heap.get?_push_of_some _ q) (Nat.le_refl _) (vP s.heap I.big),rfl,h _ (I.hok.fresh (Nat.le_refl _))⟩
end
def oz:List (TE × TE)->St->Hp->(List (V × V)->Hp->Prop)->Prop
 | [],_,H,Q=>Q [] H
 | (tk,tv) ::r,σ,H,Q=>tk σ H fun x H1=>tv σ H1 fun y H2=>oz r σ H2 fun ps H3=>Q ((x,y) ::ps) H3
abbrev VV:List (V × V)->List (Value × Value)->Prop:=Paired fun p q=>RelV p.1 q.1/\RelV p.2 q.2
def GG(X:Cx)(pos:Pos)(keys:List (Option Expr))(values:List Expr)(sU:List (TE × TE)):Prop:=
 ∀(pins:Wo) (s:Shared) (σ:St) (H:Hp) (Q:List (V × V)->Hp->Prop),Inv X pins σ H s->oz sU σ H Q->
  wpAny (model X.prog X.w) X.A (evalPairs (pairTrees keys values X.env pos)) (fun vs s'=>∃ps H',Inv X pins σ H' s'/\VV ps vs/\Q ps H') X.xe s
theorem xX{X:Cx}:GG X pos [] [] []:=fun pins s σ H Q I h=>pairTrees_nil_walk ⟨[],H,I, .nil,h⟩
theorem nD{X:Cx}{ks:List (Option Expr)}{tk tv:TE}{sU:List (TE × TE)}(hk:PE X k tk)(hv:PE X v tv)(hr:GG X pos ks vs sU) :
 GG X pos (some k ::ks) (v ::vs) ((tk,tv) ::sU):=fun pins s σ H Q I h=>
 pairTrees_cons_walk (di (hk pins s σ H _ I h) fun u s1 ⟨x,H1,I1,rx,q1⟩=>di (hv pins s1 σ H1 _ I1 q1) fun w2 s2 ⟨y,H2,I2,ry,q2⟩=>
  di (hr pins s2 σ H2 _ I2 q2) fun ws s3 ⟨ps,H3,I3,rel,q3⟩=>⟨(x,y) ::ps,H3,I3, .cons ⟨rx,ry⟩ rel,q3⟩)
def jR(aC more:List (Key × V)):List (Key × V):=more.foldl (fun acc kv=>putK acc kv.1 kv.2) aC
theorem KV.merge:∀{more:List (Key × V)} {rs:List (Key × Value)} {aC:List (Key × V)} {vs:List (Key × Value)},KV more rs->KV aC vs->KV (jR aC more) (merged vs rs):=by
 intro more rs aC vs r;unfold KV at r
 induction r generalizing aC vs with
 | nil=>intro q;exact q
 | @cons p q ps qs h t ih=>
   intro r0;have e:KV (putK aC p.1 p.2) (stored vs q.1 q.2):=by
    have:=r0.put p.1 h.2;rw[<-h.1];exact this
   exact ih e
theorem mr:∀(more aC:List (Key × V)),(jR aC more).length<=aC.length+more.length
 | [],aC=>by show aC.length<=aC.length+0;omega
 | p ::r,aC=>by
   have h1:=mr r (putK aC p.1 p.2);have h2:=lL aC p.1 p.2;show(jR (putK aC p.1 p.2) r).length<=_;rw[List.length_cons];omega
theorem qT:∀{aC:List (Key × V)} {ws:List (Value × Value)},VV (aC.map fun kv=>(kV kv.1,kv.2)) ws->∃rs,Carries (cL P w) ws rs/\KV aC rs
 | [],_,r=>by rw[List.map_nil] at r;cases r;exact⟨[],True.intro, .nil⟩
 | p ::aC,_,r=>by
   rw[List.map_cons] at r;cases r with
   | @cons a b as bs h t=>
     obtain⟨rs,c,q⟩:=qT (P:=P) (w:=w) t;obtain⟨b1,b2⟩:=b;exact⟨(p.1,b2) ::rs,⟨pU h.1,rfl,c⟩, .cons ⟨rfl,h.2⟩ q⟩
def AU(sU:List (TE × TE)):TE:=fun σ H Q=>∀p,H p=none->oz sU σ (upd H p (.dK [])) fun ps H2=>H2 p=some (.dK [])/\∃aC:List (Key × V),ps=aC.map (fun kv=>(kV kv.1,kv.2))/\aC.length<=15/\Q (.ref p) (upd H2 p (.dK (jR [] aC)))
theorem Dz{X:Cx}{pos:Pos}{keys:List (Option Expr)}{values:List Expr}{sU:List (TE × TE)}(h:GG X pos keys values sU)(Af:keys.all (·.isSome)=true)(hl:keys.length=values.length)(h0:keys≠[])
 (U_:keys.length<=15):PE X (.Dict keys values pos) (AU sU):=by
 intro pins s σ H Q I q;have hn:=I.hok.fresh (Nat.le_refl s.heap.objs.size);have I1:=I.laid (a:=s.heap.objs.size) (o:= .dK []) (h':=s.heap.push {cls:= .type "dict",data:= .dict #[]}) (t':=s.toks) (fun _ _ q=>Heap.get?_push_of_some _ q) (Nat.le_refl _) (vP s.heap I.big)
 refine wpAny_Dict_walk (knd:=cL X.prog X.w) Af hl h0 U_ (di (h pins _ σ _ _ I1 (q _ hn)) fun ws s2 ⟨ps,H2,I2,rel,e,aC,ep,lk,q2⟩=>?_)
 subst ep;obtain⟨rs,c,rk⟩:=qT (P:=X.prog) (w:=X.w) rel;obtain⟨z,hd,Wa,r0,dd⟩:=F4 I2.hok e;cases r0;refine⟨rs,c,dd,fun h' Jn hs=>⟨.ref s.heap.objs.size,_,?_,rfl,q2⟩⟩
 have hz:(jR [] aC).length<=sizeLine:=by
  have h1:=mr aC [];rw[List.length_nil] at h1;rw[sizeLine_eq];omega
 have he:∃q,h'.get? s.heap.objs.size=some q:=let⟨q,_,_,hq,_⟩:=Jn;⟨q,hq⟩
 exact tq I2 (by rw[e];exact True.intro) hs he (AY hz hd (rk.merge .nil) Jn)
structure M1 (X:Cx) (o:Expr) (m:Str) (apos:Pos) (e:Expr) (b4:Pos):Prop where
 base:attributeBase o m X.env (eval o X.env)=eval o X.env
 CU:((backTo b4 (starEach [e] X.env)).all (fun x=>!x.1) && (backToKw b4 (keywordEach [] X.env)).all (fun x=>x.1.isSome)
  && decide (([e]:List Expr).length+([]:List Keyword).length+(if([]:List Keyword).isEmpty then 0 else 1) < 30))=true
 line:(apos.endLine==b4.line)=true
 trees:backTo b4 (starEach [e] X.env)=[(false,eval e X.env)]
structure M2 (X:Cx) (o:Expr) (m:Str) (apos:Pos) (e f:Expr) (b4:Pos):Prop where
 base:attributeBase o m X.env (eval o X.env)=eval o X.env
 CU:((backTo b4 (starEach [e,f] X.env)).all (fun x=>!x.1) && (backToKw b4 (keywordEach [] X.env)).all (fun x=>x.1.isSome)
  && decide (([e,f]:List Expr).length+([]:List Keyword).length+(if([]:List Keyword).isEmpty then 0 else 1) < 30))=true
 line:(apos.endLine==b4.line)=true
 trees:backTo b4 (starEach [e,f] X.env)=[(false,eval e X.env),(false,eval f X.env)]
def JF(H:Hp)(a:Addr):Prop:=(∃aC,Rd H a (.dK aC))\/∃aC,Rd H a (.dT aC)
theorem Hm{X:Cx}{pins:Wo}{s:Shared}{a:Addr}(I:Inv X pins σ H s)(d:JF H a) :
 s.TypeIs (.ref a) "dict"/\(∀b,Value.ref a= .ref b->∃ob,s.heap.get? b=some ob/\ob.dict=none)/\(a==sysModules)=false:=by
 rcases d with⟨aC,e⟩ | ⟨aC,e⟩
 .obtain⟨_,hd,vs,_,dd⟩:=pQ I.hok e;refine⟨dd.typeIs,fun b q=>?_,hd⟩
  cases q;obtain⟨ob,_,_,h1,h2,_⟩:=dd;exact⟨ob,h1,h2.2.1⟩
 .obtain⟨_,hd,xs,_,dd⟩:=rf I.hok e;refine⟨dd.typeIs,fun b q=>?_,hd⟩
  cases q;obtain⟨ob,_,_,h1,h2,_⟩:=dd;exact⟨ob,h1,h2.2.1⟩
section
variable {X:Cx} {pins:Wo} {σ:St} {H:Hp} {s:Shared} {a:Addr} {y d:V} {u r:Value} {o:Option V} {A:Around} {E:Wq}
theorem HE{Q:Wq}(hu:A.units+1 < cLine)(I:Inv X pins σ H s)(g:lx H a y o)(ry:RelV y u)(rd:RelV d r)(h:∀w' s',Inv X pins σ H s'->RelV (o.getD d) w'->Q w' s') :
 wpAny (model X.prog X.w) A (call (.builtin "dict.get") [.ref a,u,r]) Q E s:=by
 rcases g with⟨aC,k,e,ey,l⟩ | ⟨aC,k,b,e,ey,eb,l⟩
 .subst ey;obtain⟨z,hd,vs,rel,dd⟩:=pQ I.hok e;refine call_meetsIn PySem.F.slot_dict_get dd.typeIs PySem.F.entry_dict_get (PySem.F.args_dict_get_3 _ _ _) (meets_dict_get_default (cL X.prog X.w) a (pU ry) hd r) ⟨_,dd.mapOf,h _ _ (I.tok _) ?_⟩;rw[l];exact(rel.val k).getD rd
 .subst ey;cases(show u=Value.ref b from ry)
  obtain⟨z,hd,xs,rel,dd⟩:=rf I.hok e;refine call_meetsIn PySem.F.slot_dict_get dd.typeIs PySem.F.entry_dict_get (PySem.F.args_dict_get_3 _ _ _) (meetsH_dict_get_default (tupleKind (cL X.prog X.w)) a b hd r) ⟨tupleKind_room_in1 hu,k,xs,n_ I.hok eb,dd,h _ _ (I.tok _) ?_⟩;rw[l];exact(rel.val k).getD rd
end
def Nk(td ty:TE):TE:=fun σ H Q=>td σ H fun x H1=>∃a,x= .ref a/\JF H1 a/\ty σ H1 fun y H2=>∃o,lx H2 a y o/\Q (o.getD .cI) H2
def Ie(td ty tx:TE):TE:=fun σ H Q=>td σ H fun x H1=>∃a,x= .ref a/\JF H1 a/\ty σ H1 fun y H2=>tx σ H2 fun z H3=>∃o,lx H3 a y o/\Q (o.getD z) H3
def Nd(td ty:TE):TE:=fun σ H Q=>td σ H fun x H1=>∃a,x= .ref a/\JF H1 a/\ty σ H1 fun y H2=>∃aC k v,H2 a=some (.dK aC)/\y=kV k/\iE aC k=some v/\Q v (upd H2 a (.dK (A7 aC k)))
def Nx(td ty tx:TE):TE:=fun σ H Q=>td σ H fun x H1=>∃a,x= .ref a/\JF H1 a/\ty σ H1 fun y H2=>tx σ H2 fun z H3=>∃aC k,H3 a=some (.dK aC)/\y=kV k/\
 (∀v,iE aC k=some v->Q v (upd H3 a (.dK (A7 aC k))))/\(iE aC k=none->Q z H3)
section
variable {X:Cx} {o e f:Expr} {apos b4:Pos} {td ty tx:TE}
theorem BV(hu:X.A.units+1 < cLine)(ho:PE X o td)(he:PE X e ty)(hf:PE X f tx)(m:M2 X o "get" apos e f b4):PE X (.Call (.Attribute o "get" apos) [e,f] [] b4) (Ie td ty tx):=by
 intro pins s σ H Q I h;refine wpAny_Call_method m.base m.CU m.line PySem.F.plainAttrs_dict PySem.F.slot_dict_get PySem.F.type_dict_get (di (ho pins s σ H _ I h) fun u s1 ⟨x,H1,I1,rx,a,ex,d,q1⟩=>?_)
 subst ex;obtain rfl:u=Value.ref a:=rx;obtain⟨t1,t2,_⟩:=Hm I1 d;refine⟨t1,t2,?_⟩;rw[m.trees];refine Calls.callWith_builtin rfl (Calls.evalArgs_plain (Calls.spliced_cons (di (he pins s1 σ H1 _ I1 q1) fun iv s2 ⟨y,H2,I2,ry,q2⟩=>
  Calls.spliced_cons (di (hf pins s2 σ H2 _ I2 q2) fun fv s3 ⟨z,H3,I3,rz,ov,g,q3⟩=>Calls.spliced_nil ?_))))
 exact HE hu I3 g ry rz fun w' s4 I4 xM=>⟨_,H3,I4,xM,q3⟩
end
section
variable {X:Cx} {pins:Wo} {σ:St} {H:Hp} {s:Shared} {a:Addr} {aC:List (Key × V)} {A:Around} {E:Wq}
end
section
variable {X:Cx} {pins:Wo} {σ:St} {H:Hp} {s:Shared} {a:Addr} {y:V} {u:Value} {A:Around} {E:Wq}
end
end L2
namespace HT
open PySem PyProof.Rows
def lexLt:List Int->List Int->Bool
 | [],[]=>false
 | [],_ ::_=>true
 | _ ::_,[]=>false
 | x ::xs,y ::ys=>if x=y then lexLt xs ys else decide (x < y)
section
open PySem.SeqAt
open PySem.AutoSeq1 (wpAny_loadPart')
open PySem.MeetsSeq PySem.MeetsSeq2 PySem.MeetsSeq3
end
section
variable {prog:Program} {w:World} {A:Around} {E:Wq} {s:Shared}
def oM(n d:Nat):Option Int->Nat
 | none=>d
 | some v=>if v < 0 then(v+(n:Int)).toNat else min v.toNat n
theorem A6(n d:Nat):oM n d none=d:=rfl
theorem EA(n d k:Nat):oM n d (some (k:Int))=min k n:=by
 show(if(k:Int) < 0 then((k:Int)+(n:Int)).toNat else min (k:Int).toNat n)=min k n
 rw[if_neg (by omega),Int.toNat_natCast]
end
end HT
namespace L2
open PySem PySem.Spec PyProof.Rows
abbrev TO:=St->Hp->(Option Int->Hp->Prop)->Prop
def PO(X:Cx)(e:Option Expr)(t:TO):Prop:=
 ∀(pins:Wo) (s:Shared) (σ:St) (H:Hp) (Q:Option Int->Hp->Prop),Inv X pins σ H s->t σ H Q->
  wpAny (model X.prog X.w) X.A (evalPart e X.env) (fun u s'=>∃o H',Inv X pins σ H' s'/\IsPart u o/\Q o H') X.xe s
def Ef:TO:=fun _ H Q=>Q none H
def Kr(t:TE):TO:=fun σ H Q=>t σ H fun x H1=>∃i,x= .int i/\Q (some i) H1
section
variable {X:Cx} {e:Expr} {te:TE} {lo hi:Option Expr} {tl th:TO} {pos p2:Pos}
theorem D6:PO X none Ef:=by
 intro pins s σ H Q I h;rw[evalPart_none];exact wpAny_pure ⟨none,H,I, .none,h⟩
theorem Dt(h:PE X e te):PO X (some e) (Kr te):=by
 intro pins s σ H Q I hw;rw[evalPart_some];refine di (h pins s σ H _ I hw) fun u s1 ⟨x,H1,I1,r1,q1⟩=>?_
 obtain⟨i,rfl,q⟩:=q1;obtain⟨t,rfl⟩:=r1;exact⟨some i,H1,I1, .int i t,q⟩
def Hy(X:Cx)(r:V->Option Int->Option Int->Hp->VK->Prop):Prop:=
 ∀(pins:Wo) (s:Shared) (σ:St) (H:Hp) (x:V) (v vl vu:Value) (lo hi:Option Int) (sl:Addr) (Q:VK),Inv X pins σ H s->RelV x v->s.heap.IsSliceOf sl vl vu .none->IsPart vl lo->IsPart vu hi->r x lo hi H Q->
  ∃T id,typeLookup (.type T) "__getitem__"=pure (some (.builtin id))/\s.TypeIs v T/\wpAny (model X.prog X.w) X.A (getItem v (.ref sl)) (EP X pins σ Q) X.xe s
theorem Hy.or{r r':V->Option Int->Option Int->Hp->VK->Prop}(h:Hy X r)(h':Hy X r'):Hy X (fun x lo hi H Q=>r x lo hi H Q\/r' x lo hi H Q):=by
 intro pins s σ H x v vl vu lo hi sl Q I rx hs pl pu q;rcases q with q | q
 .exact h pins s σ H x v vl vu lo hi sl Q I rx hs pl pu q
 .exact h' pins s σ H x v vl vu lo hi sl Q I rx hs pl pu q
def Tf(r:V->Option Int->Option Int->Hp->VK->Prop)(te:TE)(tl th:TO):TE:=fun σ H Q=>te σ H fun x H1=>tl σ H1 fun l H2=>th σ H2 fun u H3=>r x l u H3 Q
theorem CH{r:V->Option Int->Option Int->Hp->VK->Prop}(hr:Hy X r)(he:PE X e te)(hl:PO X lo tl)(hu:PO X hi th):PE X (.Subscript e (.Slice lo hi none p2) pos) (Tf r te tl th):=by
 intro pins s σ H Q I h;refine Subscript_ (di (he pins s σ H _ I h) fun v s1 ⟨x,H1,I1,r1,q1⟩=>?_)
 refine wpAny_Slice (di (hl pins s1 σ H1 _ I1 q1) fun vl s2 ⟨l,H2,I2,pl,q2⟩=>di (hu pins s2 σ H2 _ I2 q2) fun vu s3 ⟨u,H3,I3,pu,q3⟩=>?_)
 rw[evalPart_none];refine wpAny_pure ?_;have I4:Inv X pins σ H3 {s3 with heap:=s3.heap.push {cls:= .type "slice",data:= .fields #[vl,vu, .none]}}:=I3.kept (t':=s3.toks) fun b ob q=>Heap.get?_push_of_some _ q
 obtain⟨T,id,hT,ht,hg⟩:=hr pins {s3 with heap:=s3.heap.push {cls:= .type "slice",data:= .fields #[vl,vu, .none]}} σ H3 x v vl vu l u s3.heap.objs.size Q I4 r1 (Heap.IsSliceOf.new ..) pl pu q3
 show wpAny (model X.prog X.w) X.A (subscriptTail e (.Slice lo hi none p2) v (.ref s3.heap.objs.size)) (EP X pins σ Q) X.xe {s3 with heap:=s3.heap.push {cls:= .type "slice",data:= .fields #[vl,vu, .none]}}
 exact tail_any (ops:=[.ref s3.heap.objs.size,v]) ht hT hg (by with_unfolding_all rfl)
def wI(xs:List V)(lo hi:Option Int):List V:=(xs.drop (HT.oM xs.length 0 lo)).take (HT.oM xs.length xs.length hi - HT.oM xs.length 0 lo)
theorem u7(xs:List V)(lo hi:Option Int):(wI xs lo hi).length<=xs.length:=by
 unfold wI;rw[List.length_take,List.length_drop];omega
def Tv(K:W.Frag):V->Option Int->Option Int->Hp->VK->Prop:=fun x lo hi H Q=>∃a xs,x= .ref a/\oy K H a xs/\
 ¬(HT.oM xs.length 0 lo=0/\HT.oM xs.length xs.length hi=xs.length)/\∀p,H p=none->Q (.ref p) (upd H p (.tup (wI xs lo hi)))
def Sw(K:W.Frag):R2:=fun x y H Q=>∃a b ns ms,x= .ref a/\y= .ref b/\oy K H a (ns.map V.int)/\oy K H b (ms.map V.int)/\Q (.bl (HT.lexLt ns ms)) H
def QW(K:W.Frag):R2:=fun x y H Q=>∃a b xs ys,x= .ref a/\y= .ref b/\oy K H a xs/\oy K H b ys/\xs≠[]/\xs.length+ys.length<=sizeLine/\
 (ys=[]->Q (.ref a) H)/\(ys≠[]->∀p,H p=none->Q (.ref p) (upd H p (.tup (xs++ys))))
end
def Dc(n:Nat)(i:Int):Option Nat:=if 0<=i then(if i < n then some i.toNat else none) else if -(n:Int)<=i then some (i+n).toNat else none
def rF{α:Type}(xs:List α)(i:Int):Option α:=(Dc xs.length i).bind fun j=>xs[j]?
theorem DX{n:Nat}{i:Int}{j:Nat}(h:Dc n i=some j):seqIndex? i n=some j/\j < n/\ -(n:Int)<=i/\i < n:=by
 unfold Dc at h;by_cases h0:0<=i
 .rw [if_pos h0] at h;by_cases h1:i < n
  .rw [if_pos h1] at h;have e:i.toNat=j:=Option.some.inj h;exact⟨by rw[seqIndex_of h0 h1,e],by omega,by omega,h1⟩
  .rw [if_neg h1] at h;cases h
 .rw [if_neg h0] at h;by_cases h1: -(n:Int)<=i
  .rw [if_pos h1] at h;have e:(i+n).toNat=j:=Option.some.inj h;exact⟨by rw[seqIndex_neg (by omega) h1,e],by omega,h1,by omega⟩
  .rw [if_neg h1] at h;cases h
theorem uf{α:Type}{xs:List α}{i:Int}{v:α}(h:rF xs i=some v):∃j,seqIndex? i xs.length=some j/\xs[j]? =some v/\j < xs.length/\ -(xs.length:Int)<=i/\i < xs.length:=by
 unfold rF at h;cases e:Dc xs.length i with
 | none=>rw [e] at h;cases h
 | some j=>
   rw[e] at h;obtain⟨h1,h2,h3,h4⟩:=DX e;exact⟨j,h1,h,h2,h3,h4⟩
def tL(b:Expr):Prop:=∀o i,subscripted b false o i=operate [o,i] (getItem o i)
def DM(X:Cx)(r:R2):Prop:=
 ∀(value slice:Expr) (pins:Wo) (s:Shared) (σ:St) (H:Hp) (x y:V) (v u:Value) (Q:VK),Inv X pins σ H s->RelV x v->RelV y u->r x y H Q->
  subscripted slice false v u=operate [v,u] (getItem v u)->wpAny (model X.prog X.w) X.A (subscriptTail value slice v u) (EP X pins σ Q) X.xe s
def Sr(X:Cx)(id:String)(r:V->List V->Hp->VK->Prop):Prop:=
 ∀(pins:Wo) (s:Shared) (σ:St) (H:Hp) (x:V) (xs:List V) (v:Value) (us:List Value) (Q:VK),Inv X pins σ H s->RelV x v->Vals xs us->r x xs H Q->
  wpAny (model X.prog X.w) X.A (call (.builtin id) (v ::us)) (EP X pins σ Q) X.xe s
section
variable {X:Cx} {a b:Expr} {ta tb:TE} {pos:Pos}
theorem DM.or{r r':R2}(h:DM X r)(h':DM X r'):DM X (fun x y H Q=>r x y H Q\/r' x y H Q):=by
 intro value slice pins s σ H x y v u Q I rx ry q hs;rcases q with q | q
 .exact h value slice pins s σ H x y v u Q I rx ry q hs
 .exact h' value slice pins s σ H x y v u Q I rx ry q hs
theorem Ld{r:R2}(hr:DM X r)(ha:PE X a ta)(hb:PE X b tb)(hs:tL b):PE X (.Subscript a b pos) (JE r ta tb):=by
 intro pins s σ H Q I h;exact Subscript_ (Iz ha hb I h fun v u s2 x y H2 I2 rx ry q=>hr a b pins s2 σ H2 x y v u Q I2 rx ry q (hs _ _))
def Kx(K:W.Frag):R2:=fun x y H Q=>∃p xs i v,x= .ref p/\y= .int i/\m4 K H p xs/\rF xs i=some v/\Q v H
def KI(K:W.Frag):R2:=fun x y H Q=>∃p xs i v,x= .ref p/\y= .int i/\oy K H p xs/\rF xs i=some v/\Q v H
def Ki:R2:=fun x y H Q=>∃z i c,x= .str z/\y= .int i/\z.length<=sizeLine/\rF z.cps.toList i=some c/\Q (.str ⟨#[c]⟩) H
theorem EW:DM X (Kx X.K):=by
 intro value slice pins s σ H x y v u Q I rx ry h hs;obtain⟨p,xs,i,z,rfl,rfl,hq,he,q⟩:=h;cases rx;obtain⟨t,rfl⟩:=ry;obtain⟨its,r,pl,hz⟩:=I.list hq;obtain⟨j,h1,h2,h3,h4,h5⟩:=uf he;obtain⟨w,ew,xM⟩:=r.get h2;have hl:=r.length;have hn:=tJ;have fin:EP X pins σ Q w s:=⟨z,H,I,xM,q⟩;by_cases h0:0<=i
 .have hj:i.toNat=j:=by
   rw[seqIndex_of h0 h5] at h1;exact Option.some.inj h1
  exact item_listR pl.isList h0 (by omega) (by rw[hj];simpa using ew) fin hs
 .have hj:(i+(its.toArray.size:Int)).toNat=j:=by
   rw[seqIndex_neg (by omega) h4] at h1
   rw[List.size_toArray,<-hl];exact Option.some.inj h1
  exact subscriptTail_builtinR (x:=w) pl.isList.typeIs slot_list_getitem.lookup
   (wpAny_getItem_list_neg (Q:=fun r s'=>r=w/\EP X pins σ Q r s') pl.isList (by omega) (by rw[List.size_toArray] <;> omega) (by omega) (by rw[hj];simpa using ew) ⟨rfl,fin⟩) hs
theorem HP:DM X (KI X.K):=by
 intro value slice pins s σ H x y v u Q I rx ry h hs;obtain⟨p,xs,i,z,rfl,rfl,hq,he,q⟩:=h;cases rx;obtain⟨t,rfl⟩:=ry;obtain⟨its,r,pl,hz⟩:=I.tuple hq;obtain⟨j,h1,h2,h3,h4,h5⟩:=uf he;obtain⟨w,ew,xM⟩:=r.get h2;have hl:=r.length;have hn:=tJ;have fin:EP X pins σ Q w s:=⟨z,H,I,xM,q⟩;exact subscriptTail_builtinR (x:=w) pl.typeIs slot_tuple_getitem.lookup
  (getItem_tuple (j:=j) (Q:=fun r s'=>r=w/\EP X pins σ Q r s') pl (by omega) (by omega) (by rw[List.size_toArray,<-hl];exact h1) (by simpa using ew) ⟨rfl,fin⟩) hs
theorem Hc:DM X Ki:=by
 intro value slice pins s σ H x y v u Q I rx ry h hs;obtain⟨z,i,c,rfl,rfl,hz,he,q⟩:=h;obtain⟨t,rfl⟩:=rx;obtain⟨t',rfl⟩:=ry;obtain⟨j,h1,h2,h3,h4,h5⟩:=uf he;have hl:z.cps.toList.length=z.length:=by simp [Str.length]
 rw[hl] at h1 h4 h5;have hn:=tJ;exact tail_any (typeIs_str s z t) slot_str_getitem.lookup (getItem_str (c:=c) (by
  have e1:decide (i < -(2 ^ 63:Int))=false:=decide_eq_false (by omega)
  have e2:decide (i>=2 ^ 63)=false:=decide_eq_false (by omega)
  rw[e1,e2,Bool.or_false]) (by rw[h1];simpa using h2) ⟨.str ⟨#[c]⟩,H,I.tok _,⟨_,rfl⟩,q⟩) hs
def PV(K:W.Frag):R2:=fun x y H Q=>Kx K x y H Q\/KI K x y H Q\/Ki x y H Q
theorem HK:DM X (PV X.K):=EW.or (HP.or Hc)
def Qm:V->V->V->Hp->(Hp->Prop)->Prop:=fun o i v H Q=>∃p xs k j,o= .ref p/\i= .int k/\H p=some (.lst xs)/\Dc xs.length k=some j/\Q (upd H p (.lst (xs.set j v)))
theorem tI(lo hi:Option Int)(n:Nat):(sliceBounds lo hi none n).1=((HT.oM n 0 lo:Nat):Int)/\(sliceBounds lo hi none n).2.1=((HT.oM n n hi:Nat):Int)/\(sliceBounds lo hi none n).2.2=1:=by
 refine⟨?_,?_,rfl⟩
 .cases lo with
  | none=>simp [sliceBounds,HT.oM]
  | some i=>
    simp only[sliceBounds,HT.oM,Option.getD_none,show(1:Int) > 0 by decide,if_true]
    by_cases h:i < 0
    .simp only[h,if_true] <;> omega
    .simp only[h,if_false] <;> omega
 .cases hi with
  | none=>simp [sliceBounds,HT.oM]
  | some i=>
    simp only[sliceBounds,HT.oM,Option.getD_none,show(1:Int) > 0 by decide,if_true]
    by_cases h:i < 0
    .simp only[h,if_true] <;> omega
    .simp only[h,if_false] <;> omega
theorem rS(its:List Value)(lo hi:Option Int):slicePick its.toArray lo hi none=((its.drop (HT.oM its.length 0 lo)).take (HT.oM its.length its.length hi - HT.oM its.length 0 lo)).toArray:=by
 obtain⟨h1,h2,h3⟩:=tI lo hi its.toArray.size;unfold slicePick;rw[h1,h2,h3];simp only[sliceRange_one,pick_run,List.size_toArray] <;> rfl
def NZ(K:W.Frag):V->Option Int->Option Int->Hp->VK->Prop:=fun x lo hi H Q=>∃a xs,x= .ref a/\m4 K H a xs/\∀p,H p=none->Q (.ref p) (upd H p (.lst (wI xs lo hi)))
theorem D3:Hy X (NZ X.K):=by
 intro pins s σ H x v vl vu lo hi sl Q I rx hs pl pu h;obtain⟨a,xs,rfl,hx,q⟩:=h;cases rx;obtain⟨its,r,ht,hz⟩:=I.list hx;have hlen:=r.length;refine⟨"list",_,slot_list_getitem.lookup,ht.isList.typeIs,?_⟩;refine wpAny_getItem_list_slice ht.isList hs pl pu .none (by simp) ?_ (by rw[List.size_toArray] <;> omega)
 rw[rS,<-hlen];refine⟨.ref s.heap.objs.size,_,I.laid (t':=s.toks) (o:= .lst (wI xs lo hi)) (fun b ob q=>Heap.get?_push_of_some _ q) (Nat.le_refl _) ?_,rfl,q _ (I.hok.fresh (Nat.le_refl _))⟩
 exact⟨Nat.le_trans (u7 xs lo hi) hz,_,0,(r.drop (HT.oM xs.length 0 lo)).take (HT.oM xs.length xs.length hi - HT.oM xs.length 0 lo),Heap.get?_push_size _ rfl⟩
def kh:V->Bool
 | .cI=>true
 | .bl _=>true
 | .int _=>true
 | .str _=>true
 | _=>false
def Gu:V->V->Bool
 | .cI, .cI=>true
 | .bl a, .bl b=>a==b
 | .bl a, .int b=>(if a then 1 else 0)==b
 | .int a, .bl b=>a==(if b then 1 else 0)
 | .int a, .int b=>a==b
 | .str a, .str b=>a==b
 | _,_=>false
theorem H_{s:Shared}{y x:V}{u v:Value}(ry:RelV y u)(rx:RelV x v)(fy:kh y=true)(fx:kh x=true):SeqAt.EqAt A s u v (Gu y x):=by
 cases y with
 | cI=>
   cases ry;cases x with
   | cI=>cases rx;exact SeqAt.EqAt.same _
   | bl b=>cases rx;exact SeqAt.EqAt.none_bool b
   | int b=>obtain⟨t,rfl⟩:=rx;exact SeqAt.EqAt.none_int b t
   | str b=>obtain⟨t,rfl⟩:=rx;exact SeqAt.EqAt.none_str b t
   | _=>exact absurd (show false=true from fx) Bool.false_ne_true
 | bl a=>
   cases ry;cases x with
   | cI=>cases rx;exact SeqAt.EqAt.bool_none a
   | bl b=>cases rx;exact SeqAt.EqAt.bool_bool a b
   | int b=>obtain⟨t,rfl⟩:=rx;exact SeqAt.EqAt.bool_int a b t
   | str b=>obtain⟨t,rfl⟩:=rx;exact SeqAt.EqAt.bool_str a b t
   | _=>exact absurd (show false=true from fx) Bool.false_ne_true
 | int a=>
   obtain⟨t',rfl⟩:=ry;cases x with
   | cI=>cases rx;exact SeqAt.EqAt.int_none a t'
   | bl b=>cases rx;exact SeqAt.EqAt.int_bool a t' b
   | int b=>obtain⟨t,rfl⟩:=rx;exact SeqAt.EqAt.int_int a t' b t
   | str b=>obtain⟨t,rfl⟩:=rx;exact SeqAt.EqAt.int_str a t' b t
   | _=>exact absurd (show false=true from fx) Bool.false_ne_true
 | str a=>
   obtain⟨t',rfl⟩:=ry;cases x with
   | cI=>cases rx;exact SeqAt.EqAt.str_none a t'
   | bl b=>cases rx;exact SeqAt.EqAt.str_bool a t' b
   | int b=>obtain⟨t,rfl⟩:=rx;exact SeqAt.EqAt.str_int a t' b t
   | str b=>obtain⟨t,rfl⟩:=rx;exact SeqAt.EqAt.str_str a t' b t
   | _=>exact absurd (show false=true from fx) Bool.false_ne_true
 | _=>exact absurd (show false=true from fy) Bool.false_ne_true
def DR(x:V)(u:Value):Bool:=match u with
 | .none=>Gu .cI x
 | .bool b=>Gu (.bl b) x
 | .int i _=>Gu (.int i) x
 | .str z _=>Gu (.str z) x
 | _=>false
theorem Co{x y:V}{u:Value}(r:RelV y u)(f:kh y=true):DR x u=Gu y x:=by
 cases y with
 | cI=>cases r;rfl
 | bl b=>cases r;rfl
 | int i=>obtain⟨t,rfl⟩:=r;rfl
 | str z=>obtain⟨t,rfl⟩:=r;rfl
 | _=>exact absurd (show false=true from f) Bool.false_ne_true
theorem tQ{x:V}:∀{xs:List V} {us:List Value},Vals xs us->xs.all kh=true->us.any (DR x)=xs.any fun y=>Gu y x
 | _,_, .nil,_=>rfl
 | y ::xs,u ::us, .cons r t,f=>by
   rw[List.all_cons,Bool.and_eq_true] at f;rw[List.any_cons,List.any_cons,Co r f.1,tQ t f.2]
theorem qw{s:Shared}{x:V}{v:Value}(rx:RelV x v)(fx:kh x=true):∀{xs:List V} {us:List Value},Vals xs us->xs.all kh=true->∀u∈us,SeqAt.EqAt A s u v (DR x u)
 | _,_, .nil,_=>fun u hu=>by cases hu
 | y ::xs,u ::us, .cons r t,f=>fun u' hu=>by
   rw[List.all_cons,Bool.and_eq_true] at f;rcases List.mem_cons.mp hu with rfl | hu
   .rw [Co r f.1];exact H_ r rx f.1 fx
   .exact qw rx fx t f.2 u' hu
def F9(x:V)(xs:List V):Bool:=xs.any fun y=>Gu y x
def QI(K:W.Frag)(neg:Bool):R2:=fun x y H Q=>∃p xs,y= .ref p/\(m4 K H p xs\/oy K H p xs)/\kh x=true/\xs.all kh=true/\Q (.bl (if neg then !F9 x xs else F9 x xs)) H
theorem ua:mE X (compareOp .NotIn) (QI X.K true):=by
 intro pins s σ H x y v u Q I rx ry h;obtain⟨p,xs,rfl,hq,fx,fs,q⟩:=h;cases ry;rcases hq with hq | hq
 .obtain⟨its,r,pl,hz⟩:=I.list hq;refine SeqAt.notIn_listAt (DR x) pl.isList (fun w hw=>qw rx fx r fs w (by simpa using hw)) ⟨.bl _,H,I,rfl,?_⟩
  rw[show its.toArray.any (DR x)=its.any (DR x) by simp,tQ r fs]
  exact q
 .obtain⟨its,r,pl,hz⟩:=I.tuple hq;refine SeqAt.notIn_tupleAt (DR x) pl (fun w hw=>qw rx fx r fs w (by simpa using hw)) ⟨.bl _,H,I,rfl,?_⟩
  rw[show its.toArray.any (DR x)=its.any (DR x) by simp,tQ r fs]
  exact q
theorem tf:jC X (.type "list") (fun xs H Q=>∃p ys,xs=[.ref p]/\(m4 X.K H p ys\/oy X.K H p ys)/\∀l,H l=none->Q (.ref l) (upd H l (.lst ys))):=by
 intro pins s σ H xs us Q I r h;obtain⟨p,ys,rfl,hq,q⟩:=h;obtain⟨u,rfl,rx⟩:=vals1 r;cases rx;have fin:∀(its:List Value),Vals ys its->ys.length<=sizeLine->∀(h':Heap) (c':Nat),(∀b o',s.heap.get? b=some o'->h'.get? b=some o')->
  h'.get? s.heap.objs.size=some {cls:= .type "list",dict:=none,data:= .seq its.toArray c',slots:=#[]}->EP X pins σ Q (.ref s.heap.objs.size) {s with heap:=h'}:=fun its r' hz h' c' kp e=>
  ⟨.ref s.heap.objs.size,_,I.laid (t':=s.toks) kp (Nat.le_refl _) (show de X.prog X.w _ h' _ (.lst ys) from⟨hz,its,c',r',e⟩),rfl,q _ (I.hok.fresh (Nat.le_refl _))⟩
 rcases hq with hq | hq
 .obtain⟨its,r',pl,hz⟩:=I.list hq;have hlen:=r'.length;obtain⟨o,ho,hc,n,hd⟩:=pl.isList;exact call_list_seq p (.inl rfl) ho hc hd (fun h' c' kp e=>fin its r' hz h' c' kp e) (by simp only[List.size_toArray] <;> omega)
 .obtain⟨its,r',pl,hz⟩:=I.tuple hq;have hlen:=r'.length;obtain⟨o,ho,hc,n,hd⟩:=pl;exact call_list_seq p (.inr rfl) ho hc hd (fun h' c' kp e=>fin its r' hz h' c' kp e) (by simp only[List.size_toArray] <;> omega)
theorem rL:jC X (.type "tuple") (fun xs H Q=>∃p ys,xs=[.ref p]/\((m4 X.K H p ys/\∀l,H l=none->Q (.ref l) (upd H l (.tup ys)))\/(oy X.K H p ys/\Q (.ref p) H))):=by
 intro pins s σ H xs us Q I r h;obtain⟨p,ys,rfl,h⟩:=h;obtain⟨u,rfl,rx⟩:=vals1 r;cases rx;rcases h with⟨hq,q⟩ | ⟨hq,q⟩
 .obtain⟨its,r',pl,hz⟩:=I.list hq;have hlen:=r'.length;refine call_tuple_list pl.isList (fun h' kp=>?_) (by simp only[List.size_toArray] <;> omega)
  have I1:Inv X pins σ H {s with heap:=h'}:=I.kept (t':=s.toks) kp
  have I2:Inv X pins σ (upd H h'.objs.size (.tup ys)) {s with heap:=h'.push {cls:= .type "tuple",data:= .seq its.toArray}}:=
   I1.laid (t':=s.toks) (fun b o e=>Heap.get?_push_of_some _ e) (Nat.le_refl _) (show de X.prog X.w _ _ _ (.tup ys) from⟨hz,its,r',IsTup.new _ _⟩)
  exact⟨.ref h'.objs.size,_,I2,rfl,q _ (I1.hok.fresh (Nat.le_refl _))⟩
 .obtain⟨its,r',pl,hz⟩:=I.tuple hq;exact call_tuple_same pl ⟨.ref p,H,I,rfl,q⟩
def Oh(K:W.Frag)(T:String)(x:V)(H:Hp):Prop:=match x with
 | .str _=>T="str"
 | .int _=>T="int"
 | .ref p=>(T="list"/\∃xs,m4 K H p xs)\/(T="tuple"/\∃o,K.lookup p=some o/\o.cls= .type "tuple"/\o.dict=none)\/
    (T="dict"/\((∃aC,H p=some (.dK aC))\/∃aC,H p=some (.dT aC)))\/(T="set"/\∃S n,H p=some (.set S n))
 | _=>False
theorem Hr{pins:Wo}{s:Shared}{T:String}{x:V}{v:Value}(I:Inv X pins σ H s)(r:RelV x v)(ty:Oh X.K T x H) :
 s.TypeIs v T/\∀a,v= .ref a->∃ob,s.heap.get? a=some ob/\ob.dict=none:=by
 cases x with
 | str z=>
   obtain⟨t,rfl⟩:=r;cases(show T="str" from ty)
   exact⟨typeIs_str s z t,fun _ e=>nomatch e⟩
 | int i=>
   obtain⟨t,rfl⟩:=r;cases(show T="int" from ty)
   exact⟨typeIs_int s i t,fun _ e=>nomatch e⟩
 | ref p=>
   cases r;rcases ty with⟨rfl,xs,hq⟩ | ⟨rfl,o,hk,hc,hd⟩ | ⟨rfl,hk⟩ | ⟨rfl,S,n,hk⟩
   .obtain⟨its,_,pl,_⟩:=I.list hq;refine⟨pl.isList.typeIs,fun a e=>?_⟩
    cases e;obtain⟨o,n,e,c,hd,_⟩:=pl;exact⟨o,e,hd⟩
   .refine⟨⟨o,I.Dj p o hk,hc⟩,fun a e=>?_⟩
    cases e;exact⟨o,I.Dj _ o hk,hd⟩
   .have z:∃o,s.heap.get? p=some o/\o.ExactDict:=by
     rcases hk with⟨aC,hk⟩ | ⟨aC,hk⟩
     .obtain⟨_,_,_,_,o,_,_,e,ex,_⟩:=I.hok p _ hk;exact⟨o,e,ex⟩
     .obtain⟨_,_,_,_,o,_,_,e,ex,_⟩:=I.hok p _ hk;exact⟨o,e,ex⟩
    obtain⟨o,e,ex⟩:=z;refine⟨⟨o,e,ex.1⟩,fun a e2=>?_⟩
    cases e2;exact⟨o,e,ex.2.1⟩
   .obtain⟨o,_,_,_,e,ex,_⟩:=I.hok p _ hk;refine⟨⟨o,e,ex.1⟩,fun a e2=>?_⟩
    cases e2;exact⟨o,e,ex.2.1⟩
 | _=>exact False.elim ty
def RT(K:W.Frag)(T:String)(r:V->List V->Hp->VK->Prop)(to:TE):TE:=fun σ H Q=>to σ H fun x H1=>Oh K T x H1/\r x [] H1 Q
def Ui(K:W.Frag)(T:String)(r:V->List V->Hp->VK->Prop)(to:TE)(t:TA):TE:=fun σ H Q=>to σ H fun x H1=>Oh K T x H1/\t σ H1 fun xs H2=>r x xs H2 Q
variable {o e:Expr} {es:List Expr} {to:TE} {t:TA} {name:Str} {apos b4:Pos} {T id:String} {r:V->List V->Hp->VK->Prop}
theorem BN(pa:PlainAttrs T)(slot:Slot T name id)(U7:typeOf (.builtin id)=pure (.type "method_descriptor"))(hm:Sr X id r)(ho:PE X o to)(ha:PA X (e ::es) t)
 (nU:attributeBase o name X.env (eval o X.env)=eval o X.env:=by rfl)
 (ur:((backTo b4 (starEach (e ::es) X.env)).all (fun x=>!x.1) && (backToKw b4 (keywordEach [] X.env)).all (fun x=>x.1.isSome)
   && decide ((e ::es).length+([]:List Keyword).length+(if([]:List Keyword).isEmpty then 0 else 1) < 30))=true:=by rfl)
 (nS:(apos.endLine==b4.line)=true:=by rfl) (hs:starEach (e ::es) X.env=(false,eval e X.env) ::starEach es X.env:=by rfl) (Jh:(backTo b4 (starEach es X.env)).any (·.1)=false:=by rfl) :
 PE X (.Call (.Attribute o name apos) (e ::es) [] b4) (Ui X.K T r to t):=by
 intro pins s σ H Q I h;refine wpAny_Call_method_late nU ur nS rfl (di (ho pins s σ H _ I h) fun v s1 ⟨x,H1,I1,r1,ty,q1⟩=>?_)
 obtain⟨h1,h2⟩:=Hr I1 r1 ty;refine⟨T,id,pa,slot,U7,h1,h2,?_⟩;have hA:=ha b4 pins s1 σ H1 _ I1 q1;rw[hs] at hA ⊢;refine Calls.callWith_builtin (by show(false || (backTo b4 (starEach es X.env)).any (·.1))=false;rw [Jh] <;> rfl) (Calls.evalArgs_plain ?_)
 exact di hA fun us s2 ⟨vs,H2,I2,r2,q2⟩=>hm pins s2 σ H2 x vs v us Q I2 r1 r2 q2
end
def MV(X:Cx)(id:String)(r:V->List V->Hp->VK->Prop):Prop:=
 ∀(pins:Wo) (s:Shared) (σ:St) (H:Hp) (x:V) (xs:List V) (v:Value) (us:List Value) (Q:VK),Inv X pins σ H s->RelV x v->Vals xs us->r x xs H Q->
  wpAny (model X.prog X.w) X.A (call (.builtin id) (v ::us)) (EP X pins σ Q) X.xe s
theorem Vals.one:∀{x:V} {us:List Value},Vals [x] us->∃u,us=[u]/\RelV x u
 | _,_, .cons r .nil=>⟨_,rfl,r⟩
theorem Vals.rep{xs:List V}{us:List Value}(h:Vals xs us):∀k:Nat,Vals (List.replicate k xs).flatten (List.replicate k us).flatten
 | 0=> .nil
 | k+1=>by
   rw[List.replicate_succ,List.replicate_succ,List.flatten_cons,List.flatten_cons];exact Vals.append h (Vals.rep h k)
theorem foldl_rep(its:List Value):∀(k:Nat) (acc:List Value),
 List.foldl (fun x1 x2=>x1++x2) acc.toArray (List.replicate k its.toArray)=(acc++(List.replicate k its).flatten).toArray
 | 0,acc=>by simp
 | k+1,acc=>by
   have e:acc.toArray++its.toArray=(acc++its).toArray:=by simp
   have e2:(acc++its)++(List.replicate k its).flatten=acc++(List.replicate (k+1) its).flatten:=by
    rw[List.replicate_succ,List.flatten_cons,List.append_assoc]
   rw[<-e2,<-foldl_rep its k (acc++its),<-e,List.replicate_succ,List.foldl_cons]
section
variable {X:Cx} {pins:Wo} {σ:St} {H:Hp} {s:Shared} {l b:Addr} {xs ys zs:List V}
theorem Inv.EJ{its its':List Value}{n:Nat}{f:Array Value->Array Value}{t':Nat}(I:Inv X pins σ H s)(hH:H l=some (.lst xs))
 (e:s.heap.get? l=some {cls:= .type "list",data:= .seq its.toArray n}) (hf:f its.toArray=its'.toArray) (hv:Vals ys its') (hz:ys.length<=sizeLine) :
 Inv X pins σ (upd H l (.lst ys)) {s with heap:=s.heap.update l (Obj.mapSeq f),toks:=t'}:=by
 have q:=PySem.IsL.update e f;rw[hf] at q;refine I.write (x:=l) (e:=l) (by rw[hH];exact trivial) (.inl rfl) (fun b' u hb hu=>(Heap.get?_update_other s.heap (Obj.mapSeq f) (Ne.symm hb)).trans hu) ⟨_,q⟩ ?_
 exact⟨hz,its',_,hv,q⟩
theorem Inv.DJ{its:List Value}{t':Nat}(I:Inv X pins σ H s)(hv:Vals ys its)(hz:ys.length<=sizeLine) :
 Inv X pins σ (upd H s.heap.objs.size (.lst ys)) {s with heap:=s.heap.push {cls:= .type "list",data:= .seq its.toArray},toks:=t'}:=
 I.laid (fun _ _ q=>Heap.get?_push_of_some _ q) (Nat.le_refl _) ⟨hz,its,0,hv,Heap.get?_push_size _ rfl⟩
theorem Inv.fresh(I:Inv X pins σ H s):H s.heap.objs.size=none:=I.hok.fresh (Nat.le_refl _)
theorem Inv.Bv(I:Inv X pins σ H s)(hH:H l=some (.lst xs)):xs.length<=sizeLine/\∃(its:List Value) (n:Nat),Vals xs its/\xs.length=its.length/\s.heap.get? l=some {cls:= .type "list",data:= .seq its.toArray n}:=by
 obtain⟨z,its,n,r,e⟩:=I.hok l _ hH;exact⟨z,its,n,r,r.length,e⟩
theorem pT{n:Nat}(h:n<=sizeLine):Builtin.List.listTooLong n=false:=by
 unfold Builtin.List.listTooLong;exact decide_eq_false (by omega)
end
section
variable {X:Cx}
def ER:V->List V->Hp->VK->Prop:=fun x vs H Q=>∃l xs y,x= .ref l/\vs=[y]/\H l=some (.lst xs)/\xs.length < sizeLine/\Q .cI (upd H l (.lst (xs++[y])))
theorem sR:MV X "list.append" ER:=by
 intro pins s σ H x vs v us Q I rx rv h;obtain⟨l,xs,y,rfl,rfl,hH,hz,q⟩:=h;cases rx;obtain⟨u,rfl,ru⟩:=rv.one;obtain⟨z,its,n,r,hl,e⟩:=I.Bv hH;refine call_meets F.slot_list_append ⟨_,e,rfl⟩ F.entry_list_append (F.args_list_append_2 _ _) (PySem.list_append l its.toArray n u (by rw[List.size_toArray];omega)) ⟨e,?_⟩
 refine⟨.cI,_,I.EJ (its':=its++[u]) hH e (by simp) (r.append (.cons ru .nil)) ?_,rfl,q⟩
 rw[List.length_append,List.length_singleton];omega
def Fv:V->List V->Hp->VK->Prop:=fun x vs H Q=>∃l b xs zs,x= .ref l/\vs=[.ref b]/\H l=some (.lst xs)/\H b=some (.lst zs)/\xs.length+zs.length<=sizeLine/\Q .cI (upd H l (.lst (xs++zs)))
theorem zy:MV X "list.extend" Fv:=by
 intro pins s σ H x vs v us Q I rx rv h;obtain⟨l,b,xs,zs,rfl,rfl,hH,hB,hz,q⟩:=h;cases rx;obtain⟨u,rfl,ru⟩:=rv.one;cases ru;obtain⟨z,its,n,r,hl,e⟩:=I.Bv hH;obtain⟨z2,nQ,n2,r2,Ad,e2⟩:=I.Bv hB;have hsz:its.toArray.size+nQ.toArray.size<=sizeLine:=by rw[List.size_toArray,List.size_toArray];omega
 have hlong:¬(!its.toArray.isEmpty && Builtin.List.listTooLong (its.toArray.size+nQ.toArray.size))=true:=by
  rw[pT hsz,Bool.and_false];exact Bool.false_ne_true
 refine call_meets F.slot_list_extend ⟨_,e,rfl⟩ F.entry_list_extend (F.args_list_extend_2 _ _)
  (AutoSeq1.list_extend_list_list_0 l its.toArray n b nQ.toArray n2 hlong (by rw[List.size_toArray];omega) (by omega)) ⟨e,e2,?_⟩
 refine⟨.cI,_,I.EJ (its':=its++nQ) hH e (by simp) (r.append r2) ?_,rfl,q⟩
 rw[List.length_append];omega
def Uu:V->List V->Hp->VK->Prop:=fun x vs H Q=>∃l xs y,x= .ref l/\vs=[]/\H l=some (.lst xs)/\xs[xs.length - 1]? =some y/\Q y (upd H l (.lst xs.dropLast))
def NP:V->List V->Hp->VK->Prop:=fun x vs H Q=>∃l xs i k y,x= .ref l/\vs=[.int i]/\H l=some (.lst xs)/\ -(2 ^ 63)<=i/\i < 2 ^ 63/\seqIndex? i xs.length=some k/\xs[k]? =some y/\Q y (upd H l (.lst (xs.eraseIdx k)))
def Lc:V->List V->Hp->VK->Prop:=fun x vs H Q=>∃l xs,x= .ref l/\vs=[]/\H l=some (.lst xs)/\Q .cI (upd H l (.lst xs.reverse))
def N4:V->List V->Hp->VK->Prop:=fun x vs H Q=>∃l xs,x= .ref l/\vs=[]/\H l=some (.lst xs)/\Q .cI (upd H l (.lst []))
def RY:R2:=fun x y H Q=>∃l b xs zs,x= .ref l/\y= .ref b/\H l=some (.lst xs)/\H b=some (.lst zs)/\xs.length+zs.length<=sizeLine/\∀p,H p=none->Q (.ref p) (upd H p (.lst (xs++zs)))
def Nu:R2:=fun x y H Q=>∃l k xs,x= .ref l/\y= .int k/\H l=some (.lst xs)/\ -(2 ^ 63)<=k/\k < 2 ^ 63/\xs.length*k.toNat<=sizeLine/\
 ∀p,H p=none->Q (.ref p) (upd H p (.lst (List.replicate k.toNat xs).flatten))
theorem len_rep{α:Type}(xs:List α)(k:Nat):(List.replicate k xs).flatten.length=k*xs.length:=by
 induction k with
 | zero=>simp
 | succ k ih=>rw [List.replicate_succ,List.flatten_cons,List.length_append,ih,Nat.succ_mul,Nat.add_comm]
theorem II:mE X (binaryOp .Mult) Nu:=by
 intro pins s σ H x y v u Q I rx ry h;obtain⟨l,k,xs,rfl,rfl,hH,h1,h2,hz,q⟩:=h;cases rx;obtain⟨t,rfl⟩:=ry;obtain⟨z,its,n,r,hl,e⟩:=I.Bv hH;have hlen:its.toArray.size*k.toNat<=sizeLine:=by rw[List.size_toArray,<-hl];exact hz
 have hcap:¬its.toArray.size*k.toNat > (2 ^ 63 - 1) / 8:=by
  have:(sizeLine:Nat)<=(2 ^ 63 - 1) / 8:=by decide
  omega
 have hfit:¬(!Builtin.List.listFitsIndex k)=true:=by
  rw[fitsIndex_both h1 h2];exact Bool.false_ne_true
 have hlong:¬Builtin.List.listTooLong (its.toArray.size*k.toNat)=true:=by
  rw[pT hlen];exact Bool.false_ne_true
 have hnew:List.foldl (fun x1 x2=>x1++x2) #[] (List.replicate (if its.toArray.isEmpty=true then 0 else k.toNat) its.toArray)=(List.replicate k.toNat its).flatten.toArray:=by
  have f0:∀m:Nat,List.foldl (fun x1 x2=>x1++x2) #[] (List.replicate m its.toArray)=(List.replicate m its).flatten.toArray:=fun m=>by
   have:=foldl_rep its m [];rw[List.nil_append] at this;exact this
  rw[f0];cases its with
  | nil=>simp
  | cons a r'=>rw [if_neg (by simp)]
 refine wpAny_binaryOp_repeat_ref (T:="list") (U:="int") (by decide) ⟨_,e,rfl⟩ (fun s'=>typeIs_int s' k t) noFill_list_mul F.fills_int_mul F.slot_int_rmul repeat_list F.slot_int_index.lookup
  (call_meets F.slot_int_rmul (typeIs_int s k t) F.entry_int_rmul (F.args_int_rmul_2 _ _) (int___rmul___int_list k t l its.toArray n)
    ⟨e,rfl,⟨_,e,rfl⟩,call_meets F.slot_list_mul ⟨_,e,rfl⟩ F.entry_list_mul (F.args_list_mul_2 _ _) (AutoListH.list___mul___list_int_3 l its.toArray n k t hfit hcap hlong) ⟨e,?_⟩⟩)
 rw[hnew];exact⟨.ref _,_,I.DJ (t':=s.toks) (r.rep k.toNat) (by rw[len_rep,Nat.mul_comm];exact hz),rfl,q _ I.fresh⟩
end
section
variable {prog:Program} {w:World} {A:Around} {E:Wq} {s:Shared}
set_option maxRecDepth 100000 in
end
section
variable {X:Cx}
end
end L2
namespace Att
open PySem PySem.W PySem.Calls PyProof.Rows
theorem o8{P:Params}:∀(ns:List Int) (vs:List Value),WellAll P h vs (ns.map WData.int)->IntsAre vs ns:=by
 intro ns
 induction ns with
 | nil=>
   intro vs w;rw[List.map_nil] at w;cases w;exact .nil
 | cons n ns ih=>
   intro vs w;rw[List.map_cons] at w;cases w with
   | cons a b=>
     cases a;exact .cons _ _ (ih _ b)
theorem zl{l:OpenLaw}{n:Nat}(hn:l.most=some n){P:Params}{h:Heap}{args:List WData}{vals:List Value}
 (wc:l.row.toRowW.claim.pre args=true) (Pb:WellAll P h vals args) :
 ∃a vs ns,vals=[Value.ref a]/\args=[WData.list (ns.map WData.int)]/\h.get? a=some {cls:= .type "list",data:= .seq vs.toArray}/\IntsAre vs ns/\ns.length<=n:=by
 have hsh:WShape.hasAll [] args [.list .int]=true:=(pre_splitW wc).1;have hc:l.pre.holds [] {args:=args}=true:=(pre_splitW wc).2;obtain⟨d,r,rfl,h1,h2⟩:=hasAllW_cons hsh;obtain rfl:=hasAllW_nil h2;obtain⟨xs,rfl,h3⟩:=hasW_list h1;obtain⟨ns,rfl⟩:=items_int h3;have hlen:ns.length<=n:=by
  unfold OpenLaw.pre at hc;have h4:(WTm.not (.lt (.lit (.int (n:Int))) (.len (.arg 0)))).holds [] {args:=[.list (ns.map .int)]}=true:=by
   have h4:=(holds_andW hc).1;rw[hn] at h4;exact h4
  have h5:=condW_of h4 (w_not (w_lt w_lit (w_len_list (w_arg rfl))));rw[List.length_map] at h5;refine Nat.le_of_not_lt fun q=>?_
  have q':(n:Int) < ((ns.length:Nat):Int):=by omega
  first
   | (rw [decide_eq_true q'] at h5;exact absurd h5 (by decide))
   | (simp at h5;omega)
 cases Pb with
 | cons w1 w2=>
   cases w2;cases w1 with
   | list ho Af=>exact⟨_,_,ns,rfl,rfl,ho,o8 ns _ Af,hlen⟩
theorem za(l:OpenLaw)(args:List WData):l.row.toRowW.claim.post args (.bool true) args=true:=
 postW_of (r:=l.row.toRowW) (X:=(true==true))
  (show WShape.has [] (.bool true) .bool=true by first | rfl | decide | simp [WShape.has,WShape.arms,WShape.armsAll])
  (show(WTm.eq .res (.lit (.bool true))).value [] {args:=args,res:=some (.bool true),after:=args}=some (.bool (true==true)) from w_eq_bool (w_res rfl) w_lit) rfl
theorem vv{l:OpenLaw}{n:Nat}{q:Program}{loose:List Str}{XP:(Str->Option Value)->Heap->Prop}{YP:World->Heap->Prop}{d:DefRec}
 (hn:l.most=some n) (O8:d.params.defaults=[])
 (call:∀(w:World) (s₀ s₁:Shared) (mg mb:Wu) (fa:Addr) (o:Obj) (pm cd doc:Value) (a:Addr) (vs:List Value) (ns:List Int),
   Ground q loose [] XP w s₀ mg mb s₁.heap->YP w s₁.heap->
   s₁.heap.get? fa=some o->o.data= .func (docDef d.name d.params d.body d.scope pm cd doc)->s₁.heap.CodeRec cd d.name->mg d.name=some (.ref fa)->
   s₁.heap.get? a=some {cls:= .type "list",data:= .seq vs.toArray}->IntsAre vs ns->ns.length<=n->s₁.gens=#[]->
   codeAny (model l.prog w) callerA (.call (.ref fa) ⟨[.ref a],[]⟩) (fun r s'=>r= .ok (.ret (.bool true))/\OldK s₁.heap s'.heap/\s'.os=s₁.os/\AllBare s'.gens) s₁) :
 WalkO q loose XP YP l.row.toRowW d [] (fun f vs=>PySem.call f vs):=by
 intro w s₀ s₁ mg mb G Y fa o pm cd doc dV kV ho hd px hD LP hg args vals as wc hlay hrd Pb hlo;obtain rfl:dV= .none:=Dflts.none hD O8;obtain rfl:kV= .none:=Dflts.noKw hD;obtain⟨a,vs,ns,rfl,rfl,Jc,hints,hlen⟩:=zl hn wc Pb;refine enter_call (codeAny_mono (call w s₀ s₁ mg mb fa o pm cd doc a vs ns G Y ho (fd_plain hd) px LP Jc hints hlen hg) fun r s' hq=>?_)
 obtain⟨rfl,h2,h3,h4⟩:=hq;exact⟨.inl ⟨.bool true, .bool true,[],rfl,fun _=>rfl, .bool true,za l _,fun _=>⟨List.Pairwise.nil,fun _ hm=>(nomatch hm)⟩⟩,h2,h3,h4⟩
section
variable {prog:Program} {w:World} {A:Around} {E:Wq} {s:Shared} {K:Frag}
def N8(h:Heap):Heap:={h with objs:=#[]}
def ledger(h:Heap)(L d:Addr):Wo:=(List.range h.objs.size).filterMap fun a=>if a=L\/a=d then none else(h.get? a).map fun o=>(a,o)
end
end Att
namespace L2
open PySem PySem.Spec PyProof.Rows
theorem r9:∀{vs:List Value} {ns:List Int},IntsAre vs ns->Vals (ns.map V.int) vs
 | _,_, .nil=> .nil
 | _,_, .cons n t h=> .cons ⟨t,rfl⟩ (r9 h)
def Ln(H:Hp):Prop:=∀b,H b=none\/∃o xs,H b=some (.jn o (.lst xs))
abbrev g9{K:W.Frag}{h:Heap}(_:K.In h):W.Frag:=K
def inClass(s:Stmt)(j:Nat):Stmt:=match s with
 | .ClassDef _ _ _ body _ _ _ _ _ _ _=>body.getD j (.Pass ⟨0,0,0,0⟩)
 | _=> .Pass ⟨0,0,0,0⟩
def jW(s:Stmt):Arguments:=match s with
 | .FunctionDef _ a _ _ _ _ _ _ _ _=>a
 | _=>{posonlyargs:=[],args:=[],vararg:=none,kwonlyargs:=[],kw_defaults:=[],kwarg:=none,defaults:=[]}
def bh(s:Stmt):List Stmt:=match s with
 | .FunctionDef _ _ b _ _ _ _ _ _ _=>b
 | _=>[]
def aO(s:Stmt):Scope:=match s with
 | .FunctionDef _ _ _ _ _ _ sc _ _ _=>sc
 | _=>{kind:= .function,names:=[],isGenerator:=false,isCoroutine:=false}
abbrev rB:Aj:=fun _ _ _ _ _ _=>False
abbrev E0:XK:=fun _ _ _=>False
theorem FY{X:Cx}:Passes rB X E0:=fun _ _ _ _ _ _ _ h=>h.elim
structure wK (K:W.Frag) (x qual:Str) (st:Stmt) (f:Addr) (fd:FuncData):Prop where
 ex:∃(oc:Value) (od:Option Addr) (kV doc pm:Value) (an:Option Addr) (d8 ct:Value) (CS:Array (Option Value)),
  fd=PySem.W.fnOf x qual (jW st) (bh st) (aO st) .none kV doc pm an d8 ct/\K.lookup f=some ⟨oc,od, .func fd,CS⟩/\PySem.W.codeIn K d8 qual=true
 kp:PySem.W.keepIn K (.ref f)=true
section
variable {P:Program} {w:World} {K:W.Frag} {mg:Wu} {base:Heap}
theorem wK.ok{x qual:Str}{st:Stmt}{f:Addr}{fd:FuncData}{N ps:List Str}{k:Nat}{sp:Sp}(F:wK K x qual st f fd)(S:bz N ps (aO st))(len:∀vs H Q E,sp vs H Q E->vs.length=ps.length)
 (dS:∀(d8:Value) (A:Around) (outer:List Env) (s:Shared) (H:Hp) (vs:List V) (Q:VK) (E:XK),eJ k (A.deeper (envOfC qual (aO st) s.heap.objs.size f d8))->sp vs H Q E->
   ∃t,sZ (iG rB P w K mg base N qual (aO st) f d8 A outer s H E).BK (bh st) t/\t {nx:=fun _ H'=>Q .cI H',rt:=Q} (start N vs) H):hJ P w K mg base rB (k+1) f fd ps sp:=by
 obtain⟨oc,od,kV,doc,pm,an,d8,ct,CS,rfl,lk,px⟩:=F.ex;refine F8 lk px S len fun A outer s H vs Q E hr Dm=>?_
 obtain⟨t,h,q⟩:=dS d8 A outer s H vs Q E hr Dm;exact⟨t,h.BK,q⟩
theorem wK.binds{x qual:Str}{st:Stmt}{f:Addr}{fd:FuncData}{ps:List Str}(F:wK K x qual st f fd)
 (h:∀(kV doc pm:Value) (an:Option Addr) (d8 ct:Value) (us:List Value),us.length=ps.length->bindArgs (PySem.W.fnOf x qual (jW st) (bh st) (aO st) .none kV doc pm an d8 ct) ⟨us,[]⟩=pure (ps.zip us)):Binds K fd ps []:=by
 obtain⟨oc,od,kV,doc,pm,an,d8,ct,CS,rfl,lk,px⟩:=F.ex;exact .all (h kV doc pm an d8 ct)
theorem IS{x qual:Str}{st:Stmt}{f:Addr}{oc:Value}{od an:Option Addr}{CS:Array (Option Value)}{kV doc pm d8 ct:Value}(l:K.lookup f=some ⟨oc,od, .func (PySem.W.fnOf x qual (jW st) (bh st) (aO st) .none kV doc pm an d8 ct),CS⟩)
 (c:PySem.W.codeIn K d8 qual=true) (k:PySem.W.keepIn K (.ref f)=true):wK K x qual st f (PySem.W.fnOf x qual (jW st) (bh st) (aO st) .none kV doc pm an d8 ct):=⟨⟨oc,od,kV,doc,pm,an,d8,ct,CS,rfl,l,c⟩,k⟩
end
theorem oT{A:Around}{k:Nat}(hr:eJ k A):A.units+1 < cLine:=Nat.lt_of_le_of_lt (Nat.add_le_add_left (by decide:1<=64) _) hr.units
section
variable {X:Cx}
end
theorem BQ{A B:Prop}(h:B):if false=true then A else B:=by
 rw[if_neg Bool.false_ne_true];exact h
theorem AM{A B:Prop}(h:A):if true=true then A else B:=by
 rw[if_pos rfl];exact h
def aU(H H':Hp):Prop:=∀b o,H b=some o->H' b=some o
theorem aU.refl(H:Hp):aU H H:=fun _ _ h=>h
theorem aU.trans(a:aU H H1)(b:aU H1 H2):aU H H2:=fun c o h=>b c o (a c o h)
theorem aU.free{H H':Hp}(e:aU H H'){l:Addr}(h:H' l=Option.none):H l=Option.none:=by
 cases q:H l with
 | none=>rfl
 | some o=>
   rw[e l o q] at h;cases h
section
variable {κ:Type} [DecidableEq κ]
end
end L2
end
section
namespace L2
open PySem PySem.Spec PyProof.Rows
def md(cells:List (Str × Addr)):List (Str × NameKind)->List (Str × Addr)->List (Str × Addr)
 | [],acc=>acc
 | (n,k) ::r,acc=>md cells r (if k==NameKind.free then(n,(cells.lookup n).getD 0) ::acc else acc)
theorem jU{env:Env}:∀(names:List (Str × NameKind)) (acc:List (Str × Addr)),(∀y∈names,y.2= .free->∃c,env.cells.lookup y.1=some c)->
 (forIn names acc fun(x:Str × NameKind) (cs:List (Str × Addr))=>(match x with
   | (name,kind)=>if kind== .free then do let a <-cellOf env name;pure (ForInStep.yield ((name,a) ::cs)) else pure (ForInStep.yield cs):Sem (ForInStep (List (Str × Addr)))))=pure (md env.cells names acc)
 | [],acc,_=>by simp [md]
 | (n,k) ::r,acc,h=>by
   rw[List.forIn_cons];by_cases hk:k=NameKind.free
   .subst hk;obtain⟨c,hc⟩:=h (n, .free) List.mem_cons_self rfl;have e:cellOf env n=pure c:=by unfold cellOf;rw [hc]
    simp only[beq_self_eq_true,if_true,e,pure_bind,md,hc,Option.getD_some];exact jU r _ fun y hy=>h y (List.mem_cons_of_mem _ hy)
   .have hb:(k==NameKind.free)=false:=by simpa using hk
    simp only[hb,Bool.false_eq_true,if_false,pure_bind,md];exact jU r _ fun y hy=>h y (List.mem_cons_of_mem _ hy)
theorem ky{env:Env}{scope:Scope}(h:∀y∈scope.names,y.2= .free->∃c,env.cells.lookup y.1=some c):closureFor scope env=pure (md env.cells scope.names []):=by
 unfold closureFor;have:=jU (env:=env) scope.names [] h;simp only[bind_pure];exact this
theorem iM{cells:List (Str × Addr)}:∀(names:List (Str × NameKind)) (acc:List (Str × Addr)) {x:Str} {c:Addr},(md cells names acc).lookup x=some c->
 acc.lookup x=some c\/((x,NameKind.free)∈names/\c=(cells.lookup x).getD 0)
 | [],acc,x,c,h=> .inl h
 | (n,k) ::r,acc,x,c,h=>by
   rcases iM r _ h with q | ⟨q1,q2⟩
   .by_cases hk:k=NameKind.free
    .subst hk;simp only[beq_self_eq_true,if_true] at q;cases hx:x==n with
     | true=>
       have e:x=n:=by simpa using hx
       subst e;rw[List.lookup_cons,hx] at q;exact .inr ⟨List.mem_cons_self,(Option.some.inj q).symm⟩
     | false=>
       rw[List.lookup_cons,hx] at q;exact .inl q
    .have hb:(k==NameKind.free)=false:=by simpa using hk
     simp only[hb,Bool.false_eq_true,if_false] at q;exact .inl q
   .exact .inr ⟨List.mem_cons_of_mem _ q1,q2⟩
theorem vq{cells:List (Str × Addr)}:∀(names:List (Str × NameKind)) (acc:List (Str × Addr)) {x:Str},((x,NameKind.free)∈names\/∃c,acc.lookup x=some c)->∃c,(md cells names acc).lookup x=some c
 | [],acc,x,h=>by
   rcases h with h | h
   .simp at h
   .exact h
 | (n,k) ::r,acc,x,h=>by
   refine vq r _ ?_;rcases h with h | ⟨c,h⟩
   .rcases List.mem_cons.mp h with e | e
    .cases e;exact .inr ⟨(cells.lookup n).getD 0,by simp [List.lookup_cons]⟩
    .exact .inl e
   .by_cases hk:k=NameKind.free
    .subst hk;simp only[beq_self_eq_true,if_true];cases hx:x==n with
     | true=>exact .inr ⟨(cells.lookup n).getD 0,by rw[List.lookup_cons,hx]⟩
     | false=>exact .inr ⟨c,by rw[List.lookup_cons,hx];exact h⟩
    .have hb:(k==NameKind.free)=false:=by simpa using hk
     simp only[hb,Bool.false_eq_true,if_false];exact .inr ⟨c,h⟩
theorem sY:∀(names:List (Str × NameKind)) (n:Nat) (acc:List (Str × Addr)) {x:Str},(x,NameKind.cell) ∉ names->(cellsFrom n names acc).lookup x=acc.lookup x
 | [],_,_,_,_=>rfl
 | (y,k) ::r,n,acc,x,h=>by
   unfold cellsFrom;split
   .rename_i hk;have hk:k= .cell:=by simpa using hk
    subst hk;rw[sY r _ _ fun z=>h (List.mem_cons_of_mem _ z),List.lookup_cons]
    cases hx:x==y with
    | true=>
      have e:x=y:=by simpa using hx
      subst e;exact absurd List.mem_cons_self h
    | false=>rfl
   .exact sY r _ _ fun z=>h (List.mem_cons_of_mem _ z)
theorem mG:∀(names:List (Str × NameKind)) (n:Nat) (acc:List (Str × Addr)),cellsFrom n names acc=cellsFrom n names []++acc
 | [],_,_=>rfl
 | (y,k) ::r,n,acc=>by
   unfold cellsFrom;split
   .rw [mG r (n+1) ((y,n) ::acc),mG r (n+1) [(y,n)],List.append_assoc];rfl
   .exact mG r n acc
theorem wG{a b:List (Str × Addr)}{c:Addr}(h:(a++b).lookup x=some c):(x,c)∈a\/b.lookup x=some c:=by
 induction a with
 | nil=>exact .inr h
 | cons y r ih=>
   obtain⟨n,v⟩:=y;rw[List.cons_append,List.lookup_cons] at h;cases hx:x==n with
   | true=>
     rw[hx] at h;have e:x=n:=by simpa using hx
     subst e;cases h;exact .inl List.mem_cons_self
   | false=>
     rw[hx] at h;exact(ih h).imp (List.mem_cons_of_mem _) id
theorem lu{a b:List (Str × Addr)}(h:∃c,b.lookup x=some c):∃c,(a++b).lookup x=some c:=by
 induction a with
 | nil=>exact h
 | cons y r ih=>
   rw[List.cons_append,List.lookup_cons];cases x==y.1 with
   | true=>exact⟨_,rfl⟩
   | false=>exact ih
theorem t_{a b:List (Str × Addr)}{c:Addr}(h:a.lookup x=some c):∃c,(a++b).lookup x=some c:=by
 induction a with
 | nil=>cases h
 | cons y r ih=>
   rw[List.cons_append,List.lookup_cons];rw[List.lookup_cons] at h;cases hx:x==y.1 with
   | true=>exact⟨_,rfl⟩
   | false=>rw [hx] at h;exact ih h
theorem sk{M:Model}{A:Around}{E:Wq}{s:Shared}{scope:Scope}{cl:List (Str × Addr)}{qual:Str}{env:Env}{Q:Env->Shared->Prop}(hQ:∀h',h'.Ns s.heap.objs.size (fun _=>none)->(∀b o,s.heap.get? b=some o->h'.get? b=some o)->CellsOk h' (s.heap.objs.size+1) (cellsFrom (s.heap.objs.size+1) scope.names [])->
 Q (newEnv scope s.heap.objs.size env.globals (cellsFrom (s.heap.objs.size+1) scope.names cl) qual none .none (some env) builtinsNs) {s with heap:=h'}) :
 wpAny M A (newFunctionEnv scope env.globals cl [] qual none .none (some env)) Q E s:=by
 simp only[newFunctionEnv,Option.isSome_some,if_true];refine wpAny_bind (wpAny_alloc ?_);refine wpAny_bind (wpAny_layCells _ (fun name kind cells=>by cases hkc:kind==NameKind.cell <;> simp [hkc]) _ _ _ _ ?_)
 have ok:=cellsFrom_ok scope.names (s.heap.push {cls:= .type "dict",data:= .dict #[]}) (s.heap.objs.size+1) [] ⟨fun _ _ hm=>(nomatch hm),List.Pairwise.nil⟩ (by rw[Heap.size_push];exact Nat.le_refl _)
 rw[Heap.size_push] at ok;rw[show({s with heap:=s.heap.push {cls:= .type "dict",data:= .dict #[]}}:Shared).heap.objs.size=s.heap.objs.size+1 from Heap.size_push ..]
 rw[List.forIn_nil];refine wpAny_bind (wpAny_pure (wpAny_pure ?_));exact hQ _ ((Heap.Ns.new s.heap (.type "dict")).keeps (pushCells_keeps _ _)) (fun b o e=>pushCells_keeps _ _ b o (Heap.get?_push_of_some _ e)) ok
def bt(X:Cx)(scope:Scope)(N':List Str)(fp:List Addr)(s:Shared)(H:Hp):Cx where
 prog:=X.prog
 w:=X.w
 K:=X.K
 mg:=X.mg
 base:=X.base
 A:=X.A
 N:=N'
 s₀:=s
 H₀:=H
 env:=compEnvC scope (cellsFrom (s.heap.objs.size+1) scope.names (md X.env.cells scope.names [])) s.heap.objs.size X.env
 outer:=X.stack
 stack:=X.stack
 ex:=fp
 fn:=fun x=>scope.names.lookup x==some .cell
 calm:=X.calm
 pn:=[]
 xe:=fun _ _=>False
structure fq (X:Cx) (scope:Scope) (own:List Str) (kp:List Nat) (kn:List Str):Prop where
 kind:scope.kind= .function
 cel:∀y∈scope.names,y.2= .cell->scope.names.lookup y.1=some .cell
 nd:∀y∈scope.names,y.2= .local->scope.names.lookup y.1=some .local
 free:∀y∈scope.names,y.2= .free->X.env.kindOf y.1=some .cell\/X.env.kindOf y.1=some .free
 frl:∀y∈scope.names,y.2= .free->scope.names.lookup y.1=some .free
 names:kn.length=kp.length
 at_:∀(j i:Nat) (x:Str),kp[j]? =some i->kn[j]? =some x->X.N[i]? =some x
 isfree:∀x∈kn,scope.names.lookup x=some .free
def cR(own:List Str)(kp:List Nat)(σ:St):St:=List.replicate own.length none++kp.map fun i=>(σ[i]?).getD none
section
variable {X:Cx} {scope:Scope} {own:List Str} {kp:List Nat} {kn:List Str}
theorem dE{env:Env}:∀{names:List (Str × NameKind)} {x:Str} {k:NameKind},
 (names.map fun(n,k)=>if(k==NameKind.free && env.scope.kind== .function && env.kindOf n==some .cell) then(n,NameKind.cell) else(n,k)).lookup x=some k->
 names.lookup x=some k\/(k= .cell/\names.lookup x=some .free)
 | [],_,_,h=>by simp at h
 | (n,k) ::r,x,k',h=>by
   have ih:=@dE env r x k';have h:List.lookup x ((if(k==NameKind.free && env.scope.kind== .function && env.kindOf n==some .cell)=true then(n,NameKind.cell) else(n,k)) ::_)=some k':=h
   by_cases hc:(k==NameKind.free && env.scope.kind== .function && env.kindOf n==some .cell)=true
   .rw [if_pos hc] at h;have hkf:k= .free:=by
     simp only[Bool.and_eq_true,beq_iff_eq] at hc;exact hc.1.1
    cases hx:x==n with
    | true=>
      rw[List.lookup_cons,hx] at h;cases h;exact .inr ⟨rfl,by rw[List.lookup_cons,hx,hkf]⟩
    | false=>
      rw[List.lookup_cons,hx] at h;rw[List.lookup_cons,hx];exact ih h
   .rw [if_neg hc] at h;cases hx:x==n with
    | true=>
      rw[List.lookup_cons,hx] at h;rw[List.lookup_cons,hx];exact .inl h
    | false=>
      rw[List.lookup_cons,hx] at h;rw[List.lookup_cons,hx];exact ih h
theorem mS{pins:Wo}{s:Shared}(C:fq X scope own kp kn)(I:Inv X pins σ H s):∀y∈scope.names,y.2= .free->∃c,X.env.cells.lookup y.1=some c:=fun y hy hf=>
 I.ok.has y.1 (C.free y hy hf)
theorem AS{pins:Wo}{σ:St}{H:Hp}{s:Shared}{fp:List Addr}{kO:Heap}{tk:Nat}(C:fq X scope own kp kn)(I:Inv X pins σ H s)(hf:∀b∈fp,o9 X pins H b)(hb:∀b∈fp,b < s.heap.objs.size)
 (hn:kO.Ns s.heap.objs.size (fun _=>none)) (hk:∀b o,s.heap.get? b=some o->kO.get? b=some o) (hC:CellsOk kO (s.heap.objs.size+1) (cellsFrom (s.heap.objs.size+1) scope.names [])):Inv (bt X scope (own++kn) fp s H) [] (cR own kp σ) H {s with heap:=kO,toks:=tk}:=by
 have cl:∀x c,(md X.env.cells scope.names []).lookup x=some c->X.env.cells.lookup x=some c:=fun x c e=>by
  rcases iM scope.names [] e with q | ⟨q1,q2⟩
  .simp at q
  .obtain⟨c',yY⟩:=mS C I (x, .free) q1 rfl;have yY:X.env.cells.lookup x=some c':=yY;rw[yY] at q2;rw[yY,q2];rfl
 have clA:∀x c,(cellsFrom (s.heap.objs.size+1) scope.names (md X.env.cells scope.names [])).lookup x=some c->(x,c)∈cellsFrom (s.heap.objs.size+1) scope.names []\/(md X.env.cells scope.names []).lookup x=some c:=fun x c e=>by
  rw[mG] at e;exact wG e
 have old:∀x c,(md X.env.cells scope.names []).lookup x=some c->c < s.heap.objs.size:=fun x c e=>by
  obtain⟨v,h⟩:=I.cell x c (cl x c e);exact h.lt
 have new:∀x c,(x,c)∈cellsFrom (s.heap.objs.size+1) scope.names []->s.heap.objs.size<=c:=fun x c e=>Nat.le_of_lt (hC.empty x c e).2
 have clh:∀x,scope.names.lookup x=some .free->∃c,(md X.env.cells scope.names []).lookup x=some c:=fun x hx=>vq scope.names [] (.inl (PySem.mem_of_lookup hx))
 refine⟨⟨I.ok.mod,C.kind,I.ok.glob,I.ok.blt,Nat.le_refl _,fun x y c h1 h2=>?inj,fun x hx=>?_,fun x c hn h=>?cab,I.ok.hd,I.ok.frames, .inl rfl,fun b ma=>⟨Nat.ne_of_lt (hb b ma),fun x c e z=>?exf⟩,
  fun b o e=>I.bs b o e,Nat.le_trans I.ok.bsz I.sz,fun b o e ma=>?_,fun b ma hs=>?_,I.stack,I.l5⟩,
  rfl,I.bare,Un.kept hk,⟨_,hn,fun i x v h1 h2 h3=>?_⟩,fun x c e=>?_,I.hok.fresh (Nat.le_refl _),fun x c e=>?frc,fun p hp=>(by cases hp),I.hok.kept hk,?_⟩
 case inj=>
  rcases clA x c h1 with a | a <;> rcases clA y c h2 with b | b
  .exact name_of_addr hC.apart a b
  .exact absurd (Nat.lt_of_lt_of_le (old y c b) (new x c a)) (Nat.lt_irrefl _)
  .exact absurd (Nat.lt_of_lt_of_le (old x c a) (new y c b)) (Nat.lt_irrefl _)
  .exact I.ok.inj x y c (cl x c a) (cl y c b)
 case cab=>
  have hn:(scope.names.lookup x==some .cell)=true:=hn;rcases clA x c h with a | a
  .exact new x c a
  .rcases iM scope.names [] a with q | ⟨q1,q2⟩
   .simp at q
   .have hx:scope.names.lookup x=some .cell:=by simpa using hn
    have h7:scope.names.lookup x=some .free:=C.frl _ q1 rfl;rw[hx] at h7;cases h7
 case exf=>
  rcases clA x c e with a | a
  .subst z;exact absurd (Nat.lt_of_lt_of_le (hb _ ma) (new x _ a)) (Nat.lt_irrefl _)
  .exact(hf b ma).2.2.2.2.1 x c (cl x c a) z
 case frc=>
  rcases clA x c e with a | a
  .exact I.hok.fresh (new x c a)
  .exact I.freeC x c (cl x c a)
 .have hx:(relabel scope X.env).names.lookup x=some .cell\/(relabel scope X.env).names.lookup x=some .free:=hx;show ∃c,(cellsFrom (s.heap.objs.size+1) scope.names (md X.env.cells scope.names [])).lookup x=some c;rcases hx with hx | hx
  .rcases dE hx with q | ⟨_,q⟩
   .rw [mG];obtain⟨c,hc⟩:=qC (n:=s.heap.objs.size+1) q;exact t_ hc
   .rw [mG];exact lu (clh x q)
  .rcases dE hx with q | ⟨q,_⟩
   .rw [mG];exact lu (clh x q)
   .cases q
 .rcases(hf b ma).2.2.2.1 with z | z
  .exact I.ok.noex b o e z
  .exact absurd (Nat.lt_of_lt_of_le (Heap.lt_size (I.ok.bs b o e).1) z) (Nat.lt_irrefl _)
 .rcases List.mem_cons.mp (I.wD b hs) with z | z
  .exact(hf b ma).2.1 z
  .exact(hf b ma).2.2.1 z
 .-- a kept name
  have h1:(own++kn)[i]? =some x:=h1;have h2:(cR own kp σ)[i]? =some (some v):=h2;unfold cR at h2;by_cases hi:i < own.length
  .rw [List.getElem?_append_left (by simpa using hi),List.getElem?_replicate] at h2
   split at h2 <;> cases h2
  .rw [List.getElem?_append_right (by simpa using hi),List.length_replicate,List.getElem?_map] at h2
   rw[List.getElem?_append_right (by simpa using hi)] at h1
   cases e:kp[i - own.length]? with
   | none=>rw [e] at h2;cases h2
   | some j=>
     rw[e] at h2;have h2:(σ[j]?).getD none=some v:=Option.some.inj h2;have hj:X.N[j]? =some x:=C.at_ _ j x e h1;have FF:σ[j]? =some (some v):=by
      cases q:σ[j]? with
      | none=>rw [q] at h2;cases h2
      | some y=>rw [q] at h2;exact congrArg some h2
     have hfree:scope.names.lookup x=some .free:=C.isfree x (List.mem_of_getElem? h1);have hkind:=C.free (x, .free) (PySem.mem_of_lookup hfree) rfl;obtain⟨m,hm,hl⟩:=I.loc;obtain⟨u,r,l⟩:=hl j x v hj FF (hkind.elim (fun q=>Or.inr (Or.inl q)) fun q=>Or.inr (Or.inr q))
     refine⟨u,r, .inr ⟨?_,?_⟩⟩
     .have h3:(relabel scope X.env).names.lookup x=some .local\/(relabel scope X.env).names.lookup x=some .cell\/(relabel scope X.env).names.lookup x=some .free:=h3;rcases h3 with q | q | q
      .rcases dE q with z | ⟨z,_⟩
       .rw [hfree] at z;cases z
       .cases z
      .exact .inl q
      .exact .inr q
     .rcases l with⟨k,_⟩ | ⟨_,c,hc,hcell⟩
      .rcases hkind with q | q
       .rw [show X.env.kindOf x=some .cell from q] at k;cases k
       .rw [show X.env.kindOf x=some .free from q] at k;cases k
      .obtain⟨c',yY⟩:=clh x hfree;have:=cl x c' yY;rw[hc] at this;cases this;obtain⟨o,ho,hd⟩:=hcell;exact⟨c,(sY _ _ _ fun z=>by have:=C.cel _ z rfl;rw [hfree] at this;cases this).trans yY,o,hk c o ho,hd⟩
 .rcases clA x c e with a | a
  .exact⟨_,(hC.empty x c a).1⟩
  obtain⟨v,o,ho,hd⟩:=I.cell x c (cl x c a);exact⟨v,o,hk c o ho,hd⟩
 .show(cR own kp σ).length=(own++kn).length;unfold cR;rw[List.length_append,List.length_replicate,List.length_map,List.length_append,C.names]
theorem rh{pins:Wo}{s s':Shared}{fp:List Addr}{N':List Str}(I:Inv X pins σ H s)(hf:∀b∈fp,o9 X pins H b)(J:Inv (bt X scope N' fp s H) [] b8 H' s'):Inv X pins σ H' s':=
 I.Gk (ch:=fp) J.os J.base J.hok J.bare fun b hb=>⟨(hf b hb).2.2.2.1,(hf b hb).2.1,(hf b hb).2.2.2.2.1,(hf b hb).2.2.2.2.2⟩
end
def oC(X:Cx)(ifs:List Expr)(t:TT):Prop:=
 ∀(pins:Wo) (s:Shared) (σ:St) (H:Hp) (Q:Bool->Hp->Prop),Inv X pins σ H s->t σ H Q->
  wpAny (model X.prog X.w) X.A (forIn ifs true fun c r=>if r=true then do let ok <-isTrue c X.env (eval c X.env);pure (ForInStep.yield ok) else pure (ForInStep.yield r)) (TP X pins σ Q) X.xe s
def Ol:TT:=fun _ H Q=>Q true H
theorem vV{X:Cx}:oC X [] Ol:=fun _ _ _ H _ I h=>wpAny_tests_nil ⟨H,I,h⟩
theorem uF{X:Cx}{t:TT}(h:PT X c t):oC X [c] t:=fun pins s σ H Q I hq=>wpAny_tests_one (h pins s σ H Q I hq)
def yW(wi:TI)(g:TG)(tc:TT)(te:TE)(own:List Str)(kp:List Nat):TE:=fun σ H Q=>wi σ H fun J H1=>∀D,H1 D=none->
 ∃W:Nat->Nat->List V->Hp->Prop,(∃m,W 0 m [] (upd H1 D (.lst [])))/\∀i m ys H,W i m ys H->
  (J.stop i H/\Q (.ref D) H)\/(J.go i H/\∀x H',J.yld i H x H'->g x (cR own kp σ) H' fun rq H2=>tc rq H2 fun c H3=>
    if c=true then te rq H3 fun y H4=>H4 D=some (.lst ys)/\ys.length < sizeLine/\∃m',m' < m/\W (i+1) m' (ys++[y]) (upd H4 D (.lst (ys++[y])))
    else ∃m',m' < m/\W (i+1) m' ys H3)
section
variable {X:Cx} {scope:Scope} {own:List Str} {kp:List Nat} {kn:List Str} {tg iter elt:Expr} {ifs:List Expr} {wi:TI} {g:TG} {tc:TT} {te:TE} {pos:Pos}
theorem uJ{pins:Wo}{σ:St}{H:Hp}{s:Shared}{fp:List Addr}{it D:Addr}{tn:Nat->Heap->Prop}{J:It}{Q:VK}{kO:Heap}{tk:Nat}{R:Result->Shared->Prop}
 (hc:X.calm=true) (C:fq X scope own kp kn) (I:Inv X pins σ H s) (hf:∀b∈fp,o9 X pins H b) (hb:∀b∈fp,b < s.heap.objs.size) (T:Turn X.prog X.w X.K tg J fp it tn)
 (hg:PG (bt X scope (own++kn) fp s H) tg g) (hi:oC (bt X scope (own++kn) fp s H) ifs tc) (he:PE (bt X scope (own++kn) fp s H) elt te)
 (hn:kO.Ns s.heap.objs.size (fun _=>none)) (hk:∀b o,s.heap.get? b=some o->kO.get? b=some o) (hC:CellsOk kO (s.heap.objs.size+1) (cellsFrom (s.heap.objs.size+1) scope.names [])) (st:tn 0 s.heap)
 (W:Nat->Nat->List V->Hp->Prop) (w0:∃m,W 0 m [] H)
 (turn:∀i m ys H,W i m ys H->
   (J.stop i H/\Q (.ref D) H)\/(J.go i H/\∀x H',J.yld i H x H'->g x (cR own kp σ) H' fun rq H2=>tc rq H2 fun c H3=>
     if c=true then te rq H3 fun y H4=>H4 D=some (.lst ys)/\ys.length < sizeLine/\∃m',m' < m/\W (i+1) m' (ys++[y]) (upd H4 D (.lst (ys++[y])))
     else ∃m',m' < m/\W (i+1) m' ys H3))
 (hR:∀H' s' b8,Inv (bt X scope (own++kn) fp s H) [] b8 H' s'->Q (.ref D) H'->R (.ok .next) s') :
 codeAny (model X.prog X.w) X.A (.compStart (.ListComp elt [⟨tg,iter,ifs,0⟩] scope pos) 0 (.ref it) (.ref D) (bt X scope (own++kn) fp s H).env) R {s with heap:=kO,toks:=tk}:=by
 have I1:Inv (bt X scope (own++kn) fp s H) [] (cR own kp σ) H {s with heap:=kO,toks:=tk}:=AS C I hf hb hn hk hC
 have Ri:tn 0 kO:=T.keep _ _ _ st fun b _ o e=>hk b o e
 have fp1:∀{H':Hp} {p:Wo},(∀b∈fp,H' b=none)->(∀b∈fp,∀q∈p,q.1≠b)->∀b∈fp,o9 (bt X scope (own++kn) fp s H) p H' b:=fun {H' p} hn hp b ma=>
  ⟨hn b ma,(I1.ok.exf b ma).1,I1.ok.exfs b ma, .inl ma,fun x c e=>(I1.ok.exf b ma).2 x c e,fun q hq=>hp b ma q hq⟩
 obtain⟨m0,w0⟩:=w0;have loop:codeAny (model X.prog X.w) X.A (.compLoop (.ListComp elt [⟨tg,iter,ifs,0⟩] scope pos) 0 (.ref it) (.ref D) (bt X scope (own++kn) fp s H).env) R {s with heap:=kO,toks:=tk}:=by
  refine codeAny_loop rfl (fun n s'=>∃i ys H',Inv (bt X scope (own++kn) fp s H) [] (cR own kp σ) H' s'/\tn i s'.heap/\(∀b∈fp,H' b=none)/\W i n ys H') (fun n s' hI=>?_) m0 ⟨0,[],H,I1,Ri,fun b ma=>(hf b ma).1,w0⟩
  obtain⟨i,ys,H3,I3,FL,L4,w3⟩:=hI;show wpAny _ _ ((compTurn (.ListComp elt [⟨tg,iter,ifs,0⟩] scope pos) 0 (.ref it) (.ref D) (bt X scope (own++kn) fp s H).env).onRaise (fun x=>do noteFrame x (bt X scope (own++kn) fp s H).env;theTreesLotGoes x)) _ _ s'
  refine wpAny_noted (wpAny_noRaise ?_);rw[compTurn_list];refine wpAny_bind (wpAny_standAt (wpAny_bind ?_));rcases turn i n ys H3 w3 with⟨stop,q⟩ | ⟨go,step⟩
  .refine di (T.done (bt X scope (own++kn) fp s H) rfl rfl rfl hc i [] s' _ H3 _ I3 (fp1 L4 (fun _ _ q hq=>by cases hq)) FL stop) fun r s4 ⟨hr,I4⟩=>?_
   subst hr;exact wpAny_pure (hR H3 s4 _ I4 q)
  .refine di (T.item (bt X scope (own++kn) fp s H) rfl rfl rfl hc i [] s' _ H3 _ I3 (fp1 L4 (fun _ _ q hq=>by cases hq)) FL go) fun r s4 ⟨u,hr,h4⟩=>?_
   subst hr;refine wpAny_bind (di h4 fun _ s5 ⟨x,H5,I5,r5,y5,Jk,Pz⟩=>?_)
   have I5':=I5.pinned (fp1 Pz (fun _ _ q hq=>by cases hq)) (T.obj _ _ Jk)
   have keepIt:∀{wb:St} {H7:Hp} {s7:Shared},Inv (bt X scope (own++kn) fp s H) ([]++mL fp s5.heap) wb H7 s7->tn (i+1) s7.heap/\∀b∈fp,H7 b=none:=fun {wb H7 s7} I7=>by
    refine⟨T.keep _ _ _ Jk fun b hb o e=>(I7.pin (b,o) (List.mem_append_right _ (List.mem_append_right _ (jZ hb e)))).1,fun b hb=>?_⟩
    obtain⟨o,e,d⟩:=T.obj _ _ Jk b hb;exact(I7.pin (b,o) (List.mem_append_right _ (List.mem_append_right _ (jZ hb e)))).2.1
   have reset:∀{wb:St} {H7:Hp} {s7:Shared},Inv (bt X scope (own++kn) fp s H) ([]++mL fp s5.heap) wb H7 s7->Inv (bt X scope (own++kn) fp s H) [] (cR own kp σ) H7 s7:=fun {wb H7 s7} I7=>by
    have I8:=I7.nu;have hun:Un (mD X.stack) fp H H7 s.heap s7.heap:=I8.base;have I9:Inv X pins σ H7 s7:=rh I hf I8;refine⟨I8.ok,I8.os,I8.bare,I8.base,?_,I8.cell,I8.free,I8.freeC,I8.pin,I8.hok,I1.len⟩;obtain⟨m,hm,_⟩:=I8.loc;refine⟨m,hm,fun i x v h1 h2 h3=>?_⟩
    obtain⟨m1,V9,Gy⟩:=I1.loc;obtain⟨u1,r1,l1⟩:=Gy i x v h1 h2 h3;have h1:(own++kn)[i]? =some x:=h1;have h2:(cR own kp σ)[i]? =some (some v):=h2;unfold cR at h2;by_cases hi:i < own.length
    .rw [List.getElem?_append_left (by simpa using hi),List.getElem?_replicate] at h2
     split at h2 <;> cases h2
    .rw [List.getElem?_append_right (by simpa using hi),List.length_replicate,List.getElem?_map] at h2
     rw[List.getElem?_append_right (by simpa using hi)] at h1
     cases e:kp[i - own.length]? with
     | none=>rw [e] at h2;cases h2
     | some j=>
       rw[e] at h2;have h2:(σ[j]?).getD none=some v:=Option.some.inj h2;have hj:X.N[j]? =some x:=C.at_ _ j x e h1;have FF:σ[j]? =some (some v):=by
        cases q:σ[j]? with
        | none=>rw [q] at h2;cases h2
        | some y=>rw [q] at h2;exact congrArg some h2
       have hfree:scope.names.lookup x=some .free:=C.isfree x (List.mem_of_getElem? h1);have hkind:=C.free (x, .free) (PySem.mem_of_lookup hfree) rfl;obtain⟨m9,V7,U5⟩:=I9.loc;obtain⟨u,r,l⟩:=U5 j x v hj FF (hkind.elim (fun q=>Or.inr (Or.inl q)) fun q=>Or.inr (Or.inr q))
       refine⟨u,r, .inr ?_⟩;rcases l1 with⟨k,k2⟩ | ⟨k,c,hc,hcell⟩
       .have k:(relabel scope X.env).names.lookup x=some .local:=k;rcases dE k with z | ⟨z,_⟩
        .rw [hfree] at z;cases z
        .cases z
       .refine⟨k,c,hc,?_⟩;rcases l with⟨k',_⟩ | ⟨_,c',yY,Jr⟩
        .rcases hkind with q | q
         .rw [show X.env.kindOf x=some .cell from q] at k';cases k'
         .rw [show X.env.kindOf x=some .free from q] at k';cases k'
        .have L6:(md X.env.cells scope.names []).lookup x=some c:=(sY _ _ _ fun z=>by have:=C.cel _ z rfl;rw [hfree] at this;cases this).symm.trans hc
         rcases iM scope.names [] L6 with q | ⟨q1,q2⟩
         .simp at q
         .rw [yY] at q2;have q2:c=c':=q2;rw[q2];exact Jr
   have hmm:=hg ([]++mL fp s5.heap) s5 (cR own kp σ) H5 x u _ I5' r5 (step x H5 y5);refine wpAny_bind (di hmm fun _ s6 ⟨LY,H6,I6,q6⟩=>?_)
   refine wpAny_bind (di (hi _ s6 LY H6 _ I6 q6) fun ok s7 ⟨H7,I7,q7⟩=>?_)
   cases ok with
   | false=>
     simp only[Bool.false_eq_true,if_false] at q7 ⊢;obtain⟨m',JA,w7⟩:=q7;obtain⟨a1,a2⟩:=keepIt I7;exact wpAny_pure ⟨rfl,m',JA,i+1,ys,H7,reset I7,a1,a2,w7⟩
   | true=>
     simp only[if_true] at q7 ⊢;refine wpAny_bind (wpAny_bind (di (he _ s7 LY H7 _ I7 q7) fun yv s8 ⟨y,H8,I8,r8,hD,hlt,m',JA,w8⟩=>wpAny_bind ?_))
     obtain⟨a1,a2⟩:=keepIt I8;refine di (sR _ s8 LY H8 (.ref D) [y] (.ref D) [yv] (fun v H9=>v= .cI/\H9=upd H8 D (.lst (ys++[y]))) I8 rfl (.cons r8 .nil) ⟨D,ys,y,rfl,rfl,hD,hlt,rfl,rfl⟩) fun _ s9 ⟨v9,H9,I9,_,_,e9⟩=>?_
     subst e9;obtain⟨b1,b2⟩:=keepIt I9;exact wpAny_pure (wpAny_pure ⟨rfl,m',JA,i+1,ys++[y],_,reset I9,b1,b2,w8⟩)
 exact codeAny_compStart_list loop (T.self _ _ _ _ _ Ri loop)
theorem DI(hc:X.calm=true)(C:fq X scope own kp kn)(hi:PI X tg iter wi)(hg:∀fp s H,PG (bt X scope (own++kn) fp s H) tg g)(Ae:∀fp s H,oC (bt X scope (own++kn) fp s H) ifs tc)
 (he:∀fp s H,PE (bt X scope (own++kn) fp s H) elt te) (hs:∀x,foldedSetIterable iter X.env x=pure x:=by intro _;rfl):PE X (.ListComp elt [⟨tg,iter,ifs,0⟩] scope pos) (yW wi g tc te own kp):=by
 intro pins s σ H Q I h;rw[eval_ListComp];refine wpAny_comprehension_free (use:=none) rfl hs (ky (mS C I)) C.kind C.nd (di (hi pins s σ H _ I h) fun v s1 h1=>di h1 fun MH s2 h2=>?_)
 obtain⟨it,fp,tn,J,H2,e,I2,T,Jg,f2,q⟩:=h2;subst e;refine wpAny_newObj_type ?_;have I3:Inv X pins σ (upd H2 s2.heap.objs.size (.lst [])) {s2 with heap:=s2.heap.push {cls:= .type "list",dict:=none,data:= .seq ([]:List Value).toArray}}:=I2.DJ (its:=[]) (t':=s2.toks) .nil (Nat.zero_le _)
 obtain⟨W,w0,turn⟩:=q s2.heap.objs.size I2.fresh;have fne:∀b∈fp,b < s2.heap.objs.size:=fun b hb=>let⟨o,e,_⟩:=T.obj _ _ Jg b hb;Heap.lt_size e
 have f3:∀b∈fp,o9 X pins (upd H2 s2.heap.objs.size (.lst [])) b:=fun b hb=>⟨by rw[bf (Nat.ne_of_lt (fne b hb))];exact(f2 b hb).1,(f2 b hb).2⟩
 generalize hs3:({s2 with heap:=s2.heap.push {cls:= .type "list",dict:=none,data:= .seq ([]:List Value).toArray}}:Shared)=s3 at I3 ⊢
 have FL:tn 0 s3.heap:=by rw[<-hs3];exact T.keep _ _ _ Jg fun b _ o e=>Heap.get?_push_of_some _ e
 have fne3:∀b∈fp,b < s3.heap.objs.size:=fun b hb=>by rw[<-hs3];exact Nat.lt_of_lt_of_le (fne b hb) (by rw[Heap.size_push];exact Nat.le_succ _)
 refine sk fun kO xH hk hC=>?_
 refine uJ (D:=s2.heap.objs.size) hc C I3 f3 fne3 T (hg fp s3 _) (Ae fp s3 _) (he fp s3 _) xH hk hC FL W w0 turn fun H' s' b8 J' hq=>?_
 have B:=rh I3 f3 J';obtain⟨m',JA,_⟩:=J'.loc;refine⟨m',JA,fun h' sb=>⟨.ref s2.heap.objs.size,H',?_,rfl,hq⟩⟩
 have fC:=I3.zk (H':=H') (b:=s3.heap.objs.size) (Nat.le_refl _) J'.free;exact B.turned (it:=s3.heap.objs.size) (t':=s'.toks) (fun b o hb e=>(sb.2 b hb).trans e) fC.1 fC.2.1 fC.2.2.2.1 fC.2.2.2.2.1 fC.2.2.2.2.2
theorem qW{i:Nat}{x:Str}{pos' rn:Pos}(hc:X.calm=true)(hN:X.N.Nodup)(hx:X.N[i]? =some x)(CJ:X.env.scope.names.lookup x=some .local)(C:fq X scope own kp kn)(hi:PI X tg iter wi)
 (hg:∀fp s H,PG (bt X scope (own++kn) fp s H) tg g) (Ae:∀fp s H,oC (bt X scope (own++kn) fp s H) ifs tc)
 (he:∀fp s H,PE (bt X scope (own++kn) fp s H) elt te)
 (v8:swapsWith (.ListComp elt [⟨tg,iter,ifs,0⟩] scope pos) (some (.Name x pos')) rn.line X.env=pure true:=by rfl)
 (hs:∀x,foldedSetIterable iter X.env x=pure x:=by intro _;rfl) :
 PS X (.Assign [.Name x pos'] (.ListComp elt [⟨tg,iter,ifs,0⟩] scope pos) rn) (zd (yW wi g tc te own kp) (qg i)):=by
 intro pins s σ H D I h;rw[exec_Assign_Name_used _ _ _ _ v8];refine wpAny_bind (wpAny_standAt (wpAny_bind ?_));show wpAny _ X.A (do let _ <-comprehension (.ListComp elt [⟨tg,iter,ifs,0⟩] scope pos) scope X.env _ (newList []) false (eval iter X.env) (some (assign (.Name x pos') X.env))) _ _ s
 refine wpAny_bind (wpAny_mono (wpAny_comprehension_free (use:=some (assign (.Name x pos') X.env)) (Q:=fun _ s'=>SP X pins D .next s') rfl hs (ky (mS C I)) C.kind C.nd
  (di (hi pins s σ H _ I h) fun v s1 h1=>di h1 fun MH s2 h2=>?_)) (fun _ s' hq=>wpAny_pure (wpAny_pure hq)) fun _ _ e=>e)
 obtain⟨it,fp,tn,J,H2,e,I2,T,Jg,f2,q⟩:=h2;subst e;refine wpAny_newObj_type ?_;have I3:Inv X pins σ (upd H2 s2.heap.objs.size (.lst [])) {s2 with heap:=s2.heap.push {cls:= .type "list",dict:=none,data:= .seq ([]:List Value).toArray}}:=I2.DJ (its:=[]) (t':=s2.toks) .nil (Nat.zero_le _)
 obtain⟨W,w0,turn⟩:=q s2.heap.objs.size I2.fresh;have fne:∀b∈fp,b < s2.heap.objs.size:=fun b hb=>let⟨o,e,_⟩:=T.obj _ _ Jg b hb;Heap.lt_size e
 have f3:∀b∈fp,o9 X pins (upd H2 s2.heap.objs.size (.lst [])) b:=fun b hb=>⟨by rw[bf (Nat.ne_of_lt (fne b hb))];exact(f2 b hb).1,(f2 b hb).2⟩
 generalize hs3:({s2 with heap:=s2.heap.push {cls:= .type "list",dict:=none,data:= .seq ([]:List Value).toArray}}:Shared)=s3 at I3 ⊢
 have FL:tn 0 s3.heap:=by rw[<-hs3];exact T.keep _ _ _ Jg fun b _ o e=>Heap.get?_push_of_some _ e
 have fne3:∀b∈fp,b < s3.heap.objs.size:=fun b hb=>by rw[<-hs3];exact Nat.lt_of_lt_of_le (fne b hb) (by rw[Heap.size_push];exact Nat.le_succ _)
 refine sk fun kO xH hk hC=>?_
 refine uJ (Q:=fun x H1=>qg i x σ H1 D.nx) (D:=s2.heap.objs.size) hc C I3 f3 fne3 T (hg fp s3 _) (Ae fp s3 _) (he fp s3 _) xH hk hC FL W w0 turn fun H' s' b8 J' hq=>?_
 have B:=rh I3 f3 J';obtain⟨m',JA,_⟩:=J'.loc;have fC:=I3.zk (H':=H') (b:=s3.heap.objs.size) (Nat.le_refl _) J'.free;show wpAny _ X.A (assign (.Name x pos') X.env (.ref s2.heap.objs.size)) _ _ s';refine wpAny_assign_Name (sI B hN hx (.inl CJ) (v:= .ref s2.heap.objs.size) rfl (fun s4 I4 ⟨a,sb,ha⟩=>?_) (.inr CJ))
 have ha':s3.heap.objs.size≠a:=by
  rcases ha with rfl | z
  .exact fC.2.1
  .exact fun e=>fC.2.2.2.2.1 x a z e.symm
 refine⟨m',JA.sameBut sb ha',fun h' Uw=>⟨_,H',?_,hq⟩⟩
 exact I4.turned (it:=s3.heap.objs.size) (t':=s4.toks) (fun b o hb e=>(Uw.2 b hb).trans e) fC.1 fC.2.1 fC.2.2.2.1 fC.2.2.2.2.1 fC.2.2.2.2.2
end
end L2
end
section
namespace L2
open PySem PySem.Spec PyProof.Rows
inductive D where
 | cI | bl (b:Bool) | int (i:Int) | str (x:Str) | lst (ds:List D) | tup (ds:List D) | dct (ks:List Key) (ds:List D)
inductive R (α:Type) where
 | ok (a:α) | ex (c:Nat) | no
def R.bind{α β:Type}:R α->(α->R β)->R β
 | .ok a,f=>f a
 | .ex c,_=> .ex c
 | .no,_=> .no
theorem R.aj{α β:Type}{r:R α}{f:α->R β}{b:β}(h:r.bind f= .ok b):∃a,r= .ok a/\f a= .ok b:=by
 cases r with
 | ok a=>exact⟨a,rfl,h⟩
 | ex c=>cases h
 | no=>cases h
@[simp] theorem R.aK{α β:Type}(a:α)(f:α->R β):(R.ok a).bind f=f a:=rfl
def R.aS{α:Type}(c:Bool)(r:R α):R α:=if c then r else .no
theorem R.aX{α:Type}{c:Bool}{r:R α}{a:α}(h:R.aS c r= .ok a):c=true/\r= .ok a:=by
 cases c with
 | true=>exact⟨rfl,h⟩
 | false=>cases h
@[simp] theorem R.JJ{α:Type}(r:R α):R.aS true r=r:=rfl
def sW(K:W.Frag)(B:List Addr)(H:Hp)(a:Addr)(xs:List V):Prop:=
 (a ∉ B/\Rd H a (.lst xs))\/∃(its:List Value) (n:Nat),K.lookup a=some {cls:= .type "list",data:= .seq its.toArray n}/\xs.length<=sizeLine/\Vals xs its
def xf(K:W.Frag)(B:List Addr)(H:Hp)(a:Addr)(xs:List V):Prop:=
 (a ∉ B/\Rd H a (.tup xs))\/∃(o:Obj) (its:Array Value) (n:Nat),K.lookup a=some o/\o.cls= .type "tuple"/\o.data= .seq its n/\its.size<=sizeLine/\Vals xs its.toList
theorem sW.sq{K:W.Frag}{B:List Addr}{a:Addr}{xs:List V}(h:sW K B H a xs):m4 K H a xs:=by
 rcases h with z | ⟨its,n,hk,hz,r⟩
 .exact .inl z.2
 .exact .inr ⟨_,its.toArray,n,hk,rfl,rfl,rfl,by rw[List.size_toArray,<-r.length];exact hz,by simpa using r⟩
theorem xf.sq{K:W.Frag}{B:List Addr}{a:Addr}{xs:List V}(h:xf K B H a xs):oy K H a xs:=h.elim (fun z=> .inl z.2) .inr
mutual
def Rep(K:W.Frag)(B:List Addr)(H:Hp):D->V->Prop
 | .cI,v=>v= .cI
 | .bl b,v=>v= .bl b
 | .int i,v=>v= .int i
 | .str x,v=>v= .str x
 | .lst ds,v=>∃a xs,v= .ref a/\sW K B H a xs/\aD K B H ds xs
 | .tup ds,v=>∃a xs,v= .ref a/\xf K B H a xs/\aD K B H ds xs
 | .dct ks ds,v=>∃(a:Addr) (aC:List (Key × V)),v= .ref a/\(a ∉ B/\H a=some (.dK aC))/\aC.map (·.1)=ks/\aD K B H ds (aC.map (·.2))
def aD(K:W.Frag)(B:List Addr)(H:Hp):List D->List V->Prop
 | [],xs=>xs=[]
 | d ::ds,xs=>∃x r,xs=x ::r/\Rep K B H d x/\aD K B H ds r
end
def cX(B:List Addr)(H:Hp)(B':List Addr)(H':Hp):Prop:=∀b o,H b=some o->b ∉ B->H' b=some o/\b ∉ B'
theorem cX.rd{B B':List Addr}(p:cX B H B' H'){a:Addr}{u:HO}(h:Rd H a u)(n:a ∉ B):Rd H' a u/\a ∉ B':=by
 rcases h with e | ⟨o,e⟩
 .exact⟨.inl (p a _ e n).1,(p a _ e n).2⟩
 .exact⟨.inr ⟨o,(p a _ e n).1⟩,(p a _ e n).2⟩
theorem cX.trans{B B' LZ:List Addr}(p:cX B H B' H')(q:cX B' H' LZ mW):cX B H LZ mW:=fun b o e n=>
 let⟨e1,n1⟩:=p b o e n;q b o e1 n1
theorem cX.same{B:List Addr}(s:aU H H'):cX B H B H':=fun b o e n=>⟨s b o e,n⟩
theorem cX.refl(B:List Addr)(H:Hp):cX B H B H:=cX.same (aU.refl H)
theorem sW.bc{K:W.Frag}{B B':List Addr}(p:cX B H B' H'){a:Addr}{xs:List V}(l:sW K B H a xs):sW K B' H' a xs:=
 l.elim (fun z=> .inl ⟨(p.rd z.2 z.1).2,(p.rd z.2 z.1).1⟩) .inr
mutual
theorem Rep.bc{K:W.Frag}{B B':List Addr}(p:cX B H B' H'):∀{d:D} {v:V},Rep K B H d v->Rep K B' H' d v
 | .cI,_,h=>h
 | .bl _,_,h=>h
 | .int _,_,h=>h
 | .str _,_,h=>h
 | .lst ds,v,h=>by
   unfold Rep at h ⊢;obtain⟨a,xs,e,l,r⟩:=h;exact⟨a,xs,e,l.bc p,aD.bc p r⟩
 | .tup ds,v,h=>by
   unfold Rep at h ⊢;obtain⟨a,xs,e,l,r⟩:=h;exact⟨a,xs,e,l.elim (fun z=> .inl ⟨(p.rd z.2 z.1).2,(p.rd z.2 z.1).1⟩) .inr,aD.bc p r⟩
 | .dct ks ds,v,h=>by
   unfold Rep at h ⊢;obtain⟨a,aC,e,⟨n,l⟩,k,r⟩:=h;exact⟨a,aC,e,⟨(p a _ l n).2,(p a _ l n).1⟩,k,aD.bc p r⟩
theorem aD.bc{K:W.Frag}{B B':List Addr}(p:cX B H B' H'):∀{ds:List D} {xs:List V},aD K B H ds xs->aD K B' H' ds xs
 | [],_,h=>h
 | d ::ds,xs,h=>by
   unfold aD at h ⊢;obtain⟨x,r,e,h1,h2⟩:=h;exact⟨x,r,e,Rep.bc p h1,aD.bc p h2⟩
end
theorem Rep.same{K:W.Frag}{B:List Addr}{d:D}{v:V}(h:Rep K B H d v)(s:aU H H'):Rep K B H' d v:=h.bc (cX.same s)
theorem aD.same{K:W.Frag}{B:List Addr}{d:List D}{v:List V}(h:aD K B H d v)(s:aU H H'):aD K B H' d v:=h.bc (cX.same s)
theorem aD.nil{K:W.Frag}{B:List Addr}:aD K B H [] []:=by unfold aD;rfl
theorem aD.cons{K:W.Frag}{B:List Addr}{d:D}{ds:List D}{x:V}{xs:List V}(h:Rep K B H d x)(t:aD K B H ds xs):aD K B H (d ::ds) (x ::xs):=by
 unfold aD;exact⟨x,xs,rfl,h,t⟩
theorem aD.b9{K:W.Frag}{B:List Addr}{d:D}{ds:List D}{xs:List V}(h:aD K B H (d ::ds) xs):∃x r,xs=x ::r/\Rep K B H d x/\aD K B H ds r:=by
 unfold aD at h;exact h
theorem aD.length{K:W.Frag}{B:List Addr}:∀{ds:List D} {xs:List V},aD K B H ds xs->ds.length=xs.length
 | [],_,h=>by unfold aD at h;rw [h];rfl
 | d ::ds,xs,h=>by
   obtain⟨x,r,rfl,_,h2⟩:=h.b9;simp [h2.length]
theorem aD.get{K:W.Frag}{B:List Addr}:∀{ds:List D} {xs:List V} {i:Nat} {d:D},aD K B H ds xs->ds[i]? =some d->∃x,xs[i]? =some x/\Rep K B H d x
 | [],_,_,_,_,e=>by simp at e
 | d ::ds,xs,0,d',h,e=>by
   obtain⟨x,r,rfl,h1,h2⟩:=h.b9;simp at e;subst e;exact⟨x,rfl,h1⟩
 | d ::ds,xs,i+1,d',h,e=>by
   obtain⟨x,r,rfl,h1,h2⟩:=h.b9;obtain⟨y,e1,e2⟩:=aD.get (i:=i) h2 (by simpa using e)
   exact⟨y,by simpa using e1,e2⟩
theorem aD.append{K:W.Frag}{B:List Addr}:∀{ds es:List D} {xs ys:List V},aD K B H ds xs->aD K B H es ys->aD K B H (ds++es) (xs++ys)
 | [],_,_,_,h,t=>by unfold aD at h;subst h;exact t
 | d ::ds,es,xs,ys,h,t=>by
   obtain⟨x,r,rfl,h1,h2⟩:=h.b9;exact aD.cons h1 (aD.append h2 t)
theorem aD.drop{K:W.Frag}{B:List Addr}:∀{ds:List D} {xs:List V} (n:Nat),aD K B H ds xs->aD K B H (ds.drop n) (xs.drop n)
 | _,_,0,h=>h
 | [],_,n+1,h=>by unfold aD at h;subst h;exact aD.nil
 | d ::ds,xs,n+1,h=>by
   obtain⟨x,r,rfl,h1,h2⟩:=h.b9;exact aD.drop n h2
theorem aD.take{K:W.Frag}{B:List Addr}:∀{ds:List D} {xs:List V} (n:Nat),aD K B H ds xs->aD K B H (ds.take n) (xs.take n)
 | _,_,0,h=>aD.nil
 | [],_,n+1,h=>by unfold aD at h;subst h;exact aD.nil
 | d ::ds,xs,n+1,h=>by
   obtain⟨x,r,rfl,h1,h2⟩:=h.b9;exact aD.cons h1 (aD.take n h2)
def D.atom:D->Bool
 | .cI=>true | .bl _=>true | .int _=>true | .str _=>true | _=>false
theorem Rep.atom{K:W.Frag}{B B':List Addr}{d:D}{v:V}(a:d.atom=true)(h:Rep K B H d v):Rep K B' H' d v:=by
 cases d <;> first | exact h | cases a
inductive Sl where
 | un | val (d:D) | bld (ds:List D)
abbrev au:=List Sl
structure df (K:W.Frag) (Z B:List Addr) (H:Hp) (σ:St) (δ:au):Prop where
 len:δ.length=σ.length
 bs:∀a∈B,∃o,H a=some o
 zb:∀a∈Z,a∈B
 val:∀(i:Nat) (d:D),δ[i]? =some (.val d)->∃v,σ[i]? =some (some v)/\Rep K B H d v
 bld:∀(i:Nat) (ds:List D),δ[i]? =some (.bld ds)->∃a xs,σ[i]? =some (some (.ref a))/\a∈B/\a ∉ Z/\H a=some (.lst xs)/\aD K B H ds xs
 dis:∀(i j:Nat) (a:Addr) (ds es:List D),δ[i]? =some (.bld ds)->δ[j]? =some (.bld es)->σ[i]? =some (some (.ref a))->σ[j]? =some (some (.ref a))->i=j
theorem df.same{K:W.Frag}{Z B:List Addr}{δ:au}(E:df K Z B H σ δ)(s:aU H H'):df K Z B H' σ δ where
 len:=E.len
 bs:=fun a ha=>let⟨o,e⟩:=E.bs a ha;⟨o,s a o e⟩
 zb:=E.zb
 val:=fun i d e=>let⟨v,h1,h2⟩:=E.val i d e;⟨v,h1,h2.same s⟩
 bld:=fun i ds e=>let⟨a,xs,h1,h2,h3,h4,h5⟩:=E.bld i ds e;⟨a,xs,h1,h2,h3,s a _ h4,h5.same s⟩
 dis:=E.dis
def Ky(δ:au):au:=δ.map fun x=>match x with | .bld ds=> .val (.lst ds) | y=>y
theorem PE.imp{X:Cx}{t t':TE}(h:PE X e t)(w:∀σ H Q,t' σ H Q->t σ H Q):PE X e t':=fun pins s σ H Q I hq=>h pins s σ H Q I (w σ H Q hq)
theorem PT.imp{X:Cx}{t t':TT}(h:PT X e t)(w:∀σ H Q,t' σ H Q->t σ H Q):PT X e t':=fun pins s σ H Q I hq=>h pins s σ H Q I (w σ H Q hq)
theorem PA.imp{X:Cx}{t t':TA}(h:PA X e t)(w:∀σ H Q,t' σ H Q->t σ H Q):PA X e t':=fun pos pins s σ H Q I hq=>h pos pins s σ H Q I (w σ H Q hq)
theorem PS.imp{X:Cx}{t t':TS}(h:PS X e t)(w:∀D σ H,t' D σ H->t D σ H):PS X e t':=fun pins s σ H D I hq=>h pins s σ H D I (w D σ H hq)
theorem sZ.imp{X:Cx}{t t':TS}(h:sZ X e t)(w:∀D σ H,t' D σ H->t D σ H):sZ X e t':=fun pins s σ H D I hq=>h pins s σ H D I (w D σ H hq)
theorem PG.imp{X:Cx}{t t':TG}(h:PG X e t)(w:∀v σ H Q,t' v σ H Q->t v σ H Q):PG X e t':=fun pins s σ H v u Q I r hq=>h pins s σ H v u Q I r (w v σ H Q hq)
theorem PI.imp{X:Cx}{t t':TI}(h:PI X tg e t)(w:∀σ H Q,t' σ H Q->t σ H Q):PI X tg e t':=fun pins s σ H Q I hq=>h pins s σ H Q I (w σ H Q hq)
abbrev FD:=au->R D
def tD(K:W.Frag)(f:FD):TE:=fun σ H Q=>∃Z B δ d,df K Z B H σ δ/\f δ= .ok d/\∀v H',aU H H'->Rep K B H' d v->Q v H'
def tN(K:W.Frag)(f:au->R (List D)):TE:=fun σ H Q=>∃Z B δ ds,df K Z B H σ δ/\f δ= .ok ds/\∀a xs H',aU H H'->H a=none->H' a=some (.lst xs)->aD K (a ::B) H' ds xs->Q (.ref a) H'
def F3(K:W.Frag)(f:au->R Bool):TT:=fun σ H Q=>∃Z B δ b,df K Z B H σ δ/\f δ= .ok b/\∀H',aU H H'->Q b H'
def Qq(K:W.Frag)(f:au->R (List D)):TA:=fun σ H Q=>∃Z B δ ds,df K Z B H σ δ/\f δ= .ok ds/\∀vs H',aU H H'->aD K B H' ds vs->Q vs H'
abbrev PD(X:Cx)(e:Expr)(f:FD):Prop:=PE X e (tD X.K f)
abbrev PN(X:Cx)(e:Expr)(f:au->R (List D)):Prop:=PE X e (tN X.K f)
abbrev PB(X:Cx)(e:Expr)(f:au->R Bool):Prop:=PT X e (F3 X.K f)
abbrev CV(X:Cx)(es:List Expr)(f:au->R (List D)):Prop:=PA X es (Qq X.K f)
section
variable {X:Cx}
def eNew(f:au->R (List D)):FD:=fun δ=>(f δ).bind fun ds=> .ok (.lst ds)
theorem GL{f:au->R (List D)}(h:PN X e f):PD X e (eNew f):=h.imp fun σ H Q ⟨Z,B,δ,d,E,hf,q⟩=>by
 obtain⟨ds,h1,h2⟩:=R.aj hf;cases h2;refine⟨Z,B,δ,ds,E,h1,fun a xs H' s n e r=>q _ H' s ?_⟩
 unfold Rep;refine⟨a,xs,rfl, .inl ⟨fun ha=>?_, .inl e⟩,r.bc fun b o e nb=>⟨e,fun hb=>nb (List.mem_cons_of_mem _ hb)⟩⟩
 obtain⟨o,ho⟩:=E.bs a ha;rw[n] at ho;cases ho
theorem uH{B:List Addr}{H:Hp}{p:Addr}{o:HO}(h:H p=none):cX B H (p ::B) (upd H p o):=fun b u e nb=>
 ⟨by rw[bf (bD e h)];exact e,fun hb=>by
   rcases List.mem_cons.mp hb with z | z
   .exact bD e h z
   .exact nb z⟩
def P1(f:FD):FD:=fun δ=>(f (Ky δ)).bind fun d=>R.aS d.atom (.ok d)
def Q3(f:au->R Bool):au->R Bool:=fun δ=>f (Ky δ)
def ag(i:Nat):FD:=fun δ=>match δ[i]? with | some (.val d)=> .ok d | _=> .no
def eC(d:D):FD:=fun _=> .ok d
theorem Ih(i:Nat){x:Str}{pos:Pos}(hN:X.N[i]? =some x:=by rfl)(hv:DA X.env.scope x:=by first | exact Or.inl rfl | exact Or.inr (Or.inl rfl) | exact Or.inr (Or.inr rfl))(hd:(x==("__debug__":Str))=false:=by decide)
 (px:(x==("__classdict__":Str))=false:=by decide):PD X (.Name x pos) (ag i):=(qY hN hv hd px).imp fun σ H Q ⟨Z,B,δ,d,E,hf,q⟩=>by
 unfold ag at hf;split at hf
 .rename_i d' e;cases hf;obtain⟨v,h1,h2⟩:=E.val i d e;exact⟨v,h1,q v H (aU.refl H) h2⟩
 .cases hf
theorem nq{v:V}{d:D}(h:PE X e (tC v))(r:∀B H,Rep X.K B H d v):PD X e (eC d):=h.imp fun σ H Q ⟨Z,B,δ,d',E,hf,q⟩=>by
 cases hf;exact q v H (aU.refl H) (r B H)
theorem Ic{i j pos}:PD X (.Constant (.int i) j pos) (eC (.int i)):=nq qp fun _ _=>by unfold Rep;rfl
theorem Ku{b j pos}:PD X (.Constant (.bool b) j pos) (eC (.bl b)):=nq Kt fun _ _=>by unfold Rep;rfl
theorem IG{x j pos}:PD X (.Constant (.str x) j pos) (eC (.str x)):=nq qU fun _ _=>by unfold Rep;rfl
def Glob(K:W.Frag)(mg:Wu)(x:Str)(d:D):Prop:=∃(u:Value) (v:V),mg x=some u/\RelV v u/\∀B H,Rep K B H d v
theorem Eu{d:D}{pos:Pos}(g:Glob X.K X.mg x d)(hg:Gl X x)(hd:(x==("__debug__":Str))=false:=by decide):PD X (.Name x pos) (eC d):=by
 obtain⟨u,v,hm,r,h⟩:=g;exact nq (dv hg hm r hd) h
def aA:au->R (List D):=fun _=> .ok []
def af(f:FD)(g:au->R (List D)):au->R (List D):=fun δ=>(f δ).bind fun d=>(g δ).bind fun ds=> .ok (d ::ds)
theorem D9:CV X [] aA:=iW.imp fun σ H Q ⟨Z,B,δ,d,E,hf,q⟩=>by
 cases hf;exact q [] H (aU.refl H) aD.nil
theorem B_{g:au->R (List D)}(h:PD X e f)(t:CV X es g)(hs:starEach (e ::es) X.env=(false,eval e X.env) ::starEach es X.env:=by rfl):CV X (e ::es) (af f g):=
 (eE h t hs).imp fun σ H Q ⟨Z,B,δ,d,E,hf,q⟩=>by
   obtain⟨d1,h1,h2⟩:=R.aj hf;obtain⟨ds,h3,h4⟩:=R.aj h2;cases h4;exact⟨Z,B,δ,d1,E,h1,fun v H1 s1 r1=>⟨Z,B,δ,ds,E.same s1,h3,fun vs H2 s2 r2=>q _ H2 (s1.trans s2) (aD.cons (r1.same s2) r2)⟩⟩
def dz(g:au->R (List D)):FD:=fun δ=>(g δ).bind fun ds=>R.aS (decide (ds.length<=sizeLine)) (.ok (.tup ds))
def cZ(g:au->R (List D)):au->R (List D):=fun δ=>(g δ).bind fun ds=>R.aS (decide (ds.length<=sizeLine)) (.ok ds)
theorem bg{H:Hp}{p:Addr}{o:HO}(h:H p=none):aU H (upd H p o):=fun b u e=>by rw[bf (bD e h)];exact e
theorem HF{g:au->R (List D)}{x1 pos}(h:CV X es g):PD X (.Tuple es x1 pos) (dz g):=(Hi h).imp fun σ H Q ⟨Z,B,δ,d,E,hf,q⟩=>by
 obtain⟨ds,h1,h2⟩:=R.aj hf;obtain⟨hl,h3⟩:=R.aX h2;cases h3;refine⟨Z,B,δ,ds,E,h1,fun vs H1 s1 r1=>⟨by rw[<-r1.length];exact of_decide_eq_true hl,fun p hp=>q _ _ (s1.trans (bg hp)) ?_⟩⟩
 unfold Rep;refine⟨p,vs,rfl, .inl ⟨fun ha=>?_, .inl a_⟩,r1.same (bg hp)⟩
 obtain⟨o,ho⟩:=(E.same s1).bs p ha;rw[hp] at ho;cases ho
theorem IP{g:au->R (List D)}{pos}(h:CV X es g):PN X (.List es pos) (cZ g):=(Bm h).imp fun σ H Q ⟨Z,B,δ,d,E,hf,q⟩=>by
 obtain⟨ds,h1,h2⟩:=R.aj hf;obtain⟨hl,h3⟩:=R.aX h2;cases h3;exact⟨Z,B,δ,_,E,h1,fun vs H1 s1 r1=>⟨by rw[<-r1.length];exact of_decide_eq_true hl,fun p hp=>q p vs _ (s1.trans (bg hp)) (s1.free hp) a_ (r1.bc (uH hp))⟩⟩
def l_(X:Cx)(f:Value->Value->Sem Value)(g:D->D->R D):Prop:=
 ∀(pins:Wo) (s:Shared) (σ:St) (H:Hp) (B:List Addr) (da db d:D) (x y:V) (v u:Value),Inv X pins σ H s->(∀a∈B,∃o,H a=some o)->RelV x v->RelV y u->Rep X.K B H da x->Rep X.K B H db y->g da db= .ok d->
  wpAny (model X.prog X.w) X.A (f v u) (EP X pins σ fun z H'=>aU H H'/\Rep X.K B H' d z) X.xe s
def e2(g:D->D->R D)(fa fb:FD):FD:=fun δ=>(fa δ).bind fun a=>(fb δ).bind fun b=>g a b
theorem l_.r{f:Value->Value->Sem Value}{g:D->D->R D}(h:l_ X f g):mE X f (fun x y H Q=>∃B da db d,(∀a∈B,∃o,H a=some o)/\Rep X.K B H da x/\Rep X.K B H db y/\g da db= .ok d/\∀z H',aU H H'->Rep X.K B H' d z->Q z H'):=by
 intro pins s σ H x y v u Q I rx ry ⟨B,da,db,d,hb,ha,ma,hg,q⟩;exact di (h pins s σ H B da db d x y v u I hb rx ry ha ma hg) fun z s' ⟨zv,H',I',r',s1,r1⟩=>⟨zv,H',I',r',q zv H' s1 r1⟩
theorem Im{K:W.Frag}{g:D->D->R D}{Q:VK}(h:tD K (e2 g fa fb) σ H Q) :
 JE (fun x y H Q=>∃B da db d,(∀a∈B,∃o,H a=some o)/\Rep K B H da x/\Rep K B H db y/\g da db= .ok d/\∀z H',aU H H'->Rep K B H' d z->Q z H') (tD K fa) (tD K fb) σ H Q:=by
 obtain⟨Z,B,δ,d,E,hf,q⟩:=h;obtain⟨d1,h1,h2⟩:=R.aj hf;obtain⟨d2,h3,h4⟩:=R.aj h2;exact⟨Z,B,δ,d1,E,h1,fun v1 H1 s1 r1=>⟨Z,B,δ,d2,E.same s1,h3,fun v2 H2 s2 r2=>⟨B,d1,d2,d,(E.same (s1.trans s2)).bs,r1.same s2,r2,h4,fun z H' s3 r3=>q z H' (s1.trans (s2.trans s3)) r3⟩⟩⟩
theorem Lx{op:Operator}{g:D->D->R D}(ho:l_ X (binaryOp op) g)(ha:PD X a fa)(hb:PD X b fb):PD X (.BinOp a op b pos) (e2 g fa fb):=
 (Ct ho.r ha hb).imp fun σ H Q h=>Im h
theorem IV{op:CmpOp}{g:D->D->R D}(ho:l_ X (compareOp op) g)(ha:PD X a fa)(hb:PD X b fb)(hm:behindInMarks op b=false):PD X (.Compare a [op] [b] pos) (e2 g fa fb):=
 (Eg ho.r ha hb hm).imp fun σ H Q h=>Im h
def b2(g:D->D->R D)(fa fb:FD):au->R Bool:=fun δ=>(e2 g fa fb δ).bind fun d=>match d with | .bl b=> .ok b | _=> .no
theorem Ia{op:CmpOp}{g:D->D->R D}(ho:l_ X (compareOp op) g)(ha:PD X a fa)(hb:PD X b fb)(hm:behindInMarks op b=false):PB X (.Compare a [op] [b] pos) (b2 g fa fb):=
 (yh ho.r ha hb hm).imp fun σ H Q ⟨Z,B,δ,b,E,hf,q⟩=>by
   obtain⟨d,h1,h2⟩:=R.aj hf;cases d with
   | bl k=>
     cases h2;exact Im (g:=g) (Q:=fun x H'=>∃k,x= .bl k/\Q k H') ⟨Z,B,δ, .bl b,E,h1,fun v H' s r=>⟨b,by unfold Rep at r;exact r,q H' s⟩⟩
   | _=>cases h2
def H0(g g':D->D->R D)(fa fb fc:FD):FD:=fun δ=>(fa δ).bind fun a=>(fb δ).bind fun b=>(g a b).bind fun r=>match r with
 | .bl true=>(fc δ).bind fun c=>g' b c
 | .bl false=> .ok (.bl false)
 | _=> .no
def Lw:D->R Bool
 | .cI=> .ok false
 | .bl b=> .ok b
 | .int i=> .ok (i !=0)
 | .str x=>R.aS (decide (x.length<=sizeLine)) (.ok ((x.length:Int) !=0))
 | .lst ds=> .ok (!ds.isEmpty)
 | .tup ds=> .ok (!ds.isEmpty)
 | .dct _ _=> .no
def Sb(f:FD):au->R Bool:=fun δ=>(f δ).bind Lw
def vp(f g:au->R Bool):au->R Bool:=fun δ=>(f δ).bind fun b=>if b then g δ else .ok false
def uL(f g:au->R Bool):au->R Bool:=fun δ=>(f δ).bind fun b=>if b then .ok true else g δ
def Sn(f:au->R Bool):au->R Bool:=fun δ=>(f δ).bind fun b=> .ok (!b)
def Df(X:Cx)(e:Expr)(f:au->R Bool):Prop:=PW X e (F3 X.K f)
theorem Df.pb{f:au->R Bool}(h:Df X e f):PB X e f:=PW.pt h
theorem Bu{f:au->R Bool}(h:PB X a f):Df X (.BoolOp .And [a] pos) f:=EE h
theorem DY{f:au->R Bool}(h:PB X a f):Df X (.BoolOp .Or [a] pos) f:=HJ h
theorem Ds{rest:List Expr}{f g:au->R Bool}(ha:PB X a f)(hb:Df X (.BoolOp .And (b ::rest) pos) g):Df X (.BoolOp .And (a ::b ::rest) pos) (vp f g):=by
 intro wh pins s σ H Q I ⟨Z,B,δ,k,E,hf,q⟩;refine IK ha hb wh pins s σ H Q I ?_;obtain⟨c,h1,h2⟩:=R.aj hf;refine⟨Z,B,δ,c,E,h1,fun H1 s1=>?_⟩
 cases c with
 | true=>rw [if_pos rfl] at h2 ⊢;exact⟨Z,B,δ,k,E.same s1,h2,fun H' s2=>q H' (s1.trans s2)⟩
 | false=>rw [if_neg (by decide)] at h2 ⊢;cases h2;exact q H1 s1
theorem HU{rest:List Expr}{f g:au->R Bool}(ha:PB X a f)(hb:Df X (.BoolOp .Or (b ::rest) pos) g):Df X (.BoolOp .Or (a ::b ::rest) pos) (uL f g):=by
 intro wh pins s σ H Q I ⟨Z,B,δ,k,E,hf,q⟩;refine Lp ha hb wh pins s σ H Q I ?_;obtain⟨c,h1,h2⟩:=R.aj hf;refine⟨Z,B,δ,c,E,h1,fun H1 s1=>?_⟩
 cases c with
 | true=>rw [if_pos rfl] at h2 ⊢;cases h2;exact q H1 s1
 | false=>rw [if_neg (by decide)] at h2 ⊢;exact⟨Z,B,δ,k,E.same s1,h2,fun H' s2=>q H' (s1.trans s2)⟩
def NR(f:FD):au->R Bool:=fun δ=>(f δ).bind fun d=>match d with | .bl b=> .ok b | _=> .no
def Ua(f g:FD):FD:=fun δ=>(NR f δ).bind fun b=>if b then g δ else .ok (.bl false)
def Vf(f g:FD):FD:=fun δ=>(NR f δ).bind fun b=>if b then .ok (.bl true) else g δ
def T4(f:FD):FD:=fun δ=>(NR f δ).bind fun b=> .ok (.bl (!b))
def VO(c:au->R Bool)(f g:FD):FD:=fun δ=>(c δ).bind fun b=>if b then f δ else g δ
def cN(X:Cx)(f:Value)(g:List D->R D):Prop:=
 ∀(pins:Wo) (s:Shared) (σ:St) (H:Hp) (B:List Addr) (ds:List D) (d:D) (xs:List V) (us:List Value),Inv X pins σ H s->(∀a∈B,∃o,H a=some o)->Vals xs us->aD X.K B H ds xs->g ds= .ok d->
  wpAny (model X.prog X.w) X.A (call f us) (EP X pins σ fun z H'=>aU H H'/\Rep X.K B H' d z) X.xe s
def aw(g:List D->R D)(fs:au->R (List D)):FD:=fun δ=>(fs δ).bind g
theorem cN.r{f:Value}{g:List D->R D}(h:cN X f g):jC X f (fun xs H Q=>∃B ds d,(∀a∈B,∃o,H a=some o)/\aD X.K B H ds xs/\g ds= .ok d/\∀z H',aU H H'->Rep X.K B H' d z->Q z H'):=by
 intro pins s σ H xs us Q I rx ⟨B,ds,d,hb,hr,hg,q⟩;exact di (h pins s σ H B ds d xs us I hb rx hr hg) fun z s' ⟨zv,H',I',r',s1,r1⟩=>⟨zv,H',I',r',q zv H' s1 r1⟩
theorem xS{K:W.Frag}{g:List D->R D}{fs:au->R (List D)}{Q:VK}(h:tD K (aw g fs) σ H Q) :
 Qq K fs σ H fun vs H1=>∃B ds d,(∀a∈B,∃o,H1 a=some o)/\aD K B H1 ds vs/\g ds= .ok d/\∀z H',aU H1 H'->Rep K B H' d z->Q z H':=by
 obtain⟨Z,B,δ,d,E,hf,q⟩:=h;obtain⟨ds,h1,h2⟩:=R.aj hf;exact⟨Z,B,δ,ds,E,h1,fun vs H1 s1 r1=>⟨B,ds,d,(E.same s1).bs,r1,h2,fun z H' s2 r2=>q z H' (s1.trans s2) r2⟩⟩
theorem AV{g:List D->R D}{x:Str}{id:String}{p pos:Pos}{e:Expr}{es:List Expr}{fs:au->R (List D)}(hc:cN X (.builtin id) g)(hg:Gl X x)(hm:X.mg x=none)(hv:bootBuiltins x=some (.builtin id))(ha:CV X (e ::es) fs)(hn:x≠"__name__":=by decide)(nR:(x==("__debug__":Str))=false:=by decide)
 (he:starEach (e ::es) X.env=(false,eval e X.env) ::starEach es X.env:=by rfl) (jE:(backTo pos (starEach es X.env)).any (·.1)=false:=by rfl):PD X (.Call (.Name x p) (e ::es) [] pos) (aw g fs):=
 (vx hc.r hg hm hv ha hn nR he jE).imp fun σ H Q h=>xS h
theorem zB{g:List D->R D}{x:Str}{T:String}{p pos:Pos}{e:Expr}{es:List Expr}{fs:au->R (List D)}(hc:cN X (.type T) g)(hg:Gl X x)(hm:X.mg x=none)(hv:bootBuiltins x=some (.type T))(ha:CV X (e ::es) fs)(hn:x≠"__name__":=by decide)(nR:(x==("__debug__":Str))=false:=by decide)
 (he:starEach (e ::es) X.env=(false,eval e X.env) ::starEach es X.env:=by rfl) (jE:(backTo pos (starEach es X.env)).any (·.1)=false:=by rfl):PD X (.Call (.Name x p) (e ::es) [] pos) (aw g fs):=
 (zG hc.r hg hm hv ha hn nR he jE).imp fun σ H Q h=>xS h
def Fu(K:W.Frag)(n:Nat)(g:List D->R D):Sp:=fun vs H Q _=>vs.length=n/\∃B ds d,(∀a∈B,∃o,H a=some o)/\aD K B H ds vs/\g ds= .ok d/\∀z H',aU H H'->Rep K B H' d z->Q z H'
theorem EM{g:List D->R D}{k n:Nat}{f:Addr}{fd:FuncData}{ps:List Str}{x:Str}{p pos:Pos}{e:Expr}{es:List Expr}{fs:au->R (List D)}
 (F:hJ X.prog X.w X.K X.mg X.base rB k f fd ps (Fu X.K n g)) (hr:eJ k X.A) (hg:Gl X x) (hm:X.mg x=some (.ref f)) (hk:PySem.W.keepIn X.K (.ref f)=true) (hb:Binds X.K fd ps []) (ha:CV X (e ::es) fs)
 (hn:∀δ ds,fs δ= .ok ds->ds.length=n) (nR:(x==("__debug__":Str))=false:=by decide) (he:starEach (e ::es) X.env=(false,eval e X.env) ::starEach es X.env:=by rfl) (jE:(backTo pos (starEach es X.env)).any (·.1)=false:=by rfl) :
 PD X (.Call (.Name x p) (e ::es) [] pos) (aw g fs):=
 (tj F hr hg hm hk hb .nil FY ha nR he jE).imp fun σ H Q ⟨Z,B,δ,d,E,hf,q⟩=>by
   obtain⟨ds,h1,h2⟩:=R.aj hf;refine⟨Z,B,δ,ds,E,h1,fun vs H1 s1 r1=>?_⟩
   show Fu X.K n g (vs++[]) H1 Q E0;rw[List.append_nil];exact⟨by rw[<-r1.length];exact hn δ ds h1,B,ds,d,(E.same s1).bs,r1,h2,fun z H' s2 r2=>q z H' (s1.trans s2) r2⟩
end
end L2
end
section
namespace L2
open PySem PySem.Spec PyProof.Rows
inductive Out where
 | nx (δ:au) | rt (d:D)
abbrev FS:=au->R Out
structure Ev (Z B:List Addr) (H:Hp) (B':List Addr) (H':Hp):Prop where
 bc:cX B H B' H'
 zs:∀b o,H b=some o->b∈Z->H' b=some o/\b∈B'
theorem Ev.refl(Z B:List Addr)(H:Hp)(zb:∀a∈Z,a∈B):Ev Z B H B H:=⟨cX.refl B H,fun b o e z=>⟨e,zb b z⟩⟩
theorem Ev.trans{Z B B' LZ:List Addr}(a:Ev Z B H B' H')(b:Ev Z B' H' LZ mW):Ev Z B H LZ mW:=
 ⟨a.bc.trans b.bc,fun c o e z=>let⟨e1,_⟩:=a.zs c o e z;b.zs c o e1 z⟩
theorem Ev.same{Z B:List Addr}(zb:∀a∈Z,a∈B)(s:aU H H'):Ev Z B H B H':=⟨cX.same s,fun b o e z=>⟨s b o e,zb b z⟩⟩
def yD(K:W.Frag)(Z B:List Addr)(H:Hp)(D:Ends):Out->Prop
 | .nx cT=>∀b8 B' H',Ev Z B H B' H'->df K Z B' H' b8 cT->D.nx b8 H'
 | .rt d=>∀v B' H',Ev Z B H B' H'->(∀a∈Z,a∈B')->Rep K B' H' d v->D.rt v H'
theorem yD.ev{K:W.Frag}{Z B B1:List Addr}{D:Ends}{o:Out}(q:yD K Z B H D o)(ev:Ev Z B H B1 H1):yD K Z B1 H1 D o:=by
 cases o with
 | nx cT=>exact fun b8 B' H' CQ E'=>q b8 B' H' (ev.trans CQ) E'
 | rt d=>exact fun v B' H' CQ z r=>q v B' H' (ev.trans CQ) z r
def sD(K:W.Frag)(F:FS):TS:=fun D σ H=>∃Z B δ o,df K Z B H σ δ/\F δ= .ok o/\yD K Z B H D o
abbrev CW(X:Cx)(st:Stmt)(F:FS):Prop:=PS X st (sD X.K F)
abbrev oZ(X:Cx)(st:List Stmt)(F:FS):Prop:=sZ X st (sD X.K F)
section
variable {X:Cx}
def rR:FS:=fun δ=> .ok (.nx δ)
def cF(F G:FS):FS:=fun δ=>(F δ).bind fun o=>match o with | .nx cT=>G cT | .rt d=> .ok (.rt d)
theorem Ej:oZ X [] rR:=tw.imp fun D σ H ⟨Z,B,δ,o,E,hf,q⟩=>by
 cases hf;exact q σ B H (Ev.refl Z B H E.zb) E
theorem Ip{K:W.Frag}{F G:FS}{D:Ends}(h:sD K (cF F G) D σ H):K5 (sD K F) (sD K G) D σ H:=by
 obtain⟨Z,B,δ,o,E,hf,q⟩:=h;obtain⟨o1,h1,h2⟩:=R.aj hf;refine⟨Z,B,δ,o1,E,h1,?_⟩;cases o1 with
 | nx δ1=>
   intro Js B1 H1 ev E1;refine⟨Z,B1,δ1,o,E1,h2,?_⟩;cases o with
   | nx dX=>exact fun b8 B' H' CQ E'=>q b8 B' H' (ev.trans CQ) E'
   | rt d=>exact fun v B' H' CQ z r=>q v B' H' (ev.trans CQ) z r
 | rt d=>
   cases h2;exact q
theorem Cd{st:Stmt}{rest:List Stmt}{F G:FS}(h1:CW X st F)(h2:oZ X rest G):oZ X (st ::rest) (cF F G):=(q_ h1 h2).imp fun D σ H h=>Ip h
theorem EO{st:Stmt}{F:FS}(h1:CW X st F):oZ X [st] F:=t5 h1
theorem df.set{K:W.Frag}{Z B:List Addr}{σ:St}{δ:au}(E:df K Z B H σ δ){i:Nat}{d:D}{v:V}(hi:i < σ.length)(r:Rep K B H d v):df K Z B H (σ.set i (some v)) (δ.set i (.val d)) where
 len:=by rw[List.length_set,List.length_set];exact E.len
 bs:=E.bs
 zb:=E.zb
 val:=fun j d' e=>by
  by_cases h:i=j
  .subst h;rw[List.getElem?_set_self (by rw[E.len];exact hi)] at e
   cases e;exact⟨v,List.getElem?_set_self hi,r⟩
  .rw [List.getElem?_set_ne h] at e ⊢;exact E.val j d' e
 bld:=fun j ds e=>by
  by_cases h:i=j
  .subst h;rw[List.getElem?_set_self (by rw[E.len];exact hi)] at e
   cases e
  .rw [List.getElem?_set_ne h] at e ⊢;exact E.bld j ds e
 dis:=fun j k a ds es e1 e2 e3 e4=>by
  by_cases h:i=j
  .subst h;rw[List.getElem?_set_self (by rw[E.len];exact hi)] at e1
   cases e1
  .by_cases h':i=k
   .subst h';rw[List.getElem?_set_self (by rw[E.len];exact hi)] at e2
    cases e2
   .rw [List.getElem?_set_ne h] at e1 e3;rw[List.getElem?_set_ne h'] at e2 e4;exact E.dis j k a ds es e1 e2 e3 e4
theorem df.setB{K:W.Frag}{Z B:List Addr}{H:Hp}{σ:St}{δ:au}(E:df K Z B H σ δ){i:Nat}{ds:List D}{a:Addr}{xs:List V}(hi:i < σ.length)(hB:a∈B)(hZ:a ∉ Z)(hH:H a=some (.lst xs))(r:aD K B H ds xs)
 (new:∀j es,j≠i->δ[j]? =some (.bld es)->σ[j]?≠some (some (.ref a))):df K Z B H (σ.set i (some (.ref a))) (δ.set i (.bld ds)) where
 len:=by rw[List.length_set,List.length_set];exact E.len
 bs:=E.bs
 zb:=E.zb
 val:=fun j d' e=>by
  by_cases h:i=j
  .subst h;rw[List.getElem?_set_self (by rw[E.len];exact hi)] at e
   cases e
  .rw [List.getElem?_set_ne h] at e ⊢;exact E.val j d' e
 bld:=fun j es e=>by
  by_cases h:i=j
  .subst h;rw[List.getElem?_set_self (by rw[E.len];exact hi)] at e
   cases e;exact⟨a,xs,List.getElem?_set_self hi,hB,hZ,hH,r⟩
  .rw [List.getElem?_set_ne h] at e ⊢;exact E.bld j es e
 dis:=fun j k b Mi jH e1 e2 e3 e4=>by
  by_cases h:i=j
  .subst h;by_cases h':i=k
   .exact h'
   .rw [List.getElem?_set_self hi] at e3;cases e3;rw[List.getElem?_set_ne h'] at e2 e4;exact absurd e4 (new k jH (Ne.symm h') e2)
  .by_cases h':i=k
   .subst h';rw[List.getElem?_set_self hi] at e4;cases e4;rw[List.getElem?_set_ne h] at e1 e3;exact absurd e3 (new j Mi (Ne.symm h) e1)
   .rw [List.getElem?_set_ne h] at e1 e3;rw[List.getElem?_set_ne h'] at e2 e4;exact E.dis j k b Mi jH e1 e2 e3 e4
def eA(i:Nat)(f:FD):FS:=fun δ=>(f δ).bind fun d=>R.aS (decide (i < δ.length)) (.ok (.nx (δ.set i (.val d))))
theorem BF{K:W.Frag}{i:Nat}{D:Ends}(h:sD K (eA i f) D σ H):zd (tD K f) (qg i) D σ H:=by
 obtain⟨Z,B,δ,o,E,hf,q⟩:=h;obtain⟨d,h1,h2⟩:=R.aj hf;obtain⟨hi,h3⟩:=R.aX h2;cases h3;refine⟨Z,B,δ,d,E,h1,fun v H1 s1 r1=>?_⟩
 exact q _ B H1 (Ev.same E.zb s1) ((E.same s1).set (by rw[<-E.len];exact of_decide_eq_true hi) r1)
theorem DF{i:Nat}{pos pos':Pos}(hN:X.N.Nodup)(hi:X.N[i]? =some x)(hx:Loc X.env.scope x)(he:PD X e f)(hs:swapsWith e (some (.Name x pos')) pos.line X.env=pure false:=by rfl)(hf:X.fn x=true\/X.env.scope.names.lookup x=some .local:=by first | exact .inl rfl | exact .inr rfl | assumption) :
 CW X (.Assign [.Name x pos'] e pos) (eA i f):=(tS hN hi hx he hs hf).imp fun D σ H h=>BF h
def wq(i:Nat)(f:au->R (List D)):FS:=fun δ=>(f δ).bind fun ds=>R.aS (decide (i < δ.length)) (.ok (.nx (δ.set i (.bld ds))))
theorem HG{K:W.Frag}{i:Nat}{f:au->R (List D)}{D:Ends}(h:sD K (wq i f) D σ H):zd (tN K f) (qg i) D σ H:=by
 obtain⟨Z,B,δ,o,E,hf,q⟩:=h;obtain⟨ds,h1,h2⟩:=R.aj hf;obtain⟨hi,h3⟩:=R.aX h2;cases h3;refine⟨Z,B,δ,ds,E,h1,fun a xs H1 s1 n e r=>?_⟩
 have E1:=E.same s1;have aB:a ∉ B:=fun ha=>by obtain⟨o,ho⟩:=E.bs a ha;rw [n] at ho;cases ho
 have nZ:a ∉ Z:=fun ha=>aB (E.zb a ha)
 have p0:cX B H (a ::B) H1:=fun b o e' nb=>⟨s1 b o e',fun hb=>by
  rcases List.mem_cons.mp hb with z | z
  .subst z;rw [n] at e';cases e'
  .exact nb z⟩
 have E2:df K Z (a ::B) H1 σ δ:={
  len:=E.len
  bs:=fun b hb=>by
   rcases List.mem_cons.mp hb with z | z
   .subst z;exact⟨_,e⟩
   .exact E1.bs b z
  zb:=fun b hb=>List.mem_cons_of_mem _ (E.zb b hb)
  val:=fun j d e=>let⟨v,q1,q2⟩:=E.val j d e;⟨v,q1,q2.bc p0⟩
  bld:=fun j es e=>let⟨b,ys,q1,q2,q3,q4,q5⟩:=E.bld j es e;⟨b,ys,q1,List.mem_cons_of_mem _ q2,q3,s1 b _ q4,q5.bc p0⟩
  dis:=E.dis}
 refine q _ (a ::B) H1 ⟨p0,fun b o e' hb=>⟨s1 b o e',List.mem_cons_of_mem _ (E.zb b hb)⟩⟩ (E2.setB (by rw[<-E.len];exact of_decide_eq_true hi) List.mem_cons_self nZ e r fun j es hj ej FF=>?_)
 obtain⟨b,ys,q1,_,_,q4,_⟩:=E.bld j es ej;rw[FF] at q1;cases q1;rw[n] at q4;cases q4
theorem D2{i:Nat}{f:au->R (List D)}{pos pos':Pos}(hN:X.N.Nodup)(hi:X.N[i]? =some x)(hx:Loc X.env.scope x)(he:PN X e f)(hs:swapsWith e (some (.Name x pos')) pos.line X.env=pure false:=by rfl)(hf:X.fn x=true\/X.env.scope.names.lookup x=some .local:=by first | exact .inl rfl | exact .inr rfl | assumption) :
 CW X (.Assign [.Name x pos'] e pos) (wq i f):=(tS hN hi hx he hs hf).imp fun D σ H h=>HG h
theorem df.grow{K:W.Frag}{Z B:List Addr}{H:Hp}{σ:St}{δ:au}(E:df K Z B H σ δ){i:Nat}{ds es:List D}{a:Addr}{xs ys:List V}(hd:δ[i]? =some (.bld ds))(FF:σ[i]? =some (some (.ref a)))(hB:a∈B)(hH:H a=some (.lst xs))(r:aD K B H es ys) :
 df K Z B (upd H a (.lst ys)) σ (δ.set i (.bld es))/\cX B H B (upd H a (.lst ys)):=by
 have p:cX B H B (upd H a (.lst ys)):=fun b o e nb=>⟨by rw[bf (fun(z:b=a)=>nb (by rw[z];exact hB))];exact e,nb⟩
 have hi:i < δ.length:=(List.getElem?_eq_some_iff.mp hd).1;refine⟨{
  len:=by rw[List.length_set];exact E.len
  bs:=fun b hb=>by
   by_cases z:b=a
   .subst z;exact⟨_,a_⟩
   .rw [bf z];exact E.bs b hb
  zb:=E.zb
  val:=fun j d e=>by
   by_cases h:i=j
   .subst h;rw [List.getElem?_set_self hi] at e;cases e
   .rw [List.getElem?_set_ne h] at e;obtain⟨v,q1,q2⟩:=E.val j d e;exact⟨v,q1,q2.bc p⟩
  bld:=fun j fs e=>by
   by_cases h:i=j
   .subst h;rw [List.getElem?_set_self hi] at e;cases e;obtain⟨b,zs,q1,q2,q3,_,_⟩:=E.bld i ds hd;rw[FF] at q1;cases q1;exact⟨a,ys,FF,hB,q3,a_,r.bc p⟩
   .rw [List.getElem?_set_ne h] at e;obtain⟨b,zs,q1,q2,q3,q4,q5⟩:=E.bld j fs e;have ne:b≠a:=fun z=>by subst z;exact h (E.dis i j b ds fs hd e FF q1)
    exact⟨b,zs,q1,q2,q3,by rw[bf ne];exact q4,q5.bc p⟩
  dis:=fun j k b Mi jH e1 e2 e3 e4=>by
   have f1:∃fs,δ[j]? =some (.bld fs):=by
    by_cases h:i=j
    .subst h;exact⟨ds,hd⟩
    .rw [List.getElem?_set_ne h] at e1;exact⟨_,e1⟩
   have f2:∃fs,δ[k]? =some (.bld fs):=by
    by_cases h:i=k
    .subst h;exact⟨ds,hd⟩
    .rw [List.getElem?_set_ne h] at e2;exact⟨_,e2⟩
   obtain⟨_,f1⟩:=f1;obtain⟨_,f2⟩:=f2;exact E.dis j k b _ _ f1 f2 e3 e4},p⟩
theorem Ev.grow{Z B:List Addr}{a:Addr}{o:HO}(zb:∀a∈Z,a∈B)(hZ:a ∉ Z)(p:cX B H B (upd H a o)):Ev Z B H B (upd H a o):=
 ⟨p,fun b u e hb=>⟨by rw[bf (fun(z:b=a)=>hZ (by rw[<-z];exact hb))];exact e,zb b hb⟩⟩
def qa(δ:au)(i:Nat):R (List D):=match δ[i]? with | some (.bld ds)=> .ok ds | _=> .no
theorem vF{δ:au}{i:Nat}{ds:List D}(h:qa δ i= .ok ds):δ[i]? =some (.bld ds):=by
 unfold qa at h;split at h
 .rename_i q;cases h;exact q
 .cases h
def S_(i:Nat)(f:FD):FS:=fun δ=>(f δ).bind fun d=>(qa δ i).bind fun ds=>R.aS (decide (ds.length < sizeLine)) (.ok (.nx (δ.set i (.bld (ds++[d])))))
def E7(i:Nat)(f:au->R (List D)):FS:=fun δ=>(f δ).bind fun es=>(qa δ i).bind fun ds=>R.aS (decide (ds.length+es.length<=sizeLine)) (.ok (.nx (δ.set i (.bld (ds++es)))))
theorem DO{i:Nat}{x:Str}{e:Expr}{f:au->R (List D)}{ij apos b4 pos:Pos}(hN:X.N[i]? =some x)(hv:DA X.env.scope x)(he:PN X e f)
 (hd:(x==("__debug__":Str))=false:=by decide) (px:(x==("__classdict__":Str))=false:=by decide)
 (hs:starEach [e] X.env=(false,eval e X.env) ::starEach [] X.env:=by rfl) (nS:(apos.endLine==b4.line)=true:=by rfl)
 (ur:((backTo b4 (starEach [e] X.env)).all (fun x=>!x.1) && (backToKw b4 (keywordEach [] X.env)).all (fun x=>x.1.isSome)
   && decide (([e]:List Expr).length+([]:List Keyword).length+(if([]:List Keyword).isEmpty then 0 else 1) < 30))=true:=by rfl)
 (v8:swapsWith (.Call (.Attribute (.Name x ij) "extend" apos) [e] [] b4) none pos.line X.env=pure false:=by rfl)
 (nU:attributeBase (.Name x ij) "extend" X.env (eval (.Name x ij) X.env)=eval (.Name x ij) X.env:=by rfl) :
 CW X (.Expr (.Call (.Attribute (.Name x ij) "extend" apos) [e] [] b4) pos) (E7 i f):=by
 refine(pJ (BN (X:=X) PySem.F.plainAttrs_list PySem.F.slot_list_extend PySem.F.type_list_extend zy (qY hN hv hd px) (eE he iW hs) nU ur nS hs) v8).imp fun D σ H ⟨Z,B,δ,o,E,hf,q⟩=>?_
 obtain⟨es,h1,h2⟩:=R.aj hf;obtain⟨ds,h3,h4⟩:=R.aj h2;obtain⟨hl,h5⟩:=R.aX h4;cases h5;have hb:=vF h3;obtain⟨a,xs,q1,q2,q3,q4,q5⟩:=E.bld i ds hb;refine⟨.ref a,q1, .inl ⟨rfl,xs,m4.of q4⟩,⟨Z,B,δ,es,E,h1,fun b ys H1 s1 n e r=>?_⟩⟩
 have E1:=E.same s1;have r':aD X.K B H1 es ys:=r.bc fun b o e nb=>⟨e,fun hb=>nb (List.mem_cons_of_mem _ hb)⟩
 refine⟨a,b,xs,ys,rfl,rfl,s1 a _ q4,e,by rw[<-q5.length,<-r'.length];exact of_decide_eq_true hl,?_⟩
 obtain⟨E2,p2⟩:=E1.grow (es:=ds++es) (ys:=xs++ys) hb q1 q2 (s1 a _ q4) ((q5.same s1).append r');exact q σ B _ ((Ev.same E.zb s1).trans (Ev.grow E.zb q3 p2)) E2
def jn(i:Nat)(δ:au):au:=match δ[i]? with | some (.bld ds)=>δ.set i (.val (.lst ds)) | _=>δ
theorem df.jn{K:W.Frag}{Z B:List Addr}{δ:au}(E:df K Z B H σ δ)(i:Nat):∃B',Ev Z B H B' H/\df K Z B' H σ (jn i δ):=by
 unfold L2.jn;cases hd:δ[i]? with
 | none=>exact⟨B,Ev.refl Z B H E.zb,E⟩
 | some x=>
   cases x with
   | un=>exact⟨B,Ev.refl Z B H E.zb,E⟩
   | val d=>exact⟨B,Ev.refl Z B H E.zb,E⟩
   | bld ds=>
     obtain⟨a,xs,q1,q2,q3,q4,q5⟩:=E.bld i ds hd;have hi:i < δ.length:=(List.getElem?_eq_some_iff.mp hd).1;have p:cX B H (B.filter fun b=>decide (b≠a)) H:=fun b o e nb=>⟨e,fun hb=>nb (List.mem_filter.mp hb).1⟩
     have zb:∀b∈Z,b∈B.filter fun b=>decide (b≠a):=fun b hb=>List.mem_filter.mpr ⟨E.zb b hb,decide_eq_true fun z=>q3 (z▸hb)⟩
     refine⟨B.filter fun b=>decide (b≠a),⟨p,fun b o e hb=>⟨e,zb b hb⟩⟩,{
      len:=by rw[List.length_set];exact E.len
      bs:=fun b hb=>E.bs b (List.mem_filter.mp hb).1
      zb:=zb
      val:=fun j d e=>by
       by_cases h:i=j
       .subst h;rw [List.getElem?_set_self hi] at e;cases e;refine⟨.ref a,q1,?_⟩;unfold Rep;exact⟨a,xs,rfl, .inl ⟨fun hb=>by simpa using(List.mem_filter.mp hb).2, .inl q4⟩,q5.bc p⟩
       .rw [List.getElem?_set_ne h] at e;obtain⟨v,z1,z2⟩:=E.val j d e;exact⟨v,z1,z2.bc p⟩
      bld:=fun j fs e=>by
       by_cases h:i=j
       .subst h;rw [List.getElem?_set_self hi] at e;cases e
       .rw [List.getElem?_set_ne h] at e;obtain⟨b,zs,z1,z2,z3,z4,z5⟩:=E.bld j fs e;exact⟨b,zs,z1,List.mem_filter.mpr ⟨z2,decide_eq_true fun z=>by subst z;exact h (E.dis i j b ds fs hd e q1 z1)⟩,z3,z4,z5.bc p⟩
      dis:=fun j k b Mi jH e1 e2 e3 e4=>by
       by_cases h:i=j
       .subst h;rw [List.getElem?_set_self hi] at e1;cases e1
       .by_cases h':i=k
        .subst h';rw [List.getElem?_set_self hi] at e2;cases e2
        .rw [List.getElem?_set_ne h] at e1;rw[List.getElem?_set_ne h'] at e2;exact E.dis j k b Mi jH e1 e2 e3 e4}⟩
def Cn(i:Nat)(F:FS):FS:=fun δ=>F (jn i δ)
theorem GK{K:W.Frag}{i:Nat}{F:FS}{D:Ends}(h:sD K (Cn i F) D σ H):sD K F D σ H:=by
 obtain⟨Z,B,δ,o,E,hf,q⟩:=h;obtain⟨B1,ev,E1⟩:=E.jn i;refine⟨Z,B1,L2.jn i δ,o,E1,hf,?_⟩;cases o with
 | nx cT=>exact fun b8 B' H' CQ E'=>q b8 B' H' (ev.trans CQ) E'
 | rt d=>exact fun v B' H' CQ z r=>q v B' H' (ev.trans CQ) z r
theorem Fz(i:Nat){F:FS}(h:oZ X GB F):oZ X GB (Cn i F):=h.imp fun D σ H h=>GK h
def hV(f:FD):FS:=fun δ=>(f δ).bind fun d=> .ok (.rt d)
theorem Et(he:PD X e f):CW X (.Return (some e) pos) (hV f):=(Cw he).imp fun D σ H ⟨Z,B,δ,o,E,hf,q⟩=>by
 obtain⟨d,h1,h2⟩:=R.aj hf;cases h2;exact⟨Z,B,δ,d,E,h1,fun v H1 s1 r1=>q v B H1 (Ev.same E.zb s1) E.zb r1⟩
def xD(c:au->R Bool)(F G:FS):FS:=fun δ=>(c δ).bind fun b=>if b then F δ else G δ
theorem Ik{fc:au->R Bool}{F G:FS}(hc:PB X c fc)(ha:oZ X a F)(hb:oZ X b G):CW X (.If c a b pos) (xD fc F G):=(Ck hc ha hb).imp fun D σ H ⟨Z,B,δ,o,E,hf,q⟩=>by
 obtain⟨k,h1,h2⟩:=R.aj hf;refine⟨Z,B,δ,k,E,h1,fun H1 s1=>?_⟩
 have q':=q.ev (Ev.same E.zb s1);cases k with
 | true=>rw [if_pos rfl] at h2;exact AM ⟨Z,B,δ,o,E.same s1,h2,q'⟩
 | false=>rw [if_neg (by decide)] at h2;exact BQ ⟨Z,B,δ,o,E.same s1,h2,q'⟩
abbrev FT:=D->au->R au
def gD(K:W.Frag)(t:FT):TG:=fun v σ H Q=>∃Z B δ d cT,df K Z B H σ δ/\Rep K B H d v/\t d δ= .ok cT/\∀b8 H',aU H H'->df K Z B H' b8 cT->b8.length=σ.length->Q b8 H'
abbrev HI(X:Cx)(tg:Expr)(t:FT):Prop:=PG X tg (gD X.K t)
def aM(i:Nat):FT:=fun d δ=>R.aS (decide (i < δ.length)) (.ok (δ.set i (.val d)))
theorem Be{i:Nat}{pos:Pos}(hN:X.N.Nodup)(hi:X.N[i]? =some x)(hx:Loc X.env.scope x)(hf:X.fn x=true\/X.env.scope.names.lookup x=some .local:=by first | exact .inl rfl | exact .inr rfl | assumption):HI X (.Name x pos) (aM i):=
 (yd hN hi hx hf).imp fun v σ H Q ⟨Z,B,δ,d,cT,E,r,ht,q⟩=>by
   obtain⟨hi,h⟩:=R.aX ht;cases h;exact q _ H (aU.refl H) (E.set (by rw[<-E.len];exact of_decide_eq_true hi) r) (List.length_set ..)
abbrev Ak:=List D->au->R au
def Ut(K:W.Frag)(t:Ak):Ar:=fun vs σ H Q=>∃Z B δ ds cT,df K Z B H σ δ/\aD K B H ds vs/\t ds δ= .ok cT/\∀b8 H',aU H H'->df K Z B H' b8 cT->b8.length=σ.length->Q b8 H'
abbrev Ca(X:Cx)(ts:List Expr)(t:Ak):Prop:=EG X ts (Ut X.K t)
theorem EG.imp{X:Cx}{t t':Ar}(h:EG X e t)(w:∀v σ H Q,t' v σ H Q->t v σ H Q):EG X e t':=fun pins s σ H v u Q I r hq=>h pins s σ H v u Q I r (w v σ H Q hq)
def dw:Ak:=fun ds δ=>match ds with | []=> .ok δ | _=> .no
def bb(t:FT)(u:Ak):Ak:=fun ds δ=>match ds with | d ::r=>(t d δ).bind fun cT=>u r cT | []=> .no
theorem Bb:Ca X [] dw:=yH.imp fun vs σ H Q ⟨Z,B,δ,ds,cT,E,r,ht,q⟩=>by
 cases ds with
 | nil=>unfold aD at r;cases ht;exact⟨r,q σ H (aU.refl H) E rfl⟩
 | cons=>cases ht
theorem zV{u:Ak}(h1:HI X e t)(h2:Ca X es u)(hs:(assignEach (e ::es) X.env).map (·.2)=assign e X.env ::(assignEach es X.env).map (·.2):=by rfl):Ca X (e ::es) (bb t u):=
 (vy h1 h2 hs).imp fun vs σ H Q ⟨Z,B,δ,ds,cT,E,r,ht,q⟩=>by
   cases ds with
   | nil=>cases ht
   | cons d ds=>
     obtain⟨x,xs,rfl,r1,r2⟩:=r.b9;obtain⟨δ1,h1,h2⟩:=R.aj ht;exact⟨x,xs,rfl,Z,B,δ,d,δ1,E,r1,h1,fun Js H1 s1 E1 l1=>⟨Z,B,δ1,ds,cT,E1,r2.same s1,h2,fun rq H2 s2 E2 l2=>q rq H2 (s1.trans s2) E2 (l2.trans l1)⟩⟩
def dy(n:Nat)(t:Ak):FT:=fun d δ=>match d with | .tup ds=>R.aS (decide (ds.length=n)) (t ds δ) | _=> .no
theorem E_{k:Nat}{t:Ak}{n:Nat}{pos:Pos}(hc:X.calm=true)(h:Ca X es t)(hn:(assignEach es X.env).length=n:=by rfl)(pz:(assignEach es X.env).findIdx? (·.1)=none:=by rfl):HI X (.Tuple es k pos) (dy n t):=
 (Ao hc h hn pz).imp fun v σ H Q ⟨Z,B,δ,d,cT,E,r,ht,q⟩=>by
   cases d with
   | tup ds=>
     unfold Rep at r;obtain⟨a,xs,rfl,l,r⟩:=r;obtain⟨hl,h⟩:=R.aX ht;exact⟨a,xs,rfl,l.sq,by rw[<-r.length];exact of_decide_eq_true hl,Z,B,δ,ds,cT,E,r,h,q⟩
   | _=>cases ht
def Sz(f:FD)(t:FT):FS:=fun δ=>(f δ).bind fun d=>(t d δ).bind fun cT=> .ok (.nx cT)
def A_(K:W.Frag)(B:List Addr)(H:Hp)(J:It)(ds:List D):Prop:=∀B' H',cX B H B' H'->(∀(i:Nat) (d:D),ds[i]? =some d->J.go i H'/\∀x mW,J.yld i H' x mW->(∀a∈B',∃o,H' a=some o)->aU H' mW/\Rep K B' mW d x)/\J.stop ds.length H'
def iD(K:W.Frag)(f:au->R (List D)):TI:=fun σ H R=>∃Z B δ ds,df K Z B H σ δ/\f δ= .ok ds/\∀J H1,aU H H1->A_ K B H1 J ds->R J H1
abbrev Ja(X:Cx)(tg e:Expr)(f:au->R (List D)):Prop:=PI X tg e (iD X.K f)
def cn(f:FD):au->R (List D):=fun δ=>(f δ).bind fun d=>match d with | .lst ds=> .ok ds | .tup ds=> .ok ds | _=> .no
theorem Dy(h:PD X e f):Ja X tg e (cn f):=by
 intro pins s σ H RR I ⟨Z,B,δ,ds,E,hf,q⟩;obtain⟨d,h1,h2⟩:=R.aj hf;refine di (h pins s σ H (fun v H1=>aU H H1/\Rep X.K B H1 d v) I ⟨Z,B,δ,d,E,h1,fun v H1 s1 r1=>⟨s1,r1⟩⟩) fun v s1 ⟨x,H1,I1,r1,ss,rr⟩=>?_
 cases d with
 | lst es=>
   cases h2;unfold Rep at rr;obtain⟨a,xs,rfl,l,rr⟩:=rr;cases r1;obtain⟨its,rv,p,hz⟩:=I1.list l.sq;refine wpAny_pyIter_list p.isList ?_;refine⟨s1.heap.objs.size,[s1.heap.objs.size],_,_,H1,rfl,I1.kept (t':=s1.toks) fun b o e=>Heap.get?_push_of_some _ e,zL a _,⟨_,Heap.get?_push_size _ rfl,rfl,rfl⟩,fun b hb=>?_,q _ H1 ss fun B' H' pr=>?_⟩
   .have e:b=s1.heap.objs.size:=by simpa using hb
    subst e;exact I1.zk (Nat.le_refl _) (I1.hok.fresh (Nat.le_refl _))
   .have l':sW X.K B' H' a xs:=l.bc pr;have rr':=rr.bc pr;refine⟨fun i d hd=>?_,⟨xs,l'.sq,by rw[rr.length];exact Nat.le_refl _⟩⟩
    obtain⟨x,hx,rx⟩:=rr'.get hd;exact⟨⟨xs,x,l'.sq,hx⟩,fun y mW ⟨e1,e2⟩ _=>by
     subst e1;have:=e2 xs l'.sq;rw[hx] at this;cases this;exact⟨aU.refl _,rx⟩⟩
 | tup es=>
   cases h2;unfold Rep at rr;obtain⟨a,xs,rfl,l,rr⟩:=rr;cases r1;obtain⟨its,rv,p,hz⟩:=I1.tuple l.sq;refine wpAny_pyIter_tuple (show s1.heap.IsTuple a its.toArray from p) ?_
   refine⟨s1.heap.objs.size,[s1.heap.objs.size],_,_,H1,rfl,I1.kept (t':=s1.toks) fun b o e=>Heap.get?_push_of_some _ e,xo a _,⟨_,Heap.get?_push_size _ rfl,rfl,rfl⟩,fun b hb=>?_,q _ H1 ss fun B' H' pr=>?_⟩
   .have e:b=s1.heap.objs.size:=by simpa using hb
    subst e;exact I1.zk (Nat.le_refl _) (I1.hok.fresh (Nat.le_refl _))
   .have l':xf X.K B' H' a xs:=l.elim (fun z=> .inl ⟨(pr.rd z.2 z.1).2,(pr.rd z.2 z.1).1⟩) .inr
    have rr':=rr.bc pr;refine⟨fun i d hd=>?_,⟨xs,l'.sq,by rw[rr.length];exact Nat.le_refl _⟩⟩
    obtain⟨x,hx,rx⟩:=rr'.get hd;exact⟨⟨xs,x,l'.sq,hx⟩,fun y mW ⟨e1,e2⟩ _=>by
     subst e1;have:=e2 xs l'.sq;rw[hx] at this;cases this;exact⟨aU.refl _,rx⟩⟩
 | _=>cases h2
def kH(lo:Int)(n:Nat):List D:=(List.range n).map fun(i:Nat)=>D.int (lo+i)
theorem G4{K:W.Frag}{B:List Addr}(lo:Int)(n:Nat):A_ K B H (K9 lo n) (kH lo n):=fun B' H' _=>by
 refine⟨fun i d hd=>?_,?_⟩
 .unfold kH at hd;rw[List.getElem?_map] at hd;cases e:(List.range n)[i]? with
  | none=>rw [e] at hd;cases hd
  | some j=>
    rw[e] at hd;cases hd;obtain⟨hi,ej⟩:=List.getElem?_eq_some_iff.mp e;rw[List.getElem_range] at ej;subst ej;rw[List.length_range] at hi;exact⟨hi,fun x mW ⟨e1,e2⟩ _=>by subst e1 e2;exact⟨aU.refl _,by unfold Rep;rfl⟩⟩
 .show n<=(kH lo n).length;unfold kH;rw[List.length_map,List.length_range];exact Nat.le_refl _
def cx(f:FD):au->R (List D):=fun δ=>(f δ).bind fun d=>match d with | .int j=>R.aS (decide (-(2 ^ 62)<=j/\j < 2 ^ 62)) (.ok (kH 0 j.toNat)) | _=> .no
theorem xk{tg a:Expr}{p pos:Pos}(h:PD X a f)(hg:Gl X "range")(hm:X.mg "range"=none)(hs:starEach [a] X.env=[(false,eval a X.env)]:=by rfl):Ja X tg (.Call (.Name "range" p) [a] [] pos) (cx f):=
 (zt hg hm (eE h iW hs) hs).imp fun σ H RR ⟨Z,B,δ,ds,E,hf,q⟩=>by
   obtain⟨d,h1,h2⟩:=R.aj hf;cases d with
   | int j=>
     obtain⟨hb,h3⟩:=R.aX h2;cases h3;have hb:=of_decide_eq_true hb;refine⟨Z,B,δ, .int j,E,h1,fun v H1 s1 r1=>⟨j,?_,hb.1,hb.2,q _ H1 s1 (G4 0 _)⟩⟩
     unfold Rep at r1;rw[r1]
   | _=>cases h2
def NH(f g:FD):au->R (List D):=fun δ=>(f δ).bind fun d=>(g δ).bind fun e=>match d,e with
 | .int i, .int j=>R.aS (decide (-(2 ^ 62)<=i/\i < 2 ^ 62/\ -(2 ^ 62)<=j/\j < 2 ^ 62)) (.ok (kH i (j - i).toNat)) | _,_=> .no
def ml(t:FT)(body:FS):List D->FS
 | [],δ=> .ok (.nx δ)
 | d ::ds,δ=>(t d δ).bind fun δ1=>(body δ1).bind fun o=>match o with | .nx dX=>ml t body ds dX | .rt r=> .ok (.rt r)
def uZ(it:au->R (List D))(t:FT)(body:FS):FS:=fun δ=>(it δ).bind fun ds=>ml t body ds δ
theorem EN{tg iter:Expr}{body:List Stmt}{it:au->R (List D)}{t:FT}{F:FS}{pos:Pos}(hp:PassesOwn (model X.prog X.w) X.A X.env X.xe)(hc:X.calm=true)(hi:Ja X tg iter it)(hg:HI X tg t)(hb:oZ X body F)
 (hs:∀x,foldedSetIterable iter X.env x=pure x:=by intro _;rfl):CW X (.For tg iter body [] pos) (uZ it t F):=(wW hp hc hi hg hb hs).imp fun D σ H ⟨Z,B,δ,o,E,hf,q⟩=>by
 obtain⟨ds,h1,h2⟩:=R.aj hf;refine⟨Z,B,δ,ds,E,h1,fun J H1 s1 ir=>?_⟩
 refine⟨fun i m b8 H'=>m=ds.length - i/\i<=ds.length/\∃B' cT,Ev Z B H1 B' H'/\df X.K Z B' H' b8 cT/\ml t F (ds.drop i) cT= .ok o,⟨ds.length,rfl,Nat.zero_le _,B,δ,Ev.refl Z B H1 E.zb,E.same s1,by simpa using h2⟩,?_⟩
 rintro i m b8 H' ⟨rfl,hi,B',cT,ev,E',hl⟩;obtain⟨go,stop⟩:=ir B' H' ev.bc;by_cases hlt:i < ds.length
 .have hd:ds[i]? =some ds[i]:=List.getElem?_eq_getElem hlt;have hdrop:ds.drop i=ds[i] ::ds.drop (i+1):=List.drop_eq_getElem_cons hlt;rw[hdrop] at hl;obtain⟨δ1,h3,h4⟩:=R.aj hl;obtain⟨o1,h5,h6⟩:=R.aj h4;obtain⟨g1,g2⟩:=go i _ hd;refine .inr ⟨g1,fun rq H2=>∃B2 dX,Ev Z B H1 B2 H2/\df X.K Z B2 H2 rq dX/\ml t F (ds.drop (i+1)) dX= .ok o,fun rq H2 n=>⟨ds.length - (i+1),by omega,rfl,hlt,n⟩,fun x mW y=>?_⟩
  obtain⟨ss,rr⟩:=g2 x mW y E'.bs;refine⟨Z,B',cT,ds[i],δ1,E'.same ss,rr,h3,fun rq H2 s2 E2 l2=>⟨Z,B',δ1,o1,E2,h5,?_⟩⟩
  have ev2:Ev Z B H1 B' H2:=ev.trans (Ev.same E'.zb (ss.trans s2));cases o1 with
  | nx dX=>exact fun Dq B3 H3 OZ E3=>⟨B3,dX,ev2.trans OZ,E3,h6⟩
  | rt d=>
    cases h6;exact fun v B3 H3 OZ z r=>q v B3 H3 ((Ev.same E.zb s1).trans (ev2.trans OZ)) z r
 .have e:i=ds.length:=by omega
  subst e;rw[List.drop_length] at hl;cases hl;exact .inl ⟨stop,q b8 B' H' ((Ev.same E.zb s1).trans ev) E'⟩
def AO(c:au->R Bool)(body:FS):Nat->FS
 | 0,_=> .no
 | n+1,δ=>(c δ).bind fun b=>if b then(body δ).bind fun o=>match o with | .nx dX=>AO c body n dX | .rt r=> .ok (.rt r) else .ok (.nx δ)
def Ny(n:Nat)(c:au->R Bool)(body:FS):FS:=fun δ=>AO c body n δ
def pY(δ:au)(i:Nat):Sl:=match δ[i]? with | some (.val d)=> .val d | _=> .un
def pR(own:List Str)(kp:List Nat)(δ:au):au:=List.replicate own.length .un++kp.map (pY δ)
def nj(t:FT)(c:au->R Bool)(f:FD)(δ:au):List D->R (List D)
 | []=> .ok []
 | d ::ds=>(t d δ).bind fun δ1=>(c δ1).bind fun b=>if b then(f δ1).bind fun y=>(nj t c f δ ds).bind fun ys=> .ok (y ::ys) else nj t c f δ ds
def b7(it:au->R (List D))(t:FT)(c:au->R Bool)(f:FD)(own:List Str)(kp:List Nat):au->R (List D):=fun δ=>(it δ).bind fun ds=>R.aS (decide (ds.length<=sizeLine)) (nj t c f (pR own kp δ) ds)
theorem IE{K:W.Frag}{Z B B':List Addr}{H H':Hp}{δ:au}{own:List Str}{kp:List Nat}(E:df K Z B H σ δ)(p:cX B H B' H')(hB:∀a∈B',∃o,H' a=some o):df K [] B' H' (cR own kp σ) (pR own kp δ) where
 len:=by unfold cR pR;simp
 bs:=hB
 zb:=fun a ha=>by cases ha
 val:=fun i d e=>by
  unfold pR at e;unfold cR;by_cases hi:i < own.length
  .rw [List.getElem?_append_left (by simpa using hi),List.getElem?_replicate] at e
   split at e <;> cases e
  .rw [List.getElem?_append_right (by simpa using hi),List.length_replicate,List.getElem?_map] at e ⊢
   cases q:kp[i - own.length]? with
   | none=>rw [q] at e;cases e
   | some j=>
     rw[q] at e;have e:pY δ j= .val d:=Option.some.inj e;unfold pY at e;split at e
     .rename_i d' ed;cases e;obtain⟨v,h1,h2⟩:=E.val j d ed;exact⟨v,by simp [h1],h2.bc p⟩
     .cases e
 bld:=fun i ds e=>by
  unfold pR at e;by_cases hi:i < own.length
  .rw [List.getElem?_append_left (by simpa using hi),List.getElem?_replicate] at e
   split at e <;> cases e
  .rw [List.getElem?_append_right (by simpa using hi),List.length_replicate,List.getElem?_map] at e
   cases q:kp[i - own.length]? with
   | none=>rw [q] at e;cases e
   | some j=>
     rw[q] at e;have e:pY δ j= .bld ds:=Option.some.inj e;unfold pY at e;split at e <;> cases e
 dis:=fun i j a ds es e=>by
  unfold pR at e;by_cases hi:i < own.length
  .rw [List.getElem?_append_left (by simpa using hi),List.getElem?_replicate] at e
   split at e <;> cases e
  .rw [List.getElem?_append_right (by simpa using hi),List.length_replicate,List.getElem?_map] at e
   cases q:kp[i - own.length]? with
   | none=>rw [q] at e;cases e
   | some j=>
     rw[q] at e;have e:pY δ j= .bld ds:=Option.some.inj e;unfold pY at e;split at e <;> cases e
theorem yp{K:W.Frag}{it:au->R (List D)}{c:au->R Bool}{own:List Str}{kp:List Nat}{Q:VK}(h:tN K (b7 it t c f own kp) σ H Q) :
 yW (iD K it) (gD K t) (F3 K c) (tD K f) own kp σ H Q:=by
 obtain⟨Z,B,δ,ds,E,hf,q⟩:=h;obtain⟨es,h1,h2⟩:=R.aj hf;obtain⟨hl,h3⟩:=R.aX h2;have hl:=of_decide_eq_true hl;refine⟨Z,B,δ,es,E,h1,fun J H1 s1 ir Dd hD=>?_⟩
 have E1:=E.same s1;have pD:cX B H1 (Dd ::B) (upd H1 Dd (.lst [])):=uH hD;refine⟨fun i m ys H'=>m=es.length - i/\i<=es.length/\ys.length<=i/\H' Dd=some (.lst ys)/\aU H1 H'/\∃done rest,ds=done++rest/\aD K (Dd ::B) H' done ys/\nj t c f (pR own kp δ) (es.drop i)= .ok rest,
  ⟨es.length,rfl,Nat.zero_le _,Nat.le_refl _,a_,bg hD,[],ds,rfl,aD.nil,by simpa using h3⟩,?_⟩
 rintro i m ys H' ⟨rfl,hi,hy,hDl,ss,done,rest,rfl,rd,hc⟩;have dB:Dd ∉ B:=fun hb=>by obtain⟨o,ho⟩:=E1.bs Dd hb;rw [hD] at ho;cases ho
 have p':cX B H1 (Dd ::B) H':=fun b o e nb=>⟨ss b o e,fun hb=>by
  rcases List.mem_cons.mp hb with z | z
  .exact bD e hD z
  .exact nb z⟩
 have MF:∀a∈Dd ::B,∃o,H' a=some o:=fun a ha=>by
  rcases List.mem_cons.mp ha with z | z
  .subst z;exact⟨_,hDl⟩
  .obtain⟨o,ho⟩:=E1.bs a z;exact⟨o,ss a o ho⟩
 obtain⟨go,stop⟩:=ir (Dd ::B) H' p';by_cases hlt:i < es.length
 .have hd:es[i]? =some es[i]:=List.getElem?_eq_getElem hlt;have hdrop:es.drop i=es[i] ::es.drop (i+1):=List.drop_eq_getElem_cons hlt;rw[hdrop] at hc;obtain⟨δ1,h4,h5⟩:=R.aj hc;obtain⟨b,h6,h7⟩:=R.aj h5;obtain⟨g1,g2⟩:=go i _ hd;refine .inr ⟨g1,fun x H2 y=>?_⟩
  obtain⟨sy,ry⟩:=g2 x H2 y MF;have Ec:df K [] (Dd ::B) H2 (cR own kp σ) (pR own kp δ):=IE E1 (p'.trans (cX.same sy)) fun a ha=>let⟨o,ho⟩:=MF a ha;⟨o,sy a o ho⟩
  refine⟨[],Dd ::B,pR own kp δ,es[i],δ1,Ec,ry,h4,fun Dq H3 s3 E3 _=>⟨[],Dd ::B,δ1,b,E3,h6,fun H4 s4=>?_⟩⟩
  have sAll:aU H' H4:=sy.trans (s3.trans s4);cases b with
  | true=>
    rw[if_pos rfl] at h7;refine AM ?_;obtain⟨yv,h8,h9⟩:=R.aj h7;obtain⟨rs,O0,JY⟩:=R.aj h9;cases JY;refine⟨[],Dd ::B,δ1,yv,E3.same s4,h8,fun v H5 s5 r5=>?_⟩
    have s':aU H' H5:=sAll.trans s5;have O4:H5 Dd=some (.lst ys):=s' Dd _ hDl;have pu:cX (Dd ::B) H5 (Dd ::B) (upd H5 Dd (.lst (ys++[v]))):=fun b o e nb=>⟨by rw[bf (fun(z:b=Dd)=>nb (by rw[z];exact List.mem_cons_self))];exact e,nb⟩
    refine⟨O4,by omega,es.length - (i+1),by omega,rfl,hlt,by rw[List.length_append,List.length_singleton];omega,a_,fun b o e=>?_,done++[yv],rs,by simp,((rd.same s').append (aD.cons r5 aD.nil)).bc pu,O0⟩
    rw[bf (bD e hD)];exact s' b o (ss b o e)
  | false=>
    rw[if_neg (by decide)] at h7
    refine BQ ?_;exact⟨es.length - (i+1),by omega,rfl,hlt,by omega,sAll Dd _ hDl,ss.trans sAll,done,rest,rfl,rd.same sAll,h7⟩
 .have e:i=es.length:=by omega
  subst e;rw[List.drop_length] at hc;cases hc;rw[List.append_nil] at q;exact .inl ⟨stop,q Dd ys H' (s1.trans ss) (s1.free hD) hDl rd⟩
theorem D_{scope:Scope}{own:List Str}{kp:List Nat}{kn:List Str}{tg iter elt:Expr}{ifs:List Expr}{it:au->R (List D)}{t:FT}{c:au->R Bool}{f:FD}{pos:Pos}(hc:X.calm=true)(C:fq X scope own kp kn)(hi:Ja X tg iter it)
 (hg:∀fp s H,HI (bt X scope (own++kn) fp s H) tg t) (Ae:∀fp s H,oC (bt X scope (own++kn) fp s H) ifs (F3 X.K c)) (he:∀fp s H,PD (bt X scope (own++kn) fp s H) elt f)
 (hs:∀x,foldedSetIterable iter X.env x=pure x:=by intro _;rfl):PN X (.ListComp elt [⟨tg,iter,ifs,0⟩] scope pos) (b7 it t c f own kp):=
 (DI hc C hi hg Ae he hs).imp fun σ H Q h=>yp h
def fJ:au->R Bool:=fun _=> .ok true
theorem AF:oC X [] (F3 X.K fJ):=fun pins s σ H Q I ⟨Z,B,δ,b,E,hf,q⟩=>vV pins s σ H Q I (by cases hf;exact q H (aU.refl H))
theorem Eb{c:au->R Bool}(h:PB X e c):oC X [e] (F3 X.K c):=uF h
theorem vG{i:Nat}{x:Str}{pos' rn:Pos}{scope:Scope}{own:List Str}{kp:List Nat}{kn:List Str}{tg iter elt:Expr}{ifs:List Expr}{it:au->R (List D)}{t:FT}{c:au->R Bool}{f:FD}{pos:Pos}(hc:X.calm=true)
 (hN:X.N.Nodup) (hx:X.N[i]? =some x) (CJ:X.env.scope.names.lookup x=some .local) (C:fq X scope own kp kn) (hi:Ja X tg iter it)
 (hg:∀fp s H,HI (bt X scope (own++kn) fp s H) tg t) (Ae:∀fp s H,oC (bt X scope (own++kn) fp s H) ifs (F3 X.K c)) (he:∀fp s H,PD (bt X scope (own++kn) fp s H) elt f)
 (v8:swapsWith (.ListComp elt [⟨tg,iter,ifs,0⟩] scope pos) (some (.Name x pos')) rn.line X.env=pure true:=by rfl)
 (hs:∀x,foldedSetIterable iter X.env x=pure x:=by intro _;rfl):CW X (.Assign [.Name x pos'] (.ListComp elt [⟨tg,iter,ifs,0⟩] scope pos) rn) (eA i (eNew (b7 it t c f own kp))):=
 (qW hc hN hx CJ C hi hg Ae he v8 hs).imp fun D σ H h=>by
   have h1:=BF h;obtain⟨Z,B,δ,d,E,hf,q⟩:=h1;obtain⟨ds,h2,h3⟩:=R.aj hf;cases h3;refine yp ⟨Z,B,δ,ds,E,h2,fun a xs H' s n e r=>q _ H' s ?_⟩
   unfold Rep;refine⟨a,xs,rfl, .inl ⟨fun ha=>?_, .inl e⟩,r.bc fun b o e nb=>⟨e,fun hb=>nb (List.mem_cons_of_mem _ hb)⟩⟩
   obtain⟨o,ho⟩:=E.bs a ha;rw[n] at ho;cases ho
end
def dW(N:List Str)(ds:List D):au:=ds.map .val++List.replicate (N.length - ds.length) .un
def tm(N:List Str)(F:FS):List D->R D:=fun ds=>(F (dW N ds)).bind fun o=>match o with | .rt d=> .ok d | .nx _=> .ok .cI
theorem DP{K:W.Frag}{B:List Addr}{H:Hp}{N:List Str}{ds:List D}{vs:List V}(hB:∀a∈B,∃o,H a=some o)(r:aD K B H ds vs):df K B B H (start N vs) (dW N ds) where
 len:=by unfold start dW;simp [r.length]
 bs:=hB
 zb:=fun a ha=>ha
 val:=fun i d e=>by
  unfold dW at e;unfold start;by_cases hi:i < ds.length
  .rw [List.getElem?_append_left (by simpa using hi),List.getElem?_map] at e
   cases q:ds[i]? with
   | none=>rw [q] at e;cases e
   | some d'=>
     rw[q] at e;cases e;obtain⟨x,h1,h2⟩:=r.get q;exact⟨x,by rw[List.getElem?_append_left (by rw[List.length_map,<-r.length];exact hi),List.getElem?_map,h1];rfl,h2⟩
  .rw [List.getElem?_append_right (by simpa using hi),List.getElem?_replicate] at e
   split at e <;> cases e
 bld:=fun i es e=>by
  unfold dW at e;by_cases hi:i < ds.length
  .rw [List.getElem?_append_left (by simpa using hi),List.getElem?_map] at e
   cases q:ds[i]? with
   | none=>rw [q] at e;cases e
   | some d'=>rw [q] at e;cases e
  .rw [List.getElem?_append_right (by simpa using hi),List.getElem?_replicate] at e
   split at e <;> cases e
 dis:=fun i j a es fs e=>by
  unfold dW at e;by_cases hi:i < ds.length
  .rw [List.getElem?_append_left (by simpa using hi),List.getElem?_map] at e
   cases q:ds[i]? with
   | none=>rw [q] at e;cases e
   | some d'=>rw [q] at e;cases e
  .rw [List.getElem?_append_right (by simpa using hi),List.getElem?_replicate] at e
   split at e <;> cases e
theorem EI{P:Program}{w:World}{K:W.Frag}{mg:Wu}{base:Heap}{x qual:Str}{st:Stmt}{f:Addr}{fd:FuncData}{N ps:List Str}{k:Nat}{F:FS}(Fn:wK K x qual st f fd)(S:bz N ps (aO st))
 (dS:∀(d8:Value) (A:Around) (outer:List Env) (s:Shared) (H:Hp) (E:XK),eJ k (A.deeper (envOfC qual (aO st) s.heap.objs.size f d8))->
   oZ (iG rB P w K mg base N qual (aO st) f d8 A outer s H E).BK (bh st) F):hJ P w K mg base rB (k+1) f fd ps (Fu K ps.length (tm N F)):=by
 refine Fn.ok S (fun vs H Q E h=>h.1) (fun d8 A outer s H vs Q E hr h=>⟨_,dS d8 A outer s H E hr,?_⟩)
 obtain⟨_,B,ds,d,hB,r,hg,q⟩:=h;obtain⟨o,h1,h2⟩:=R.aj hg;refine⟨B,B,dW N ds,o,DP hB r,h1,?_⟩;have sm:∀{B':List Addr} {H':Hp},Ev B B H B' H'->aU H H':=fun {B' H'} ev b u e=>by
  by_cases hb:b∈B
  .exact(ev.zs b u e hb).1
  .exact(ev.bc b u e hb).1
 cases o with
 | nx cT=>
   cases h2;exact fun b8 B' H' ev _=>q _ H' (sm ev) (by unfold Rep;rfl)
 | rt d'=>
   cases h2;exact fun v B' H' ev z rr=>q v H' (sm ev) (rr.bc fun b o e nb=>⟨e,fun hb=>nb (z b hb)⟩)
end L2
end
section
namespace L2
open PySem PySem.Spec PyProof.Rows
theorem Rep.int{K:W.Frag}{B:List Addr}{i:Int}{v:V}:Rep K B H (.int i) v↔v= .int i:=by unfold Rep;exact Iff.rfl
theorem Rep.bl{K:W.Frag}{B:List Addr}{i:Bool}{v:V}:Rep K B H (.bl i) v↔v= .bl i:=by unfold Rep;exact Iff.rfl
theorem Rep.str{K:W.Frag}{B:List Addr}{v:V}:Rep K B H (.str i) v↔v= .str i:=by unfold Rep;exact Iff.rfl
theorem Rep.cI{K:W.Frag}{B:List Addr}{v:V}:Rep K B H .cI v↔v= .cI:=by unfold Rep;exact Iff.rfl
theorem Rep.lst{K:W.Frag}{B:List Addr}{ds:List D}{v:V}:Rep K B H (.lst ds) v↔∃a xs,v= .ref a/\sW K B H a xs/\aD K B H ds xs:=by rw[Rep]
theorem Rep.tup{K:W.Frag}{B:List Addr}{ds:List D}{v:V}:Rep K B H (.tup ds) v↔∃a xs,v= .ref a/\xf K B H a xs/\aD K B H ds xs:=by rw[Rep]
section
variable {X:Cx}
theorem l_.of{f:Value->Value->Sem Value}{r:R2}{g:D->D->R D}(h:mE X f r)
 (w:∀(B:List Addr) (H:Hp) (da db d:D) (x y:V) (Q:VK),(∀a∈B,∃o,H a=some o)->Rep X.K B H da x->Rep X.K B H db y->g da db= .ok d->(∀z H',aU H H'->Rep X.K B H' d z->Q z H')->r x y H Q):l_ X f g:=by
 intro pins s σ H B da db d x y v u I hb rx ry ra rb hg;exact h pins s σ H x y v u _ I rx ry (w B H da db d x y _ hb ra rb hg fun z H' s1 r1=>⟨s1,r1⟩)
theorem cN.of{f:Value}{r:List V->Hp->VK->Prop}{g:List D->R D}(h:jC X f r)
 (w:∀(B:List Addr) (H:Hp) (ds:List D) (d:D) (xs:List V) (Q:VK),(∀a∈B,∃o,H a=some o)->aD X.K B H ds xs->g ds= .ok d->(∀z H',aU H H'->Rep X.K B H' d z->Q z H')->r xs H Q):cN X f g:=by
 intro pins s σ H B ds d xs us I hb rx rs hg;exact h pins s σ H xs us _ I rx (w B H ds d xs _ hb rs hg fun z H' s1 r1=>⟨s1,r1⟩)
theorem cN.or{f:Value}{g g1 g2:List D->R D}(h1:cN X f g1)(h2:cN X f g2)(e:∀a d,g a= .ok d->g1 a= .ok d\/g2 a= .ok d):cN X f g:=by
 intro pins s σ H B ds d xs us I hb rx rs hg;rcases e ds d hg with q | q
 .exact h1 pins s σ H B ds d xs us I hb rx rs q
 .exact h2 pins s σ H B ds d xs us I hb rx rs q
def C_(C:Int->Int->Bool)(g:Int->Int->Int):D->D->R D
 | .int i, .int j=>R.aS (C i j) (.ok (.int (g i j)))
 | _,_=> .no
theorem yT{f:Value->Value->Sem Value}{C:Int->Int->Bool}{Cp:Int->Int->Prop}{g:Int->Int->Int}(h:mE X f (rI Cp fun i j=> .int (g i j)))(hc:∀i j,C i j=true->Cp i j):l_ X f (C_ C g):=
 l_.of h fun B H da db d x y Q _ ra rb hg q=>by
  unfold C_ at hg;split at hg
  .obtain⟨h1,h2⟩:=R.aX hg;cases h2;exact⟨_,_,Rep.int.mp ra,Rep.int.mp rb,hc _ _ h1,q _ H (aU.refl H) (Rep.int.mpr rfl)⟩
  .cases hg
def zN(g:Int->Int->Int):D->D->R D
 | .int i, .int j=> .ok (.int (g i j))
 | _,_=> .no
theorem Ho{f:Value->Value->Sem Value}{g:Int->Int->Int}(h:mE X f (ET fun i j=> .int (g i j))):l_ X f (zN g):=
 l_.of h fun B H da db d x y Q _ ra rb hg q=>by
  unfold zN at hg;split at hg
  .cases hg;exact⟨_,_,Rep.int.mp ra,Rep.int.mp rb,q _ H (aU.refl H) (Rep.int.mpr rfl)⟩
  .cases hg
def JC(g:Int->Int->Bool):D->D->R D
 | .int i, .int j=> .ok (.bl (g i j))
 | _,_=> .no
theorem B6{f:Value->Value->Sem Value}{g:Int->Int->Bool}(h:mE X f (ET fun i j=> .bl (g i j))):l_ X f (JC g):=
 l_.of h fun B H da db d x y Q _ ra rb hg q=>by
  unfold JC at hg;split at hg
  .cases hg;exact⟨_,_,Rep.int.mp ra,Rep.int.mp rb,q _ H (aU.refl H) (Rep.bl.mpr rfl)⟩
  .cases hg
abbrev oW:D->D->R D:=zN fun i j=>i - j
theorem p_:l_ X (binaryOp .Sub) oW:=Ho Hj
abbrev mi:D->D->R D:=C_ (fun _ j=>decide (0 < j/\j < 1073741824)) fun i j=>i / j
theorem qx:l_ X (binaryOp .FloorDiv) mi:=yT Es fun i j h=>(of_decide_eq_true h:0 < j/\j < 1073741824)
abbrev du:D->D->R D:=C_ (fun _ j=>decide (0 < j)) fun i j=>i % j
theorem c_:l_ X (binaryOp .Mod) du:=yT G1 fun i j h=>of_decide_eq_true h
abbrev zF:D->D->R D:=C_ (fun i j=>decide (0<=j/\j<=1000000/\i.natAbs < 2 ^ 64)) fun i j=>i ^ j.toNat
theorem Bd:l_ X (binaryOp .Pow) zF:=yT HC fun i j h=>(of_decide_eq_true h:0<=j/\j<=1000000/\i.natAbs < 2 ^ 64)
abbrev K2:D->D->R D:=C_ (fun _ j=>decide (0<=j)) fun i j=>i / 2 ^ j.toNat
theorem K1:l_ X (binaryOp .RShift) K2:=yT GX fun i j h=>of_decide_eq_true h
abbrev VS:D->D->R D:=zN fun i j=>Builtin.bitAnd i j
abbrev Vu:D->D->R D:=zN fun i j=>Builtin.bitOr i j
abbrev VI:D->D->R D:=zN fun i j=>Builtin.bitXor i j
abbrev Ge:D->D->R D:=JC fun i j=>decide (i < j)
theorem K8:l_ X (compareOp .Lt) Ge:=B6 J1
abbrev Vx:D->D->R D:=JC fun i j=>decide (i<=j)
abbrev rW:D->D->R D:=JC fun i j=>decide (j < i)
theorem wC:l_ X (compareOp .Gt) rW:=B6 Le
abbrev KY:D->D->R D:=JC fun i j=>decide (j<=i)
theorem KD:l_ X (compareOp .GtE) KY:=B6 Lb
theorem sW.qe{K:W.Frag}{B:List Addr}{H:Hp}{a:Addr}{xs:List V}(h:H a=some (.lst xs))(n:a ∉ B):sW K B H a xs:= .inl ⟨n, .inl h⟩
theorem Inv.Dk{pins:Wo}{s:Shared}{a:Addr}{xs:List V}{B:List Addr}(I:Inv X pins σ H s)(h:sW X.K B H a xs):∃(its:List Value) (n:Nat),Vals xs its/\s.heap.get? a=some {cls:= .type "list",data:= .seq its.toArray n}/\xs.length<=sizeLine:=by
 rcases h with⟨_,h⟩ | ⟨its,n,hk,hz,r⟩
 .obtain⟨z,its,n,r,e⟩:=h.ok I.hok;exact⟨its,n,r,e,z⟩
 .exact⟨its,n,r,I.Dj a _ hk,hz⟩
theorem El:mE X (binaryOp .Add) (fun x y H Q=>∃B l b xs zs,x= .ref l/\y= .ref b/\sW X.K B H l xs/\sW X.K B H b zs/\xs.length+zs.length<=sizeLine/\∀p,H p=none->Q (.ref p) (upd H p (.lst (xs++zs)))):=by
 intro pins s σ H x y v u Q I rx ry h;obtain⟨B,l,b,xs,zs,rfl,rfl,hH,hB,hz,q⟩:=h;cases rx;cases ry;obtain⟨its,n,r,e,_⟩:=I.Dk hH;obtain⟨nQ,n2,r2,e2,_⟩:=I.Dk hB;have l1:=r.length;have l2:=r2.length;refine PySem.P.add_list e e2 ?_ (by rw[List.size_toArray,List.size_toArray];omega)
 have ea:its.toArray++nQ.toArray=(its++nQ).toArray:=by simp
 rw[ea];exact⟨.ref _,_,I.DJ (t':=s.toks) (r.append r2) (by rw[List.length_append];omega),rfl,q _ I.fresh⟩
def bH:D->D->R D
 | .int i, .int j=> .ok (.int (i+j))
 | .str a, .str b=>R.aS (decide (a.length+b.length<=sizeLine)) (.ok (.str (a++b)))
 | .lst a, .lst b=>R.aS (decide (a.length+b.length<=sizeLine)) (.ok (.lst (a++b)))
 | _,_=> .no
theorem bw:l_ X (binaryOp .Add) bH:=by
 intro pins s σ H B da db d x y v u I hb rx ry ra rb hg;unfold bH at hg;split at hg
 .cases hg;exact G9 pins s σ H x y v u _ I rx ry ⟨_,_,Rep.int.mp ra,Rep.int.mp rb,aU.refl H,Rep.int.mpr rfl⟩
 .obtain⟨h1,h2⟩:=R.aX hg;cases h2;exact wY pins s σ H x y v u _ I rx ry ⟨_,_,Rep.str.mp ra,Rep.str.mp rb,of_decide_eq_true h1,aU.refl H,Rep.str.mpr rfl⟩
 .obtain⟨h1,h2⟩:=R.aX hg;cases h2;obtain⟨a1,U6,rfl,l1,r1⟩:=Rep.lst.mp ra;obtain⟨a2,UJ,rfl,l2,r2⟩:=Rep.lst.mp rb;refine El pins s σ H _ _ v u _ I rx ry ⟨B,a1,a2,U6,UJ,rfl,rfl,l1,l2,by rw[<-r1.length,<-r2.length];exact of_decide_eq_true h1,fun p hp=>⟨bg hp,Rep.lst.mpr ⟨p,_,rfl, .qe a_ fun ha=>?_,(r1.append r2).same (bg hp)⟩⟩⟩
  obtain⟨o,ho⟩:=hb p ha;rw[hp] at ho;cases ho
 .cases hg
theorem Ee:mE X (binaryOp .Mult) (fun x y H Q=>∃z n,x= .str z/\y= .int n/\MulOk z n/\Q (.str (Txt.mul z n)) H):=by
 intro pins s σ H x y v u Q I rx ry h;obtain⟨z,n,rfl,rfl,hm,q⟩:=h;obtain⟨t,rfl⟩:=rx;obtain⟨t',rfl⟩:=ry;exact SB.mul hm fun t2 k=>⟨.str _,H,I.tok _,⟨_,rfl⟩,q⟩
end
end L2
end
section
namespace L2
open PySem PySem.Spec PyProof.Rows
section
variable {X:Cx}
theorem mulOk_of{x:Str}{n:Int}(h1: -(2 ^ 63)<=n)(h2:n < 2 ^ 63)(h3:x.length*n.toNat<=sizeLine):MulOk x n:=by
 refine⟨by simp only[Bool.or_eq_false_iff,decide_eq_false_iff_not];omega,fun hn _=>?_,fun hn _=>?_⟩
 .have hz:sizeLine=16777216:=sizeLine_eq;have e:(n.toNat:Int)=n:=by omega
  have h4:(x.length:Int)*n<=16777216:=by
   have:((x.length*n.toNat:Nat):Int)<=((16777216:Nat):Int):=Int.ofNat_le.mpr (by omega)
   rw[Int.natCast_mul,e] at this;exact this
  have:(x.length:Int)<=(2 ^ 63 - 1) / n:=(Int.le_ediv_iff_mul_le (by omega)).mpr (by omega)
  omega
 .unfold Builtin.Str.tooLong;exact decide_eq_false (by omega)
def kE:D->D->R D
 | .int i, .int j=>R.aS (decide ((-(2 ^ 64) < i/\i < 2 ^ 64)\/(-(2 ^ 64) < j/\j < 2 ^ 64))) (.ok (.int (i*j)))
 | .str x, .int n=>R.aS (decide (-(2 ^ 63)<=n/\n < 2 ^ 63/\x.length*n.toNat<=sizeLine)) (.ok (.str (Txt.mul x n)))
 | _,_=> .no
theorem lE:l_ X (binaryOp .Mult) kE:=by
 intro pins s σ H B da db d x y v u I hb rx ry ra rb hg;unfold kE at hg;split at hg
 .obtain⟨h1,h2⟩:=R.aX hg;cases h2;have h1:=of_decide_eq_true h1;exact HL pins s σ H x y v u _ I rx ry ⟨_,_,Rep.int.mp ra,Rep.int.mp rb,h1,aU.refl H,Rep.int.mpr rfl⟩
 .obtain⟨h1,h2⟩:=R.aX hg;cases h2;have h1:=of_decide_eq_true h1;exact Ee pins s σ H x y v u _ I rx ry ⟨_,_,Rep.str.mp ra,Rep.int.mp rb,mulOk_of h1.1 h1.2.1 h1.2.2,aU.refl H,Rep.str.mpr rfl⟩
 .cases hg
mutual
def toPy:D->PyData
 | .cI=> .none
 | .bl b=> .bool b
 | .int i=> .int i
 | .str x=> .str x
 | .lst ds=> .list (kc ds)
 | .tup ds=> .tuple (kc ds)
 | .dct _ _=> .dict []
def kc:List D->List PyData
 | []=>[]
 | d ::ds=>toPy d ::kc ds
end
mutual
def dU:D->Bool
 | .dct _ _=>false
 | .lst ds=>iS ds
 | .tup ds=>iS ds
 | _=>true
def iS:List D->Bool
 | []=>true
 | d ::ds=>dU d && iS ds
end
mutual
theorem Rep.reads{pins:Wo}{s:Shared}{B:List Addr}(I:Inv X pins σ H s):∀{d:D} {v:V} {u:Value},dU d=true->Rep X.K B H d v->RelV v u->∃as,Reads s.heap u (toPy d) as
 | .cI,v,u,_,r,q=>by rw[Rep.cI.mp r] at q;cases q;unfold toPy;exact⟨_, .none⟩
 | .bl b,v,u,_,r,q=>by rw[Rep.bl.mp r] at q;cases q;unfold toPy;exact⟨_, .bool b⟩
 | .int i,v,u,_,r,q=>by rw[Rep.int.mp r] at q;obtain⟨t,rfl⟩:=q;unfold toPy;exact⟨_, .int i t⟩
 | .str x,v,u,_,r,q=>by rw[Rep.str.mp r] at q;obtain⟨t,rfl⟩:=q;unfold toPy;exact⟨_, .str x t⟩
 | .lst ds,v,u,hp,r,q=>by
   obtain⟨a,xs,rfl,l,rs⟩:=Rep.lst.mp r;cases q;obtain⟨its,rv,⟨o,n,e,hc,hd,he⟩,_⟩:=I.list l.sq;obtain⟨as,ra⟩:=aD.reads I (by unfold dU at hp;exact hp) rs rv
   unfold toPy;exact⟨_, .list e hc he (by simpa using ra)⟩
 | .tup ds,v,u,hp,r,q=>by
   obtain⟨a,xs,rfl,l,rs⟩:=Rep.tup.mp r;cases q;obtain⟨its,rv,⟨o,e,hc,n,hd⟩,_⟩:=I.tuple l.sq;obtain⟨as,ra⟩:=aD.reads I (by unfold dU at hp;exact hp) rs rv
   unfold toPy;exact⟨_, .tuple e hc hd (by simpa using ra)⟩
 | .dct _ _,v,u,hp,r,q=>by unfold dU at hp;cases hp
theorem aD.reads{pins:Wo}{s:Shared}{B:List Addr}(I:Inv X pins σ H s):∀{ds:List D} {vs:List V} {us:List Value},iS ds=true->aD X.K B H ds vs->Vals vs us->∃as,ReadsAll s.heap us (kc ds) as
 | [],vs,us,_,r,q=>by unfold aD at r;subst r;cases q;unfold kc;exact⟨_, .nil⟩
 | d ::ds,vs,us,hp,r,q=>by
   obtain⟨x,xs,rfl,r1,r2⟩:=r.b9;cases q with
   | cons q1 q2=>
     unfold iS at hp;obtain⟨h1,h2⟩:=Bool.and_eq_true_iff.mp hp;obtain⟨as,a1⟩:=Rep.reads I h1 r1 q1;obtain⟨bs,a2⟩:=aD.reads I h2 r2 q2;unfold kc;exact⟨_, .cons a1 a2⟩
end
def Gp:D->D->R Bool
 | .int i, .int j=> .ok (decide (i=j))
 | .str x, .str y=> .ok (decide (x=y))
 | .bl a, .bl b=> .ok (decide (a=b))
 | d,e=>R.aS (dU d && dU e && SeqAt.shaped (toPy d) && SeqAt.shaped (toPy e)) (.ok (PyData.eqv (toPy d) (toPy e)))
def rV(d e:D):R D:=(Gp d e).bind fun b=> .ok (.bl b)
def rA(d e:D):R D:=(Gp d e).bind fun b=> .ok (.bl (!b))
theorem o5(hu:X.A.units+64 < cLine):l_ X (compareOp .Eq) rV:=by
 intro pins s σ H B da db d x y v u I hb rx ry ra rb hg;obtain⟨b,h1,h2⟩:=R.aj hg;cases h2;unfold Gp at h1;split at h1
 .cases h1;rename_i i j;have:=AE pins s σ H x y v u (fun z H'=>aU H H'/\Rep X.K B H' (.bl (decide (i=j))) z) I rx ry
  rw[Rep.int.mp ra,Rep.int.mp rb] at this;refine this ⟨rfl,aU.refl H,Rep.bl.mpr ?_⟩;simp [V.int.injEq]
 .cases h1;rename_i i j;have:=AE pins s σ H x y v u (fun z H'=>aU H H'/\Rep X.K B H' (.bl (decide (i=j))) z) I rx ry
  rw[Rep.str.mp ra,Rep.str.mp rb] at this;refine this ⟨rfl,aU.refl H,Rep.bl.mpr ?_⟩;simp [V.str.injEq]
 .cases h1;rename_i i j;have:=AE pins s σ H x y v u (fun z H'=>aU H H'/\Rep X.K B H' (.bl (decide (i=j))) z) I rx ry
  rw[Rep.bl.mp ra,Rep.bl.mp rb] at this;refine this ⟨rfl,aU.refl H,Rep.bl.mpr ?_⟩;simp [V.bl.injEq]
 .obtain⟨h3,h4⟩:=R.aX h1;cases h4;simp only[Bool.and_eq_true] at h3;obtain⟨⟨⟨p1,p2⟩,s1⟩,s2⟩:=h3;obtain⟨as,r1⟩:=ra.reads I p1 rx;obtain⟨bs,r2⟩:=rb.reads I p2 ry;exact eq_dataH r1 r2 s1 s2 hu ⟨.bl _,H,I,rfl,aU.refl H,Rep.bl.mpr rfl⟩
theorem va(hu:X.A.units+64 < cLine):l_ X (compareOp .NotEq) rA:=by
 intro pins s σ H B da db d x y v u I hb rx ry ra rb hg;obtain⟨b,h1,h2⟩:=R.aj hg;cases h2;unfold Gp at h1;split at h1
 .cases h1;rename_i i j;have:=A9 pins s σ H x y v u (fun z H'=>aU H H'/\Rep X.K B H' (.bl (!decide (i=j))) z) I rx ry
  rw[Rep.int.mp ra,Rep.int.mp rb] at this;refine this ⟨rfl,aU.refl H,Rep.bl.mpr ?_⟩;simp [V.int.injEq]
 .cases h1;rename_i i j;have:=A9 pins s σ H x y v u (fun z H'=>aU H H'/\Rep X.K B H' (.bl (!decide (i=j))) z) I rx ry
  rw[Rep.str.mp ra,Rep.str.mp rb] at this;refine this ⟨rfl,aU.refl H,Rep.bl.mpr ?_⟩;simp [V.str.injEq]
 .cases h1;rename_i i j;have:=A9 pins s σ H x y v u (fun z H'=>aU H H'/\Rep X.K B H' (.bl (!decide (i=j))) z) I rx ry
  rw[Rep.bl.mp ra,Rep.bl.mp rb] at this;refine this ⟨rfl,aU.refl H,Rep.bl.mpr ?_⟩;simp [V.bl.injEq]
 .obtain⟨h3,h4⟩:=R.aX h1;cases h4;simp only[Bool.and_eq_true] at h3;obtain⟨⟨⟨p1,p2⟩,s1⟩,s2⟩:=h3;obtain⟨as,r1⟩:=ra.reads I p1 rx;obtain⟨bs,r2⟩:=rb.reads I p2 ry;exact ne_dataH r1 r2 s1 s2 hu ⟨.bl _,H,I,rfl,aU.refl H,Rep.bl.mpr rfl⟩
def strs?:List D->Option (List Str)
 | []=>some []
 | .str x ::ds=>(strs? ds).map (x ::·)
 | _ ::_=>none
theorem jz{K:W.Frag}{B:List Addr}:∀{ds:List D} {xs:List V} {ss:List Str},aD K B H ds xs->strs? ds=some ss->xs=ss.map V.str
 | [],xs,ss,r,h=>by unfold aD at r;subst r;cases h;rfl
 | d ::ds,xs,ss,r,h=>by
   obtain⟨x,r',rfl,r1,r2⟩:=r.b9;cases d with
   | str z=>
     unfold strs? at h;cases e:strs? ds with
     | none=>rw [e] at h;cases h
     | some tt=>
       rw[e] at h;cases h;rw[Rep.str.mp r1,jz r2 e];rfl
   | _=>cases h
def ints?:List D->Option (List Int)
 | []=>some []
 | .int x ::ds=>(ints? ds).map (x ::·)
 | _ ::_=>none
theorem dO{K:W.Frag}{B:List Addr}:∀{ds:List D} {xs:List V} {ss:List Int},aD K B H ds xs->ints? ds=some ss->xs=ss.map V.int
 | [],xs,ss,r,h=>by unfold aD at r;subst r;cases h;rfl
 | d ::ds,xs,ss,r,h=>by
   obtain⟨x,r',rfl,r1,r2⟩:=r.b9;cases d with
   | int z=>
     unfold ints? at h;cases e:ints? ds with
     | none=>rw [e] at h;cases h
     | some tt=>
       rw[e] at h;cases h;rw[Rep.int.mp r1,dO r2 e];rfl
   | _=>cases h
def inD(d e:D):R Bool:=match d,e with
 | .str x, .lst ds=>(match strs? ds with | some ss=> .ok (ss.contains x) | none=> .no)
 | .str x, .tup ds=>(match strs? ds with | some ss=> .ok (ss.contains x) | none=> .no)
 | .str x, .str y=> .ok (!(Builtin.Str.occurrences y x 0 y.length 1).isEmpty)
 | .int x, .lst ds=>(match ints? ds with | some ss=> .ok (ss.contains x) | none=> .no)
 | .int x, .tup ds=>(match ints? ds with | some ss=> .ok (ss.contains x) | none=> .no)
 | _,_=> .no
def V4(d e:D):R D:=(inD d e).bind fun b=> .ok (.bl b)
def mK(d e:D):R D:=(inD d e).bind fun b=> .ok (.bl (!b))
theorem qb(x:Str):∀ss:List Str,F9 (.str x) (ss.map V.str)=ss.contains x
 | []=>rfl
 | y ::ss=>by
   unfold F9;rw[List.map_cons,List.any_cons];have ih:=qb x ss;unfold F9 at ih;rw[ih];show(y==x || ss.contains x)=_
   rw[List.contains_cons];congr 1;exact Bool.eq_iff_iff.mpr ⟨fun h=>by simpa using(beq_iff_eq.mp h).symm,fun h=>by simpa using(beq_iff_eq.mp h).symm⟩
theorem p7(x:Int):∀ss:List Int,F9 (.int x) (ss.map V.int)=ss.contains x
 | []=>rfl
 | y ::ss=>by
   unfold F9;rw[List.map_cons,List.any_cons];have ih:=p7 x ss;unfold F9 at ih;rw[ih];show(y==x || ss.contains x)=_
   rw[List.contains_cons];congr 1;exact Bool.eq_iff_iff.mpr ⟨fun h=>by simpa using(beq_iff_eq.mp h).symm,fun h=>by simpa using(beq_iff_eq.mp h).symm⟩
theorem sL(ss:List Int):(ss.map V.int).all kh=true:=by
 rw[List.all_map];simp [List.all_eq_true,kh]
theorem sg(ss:List Str):(ss.map V.str).all kh=true:=by
 rw[List.all_map];simp [List.all_eq_true,kh]
theorem Ir{neg:Bool}{op:CmpOp}{g:D->D->R D}(h1:mE X (compareOp op) (QI X.K neg))(h2:mE X (compareOp op) (fun x y H Q=>∃i j,x= .str i/\y= .str j/\Q (.bl (if neg then !(!(Builtin.Str.occurrences j i 0 j.length 1).isEmpty) else(!(Builtin.Str.occurrences j i 0 j.length 1).isEmpty))) H))
 (hg:∀d e r,g d e= .ok r->∃b,inD d e= .ok b/\r= .bl (if neg then !b else b)):l_ X (compareOp op) g:=by
 intro pins s σ H B da db d x y v u I hb rx ry ra rb hg';obtain⟨b,hi,rfl⟩:=hg da db d hg';unfold inD at hi;split at hi
 .rename_i z ds;split at hi
  .rename_i ss e;cases hi;obtain⟨a,xs,rfl,l,rs⟩:=Rep.lst.mp rb;refine h1 pins s σ H x _ v u _ I rx ry ⟨a,xs,rfl, .inl l.sq,by rw[Rep.str.mp ra];rfl,by rw[jz rs e];exact sg _,aU.refl H,Rep.bl.mpr ?_⟩
   rw[jz rs e,Rep.str.mp ra,qb]
  .cases hi
 .rename_i z ds;split at hi
  .rename_i ss e;cases hi;obtain⟨a,xs,rfl,l,rs⟩:=Rep.tup.mp rb;refine h1 pins s σ H x _ v u _ I rx ry ⟨a,xs,rfl, .inr l.sq,by rw[Rep.str.mp ra];rfl,by rw[jz rs e];exact sg _,aU.refl H,Rep.bl.mpr ?_⟩
   rw[jz rs e,Rep.str.mp ra,qb]
  .cases hi
 .cases hi;exact h2 pins s σ H x y v u _ I rx ry ⟨_,_,Rep.str.mp ra,Rep.str.mp rb,aU.refl H,Rep.bl.mpr rfl⟩
 .rename_i z ds;split at hi
  .rename_i ss e;cases hi;obtain⟨a,xs,rfl,l,rs⟩:=Rep.lst.mp rb;refine h1 pins s σ H x _ v u _ I rx ry ⟨a,xs,rfl, .inl l.sq,by rw[Rep.int.mp ra];rfl,by rw[dO rs e];exact sL _,aU.refl H,Rep.bl.mpr ?_⟩
   rw[dO rs e,Rep.int.mp ra,p7]
  .cases hi
 .rename_i z ds;split at hi
  .rename_i ss e;cases hi;obtain⟨a,xs,rfl,l,rs⟩:=Rep.tup.mp rb;refine h1 pins s σ H x _ v u _ I rx ry ⟨a,xs,rfl, .inr l.sq,by rw[Rep.int.mp ra];rfl,by rw[dO rs e];exact sL _,aU.refl H,Rep.bl.mpr ?_⟩
   rw[dO rs e,Rep.int.mp ra,p7]
  .cases hi
 .cases hi
theorem tO:l_ X (compareOp .NotIn) mK:=Ir (neg:=true) ua tG fun d e r h=>by
 obtain⟨b,h1,h2⟩:=R.aj h;cases h2;exact⟨b,h1,rfl⟩
def br(d e:D):R D:=match d,e with
 | .lst ds, .int i=>(match rF ds i with | some x=> .ok x | none=> .no)
 | .tup ds, .int i=>(match rF ds i with | some x=> .ok x | none=> .no)
 | .str x, .int i=>R.aS (decide (x.length<=sizeLine)) (match rF x.cps.toList i with | some c=> .ok (.str ⟨#[c]⟩) | none=> .no)
 | _,_=> .no
theorem uC{K:W.Frag}{B:List Addr}{ds:List D}{xs:List V}{i:Int}{d:D}(r:aD K B H ds xs)(h:rF ds i=some d):∃x,rF xs i=some x/\Rep K B H d x:=by
 unfold rF at h ⊢;rw[<-r.length];cases e:Dc ds.length i with
 | none=>rw [e] at h;cases h
 | some j=>
   rw[e] at h;exact r.get h
theorem J2(ha:PD X a fa)(hb:PD X b fb)(hs:tL b):PD X (.Subscript a b pos) (e2 br fa fb):=by
 refine(Ld (r:=PV X.K) HK ha hb hs).imp fun σ H Q ⟨Z,B,δ,d,E,hf,q⟩=>?_
 obtain⟨d1,h1,h2⟩:=R.aj hf;obtain⟨d2,h3,h4⟩:=R.aj h2;refine⟨Z,B,δ,d1,E,h1,fun v1 H1 s1 r1=>⟨Z,B,δ,d2,E.same s1,h3,fun v2 H2 s2 r2=>?_⟩⟩
 have Ah:=r1.same s2;unfold br at h4;split at h4
 .split at h4
  .rename_i e;cases h4;obtain⟨p,xs,rfl,l,rs⟩:=Rep.lst.mp Ah;obtain⟨y,e1,e2⟩:=uC rs e;exact .inl ⟨p,xs,_,y,rfl,Rep.int.mp r2,l.sq,e1,q y H2 (s1.trans s2) e2⟩
  .cases h4
 .split at h4
  .rename_i e;cases h4;obtain⟨p,xs,rfl,l,rs⟩:=Rep.tup.mp Ah;obtain⟨y,e1,e2⟩:=uC rs e;exact .inr (.inl ⟨p,xs,_,y,rfl,Rep.int.mp r2,l.sq,e1,q y H2 (s1.trans s2) e2⟩)
  .cases h4
 .obtain⟨hl,h5⟩:=R.aX h4;split at h5
  .rename_i e;cases h5;exact .inr (.inr ⟨_,_,_,Rep.str.mp Ah,Rep.int.mp r2,of_decide_eq_true hl,e,q _ H2 (s1.trans s2) (Rep.str.mpr rfl)⟩)
  .cases h5
 .cases h4
abbrev FO:=au->R (Option Int)
def RP(K:W.Frag)(f:FO):TO:=fun σ H Q=>∃Z B δ o,df K Z B H σ δ/\f δ= .ok o/\∀H',aU H H'->Q o H'
theorem PO.imp{X:Cx}{e:Option Expr}{t t':TO}(h:PO X e t)(w:∀σ H Q,t' σ H Q->t σ H Q):PO X e t':=fun pins s σ H Q I hq=>h pins s σ H Q I (w σ H Q hq)
abbrev PP(X:Cx)(e:Option Expr)(f:FO):Prop:=PO X e (RP X.K f)
def yj:FO:=fun _=> .ok none
def qr(f:FD):FO:=fun δ=>(f δ).bind fun d=>match d with | .int i=> .ok (some i) | _=> .no
theorem E9:PP X none yj:=D6.imp fun σ H Q ⟨Z,B,δ,o,E,hf,q⟩=>by cases hf;exact q H (aU.refl H)
theorem EX(h:PD X e f):PP X (some e) (qr f):=(Dt h).imp fun σ H Q ⟨Z,B,δ,o,E,hf,q⟩=>by
 obtain⟨d,h1,h2⟩:=R.aj hf;cases d with
 | int i=>cases h2;exact⟨Z,B,δ, .int i,E,h1,fun v H1 s1 r1=>⟨i,Rep.int.mp r1,q H1 s1⟩⟩
 | _=>cases h2
theorem GF:Hy X (fun x lo hi H Q=>∃z,x= .str z/\z.length<=sizeLine/\Q (.str (Txt.slice z lo hi)) H):=by
 intro pins s σ H x v vl vu lo hi sl Q I rx hs pl pu h;obtain⟨z,rfl,hz,q⟩:=h;obtain⟨t,rfl⟩:=rx;refine⟨"str",_,F.slot_str_getitem.lookup,typeIs_str _ _ _,?_⟩;have fin:∀t' k,EP X pins σ Q (.str (Txt.slice z lo hi) t') {s with toks:=k}:=fun t' k=>⟨.str _,H,I.tok _,⟨_,rfl⟩,q⟩
 obtain⟨o,ho,hc,hd⟩:=hs;cases pl with
 | none=>
   cases pu with
   | none=>exact wpAny_getItem_str_slice (l:=none) (u:=none) (st:=none) ⟨o,ho,hc,hd⟩ rfl (post_val_or_str ⟨Nat.le_trans (Txt.slice_le z _ _) hz,fin⟩)
   | int j u=>exact wpAny_getItem_str_slice (l:=none) (u:=some (j,u)) (st:=none) ⟨o,ho,hc,hd⟩ rfl (post_val_or_str ⟨Nat.le_trans (Txt.slice_le z _ _) hz,fin⟩)
 | int i t1=>
   cases pu with
   | none=>exact wpAny_getItem_str_slice (l:=some (i,t1)) (u:=none) (st:=none) ⟨o,ho,hc,hd⟩ rfl (post_val_or_str ⟨Nat.le_trans (Txt.slice_le z _ _) hz,fin⟩)
   | int j u=>exact wpAny_getItem_str_slice (l:=some (i,t1)) (u:=some (j,u)) (st:=none) ⟨o,ho,hc,hd⟩ rfl (post_val_or_str ⟨Nat.le_trans (Txt.slice_le z _ _) hz,fin⟩)
def cutD{α:Type}(xs:List α)(lo hi:Option Int):List α:=(xs.drop (HT.oM xs.length 0 lo)).take (HT.oM xs.length xs.length hi - HT.oM xs.length 0 lo)
def JI(d:D)(lo hi:Option Int):R D:=match d with
 | .str x=>R.aS (decide (x.length<=sizeLine)) (.ok (.str (Txt.slice x lo hi)))
 | .lst ds=> .ok (.lst (cutD ds lo hi))
 | _=> .no
theorem Bl{K:W.Frag}{B:List Addr}{ds:List D}{xs:List V}(r:aD K B H ds xs)(lo hi:Option Int):aD K B H (cutD ds lo hi) (wI xs lo hi):=by
 unfold cutD wI;rw[<-r.length];exact(r.drop _).take _
def JN(f:FD)(fl fh:FO):FD:=fun δ=>(f δ).bind fun d=>(fl δ).bind fun lo=>(fh δ).bind fun hi=>JI d lo hi
theorem J_{lo hi:Option Expr}{fl fh:FO}(he:PD X e f)(hl:PP X lo fl)(hh:PP X hi fh):PD X (.Subscript e (.Slice lo hi none p2) pos) (JN f fl fh):=by
 refine(CH (GF.or D3) he hl hh).imp fun σ H Q ⟨Z,B,δ,d,E,hf,q⟩=>?_
 obtain⟨d1,h1,h2⟩:=R.aj hf;obtain⟨l,h3,h4⟩:=R.aj h2;obtain⟨h,h5,h6⟩:=R.aj h4;refine⟨Z,B,δ,d1,E,h1,fun v1 H1 s1 r1=>⟨Z,B,δ,l,E.same s1,h3,fun H2 s2=>⟨Z,B,δ,h,(E.same s1).same s2,h5,fun H3 s3=>?_⟩⟩⟩
 have sA:aU H H3:=s1.trans (s2.trans s3);have Ah:=r1.same (s2.trans s3);unfold JI at h6;split at h6
 .obtain⟨hz,h7⟩:=R.aX h6;cases h7;exact .inl ⟨_,Rep.str.mp Ah,of_decide_eq_true hz,q _ H3 sA (Rep.str.mpr rfl)⟩
 .cases h6;obtain⟨a,xs,rfl,ls,rs⟩:=Rep.lst.mp Ah;refine .inr ⟨a,xs,rfl,ls.sq,fun p hp=>q _ _ (sA.trans (bg hp)) (Rep.lst.mpr ⟨p,_,rfl, .qe a_ fun ha=>?_,(Bl rs l h).same (bg hp)⟩)⟩
  obtain⟨o,ho⟩:=(E.same sA).bs p ha;rw[hp] at ho;cases ho
 .cases h6
end
end L2
end
section
namespace L2
open PySem PySem.Spec PyProof.Rows
section
variable {X:Cx}
theorem aD.one{K:W.Frag}{B:List Addr}{d:D}{xs:List V}(h:aD K B H [d] xs):∃x,xs=[x]/\Rep K B H d x:=by
 obtain⟨x,r,rfl,h1,h2⟩:=h.b9;unfold aD at h2;subst h2;exact⟨x,rfl,h1⟩
theorem aD.two{K:W.Frag}{B:List Addr}{d e:D}{xs:List V}(h:aD K B H [d,e] xs):∃x y,xs=[x,y]/\Rep K B H d x/\Rep K B H e y:=by
 obtain⟨x,r,rfl,h1,h2⟩:=h.b9;obtain⟨y,rfl,h3⟩:=h2.one;exact⟨x,y,rfl,h1,h3⟩
def bV:List D->R D
 | [.str x]=>R.aS (decide (x.length<=sizeLine)) (.ok (.int x.length))
 | [.lst ds]=> .ok (.int ds.length)
 | [.tup ds]=> .ok (.int ds.length)
 | _=> .no
theorem cu:cN X (.builtin "len") bV:=cN.of AH fun B H ds d xs Q _ rs hg q=>by
 unfold bV at hg;split at hg
 .obtain⟨h1,h2⟩:=R.aX hg;cases h2;obtain⟨x,rfl,r⟩:=rs.one;exact⟨x,_,rfl,by rw[Rep.str.mp r];exact⟨of_decide_eq_true h1,rfl⟩,q _ H (aU.refl H) (Rep.int.mpr rfl)⟩
 .cases hg;obtain⟨x,rfl,r⟩:=rs.one;obtain⟨a,ys,rfl,l,r⟩:=Rep.lst.mp r;exact⟨_,_,rfl, .inl ⟨ys,l.sq,rfl⟩,q _ H (aU.refl H) (Rep.int.mpr (by rw[r.length]))⟩
 .cases hg;obtain⟨x,rfl,r⟩:=rs.one;obtain⟨a,ys,rfl,l,r⟩:=Rep.tup.mp r;exact⟨_,_,rfl, .inr ⟨ys,l.sq,rfl⟩,q _ H (aU.refl H) (Rep.int.mpr (by rw[r.length]))⟩
 .cases hg
def cInt:List D->R D
 | [.int i]=> .ok (.int i)
 | [.bl b]=> .ok (.int (if b then 1 else 0))
 | _=> .no
theorem K0:cN X (.type "int") cInt:=cN.of zZ fun B H ds d xs Q _ rs hg q=>by
 unfold cInt at hg;split at hg
 .cases hg;obtain⟨x,rfl,r⟩:=rs.one;exact .inl ⟨_,by rw[Rep.int.mp r],q _ H (aU.refl H) (Rep.int.mpr rfl)⟩
 .cases hg;obtain⟨x,rfl,r⟩:=rs.one;exact .inr ⟨_,by rw[Rep.bl.mp r],q _ H (aU.refl H) (Rep.int.mpr rfl)⟩
 .cases hg
def cStr:List D->R D
 | [.int i]=>R.aS (decide (i.natAbs.log2 < 1920)) (.ok (.str (toString i)))
 | _=> .no
def EZ:List D->R D
 | [.int i, .int j]=> .ok (.int (if j < i then j else i))
 | _=> .no
theorem Lf(hc:X.calm=true):cN X (.builtin "min") EZ:=cN.of (z0 hc) fun B H ds d xs Q _ rs hg q=>by
 unfold EZ at hg;split at hg
 .cases hg;obtain⟨x,y,rfl,r1,r2⟩:=rs.two;exact⟨_,_,by rw[Rep.int.mp r1,Rep.int.mp r2],q _ H (aU.refl H) (Rep.int.mpr rfl)⟩
 .cases hg
def NX:List D->R D
 | [.int i, .int j]=> .ok (.int (if j > i then j else i))
 | _=> .no
def nY:List D->R D
 | [.lst ds]=> .ok (.tup ds)
 | [.tup ds]=> .ok (.tup ds)
 | _=> .no
theorem pG:cN X (.type "tuple") nY:=cN.of rL fun B H ds d xs Q hb rs hg q=>by
 unfold nY at hg;split at hg
 .cases hg;obtain⟨x,rfl,r⟩:=rs.one;obtain⟨a,ys,rfl,l,r⟩:=Rep.lst.mp r;refine⟨a,ys,rfl, .inl ⟨l.sq,fun p hp=>q _ _ (bg hp) (Rep.tup.mpr ⟨p,ys,rfl, .inl ⟨fun ha=>?_, .inl a_⟩,r.same (bg hp)⟩)⟩⟩
  obtain⟨o,ho⟩:=hb p ha;rw[hp] at ho;cases ho
 .cases hg;obtain⟨x,rfl,r⟩:=rs.one;have r0:=r;obtain⟨a,ys,rfl,l,r⟩:=Rep.tup.mp r;exact⟨a,ys,rfl, .inr ⟨l.sq,q _ H (aU.refl H) r0⟩⟩
 .cases hg
def mC:List D->R D
 | [.lst ds]=> .ok (.lst ds)
 | [.tup ds]=> .ok (.lst ds)
 | _=> .no
theorem s_:cN X (.type "list") mC:=cN.of tf fun B H ds d xs Q hb rs hg q=>by
 unfold mC at hg;split at hg
 .cases hg;obtain⟨x,rfl,r⟩:=rs.one;obtain⟨a,ys,rfl,l,r⟩:=Rep.lst.mp r;refine⟨a,ys,rfl, .inl l.sq,fun p hp=>q _ _ (bg hp) (Rep.lst.mpr ⟨p,ys,rfl, .qe a_ fun ha=>?_,r.same (bg hp)⟩)⟩
  obtain⟨o,ho⟩:=hb p ha;rw[hp] at ho;cases ho
 .cases hg;obtain⟨x,rfl,r⟩:=rs.one;obtain⟨a,ys,rfl,l,r⟩:=Rep.tup.mp r;refine⟨a,ys,rfl, .inr l.sq,fun p hp=>q _ _ (bg hp) (Rep.lst.mpr ⟨p,ys,rfl, .qe a_ fun ha=>?_,r.same (bg hp)⟩)⟩
  obtain⟨o,ho⟩:=hb p ha;rw[hp] at ho;cases ho
 .cases hg
def cAbs:List D->R D
 | [.int i]=> .ok (.int (if i < 0 then -i else i))
 | _=> .no
def Hz:List D->R D
 | [.lst ds]=>(match ints? ds with | some ns=> .ok (.int ns.sum) | none=> .no)
 | _=> .no
theorem f_:∀{ns:List Int} {us:List Value},Vals (ns.map V.int) us->∃l:List (Int × Tok),us=l.map (fun p=>Value.int p.1 p.2)/\l.map (·.1)=ns
 | [],_, .nil=>⟨[],rfl,rfl⟩
 | n ::ns,_, .cons r t=>by
   obtain⟨l,rfl,e⟩:=f_ t;obtain⟨tk,rfl⟩:=r;exact⟨(n,tk) ::l,rfl,by rw[List.map_cons,e]⟩
theorem Lh(hc:X.calm=true):cN X (.builtin "sum") Hz:=by
 intro pins s σ H B ds d xs us I hb rx rs hg;unfold Hz at hg;split at hg
 .split at hg
  .rename_i es ns e;cases hg;obtain⟨x,rfl,r⟩:=rs.one;obtain⟨a,ys,rfl,l,r⟩:=Rep.lst.mp r;obtain⟨u,rfl,ru⟩:=vals1 rx;cases ru;obtain⟨its,n,rv,e1,hz⟩:=I.Dk l;rw[dO r e] at rv;obtain⟨ps,rfl,rfl⟩:=f_ rv;have hl:s.heap.IsList a (intItems ps.toArray):=⟨_,e1,rfl,n,by simp [intItems]⟩
   refine sum_intListG (I.ok.hd hc) hl fun h' tk t' k=>⟨.int _,H,I.kept k,⟨t',rfl⟩,aU.refl H,Rep.int.mpr ?_⟩
   rw[preSum_eq,List.take_of_length_le (by simp)]
  .cases hg
 .cases hg
def tyName:D->String
 | .cI=>"NoneType" | .bl _=>"bool" | .int _=>"int" | .str _=>"str" | .lst _=>"list" | .tup _=>"tuple" | .dct _ _=>"dict"
def TF(T:String)(f:FD):FD:=fun δ=>(f δ).bind fun d=>R.aS (tyName d==T && d.atom) (.ok (.bl true))
def V0(X:Cx)(id:String)(g:D->List D->R D):Prop:=
 ∀(pins:Wo) (s:Shared) (σ:St) (H:Hp) (B:List Addr) (da d:D) (ds:List D) (x:V) (xs:List V) (v:Value) (us:List Value),Inv X pins σ H s->(∀a∈B,∃o,H a=some o)->RelV x v->Vals xs us->Rep X.K B H da x->aD X.K B H ds xs->g da ds= .ok d->
  wpAny (model X.prog X.w) X.A (call (.builtin id) (v ::us)) (EP X pins σ fun z H'=>aU H H'/\Rep X.K B H' d z) X.xe s
def VN(T:String)(g:D->List D->R D)(f:FD)(fs:au->R (List D)):FD:=fun δ=>(f δ).bind fun d=>R.aS (tyName d==T && (d.atom || T=="list")) ((fs δ).bind fun ds=>g d ds)
def P5(d:D)(ds:List D):R D:=match d,ds with
 | .str sep,[.lst es]=>(match strs? es with | some ss=>R.aS (JoinOk sep ss) (.ok (.str (Str.join sep ss))) | none=> .no)
 | _,_=> .no
abbrev PJ(X:Cx)(es:List Expr)(f:au->R (List Str)):Prop:=
 ∀(pins:Wo) (s:Shared) (σ:St) (H:Hp) (Z B:List Addr) (δ:au) (acc:Str) (ss:List Str) (Q:VK),Inv X pins σ H s->df X.K Z B H σ δ->f δ= .ok ss->(ss.foldl (·++·) acc).length<=sizeLine->(∀H',aU H H'->Q (.str (ss.foldl (·++·) acc)) H')->
  wpAny (model X.prog X.w) X.A (joinParts acc (evalEach es X.env)) (EP X pins σ Q) X.xe s
theorem sj:∀(ss:List Str) (acc:Str),acc.length<=(ss.foldl (·++·) acc).length
 | [],acc=>Nat.le_refl _
 | s ::ss,acc=>Nat.le_trans (by rw[Str.length_append];exact Nat.le_add_right _ _) (sj ss (acc++s))
def uE:au->R (List Str):=fun _=> .ok []
def dR(f:FD)(g:au->R (List Str)):au->R (List Str):=fun δ=>(f δ).bind fun d=>match d with | .str x=>(g δ).bind fun ss=> .ok (x ::ss) | _=> .no
theorem Ii:PJ X [] uE:=by
 intro pins s σ H Z B δ acc ss Q I E hf hl q;cases hf;exact joinParts_nil ⟨.str _,H,I.tok _,⟨_,rfl⟩,q H (aU.refl H)⟩ hl
theorem Dx{g:au->R (List Str)}(he:PD X e f)(hr:PJ X es g)(OX:evalEach (e ::es) X.env=eval e X.env ::evalEach es X.env:=by rfl):PJ X (e ::es) (dR f g):=by
 intro pins s σ H Z B δ acc ss Q I E hf hl q;rw[OX];obtain⟨d,h1,h2⟩:=R.aj hf;cases d with
 | str x=>
   obtain⟨OH,h3,h4⟩:=R.aj h2;cases h4;refine joinParts_cons (di (he pins s σ H (fun v H'=>aU H H'/\v= .str x) I ⟨Z,B,δ, .str x,E,h1,fun v H' s1 r1=>⟨s1,Rep.str.mp r1⟩⟩) fun v s1 ⟨xv,H1,I1,r1,L9,e1⟩=>?_)
   subst e1;obtain⟨t,rfl⟩:=r1;exact⟨Nat.le_trans (sj OH (acc++x)) hl,hr pins s1 σ H1 Z B δ (acc++x) OH Q I1 (E.same L9) h3 hl fun H' s2=>q H' (L9.trans s2)⟩
 | _=>cases h2
def f9(g:au->R (List Str)):FD:=fun δ=>(g δ).bind fun ss=>R.aS (decide ((ss.foldl (·++·) Str.empty).length<=sizeLine)) (.ok (.str (ss.foldl (·++·) Str.empty)))
theorem zf{rest:List Expr}{g:au->R (List Str)}(h:PJ X (CL ::CM ::rest) g):PD X (.JoinedStr (CL ::CM ::rest) pos) (f9 g):=by
 intro pins s σ H Q I ⟨Z,B,δ,d,E,hf,q⟩;obtain⟨ss,h1,h2⟩:=R.aj hf;obtain⟨h3,h4⟩:=R.aX h2;cases h4;rw[arm_eval_JoinedStr];exact h pins s σ H Z B δ Str.empty ss Q I E h1 (of_decide_eq_true h3) fun H' s1=>q _ H' s1 (Rep.str.mpr rfl)
def ES:D->R D
 | .str x=>R.aS (decide (x.length<=sizeLine)) (.ok (.str x))
 | .int i=>R.aS (decide (i.natAbs.log2 < 1920)) (.ok (.str (toString i)))
 | _=> .no
def ny(f:FD):FD:=fun δ=>(f δ).bind ES
theorem Iq(h:PD X e f):PD X (.FormattedValue e (-1) none pos) (ny f):=by
 intro pins s σ H Q I ⟨Z,B,δ,d,E,hf,q⟩;obtain⟨d1,h1,h2⟩:=R.aj hf;refine FormattedValue_plain (di (h pins s σ H (fun v H'=>aU H H'/\Rep X.K B H' d1 v) I ⟨Z,B,δ,d1,E,h1,fun v H' s1 r1=>⟨s1,r1⟩⟩) fun v s1 ⟨xv,H1,I1,r1,L9,e1⟩=>?_)
 unfold ES at h2;split at h2
 .obtain⟨h3,h4⟩:=R.aX h2;cases h4;rw[Rep.str.mp e1] at r1;obtain⟨t,rfl⟩:=r1;exact formatField_str (fun t' tk=>⟨.str _,H1,I1.tok _,⟨_,rfl⟩,q _ H1 L9 (Rep.str.mpr rfl)⟩) (of_decide_eq_true h3)
 .obtain⟨h3,h4⟩:=R.aX h2;cases h4;rw[Rep.int.mp e1] at r1;obtain⟨t,rfl⟩:=r1;exact formatField_int_small (of_decide_eq_true h3) ⟨.str _,H1,I1.tok _,⟨_,rfl⟩,q _ H1 L9 (Rep.str.mpr rfl)⟩
 .cases h2
def Ls:List (D × D)->Str->R (Option D)
 | [],_=> .ok none
 | (.str y,d) ::r,x=>(Ls r x).bind fun o=> .ok (match o with | some e=>some e | none=>if y=x then some d else none)
 | _ ::_,_=> .no
def Li(x:Str):List D:=x.cps.toList.map fun c=> .str ⟨#[c]⟩
def VL(x:Str):It:=⟨fun i _=>i < x.cps.size,fun i H v H'=>H'=H/\∃c,x.cps[i]? =some c/\v= .str ⟨#[c]⟩,fun i _=>x.cps.size<=i⟩
def QS(f:FD):au->R (List D):=fun δ=>(f δ).bind fun d=>match d with | .str x=> .ok (Li x) | _=> .no
def Tx(K:W.Frag)(a:Addr):It:=
 ⟨fun i H=>∃xs x,m4 K H a xs/\xs[i]? =some x,fun i H v H'=>∃p x,H p=none/\v= .ref p/\(∀xs,m4 K H a xs->xs[i]? =some x)/\H'=upd H p (.tup [.int i,x]),fun i H=>∃xs,m4 K H a xs/\xs.length<=i⟩
theorem zI{K:W.Frag}{k:Nat}(a e it:Addr)(Ry:e≠it):Turn P w K (.Tuple elts k pos) (Tx K a) [e,it] e (fun i h=>(∃old,IsEnum h e it ((i:Nat):Int) old)/\h.IsListIter it a i) where
 mem:=by simp
 obj:=fun i h st b hb=>by
  obtain⟨⟨old,he⟩,o,ho,c,d⟩:=st;rcases List.mem_cons.mp hb with rfl | hb
  .exact⟨_,he,fun v z=>by cases z⟩
  .have e:b=it:=by simpa using hb
   subst e;exact⟨o,ho,fun v z=>by rw[d] at z;cases z⟩
 keep:=fun i h h' st k=>by
  obtain⟨⟨old,he⟩,hi⟩:=st;exact⟨⟨old,k e (by simp) _ he⟩,hi.at fun o x=>k it (by simp) o x⟩
 item:=by
  intro X hP hw hK hc i pins s σ H E I hf st hg;subst hP hw hK;obtain⟨xs,x,hq,hx⟩:=hg;obtain⟨its,rv,p,hz⟩:=I.list hq;obtain⟨u,hu,ru⟩:=rv.get hx;obtain⟨⟨old,he⟩,hit⟩:=st;obtain⟨f0,f1,f2,f3,f4,f5⟩:=hf e (by simp)
  obtain⟨g0,g1,g2,g3,g4,g5⟩:=hf it (by simp)
  refine wpAny_pyNext_enum_item he hit p.isList (x:=u) (by simpa using hu) Ry fun kO Gz Jv LL RG Mh=>⟨_,rfl,?_⟩
  refine wpAny_letOwnedTupleGo_enum Gz fun ux L8 v7=>?_
  replace v7:Heap.SameBut e kO ux:=v7
  have hel:e < s.heap.objs.size:=Heap.lt_size he;have Ma:ux.get? s.heap.objs.size=some {cls:= .type "tuple",data:= .seq #[.int i s.toks,u]}:=(v7.2 _ (Nat.ne_of_gt hel)).trans LL;have kk:∀b o,b≠e->b≠it->s.heap.get? b=some o->ux.get? b=some o:=fun b o h1 h2 q=>(v7.2 b h1).trans (Mh b o h1 h2 q)
  have hn:H s.heap.objs.size=none:=I.fresh;have sm:aU H (upd H s.heap.objs.size (.tup [.int i,x])):=bg hn;have nit:∀b o,H b=some o->b≠e/\b≠it:=fun b o q=>⟨fun z=>(by rw[z,f0] at q;cases q),fun z=>(by rw[z,g0] at q;cases q)⟩
  have hok:kU X.prog X.w (upd H s.heap.objs.size (.tup [.int i,x])) ux:=fun b ob q=>by
   by_cases hb:b=s.heap.objs.size
   .subst hb;rw[a_] at q;cases q;exact⟨by show 2<=sizeLine;decide,[.int i s.toks,u], .cons ⟨_,rfl⟩ (.cons ru .nil),⟨_,Ma,rfl,_,rfl⟩⟩
   .rw [bf hb] at q;refine(I.hok b ob q).tU (fun c v hc z=>?_) (fun c z=>sm c _ z) fun c ys z=>sm c _ z
    rcases hc with rfl | hc
    .exact kk c v (nit c _ q).1 (nit c _ q).2 z
    .exact kk c v (nit c _ hc).1 (nit c _ hc).2 z
  have nch:∀b,b ∉ [e,it]->b≠e/\b≠it:=fun b hb=>⟨fun z=>hb (by simp [z]),fun z=>hb (by simp [z])⟩
  have I2:Inv X pins σ (upd H s.heap.objs.size (.tup [.int i,x])) {s with heap:=ux,toks:=s.toks+1}:=by
   refine I.step (g':=s.gens) (d':=s.drawn) (ch:=[e,it]) (fun b hb=>?_) (fun b o _ _ hb q _=>kk b o (nch b hb).1 (nch b hb).2 q) (fun b o _ _ hb q _=>⟨o.slots,kk b o (nch b hb).1 (nch b hb).2 q⟩)
    (fun b o hb q n=>by rw[bf (Nat.ne_of_lt (Heap.lt_size q))];exact n) (fun b o hb q=>⟨o,kk b o (nch b hb).1 (nch b hb).2 q⟩) (fun b ys z=>sm b _ z) (fun b o u z=>sm b _ z) (fun b ps z=>⟨#[],by rw[sm b _ z];simp⟩) (fun m hm=>?_) hok I.bare
   .rcases List.mem_cons.mp hb with rfl | hb
    .exact⟨f3,f1,f4,f5⟩
    .have z:b=it:=by simpa using hb
     subst z;exact⟨g3,g1,g4,g5⟩
   .obtain⟨o,es,ep,ho,r⟩:=hm;exact⟨o,es,ep,kk _ o (Ne.symm f1) (Ne.symm g1) ho,r⟩
  refine⟨.ref s.heap.objs.size,_,I2,rfl,⟨s.heap.objs.size,x,hn,rfl,fun ys hy=>(by rw[I.vZ hy hq];exact hx),rfl⟩,⟨⟨_,by simpa using L8⟩,Jv.at fun o q=>(v7.2 it (Ne.symm Ry)).trans q⟩,fun b hb=>?_⟩
  rcases List.mem_cons.mp hb with rfl | hb
  .rw [bf (Nat.ne_of_lt hel)];exact f0
  .have z:b=it:=by simpa using hb
   subst z;obtain⟨o,ho,_⟩:=hit;rw[bf (Nat.ne_of_lt (Heap.lt_size ho))];exact g0
 done:=by
  intro X hP hw hK hc i pins s σ H E I hf st hg;subst hP hw hK;obtain⟨xs,hq,hx⟩:=hg;obtain⟨its,rv,p,hz⟩:=I.list hq;obtain⟨⟨old,he⟩,hit⟩:=st;obtain⟨g0,g1,g2,g3,g4,g5⟩:=hf it (by simp)
  have hl:=rv.length;exact wpAny_pyNext_enum_end (I.ok.hd hc) he hit p.isList (by simp;omega) fun h' eb=>⟨rfl,I.turned (t':=s.toks) (fun b o hb q=>eb b o hb q) g0 g1 g3 g4 g5⟩
 self:=fun A i s Q E st h=>let⟨⟨_,he⟩,_⟩:=st;wpAny_pyIter_enum he h
def gq(ds:List D):List D:=ds.zipIdx.map fun p=> .tup [.int p.2,p.1]
def mT(f:FD):au->R (List D):=fun δ=>(f δ).bind fun d=>match d with | .lst ds=> .ok (gq ds) | _=> .no
theorem B0{elts:List Expr}{k:Nat}{CP:Pos}{p pos:Pos}(h:PD X a f)(hg:Gl X "enumerate")(hm:X.mg "enumerate"=none)(hs:starEach [a] X.env=[(false,eval a X.env)]:=by rfl):Ja X (.Tuple elts k CP) (.Call (.Name "enumerate" p) [a] [] pos) (mT f):=by
 intro pins s σ H RR I ⟨Z,B,δ,ds,E,hf,q⟩;obtain⟨d,h1,h2⟩:=R.aj hf;have hA:=eE h iW hs pos pins s σ H (fun vs H1=>aU H H1/\∃v,vs=[v]/\Rep X.K B H1 d v) I ⟨Z,B,δ,d,E,h1,fun v H1 s1 r1=>⟨s1,v,rfl,r1⟩⟩
 refine Call_ (gA I hg hm boot_enumerate (PyProof.Rows.callWith_type1 (di hA fun us s1 ⟨vs,H1,I1,r1,ss,v,ev,rr⟩=>?_) hs rfl))
 subst ev;obtain⟨u,rfl,ru⟩:=vals1 r1;cases d with
 | lst es=>
   cases h2;obtain⟨b,xs,rfl,l,rs⟩:=Rep.lst.mp rr;cases ru;obtain⟨its,n,rv,e1,hz⟩:=I1.Dk l;refine call_enumerate_list (items:=its.toArray) ⟨_,e1,rfl,n,rfl⟩ fun h' he hit hsz kk=>wpAny_pyIter_enum he ?_
   have I2:Inv X pins σ H1 {s1 with heap:=h'}:=I1.kept (t':=s1.toks) kk
   refine⟨s1.heap.objs.size+1,[s1.heap.objs.size+1,s1.heap.objs.size],_,_,H1,rfl,I2,zI b (s1.heap.objs.size+1) s1.heap.objs.size (Nat.succ_ne_self _),⟨⟨_,he⟩,hit⟩,fun c hc=>?_,q _ H1 ss fun B' H' pr=>?_⟩
   .have hle:s1.heap.objs.size<=c:=by
     rcases List.mem_cons.mp hc with z | hc
     .rw [z];exact Nat.le_succ _
     .have z:c=s1.heap.objs.size:=by simpa using hc
      rw[z];exact Nat.le_refl _
    exact I1.zk hle (I1.hok.fresh hle)
   .have l':sW X.K B' H' b xs:=l.bc pr;have rs':=rs.bc pr;refine⟨fun i d hd=>?_,⟨xs,l'.sq,by rw[<-rs.length];unfold gq;simp⟩⟩
    unfold gq at hd;rw[List.getElem?_map,List.getElem?_zipIdx] at hd;cases e:es[i]? with
    | none=>rw [e] at hd;cases hd
    | some d0=>
      rw[e] at hd;have hd:D.tup [.int ((0+i:Nat):Int),d0]=d:=Option.some.inj hd;rw[Nat.zero_add] at hd;obtain⟨x,hx,rx⟩:=rs'.get e;refine⟨⟨xs,x,l'.sq,hx⟩,fun v mW y MF=>?_⟩
      obtain⟨p,y,hp,rfl,hy,rfl⟩:=y;refine⟨bg hp,?_⟩;subst hd;have hy2:=hy xs l'.sq;rw[hx] at hy2;cases hy2;refine Rep.tup.mpr ⟨p,_,rfl, .inl ⟨fun ha=>?_, .inl a_⟩,aD.cons (Rep.int.mpr rfl) (aD.cons (rx.same (bg hp)) aD.nil)⟩
      obtain⟨o,ho⟩:=MF p ha;rw[hp] at ho;cases ho
 | _=>cases h2
end
end L2
end
section
namespace L2
open PySem PySem.Spec PyProof.Rows
def Def(K:W.Frag)(mg:Wu)(x:Str)(st:Stmt):Prop:=∃f fd,wK K x x st f fd/\mg x=some (.ref f)
def Callee(P:Program)(w:World)(K:W.Frag)(mg:Wu)(base:Heap)(k:Nat)(x:Str)(n:Nat)(g:List D->R D):Prop:=
 ∃f fd ps,hJ P w K mg base rB k f fd ps (Fu K n g)/\mg x=some (.ref f)/\PySem.W.keepIn K (.ref f)=true/\Binds K fd ps []
theorem Aq:∀(δ:au) (ds:List D),aA δ= .ok ds->ds.length=0:=fun δ ds h=>by cases h;rfl
theorem zH{g:au->R (List D)}{n:Nat}(h:∀(δ:au) (ds:List D),g δ= .ok ds->ds.length=n):∀(δ:au) (ds:List D),af f g δ= .ok ds->ds.length=n+1:=fun δ ds e=>by
 obtain⟨d,h1,h2⟩:=R.aj e;obtain⟨es,h3,h4⟩:=R.aj h2;cases h4;rw[List.length_cons,h δ es h3]
theorem Bg{P:Program}{w:World}{K:W.Frag}{mg:Wu}{base:Heap}{x qual:Str}{st:Stmt}{f:Addr}{fd:FuncData}{N ps:List Str}{k:Nat}{F:FS}{b:List Stmt}{sc:Scope}(hb:bh st=b)(hs:aO st=sc)(Fn:wK K x qual st f fd)(S:bz N ps sc)
 (dS:∀(d8:Value) (A:Around) (outer:List Env) (s:Shared) (H:Hp) (E:XK),eJ k (A.deeper (envOfC qual sc s.heap.objs.size f d8))->
   oZ (iG rB P w K mg base N qual sc f d8 A outer s H E).BK b F):hJ P w K mg base rB (k+1) f fd ps (Fu K ps.length (tm N F)):=by
 subst hb hs;exact EI Fn S dS
section
variable {X:Cx}
theorem AG{g:List D->R D}{k j n:Nat}{x:Str}{p pos:Pos}{e:Expr}{es:List Expr}{fs:au->R (List D)}(C:Callee X.prog X.w X.K X.mg X.base k x n g)(hr:eJ j X.A)(Jl:k<=j)(hg:Gl X x)(ha:CV X (e ::es) fs)
 (hn:∀δ ds,fs δ= .ok ds->ds.length=n) (nR:(x==("__debug__":Str))=false:=by decide) (he:starEach (e ::es) X.env=(false,eval e X.env) ::starEach es X.env:=by rfl) (jE:(backTo pos (starEach es X.env)).any (·.1)=false:=by rfl) :
 PD X (.Call (.Name x p) (e ::es) [] pos) (aw g fs):=by
 obtain⟨f,fd,ps,F,hm,hk,hb⟩:=C;exact EM F (hr.mono Jl) hg hm hk hb ha hn nR he jE
def HB(sc:Scope)(N:List Str)(scope:Scope)(kp:List Nat)(kn:List Str):Bool:=
 decide (scope.kind= .function) && scope.names.all (fun y=>decide (y.2= .cell->scope.names.lookup y.1=some .cell)) && scope.names.all (fun y=>decide (y.2= .local->scope.names.lookup y.1=some .local))
  && scope.names.all (fun y=>decide (y.2= .free->(sc.names.lookup y.1=some .cell\/sc.names.lookup y.1=some .free))) && scope.names.all (fun y=>decide (y.2= .free->scope.names.lookup y.1=some .free)) && decide (kn.length=kp.length)
  && (List.range kp.length).all (fun j=>decide ((kp[j]?).bind (N[·]?)=kn[j]?)) && kn.all (fun x=>decide (scope.names.lookup x=some .free))
theorem fq.of{own:List Str}{kp:List Nat}{kn:List Str}{N:List Str}(h1:X.env.scope=sc)(h2:X.N=N)(h:HB sc N scope kp kn=true):fq X scope own kp kn:=by
 unfold HB at h;simp only[Bool.and_eq_true,decide_eq_true_eq,List.all_eq_true] at h;obtain⟨⟨⟨⟨⟨⟨⟨a1,a2⟩,a3⟩,a4⟩,a8⟩,a5⟩,a6⟩,a7⟩:=h;refine⟨a1,a2,a3,fun y hy hf=>?_,a8,a5,fun j i x hj hx=>?_,a7⟩
 .have:=a4 y hy hf;unfold Env.kindOf;rw[h1];exact this
 .have hlt:j < kp.length:=(List.getElem?_eq_some_iff.mp hj).1;have:=a6 j (List.mem_range.mpr hlt);rw[hj] at this;rw[h2];exact this.trans hx
def pq(kp:List Nat)(N:List Str):List Str:=kp.map fun i=>N.getD i Str.empty
theorem Oq{own:List Str}{kp:List Nat}{kn:List Str}(h:HB X.env.scope X.N scope kp kn=true):fq X scope own kp kn:=fq.of rfl rfl h
def Q8:List Str->Bool
 | []=>true
 | x ::l=>!l.contains x && Q8 l
theorem DQ:∀{l:List Str},Q8 l=true->l.Nodup
 | [],_=>List.nodup_nil
 | x ::l,h=>by
   obtain⟨h1,h2⟩:=Bool.and_eq_true_iff.mp h;exact List.nodup_cons.mpr ⟨fun q=>(by rw[List.contains_iff_mem.mpr q] at h1;cases h1),DQ h2⟩
def AQ(aC:List (Key × V))(f g:FD):FD:=fun δ=>(f δ).bind fun k=>(g δ).bind fun d=>match k with
 | .str x=>(match iE (jR [] aC) (Sum.inr x) with | some (.int i)=> .ok (.int i) | none=> .ok d | _=> .no)
 | _=> .no
theorem IT{keys:List (Option Expr)}{values:List Expr}{sU:List (TE × TE)}{uu apos b4:Pos}{e f:Expr}{fe ff:FD}{aC:List (Key × V)}(hu:X.A.units+1 < cLine)(h:GG X uu keys values sU)(Af:keys.all (·.isSome)=true)(hl:keys.length=values.length)(h0:keys≠[])
 (hc:∀σ H Q,Q (aC.map fun kv=>(kV kv.1,kv.2)) H->oz sU σ H Q) (hlen:aC.length<=15) (he:PD X e fe) (hf:PD X f ff) (m:M2 X (.Dict keys values uu) "get" apos e f b4)
 (hd:PE X (.Dict keys values uu) (AU sU)):PD X (.Call (.Attribute (.Dict keys values uu) "get" apos) [e,f] [] b4) (AQ aC fe ff):=by
 refine(BV hu hd he hf m).imp fun σ H Q ⟨Z,B,δ,d,E,hfd,q⟩=>?_
 obtain⟨k,h1,h2⟩:=R.aj hfd;obtain⟨dd,h3,h4⟩:=R.aj h2;intro p hp;refine hc σ _ _ ⟨a_,aC,rfl,hlen,p,rfl, .inl ⟨_, .inl a_⟩,?_⟩;rw[EY];have s0:aU H (upd H p (.dK (jR [] aC))):=bg hp;refine⟨Z,B,δ,k,E.same s0,h1,fun v1 H1 s1 r1=>⟨Z,B,δ,dd,(E.same s0).same s1,h3,fun v2 H2 s2 r2=>?_⟩⟩
 have hH2:H2 p=some (.dK (jR [] aC)):=s2 p _ (s1 p _ a_);have sA:aU H H2:=s0.trans (s1.trans s2);split at h4
 .rename_i x;refine⟨iE (jR [] aC) (Sum.inr x),?_,?_⟩
  .rw [Rep.str.mp r1];exact lx.k (k:=Sum.inr x) hH2
  .split at h4
   .rename_i i e1;cases h4;rw[e1];exact q _ H2 sA (Rep.int.mpr rfl)
   .rename_i e1;cases h4;rw[e1];exact q _ H2 sA r2
   .cases h4
 .cases h4
def Qr(i:Nat)(f:FD):FS:=fun δ=>(f δ).bind fun d=>match d with
 | .lst es=>(qa δ i).bind fun ds=>R.aS (decide (ds.length+es.length<=sizeLine)) (.ok (.nx (δ.set i (.bld (ds++es)))))
 | _=> .no
end
end L2
end
section
namespace L2
open PySem PySem.Spec PyProof.Rows
structure QD (X:Cx) (e:Expr) (f:FD):Prop where
 h:PD X e f
structure QN (X:Cx) (e:Expr) (f:au->R (List D)):Prop where
 h:PN X e f
structure QB (X:Cx) (e:Expr) (f:au->R Bool):Prop where
 h:PB X e f
structure IU (X:Cx) (e:Expr) (f:au->R Bool):Prop where
 h:Df X e f
structure Ga (X:Cx) (e:List Expr) (f:au->R (List D)):Prop where
 h:CV X e f
structure CZ (X:Cx) (e:Stmt) (f:FS):Prop where
 h:CW X e f
structure qm (X:Cx) (e:List Stmt) (f:FS):Prop where
 h:oZ X e f
structure JL (X:Cx) (e:Expr) (f:FT):Prop where
 h:HI X e f
structure Fg (X:Cx) (e:List Expr) (f:Ak):Prop where
 h:Ca X e f
structure Hl (X:Cx) (tg e:Expr) (f:au->R (List D)):Prop where
 h:Ja X tg e f
structure QP (X:Cx) (e:Option Expr) (f:FO):Prop where
 h:PP X e f
structure QJ (X:Cx) (e:List Expr) (f:au->R (List Str)):Prop where
 h:PJ X e f
structure Ey (X:Cx) (e:List Expr) (c:au->R Bool):Prop where
 h:oC X e (F3 X.K c)
section
variable {X:Cx}
theorem bj{f:au->R (List D)}(h:QN X e f):QD X e (eNew f):=⟨GL h.1⟩
theorem aa(i:Nat){pos:Pos}(hN:X.N[i]? =some x:=by rfl)(hv:DA X.env.scope x:=by first | exact Or.inl rfl | exact Or.inr (Or.inl rfl) | exact Or.inr (Or.inr rfl))(hd:(x==("__debug__":Str))=false:=by decide)(px:(x==("__classdict__":Str))=false:=by decide):QD X (.Name x pos) (ag i):=⟨Ih i hN hv hd px⟩
theorem ah{i j pos}:QD X (.Constant (.int i) j pos) (eC (.int i)):=⟨Ic⟩
theorem oi{b j pos}:QD X (.Constant (.bool b) j pos) (eC (.bl b)):=⟨Ku⟩
theorem b5{x j pos}:QD X (.Constant (.str x) j pos) (eC (.str x)):=⟨IG⟩
theorem rg{d:D}{pos:Pos}(g:Glob X.K X.mg x d)(hg:Gl X x)(hd:(x==("__debug__":Str))=false:=by decide):QD X (.Name x pos) (eC d):=⟨Eu g hg hd⟩
theorem ai:Ga X [] aA:=⟨D9⟩
theorem ae{g:au->R (List D)}(h:QD X e f)(t:Ga X es g)(hs:starEach (e ::es) X.env=(false,eval e X.env) ::starEach es X.env:=by rfl):Ga X (e ::es) (af f g):=⟨B_ h.1 t.1 hs⟩
theorem bE{g:au->R (List D)}{x1 pos}(h:Ga X es g):QD X (.Tuple es x1 pos) (dz g):=⟨HF h.1⟩
theorem b6{g:au->R (List D)}{pos}(h:Ga X es g):QN X (.List es pos) (cZ g):=⟨IP h.1⟩
theorem ax{op:Operator}{g:D->D->R D}(ho:l_ X (binaryOp op) g)(ha:QD X a fa)(hb:QD X b fb):QD X (.BinOp a op b pos) (e2 g fa fb):=⟨Lx ho ha.1 hb.1⟩
theorem nJ{op:CmpOp}{g:D->D->R D}{pos:Pos}(ho:l_ X (compareOp op) g)(ha:QD X a fa)(hb:QD X b fb)(hm:behindInMarks op b=false:=by first | exact xx _ | with_unfolding_all rfl):QD X (.Compare a [op] [b] pos) (e2 g fa fb):=⟨IV ho ha.1 hb.1 hm⟩
theorem bo{op:CmpOp}{g:D->D->R D}{pos:Pos}(ho:l_ X (compareOp op) g)(ha:QD X a fa)(hb:QD X b fb)(hm:behindInMarks op b=false:=by first | exact xx _ | with_unfolding_all rfl):QB X (.Compare a [op] [b] pos) (b2 g fa fb):=⟨Ia ho ha.1 hb.1 hm⟩
theorem lU{f:au->R Bool}(h:IU X e f):QB X e f:=⟨Df.pb h.1⟩
theorem oq{f:au->R Bool}(h:QB X a f):IU X (.BoolOp .And [a] pos) f:=⟨Bu h.1⟩
theorem qk{f:au->R Bool}(h:QB X a f):IU X (.BoolOp .Or [a] pos) f:=⟨DY h.1⟩
theorem qh{rest:List Expr}{f g:au->R Bool}(ha:QB X a f)(hb:IU X (.BoolOp .And (b ::rest) pos) g):IU X (.BoolOp .And (a ::b ::rest) pos) (vp f g):=⟨Ds ha.1 hb.1⟩
theorem nL{rest:List Expr}{f g:au->R Bool}(ha:QB X a f)(hb:IU X (.BoolOp .Or (b ::rest) pos) g):IU X (.BoolOp .Or (a ::b ::rest) pos) (uL f g):=⟨HU ha.1 hb.1⟩
theorem aI{g:List D->R D}{id:String}{p pos:Pos}{fs:au->R (List D)}(hc:cN X (.builtin id) g)(hg:Gl X x)(hm:X.mg x=none)(hv:bootBuiltins x=some (.builtin id))(ha:Ga X (e ::es) fs)(hn:x≠"__name__":=by decide)(nR:(x==("__debug__":Str))=false:=by decide)(he:starEach (e ::es) X.env=(false,eval e X.env) ::starEach es X.env:=by rfl)(jE:(backTo pos (starEach es X.env)).any (·.1)=false:=by rfl):QD X (.Call (.Name x p) (e ::es) [] pos) (aw g fs):=⟨AV hc hg hm hv ha.1 hn nR he jE⟩
theorem cB{g:List D->R D}{T:String}{p pos:Pos}{fs:au->R (List D)}(hc:cN X (.type T) g)(hg:Gl X x)(hm:X.mg x=none)(hv:bootBuiltins x=some (.type T))(ha:Ga X (e ::es) fs)(hn:x≠"__name__":=by decide)(nR:(x==("__debug__":Str))=false:=by decide)(he:starEach (e ::es) X.env=(false,eval e X.env) ::starEach es X.env:=by rfl)(jE:(backTo pos (starEach es X.env)).any (·.1)=false:=by rfl):QD X (.Call (.Name x p) (e ::es) [] pos) (aw g fs):=⟨zB hc hg hm hv ha.1 hn nR he jE⟩
theorem ie:qm X [] rR:=⟨Ej⟩
theorem aP{st:Stmt}{rest:List Stmt}{F G:FS}(h1:CZ X st F)(h2:qm X rest G):qm X (st ::rest) (cF F G):=⟨Cd h1.1 h2.1⟩
theorem bM{st:Stmt}{F:FS}(h1:CZ X st F):qm X [st] F:=⟨EO h1.1⟩
theorem b3{i:Nat}{pos pos':Pos}(he:QD X e f)(hs:swapsWith e (some (.Name x pos')) pos.line X.env=pure false:=by rfl)(hf:X.fn x=true\/X.env.scope.names.lookup x=some .local:=by first | exact .inl rfl | exact .inr rfl | assumption)(hN:X.N.Nodup:=by first | assumption | exact DQ (by kernel_rfl))(hi:X.N[i]? =some x:=by rfl)(hx:Loc X.env.scope x:=by first | exact Or.inl rfl | exact Or.inr rfl):CZ X (.Assign [.Name x pos'] e pos) (eA i f):=⟨DF hN hi hx he.1 hs hf⟩
theorem vY{i:Nat}{f:au->R (List D)}{pos pos':Pos}(he:QN X e f)(hs:swapsWith e (some (.Name x pos')) pos.line X.env=pure false:=by rfl)(hf:X.fn x=true\/X.env.scope.names.lookup x=some .local:=by first | exact .inl rfl | exact .inr rfl | assumption)(hN:X.N.Nodup:=by first | assumption | exact DQ (by kernel_rfl))(hi:X.N[i]? =some x:=by rfl)(hx:Loc X.env.scope x:=by first | exact Or.inl rfl | exact Or.inr rfl):CZ X (.Assign [.Name x pos'] e pos) (wq i f):=⟨D2 hN hi hx he.1 hs hf⟩
theorem Ap{i:Nat}{x:Str}{e:Expr}{f:au->R (List D)}{ij apos b4 pos:Pos}(he:QN X e f)(hd:(x==("__debug__":Str))=false:=by decide)(px:(x==("__classdict__":Str))=false:=by decide)(hs:starEach [e] X.env=(false,eval e X.env) ::starEach [] X.env:=by rfl)(nS:(apos.endLine==b4.line)=true:=by rfl)(ur:((backTo b4 (starEach [e] X.env)).all (fun x=>!x.1) && (backToKw b4 (keywordEach [] X.env)).all (fun x=>x.1.isSome)
 && decide (([e]:List Expr).length+([]:List Keyword).length+(if([]:List Keyword).isEmpty then 0 else 1) < 30))=true:=by rfl) (v8:swapsWith (.Call (.Attribute (.Name x ij) "extend" apos) [e] [] b4) none pos.line X.env=pure false:=by rfl) (nU:attributeBase (.Name x ij) "extend" X.env (eval (.Name x ij) X.env)=eval (.Name x ij) X.env:=by rfl) (hN:X.N[i]? =some x:=by rfl) (hv:DA X.env.scope x:=by first | exact Or.inl rfl | exact Or.inr (Or.inl rfl) | exact Or.inr (Or.inr rfl)):CZ X (.Expr (.Call (.Attribute (.Name x ij) "extend" apos) [e] [] b4) pos) (E7 i f):=⟨DO hN hv he.1 hd px hs nS ur v8 nU⟩
theorem vD(i:Nat){F:FS}(h:qm X GB F):qm X GB (Cn i F):=⟨Fz i h.1⟩
theorem cg(he:QD X e f):CZ X (.Return (some e) pos) (hV f):=⟨Et he.1⟩
theorem iR{fc:au->R Bool}{F G:FS}(hc:QB X c fc)(ha:qm X a F)(hb:qm X b G):CZ X (.If c a b pos) (xD fc F G):=⟨Ik hc.1 ha.1 hb.1⟩
theorem aH{i:Nat}{pos:Pos}(hf:X.fn x=true\/X.env.scope.names.lookup x=some .local:=by first | exact .inl rfl | exact .inr rfl | assumption)(hN:X.N.Nodup:=by first | assumption | exact DQ (by kernel_rfl))(hi:X.N[i]? =some x:=by rfl)(hx:Loc X.env.scope x:=by first | exact Or.inl rfl | exact Or.inr rfl):JL X (.Name x pos) (aM i):=⟨Be hN hi hx hf⟩
theorem ck:Fg X [] dw:=⟨Bb⟩
theorem aR{u:Ak}(h1:JL X e t)(h2:Fg X es u)(hs:(assignEach (e ::es) X.env).map (·.2)=assign e X.env ::(assignEach es X.env).map (·.2):=by rfl):Fg X (e ::es) (bb t u):=⟨zV h1.1 h2.1 hs⟩
theorem cQ{k:Nat}{t:Ak}{n:Nat}{pos:Pos}(h:Fg X es t)(hn:(assignEach es X.env).length=n:=by rfl)(pz:(assignEach es X.env).findIdx? (·.1)=none:=by rfl)(hc:X.calm=true:=by rfl):JL X (.Tuple es k pos) (dy n t):=⟨E_ hc h.1 hn pz⟩
theorem bU(h:QD X e f):Hl X tg e (cn f):=⟨Dy h.1⟩
theorem bQ{tg a:Expr}{p pos:Pos}(h:QD X a f)(hg:Gl X "range")(hm:X.mg "range"=none)(hs:starEach [a] X.env=[(false,eval a X.env)]:=by rfl):Hl X tg (.Call (.Name "range" p) [a] [] pos) (cx f):=⟨xk h.1 hg hm hs⟩
theorem qi{it:au->R (List D)}{F:FS}{pos:Pos}(hi:Hl X tg iter it)(hg:JL X tg t)(hb:qm X body F)(hs:∀x,foldedSetIterable iter X.env x=pure x:=by intro _;rfl)(hp:PassesOwn (model X.prog X.w) X.A X.env X.xe:=by exact PassesOwn.never)(hc:X.calm=true:=by rfl):CZ X (.For tg iter body [] pos) (uZ it t F):=⟨EN hp hc hi.1 hg.1 hb.1 hs⟩
theorem cw{own:List Str}{kp:List Nat}{it:au->R (List D)}{c:au->R Bool}{pos:Pos}(hi:Hl X tg iter it)(hg:∀fp s H,JL (bt X scope (own++(pq kp X.N)) fp s H) tg t)(Ae:∀fp s H,Ey (bt X scope (own++(pq kp X.N)) fp s H) ifs c)(he:∀fp s H,QD (bt X scope (own++(pq kp X.N)) fp s H) elt f)(hs:∀x,foldedSetIterable iter X.env x=pure x:=by intro _;rfl)(hc:X.calm=true:=by rfl)(C:fq X scope own kp (pq kp X.N):=by exact Oq (by kernel_rfl)):QN X (.ListComp elt [⟨tg,iter,ifs,0⟩] scope pos) (b7 it t c f own kp):=⟨D_ hc C hi.1 (fun fp s H=>(hg fp s H).1) (fun fp s H=>(Ae fp s H).1) (fun fp s H=>(he fp s H).1) hs⟩
theorem bS:Ey X [] fJ:=⟨AF⟩
theorem uI{c:au->R Bool}(h:QB X e c):Ey X [e] c:=⟨Eb h.1⟩
theorem gY{i:Nat}{pos' rn:Pos}{own:List Str}{kp:List Nat}{it:au->R (List D)}{c:au->R Bool}(hi:Hl X tg iter it)(hg:∀fp s H,JL (bt X scope (own++(pq kp X.N)) fp s H) tg t)(Ae:∀fp s H,Ey (bt X scope (own++(pq kp X.N)) fp s H) ifs c)(he:∀fp s H,QD (bt X scope (own++(pq kp X.N)) fp s H) elt f)(v8:swapsWith (.ListComp elt [⟨tg,iter,ifs,0⟩] scope pos) (some (.Name x pos')) rn.line X.env=pure true:=by rfl)(hs:∀x,foldedSetIterable iter X.env x=pure x:=by intro _;rfl)(hc:X.calm=true:=by rfl)(hN:X.N.Nodup:=by first | assumption | exact DQ (by kernel_rfl))(hx:X.N[i]? =some x:=by rfl)(CJ:X.env.scope.names.lookup x=some .local:=by rfl)(C:fq X scope own kp (pq kp X.N):=by exact Oq (by kernel_rfl)):CZ X (.Assign [.Name x pos'] (.ListComp elt [⟨tg,iter,ifs,0⟩] scope pos) rn) (eA i (eNew (b7 it t c f own kp))):=⟨vG hc hN hx CJ C hi.1 (fun fp s H=>(hg fp s H).1) (fun fp s H=>(Ae fp s H).1) (fun fp s H=>(he fp s H).1) v8 hs⟩
theorem ay{pos:Pos}(ha:QD X a fa)(hb:QD X b fb)(hs:tL b:=by intro _ _;rfl):QD X (.Subscript a b pos) (e2 br fa fb):=⟨J2 ha.1 hb.1 hs⟩
theorem vc:QP X none yj:=⟨E9⟩
theorem qV(h:QD X e f):QP X (some e) (qr f):=⟨EX h.1⟩
theorem Cy{lo hi:Option Expr}{fl fh:FO}(he:QD X e f)(hl:QP X lo fl)(hh:QP X hi fh):QD X (.Subscript e (.Slice lo hi none p2) pos) (JN f fl fh):=⟨J_ he.1 hl.1 hh.1⟩
theorem tF:QJ X [] uE:=⟨Ii⟩
theorem eY{g:au->R (List Str)}(he:QD X e f)(hr:QJ X es g)(OX:evalEach (e ::es) X.env=eval e X.env ::evalEach es X.env:=by rfl):QJ X (e ::es) (dR f g):=⟨Dx he.1 hr.1 OX⟩
theorem mJ{rest:List Expr}{g:au->R (List Str)}(h:QJ X (CL ::CM ::rest) g):QD X (.JoinedStr (CL ::CM ::rest) pos) (f9 g):=⟨zf h.1⟩
theorem pH(h:QD X e f):QD X (.FormattedValue e (-1) none pos) (ny f):=⟨Iq h.1⟩
theorem oh{elts:List Expr}{k:Nat}{CP:Pos}{p pos:Pos}(h:QD X a f)(hg:Gl X "enumerate")(hm:X.mg "enumerate"=none)(hs:starEach [a] X.env=[(false,eval a X.env)]:=by rfl):Hl X (.Tuple elts k CP) (.Call (.Name "enumerate" p) [a] [] pos) (mT f):=⟨B0 h.1 hg hm hs⟩
theorem zE{P:Program}{w:World}{K:W.Frag}{mg:Wu}{base:Heap}{x qual:Str}{st:Stmt}{f:Addr}{fd:FuncData}{N ps:List Str}{k:Nat}{F:FS}{b:List Stmt}{sc:Scope}(hb:bh st=b)(hs:aO st=sc)(Fn:wK K x qual st f fd)(S:bz N ps sc)(dS:∀(d8:Value) (A:Around) (outer:List Env) (s:Shared) (H:Hp) (E:XK),eJ k (A.deeper (envOfC qual sc s.heap.objs.size f d8))->
 qm (iG rB P w K mg base N qual sc f d8 A outer s H E).BK b F):hJ P w K mg base rB (k+1) f fd ps (Fu K ps.length (tm N F)):=Bg hb hs Fn S (fun d8 A outer s H E hr=>(dS d8 A outer s H E hr).1)
theorem Dl{K:W.Frag}{mg:Wu}{st:Stmt}{N ps:List Str}{k:Nat}{F:FS}(h:Def K mg x st)(hb:bh st=b)(hs:aO st=sc)(S:bz N ps sc)(dS:∀(f:Addr) (d8:Value) (A:Around) (outer:List Env) (s:Shared) (H:Hp) (E:XK),eJ k (A.deeper (envOfC x sc s.heap.objs.size f d8))->N.Nodup->qm (iG rB P w K mg base N x sc f d8 A outer s H E).BK b F)(bd:∀(kV doc pm:Value) (an:Option Addr) (d8 ct:Value) (us:List Value),us.length=ps.length->bindArgs (PySem.W.fnOf x x (jW st) (bh st) (aO st) .none kV doc pm an d8 ct) ⟨us,[]⟩=pure (ps.zip us):=by intro _ _ _ _ _ _ us hl;rcases us with _ | ⟨_,_ | ⟨_,_ | ⟨_,_ | ⟨_,_ | ⟨_,_ | ⟨_,_ | ⟨_,_⟩⟩⟩⟩⟩⟩⟩ <;> first | (simp at hl;done) | rfl):Callee P w K mg base (k+1) x ps.length (tm N F):=by
 obtain⟨f,fd,F,hm⟩:=h;exact⟨f,fd,_,zE hb hs F S (fun d8 A outer s H E hr=>dS f d8 A outer s H E hr S.nd),hm,F.kp,F.binds bd⟩
theorem aQ{g:List D->R D}{k j n:Nat}{p pos:Pos}{fs:au->R (List D)}(C:Callee X.prog X.w X.K X.mg X.base k x n g)(ha:Ga X (e ::es) fs)(nR:(x==("__debug__":Str))=false:=by decide)(he:starEach (e ::es) X.env=(false,eval e X.env) ::starEach es X.env:=by rfl)(jE:(backTo pos (starEach es X.env)).any (·.1)=false:=by rfl)(hr:eJ j X.A:=by assumption)(Jl:k<=j:=by decide)(hg:Gl X x:=by rfl)(hn:∀δ ds,fs δ= .ok ds->ds.length=n:=by(repeat apply zH);exact Aq):QD X (.Call (.Name x p) (e ::es) [] pos) (aw g fs):=⟨AG C hr Jl hg ha.1 hn nR he jE⟩
theorem EK{keys:List (Option Expr)}{values:List Expr}{sU:List (TE × TE)}{aC:List (Key × V)}(hu:X.A.units+1 < cLine)(h:GG X uu keys values sU)(Af:keys.all (·.isSome)=true)(hl:keys.length=values.length)(h0:keys≠[])(hc:∀σ H Q,Q (aC.map fun kv=>(kV kv.1,kv.2)) H->oz sU σ H Q)(hlen:aC.length<=15)(he:QD X e fe)(hf:QD X f ff)(m:M2 X (.Dict keys values uu) "get" apos e f b4)(hd:PE X (.Dict keys values uu) (AU sU)):QD X (.Call (.Attribute (.Dict keys values uu) "get" apos) [e,f] [] b4) (AQ aC fe ff):=⟨IT hu h Af hl h0 hc hlen he.1 hf.1 m hd⟩
end
end L2
end
section
namespace L2
open PySem PySem.Spec PyProof.Rows
theorem zP{P:Program}{w:World}{K:W.Frag}{mg mb:Wu}{CX:Aj}{k:Nat}{fa a:Addr}{fd:FuncData}{x:Str}{sp:Sp}{s₁:Shared}{vs:List Value}{ns:List Int}
 (KX:K.In s₁.heap) (JX:s₁.heap.Ns mainGlobals mg) (hb:s₁.heap.Ns builtinsNs mb) (UY:∀x:Str,x≠"__name__"->mb x=bootBuiltins x) (O2:s₁.heap.NoLimit) (hg:s₁.gens=#[])
 (ha:s₁.heap.get? a=some {cls:= .type "list",data:= .seq vs.toArray}) (hi:IntsAre vs ns) (hl:ns.length<=sizeLine) (hr:eJ k callerA)
 (F:∀base:Heap,K.In base->base.Ns mainGlobals mg->hJ P w K mg base CX k fa fd [x] sp) (LN:∀(s:Shared) (u:Value),BindsTo s fd ⟨[u],[]⟩ [(x,u)])
 (Dm:∀H:Hp,Ln H->sW K [] H a (ns.map V.int)->sp [.ref a] H (fun v _=>v= .bl true) fun _ _ _=>False)
 (U9:∀H e s',CX [] H s₁ (fun _ _ _=>False) e s'->False) :
 codeAny (model P w) callerA (.call (.ref fa) ⟨[.ref a],[]⟩) (fun r s'=>r= .ok (.ret (.bool true))/\OldK s₁.heap s'.heap/\s'.os=s₁.os/\AllBare s'.gens) s₁:=by
 have rv:=r9 hi;have lenV:=hi.length;have core:∀H:Hp,Ln H->sW K [] H a (ns.map V.int)->kU P w H s₁.heap->(∀b,H b≠none->b=a)->(H a≠none->K.lookup a=none)->
  codeAny (model P w) callerA (.call (.ref fa) ⟨[.ref a],[]⟩) (fun r s'=>r= .ok (.ret (.bool true))/\OldK s₁.heap s'.heap/\s'.os=s₁.os/\AllBare s'.gens) s₁:=by
  intro H hO hS hok hA hK;have yZ:∀{b:Addr} {o:Obj},s₁.heap.get? b=some o->H b=none->(t6 s₁.heap H).get? b=some o:=fun e n=>Cs e n
  have noA:∀{b:Addr} {o:Obj} {es:Array DictEntry} {ep:Nat},s₁.heap.get? b=some o->o.data= .dict es ep->H b=none:=fun {b o es ep} e d=>by
   cases q:H b with
   | none=>rfl
   | some u=>
     have e':b=a:=hA b (by rw[q];simp)
     subst e';rw[ha] at e;cases e;have d':Data.seq vs.toArray _=Data.dict es ep:=d;cases d'
  have nsK:∀{b:Addr} {m:Wu},s₁.heap.Ns b m->(t6 s₁.heap H).Ns b m:=fun {b m} ⟨o,es,ep,e,d,r⟩=>⟨o,es,ep,yZ e (noA e d),d,r⟩
  have hKb:K.In (t6 s₁.heap H):=fun b o e=>yZ (KX b o e) (by
   cases q:H b with
   | none=>rfl
   | some u=>
     have e':b=a:=hA b (by rw[q];simp)
     subst e';rw[hK (by rw[q];simp)] at e;cases e)
  have hM:Mod K mg (t6 s₁.heap H):=⟨hKb,nsK JX,⟨mb,nsK hb,UY⟩,let⟨mc,h1,h2⟩:=O2;⟨mc,nsK h1,h2⟩⟩
  have e0:Ea P w K mg (t6 s₁.heap H) callerA [] s₁ H:=⟨rfl,hM,fun b o e=>DZ e,Nat.le_of_eq (zp _ _),trivial,fun b hb=>absurd (show b∈([]:List Addr) from hb) (by simp),hok, .of_eq hg⟩
  refine codeAny_mono ((F _ hKb (nsK JX)).run callerA [] s₁ H ⟨[.ref a],[]⟩ [.ref a] [.ref a] _ _ hr e0 (LN s₁ (.ref a)) (.cons rfl .nil) (Dm H hO hS)) fun r s' h=>?_
  cases r with
  | error e=>exact(U9 H e s' h).elim
  | ok fl=>
    cases fl with
    | next=>exact False.elim h
    | brk=>exact False.elim h
    | cont=>exact False.elim h
    | ret u=>
      obtain⟨v,H',os,bare,un,OG,r',q⟩:=h;have q':v= .bl true:=q;subst q';obtain rfl:u=Value.bool true:=r';refine⟨rfl,OldK.of_keep fun b o e=>?_,os,bare⟩
      cases q:H b with
      | none=>exact un.keep b o e q (by intro z;exact absurd (show b∈([]:List Addr) from z) (by simp)) (by simp)
      | some u=>
        rcases hO b with z | ⟨ob,xs,z⟩
        .rw [q] at z;cases z
        .have z2:=un.frzs b ob _ z;obtain⟨e1,_⟩:=hok b _ z;obtain⟨e2,_⟩:=OG b _ z2;rw[e] at e1;cases e1;exact e2
 cases hk:K.lookup a with
 | some o=>
   have e:=KX a o hk;rw[ha] at e;cases e;refine core (fun _=>none) (fun _=> .inl rfl) (.inr ⟨vs,_,hk,by rw[List.length_map];exact hl,rv⟩) (fun b u z=>by have z':(none:Option HO)=some u:=z;cases z') (fun b z=>absurd rfl z) fun z=>absurd rfl z
 | none=>
   refine core (fun b=>if b=a then some (.jn {cls:= .type "list",data:= .seq vs.toArray} (.lst (ns.map V.int))) else none) (fun b=>?_) (.inl ⟨by simp, .inr ⟨{cls:= .type "list",data:= .seq vs.toArray},if_pos rfl⟩⟩) (fun b u z=>?_) (fun b z=>?_) fun _=>hk
   .by_cases hb:b=a
    .exact .inr ⟨_,_,if_pos hb⟩
    .exact .inl (if_neg hb)
   .by_cases hb:b=a
    .have z':=(if_pos hb).symm.trans z;cases z';subst hb;exact⟨ha,by rw[List.length_map];exact hl,vs,_,rv,ha⟩
    .have z':=(if_neg hb).symm.trans z;cases z'
   .by_cases hb:b=a
    .exact hb
    .exact absurd (if_neg hb) z
theorem ints_rep{K:W.Frag}{B:List Addr}:∀ns:List Int,aD K B H (ns.map D.int) (ns.map V.int)
 | []=>aD.nil
 | n ::ns=>aD.cons (Rep.int.mpr rfl) (ints_rep ns)
theorem LC{l:PySem.W.OpenLaw}{n k:Nat}{q:Program}{loose:List Str}{XP:(Str->Option Value)->Heap->Prop}{YP:World->Heap->Prop}{d:DefRec}{K:Params->W.Frag}{x:Str}{g:List D->R D}
 (hn:l.most=some n) (xN:n<=sizeLine) (O8:d.params.defaults=[]) (hr:eJ k callerA) (hY:∀(w:World) (h:Heap),YP w h->(K w.params).In h)
 (F:∀(w:World) (mg:Wu) (fa:Addr) (h:Heap),(K w.params).In h->h.Ns mainGlobals mg->mg d.name=some (.ref fa)->
   ∃fd:FuncData,(∀(s:Shared) (u:Value),BindsTo s fd ⟨[u],[]⟩ [(x,u)])/\∀base:Heap,(K w.params).In base->base.Ns mainGlobals mg->hJ l.prog w (K w.params) mg base rB k fa fd [x] (Fu (K w.params) 1 g))
 (hg:∀ns:List Int,ns.length<=n->g [.lst (ns.map D.int)]= .ok (.bl true)):PySem.W.WalkO q loose XP YP l.row.toRowW d [] (fun f vs=>PySem.call f vs):=by
 refine Att.vv hn O8 fun w s₀ s₁ mg mb fa o pm cd doc a vs ns G Y ho hd px LP Jc hints hlen Pg=>?_
 have KX:=hY w _ Y;obtain⟨fd,hb,hF⟩:=F w mg fa _ KX G.T.g LP;refine zP KX G.T.g G.T.b G.T.builtins G.T.nolimit Pg Jc hints (Nat.le_trans hlen xN) hr hF hb (fun H hO hS=>?_) fun H e s' h=>h
 refine⟨rfl,[],[.lst (ns.map D.int)], .bl true,fun b hb=>(by cases hb),aD.cons (Rep.lst.mpr ⟨_,_,rfl,hS,ints_rep ns⟩) aD.nil,hg ns hlen,fun z H' _ r=>Rep.bl.mp r⟩
theorem c9{K:W.Frag}{h:Heap}{mg:Wu}{x:Str}{st:Stmt}{f:Addr}{oc:Value}{od an:Option Addr}{CS:Array (Option Value)}{kV doc pm d8 ct:Value}(X:K.In h)(G:h.Ns mainGlobals mg)(a:PySem.W.nsIn K mainGlobals x=some (some (.ref f)))
 (l:K.lookup f=some ⟨oc,od, .func (PySem.W.fnOf x x (jW st) (bh st) (aO st) .none kV doc pm an d8 ct),CS⟩) (c:PySem.W.codeIn K d8 x=true) (k:PySem.W.keepIn K (.ref f)=true):Def K mg x st:=
 ⟨f,_,IS l c k,PySem.W.mg_of X G a⟩
theorem qd{K:W.Frag}{h:Heap}{mg:Wu}(X:K.In h)(G:h.Ns mainGlobals mg){i:Int}{t:Tok}(a:PySem.W.nsIn K mainGlobals x=some (some (.int i t))):Glob K mg x (.int i):=
 ⟨_, .int i,PySem.W.mg_of X G a,⟨t,rfl⟩,fun _ _=>Rep.int.mpr rfl⟩
end L2
end
section
namespace L2
open PySem PySem.Spec PyProof.Rows
theorem qj{t:FT}{body:FS}:∀(ds:List D) (n:Nat) (P:Nat->au->Prop) {δ:au},P n δ->
 (∀i d δ,ds[i]? =some d->P (n+i) δ->∃cT,((t d δ).bind body)= .ok (.nx cT)/\P (n+i+1) cT)->∃cT,ml t body ds δ= .ok (.nx cT)/\P (n+ds.length) cT
 | [],n,P,δ,h0,_=>⟨δ,rfl,h0⟩
 | d ::ds,n,P,δ,h0,hs=>by
   obtain⟨δ1,e1,p1⟩:=hs 0 d δ rfl h0;obtain⟨dX,e2,p2⟩:=qj ds (n+1) P p1 (fun i d' cT hi hp=>by
    have:=hs (i+1) d' cT (by simpa using hi) (by rw[show n+(i+1)=n+1+i by omega];exact hp)
    rw[show n+(i+1)+1=n+1+i+1 by omega] at this
    exact this)
   refine⟨dX,?_,by rw[List.length_cons,show n+(ds.length+1)=n+1+ds.length by omega];exact p2⟩
   obtain⟨V6,h1,h2⟩:=R.aj e1;show(t d δ).bind (fun δ1=>(body δ1).bind fun o=>match o with | .nx dX=>ml t body ds dX | .rt r=> .ok (.rt r))=_
   rw[h1,R.aK,h2,R.aK];exact e2
theorem zR{t:FT}{body:FS}{ds:List D}(P:Nat->au->Prop){δ:au}(h0:P 0 δ)
 (hs:∀i d δ,ds[i]? =some d->P i δ->∃cT,((t d δ).bind body)= .ok (.nx cT)/\P (i+1) cT):∃cT,ml t body ds δ= .ok (.nx cT)/\P ds.length cT:=by
 have:=qj (t:=t) (body:=body) ds 0 P h0 (fun i d δ hi hp=>by simpa using hs i d δ hi (by simpa using hp))
 simpa using this
theorem ints_map:∀ss:List Int,ints? (ss.map D.int)=some ss
 | []=>rfl
 | s ::ss=>by show(ints? (ss.map D.int)).map (s ::·)=_;rw [ints_map ss];rfl
theorem a9{F G:FS}{δ δ1:au}{r:R Out}(h:F δ= .ok (.nx δ1))(h2:G δ1=r):cF F G δ=r:=by unfold cF;rw [h,R.aK];exact h2
theorem bA{f:au->R (List D)}{δ:au}{ds:List D}(h:f δ= .ok ds):eNew f δ= .ok (.lst ds):=by unfold eNew;rw [h];rfl
theorem oR{c:au->R Bool}{F G:FS}{δ:au}{r:R Out}(h:c δ= .ok true)(h2:F δ=r):xD c F G δ=r:=by unfold xD;rw [h,R.aK,if_pos rfl];exact h2
theorem lH{c:au->R Bool}{F G:FS}{δ:au}{r:R Out}(h:c δ= .ok false)(h2:G δ=r):xD c F G δ=r:=by unfold xD;rw [h,R.aK,if_neg (by decide)];exact h2
theorem lX{it:au->R (List D)}{F:FS}{δ:au}{ds:List D}{r:R Out}(h:it δ= .ok ds)(h2:ml t F ds δ=r):uZ it t F δ=r:=by unfold uZ;rw [h,R.aK];exact h2
theorem dP{f:FD}{δ:au}{d:D}(h:f δ= .ok d):hV f δ= .ok (.rt d):=by unfold hV;rw [h];rfl
theorem gz{N:List Str}{F:FS}{ds:List D}{d:D}(h:F (dW N ds)= .ok (.rt d)):tm N F ds= .ok d:=by unfold tm;rw [h];rfl
theorem bW{α:Type}{p:Prop} [Decidable p](r:R α)(h:p):R.aS (decide p) r=r:=by rw[decide_eq_true h];rfl
theorem bZ{i:Nat}{f:FD}{δ:au}{d:D}(h:f δ= .ok d)(hi:i < δ.length):eA i f δ= .ok (.nx (δ.set i (.val d))):=by unfold eA;rw [h,R.aK,bW _ hi]
theorem yy{i:Nat}{f:au->R (List D)}{δ:au}{ds:List D}(h:f δ= .ok ds)(hi:i < δ.length):wq i f δ= .ok (.nx (δ.set i (.bld ds))):=by unfold wq;rw [h,R.aK,bW _ hi]
theorem bY{it:au->R (List D)}{c:au->R Bool}{own:List Str}{kp:List Nat}{δ:au}{ds ys:List D}(h1:it δ= .ok ds)(h2:ds.length<=sizeLine)(h3:nj t c f (pR own kp δ) ds= .ok ys):b7 it t c f own kp δ= .ok ys:=by unfold b7;rw [h1,R.aK,bW _ h2,h3]
theorem IW{ds:List D}{i:Int}{d:D}(h:rF ds i=some d):br (.lst ds) (.int i)= .ok d:=by unfold br;simp only[h]
theorem ox{x:Str}{i:Int}{c:Nat}(hz:x.length<=sizeLine)(h:rF x.cps.toList i=some c):br (.str x) (.int i)= .ok (.str ⟨#[c]⟩):=by unfold br;simp only[h,bW _ hz]
end L2
end
section
namespace L2
open PySem PySem.Spec PyProof.Rows
theorem av{g:D->D->R D}{fa fb:FD}{δ:au}{a b:D}{r:R D}(ha:fa δ= .ok a)(hb:fb δ= .ok b)(h:g a b=r):e2 g fa fb δ=r:=by unfold e2;rw [ha,R.aK,hb,R.aK];exact h
theorem cA{g:D->D->R D}{fa fb:FD}{δ:au}{a b:D}{k:Bool}(ha:fa δ= .ok a)(hb:fb δ= .ok b)(h:g a b= .ok (.bl k)):b2 g fa fb δ= .ok k:=by unfold b2;rw [av ha hb h];rfl
theorem ao{f:FD}{g:au->R (List D)}{δ:au}{d:D}{ds:List D}(h:f δ= .ok d)(h2:g δ= .ok ds):af f g δ= .ok (d ::ds):=by unfold af;rw [h,R.aK,h2];rfl
theorem aq{g:List D->R D}{fs:au->R (List D)}{δ:au}{ds:List D}{r:R D}(h:fs δ= .ok ds)(h2:g ds=r):aw g fs δ=r:=by unfold aw;rw [h,R.aK];exact h2
theorem bG{g:au->R (List D)}{δ:au}{ds:List D}(h:g δ= .ok ds)(hl:ds.length<=sizeLine):dz g δ= .ok (.tup ds):=by unfold dz;rw [h,R.aK,bW _ hl]
theorem iH{g:au->R (List D)}{δ:au}{ds:List D}(h:g δ= .ok ds)(hl:ds.length<=sizeLine):cZ g δ= .ok ds:=by unfold cZ;rw [h,R.aK,bW _ hl]
theorem Cg{f:FD}{fl fh:FO}{δ:au}{d:D}{lo hi:Option Int}{r:R D}(h:f δ= .ok d)(h1:fl δ= .ok lo)(h2:fh δ= .ok hi)(h3:JI d lo hi=r):JN f fl fh δ=r:=by unfold JN;rw [h,R.aK,h1,R.aK,h2,R.aK];exact h3
theorem vj{f:FD}{δ:au}{i:Int}(h:f δ= .ok (.int i)):qr f δ= .ok (some i):=by unfold qr;rw [h];rfl
theorem yR{a b:List D}(h:a.length+b.length<=sizeLine):bH (.lst a) (.lst b)= .ok (.lst (a++b)):=by unfold bH;exact bW _ h
theorem pM{a b:Int}(h:0 < b):du (.int a) (.int b)= .ok (.int (a % b)):=by unfold du C_;exact bW _ h
theorem yz{a b:Int}(h:0 < b)(h2:b < 1073741824):mi (.int a) (.int b)= .ok (.int (a / b)):=by unfold mi C_;exact bW _ ⟨h,h2⟩
theorem yE{f:FD}{δ:au}{n:Nat}(h:f δ= .ok (.int n))(hn:n < 1000000):cx f δ= .ok (kH 0 n):=by
 unfold cx;rw [h,R.aK];show R.aS (decide (-(2 ^ 62)<=(n:Int)/\(n:Int) < 2 ^ 62)) _=_;rw[bW _ ⟨by omega,by omega⟩,Int.toNat_natCast]
theorem jK{f:FD}{δ:au}{ds:List D}(h:f δ= .ok (.lst ds)):cn f δ= .ok ds:=by unfold cn;rw [h];rfl
theorem Bf{f:FD}{δ:au}{ds:List D}(h:f δ= .ok (.tup ds)):cn f δ= .ok ds:=by unfold cn;rw [h];rfl
theorem xt{f:FD}{δ:au}{ds:List D}(h:f δ= .ok (.lst ds)):mT f δ= .ok (gq ds):=by unfold mT;rw [h];rfl
theorem eZ{f:FD}{g:au->R (List Str)}{δ:au}{ss:List Str}(h:f δ= .ok (.str x))(h2:g δ= .ok ss):dR f g δ= .ok (x ::ss):=by unfold dR;rw [h,R.aK];show(g δ).bind _=_;rw [h2];rfl
theorem Ce{f:FD}{δ:au}{x:Str}(h:f δ= .ok (.str x))(hl:x.length<=sizeLine):ny f δ= .ok (.str x):=by unfold ny;rw [h,R.aK];unfold ES;exact bW _ hl
theorem qO{f:FD}{δ:au}{i:Int}(h:f δ= .ok (.int i))(hl:i.natAbs.log2 < 1920):ny f δ= .ok (.str (toString i)):=by unfold ny;rw [h,R.aK];unfold ES;exact bW _ hl
theorem mQ{g:au->R (List Str)}{δ:au}{ss:List Str}(h:g δ= .ok ss)(hl:(ss.foldl (·++·) Str.empty).length<=sizeLine):f9 g δ= .ok (.str (ss.foldl (·++·) Str.empty)):=by unfold f9;rw [h,R.aK,bW _ hl]
theorem HD(ds:List D):bV [.lst ds]= .ok (.int ds.length):=rfl
end L2
end
section
namespace L3
open PySem PySem.Spec PyProof.Rows L2
inductive V3 where
 | d (x:D) | loc (k:Nat) | lst (vs:List V3) | tup (vs:List V3) | fn (x:Str)
inductive SO where
 | lst (ds:List D) | dct (aC:List (Key × D)) | ins (c:Nat) (fs:List (Str × V3)) | jn | exc (c:Nat) | dcT (aC:List (List Key × D))
abbrev aZ:=List SO
inductive R3 (α:Type) where
 | ok (a:α) (S:aZ) | ex (c:Nat) (S:aZ) | no
def R3.bind{α β:Type}:R3 α->(α->aZ->R3 β)->R3 β
 | .ok a S,f=>f a S
 | .ex c S,_=> .ex c S
 | .no,_=> .no
theorem R3.aj{α β:Type}{r:R3 α}{f:α->aZ->R3 β}{b:β}{S':aZ}(h:r.bind f= .ok b S'):∃a S,r= .ok a S/\f a S= .ok b S':=by
 cases r with
 | ok a S=>exact⟨a,S,rfl,h⟩
 | ex c S=>cases h
 | no=>cases h
@[simp] theorem R3.aK{α β:Type}(a:α)(S:aZ)(f:α->aZ->R3 β):(R3.ok a S).bind f=f a S:=rfl
def R3.aS{α:Type}(c:Bool)(r:R3 α):R3 α:=if c then r else .no
theorem R3.aX{α:Type}{c:Bool}{r:R3 α}{a:α}{S:aZ}(h:R3.aS c r= .ok a S):c=true/\r= .ok a S:=by
 cases c with
 | true=>exact⟨rfl,h⟩
 | false=>cases h
def R3.of{α:Type}(r:R α)(S:aZ):R3 α:=match r with | .ok a=> .ok a S | _=> .no
theorem R3.of_ok{α:Type}{r:R α}{S S':aZ}{a:α}(h:R3.of r S= .ok a S'):r= .ok a/\S'=S:=by
 cases r with
 | ok b=>cases h;exact⟨rfl,rfl⟩
 | ex c=>cases h
 | no=>cases h
structure P3 where
 r:List Addr
 z:List Addr
 f:List Addr
def P3.b(ρ:P3):List Addr:=ρ.r.filter (fun a=>!ρ.f.contains a)++ρ.z
theorem P3.c8{ρ:P3}{a:Addr}:a∈ρ.b↔(a∈ρ.r/\a ∉ ρ.f)\/a∈ρ.z:=by
 unfold P3.b;rw[List.mem_append,List.mem_filter];simp
def P3.push(ρ:P3)(a:Addr):P3:=⟨ρ.r++[a],ρ.z,ρ.f⟩
def P3.cut(ρ:P3)(n:Nat):P3:=⟨ρ.r.take n,ρ.z,ρ.f⟩
mutual
def bq(K:W.Frag)(ρ:P3)(H:Hp):V3->V->Prop
 | .d x,v=>Rep K ρ.b H x v
 | .loc k,v=>∃a,ρ.r[k]? =some a/\v= .ref a
 | .lst vs,v=>∃a xs,v= .ref a/\sW K ρ.b H a xs/\aL K ρ H vs xs
 | .tup vs,v=>∃a xs,v= .ref a/\xf K ρ.b H a xs/\aL K ρ H vs xs
 | .fn x,v=>∃a,PySem.W.nsIn K mainGlobals x=some (some (.ref a))/\v= .ref a
def aL(K:W.Frag)(ρ:P3)(H:Hp):List V3->List V->Prop
 | [],xs=>xs=[]
 | d ::ds,xs=>∃x r,xs=x ::r/\bq K ρ H d x/\aL K ρ H ds r
end
structure Pre (ρ:P3) (H:Hp) (bF:P3) (H':Hp):Prop where
 bc:cX ρ.b H bF.b H'
 zz:bF.z=ρ.z
 zs:∀(b:Addr) (o:HO),b∈ρ.z->H b=some o->H' b=some o
 ext:∀(k:Nat) (a:Addr),ρ.r[k]? =some a->bF.r[k]? =some a
theorem Pre.refl(ρ:P3)(H:Hp):Pre ρ H ρ H:=⟨cX.refl ρ.b H,rfl,fun _ _ _ h=>h,fun _ _ h=>h⟩
theorem Pre.trans(a:Pre ρ H bF H')(b:Pre bF H' CN mW):Pre ρ H CN mW:=⟨a.bc.trans b.bc,b.zz.trans a.zz,fun c o hc h=>b.zs c o (by rw[a.zz];exact hc) (a.zs c o hc h),fun k x h=>b.ext k x (a.ext k x h)⟩
theorem Pre.same(s:aU H H'):Pre ρ H ρ H':=⟨cX.same s,rfl,fun b o _ h=>s b o h,fun _ _ h=>h⟩
theorem xf.bc{K:W.Frag}{B B':List Addr}(p:cX B H B' H'){a:Addr}{xs:List V}(l:xf K B H a xs):xf K B' H' a xs:=
 l.elim (fun z=> .inl ⟨(p.rd z.2 z.1).2,(p.rd z.2 z.1).1⟩) .inr
mutual
theorem bq.pre{K:W.Frag}(p:Pre ρ H bF H'):∀{d:V3} {v:V},bq K ρ H d v->bq K bF H' d v
 | .d x,v,h=>by unfold bq at h ⊢;exact h.bc p.bc
 | .loc k,v,h=>by unfold bq at h ⊢;obtain⟨a,h1,h2⟩:=h;exact⟨a,p.ext k a h1,h2⟩
 | .lst vs,v,h=>by unfold bq at h ⊢;obtain⟨a,xs,e,l,r⟩:=h;exact⟨a,xs,e,l.bc p.bc,aL.pre p r⟩
 | .tup vs,v,h=>by unfold bq at h ⊢;obtain⟨a,xs,e,l,r⟩:=h;exact⟨a,xs,e,xf.bc p.bc l,aL.pre p r⟩
 | .fn x,v,h=>by unfold bq at h ⊢;exact h
theorem aL.pre{K:W.Frag}(p:Pre ρ H bF H'):∀{ds:List V3} {xs:List V},aL K ρ H ds xs->aL K bF H' ds xs
 | [],_,h=>by unfold aL at h ⊢;exact h
 | d ::ds,xs,h=>by
   unfold aL at h ⊢;obtain⟨x,r,e,h1,h2⟩:=h;exact⟨x,r,e,bq.pre p h1,aL.pre p h2⟩
end
structure PW (ρ:P3) (H:Hp) (bF:P3) (H':Hp):Prop where
 bc:cX ρ.b H bF.b H'
 ext:∀(k:Nat) (a:Addr),ρ.r[k]? =some a->bF.r[k]? =some a
theorem Pre.pw(p:Pre ρ H bF H'):PW ρ H bF H':=⟨p.bc,p.ext⟩
theorem PW.trans(a:PW ρ H bF H')(b:PW bF H' CN mW):PW ρ H CN mW:=⟨a.bc.trans b.bc,fun k x h=>b.ext k x (a.ext k x h)⟩
mutual
theorem bq.pw{K:W.Frag}(p:PW ρ H bF H'):∀{d:V3} {v:V},bq K ρ H d v->bq K bF H' d v
 | .d x,v,h=>by unfold bq at h ⊢;exact h.bc p.bc
 | .loc k,v,h=>by unfold bq at h ⊢;obtain⟨a,h1,h2⟩:=h;exact⟨a,p.ext k a h1,h2⟩
 | .lst vs,v,h=>by unfold bq at h ⊢;obtain⟨a,xs,e,l,r⟩:=h;exact⟨a,xs,e,l.bc p.bc,aL.pw p r⟩
 | .tup vs,v,h=>by unfold bq at h ⊢;obtain⟨a,xs,e,l,r⟩:=h;exact⟨a,xs,e,xf.bc p.bc l,aL.pw p r⟩
 | .fn x,v,h=>by unfold bq at h ⊢;exact h
theorem aL.pw{K:W.Frag}(p:PW ρ H bF H'):∀{ds:List V3} {xs:List V},aL K ρ H ds xs->aL K bF H' ds xs
 | [],_,h=>by unfold aL at h ⊢;exact h
 | d ::ds,xs,h=>by
   unfold aL at h ⊢;obtain⟨x,r,e,h1,h2⟩:=h;exact⟨x,r,e,bq.pw p h1,aL.pw p h2⟩
end
theorem aL.nil{K:W.Frag}:aL K ρ H [] []:=by unfold aL;rfl
theorem aL.cons{K:W.Frag}{d:V3}{ds:List V3}{x:V}{xs:List V}(h:bq K ρ H d x)(t:aL K ρ H ds xs):aL K ρ H (d ::ds) (x ::xs):=by
 unfold aL;exact⟨x,xs,rfl,h,t⟩
theorem aL.b9{K:W.Frag}{d:V3}{ds:List V3}{xs:List V}(h:aL K ρ H (d ::ds) xs):∃x r,xs=x ::r/\bq K ρ H d x/\aL K ρ H ds r:=by
 unfold aL at h;exact h
theorem aL.length{K:W.Frag}:∀{ds:List V3} {xs:List V},aL K ρ H ds xs->ds.length=xs.length
 | [],_,h=>by unfold aL at h;rw [h];rfl
 | d ::ds,xs,h=>by
   obtain⟨x,r,rfl,_,h2⟩:=h.b9;simp [h2.length]
theorem aL.of{K:W.Frag}{ρ:P3}:∀{ds:List D} {xs:List V},aD K ρ.b H ds xs->aL K ρ H (ds.map .d) xs
 | [],_,h=>by unfold aD at h;subst h;exact aL.nil
 | d ::ds,xs,h=>by
   obtain⟨x,r,rfl,h1,h2⟩:=h.b9;exact aL.cons (by unfold bq;exact h1) (aL.of h2)
theorem aL.to{K:W.Frag}{ρ:P3}:∀{ds:List D} {xs:List V},aL K ρ H (ds.map .d) xs->aD K ρ.b H ds xs
 | [],_,h=>by unfold aL at h;subst h;exact aD.nil
 | d ::ds,xs,h=>by
   obtain⟨x,r,rfl,h1,h2⟩:=aL.b9 h;unfold bq at h1;exact aD.cons h1 (aL.to h2)
def isExc(C b:Addr):Heap->Prop:=fun h=>∃o,h.get? b=some o/\o.cls= .ref C
def Al(K:W.Frag)(cl:Wv)(ρ:P3)(H:Hp):SO->Option HO->Prop
 | .lst ds,h=>∃xs,h=some (.lst xs)/\aD K ρ.b H ds xs
 | .dct aC,h=>∃ys,h=some (.dK ys)/\ys.map (·.1)=aC.map (·.1)/\aD K ρ.b H (aC.map (·.2)) (ys.map (·.2))
 | .ins c fs,h=>∃dx ys,h=some (.ins (cl c) dx ys)/\ys.map (·.1)=fs.map (·.1)/\aL K ρ H (fs.map (·.2)) (ys.map (·.2))
 | .jn,h=>∃u,h=some u
 | .exc c,h=>∃b,h=some (.ext (isExc (cl c) b))
 | .dcT aC,h=>∃ys,h=some (.dT ys)/\ys.map (·.1)=aC.map (·.1)/\aD K ρ.b H (aC.map (·.2)) (ys.map (·.2))
theorem Al.pre{K:W.Frag}{cl:Wv}(p:Pre ρ H bF H'){o:SO}{h:Option HO}(r:Al K cl ρ H o h):Al K cl bF H' o h:=by
 cases o with
 | lst ds=>obtain⟨xs,e,q⟩:=r;exact⟨xs,e,q.bc p.bc⟩
 | dct aC=>obtain⟨ys,e,e2,q⟩:=r;exact⟨ys,e,e2,q.bc p.bc⟩
 | dcT aC=>obtain⟨ys,e,e2,q⟩:=r;exact⟨ys,e,e2,q.bc p.bc⟩
 | ins c fs=>obtain⟨dx,ys,e,e2,q⟩:=r;exact⟨dx,ys,e,e2,q.pre p⟩
 | jn=>exact r
 | exc c=>exact r
theorem Al.pw{K:W.Frag}{cl:Wv}(p:PW ρ H bF H'){o:SO}{h:Option HO}(r:Al K cl ρ H o h):Al K cl bF H' o h:=by
 cases o with
 | lst ds=>obtain⟨xs,e,q⟩:=r;exact⟨xs,e,q.bc p.bc⟩
 | dct aC=>obtain⟨ys,e,e2,q⟩:=r;exact⟨ys,e,e2,q.bc p.bc⟩
 | dcT aC=>obtain⟨ys,e,e2,q⟩:=r;exact⟨ys,e,e2,q.bc p.bc⟩
 | ins c fs=>obtain⟨dx,ys,e,e2,q⟩:=r;exact⟨dx,ys,e,e2,q.pw p⟩
 | jn=>exact r
 | exc c=>exact r
theorem Al.some{K:W.Frag}{cl:Wv}{o:SO}{h:Option HO}(r:Al K cl ρ H o h):∃u,h=some u:=by
 cases o with
 | lst ds=>obtain⟨xs,e,q⟩:=r;exact⟨_,e⟩
 | dct aC=>obtain⟨ys,e,e2,q⟩:=r;exact⟨_,e⟩
 | dcT aC=>obtain⟨ys,e,e2,q⟩:=r;exact⟨_,e⟩
 | ins c fs=>obtain⟨dx,ys,e,e2,q⟩:=r;exact⟨_,e⟩
 | jn=>exact r
 | exc c=>obtain⟨b,e⟩:=r;exact⟨_,e⟩
structure SW (K:W.Frag) (cl:Wv) (ρ:P3) (H:Hp) (S:aZ):Prop where
 len:ρ.r.length=S.length
 nd:∀(i j:Nat) (a:Addr),ρ.r[i]? =some a->ρ.r[j]? =some a->i=j
 ob:∀(k:Nat) (a:Addr) (o:SO),ρ.r[k]? =some a->S[k]? =some o->Al K cl ρ H o (H a)
 zb:∀b∈ρ.z,(∃xs,H b=some (.lst xs))/\b ∉ ρ.r
 fz:∀(k:Nat) (a:Addr),ρ.r[k]? =some a->S[k]?≠some .jn->a ∉ ρ.f
 ff:∀a∈ρ.f,∃o,H a=some o
 fi:∀(k:Nat) (a:Addr),ρ.r[k]? =some a->S[k]? =some .jn->a∈ρ.f
theorem SW.rs{K:W.Frag}{cl:Wv}{ρ:P3}{H:Hp}{S:aZ}(w:SW K cl ρ H S):∀a∈ρ.r,∃o,H a=some o:=fun a z=>by
 obtain⟨k,hk⟩:=List.getElem?_of_mem z;have hl:=(List.getElem?_eq_some_iff.mp hk).1;exact(w.ob k a _ hk (List.getElem?_eq_getElem (by rw[<-w.len];exact hl))).some
theorem SW.bs{K:W.Frag}{cl:Wv}{ρ:P3}{H:Hp}{S:aZ}(w:SW K cl ρ H S):∀a∈ρ.b,∃o,H a=some o:=fun a ha=>by
 rcases P3.c8.mp ha with z | z
 .exact w.rs a z.1
 .obtain⟨xs,h⟩:=(w.zb a z).1;exact⟨_,h⟩
theorem SW.same{K:W.Frag}{cl:Wv}{S:aZ}(w:SW K cl ρ H S)(s:aU H H'):SW K cl ρ H' S:=
 ⟨w.len,w.nd,fun k a o h1 h2=>by
   have r:=w.ob k a o h1 h2;obtain⟨u,hu⟩:=r.some;rw[s a u hu,<-hu];exact r.pre (Pre.same s),fun b hb=>let⟨⟨o,ho⟩,n⟩:=w.zb b hb;⟨⟨o,s b _ ho⟩,n⟩,w.fz,fun a ha=>let⟨o,ho⟩:=w.ff a ha;⟨o,s a o ho⟩,w.fi⟩
theorem P3.mem_push{ρ:P3}{a b:Addr}(h:b∈(ρ.push a).b):b∈ρ.b\/b=a:=by
 rcases P3.c8.mp h with⟨z,n⟩ | z
 .rcases List.mem_append.mp z with y | y
  .exact .inl (P3.c8.mpr (.inl ⟨y,n⟩))
  .exact .inr (List.mem_singleton.mp y)
 .exact .inl (P3.c8.mpr (.inr z))
theorem SW.new{K:W.Frag}{cl:Wv}{ρ:P3}{H H':Hp}{S:aZ}(w:SW K cl ρ H S){a:Addr}{o:SO}(s:aU H H')(n:H a=none)(r:Al K cl (ρ.push a) H' o (H' a))(y0:o≠SO.jn:=by intro h;cases h) :
 SW K cl (ρ.push a) H' (S++[o])/\Pre ρ H (ρ.push a) H':=by
 have na:a ∉ ρ.b:=fun ha=>by obtain⟨o,ho⟩:=w.bs a ha;rw [n] at ho;cases ho
 have nr:a ∉ ρ.r:=fun ha=>by obtain⟨o,ho⟩:=w.rs a ha;rw [n] at ho;cases ho
 have nf:a ∉ ρ.f:=fun ha=>by obtain⟨o,ho⟩:=w.ff a ha;rw [n] at ho;cases ho
 have p:Pre ρ H (ρ.push a) H':=⟨fun b u e nb=>⟨s b u e,fun hb=>by
  rcases P3.mem_push hb with z | z
  .exact nb z
  .subst z;rw [n] at e;cases e⟩,rfl,fun b o _ h=>s b o h,fun k x hx=>by
   show(ρ.r++[a])[k]? =_;rw[List.getElem?_append_left (List.getElem?_eq_some_iff.mp hx).1];exact hx⟩
 have last:∀(i:Nat) (b:Addr),(ρ.push a).r[i]? =some b->(i < ρ.r.length/\ρ.r[i]? =some b)\/(i=ρ.r.length/\b=a):=fun i b h=>by
  have h:(ρ.r++[a])[i]? =some b:=h;by_cases q:i < ρ.r.length
  .rw [List.getElem?_append_left q] at h;exact .inl ⟨q,h⟩
  .rw [List.getElem?_append_right (by omega)] at h
   have h0:i - ρ.r.length=0:=by
    have:=(List.getElem?_eq_some_iff.mp h).1;simp at this;omega
   rw[h0] at h;cases h;exact .inr ⟨by omega,rfl⟩
 refine⟨⟨by show(ρ.r++[a]).length=_;rw [List.length_append,List.length_append,w.len];rfl,fun i j b hi hj=>?_,fun k b u hk hu=>?_,fun b hb=>?_,fun k b hk hu=>?_,fun b hb=>?_,fun k b hk hu=>?_⟩,p⟩
 .rcases last i b hi with⟨q1,q2⟩ | ⟨q1,rfl⟩
  .rcases last j b hj with⟨z1,z2⟩ | ⟨z1,rfl⟩
   .exact w.nd i j b q2 z2
   .exact absurd (List.mem_of_getElem? q2) nr
  .rcases last j b hj with⟨z1,z2⟩ | ⟨z1,z3⟩
   .exact absurd (List.mem_of_getElem? z2) nr
   .omega
 .rcases last k b hk with⟨q1,q2⟩ | ⟨q1,rfl⟩
  .rw [List.getElem?_append_left (by rw[<-w.len];exact q1)] at hu
   have r0:=w.ob k b u q2 hu;obtain⟨x,hx⟩:=r0.some;rw[s b x hx,<-hx];exact r0.pre p
  .rw [List.getElem?_append_right (by rw[<-w.len];omega),q1,w.len,Nat.sub_self] at hu
   cases hu;exact r
 .obtain⟨⟨o,ho⟩,nb⟩:=w.zb b hb;refine⟨⟨o,s b _ ho⟩,fun h=>?_⟩
  rcases List.mem_append.mp h with y | y
  .exact nb y
  .rw [List.mem_singleton] at y;subst y;rw [n] at ho;cases ho
 .rcases last k b hk with⟨q1,q2⟩ | ⟨q1,rfl⟩
  .rw [List.getElem?_append_left (by rw[<-w.len];exact q1)] at hu
   exact w.fz k b q2 hu
  .exact nf
 .obtain⟨o,ho⟩:=w.ff b hb;exact⟨o,s b o ho⟩
 .rcases last k b hk with⟨q1,q2⟩ | ⟨q1,rfl⟩
  .rw [List.getElem?_append_left (by rw[<-w.len];exact q1)] at hu
   exact w.fi k b q2 hu
  .rw [List.getElem?_append_right (by rw[<-w.len];omega),q1,w.len,Nat.sub_self] at hu
   cases hu;exact absurd rfl y0
theorem SW.put{K:W.Frag}{cl:Wv}{ρ:P3}{S:aZ}(w:SW K cl ρ H S){k:Nat}{a:Addr}{o:SO}{u:HO}(hk:ρ.r[k]? =some a)(hf:a ∉ ρ.f)(r:Al K cl ρ H o (some u))(y0:o≠SO.jn:=by intro h;cases h) :
 SW K cl ρ (upd H a u) (S.set k o)/\Pre ρ H ρ (upd H a u):=by
 have ha:a∈ρ.r:=List.mem_of_getElem? hk;have hb:a∈ρ.b:=P3.c8.mpr (.inl ⟨ha,hf⟩);have nz:∀b∈ρ.z,b≠a:=fun b hb z=>(w.zb b hb).2 (by rw[z];exact ha)
 have p:Pre ρ H ρ (upd H a u):=⟨fun b x e nb=>⟨by rw[bf (fun(z:b=a)=>nb (by rw[z];exact hb))];exact e,nb⟩,rfl,fun b o hb h=>by rw[bf (nz b hb)];exact h,fun _ _ h=>h⟩
 have hl:k < S.length:=by rw[<-w.len];exact(List.getElem?_eq_some_iff.mp hk).1
 refine⟨⟨by rw[List.length_set];exact w.len,w.nd,fun j b x hj hx=>?_,fun b hb=>?_,fun j b hj hx=>?_,fun b hb=>?_,fun j b hj hx=>?_⟩,p⟩
 .by_cases q:k=j
  .subst q;rw[hk] at hj;cases hj;rw[List.getElem?_set_self hl] at hx;cases hx;rw[a_];exact r.pre p
  .rw [List.getElem?_set_ne q] at hx;have ne:b≠a:=fun z=>by subst z;exact q (w.nd k j b hk hj)
   rw[bf ne];exact(w.ob j b x hj hx).pre p
 .obtain⟨⟨o,ho⟩,nb⟩:=w.zb b hb;exact⟨⟨o,by rw[bf (nz b hb)];exact ho⟩,nb⟩
 .by_cases q:k=j
  .subst q;rw[hk] at hj;cases hj;exact hf
  .rw [List.getElem?_set_ne q] at hx;exact w.fz j b hj hx
 .obtain⟨o,ho⟩:=w.ff b hb;exact⟨o,by rw[bf (fun z=>hf (by rw[<-z];exact hb))];exact ho⟩
 .by_cases q:k=j
  .subst q;rw[List.getElem?_set_self hl] at hx;cases hx;exact absurd rfl y0
  .rw [List.getElem?_set_ne q] at hx;exact w.fi j b hj hx
theorem SW.jn{K:W.Frag}{cl:Wv}{ρ:P3}{S:aZ}(w:SW K cl ρ H S){k:Nat}{a:Addr}{ds:List D}(hk:ρ.r[k]? =some a)(hS:S[k]? =some (.lst ds)) :
 SW K cl ⟨ρ.r,ρ.z,a ::ρ.f⟩ H (S.set k .jn)/\Pre ρ H ⟨ρ.r,ρ.z,a ::ρ.f⟩ H/\Rep K (⟨ρ.r,ρ.z,a ::ρ.f⟩:P3).b H (.lst ds) (.ref a):=by
 have hl:k < S.length:=by rw[<-w.len];exact(List.getElem?_eq_some_iff.mp hk).1
 have sub:∀b,b∈(⟨ρ.r,ρ.z,a ::ρ.f⟩:P3).b->b∈ρ.b:=fun b hb=>by
  rcases P3.c8.mp hb with⟨z,n⟩ | z
  .exact P3.c8.mpr (.inl ⟨z,fun h=>n (List.mem_cons_of_mem _ h)⟩)
  .exact P3.c8.mpr (.inr z)
 have p:Pre ρ H ⟨ρ.r,ρ.z,a ::ρ.f⟩ H:=⟨fun b o e nb=>⟨e,fun hb=>nb (sub b hb)⟩,rfl,fun _ _ _ h=>h,fun _ _ h=>h⟩
 obtain⟨xs,e1,r1⟩:=w.ob k a _ hk hS;refine⟨⟨by rw[List.length_set];exact w.len,w.nd,fun j b x hj hx=>?_,w.zb,fun j b hj hx=>?_,fun b hb=>?_,fun j b hj hx=>?_⟩,p,?_⟩
 .by_cases q:k=j
  .subst q;rw[List.getElem?_set_self hl] at hx;cases hx;rw[hk] at hj;cases hj;exact⟨_,e1⟩
  .rw [List.getElem?_set_ne q] at hx;exact(w.ob j b x hj hx).pre p
 .by_cases q:k=j
  .subst q;rw[List.getElem?_set_self hl] at hx;exact absurd rfl hx
  .rw [List.getElem?_set_ne q] at hx;intro h;rcases List.mem_cons.mp h with z | z
   .subst z;exact q (w.nd k j b hk hj)
   .exact w.fz j b hj hx z
 .rcases List.mem_cons.mp hb with z | z
  .subst z;exact⟨_,e1⟩
  .exact w.ff b z
 .by_cases q:k=j
  .subst q;rw[hk] at hj;cases hj;exact List.mem_cons_self
  .rw [List.getElem?_set_ne q] at hx;exact List.mem_cons_of_mem _ (w.fi j b hj hx)
 .refine Rep.lst.mpr ⟨a,xs,rfl, .inl ⟨fun hb=>?_, .inl e1⟩,r1.bc p.bc⟩
  rcases P3.c8.mp hb with⟨_,n⟩ | z
  .exact n List.mem_cons_self
  .exact(w.zb a z).2 (List.mem_of_getElem? hk)
mutual
def xb:D->Bool
 | .lst _=>false
 | .dct _ _=>false
 | .tup ds=>uU ds
 | _=>true
def uU:List D->Bool
 | []=>true
 | d ::ds=>xb d && uU ds
end
mutual
theorem Rep.yn{K:W.Frag}{B:List Addr}(hB:∀b∈B,∀xs,¬Rd H b (.tup xs)):∀{d:D} {v:V},xb d=true->Rep K [] H d v->Rep K B H d v
 | .cI,v,_,r=>Rep.cI.mpr (Rep.cI.mp r)
 | .bl _,v,_,r=>Rep.bl.mpr (Rep.bl.mp r)
 | .int _,v,_,r=>Rep.int.mpr (Rep.int.mp r)
 | .str _,v,_,r=>Rep.str.mpr (Rep.str.mp r)
 | .lst _,v,h,_=>by unfold xb at h;cases h
 | .dct _ _,v,h,_=>by unfold xb at h;cases h
 | .tup ds,v,h,r=>by
   unfold xb at h;obtain⟨a,xs,rfl,l,rs⟩:=Rep.tup.mp r;exact Rep.tup.mpr ⟨a,xs,rfl,l.elim (fun z=> .inl ⟨fun hb=>hB a hb xs z.2,z.2⟩) .inr,aD.yn hB h rs⟩
theorem aD.yn{K:W.Frag}{B:List Addr}(hB:∀b∈B,∀xs,¬Rd H b (.tup xs)):∀{ds:List D} {vs:List V},uU ds=true->aD K [] H ds vs->aD K B H ds vs
 | [],_,_,r=>by unfold aD at r;subst r;exact aD.nil
 | d ::ds,vs,h,r=>by
   unfold uU at h;obtain⟨h1,h2⟩:=Bool.and_eq_true_iff.mp h;obtain⟨x,xs,rfl,r1,r2⟩:=r.b9;exact aD.cons (Rep.yn hB h1 r1) (aD.yn hB h2 r2)
end
abbrev DE:=List (Option V3)
structure dt (K:W.Frag) (cl:Wv) (ρ:P3) (H:Hp) (S:aZ) (σ:L2.St) (δ:DE):Prop where
 len:δ.length=σ.length
 sw:SW K cl ρ H S
 val:∀(i:Nat) (d:V3),δ[i]? =some (some d)->∃v,σ[i]? =some (some v)/\bq K ρ H d v
theorem dt.to{K:W.Frag}{cl:Wv}{S S':aZ}{σ:L2.St}{δ:DE}(E:dt K cl ρ H S σ δ)(p:Pre ρ H bF H')(w:SW K cl bF H' S'):dt K cl bF H' S' σ δ:=
 ⟨E.len,w,fun i d e=>let⟨v,h1,h2⟩:=E.val i d e;⟨v,h1,h2.pre p⟩⟩
theorem dt.set{K:W.Frag}{cl:Wv}{S:aZ}{σ:L2.St}{δ:DE}(E:dt K cl ρ H S σ δ){i:Nat}{d:V3}{v:V}(hi:i < σ.length)(r:bq K ρ H d v):dt K cl ρ H S (σ.set i (some v)) (δ.set i (some d)):=
 ⟨by rw[List.length_set,List.length_set];exact E.len,E.sw,fun j d' e=>by
   by_cases h:i=j
   .subst h;rw[List.getElem?_set_self (by rw[E.len];exact hi)] at e
    cases e;exact⟨v,List.getElem?_set_self hi,r⟩
   .rw [List.getElem?_set_ne h] at e ⊢;exact E.val j d' e⟩
def down(δ:DE):au:=δ.map fun x=>match x with | some (.d d)=> .val d | _=> .un
theorem dt.down{K:W.Frag}{cl:Wv}{ρ:P3}{S:aZ}{σ:L2.St}{δ:DE}(E:dt K cl ρ H S σ δ):df K [] ρ.b H σ (down δ) where
 len:=by unfold L3.down;rw [List.length_map];exact E.len
 bs:=E.sw.bs
 zb:=fun a ha=>by cases ha
 val:=fun i d e=>by
  unfold L3.down at e;rw[List.getElem?_map] at e;cases q:δ[i]? with
  | none=>rw [q] at e;cases e
  | some x=>
    rw[q] at e
    match x,e,q with
    | some (.d y),e,q=>
      cases e;obtain⟨v,h1,h2⟩:=E.val i _ q;unfold bq at h2;exact⟨v,h1,h2⟩
    | some (.loc k),e,q=>cases e
    | some (.lst k),e,q=>cases e
    | some (.tup k),e,q=>cases e
    | none,e,q=>cases e
 bld:=fun i ds e=>by
  unfold L3.down at e;rw[List.getElem?_map] at e;cases q:δ[i]? with
  | none=>rw [q] at e;cases e
  | some x=>
    rw[q] at e
    match x,e with
    | some (.d y),e=>cases e
    | some (.loc k),e=>cases e
    | some (.lst k),e=>cases e
    | some (.tup k),e=>cases e
    | none,e=>cases e
 dis:=fun i j a ds es e=>by
  unfold L3.down at e;rw[List.getElem?_map] at e;cases q:δ[i]? with
  | none=>rw [q] at e;cases e
  | some x=>
    rw[q] at e
    match x,e with
    | some (.d y),e=>cases e
    | some (.loc k),e=>cases e
    | some (.lst k),e=>cases e
    | some (.tup k),e=>cases e
    | none,e=>cases e
mutual
def res(S:aZ):V3->Option D
 | .d x=>some x
 | .loc k=>(match S[k]? with | some (.lst ds)=>some (.lst ds) | some (.dct aC)=>some (.dct (aC.map (·.1)) (aC.map (·.2))) | _=>none)
 | .lst vs=>(xq S vs).map D.lst
 | .tup vs=>(xq S vs).map D.tup
 | .fn _=>none
def xq(S:aZ):List V3->Option (List D)
 | []=>some []
 | v ::vs=>(res S v).bind fun d=>(xq S vs).map (d ::·)
end
def ib(S:aZ)(δ:DE):au:=δ.map fun x=>match x with | some v=>(match res S v with | some d=> .val d | none=> .un) | none=> .un
theorem dN{α β:Type}{o:Option α}{f:α->β}{b:β}(h:o.map f=some b):∃a,o=some a/\f a=b:=by
 cases o with
 | none=>cases h
 | some a=>cases h;exact⟨a,rfl,rfl⟩
theorem xm{α β:Type}{o:Option α}{f:α->Option β}{b:β}(h:o.bind f=some b):∃a,o=some a/\f a=some b:=by
 cases o with
 | none=>cases h
 | some a=>exact⟨a,rfl,h⟩
mutual
def i5(n:Nat):V3->Bool
 | .d _=>true
 | .loc k=>decide (n<=k)
 | .lst vs=>oS n vs
 | .tup vs=>oS n vs
 | .fn _=>true
def oS(n:Nat):List V3->Bool
 | []=>true
 | v ::vs=>i5 n v && oS n vs
end
mutual
theorem bq.resB{K:W.Frag}{cl:Wv}{ρ:P3}{S:aZ}{B':List Addr}{n:Nat}(w:SW K cl ρ H S)(p:cX ρ.b H B' H)(hn:∀(k:Nat) (a:Addr),n<=k->ρ.r[k]? =some a->a ∉ B'):∀{v:V3} {d:D} {x:V},i5 n v=true->res S v=some d->bq K ρ H v x->Rep K B' H d x
 | .d y,d,x,_,h,r=>by unfold L3.res at h;cases h;unfold bq at r;exact r.bc p
 | .fn y,d,x,_,h,r=>by unfold L3.res at h;cases h
 | .loc k,d,x,g,h,r=>by
   unfold L3.res at h;unfold bq at r;unfold i5 at g;obtain⟨a,h1,rfl⟩:=r;split at h
   .rename_i ds e;cases h;obtain⟨xs,e2,q⟩:=w.ob k a _ h1 e;unfold Rep;exact⟨a,xs,rfl, .inl ⟨hn k a (of_decide_eq_true g) h1, .inl e2⟩,q.bc p⟩
   .rename_i aC e;cases h;obtain⟨ys,e2,e3,q⟩:=w.ob k a _ h1 e;unfold Rep;exact⟨a,ys,rfl,⟨hn k a (of_decide_eq_true g) h1,e2⟩,e3,q.bc p⟩
   .cases h
 | .lst vs,d,x,g,h,r=>by
   unfold L3.res at h;unfold i5 at g;obtain⟨ds,e,rfl⟩:=dN h;unfold bq at r;obtain⟨a,xs,rfl,l,r⟩:=r;unfold Rep;exact⟨a,xs,rfl,l.bc p,aL.resB w p hn g e r⟩
 | .tup vs,d,x,g,h,r=>by
   unfold L3.res at h;unfold i5 at g;obtain⟨ds,e,rfl⟩:=dN h;unfold bq at r;obtain⟨a,xs,rfl,l,r⟩:=r;unfold Rep;exact⟨a,xs,rfl,xf.bc p l,aL.resB w p hn g e r⟩
theorem aL.resB{K:W.Frag}{cl:Wv}{ρ:P3}{S:aZ}{B':List Addr}{n:Nat}(w:SW K cl ρ H S)(p:cX ρ.b H B' H)(hn:∀(k:Nat) (a:Addr),n<=k->ρ.r[k]? =some a->a ∉ B'):∀{vs:List V3} {ds:List D} {xs:List V},oS n vs=true->xq S vs=some ds->aL K ρ H vs xs->aD K B' H ds xs
 | [],ds,xs,_,h,r=>by unfold xq at h;cases h;unfold aL at r;subst r;exact aD.nil
 | v ::vs,ds,xs,g,h,r=>by
   unfold xq at h;unfold oS at g;obtain⟨g1,g2⟩:=Bool.and_eq_true_iff.mp g;obtain⟨d,e1,h2⟩:=xm h;obtain⟨es,e2,rfl⟩:=dN h2;obtain⟨y,ys,rfl,r1,r2⟩:=r.b9;exact aD.cons (bq.resB w p hn g1 e1 r1) (aL.resB w p hn g2 e2 r2)
end
mutual
theorem sd:∀v:V3,i5 0 v=true
 | .d _=>by unfold i5;rfl
 | .loc k=>by unfold i5;exact decide_eq_true (Nat.zero_le _)
 | .lst vs=>by unfold i5;exact mM vs
 | .tup vs=>by unfold i5;exact mM vs
 | .fn _=>by unfold i5;rfl
theorem mM:∀vs:List V3,oS 0 vs=true
 | []=>by unfold oS;rfl
 | v ::vs=>by unfold oS;rw [sd v,mM vs];rfl
end
theorem bq.res{K:W.Frag}{cl:Wv}{S:aZ}(w:SW K cl ρ H S){v:V3}{d:D}{x:V}(h:res S v=some d)(r:bq K ρ H v x):Rep K [] H d x:=
 r.resB w (fun b o e _=>⟨e,by simp⟩) (n:=0) (fun _ _ _ _=>by simp) (sd v) h
theorem oB{S:aZ}{δ:DE}{i:Nat}{y:Sl}(e:(ib S δ)[i]? =some y):(∃v d,δ[i]? =some (some v)/\res S v=some d/\y= .val d)\/y= .un:=by
 unfold ib at e;rw[List.getElem?_map] at e;cases q:δ[i]? with
 | none=>rw [q] at e;cases e
 | some x=>
   rw[q] at e;cases x with
   | none=>cases e;exact .inr rfl
   | some v=>
     cases z:res S v with
     | none=>
       have e:some (match res S v with | some d=>Sl.val d | none=> .un)=some y:=e
       rw[z] at e;cases e;exact .inr rfl
     | some d=>
       have e:some (match res S v with | some d=>Sl.val d | none=> .un)=some y:=e
       rw[z] at e;cases e;exact .inl ⟨v,d,rfl,z,rfl⟩
theorem dt.ib{K:W.Frag}{cl:Wv}{S:aZ}{σ:L2.St}{δ:DE}(E:dt K cl ρ H S σ δ):df K [] [] H σ (ib S δ) where
 len:=by unfold L3.ib;rw [List.length_map];exact E.len
 bs:=fun a ha=>by cases ha
 zb:=fun a ha=>by cases ha
 val:=fun i d e=>by
  rcases oB e with⟨v,d',h1,h2,h3⟩ | h
  .cases h3;obtain⟨x,q1,q2⟩:=E.val i v h1;exact⟨x,q1,q2.res E.sw h2⟩
  .cases h
 bld:=fun i ds e=>by
  rcases oB e with⟨v,d',h1,h2,h3⟩ | h
  .cases h3
  .cases h
 dis:=fun i j a ds es e=>by
  rcases oB e with⟨v,d',h1,h2,h3⟩ | h
  .cases h3
  .cases h
abbrev FX:=DE->aZ->R3 V3
abbrev FB:=DE->aZ->R3 Bool
abbrev FA:=DE->aZ->R3 (List V3)
def tX(K:W.Frag)(cl:Wv)(f:FX):TE:=fun σ H Q=>∃ρ S δ v S',dt K cl ρ H S σ δ/\f δ S= .ok v S'/\∀u bF H',Pre ρ H bF H'->SW K cl bF H' S'->bq K bF H' v u->Q u H'
def G3(K:W.Frag)(cl:Wv)(f:FB):TT:=fun σ H Q=>∃ρ S δ b S',dt K cl ρ H S σ δ/\f δ S= .ok b S'/\∀bF H',Pre ρ H bF H'->SW K cl bF H' S'->Q b H'
def Sq(K:W.Frag)(cl:Wv)(f:FA):TA:=fun σ H Q=>∃ρ S δ vs S',dt K cl ρ H S σ δ/\f δ S= .ok vs S'/\∀us bF H',Pre ρ H bF H'->SW K cl bF H' S'->aL K bF H' vs us->Q us H'
structure PX (X:Cx) (cl:Wv) (e:Expr) (f:FX):Prop where
 go:PE X e (tX X.K cl f)
structure JG (X:Cx) (cl:Wv) (e:Expr) (f:FB):Prop where
 go:PT X e (G3 X.K cl f)
structure JM (X:Cx) (cl:Wv) (es:List Expr) (f:FA):Prop where
 go:PA X es (Sq X.K cl f)
section
variable {X:Cx} {cl:Wv}
def xP(f:FD):FX:=fun δ S=>(R3.of (f (down δ)) S).bind fun d S=> .ok (.d d) S
theorem az(h:QD X e f):PX X cl e (xP f):=⟨h.1.imp fun σ H Q ⟨ρ,S,δ,v,S',E,hf,q⟩=>by
 obtain⟨d,S1,h1,h2⟩:=R3.aj hf;obtain⟨h3,e3⟩:=R3.of_ok h1;cases h2;subst e3;exact⟨[],ρ.b,down δ,d,E.down,h3,fun v H' s r=>q v ρ H' (Pre.same s) (E.sw.same s) (by unfold bq;exact r)⟩⟩
def xT(f:FD):FX:=fun δ S=>(R3.of (f (ib S δ)) S).bind fun d S=>R3.aS (xb d) (.ok (.d d) S)
def bP(f:au->R Bool):FB:=fun δ S=>R3.of (f (down δ)) S
theorem dj{f:au->R Bool}(h:QB X e f):JG X cl e (bP f):=⟨h.1.imp fun σ H Q ⟨ρ,S,δ,v,S',E,hf,q⟩=>by
 obtain⟨h1,e3⟩:=R3.of_ok hf;subst e3;exact⟨[],ρ.b,down δ,v,E.down,h1,fun H' s=>q ρ H' (Pre.same s) (E.sw.same s)⟩⟩
def bT(f:au->R Bool):FB:=fun δ S=>R3.of (f (ib S δ)) S
theorem u_{f:au->R Bool}(h:QB X e f):JG X cl e (bT f):=⟨h.1.imp fun σ H Q ⟨ρ,S,δ,v,S',E,hf,q⟩=>by
 obtain⟨h1,e3⟩:=R3.of_ok hf;subst e3;exact⟨[],[],ib _ δ,v,E.ib,h1,fun H' s=>q ρ H' (Pre.same s) (E.sw.same s)⟩⟩
def iF(i:Nat):FX:=fun δ S=>match δ[i]? with | some (some v)=> .ok v S | _=> .no
theorem dD(i:Nat){x:Str}{pos:Pos}(hN:X.N[i]? =some x:=by rfl)(hv:DA X.env.scope x:=by first | exact Or.inl rfl | exact Or.inr (Or.inl rfl) | exact Or.inr (Or.inr rfl))(hd:(x==("__debug__":Str))=false:=by decide)
 (px:(x==("__classdict__":Str))=false:=by decide):PX X cl (.Name x pos) (iF i):=⟨(qY hN hv hd px).imp fun σ H Q ⟨ρ,S,δ,v,S',E,hf,q⟩=>by
 unfold iF at hf;split at hf
 .rename_i d' e;cases hf;obtain⟨u,h1,h2⟩:=E.val i _ e;exact⟨u,h1,q u ρ H (Pre.refl ρ H) E.sw h2⟩
 .cases hf⟩
def Bz(f:au->R (List D)):FX:=fun δ S=>(R3.of (f (down δ)) S).bind fun ds S=> .ok (.loc S.length) (S++[.lst ds])
theorem wz{f:au->R (List D)}(h:QN X e f):PX X cl e (Bz f):=⟨h.1.imp fun σ H Q ⟨ρ,S,δ,v,S',E,hf,q⟩=>by
 obtain⟨ds,S1,h1,h2⟩:=R3.aj hf;obtain⟨h3,e3⟩:=R3.of_ok h1;cases h2;subst e3;refine⟨[],ρ.b,down δ,ds,E.down,h3,fun a xs H' s n e r=>?_⟩
 have r':aD X.K (ρ.push a).b H' ds xs:=r.bc fun b o e nb=>⟨e,fun hb=>nb (by
  rcases P3.mem_push hb with z | z
  .exact List.mem_cons_of_mem _ z
  .subst z;exact List.mem_cons_self)⟩
 obtain⟨w,p⟩:=E.sw.new (o:= .lst ds) s n ⟨xs,e,r'⟩;exact q _ _ H' p w (by unfold bq;exact⟨a,by show(ρ.r++[a])[_]? =_;rw [<-E.sw.len,List.getElem?_append_right (by omega),Nat.sub_self];rfl,rfl⟩)⟩
end
end L3
end
section
namespace L3
open PySem PySem.Spec PyProof.Rows L2
section
variable {X:Cx} {cl:Wv}
def fK:FA:=fun _ S=> .ok [] S
def bp(f:FX)(g:FA):FA:=fun δ S=>(f δ S).bind fun v S1=>(g δ S1).bind fun vs S2=> .ok (v ::vs) S2
theorem cG:JM X cl [] fK:=⟨iW.imp fun σ H Q ⟨ρ,S,δ,v,S',E,hf,q⟩=>by
 cases hf;exact q [] ρ H (Pre.refl ρ H) E.sw aL.nil⟩
theorem aN(h:PX X cl e f)(t:JM X cl es g)(hs:starEach (e ::es) X.env=(false,eval e X.env) ::starEach es X.env:=by rfl):JM X cl (e ::es) (bp f g):=
 ⟨(eE h.1 t.1 hs).imp fun σ H Q ⟨ρ,S,δ,v,S',E,hf,q⟩=>by
   obtain⟨v1,S1,h1,h2⟩:=R3.aj hf;obtain⟨vs,S2,h3,h4⟩:=R3.aj h2;cases h4;exact⟨ρ,S,δ,v1,S1,E,h1,fun u cb H1 p1 w1 r1=>⟨cb,S1,δ,vs,_,E.to p1 w1,h3,fun us wm H2 p2 w2 r2=>q _ wm H2 (p1.trans p2) w2 (aL.cons (r1.pre p2) r2)⟩⟩⟩
def m6:List V3->Option (List D)
 | []=>some []
 | .d x ::r=>(m6 r).map (x ::·)
 | _ ::_=>none
theorem se:∀{vs:List V3} {ds:List D},m6 vs=some ds->vs=ds.map .d
 | [],ds,h=>by cases h;rfl
 | .d x ::r,ds,h=>by
   cases e:m6 r with
   | none=>have h:(m6 r).map (x ::·)=some ds:=h;rw [e] at h;cases h
   | some es=>
     have h:(m6 r).map (x ::·)=some ds:=h
     rw[e] at h;cases h;rw[se e];rfl
 | .loc _ ::_,_,h=>by cases h
 | .lst _ ::_,_,h=>by cases h
 | .tup _ ::_,_,h=>by cases h
 | .fn _ ::_,_,h=>by cases h
theorem vn:∀ds:List D,m6 (ds.map .d)=some ds
 | []=>rfl
 | d ::ds=>by show(m6 (ds.map .d)).map (d ::·)=_;rw [vn ds];rfl
def Lk(vs:List V3):V3:=match m6 vs with | some ds=> .d (.tup ds) | none=> .tup vs
def pZ(vs:List V3):V3:=match m6 vs with | some ds=> .d (.lst ds) | none=> .lst vs
def SE(g:FA):FX:=fun δ S=>(g δ S).bind fun vs S=>R3.aS (decide (vs.length<=sizeLine)) (.ok (Lk vs) S)
theorem xZ{H:Hp}{p:Addr}{o:HO}(hp:H p=none):Pre ρ H ρ (upd H p o):=Pre.same (bg hp)
theorem sS{K:W.Frag}{ρ:P3}{vs:List V3}{xs:List V}{a:Addr}(l:sW K ρ.b H a xs)(r:aL K ρ H vs xs):bq K ρ H (pZ vs) (.ref a):=by
 unfold pZ;split
 .rename_i ds e;rw[se e] at r;unfold bq Rep;exact⟨a,xs,rfl,l,r.to⟩
 .unfold bq;exact⟨a,xs,rfl,l,r⟩
def ze(g:FA):FX:=fun δ S=>(g δ S).bind fun vs S=>R3.aS (decide (vs.length<=sizeLine)) (.ok (pZ vs) S)
theorem t9{pos}(h:JM X cl es g):PX X cl (.List es pos) (ze g):=⟨(Bm h.1).imp fun σ H Q ⟨ρ,S,δ,v,S',E,hf,q⟩=>by
 obtain⟨vs,S1,h1,h2⟩:=R3.aj hf;obtain⟨hl,h3⟩:=R3.aX h2;cases h3;refine⟨ρ,S,δ,vs,_,E,h1,fun us cb H1 p1 w1 r1=>⟨by rw[<-r1.length];exact of_decide_eq_true hl,fun p hp=>q _ cb _ (p1.trans (xZ hp)) (w1.same (bg hp)) ?_⟩⟩
 refine sS (.inl ⟨fun ha=>?_, .inl a_⟩) (r1.pre (xZ hp))
 obtain⟨o,ho⟩:=w1.bs p ha;rw[hp] at ho;cases ho⟩
def x2(g:D->D->R D)(fa fb:FX):FX:=fun δ S=>(fa δ S).bind fun a S1=>(fb δ S1).bind fun b S2=>match a,b with
 | .d x, .d y=>(R3.of (g x y) S2).bind fun d S=> .ok (.d d) S
 | _,_=> .no
theorem KP{K:W.Frag}{g:D->D->R D}{σ:L2.St}{Q:VK}(h:tX K cl (x2 g fa fb) σ H Q) :
 JE (fun x y H Q=>∃B da db d,(∀a∈B,∃o,H a=some o)/\Rep K B H da x/\Rep K B H db y/\g da db= .ok d/\∀z H',aU H H'->Rep K B H' d z->Q z H') (tX K cl fa) (tX K cl fb) σ H Q:=by
 obtain⟨ρ,S,δ,v,S',E,hf,q⟩:=h;obtain⟨a,S1,h1,h2⟩:=R3.aj hf;obtain⟨b,S2,h3,h4⟩:=R3.aj h2
 match a,b,h1,h3,h4 with
 | .d x, .d y,h1,h3,h4=>
   obtain⟨d,S3,h5,h6⟩:=R3.aj h4;obtain⟨h7,e⟩:=R3.of_ok h5;cases h6;subst e;refine⟨ρ,S,δ, .d x,S1,E,h1,fun u1 cb H1 p1 w1 r1=>⟨cb,S1,δ, .d y,_,E.to p1 w1,h3,fun u2 wm H2 p2 w2 r2=>?_⟩⟩
   have Ah:=r1.pre p2;unfold bq at Ah r2;exact⟨wm.b,x,y,d,w2.bs,Ah,r2,h7,fun z H' s r=>q z wm H' (p1.trans (p2.trans (Pre.same s))) (w2.same s) (by unfold bq;exact r)⟩
 | .d x, .loc _,_,_,h4=>cases h4
 | .d x, .lst _,_,_,h4=>cases h4
 | .d x, .tup _,_,_,h4=>cases h4
 | .d x, .fn _,_,_,h4=>cases h4
 | .loc _,_,_,_,h4=>cases h4
 | .lst _,_,_,_,h4=>cases h4
 | .tup _,_,_,_,h4=>cases h4
 | .fn _,_,_,_,h4=>cases h4
theorem Bx{op:Operator}{g:D->D->R D}(ho:l_ X (binaryOp op) g)(ha:PX X cl a fa)(hb:PX X cl b fb):PX X cl (.BinOp a op b pos) (x2 g fa fb):=
 ⟨(Ct ho.r ha.1 hb.1).imp fun σ H Q h=>KP h⟩
def ME(g:D->D->R D)(fa fb:FX):FB:=fun δ S=>(x2 g fa fb δ S).bind fun v S=>match v with | .d (.bl b)=> .ok b S | _=> .no
theorem Er{op:CmpOp}{g:D->D->R D}(ho:l_ X (compareOp op) g)(ha:PX X cl a fa)(hb:PX X cl b fb)(hm:behindInMarks op b=false):JG X cl (.Compare a [op] [b] pos) (ME g fa fb):=
 ⟨(yh ho.r ha.1 hb.1 hm).imp fun σ H Q ⟨ρ,S,δ,b,S',E,hf,q⟩=>by
   obtain⟨v,S1,h1,h2⟩:=R3.aj hf;have hv:v= .d (.bl b)/\S1=S':=by
    match v,h2 with
    | .d (.bl k),h2=>cases h2;exact⟨rfl,rfl⟩
    | .d .cI,h2=>cases h2
    | .d (.int _),h2=>cases h2
    | .d (.str _),h2=>cases h2
    | .d (.lst _),h2=>cases h2
    | .d (.tup _),h2=>cases h2
    | .d (.dct _ _),h2=>cases h2
    | .loc _,h2=>cases h2
    | .lst _,h2=>cases h2
    | .tup _,h2=>cases h2
    | .fn _,h2=>cases h2
   obtain⟨rfl,rfl⟩:=hv;exact KP (g:=g) (Q:=fun x H'=>∃k,x= .bl k/\Q k H') ⟨ρ,S,δ,_,_,E,h1,fun u bF H' p w r=>⟨b,by unfold bq Rep at r;exact r,q bF H' p w⟩⟩⟩
inductive Ou where
 | nx (δ:DE) | rt (v:V3)
abbrev FZ:=DE->aZ->R3 Ou
def uM(K:W.Frag)(cl:Wv)(ρ:P3)(H:Hp)(D:Ends)(S':aZ):Ou->Prop
 | .nx cT=>∀b8 bF H',Pre ρ H bF H'->dt K cl bF H' S' b8 cT->D.nx b8 H'
 | .rt v=>∀u bF H',Pre ρ H bF H'->SW K cl bF H' S'->bq K bF H' v u->D.rt u H'
theorem uM.pre{K:W.Frag}{D:Ends}{S':aZ}{o:Ou}(q:uM K cl ρ H D S' o)(p:Pre ρ H cb H1):uM K cl cb H1 D S' o:=by
 cases o with
 | nx cT=>exact fun b8 bF H' p' E'=>q b8 bF H' (p.trans p') E'
 | rt d=>exact fun v bF H' p' w r=>q v bF H' (p.trans p') w r
def sX(K:W.Frag)(cl:Wv)(F:FZ):TS:=fun D σ H=>∃ρ S δ o S',dt K cl ρ H S σ δ/\F δ S= .ok o S'/\uM K cl ρ H D S' o
structure PZ (X:Cx) (cl:Wv) (st:Stmt) (F:FZ):Prop where
 go:PS X st (sX X.K cl F)
structure yA (X:Cx) (cl:Wv) (st:List Stmt) (F:FZ):Prop where
 go:sZ X st (sX X.K cl F)
def lB:FZ:=fun δ S=> .ok (.nx δ) S
def bK(F G:FZ):FZ:=fun δ S=>(F δ S).bind fun o S1=>match o with | .nx cT=>G cT S1 | .rt d=> .ok (.rt d) S1
theorem jY:yA X cl [] lB:=⟨tw.imp fun D σ H ⟨ρ,S,δ,o,S',E,hf,q⟩=>by
 cases hf;exact q σ ρ H (Pre.refl ρ H) E⟩
theorem aT{st:Stmt}{rest:List Stmt}(h1:PZ X cl st F)(h2:yA X cl rest G):yA X cl (st ::rest) (bK F G):=⟨(q_ h1.1 h2.1).imp fun D σ H ⟨ρ,S,δ,o,S',E,hf,q⟩=>by
 obtain⟨o1,S1,h1,h2⟩:=R3.aj hf;refine⟨ρ,S,δ,o1,S1,E,h1,?_⟩;cases o1 with
 | nx δ1=>
   intro Js cb H1 p1 E1;exact⟨cb,S1,δ1,o,S',E1,h2,q.pre p1⟩
 | rt d=>
   cases h2;exact q⟩
theorem cm{st:Stmt}(h1:PZ X cl st F):yA X cl [st] F:=⟨t5 h1.1⟩
def cf(i:Nat)(f:FX):FZ:=fun δ S=>(f δ S).bind fun v S=>R3.aS (decide (i < δ.length)) (.ok (.nx (δ.set i (some v))) S)
theorem bJ{i:Nat}{pos pos':Pos}(he:PX X cl e f)(hs:swapsWith e (some (.Name x pos')) pos.line X.env=pure false:=by rfl)(hf:X.fn x=true\/X.env.scope.names.lookup x=some .local:=by first | exact .inl rfl | exact .inr rfl | assumption)(hN:X.N.Nodup:=by first | assumption | exact DQ (by kernel_rfl))(hi:X.N[i]? =some x:=by rfl)(hx:Loc X.env.scope x:=by first | exact Or.inl rfl | exact Or.inr rfl) :
 PZ X cl (.Assign [.Name x pos'] e pos) (cf i f):=⟨(tS hN hi hx he.1 hs hf).imp fun D σ H ⟨ρ,S,δ,o,S',E,hf,q⟩=>by
 obtain⟨v,S1,h1,h2⟩:=R3.aj hf;obtain⟨hi,h3⟩:=R3.aX h2;cases h3;refine⟨ρ,S,δ,v,_,E,h1,fun u cb H1 p1 w1 r1=>?_⟩
 exact q _ cb H1 p1 ((E.to p1 w1).set (by rw[<-E.len];exact of_decide_eq_true hi) r1)⟩
def oV(f:FX):FZ:=fun δ S=>(f δ S).bind fun v S=> .ok (.rt v) S
theorem lA(he:PX X cl e f):PZ X cl (.Return (some e) pos) (oV f):=⟨(Cw he.1).imp fun D σ H ⟨ρ,S,δ,o,S',E,hf,q⟩=>by
 obtain⟨v,S1,h1,h2⟩:=R3.aj hf;cases h2;exact⟨ρ,S,δ,v,_,E,h1,fun u cb H1 p1 w1 r1=>q u cb H1 p1 w1 r1⟩⟩
def uB(c:FB)(F G:FZ):FZ:=fun δ S=>(c δ S).bind fun b S=>if b then F δ S else G δ S
theorem qq(hc:JG X cl c fc)(ha:yA X cl a F)(hb:yA X cl b G):PZ X cl (.If c a b pos) (uB fc F G):=⟨(Ck hc.1 ha.1 hb.1).imp fun D σ H ⟨ρ,S,δ,o,S',E,hf,q⟩=>by
 obtain⟨k,S1,h1,h2⟩:=R3.aj hf;refine⟨ρ,S,δ,k,S1,E,h1,fun cb H1 p1 w1=>?_⟩
 cases k with
 | true=>rw [if_pos rfl] at h2;exact AM ⟨cb,S1,δ,o,S',E.to p1 w1,h2,q.pre p1⟩
 | false=>rw [if_neg (by decide)] at h2;exact BQ ⟨cb,S1,δ,o,S',E.to p1 w1,h2,q.pre p1⟩⟩
def ql(f:FX):FZ:=fun δ S=>(f δ S).bind fun _ S=> .ok (.nx δ) S
def ya(c:FB)(body:FZ):Nat->FZ
 | 0,_,_=> .no
 | n+1,δ,S=>(c δ S).bind fun b S=>if b then(body δ S).bind fun o S=>match o with | .nx dX=>ya c body n dX S | .rt r=> .ok (.rt r) S else .ok (.nx δ) S
def Oc(n:Nat)(c:FB)(body:FZ):FZ:=fun δ S=>ya c body n δ S
end
end L3
end
section
namespace L3
open PySem PySem.Spec PyProof.Rows L2
theorem aL.get{K:W.Frag}:∀{ds:List V3} {xs:List V} {i:Nat} {d:V3},aL K ρ H ds xs->ds[i]? =some d->∃x,xs[i]? =some x/\bq K ρ H d x
 | [],_,_,_,_,e=>by simp at e
 | d ::ds,xs,0,d',h,e=>by
   obtain⟨x,r,rfl,h1,h2⟩:=h.b9;simp at e;subst e;exact⟨x,rfl,h1⟩
 | d ::ds,xs,i+1,d',h,e=>by
   obtain⟨x,r,rfl,h1,h2⟩:=h.b9;obtain⟨y,e1,e2⟩:=aL.get (i:=i) h2 (by simpa using e)
   exact⟨y,by simpa using e1,e2⟩
def MB(K:W.Frag)(ρ:P3)(H:Hp)(J:It)(vs:List V3):Prop:=∀bF H',PW ρ H bF H'->(∀a∈bF.b,∃o,H' a=some o)->(∀(i:Nat) (d:V3),vs[i]? =some d->J.go i H'/\∀x mW,J.yld i H' x mW->aU H' mW/\bq K bF mW d x)/\J.stop vs.length H'
theorem MB.of{K:W.Frag}{ρ:P3}{J:It}{ds:List D}(h:A_ K ρ.b H J ds):MB K ρ H J (ds.map .d):=fun bF H' p bs=>by
 obtain⟨h1,h2⟩:=h bF.b H' p.bc;refine⟨fun i v hv=>?_,by rw[List.length_map];exact h2⟩
 rw[List.getElem?_map] at hv;cases e:ds[i]? with
 | none=>rw [e] at hv;cases hv
 | some d=>
   rw[e] at hv;cases hv;obtain⟨g1,g2⟩:=h1 i d e;exact⟨g1,fun x mW y=>let⟨s,r⟩:=g2 x mW y bs;⟨s,by unfold bq;exact r⟩⟩
def Qn(K:W.Frag)(cl:Wv)(f:FA):TI:=fun σ H R=>∃ρ S δ vs S',dt K cl ρ H S σ δ/\f δ S= .ok vs S'/\∀J cb H1,Pre ρ H cb H1->SW K cl cb H1 S'->MB K cb H1 J vs->R J H1
structure MA (X:Cx) (cl:Wv) (tg e:Expr) (f:FA):Prop where
 go:PI X tg e (Qn X.K cl f)
section
variable {X:Cx} {cl:Wv}
def iP(f:au->R (List D)):FA:=fun δ S=>(R3.of (f (down δ)) S).bind fun ds S=> .ok (ds.map .d) S
theorem cE{f:au->R (List D)}(h:Hl X tg e f):MA X cl tg e (iP f):=⟨h.1.imp fun σ H Q ⟨ρ,S,δ,vs,S',E,hf,q⟩=>by
 obtain⟨ds,S1,h1,h2⟩:=R3.aj hf;obtain⟨h3,e3⟩:=R3.of_ok h1;cases h2;subst e3;exact⟨[],ρ.b,down δ,ds,E.down,h3,fun J H1 s r=>q J ρ H1 (Pre.same s) (E.sw.same s) (MB.of r)⟩⟩
def F6(f:FX):FA:=fun δ S=>(f δ S).bind fun v S=>match v with | .d (.int j)=>R3.aS (decide (-(2 ^ 62)<=j/\j < 2 ^ 62)) (.ok ((kH 0 j.toNat).map .d) S) | _=> .no
def T8(f:FX):FA:=fun δ S=>(f δ S).bind fun v S=>match v with | .d (.lst ds)=> .ok (ds.map .d) S | .lst vs=> .ok vs S | _=> .no
abbrev FG:=V3->DE->Option DE
abbrev Fw:=List V3->DE->Option DE
def gX(K:W.Frag)(cl:Wv)(t:FG):TG:=fun v σ H Q=>∃ρ S δ x cT,dt K cl ρ H S σ δ/\bq K ρ H x v/\t x δ=some cT/\∀b8 H',aU H H'->dt K cl ρ H' S b8 cT->Q b8 H'
def TX(K:W.Frag)(cl:Wv)(t:Fw):Ar:=fun v σ H Q=>∃ρ S δ x cT,dt K cl ρ H S σ δ/\aL K ρ H x v/\t x δ=some cT/\∀b8 H',aU H H'->dt K cl ρ H' S b8 cT->Q b8 H'
structure GU (X:Cx) (cl:Wv) (tg:Expr) (t:FG):Prop where
 go:PG X tg (gX X.K cl t)
structure Fo (X:Cx) (cl:Wv) (tg:List Expr) (t:Fw):Prop where
 go:EG X tg (TX X.K cl t)
theorem dt.same{K:W.Frag}{S:aZ}{σ:L2.St}{δ:DE}(E:dt K cl ρ H S σ δ)(s:aU H H'):dt K cl ρ H' S σ δ:=E.to (Pre.same s) (E.sw.same s)
def pd(i:Nat):FG:=fun d δ=>if i < δ.length then some (δ.set i (some d)) else none
theorem bL{i:Nat}{pos:Pos}(hf:X.fn x=true\/X.env.scope.names.lookup x=some .local:=by first | exact .inl rfl | exact .inr rfl | assumption)(hN:X.N.Nodup:=by first | assumption | exact DQ (by kernel_rfl))(hi:X.N[i]? =some x:=by rfl)(hx:Loc X.env.scope x:=by first | exact Or.inl rfl | exact Or.inr rfl):GU X cl (.Name x pos) (pd i):=
 ⟨(yd hN hi hx hf).imp fun v σ H Q ⟨ρ,S,δ,d,cT,E,r,ht,q⟩=>by
   unfold pd at ht;split at ht
   .rename_i hi;cases ht;exact q _ H (aU.refl H) (E.set (by rw[<-E.len];exact hi) r)
   .cases ht⟩
def IF:Fw:=fun ds δ=>match ds with | []=>some δ | _=>none
def z_(t:FG)(u:Fw):Fw:=fun ds δ=>match ds with | d ::r=>(t d δ).bind fun cT=>u r cT | []=>none
theorem jy:Fo X cl [] IF:=⟨yH.imp fun vs σ H Q ⟨ρ,S,δ,ds,cT,E,r,ht,q⟩=>by
 cases ds with
 | nil=>unfold aL at r;cases ht;exact⟨r,q σ H (aU.refl H) E⟩
 | cons=>cases ht⟩
theorem cH{u:Fw}(h1:GU X cl e t)(h2:Fo X cl es u)(hs:(assignEach (e ::es) X.env).map (·.2)=assign e X.env ::(assignEach es X.env).map (·.2):=by rfl):Fo X cl (e ::es) (z_ t u):=
 ⟨(vy h1.1 h2.1 hs).imp fun vs σ H Q ⟨ρ,S,δ,ds,cT,E,r,ht,q⟩=>by
   cases ds with
   | nil=>cases ht
   | cons d ds=>
     obtain⟨x,xs,rfl,r1,r2⟩:=r.b9;have ht:(t d δ).bind (fun cT=>u ds cT)=some cT:=ht
     cases e1:t d δ with
     | none=>rw [e1] at ht;cases ht
     | some δ1=>
       rw[e1] at ht;exact⟨x,xs,rfl,ρ,S,δ,d,δ1,E,r1,e1,fun Js H1 s1 E1=>⟨ρ,S,δ1,ds,cT,E1,r2.pre (Pre.same s1),ht,fun rq H2 s2 E2=>q rq H2 (s1.trans s2) E2⟩⟩⟩
def Gn(n:Nat)(t:Fw):FG:=fun d δ=>match d with
 | .d (.tup ds)=>if ds.length=n then t (ds.map .d) δ else none
 | .tup vs=>if vs.length=n then t vs δ else none
 | _=>none
theorem lY{k:Nat}{t:Fw}{n:Nat}{pos:Pos}(h:Fo X cl es t)(hn:(assignEach es X.env).length=n:=by rfl)(pz:(assignEach es X.env).findIdx? (·.1)=none:=by rfl)(hc:X.calm=true:=by rfl):GU X cl (.Tuple es k pos) (Gn n t):=
 ⟨(Ao hc h.1 hn pz).imp fun v σ H Q ⟨ρ,S,δ,d,cT,E,r,ht,q⟩=>by
   have key:∃vs a xs,v= .ref a/\xf X.K ρ.b H a xs/\aL X.K ρ H vs xs/\vs.length=n/\t vs δ=some cT:=by
    unfold Gn at ht;split at ht
    .rename_i ds;split at ht
     .rename_i hl;unfold bq Rep at r;obtain⟨a,xs,e,l,r⟩:=r;exact⟨ds.map .d,a,xs,e,l,aL.of r,by rw[List.length_map];exact hl,ht⟩
     .cases ht
    .rename_i vs;split at ht
     .rename_i hl;unfold bq at r;obtain⟨a,xs,e,l,r⟩:=r;exact⟨vs,a,xs,e,l,r,hl,ht⟩
     .cases ht
    .cases ht
   obtain⟨vs,a,xs,rfl,l,r,hl,ht⟩:=key;exact⟨a,xs,rfl,l.sq,by rw[<-r.length];exact hl,ρ,S,δ,vs,cT,E,r,ht,q⟩⟩
def Hv(f:FX)(t:FG):FZ:=fun δ S=>(f δ S).bind fun d S=>match t d δ with | some cT=> .ok (.nx cT) S | none=> .no
theorem Iw{tg e:Expr}{f:FX}{t:FG}{pos:Pos}(he:PX X cl e f)(hg:GU X cl tg t)(hs:swapsWithSole [tg] e pos.line X.env=pure false:=by rfl)(hw:swappedStores [tg] e X.env=pure none:=by rfl)
 (h1:(assignEach [tg] X.env).map (·.2)=[assign tg X.env]:=by rfl):PZ X cl (.Assign [tg] e pos) (Hv f t):=⟨(Hk he.1 hg.1 hs hw h1).imp fun D σ H ⟨ρ,S,δ,o,S',E,hf,q⟩=>by
 obtain⟨d,S1,h1,h2⟩:=R3.aj hf;split at h2
 .rename_i δ1 e1;cases h2;exact⟨ρ,S,δ,d,_,E,h1,fun v cb H1 p1 w1 r1=>⟨cb,_,δ,d,δ1,E.to p1 w1,r1,e1,fun b8 H2 s2 E2=>q b8 cb H2 (p1.trans (Pre.same s2)) E2⟩⟩
 .cases h2⟩
def gh(t:FG)(body:FZ):List V3->FZ
 | [],δ,S=> .ok (.nx δ) S
 | d ::ds,δ,S=>match t d δ with
   | none=> .no
   | some δ1=>(body δ1 S).bind fun o S=>match o with | .nx dX=>gh t body ds dX S | .rt r=> .ok (.rt r) S
def qD(it:FA)(t:FG)(body:FZ):FZ:=fun δ S=>(it δ S).bind fun vs S=>gh t body vs δ S
theorem uc{pos:Pos}(hi:MA X cl tg iter it)(hg:GU X cl tg t)(hb:yA X cl body F)(hs:∀x,foldedSetIterable iter X.env x=pure x:=by intro _;rfl)(hp:PassesOwn (model X.prog X.w) X.A X.env X.xe:=by exact PassesOwn.never)(hc:X.calm=true:=by rfl):PZ X cl (.For tg iter body [] pos) (qD it t F):=⟨(wW hp hc hi.1 hg.1 hb.1 hs).imp fun D σ H ⟨ρ,S,δ,o,S',E,hf,q⟩=>by
 obtain⟨ds,S0,h1,h2⟩:=R3.aj hf;refine⟨ρ,S,δ,ds,S0,E,h1,fun J cb H1 p1 w1 ir=>?_⟩
 refine⟨fun i m b8 H'=>m=ds.length - i/\i<=ds.length/\∃bF S1 cT,Pre cb H1 bF H'/\dt X.K cl bF H' S1 b8 cT/\gh t F (ds.drop i) cT S1= .ok o S',⟨ds.length,rfl,Nat.zero_le _,cb,S0,δ,Pre.refl cb H1,E.to p1 w1,by simpa using h2⟩,?_⟩
 rintro i m b8 H' ⟨rfl,hi,bF,S1,cT,pv,E',hl⟩;obtain⟨go,stop⟩:=ir bF H' pv.pw E'.sw.bs;by_cases hlt:i < ds.length
 .have hd:ds[i]? =some ds[i]:=List.getElem?_eq_getElem hlt;have hdrop:ds.drop i=ds[i] ::ds.drop (i+1):=List.drop_eq_getElem_cons hlt;rw[hdrop] at hl;unfold gh at hl;split at hl
  .cases hl
  .rename_i δ1 h3;obtain⟨o1,S2,h5,h6⟩:=R3.aj hl;obtain⟨g1,g2⟩:=go i _ hd;refine .inr ⟨g1,fun rq H2=>∃wm S2 dX,Pre cb H1 wm H2/\dt X.K cl wm H2 S2 rq dX/\gh t F (ds.drop (i+1)) dX S2= .ok o S',fun rq H2 n=>⟨ds.length - (i+1),by omega,rfl,hlt,n⟩,fun x mW y=>?_⟩
   obtain⟨ss,rr⟩:=g2 x mW y;refine⟨bF,S1,cT,ds[i],δ1,E'.same ss,rr,h3,fun rq H2 s2 E2=>⟨bF,S1,δ1,o1,S2,E2,h5,?_⟩⟩
   have pv2:Pre cb H1 bF H2:=pv.trans (Pre.same (ss.trans s2));cases o1 with
   | nx dX=>exact fun Dq FH H3 p3 E3=>⟨FH,S2,dX,pv2.trans p3,E3,h6⟩
   | rt d=>
     cases h6;exact fun v FH H3 p3 w r=>q v FH H3 (p1.trans (pv2.trans p3)) w r
 .have e:i=ds.length:=by omega
  subst e;rw[List.drop_length] at hl;cases hl;exact .inl ⟨stop,q b8 bF H' (p1.trans pv) E'⟩⟩
end
end L3
end
section
namespace L3
open PySem PySem.Spec PyProof.Rows L2
mutual
def vW(n:Nat):V3->Bool
 | .d _=>true
 | .loc k=>decide (k < n)
 | .lst vs=>oA n vs
 | .tup vs=>oA n vs
 | .fn _=>true
def oA(n:Nat):List V3->Bool
 | []=>true
 | v ::vs=>vW n v && oA n vs
end
def vJ(n:Nat):SO->Bool
 | .ins _ fs=>oA n (fs.map (·.2))
 | _=>true
theorem Ew{ρ:P3}{n:Nat}{b:Addr}(h:b∈(ρ.cut n).b):b∈ρ.b:=by
 rcases P3.c8.mp h with z | z
 .exact P3.c8.mpr (.inl ⟨List.mem_of_mem_take z.1,z.2⟩)
 .exact P3.c8.mpr (.inr z)
theorem fg{ρ:P3}(n:Nat):cX ρ.b H (ρ.cut n).b H:=fun b o e nb=>⟨e,fun hb=>nb (Ew hb)⟩
mutual
theorem bq.cut{K:W.Frag}{ρ:P3}{n:Nat}:∀{v:V3} {x:V},vW n v=true->bq K ρ H v x->bq K (ρ.cut n) H v x
 | .fn y,x,_,h=>by unfold bq at h ⊢;exact h
 | .d y,x,_,h=>by unfold bq at h ⊢;exact h.bc (fg n)
 | .loc k,x,o,h=>by
   unfold bq at h ⊢;unfold vW at o;obtain⟨a,h1,h2⟩:=h;exact⟨a,by show(ρ.r.take n)[k]? =_;rw [List.getElem?_take_of_lt (of_decide_eq_true o)];exact h1,h2⟩
 | .lst vs,x,o,h=>by
   unfold bq at h ⊢;unfold vW at o;obtain⟨a,xs,e,l,r⟩:=h;exact⟨a,xs,e,l.bc (fg n),aL.cut o r⟩
 | .tup vs,x,o,h=>by
   unfold bq at h ⊢;unfold vW at o;obtain⟨a,xs,e,l,r⟩:=h;exact⟨a,xs,e,xf.bc (fg n) l,aL.cut o r⟩
theorem aL.cut{K:W.Frag}{ρ:P3}{n:Nat}:∀{vs:List V3} {xs:List V},oA n vs=true->aL K ρ H vs xs->aL K (ρ.cut n) H vs xs
 | [],_,_,h=>by unfold aL at h ⊢;exact h
 | v ::vs,xs,o,h=>by
   unfold oA at o;obtain⟨o1,o2⟩:=Bool.and_eq_true_iff.mp o;obtain⟨x,r,rfl,h1,h2⟩:=h.b9;exact aL.cons (bq.cut o1 h1) (aL.cut o2 h2)
end
theorem SW.cut{K:W.Frag}{cl:Wv}{ρ:P3}{S:aZ}(w:SW K cl ρ H S){n:Nat}(ok:(S.take n).all (vJ n)=true):SW K cl (ρ.cut n) H (S.take n):=
 ⟨by show(ρ.r.take n).length=_;rw [List.length_take,List.length_take,w.len],fun i j a hi hj=>by
   have hi:(ρ.r.take n)[i]? =some a:=hi;have hj:(ρ.r.take n)[j]? =some a:=hj;have gi:ρ.r[i]? =some a:=by
    rw[List.getElem?_take] at hi;split at hi
    .exact hi
    .cases hi
   have gj:ρ.r[j]? =some a:=by
    rw[List.getElem?_take] at hj;split at hj
    .exact hj
    .cases hj
   exact w.nd i j a gi gj,fun k a o hk ho=>by
   have hk:(ρ.r.take n)[k]? =some a:=hk;have gk:ρ.r[k]? =some a:=by
    rw[List.getElem?_take] at hk;split at hk
    .exact hk
    .cases hk
   have go:S[k]? =some o:=by
    rw[List.getElem?_take] at ho;split at ho
    .exact ho
    .cases ho
   have r:=w.ob k a o gk go;have oo:vJ n o=true:=List.all_eq_true.mp ok o (List.mem_of_getElem? ho);cases o with
   | lst ds=>obtain⟨xs,e,q⟩:=r;exact⟨xs,e,q.bc (fg n)⟩
   | dct aC=>obtain⟨ys,e,e2,q⟩:=r;exact⟨ys,e,e2,q.bc (fg n)⟩
   | dcT aC=>obtain⟨ys,e,e2,q⟩:=r;exact⟨ys,e,e2,q.bc (fg n)⟩
   | ins c fs=>obtain⟨dx,ys,e,e2,q⟩:=r;exact⟨dx,ys,e,e2,q.cut oo⟩
   | exc c=>exact r
   | jn=>exact r,fun b hb=>let⟨h1,h2⟩:=w.zb b hb;⟨h1,fun h=>h2 (List.mem_of_mem_take h)⟩,(fun k a hk ho=>by
   have hk:(ρ.r.take n)[k]? =some a:=hk;rw[List.getElem?_take] at hk;split at hk
   .rename_i hlt;rw[List.getElem?_take_of_lt hlt] at ho;exact w.fz k a hk ho
   .cases hk),w.ff,(fun k a hk ho=>by
   have hk:(ρ.r.take n)[k]? =some a:=hk;rw[List.getElem?_take] at hk;split at hk
   .rename_i hlt;rw[List.getElem?_take_of_lt hlt] at ho;exact w.fi k a hk ho
   .cases hk)⟩
theorem SW.A4{K:W.Frag}{cl:Wv}{ρ bF:P3}{n:Nat}(hn:ρ.r.length<=n)(p:Pre ρ H bF H'):Pre ρ H (bF.cut n) H':=
 ⟨p.bc.trans (fg n),p.zz,p.zs,fun k a h=>by show(bF.r.take n)[k]? =_;rw [List.getElem?_take_of_lt (Nat.lt_of_lt_of_le (List.getElem?_eq_some_iff.mp h).1 hn)];exact p.ext k a h⟩
section
variable {X:Cx} {cl:Wv}
def c7(S:aZ)(k:Nat):Option (List D):=match S[k]? with | some (.lst ds)=>some ds | _=>none
theorem jV{S:aZ}{k:Nat}{ds:List D}(h:c7 S k=some ds):S[k]? =some (.lst ds):=by
 unfold c7 at h;split at h
 .rename_i e;cases h;exact e
 .cases h
def gW(δ:DE)(i:Nat):Option Nat:=match δ[i]? with | some (some (.loc k))=>some k | _=>none
theorem mO{δ:DE}{i k:Nat}(h:gW δ i=some k):δ[i]? =some (some (.loc k)):=by
 unfold gW at h;split at h
 .rename_i e;cases h;exact e
 .cases h
def xC(i:Nat)(f:FX):FZ:=fun δ S=>match gW δ i with
 | none=> .no
 | some k=>match c7 S k with
   | none=> .no
   | some _=>(f δ S).bind fun v S1=>match v with
     | .d d=>(match c7 S1 k with | some ds=>R3.aS (decide (ds.length < sizeLine)) (.ok (.nx δ) (S1.set k (.lst (ds++[d])))) | none=> .no)
     | _=> .no
theorem wO{i:Nat}{x:Str}{e:Expr}{f:FX}{ij apos b4 pos:Pos}(he:PX X cl e f)(hd:(x==("__debug__":Str))=false:=by decide)(px:(x==("__classdict__":Str))=false:=by decide)(hs:starEach [e] X.env=(false,eval e X.env) ::starEach [] X.env:=by rfl)(nS:(apos.endLine==b4.line)=true:=by rfl)(ur:((backTo b4 (starEach [e] X.env)).all (fun x=>!x.1) && (backToKw b4 (keywordEach [] X.env)).all (fun x=>x.1.isSome)
 && decide (([e]:List Expr).length+([]:List Keyword).length+(if([]:List Keyword).isEmpty then 0 else 1) < 30))=true:=by rfl) (v8:swapsWith (.Call (.Attribute (.Name x ij) "append" apos) [e] [] b4) none pos.line X.env=pure false:=by rfl) (nU:attributeBase (.Name x ij) "append" X.env (eval (.Name x ij) X.env)=eval (.Name x ij) X.env:=by rfl) (hN:X.N[i]? =some x:=by rfl) (hv:DA X.env.scope x:=by first | exact Or.inl rfl | exact Or.inr (Or.inl rfl) | exact Or.inr (Or.inr rfl)) :
 PZ X cl (.Expr (.Call (.Attribute (.Name x ij) "append" apos) [e] [] b4) pos) (xC i f):=by
 refine⟨(pJ (BN (X:=X) PySem.F.plainAttrs_list PySem.F.slot_list_append PySem.F.type_list_append sR (qY hN hv hd px) (eE he.1 iW hs) nU ur nS hs) v8).imp fun D σ H ⟨ρ,S,δ,o,S',E,hf,q⟩=>?_⟩
 unfold xC at hf;split at hf
 .cases hf
 .rename_i k hk;split at hf
  .cases hf
  .rename_i ds0 h0;obtain⟨v,S1,h1,h2⟩:=R3.aj hf;split at h2
   .rename_i d;split at h2
    .rename_i ds h3;obtain⟨hl,h4⟩:=R3.aX h2;cases h4;obtain⟨u,u1,u2⟩:=E.val i _ (mO hk);unfold bq at u2;obtain⟨a,a1,rfl⟩:=u2;obtain⟨UO,x0,_⟩:=E.sw.ob k a _ a1 (jV h0);refine⟨.ref a,u1, .inl ⟨rfl,UO,m4.of x0⟩,⟨ρ,S,δ, .d d,S1,E,h1,fun y cb H1 p1 w1 r1=>?_⟩⟩
     have b1:=p1.ext k a a1;obtain⟨xs,x1,x2⟩:=w1.ob k a _ b1 (jV h3);refine⟨a,xs,y,rfl,rfl,x1,by rw[<-x2.length];exact of_decide_eq_true hl,?_⟩
     unfold bq at r1;obtain⟨w2,p2⟩:=w1.put (o:= .lst (ds++[d])) (u:= .lst (xs++[y])) b1 (w1.fz k a b1 (by rw[jV h3];intro h;cases h)) ⟨xs++[y],rfl,x2.append (aD.cons r1 aD.nil)⟩
     exact q σ cb _ (p1.trans p2) (E.to (p1.trans p2) w2)
    .cases h2
   .cases h2
def Ur(fo fi fe:FX):FZ:=fun δ S=>(fe δ S).bind fun v S1=>(fo δ S1).bind fun o S2=>(fi δ S2).bind fun j S3=>match v,o,j with
 | .d d, .loc k, .d (.int n)=>(match c7 S3 k with
   | some ds=>(match Dc ds.length n with | some m=> .ok (.nx δ) (S3.set k (.lst (ds.set m d))) | none=> .no)
   | none=> .no)
 | _,_,_=> .no
def Ek(K:W.Frag)(cl:Wv)(n:Nat)(g:List V3->aZ->R3 V3):Sp:=fun vs H Q _=>vs.length=n/\∃ρ S xs v S',SW K cl ρ H S/\aL K ρ H xs vs/\g xs S= .ok v S'/\∀u bF H',Pre ρ H bF H'->SW K cl bF H' S'->bq K bF H' v u->Q u H'
def h_(g:List V3->aZ->R3 V3)(fs:FA):FX:=fun δ S=>(fs δ S).bind g
def iI(P:Program)(w:World)(K:W.Frag)(mg:Wu)(base:Heap)(cl:Wv)(k:Nat)(x:Str)(n:Nat)(g:List V3->aZ->R3 V3):Prop:=
 ∃(f:Addr) (fd:FuncData) (ps:List Str),hJ P w K mg base rB k f fd ps (Ek K cl n g)/\mg x=some (.ref f)/\PySem.W.keepIn K (.ref f)=true/\Binds K fd ps []
theorem pI{g:List V3->aZ->R3 V3}{k j n:Nat}{p pos:Pos}(C:iI X.prog X.w X.K X.mg X.base cl k x n g)(ha:JM X cl (e ::es) fs)(nR:(x==("__debug__":Str))=false:=by decide)(he:starEach (e ::es) X.env=(false,eval e X.env) ::starEach es X.env:=by rfl)(jE:(backTo pos (starEach es X.env)).any (·.1)=false:=by rfl)(hr:eJ j X.A:=by assumption)(Jl:k<=j:=by decide)(hg:Gl X x:=by rfl)(hn:∀δ S ds S',fs δ S= .ok ds S'->ds.length=n:=by(repeat apply cY);exact g_) :
 PX X cl (.Call (.Name x p) (e ::es) [] pos) (h_ g fs):=by
 obtain⟨f,fd,ps,F,hm,hk,hb⟩:=C;refine⟨(tj F (hr.mono Jl) hg hm hk hb .nil FY ha.1 nR he jE).imp fun σ H Q ⟨ρ,S,δ,v,S',E,hf,q⟩=>?_⟩
 obtain⟨vs,S1,h1,h2⟩:=R3.aj hf;refine⟨ρ,S,δ,vs,S1,E,h1,fun us cb H1 p1 w1 r1=>?_⟩
 show Ek X.K cl n g (us++[]) H1 Q E0;rw[List.append_nil];exact⟨by rw[<-r1.length];exact hn δ S vs S1 h1,cb,S1,vs,v,S',w1,r1,h2,fun z wm H2 p2 w2 r2=>q z wm H2 (p1.trans p2) w2 r2⟩
end
def dC(N:List Str)(vs:List V3):DE:=vs.map some++List.replicate (N.length - vs.length) none
theorem vb{K:W.Frag}{cl:Wv}{S:aZ}{N:List Str}{ds:List V3}{vs:List V}(w:SW K cl ρ H S)(r:aL K ρ H ds vs):dt K cl ρ H S (L2.start N vs) (dC N ds) where
 len:=by unfold L2.start dC;simp [r.length]
 sw:=w
 val:=fun i d e=>by
  unfold dC at e;unfold L2.start;by_cases hi:i < ds.length
  .rw [List.getElem?_append_left (by simpa using hi),List.getElem?_map] at e
   cases q:ds[i]? with
   | none=>rw [q] at e;cases e
   | some d'=>
     rw[q] at e;cases e;obtain⟨x,h1,h2⟩:=r.get q;exact⟨x,by rw[List.getElem?_append_left (by rw[List.length_map,<-r.length];exact hi),List.getElem?_map,h1];rfl,h2⟩
  .rw [List.getElem?_append_right (by simpa using hi),List.getElem?_replicate] at e
   split at e <;> cases e
def rC(N:List Str)(F:FZ):List V3->aZ->R3 V3:=fun vs S=>(F (dC N vs) S).bind fun o S'=>match o with | .rt v=> .ok v S' | .nx _=> .ok (.d .cI) S'
def wj(N:List Str)(F:FZ):List V3->aZ->R3 V3:=fun vs S=>(rC N F vs S).bind fun v S'=>match res S' v with
 | some d=>R3.aS ((S'.take S.length).all (vJ S.length) && i5 S.length v) (.ok (.d d) (S'.take S.length))
 | none=> .no
theorem Fs{P:Program}{w:World}{K:W.Frag}{mg:Wu}{base:Heap}{cl:Wv}{x qual:Str}{st:Stmt}{f:Addr}{fd:FuncData}{N ps:List Str}{k:Nat}{F:FZ}(Fn:wK K x qual st f fd)(S:bz N ps (aO st))
 (dS:∀(d8:Value) (A:Around) (outer:List Env) (s:Shared) (H:Hp) (E:XK),eJ k (A.deeper (envOfC qual (aO st) s.heap.objs.size f d8))->
   yA (iG rB P w K mg base N qual (aO st) f d8 A outer s H E).BK cl (bh st) F):hJ P w K mg base rB (k+1) f fd ps (Ek K cl ps.length (rC N F)):=by
 refine Fn.ok S (fun vs H Q E h=>h.1) (fun d8 A outer s H vs Q E hr h=>⟨_,(dS d8 A outer s H E hr).1,?_⟩)
 obtain⟨_,ρ,S,ds,v,S',w,r,hg,q⟩:=h;obtain⟨o,S1,h1,h2⟩:=R3.aj hg;refine⟨ρ,S,dC N ds,o,S1,vb w r,h1,?_⟩;cases o with
 | nx cT=>
   cases h2;exact fun b8 bF H' p' E'=>q _ bF H' p' E'.sw (by unfold bq Rep;rfl)
 | rt d'=>
   cases h2;exact fun u bF H' p' w' r'=>q u bF H' p' w' r'
theorem B4{K:W.Frag}{cl:Wv}{N:List Str}{n:Nat}{vs:List V}{Q:VK}{E:XK}(h:Ek K cl n (wj N F) vs H Q E):Ek K cl n (rC N F) vs H Q E:=by
 obtain⟨hl,ρ,S,xs,v,S',w,r,hg,q⟩:=h;obtain⟨v1,S1,h1,h2⟩:=R3.aj hg;refine⟨hl,ρ,S,xs,v1,S1,w,r,h1,fun u cb H1 p1 w1 r1=>?_⟩
 have pc:Pre ρ H (cb.cut S.length) H1:=SW.A4 (K:=K) (cl:=cl) (by rw[w.len];exact Nat.le_refl _) p1
 split at h2
 .rename_i d e;obtain⟨ok,h3⟩:=R3.aX h2;obtain⟨ok,hk⟩:=Bool.and_eq_true_iff.mp ok;cases h3;refine q u _ H1 pc (w1.cut ok) ?_;unfold bq;refine r1.resB w1 (fg _) (fun k a hk a1 ha=>?_) hk e
  rcases P3.c8.mp ha with⟨z,_⟩ | z
  .obtain⟨j,hj⟩:=List.getElem?_of_mem z;have hj:(cb.r.take S.length)[j]? =some a:=hj;rw[List.getElem?_take] at hj;split at hj
   .rename_i hjl;have:=w1.nd j k a hj a1;omega
   .cases hj
  .exact(w1.zb a z).2 (List.mem_of_getElem? a1)
 .cases h2
end L3
end
section
namespace L3
open PySem PySem.Spec PyProof.Rows L2
section
variable {X:Cx} {cl:Wv}
def kX(δ:DE)(i:Nat):Option V3:=match δ[i]? with | some (some v)=>some v | _=>none
def mj(own:List Str)(kp:List Nat)(δ:DE):DE:=List.replicate own.length none++kp.map (kX δ)
theorem Dv{K:W.Frag}{S S':aZ}{σ:L2.St}{δ:DE}{own:List Str}{kp:List Nat}(E:dt K cl ρ H S σ δ)(p:PW ρ H bF H')(w:SW K cl bF H' S'):dt K cl bF H' S' (cR own kp σ) (mj own kp δ) where
 len:=by unfold cR mj;simp
 sw:=w
 val:=fun i d e=>by
  unfold mj at e;unfold cR;by_cases hi:i < own.length
  .rw [List.getElem?_append_left (by simpa using hi),List.getElem?_replicate] at e
   split at e <;> cases e
  .rw [List.getElem?_append_right (by simpa using hi),List.length_replicate,List.getElem?_map] at e ⊢
   cases q:kp[i - own.length]? with
   | none=>rw [q] at e;cases e
   | some j=>
     rw[q] at e;have e:kX δ j=some d:=Option.some.inj e;unfold kX at e;split at e
     .rename_i d' ed;cases e;obtain⟨v,h1,h2⟩:=E.val j d ed;exact⟨v,by simp [h1],h2.pw p⟩
     .cases e
def lD(t:FG)(c:FB)(f:FX)(δ:DE):List V3->aZ->R3 (List V3)
 | [],S=> .ok [] S
 | v ::vs,S=>match t v δ with
   | none=> .no
   | some δ1=>(c δ1 S).bind fun b S1=>if b then(f δ1 S1).bind fun y S2=>(lD t c f δ vs S2).bind fun ys S3=> .ok (y ::ys) S3 else lD t c f δ vs S1
def jx(it:FA)(t:FG)(c:FB)(f:FX)(own:List Str)(kp:List Nat):FX:=fun δ S=>(it δ S).bind fun vs S1=>R3.aS (decide (vs.length<=sizeLine)) ((lD t c f (mj own kp δ) vs S1).bind fun ys S2=> .ok (pZ ys) S2)
theorem aL.append{K:W.Frag}:∀{ds es:List V3} {xs ys:List V},aL K ρ H ds xs->aL K ρ H es ys->aL K ρ H (ds++es) (xs++ys)
 | [],_,_,_,h,t=>by unfold aL at h;subst h;exact t
 | d ::ds,es,xs,ys,h,t=>by
   obtain⟨x,r,rfl,h1,h2⟩:=h.b9;exact aL.cons h1 (aL.append h2 t)
theorem Fy{K:W.Frag}{own:List Str}{kp:List Nat}{σ:L2.St}{Q:VK}(h:tX K cl (jx it t c f own kp) σ H Q) :
 yW (Qn K cl it) (gX K cl t) (G3 K cl c) (tX K cl f) own kp σ H Q:=by
 obtain⟨ρ,S,δ,v,SF,E,hf,q⟩:=h;obtain⟨es,S1,h1,h2⟩:=R3.aj hf;obtain⟨hl,h3⟩:=R3.aX h2;have hl:=of_decide_eq_true hl;obtain⟨vs,S2,h4,h5⟩:=R3.aj h3;cases h5;refine⟨ρ,S,δ,es,S1,E,h1,fun J cb H1 p1 w1 ir Dd hD=>?_⟩
 have nDz:Dd ∉ cb.b:=fun hb=>by obtain⟨o,ho⟩:=w1.bs Dd hb;rw [hD] at ho;cases ho
 have nDr:Dd ∉ cb.r:=fun hb=>by obtain⟨o,ho⟩:=w1.rs Dd hb;rw [hD] at ho;cases ho
 have toZ:∀{r' f':List Addr} {H':Hp},Pre cb H1 ⟨r',cb.z,f'⟩ H'->PW cb H1 ⟨r',Dd ::cb.z,f'⟩ H':=fun {r' f' H'} p=>⟨fun b o e nb=>⟨(p.bc b o e nb).1,fun hb=>by
  rcases P3.c8.mp hb with z | z
  .exact(p.bc b o e nb).2 (P3.c8.mpr (.inl z))
  .rcases List.mem_cons.mp z with y | y
   .exact bD e hD y
   .exact(p.bc b o e nb).2 (P3.c8.mpr (.inr y))⟩,p.ext⟩
 have w0:SW K cl ⟨cb.r,Dd ::cb.z,cb.f⟩ (upd H1 Dd (.lst [])) S1:=by
  have s0:aU H1 (upd H1 Dd (.lst [])):=bg hD;have ws:=w1.same s0;refine⟨ws.len,ws.nd,fun k a o hk ho=>?_,fun b hb=>?_,ws.fz,ws.ff,ws.fi⟩
  .have r:=w1.ob k a o hk ho;obtain⟨u,hu⟩:=r.some;rw[s0 a u hu,<-hu];exact r.pw (toZ (Pre.same s0))
  .rcases List.mem_cons.mp hb with y | y
   .subst y;exact⟨⟨_,a_⟩,nDr⟩
   .exact ws.zb b y
 refine⟨fun i m ys H'=>m=es.length - i/\i<=es.length/\ys.length<=i/\H' Dd=some (.lst ys)/\∃r' f' S' done rest,Pre cb H1 ⟨r',cb.z,f'⟩ H'/\SW K cl ⟨r',Dd ::cb.z,f'⟩ H' S'/\vs=done++rest/\aL K ⟨r',Dd ::cb.z,f'⟩ H' done ys/\lD t c f (mj own kp δ) (es.drop i) S'= .ok rest SF,
  ⟨es.length,rfl,Nat.zero_le _,Nat.le_refl _,a_,cb.r,cb.f,S1,[],vs,Pre.same (bg hD),w0,rfl,aL.nil,by simpa using h4⟩,?_⟩
 rintro i m ys H' ⟨rfl,hi,hy,hDl,r',f',S',done,rest,pv,w',rfl,rd,hc⟩;obtain⟨go,stop⟩:=ir ⟨r',Dd ::cb.z,f'⟩ H' (toZ pv) w'.bs;have unZ:∀{GC:P3} {H4:Hp},Pre ⟨r',Dd ::cb.z,f'⟩ H' GC H4->Pre cb H1 ⟨GC.r,cb.z,GC.f⟩ H4:=fun {GC H4} p4=>⟨fun b o e nb=>by
  obtain⟨e1,n1⟩:=(toZ pv).bc b o e nb;obtain⟨uw,n2⟩:=p4.bc b o e1 n1;refine⟨uw,fun hb=>n2 ?_⟩
  rcases P3.c8.mp hb with z | z
  .exact P3.c8.mpr (.inl z)
  .exact P3.c8.mpr (.inr (by rw[p4.zz];exact List.mem_cons_of_mem _ z)),rfl,fun b o hb h=>p4.zs b o (List.mem_cons_of_mem _ hb) (pv.zs b o hb h),fun k a h=>p4.ext k a (pv.ext k a h)⟩
 by_cases hlt:i < es.length
 .have hd:es[i]? =some es[i]:=List.getElem?_eq_getElem hlt;have hdrop:es.drop i=es[i] ::es.drop (i+1):=List.drop_eq_getElem_cons hlt;rw[hdrop] at hc;unfold lD at hc;split at hc
  .cases hc
  .rename_i δ1 h6;obtain⟨b,T1,h7,h8⟩:=R3.aj hc;obtain⟨g1,g2⟩:=go i _ hd;refine .inr ⟨g1,fun x H2 y=>?_⟩
   obtain⟨sy,ry⟩:=g2 x H2 y;have Ec:dt K cl ⟨r',Dd ::cb.z,f'⟩ H2 S' (cR own kp σ) (mj own kp δ):=Dv E (p1.pw.trans ((toZ pv).trans (Pre.same sy).pw)) (w'.same sy);refine⟨⟨r',Dd ::cb.z,f'⟩,S',mj own kp δ,es[i],δ1,Ec,ry,h6,fun Dq H3 s3 E3=>⟨⟨r',Dd ::cb.z,f'⟩,S',δ1,b,T1,E3,h7,fun GC H4 p4 w4=>?_⟩⟩
   have LR:Pre ⟨r',Dd ::cb.z,f'⟩ H' GC H4:=(Pre.same (sy.trans s3)).trans p4;cases b with
   | true=>
     rw[if_pos rfl] at h8;refine AM ?_;obtain⟨yv,T2,h9,O0⟩:=R3.aj h8;obtain⟨rs,T3,JY,L7⟩:=R3.aj O0;cases L7;refine⟨GC,T1,δ1,yv,T2,E3.to p4 w4,h9,fun v5 Rv H5 p5 w5 r5=>?_⟩
     have pv5:Pre ⟨r',Dd ::cb.z,f'⟩ H' Rv H5:=LR.trans p5;have O4:H5 Dd=some (.lst ys):=pv5.zs Dd _ List.mem_cons_self hDl;have u5:=unZ pv5;obtain⟨MN,z5,f5⟩:=Rv;have ez:z5=Dd ::cb.z:=pv5.zz;subst ez;have nr:Dd ∉ MN:=(w5.zb Dd List.mem_cons_self).2;have pw:PW ⟨MN,Dd ::cb.z,f5⟩ H5 ⟨MN,Dd ::cb.z,f5⟩ (upd H5 Dd (.lst (ys++[v5]))):=⟨fun b o e nb=>⟨by rw[bf (fun(z:b=Dd)=>nb (by rw[z];exact P3.c8.mpr (.inr List.mem_cons_self)))];exact e,nb⟩,fun _ _ h=>h⟩
     refine⟨O4,by omega,es.length - (i+1),by omega,rfl,hlt,by rw[List.length_append,List.length_singleton];omega,a_,MN,f5,T2,done++[yv],rs,?_,?_,by simp,aL.append ((rd.pre pv5).pw pw) (aL.cons (r5.pw pw) aL.nil),JY⟩
     .refine⟨fun b o e nb=>⟨by rw[bf (bD e hD)];exact(u5.bc b o e nb).1,(u5.bc b o e nb).2⟩,rfl,fun b o hb h=>?_,u5.ext⟩
      rw[bf (bD h hD)];exact u5.zs b o hb h
     .refine⟨w5.len,w5.nd,fun k a o hk ho=>?_,fun b hb=>?_,w5.fz,fun b hb=>?_,w5.fi⟩
      .have ne:a≠Dd:=fun z=>nr (by rw[<-z];exact List.mem_of_getElem? hk)
       rw[bf ne];exact(w5.ob k a o hk ho).pw pw
      .obtain⟨⟨o,ho⟩,n⟩:=w5.zb b hb;refine⟨?_,n⟩;by_cases z:b=Dd
       .subst z;exact⟨_,a_⟩
       .rw [bf z];exact⟨o,ho⟩
      .obtain⟨o,ho⟩:=w5.ff b hb;by_cases z:b=Dd
       .subst z;exact⟨_,a_⟩
       .rw [bf z];exact⟨o,ho⟩
   | false=>
     rw[if_neg (by decide)] at h8
     refine BQ ?_;have Uv:H4 Dd=some (.lst ys):=LR.zs Dd _ List.mem_cons_self hDl;have u4:=unZ LR;obtain⟨UA,z4,f4⟩:=GC;have ez:z4=Dd ::cb.z:=LR.zz;subst ez;exact⟨es.length - (i+1),by omega,rfl,hlt,by omega,Uv,UA,f4,T1,done,rest,u4,w4,rfl,rd.pre LR,h8⟩
 .have e:i=es.length:=by omega
  subst e;rw[List.drop_length] at hc;cases hc;rw[List.append_nil] at q;refine .inl ⟨stop,?_⟩;have back:PW ⟨r',Dd ::cb.z,f'⟩ H' ⟨r',cb.z,f'⟩ H':=⟨fun b o e nb=>⟨e,fun hb=>nb (by
   rcases P3.c8.mp hb with z | z
   .exact P3.c8.mpr (.inl z)
   .exact P3.c8.mpr (.inr (List.mem_cons_of_mem _ z)))⟩,fun _ _ h=>h⟩
  have wB:SW K cl ⟨r',cb.z,f'⟩ H' _:=⟨w'.len,w'.nd,fun k a o hk ho=>(w'.ob k a o hk ho).pw back,fun b hb=>w'.zb b (List.mem_cons_of_mem _ hb),w'.fz,w'.ff,w'.fi⟩
  refine q _ ⟨r',cb.z,f'⟩ H' (p1.trans pv) wB (sS (.inl ⟨fun hb=>?_, .inl hDl⟩) (rd.pw back))
  rcases P3.c8.mp hb with z | z
  .exact(w'.zb Dd List.mem_cons_self).2 z.1
  .exact nDz (P3.c8.mpr (.inr z))
end
end L3
end
section
namespace L3
open PySem PySem.Spec PyProof.Rows L2
section
variable {X:Cx} {cl:Wv}
def xn:FB:=fun _ S=> .ok true S
theorem lZ:oC X [] (G3 X.K cl xn):=fun pins s σ H Q I ⟨ρ,S,δ,b,S',E,hf,q⟩=>vV pins s σ H Q I (by cases hf;exact q ρ H (Pre.refl ρ H) E.sw)
theorem nc(h:JG X cl e c):oC X [e] (G3 X.K cl c):=uF h.1
theorem G6{K:W.Frag}{i:Nat}{D:Ends}{σ:L2.St}(h:sX K cl (cf i f) D σ H):zd (tX K cl f) (qg i) D σ H:=by
 obtain⟨ρ,S,δ,o,S',E,hf,q⟩:=h;obtain⟨v,S1,h1,h2⟩:=R3.aj hf;obtain⟨hi,h3⟩:=R3.aX h2;cases h3;refine⟨ρ,S,δ,v,_,E,h1,fun u cb H1 p1 w1 r1=>?_⟩
 exact q _ cb H1 p1 ((E.to p1 w1).set (by rw[<-E.len];exact of_decide_eq_true hi) r1)
theorem dF{i:Nat}{pos' rn:Pos}{own:List Str}{kp:List Nat}(hi:MA X cl tg iter it)(hg:∀fp s H,GU (bt X scope (own++(pq kp X.N)) fp s H) cl tg t)(Ae:∀fp s H,oC (bt X scope (own++(pq kp X.N)) fp s H) ifs (G3 X.K cl c))(he:∀fp s H,PX (bt X scope (own++(pq kp X.N)) fp s H) cl elt f)(v8:swapsWith (.ListComp elt [⟨tg,iter,ifs,0⟩] scope pos) (some (.Name x pos')) rn.line X.env=pure true:=by rfl)(hs:∀x,foldedSetIterable iter X.env x=pure x:=by intro _;rfl)(hc:X.calm=true:=by rfl)(hN:X.N.Nodup:=by first | assumption | exact DQ (by kernel_rfl))(hx:X.N[i]? =some x:=by rfl)(CJ:X.env.scope.names.lookup x=some .local:=by rfl)(C:fq X scope own kp (pq kp X.N):=by exact Oq (by kernel_rfl)):PZ X cl (.Assign [.Name x pos'] (.ListComp elt [⟨tg,iter,ifs,0⟩] scope pos) rn) (cf i (jx it t c f own kp)):=
 ⟨(qW hc hN hx CJ C hi.1 (fun fp s H=>(hg fp s H).1) Ae (fun fp s H=>(he fp s H).1) v8 hs).imp fun D σ H h=>Fy (G6 h)⟩
def VA(g:FA):FX:=fun δ S=>(g δ S).bind fun vs S1=>match m6 vs with
 | some ds=>R3.aS (decide (ds.length<=sizeLine)) (.ok (.loc S1.length) (S1++[.lst ds]))
 | none=> .no
end
end L3
end
section
namespace L3
open PySem PySem.Spec PyProof.Rows L2
section
variable {X:Cx} {cl:Wv}
def M3(g:List D->R D)(fs:FA):FX:=fun δ S=>(fs δ S).bind fun vs S1=>match m6 vs with
 | some ds=>(R3.of (g ds) S1).bind fun d S=> .ok (.d d) S
 | none=> .no
def VF(c:FB)(f g:FX):FX:=fun δ S=>(c δ S).bind fun b S=>if b then f δ S else g δ S
theorem g_:∀(δ:DE) (S:aZ) (ds:List V3) (S':aZ),fK δ S= .ok ds S'->ds.length=0:=fun δ S ds S' h=>by cases h;rfl
theorem cY{g:FA}{n:Nat}(h:∀(δ:DE) (S:aZ) (ds:List V3) (S':aZ),g δ S= .ok ds S'->ds.length=n):∀(δ:DE) (S:aZ) (ds:List V3) (S':aZ),bp f g δ S= .ok ds S'->ds.length=n+1:=fun δ S ds S' e=>by
 obtain⟨v,S1,h1,h2⟩:=R3.aj e;obtain⟨vs,S2,h3,h4⟩:=R3.aj h2;cases h4;rw[List.length_cons,h δ S1 vs _ h3]
end
end L3
end
section
namespace L3
open PySem PySem.Spec PyProof.Rows L2
section
variable {X:Cx} {cl:Wv}
def VP(fa fb:FX):FX:=fun δ S=>(fa δ S).bind fun a S1=>(fb δ S1).bind fun b S2=>match a,b with
 | .d x, .d y=>(R3.of (br x y) S2).bind fun d S=> .ok (.d d) S
 | .lst vs, .d (.int i)=>(match rF vs i with | some v=> .ok v S2 | none=> .no)
 | .tup vs, .d (.int i)=>(match rF vs i with | some v=> .ok v S2 | none=> .no)
 | _,_=> .no
end
end L3
end
section
namespace L3
open PySem PySem.Spec PyProof.Rows L2
section
variable {X:Cx} {cl:Wv}
structure VZ (X:Cx) (cl:Wv) (e:Expr) (f:FB):Prop where
 go:L2.PW X e (G3 X.K cl f)
def Tq(f g:FB):FB:=fun δ S=>(f δ S).bind fun b S=>if b then g δ S else .ok false S
def VB(f g:FB):FB:=fun δ S=>(f δ S).bind fun b S=>if b then .ok true S else g δ S
def TY(f:FB):FB:=fun δ S=>(f δ S).bind fun b S=> .ok (!b) S
def Tb(f:FX):FB:=fun δ S=>(f δ S).bind fun v S=>match v with | .d d=>R3.of (Lw d) S | _=> .no
abbrev JD:=DE->aZ->R3 (Option Int)
def Um(K:W.Frag)(cl:Wv)(f:JD):TO:=fun σ H Q=>∃ρ S δ o S',dt K cl ρ H S σ δ/\f δ S= .ok o S'/\∀bF H',Pre ρ H bF H'->SW K cl bF H' S'->Q o H'
structure Vw (X:Cx) (cl:Wv) (e:Option Expr) (f:JD):Prop where
 go:PO X e (Um X.K cl f)
def NB:JD:=fun _ S=> .ok none S
def ND(f:FX):JD:=fun δ S=>(f δ S).bind fun v S=>match v with | .d (.int i)=> .ok (some i) S | _=> .no
def VJ(f:FX)(fl fh:JD):FX:=fun δ S=>(f δ S).bind fun v S1=>(fl δ S1).bind fun lo S2=>(fh δ S2).bind fun hi S3=>match v with
 | .d d=>(R3.of (JI d lo hi) S3).bind fun r S=> .ok (.d r) S
 | _=> .no
end
end L3
end
section
namespace L2
open PySem PySem.Spec PyProof.Rows
section
variable {X:Cx}
def HX(t T:String):Bool:=t==T || (t=="bool" && T=="int")
def RQ(T:String)(f:FD):FD:=fun δ=>(f δ).bind fun d=>match d with | .dct _ _=> .no | _=> .ok (.bl (HX (tyName d) T))
def nList(f:FD):au->R (List D):=fun δ=>(f δ).bind fun d=>match d with | .lst ds=> .ok ds | .tup ds=> .ok ds | _=> .no
end
end L2
namespace L3
open PySem PySem.Spec PyProof.Rows L2
theorem uX{P:Program}{w:World}{K:W.Frag}{mg:Wu}{base:Heap}{cl:Wv}{x qual:Str}{st:Stmt}{f:Addr}{fd:FuncData}{N ps:List Str}{k:Nat}{F:FZ}{b:List Stmt}{sc:Scope}(hb:bh st=b)(hs:aO st=sc)(Fn:wK K x qual st f fd)(S:bz N ps sc)
 (dS:∀(d8:Value) (A:Around) (outer:List Env) (s:Shared) (H:Hp) (E:XK),eJ k (A.deeper (envOfC qual sc s.heap.objs.size f d8))->
   yA (iG rB P w K mg base N qual sc f d8 A outer s H E).BK cl b F):hJ P w K mg base rB (k+1) f fd ps (Ek K cl ps.length (rC N F)):=by
 subst hb hs;exact Fs Fn S dS
theorem MS{K:W.Frag}{mg:Wu}{cl:Wv}{st:Stmt}{N ps:List Str}{k:Nat}(h:Def K mg x st)(hb:bh st=b)(hs:aO st=sc)(S:bz N ps sc)(dS:∀(f:Addr) (d8:Value) (A:Around) (outer:List Env) (s:Shared) (H:Hp) (E:XK),eJ k (A.deeper (envOfC x sc s.heap.objs.size f d8))->N.Nodup->yA (iG rB P w K mg base N x sc f d8 A outer s H E).BK cl b F)(bd:∀(kV doc pm:Value) (an:Option Addr) (d8 ct:Value) (us:List Value),us.length=ps.length->bindArgs (PySem.W.fnOf x x (jW st) (bh st) (aO st) .none kV doc pm an d8 ct) ⟨us,[]⟩=pure (ps.zip us):=by intro _ _ _ _ _ _ us hl;rcases us with _ | ⟨_,_ | ⟨_,_ | ⟨_,_ | ⟨_,_ | ⟨_,_ | ⟨_,_ | ⟨_,_⟩⟩⟩⟩⟩⟩⟩ <;> first | (simp at hl;done) | rfl):iI P w K mg base cl (k+1) x ps.length (rC N F):=by
 obtain⟨f,fd,F,hm⟩:=h;exact⟨f,fd,_,uX hb hs F S (fun d8 A outer s H E hr=>dS f d8 A outer s H E hr S.nd),hm,F.kp,F.binds bd⟩
theorem iI.p{K:W.Frag}{mg:Wu}{cl:Wv}{k:Nat}{n:Nat}{N:List Str}(C:iI P w K mg base cl k x n (rC N F)):iI P w K mg base cl k x n (wj N F):=
 let⟨f,fd,ps,F,h⟩:=C;⟨f,fd,ps,F.imp fun _ _ _ _ h=>B4 h,h⟩
def My(N:List Str)(F:FZ):List D->R D:=fun ds=>match wj N F (ds.map .d) [] with
 | .ok (.d d) []=>R.aS d.atom (.ok d)
 | _=> .no
theorem Iy{K:W.Frag}{cl:Wv}{N:List Str}{n:Nat}{vs:List V}{Q:VK}{E:XK}(h:Fu K n (My N F) vs H Q E):Ek K cl n (rC N F) vs H Q E:=by
 obtain⟨hl,B,ds,d,hb,r,hg,q⟩:=h;unfold My at hg;split at hg
 .rename_i d' e;obtain⟨ha,h2⟩:=R.aX hg;cases h2;have r0:aD K (⟨[],[],[]⟩:P3).b H ds vs:=r.bc fun b o e _=>⟨e,by simp [P3.b]⟩
  refine B4 ⟨hl,⟨[],[],[]⟩,[],ds.map .d, .d d,[],⟨rfl,fun i j a hi=>by simp at hi,fun k a o hk=>by simp at hk,fun b hb=>by simp at hb,fun k a hk=>by simp at hk,fun b hb=>by simp at hb,fun k a hk=>by simp at hk⟩,aL.of r0,e,fun u bF H' p w' r'=>q u H' (fun b o eb=>?_) ?_⟩
  .exact(p.bc b o eb (by simp [P3.b])).1
  .unfold bq at r';exact r'.atom ha
 .cases hg
section
variable {X:Cx} {cl:Wv}
def Ot(f:FX):FA:=fun δ S=>(f δ S).bind fun v S=>match v with | .d (.tup ds)=> .ok (ds.map .d) S | .tup vs=> .ok vs S | _=> .no
end
end L3
end
section
namespace L3
open PySem PySem.Spec PyProof.Rows L2
def W3{α:Type}(r:R3 α)(Q:α->aZ->Prop):Prop:=∃a S,r= .ok a S/\Q a S
section
variable {α β:Type} {Q Q':α->aZ->Prop} {S:aZ} {δ:DE}
theorem W3.ok{a:α}(h:Q a S):W3 (.ok a S) Q:=⟨a,S,rfl,h⟩
theorem W3.bind{Q:β->aZ->Prop}{r:R3 α}{f:α->aZ->R3 β}(h:W3 r fun a S=>W3 (f a S) Q):W3 (r.bind f) Q:=by
 obtain⟨a,S1,e1,b,S2,h2,q⟩:=h;exact⟨b,S2,by rw[e1];exact h2,q⟩
theorem W3.mono{r:R3 α}(h:W3 r Q)(m:∀a S,Q a S->Q' a S):W3 r Q':=let⟨a,S,e,q⟩:=h;⟨a,S,e,m a S q⟩
theorem W3.wh{c:Bool}{r:R3 α}(hc:c=true)(h:W3 r Q):W3 (R3.aS c r) Q:=by rw[hc];exact h
theorem W3.of{r:R α}{a:α}(e:r= .ok a)(h:Q a S):W3 (R3.of r S) Q:=by rw[e];exact⟨a,S,rfl,h⟩
end
section
variable {S:aZ} {δ:DE} {QV:V3->aZ->Prop} {QB:Bool->aZ->Prop} {QA:List V3->aZ->Prop} {QO:Ou->aZ->Prop}
theorem cW{f:FD}{d:D}(e:f (down δ)= .ok d)(h:QV (.d d) S):W3 (xP f δ S) QV:=W3.bind (W3.of e (W3.ok h))
theorem pf{f:au->R Bool}{b:Bool}(e:f (down δ)= .ok b)(h:QB b S):W3 (bP f δ S) QB:=W3.of e h
theorem Lg{f:au->R Bool}{b:Bool}(e:f (ib S δ)= .ok b)(h:QB b S):W3 (bT f δ S) QB:=W3.of e h
theorem w_var{i:Nat}{v:V3}(e:δ[i]? =some (some v))(h:QV v S):W3 (iF i δ S) QV:=by unfold iF;rw [e];exact W3.ok h
theorem BI{f:au->R (List D)}{ds:List D}(e:f (down δ)= .ok ds)(h:QV (.loc S.length) (S++[.lst ds])):W3 (Bz f δ S) QV:=W3.bind (W3.of e (W3.ok h))
theorem c6(h:QA [] S):W3 (fK δ S) QA:=W3.ok h
theorem aG{f:FX}{g:FA}(h:W3 (f δ S) fun v S1=>W3 (g δ S1) fun vs S2=>QA (v ::vs) S2):W3 (bp f g δ S) QA:=W3.bind (h.mono fun _ _ h=>W3.bind (h.mono fun _ _ h=>W3.ok h))
theorem kq{g:FA}(h:W3 (g δ S) fun vs S1=>vs.length<=sizeLine/\QV (pZ vs) S1):W3 (ze g δ S) QV:=W3.bind (h.mono fun _ _ h=>W3.wh (decide_eq_true h.1) (W3.ok h.2))
theorem Dh{g:D->D->R D}{fa fb:FX}(h:W3 (fa δ S) fun a S1=>W3 (fb δ S1) fun b S2=>∃x y d,a= .d x/\b= .d y/\g x y= .ok d/\QV (.d d) S2):W3 (x2 g fa fb δ S) QV:=
 W3.bind (h.mono fun _ _ h=>W3.bind (h.mono fun _ _ ⟨_,_,_,e1,e2,e3,q⟩=>by subst e1 e2;exact W3.bind (W3.of e3 (W3.ok q))))
theorem NV{g:D->D->R D}{fa fb:FX}(h:W3 (fa δ S) fun a S1=>W3 (fb δ S1) fun b S2=>∃x y k,a= .d x/\b= .d y/\g x y= .ok (.bl k)/\QB k S2):W3 (ME g fa fb δ S) QB:=
 W3.bind (Dh (h.mono fun _ _ h=>h.mono fun _ _ ⟨x,y,k,e1,e2,e3,q⟩=>⟨x,y, .bl k,e1,e2,e3,W3.ok q⟩))
theorem tY{g:List V3->aZ->R3 V3}{fs:FA}(h:W3 (fs δ S) fun vs S1=>W3 (g vs S1) QV):W3 (h_ g fs δ S) QV:=W3.bind h
theorem Hu{it:FA}{own:List Str}{kp:List Nat}(h:W3 (it δ S) fun vs S1=>vs.length<=sizeLine/\W3 (lD t c f (mj own kp δ) vs S1) fun ys S2=>QV (pZ ys) S2):W3 (jx it t c f own kp δ S) QV:=
 W3.bind (h.mono fun _ _ h=>W3.wh (decide_eq_true h.1) (W3.bind (h.2.mono fun _ _ h=>W3.ok h)))
theorem bN{F G:FZ}(h:W3 (F δ S) fun o S1=>∃δ1,o= .nx δ1/\W3 (G δ1 S1) QO):W3 (bK F G δ S) QO:=W3.bind (h.mono fun _ _ ⟨_,e,h⟩=>by subst e;exact h)
theorem bx{i:Nat}{f:FX}(hi:i < δ.length)(h:W3 (f δ S) fun v S1=>QO (.nx (δ.set i (some v))) S1):W3 (cf i f δ S) QO:=W3.bind (h.mono fun _ _ h=>W3.wh (decide_eq_true hi) (W3.ok h))
theorem sM{f:FX}(h:W3 (f δ S) fun v S1=>QO (.rt v) S1):W3 (oV f δ S) QO:=W3.bind (h.mono fun _ _ h=>W3.ok h)
theorem xi{c:FB}{F G:FZ}(h:W3 (c δ S) fun b S1=>if b then W3 (F δ S1) QO else W3 (G δ S1) QO):W3 (uB c F G δ S) QO:=W3.bind (h.mono fun b _ h=>by cases b <;> exact h)
theorem KO{f:FX}{t:FG}(h:W3 (f δ S) fun v S1=>∃δ1,t v δ=some δ1/\QO (.nx δ1) S1):W3 (Hv f t δ S) QO:=W3.bind (h.mono fun _ _ ⟨_,e,q⟩=>by rw[e];exact W3.ok q)
theorem mP(h:QO (.nx δ) S):W3 (lB δ S) QO:=W3.ok h
theorem mU{f:au->R (List D)}{ds:List D}(e:f (down δ)= .ok ds)(h:QA (ds.map .d) S):W3 (iP f δ S) QA:=W3.bind (W3.of e (W3.ok h))
theorem yU{it:FA}(h:W3 (it δ S) fun vs S1=>W3 (gh t F vs δ S1) QO):W3 (qD it t F δ S) QO:=W3.bind h
theorem BM{i k:Nat}{f:FX}(hk:δ[i]? =some (some (.loc k)))(h0:∃ds,S[k]? =some (.lst ds))(h:W3 (f δ S) fun v S1=>∃d ds,v= .d d/\S1[k]? =some (.lst ds)/\ds.length < sizeLine/\QO (.nx δ) (S1.set k (.lst (ds++[d])))):W3 (xC i f δ S) QO:=by
 obtain⟨es,h0⟩:=h0;unfold xC;have e1:gW δ i=some k:=by unfold gW;rw [hk]
 have e2:c7 S k=some es:=by unfold c7;simp only[h0]
 rw[e1];show W3 (match c7 S k with | none=>_ | some _=>_) _
 rw[e2];refine W3.bind (h.mono fun v S1 ⟨d,ds,e,h1,hl,q⟩=>?_)
 subst e;have e3:c7 S1 k=some ds:=by unfold c7;simp only[h1]
 show W3 (match c7 S1 k with | some ds=>_ | none=>_) _
 rw[e3];exact W3.wh (decide_eq_true hl) (W3.ok q)
theorem qH{t:FG}{body:FZ}:∀(vs:List V3) (n:Nat) (P:Nat->DE->aZ->Prop) {δ:DE} {S:aZ},P n δ S->
 (∀i v δ S,vs[i]? =some v->P (n+i) δ S->∃δ1,t v δ=some δ1/\W3 (body δ1 S) fun o S1=>∃dX,o= .nx dX/\P (n+i+1) dX S1)->W3 (gh t body vs δ S) fun o S1=>∃dX,o= .nx dX/\P (n+vs.length) dX S1
 | [],n,P,δ,S,h0,_=>W3.ok ⟨δ,rfl,h0⟩
 | v ::vs,n,P,δ,S,h0,hs=>by
   obtain⟨δ1,e1,o,S1,e2,dX,rfl,p2⟩:=hs 0 v δ S rfl h0;have ih:=qH vs (n+1) P p2 (fun i v' cT S' hi hp=>by
    have:=hs (i+1) v' cT S' (by simpa using hi) (by rw[show n+(i+1)=n+1+i by omega];exact hp)
    rw[show n+(i+1)+1=n+1+i+1 by omega] at this
    exact this)
   rw[show n+1+vs.length=n+(v ::vs).length by rw[List.length_cons];omega] at ih
   unfold gh;rw[e1];refine W3.bind ⟨_,_,e2,?_⟩;exact ih
theorem l6{t:FG}{body:FZ}{vs:List V3}(P:Nat->DE->aZ->Prop){δ:DE}{S:aZ}(h0:P 0 δ S)
 (hs:∀i v δ S,vs[i]? =some v->P i δ S->∃δ1,t v δ=some δ1/\W3 (body δ1 S) fun o S1=>∃dX,o= .nx dX/\P (i+1) dX S1):W3 (gh t body vs δ S) fun o S1=>∃dX,o= .nx dX/\P vs.length dX S1:=by
 have:=qH (t:=t) (body:=body) vs 0 P h0 (fun i v δ S hi hp=>by simpa using hs i v δ S hi (by simpa using hp))
 simpa using this
theorem qP{t:FG}{c:FB}{f:FX}{δ:DE}:∀(vs:List V3) (n:Nat) (P:Nat->List V3->aZ->Prop) {ys:List V3} {S:aZ},P n ys S->
 (∀i v ys S,vs[i]? =some v->P (n+i) ys S->∃δ1,t v δ=some δ1/\W3 (c δ1 S) fun b S1=>if b then W3 (f δ1 S1) fun y S2=>P (n+i+1) (ys++[y]) S2 else P (n+i+1) ys S1)->W3 (lD t c f δ vs S) fun zs S1=>P (n+vs.length) (ys++zs) S1
 | [],n,P,ys,S,h0,_=>W3.ok (by rw[List.append_nil];exact h0)
 | v ::vs,n,P,ys,S,h0,hs=>by
   obtain⟨δ1,e1,b,S1,e2,h2⟩:=hs 0 v ys S rfl h0;have ih:∀{LK S'},P (n+1) LK S'->W3 (lD t c f δ vs S') fun zs S1=>P (n+(v ::vs).length) (LK++zs) S1:=fun {LK S'} p=>by
    have:=qP (t:=t) (c:=c) (f:=f) (δ:=δ) vs (n+1) P p (fun i v' LK S' hi hp=>by
     have:=hs (i+1) v' LK S' (by simpa using hi) (by rw[show n+(i+1)=n+1+i by omega];exact hp)
     rw[show n+(i+1)+1=n+1+i+1 by omega] at this
     exact this)
    rw[show n+1+vs.length=n+(v ::vs).length by rw[List.length_cons];omega] at this
    exact this
   unfold lD;rw[e1];refine W3.bind ⟨b,S1,e2,?_⟩;cases b with
   | true=>
     rw[if_pos rfl] at h2 ⊢;exact W3.bind (h2.mono fun y S2 p=>W3.bind ((ih p).mono fun zs S3 q=>W3.ok (by rw[List.append_assoc] at q;exact q)))
   | false=>rw [if_neg (by decide)] at h2 ⊢;exact ih h2
theorem zA{t:FG}{c:FB}{f:FX}{δ:DE}{vs:List V3}(P:Nat->List V3->aZ->Prop){S:aZ}(h0:P 0 [] S)
 (hs:∀i v ys S,vs[i]? =some v->P i ys S->∃δ1,t v δ=some δ1/\W3 (c δ1 S) fun b S1=>if b then W3 (f δ1 S1) fun y S2=>P (i+1) (ys++[y]) S2 else P (i+1) ys S1):W3 (lD t c f δ vs S) fun zs S1=>P vs.length zs S1:=by
 have:=qP (t:=t) (c:=c) (f:=f) (δ:=δ) vs 0 P h0 (fun i v ys S hi hp=>by simpa using hs i v ys S hi (by simpa using hp))
 simpa using this
theorem uD{QB:Bool->aZ->Prop}(h:QB true S):W3 (xn δ S) QB:=W3.ok h
theorem Mp{N:List Str}{F:FZ}{vs:List V3}{δ:DE}(e:dC N vs=δ)(h:W3 (F δ S) fun o S1=>∃v,o= .rt v/\QV v S1):W3 (rC N F vs S) QV:=by
 subst e;exact W3.bind (h.mono fun _ _ ⟨_,e,q⟩=>by subst e;exact W3.ok q)
def Qd(S:aZ):Prop:=∀o∈S,∃ds,o=SO.lst ds
end
section
variable {S:aZ} {δ:DE} {QV:V3->aZ->Prop}
theorem iO{it:FA}{t:FG}{c:FB}{f:FX}{own:List Str}{kp:List Nat}(P:Nat->List D->aZ->Prop)(h:W3 (it δ S) fun vs S1=>vs.length<=sizeLine/\P 0 [] S1/\
 (∀i v ds S2,vs[i]? =some v->P i ds S2->∃δ1,t v (mj own kp δ)=some δ1/\W3 (c δ1 S2) fun b S3=>if b then W3 (f δ1 S3) fun y S4=>∃d,y= .d d/\P (i+1) (ds++[d]) S4 else P (i+1) ds S3)/\
 ∀ds S2,P vs.length ds S2->QV (.d (.lst ds)) S2):W3 (jx it t c f own kp δ S) QV:=by
 refine Hu (h.mono fun vs S1 ⟨hl,h0,hs,hq⟩=>⟨hl,?_⟩)
 refine(zA (fun i ys S=>∃ds,ys=ds.map V3.d/\P i ds S) ⟨[],rfl,h0⟩ ?_).mono fun zs S2 ⟨ds,e,p⟩=>?_
 .rintro i v ys S2 hv ⟨ds,rfl,p⟩;obtain⟨δ1,e1,h1⟩:=hs i v ds S2 hv p;refine⟨δ1,e1,h1.mono fun b S3 h3=>?_⟩
  cases b with
  | true=>
    rw[if_pos rfl] at h3 ⊢;exact h3.mono fun y S4 ⟨d,e,p⟩=>by subst e;exact⟨ds++[d],by simp,p⟩
  | false=>rw [if_neg (by decide)] at h3 ⊢;exact⟨ds,rfl,h3⟩
 .subst e;unfold pZ;rw[vn];exact hq ds S2 p
structure dH (n:Nat) (d:D):Prop where
 pl:dU d=true
 ly:(toPy d).canLay0=true
 dp:(toPy d).depth<=n
theorem dH.int(i:Int):dH 0 (.int i):=⟨by unfold dU;rfl,by unfold toPy PyData.canLay0;rfl,by unfold toPy PyData.depth;omega⟩
theorem dH.bl(b:Bool):dH 0 (.bl b):=⟨by unfold dU;rfl,by unfold toPy PyData.canLay0;rfl,by unfold toPy PyData.depth;omega⟩
theorem dH.str(h:(PyData.str s).canLay0=true):dH 0 (.str s):=⟨by unfold dU;rfl,by unfold toPy;exact h,by unfold toPy PyData.depth;omega⟩
theorem dH.mono{n m:Nat}{d:D}(h:dH n d)(hm:n<=m):dH m d:=⟨h.pl,h.ly,Nat.le_trans h.dp hm⟩
theorem dH.all{n:Nat}:∀{ds:List D},(∀d∈ds,dH n d)->iS ds=true/\PyData.canLayAll0 (kc ds)=true/\PyData.depthAll (kc ds)<=n
 | [],_=>⟨by unfold iS;rfl,by unfold kc PyData.canLayAll0;rfl,by unfold kc PyData.depthAll;omega⟩
 | d ::ds,h=>by
   obtain⟨h1,h2,h3⟩:=dH.all (ds:=ds) fun x hx=>h x (List.mem_cons_of_mem _ hx)
   have f:=h d List.mem_cons_self;refine⟨by unfold iS;rw [f.pl,h1];rfl,by unfold kc PyData.canLayAll0;rw [f.ly,h2];rfl,?_⟩
   unfold kc PyData.depthAll;have:=f.dp;omega
theorem dH.lst{n:Nat}{ds:List D}(h:∀d∈ds,dH n d):dH (n+1) (.lst ds):=by
 obtain⟨h1,h2,h3⟩:=dH.all h;exact⟨by unfold dU;exact h1,by unfold toPy PyData.canLay0;exact h2,by unfold toPy PyData.depth;omega⟩
theorem dH.tup{n:Nat}{ds:List D}(h:∀d∈ds,dH n d):dH (n+1) (.tup ds):=by
 obtain⟨h1,h2,h3⟩:=dH.all h;exact⟨by unfold dU;exact h1,by unfold toPy PyData.canLay0;exact h2,by unfold toPy PyData.depth;omega⟩
theorem dH.sh{n:Nat}{d:D}(h:dH n d)(hn:n<=64):SeqAt.shaped (toPy d)=true:=by
 unfold SeqAt.shaped;rw[h.ly,decide_eq_true (Nat.le_trans h.dp hn)];rfl
theorem xa{d e:List D}:Gp (.lst d) (.lst e)=R.aS (dU (.lst d) && dU (.lst e) && SeqAt.shaped (toPy (.lst d)) && SeqAt.shaped (toPy (.lst e))) (.ok (PyData.eqv (toPy (.lst d)) (toPy (.lst e)))):=rfl
theorem dH.Us{n:Nat}{ds:List D}(h:dH n (.lst ds))(hn:n<=64):Gp (.lst ds) (.lst ds)= .ok true:=by
 rw[xa,h.pl,h.sh hn,SeqAt.eqv_refl _ h.ly];rfl
end
end L3
end
section
namespace L2
open PySem PySem.Spec PyProof.Rows
section
variable {X:Cx}
def F7:D->Bool | .cI=>true | _=>false
def Vg(d e:D):R D:=match e with | .cI=> .ok (.bl (F7 d)) | _=> .no
def SU(d e:D):R D:=match e with | .cI=> .ok (.bl (!F7 d)) | _=> .no
theorem Ac:jC X (.type "int") (fun xs H Q=>∃x n,xs=[.str x]/\PySem.intText? x=some n/\x.length<=640/\Q (.int n) H):=by
 intro pins s σ H xs us Q I r h;obtain⟨x,n,rfl,h1,h2,q⟩:=h;obtain⟨u,rfl,ru⟩:=vals1 r;obtain⟨t,rfl⟩:=ru;exact PySem.W.KIN.call_text h1 h2 ⟨.int n,H,I.tok _,⟨_,rfl⟩,q⟩
def Bs:List D->R D
 | [.str x]=>R.aS (decide (x.length<=640)) (match PySem.intText? x with | some n=> .ok (.int n) | none=> .no)
 | _=> .no
theorem GH:cN X (.type "int") Bs:=cN.of Ac fun B H ds d xs Q _ rs hg q=>by
 unfold Bs at hg;split at hg
 .obtain⟨h1,h2⟩:=R.aX hg;split at h2
  .rename_i e;cases h2;obtain⟨x,rfl,r⟩:=rs.one;exact⟨_,_,by rw[Rep.str.mp r],e,of_decide_eq_true h1,q _ H (aU.refl H) (Rep.int.mpr rfl)⟩
  .cases h2
 .cases hg
def ng(ds:List D):R D:=match ds with | [.str _]=>Bs ds | _=>cInt ds
theorem wo:cN X (.type "int") ng:=cN.or GH K0 fun a d h=>by
 unfold ng at h;split at h
 .exact .inl h
 .exact .inr h
def Ex(f:FD):FD:=fun δ=>(f δ).bind fun d=>match d with | .int i=> .ok (.int (-i)) | _=> .no
theorem yg(h:QD X a f):QD X (.UnaryOp .USub a pos) (Ex f):=⟨(Kd Hw h.1).imp fun σ H Q ⟨Z,B,δ,d,E,hf,q⟩=>by
 obtain⟨d1,h1,h2⟩:=R.aj hf;split at h2
 .cases h2;exact⟨Z,B,δ,_,E,h1,fun v H1 s1 r1=>⟨_,Rep.int.mp r1,q _ H1 s1 (Rep.int.mpr rfl)⟩⟩
 .cases h2⟩
def PY(d:D)(ds:List D):R D:=match d,ds with
 | .str x,[.str y]=> .ok (.int (Txt.find x y))
 | _,_=> .no
def S7(aC:List (Str × Str)):D:= .dct (aC.map fun p=>Sum.inr p.1) (aC.map fun p=> .str p.2)
def V1(aC:List (Str × Str)):List (Key × V):=aC.map fun p=>((Sum.inr p.1:Key),V.str p.2)
def Ub(d k:D):R D:=match d,k with
 | .dct ks ds, .str x=>(match (ks.zip ds).find? fun p=>decide (p.1=Sum.inr x) with | some p=> .ok p.2 | none=> .no)
 | _,_=> .no
theorem oK{K:W.Frag}{B:List Addr}{k:Key}{v:Key × D}:∀{aC:List (Key × V)} {ds:List D},aD K B H ds (aC.map (·.2))->(((aC.map (·.1)).zip ds).find? fun p=>decide (p.1=k))=some v->∃x,iE aC k=some x/\Rep K B H v.2 x
 | [],ds,r,h=>by simp at h
 | (k1,v1) ::aC,[],r,h=>by simp at h
 | (k1,v1) ::aC,d ::ds,r,h=>by
   obtain⟨x,xs,e,r1,r2⟩:=r.b9;cases e;rw[List.map_cons,List.zip_cons_cons,List.find?_cons] at h;unfold iE;rw[List.find?_cons];by_cases hk:k1=k
   .have e1:decide (k1=k)=true:=decide_eq_true hk;simp only[e1] at h ⊢;cases h;exact⟨_,rfl,r1⟩
   .have e1:decide (k1=k)=false:=decide_eq_false hk;simp only[e1] at h ⊢;exact oK r2 h
end
end L2
namespace L3
open PySem PySem.Spec PyProof.Rows L2
section
variable {X:Cx} {cl:Wv}
def PQ(f:FX):FB:=fun δ S=>(f δ S).bind fun v S=>match v with | .d (.bl b)=> .ok b S | _=> .no
def R_(f g:FX):FX:=fun δ S=>(PQ f δ S).bind fun b S=>if b then g δ S else .ok (.d (.bl false)) S
def Vo(f g:FX):FX:=fun δ S=>(PQ f δ S).bind fun b S=>if b then .ok (.d (.bl true)) S else g δ S
def wZ(i:Nat)(F:FZ):FZ:=fun δ S=>match gW δ i with
 | some k=>(match c7 S k with | some ds=>F (δ.set i (some (.d (.lst ds)))) (S.set k .jn) | none=> .no)
 | none=> .no
theorem tR(i:Nat)(h:yA X cl GB F):yA X cl GB (wZ i F):=⟨h.1.imp fun D σ H ⟨ρ,S,δ,o,S',E,hf,q⟩=>by
 unfold wZ at hf;split at hf
 .rename_i k hk;split at hf
  .rename_i ds hds;obtain⟨v,v1,v2⟩:=E.val i _ (mO hk);unfold bq at v2;obtain⟨a,a1,rfl⟩:=v2;obtain⟨w,p,r⟩:=E.sw.jn a1 (jV hds);have E1:dt X.K cl ⟨ρ.r,ρ.z,a ::ρ.f⟩ H (S.set k .jn) σ (δ.set i (some (.d (.lst ds)))):=⟨by rw[List.length_set];exact E.len,w,fun j d e=>by
    by_cases h:i=j
    .subst h;rw[List.getElem?_set_self (by obtain⟨h1,_⟩:=List.getElem?_eq_some_iff.mp (mO hk);exact h1)] at e
     cases e;exact⟨_,v1,by unfold bq;exact r⟩
    .rw [List.getElem?_set_ne h] at e;obtain⟨u,u1,u2⟩:=E.val j d e;exact⟨u,u1,u2.pre p⟩⟩
   exact⟨_,_,_,o,S',E1,hf,q.pre p⟩
  .cases hf
 .cases hf⟩
theorem A0{i k:Nat}{ds:List D}{F:FZ}{δ:DE}{S:aZ}{QO:Ou->aZ->Prop}(hk:δ[i]? =some (some (.loc k)))(hS:S[k]? =some (.lst ds))(h:W3 (F (δ.set i (some (.d (.lst ds)))) (S.set k .jn)) QO):W3 (wZ i F δ S) QO:=by
 unfold wZ;have e1:gW δ i=some k:=by unfold gW;rw [hk]
 have e2:c7 S k=some ds:=by unfold c7;simp only[hS]
 simp only[e1,e2];exact h
end
def Flat(S:aZ):Prop:=∀o∈S,∀n,vJ n o=true
theorem Flat.nil:Flat []:=fun o ho=>by cases ho
end L3
end
section
namespace PySem
open Sem (wp)
open AutoSeq1 (wpAny_loadPart')
section
variable {prog:Program} {w:World} {A:Around} {E:Wq} {s:Shared}
end
end PySem
namespace L2
open PySem PySem.Spec PyProof.Rows
section
variable {X:Cx}
def Mz(f:FD):FD:=fun δ=>(f δ).bind fun d=>match d with
 | .int j=>R.aS (decide (-(2 ^ 62)<=j/\j < 16777216)) (.ok (.tup (kH 0 j.toNat)))
 | _=> .no
theorem xF{n:Nat}{acc:Array Value}(h:ItemsOf (fun i v=>∃t,v=Value.int (0+(i:Int)*1) t) acc n):Vals ((List.range n).map fun(i:Nat)=>V.int (0+(i:Int))) acc.toList:=by
 obtain⟨hl,h⟩:=h;have gen:∀(l:List Value) (m:Nat),(∀j v,l[j]? =some v->∃t,v=Value.int (((m+j:Nat):Int)) t)->Vals ((List.range' m l.length).map fun(i:Nat)=>V.int (0+(i:Int))) l:=by
  intro l
  induction l with
  | nil=>intro m _;exact .nil
  | cons x l ih=>
    intro m hv;rw[List.length_cons,List.range'_succ,List.map_cons];obtain⟨t,e⟩:=hv 0 x rfl;refine .cons ⟨t,by rw[e];simp⟩ (ih (m+1) fun j v hj=>?_)
    obtain⟨t,e⟩:=hv (j+1) v (by simpa using hj)
    exact⟨t,by rw[e];congr 1;omega⟩
 have:=gen acc.toList 0 fun j v hj=>by
  obtain⟨t,e⟩:=h j v (by rw[<-hj];simp)
  exact⟨t,by rw[e];congr 1;omega⟩
 rw[<-hl,List.range_eq_range'];simpa using this
theorem uK{K:W.Frag}{B:List Addr}:∀l:List Nat,aD K B H (l.map fun(i:Nat)=>D.int (0+(i:Int))) (l.map fun(i:Nat)=>V.int (0+(i:Int)))
 | []=>aD.nil
 | i ::l=>aD.cons (Rep.int.mpr rfl) (uK l)
end
end L2
end
section
namespace PySem
open Sem (wp)
open AutoSeq1 (wpAny_loadPart')
section
variable {prog:Program} {w:World} {A:Around} {E:Wq} {s:Shared}
end
end PySem
namespace L2
open PySem PySem.Spec PyProof.Rows
def T5(K:W.Frag)(a:Addr):It:=
 ⟨fun i H=>∃xs x,oy K H a xs/\xs[i]? =some x,fun i H v H'=>∃p x,H p=none/\v= .ref p/\(∀xs,oy K H a xs->xs[i]? =some x)/\H'=upd H p (.tup [.int i,x]),fun i H=>∃xs,oy K H a xs/\xs.length<=i⟩
section
variable {X:Cx}
def Mt(f:FD):au->R (List D):=fun δ=>(f δ).bind fun d=>match d with | .tup ds=> .ok (gq ds) | _=> .no
end
end L2
end
section
namespace L2
open PySem PySem.Spec PyProof.Rows
section
variable {X:Cx}
abbrev Qv:D->D->R D:=C_ (fun _ j=>decide (0 < j/\j.natAbs.log2 < 9000)) fun i j=>i / j
theorem vA:∀{ns:List Int} {us:List Value},Vals (ns.map V.int) us->IntsAre us ns
 | [],_, .nil=> .nil
 | n ::ns,_, .cons r t=>by obtain⟨tk,rfl⟩:=r;exact .cons _ _ (vA t)
theorem vw{K:W.Frag}{B:List Addr}{ds:List D}{xs:List V}(r:aD K B H ds xs):∀n:Nat,aD K B H (List.replicate n ds).flatten (List.replicate n xs).flatten
 | 0=>aD.nil
 | n+1=>by rw[List.replicate_succ,List.replicate_succ,List.flatten_cons,List.flatten_cons];exact r.append (vw r n)
def AZ(f:au->R (List D))(g:FD):au->R (List D):=fun δ=>(f δ).bind fun ds=>(g δ).bind fun d=>match d with
 | .int k=>R.aS (decide (0<=k/\k < 1000000/\ds.length*k.toNat<=sizeLine)) (.ok (List.replicate k.toNat ds).flatten)
 | _=> .no
theorem yX{f:au->R (List D)}(ha:QN X a f)(hb:QD X b g):QN X (.BinOp a .Mult b pos) (AZ f g):=by
 refine⟨(Ct II ha.1 hb.1).imp fun σ H Q ⟨Z,B,δ,es,E,hf,q⟩=>?_⟩
 obtain⟨ds,h1,h2⟩:=R.aj hf;obtain⟨d,h3,h4⟩:=R.aj h2;split at h4
 .rename_i k;obtain⟨h5,h6⟩:=R.aX h4;cases h6;obtain⟨k0,k1,k2⟩:=of_decide_eq_true h5;refine⟨Z,B,δ,ds,E,h1,fun a xs H1 s1 n1 e1 r1=>⟨Z,B,δ, .int k,E.same s1,h3,fun v H2 s2 r2=>⟨a,k,xs,rfl,Rep.int.mp r2,s2 a _ e1,by omega,by omega,by rw[<-r1.length];exact k2,fun p hp=>?_⟩⟩⟩
  refine q p _ _ (s1.trans (s2.trans (bg hp))) ((s1.trans s2).free hp) a_ ?_;refine(vw r1 k.toNat).bc fun b o e nb=>⟨(s2.trans (bg hp)) b o e,fun hm=>?_⟩
  rcases List.mem_cons.mp hm with z | z
  .rw [z] at e;rw [s2 p _ e] at hp;cases hp
  .exact nb (List.mem_cons_of_mem _ z)
 .cases h4
def yJ(ns:List Int):List Int:=ns.mergeSort fun a b=>decide (a<=b)
def Mq:List D->R D
 | [.lst ds]=>(match ints? ds with | some ns=>R.aS (decide (ns.length < 64)) (.ok (.lst ((yJ ns).map .int))) | none=> .no)
 | _=> .no
theorem getD_in{l:List Int}{i:Nat}(h:i < l.length):l.getD i 0∈l:=by
 have e:l.getD i 0=l[i]:=by simp [h]
 rw[e];exact List.getElem_mem h
theorem fold_min:∀(ns:List Int) (n:Int),ns.foldl min n∈n ::ns/\∀a∈n ::ns,ns.foldl min n<=a
 | [],n=>⟨by simp,fun a ha=>by simp at ha;subst ha;exact Int.le_refl _⟩
 | x ::ns,n=>by
   obtain⟨h1,h2⟩:=fold_min ns (min n x);rw[List.foldl_cons];refine⟨?_,fun a ha=>?_⟩
   .rcases List.mem_cons.mp h1 with z | z
    .rw [z];by_cases hc:n<=x
     .rw [Int.min_eq_left hc];simp
     .rw [Int.min_eq_right (by omega)];simp
    .exact List.mem_cons_of_mem _ (List.mem_cons_of_mem _ z)
   .have hm:=h2 _ List.mem_cons_self;rcases List.mem_cons.mp ha with z | z
    .subst z;omega
    .rcases List.mem_cons.mp z with z | z
     .subst z;omega
     .exact h2 a (List.mem_cons_of_mem _ z)
def uW:List D->R D
 | [.lst ds]=>(match ints? ds with | some (n ::ns)=> .ok (.int (ns.foldl min n)) | _=> .no)
 | ds=>EZ ds
def Ra:List D->R D
 | [.lst ds]=>(match ints? ds with | some (n ::ns)=> .ok (.int (ns.foldl max n)) | _=> .no)
 | ds=>NX ds
theorem Bi(hc:X.calm=true):cN X (.builtin "min") uW:=by
 intro pins s σ H B ds d xs us I hb rx rs hg;unfold uW at hg;split at hg
 .split at hg
  .rename_i es n ns e;cases hg;obtain⟨x,rfl,r⟩:=rs.one;obtain⟨a,ys,rfl,l,r⟩:=Rep.lst.mp r;obtain⟨u,rfl,ru⟩:=vals1 rx;cases ru;obtain⟨its,k,rv,e1,hz⟩:=I.Dk l;rw[dO r e] at rv;obtain⟨ps,rfl,hps⟩:=f_ rv;have hl:s.heap.IsList a (intItems ps.toArray):=⟨_,e1,rfl,k,by simp [intItems]⟩
   have hlp:ps.length=ns.length+1:=by have:=congrArg List.length hps;simpa using this
   refine min_intList (I.ok.hd hc) hl (by simp;omega) fun v h' tk hv hk=>?_
   obtain⟨t,rfl⟩:=intItems_at hv;obtain⟨b1,b2⟩:=argBest_lt (numAt ps.toArray) (ps.toArray.size - 1);refine⟨.int _,H,I.kept hk,⟨t,rfl⟩,aU.refl H,Rep.int.mpr ?_⟩;obtain⟨m1,m2⟩:=fold_min ns n;have hge:∀j,j < ps.length->numAt ps.toArray j=(n ::ns).getD j 0:=fun j hj=>by rw[numAt_eq,<-hps]
   have hin:numAt ps.toArray (argBest (fun i j=>decide (numAt ps.toArray i < numAt ps.toArray j)) (ps.toArray.size - 1))∈n ::ns:=by
    rw[hge _ (by simp at b1 ⊢;omega)];exact getD_in (by simp at b1 ⊢;omega)
   have hle:=m2 _ hin;obtain⟨j,hj,ej⟩:=List.getElem_of_mem m1;have Dn:j < ns.length+1:=by simpa using hj
   have h3:=b2 j (by simp;omega)
   rw[hge j (by omega)] at h3
   have h4:(n ::ns).getD j 0=ns.foldl min n:=by rw[<-ej,List.getD_eq_getElem?_getD,List.getElem?_eq_getElem hj];rfl
   rw[h4] at h3;congr 1;omega
  .cases hg
 .exact Lf hc pins s σ H B _ d xs us I hb rx rs hg
end
end L2
namespace L3
open PySem PySem.Spec PyProof.Rows L2
def Kw(S:aZ):V3->Option (List D)
 | .d (.lst ds)=>some ds
 | .loc k=>c7 S k
 | _=>none
section
variable {X:Cx} {cl:Wv}
def Tw(fa fb:FX):FX:=fun δ S=>(fa δ S).bind fun a S1=>(fb δ S1).bind fun b S2=>match Kw S2 a,Kw S2 b with
 | some ds,some es=>R3.aS (decide (ds.length+es.length<=sizeLine)) (.ok (.loc S2.length) (S2++[.lst (ds++es)]))
 | _,_=> .no
def Uq(i:Nat):FZ:=fun δ S=>match gW δ i with
 | none=> .no
 | some k=>(match c7 S k with | some _=> .ok (.nx δ) (S.set k (.lst [])) | none=> .no)
end
end L3
end
section
namespace L3
open PySem PySem.Spec PyProof.Rows L2
def Bw(S:aZ)(c k:Nat):Option (List (Str × V3)):=match S[k]? with | some (.ins c' fs)=>(if c'=c then some fs else none) | _=>none
def Kp(f:Str)(v:V3):List (Str × V3)->List (Str × V3)
 | []=>[(f,v)]
 | (g,x) ::r=>if g=f then(g,v) ::r else(g,x) ::Kp f v r
section
variable {X:Cx} {cl:Wv}
def RS(c:Nat)(f:Str)(g:FX):FX:=fun δ S=>(g δ S).bind fun v S1=>match v with
 | .loc k=>(match Bw S1 c k with | some fs=>(match fs.lookup f with | some v=> .ok v S1 | none=> .no) | none=> .no)
 | _=> .no
def QE(P:Program)(w:World)(K:W.Frag)(mg:Wu)(base:Heap)(cl:Wv)(k c:Nat)(m:Str)(n:Nat)(g:List V3->aZ->R3 V3):Prop:=
 ∃(f:Addr) (fd:FuncData) (ps:List Str),IB K (cl c)/\Meth K (cl c) m f/\hJ P w K mg base rB k f fd ps (Ek K cl (n+1) g)/\Binds K fd ps []
def PH(c:Nat)(m:Str)(g:List V3->aZ->R3 V3)(fo:FX)(fs:FA):FX:=fun δ S=>(fo δ S).bind fun o S1=>match o with
 | .loc k=>(match Bw S1 c k with | some ys=>(match ys.lookup m with | none=>(fs δ S1).bind fun vs S2=>g (.loc k ::vs) S2 | some _=> .no) | none=> .no)
 | _=> .no
def PU(P:Program)(w:World)(K:W.Frag)(mg:Wu)(base:Heap)(cl:Wv)(k c:Nat)(x:Str)(n:Nat)(g:List V3->aZ->R3 V3):Prop:=
 ∃(f:Addr) (fd:FuncData) (ps:List Str),Mk K (cl c) f/\hJ P w K mg base rB k f fd ps (Ek K cl (n+1) g)/\mg x=some (.ref (cl c))/\Binds K fd ps []
def Rc(c:Nat)(g:List V3->aZ->R3 V3)(fs:FA):FX:=fun δ S=>(fs δ S).bind fun vs S1=>(g (.loc S1.length ::vs) (S1++[.ins c []])).bind fun v S2=>match v with
 | .d .cI=> .ok (.loc S1.length) S2
 | _=> .no
def Sx(c:Nat)(f:Str)(fo fe:FX):FZ:=fun δ S=>(fe δ S).bind fun v S1=>(fo δ S1).bind fun o S2=>match o with
 | .loc k=>(match Bw S2 c k with | some fs=>R3.aS (decide (fs.length < 1000)) (.ok (.nx δ) (S2.set k (.ins c (Kp f v fs)))) | none=> .no)
 | _=> .no
end
end L3
end
section
namespace PySem
open Sem (wp)
def R1(t:Bool)(h:Heap)(i l:Addr)(k:Nat):Prop:=cond t (h.IsTupleIter i l k) (h.IsListIter i l k)
def N6(t:Bool)(h:Heap)(l:Addr)(xs:Array Value):Prop:=cond t (h.IsTuple l xs) (h.IsList l xs)
def Bt(t:Bool):String:=cond t "tuple_iterator" "list_iterator"
section
variable {prog:Program} {w:World} {A:Around} {E:Wq} {s:Shared}
end
abbrev QK(t:Bool)(h:Heap)(l1:Addr):Heap:=h.push {cls:= .type (Bt t),data:= .fields #[.ref l1, .int 0 0]}
abbrev Qj(t u:Bool)(h:Heap)(l1 l2:Addr):Heap:=(QK t h l1).push {cls:= .type (Bt u),data:= .fields #[.ref l2, .int 0 0]}
abbrev QZ(t u:Bool)(h:Heap)(l1 l2:Addr):Heap:=(Qj t u h l1 l2).push {cls:= .type "tuple",data:= .seq #[.ref h.objs.size, .ref (QK t h l1).objs.size]}
abbrev T9(t u:Bool)(h:Heap)(l1 l2:Addr):Heap:=(QZ t u h l1 l2).push {cls:= .type "tuple",data:= .seq #[.none, .none]}
abbrev Vm(t u:Bool)(h:Heap)(l1 l2:Addr):Heap:=(T9 t u h l1 l2).push {cls:= .type "zip",data:= .fields #[.none, .bool false, .bool false, .ref (Qj t u h l1 l2).objs.size, .ref (QZ t u h l1 l2).objs.size]}
end PySem
namespace L2
open PySem PySem.Spec PyProof.Rows
def EL(t:Bool)(K:W.Frag)(H:Hp)(a:Addr)(xs:List V):Prop:=cond t (oy K H a xs) (m4 K H a xs)
theorem Inv.N7{X:Cx}{pins:Wo}{σ:L2.St}{s:Shared}{t:Bool}{a:Addr}{xs:List V}(I:Inv X pins σ H s)(h:EL t X.K H a xs):∃its:List Value,Vals xs its/\N6 t s.heap a its.toArray:=by
 cases t with
 | true=>obtain⟨its,r,p,_⟩:=I.tuple h;exact⟨its,r,p⟩
 | false=>obtain⟨its,r,p,_⟩:=I.list h;exact⟨its,r,p.isList⟩
def Vq(K:W.Frag)(t u:Bool)(a b:Addr):It:=
 ⟨fun i H=>∃xs ys x y,EL t K H a xs/\EL u K H b ys/\xs[i]? =some x/\ys[i]? =some y,
  fun i H v H'=>∃p x y,H p=none/\v= .ref p/\(∀xs,EL t K H a xs->xs[i]? =some x)/\(∀ys,EL u K H b ys->ys[i]? =some y)/\H'=upd H p (.tup [x,y]),
  fun i H=>∃xs ys,EL t K H a xs/\EL u K H b ys/\(xs.length<=i\/ys.length<=i)⟩
section
variable {X:Cx}
def LJ(ds es:List D):List D:=(ds.zip es).map fun p=> .tup [p.1,p.2]
def seqD?:D->Option (List D)
 | .lst ds=>some ds
 | .tup ds=>some ds
 | _=>none
def Q4(f g:FD):au->R (List D):=fun δ=>(f δ).bind fun d=>(g δ).bind fun e=>match seqD? d,seqD? e with | some ds,some es=> .ok (LJ ds es) | _,_=> .no
theorem Rep.N7{K:W.Frag}{B:List Addr}{d:D}{v:V}{ds:List D}(r:Rep K B H d v)(h:seqD? d=some ds):∃t a xs,v= .ref a/\(∀B' H',cX B H B' H'->EL t K H' a xs/\aD K B' H' ds xs):=by
 cases d with
 | lst es=>
   cases h;obtain⟨a,xs,rfl,l,rs⟩:=Rep.lst.mp r;exact⟨false,a,xs,rfl,fun B' H' p=>⟨(l.bc p).sq,rs.bc p⟩⟩
 | tup es=>
   cases h;obtain⟨a,xs,rfl,l,rs⟩:=Rep.tup.mp r;refine⟨true,a,xs,rfl,fun B' H' p=>⟨?_,rs.bc p⟩⟩
   have l':xf K B' H' a xs:=l.elim (fun z=> .inl ⟨(p.rd z.2 z.1).2,(p.rd z.2 z.1).1⟩) .inr
   exact l'.sq
 | _=>cases h
def QT(T U:String)(f:FD):FD:=fun δ=>(f δ).bind fun d=>match d with | .dct _ _=> .no | _=> .ok (.bl (HX (tyName d) T || HX (tyName d) U))
def Vt(lo:Int)(n:Nat):It:=⟨fun i _=>i < n,fun i H x H'=>H'=H/\x= .int (lo - i),fun i _=>n<=i⟩
def Oy(lo:Int)(n:Nat):List D:=(List.range n).map fun(i:Nat)=>D.int (lo - i)
def Q6(f g h:FD):au->R (List D):=fun δ=>(f δ).bind fun d=>(g δ).bind fun e=>(h δ).bind fun k=>match d,e,k with
 | .int i, .int j, .int m=>R.aS (decide (m= -1/\ -(2 ^ 60)<=i/\i < 2 ^ 60/\ -(2 ^ 60)<=j/\j < 2 ^ 60)) (.ok (Oy i (i - j).toNat)) | _,_,_=> .no
def bls?:List D->Option (List Bool)
 | []=>some []
 | .bl b ::ds=>(bls? ds).map (b ::·)
 | _ ::_=>none
def RI:List D->R D
 | [.lst ds]=>(match bls? ds with | some bs=> .ok (.bl (bs.all id)) | none=> .no)
 | _=> .no
def SA:List D->R D
 | [.lst ds]=>(match bls? ds with | some bs=> .ok (.bl (bs.any id)) | none=> .no)
 | _=> .no
end
end L2
end
section
namespace L2
open PySem PySem.Spec PyProof.Rows
section
variable {X:Cx}
def VC:FS:=fun _=> .no
def Qo(f:FD):FS:=fun δ=>(f δ).bind fun _=> .ok (.nx δ)
end
end L2
namespace L3
open PySem PySem.Spec PyProof.Rows L2
section
variable {X:Cx} {cl:Wv}
def Vy:FZ:=fun _ _=> .no
def Rf(f:au->R (List D)):FX:=fun δ S=>(R3.of (f (ib S δ)) S).bind fun ds S=>R3.aS (uU ds) (.ok (.loc S.length) (S++[.lst ds]))
def SQ(i:Nat)(f:FX):FZ:=fun δ S=>match gW δ i with
 | none=> .no
 | some k=>match c7 S k with
   | none=> .no
   | some _=>(f δ S).bind fun v S1=>match v with
     | .d (.lst es)=>(match c7 S1 k with
       | some ds=>R3.aS (decide (ds.length+es.length<=sizeLine)) (.ok (.nx δ) (S1.set k (.lst (ds++es))))
       | none=> .no)
     | _=> .no
end
end L3
end
section
namespace L2
open PySem PySem.Spec PyProof.Rows
section
variable {X:Cx}
def Qg(d e:D):R D:=match d,e with
 | .tup a, .tup b=>R.aS (decide (a.length+b.length<=sizeLine)) (.ok (.tup (a++b)))
 | d,e=>bH d e
def Mn(f:FD):au->R (List D):=fun δ=>(f δ).bind fun d=>match d with | .lst ds=> .ok (gq ds) | .tup ds=> .ok (gq ds) | _=> .no
def Vj(K:W.Frag)(a:Addr)(n:Nat):It:=
 ⟨fun i H=>∃xs x,m4 K H a xs/\xs.length=n/\i < n/\xs[n - 1 - i]? =some x,fun i H v H'=>H'=H/\∀xs,m4 K H a xs->xs[n - 1 - i]? =some v,fun i H=>(∃xs,m4 K H a xs)/\i=n⟩
def QX(f:FD):au->R (List D):=fun δ=>(f δ).bind fun d=>match d with | .lst ds=> .ok ds.reverse | _=> .no
def Sd(K:W.Frag)(C:Addr)(m qual:Str)(st:Stmt):Prop:=∃f fd,wK K m qual st f fd/\Meth K C m f
def RU(K:W.Frag)(C:Addr)(m qual:Str)(st:Stmt):Prop:=∃f fd,wK K m qual st f fd/\Mk K C f
end
end L2
namespace L3
open PySem PySem.Spec PyProof.Rows L2
section
variable {X:Cx} {cl:Wv}
end
end L3
end
section
namespace L2
open PySem PySem.Spec PyProof.Rows
section
variable {X:Cx}
def Ez(f:FD):au->R (List D):=fun δ=>(f δ).bind fun d=>match d with | .int j=>R.aS (decide (-(2 ^ 62)<=j/\j < 16777216)) (.ok (kH 0 j.toNat)) | _=> .no
theorem Dw{a:Expr}{f:FD}{p p2 pos rZ:Pos}(hc:X.calm=true)(h:QD X a f)(hg:Gl X "list")(hm:X.mg "list"=none)(FN:Gl X "range")(Mf:X.mg "range"=none)(hs:starEach [a] X.env=[(false,eval a X.env)]:=by rfl)
 (hs2:starEach [.Call (.Name "range" p2) [a] [] rZ] X.env=(false,eval (.Call (.Name "range" p2) [a] [] rZ) X.env) ::starEach [] X.env:=by rfl) (jE:(backTo pos (starEach [] X.env)).any (·.1)=false:=by rfl) :
 QN X (.Call (.Name "list" p) [.Call (.Name "range" p2) [a] [] rZ] [] pos) (Ez f):=by
 refine⟨?_⟩;intro pins s σ H Q I ⟨Z,B,δ,ds,E,hf,q⟩;obtain⟨d1,h1,h2⟩:=R.aj hf;have key:∃j:Int,d1= .int j/\ -(2 ^ 62)<=j/\j < 16777216/\ds=kH 0 j.toNat:=by
  split at h2
  .obtain⟨h3,h4⟩:=R.aX h2;cases h4;have h3:=of_decide_eq_true h3;exact⟨_,rfl,h3.1,h3.2,rfl⟩
  .cases h2
 obtain⟨j,rfl,Ro,RB,rfl⟩:=key;refine wpAny_Call_Name_kw (gA I hg hm boot_list ?_ (by decide) (by decide))
 refine PyProof.Rows.callWith_type1 ?_ hs2 jE;rw[hs2];show wpAny _ _ (spliced ((false,eval (.Call (.Name "range" p2) [a] [] rZ) X.env) ::backTo pos (starEach [] X.env))) _ _ s;refine Calls.spliced_cons ?_;have hA:=eE h.1 iW hs rZ pins s σ H (fun vs H1=>aU H H1/\vs=[.int j]) I ⟨Z,B,δ, .int j,E,h1,fun v H1 s1 r1=>⟨s1,by rw[Rep.int.mp r1]⟩⟩
 refine Call_ (gA I FN Mf boot_range (PyProof.Rows.callWith_type1 (di hA fun us s1 ⟨vs,H1,I1,r1,ss,ev⟩=>?_) hs rfl))
 subst ev;obtain⟨u,rfl,ru⟩:=vals1 r1;obtain⟨t,rfl⟩:=ru;refine call_range_1 ?_;have I2:Inv X pins σ H1 {s1 with heap:=s1.heap.push {cls:= .type "range",data:= .fields #[.int 0 s1.toks, .int j t, .int 1 (s1.toks+1)]},toks:=s1.toks+1+1}:=I1.kept fun b o e=>Heap.get?_push_of_some _ e
 refine Calls.spliced_nil ?_;have hsz:Builtin.Range.rangeSize 0 j 1=(j.toNat:Nat):=by rw[rangeSize_one];split <;> omega
 have hz:sizeLine=16777216:=sizeLine_eq;refine call_list_range (n:=j.toNat) (I2.ok.hd hc) (IsRange.new ..) (small_one (by omega) (by omega) (by omega) (by omega)) hsz (by omega) fun h' tk acc c' hk xJ wa=>?_
 have rv:=xF wa;have hle:((List.range j.toNat).map fun(i:Nat)=>V.int (0+(i:Int))).length<=sizeLine:=by rw[List.length_map,List.length_range];omega
 have hf':H1 (s1.heap.push {cls:= .type "range",data:= .fields #[.int 0 s1.toks, .int j t, .int 1 (s1.toks+1)]}).objs.size=none:=I2.hok.fresh (Nat.le_refl _);have I4:=I2.laid (o:= .lst ((List.range j.toNat).map fun(i:Nat)=>V.int (0+(i:Int)))) (h':=h') (t':=tk) hk (Nat.le_refl _) (show de X.prog X.w _ _ _ (.lst _) from⟨hle,acc.toList,c',rv,by simpa using xJ⟩)
 exact⟨.ref _,_,I4,rfl,q _ _ _ (ss.trans (bg hf')) (ss.free hf') a_ (uK _)⟩
def Ka(f:FD):FD:=fun δ=>(f δ).bind fun d=>match d with | .lst ds=> .ok (.lst ds.reverse) | _=> .no
theorem aD.rev{K:W.Frag}{B:List Addr}:∀{ds:List D} {xs:List V},aD K B H ds xs->aD K B H ds.reverse xs.reverse
 | [],xs,r=>by unfold aD at r;subst r;exact aD.nil
 | d ::ds,xs,r=>by
   obtain⟨x,q,rfl,r1,r2⟩:=r.b9;rw[List.reverse_cons,List.reverse_cons];exact r2.rev.append (aD.cons r1 aD.nil)
theorem Vals.rev:∀{xs:List V} {us:List Value},Vals xs us->Vals xs.reverse us.reverse
 | [],us,r=>by cases r;exact .nil
 | x ::xs,us,r=>by
   cases r with
   | cons r t=>
     rw[List.reverse_cons,List.reverse_cons];exact(Vals.rev t).append (.cons r .nil)
theorem Ed{e step:Expr}(he:QD X e f)(pz:QP X (some step) (qr (Ex (eC (.int 1))))):QD X (.Subscript e (.Slice none none (some step) p2) pos) (Ka f):=by
 refine⟨?_⟩;intro pins s σ H Q I ⟨Z,B,δ,d,E,hf,q⟩;obtain⟨d1,h1,h2⟩:=R.aj hf;cases d1 with
 | lst es=>
   cases h2;refine Subscript_ (di (he.1 pins s σ H (fun x H1=>aU H H1/\Rep X.K B H1 (.lst es) x) I ⟨Z,B,δ, .lst es,E,h1,fun v H1 s1 r1=>⟨s1,r1⟩⟩) fun v s1 ⟨x,H1,I1,r1,OV,rr⟩=>?_)
   refine wpAny_Slice ?_;rw[evalPart_none];refine wpAny_pure ?_;refine wpAny_pure ?_;refine di (pz.1 pins s1 σ H1 (fun o H2=>aU H1 H2/\o=some (-1)) I1 ⟨Z,B,δ,some (-1),E.same OV,rfl,fun H2 s2=>⟨s2,rfl⟩⟩) fun vk s2 ⟨o,H2,I2,pk,OO,eo⟩=>?_
   subst eo;obtain⟨a,xs,rfl,ls,rs⟩:=Rep.lst.mp (rr.same OO);cases r1;have I3:Inv X pins σ H2 {s2 with heap:=s2.heap.push {cls:= .type "slice",data:= .fields #[.none, .none,vk]}}:=I2.kept (t':=s2.toks) fun b ob q=>Heap.get?_push_of_some _ q
   obtain⟨its,r,ht,hz⟩:=I3.list ls.sq;show wpAny (model X.prog X.w) X.A (subscriptTail e (.Slice none none (some step) p2) (.ref a) (.ref s2.heap.objs.size)) (EP X pins σ Q) X.xe {s2 with heap:=s2.heap.push {cls:= .type "slice",data:= .fields #[.none, .none,vk]}}
   refine tail_any (ops:=[.ref a, .ref s2.heap.objs.size]) ht.isList.typeIs slot_list_getitem.lookup ?_ (by with_unfolding_all rfl)
   have hlen:=r.length;refine wpAny_getItem_list_slice ht.isList (Heap.IsSliceOf.new ..) .none .none pk (by decide) ?_ (by rw[List.size_toArray] <;> omega)
   rw[PySem.W.krv_pick];have hp:H2 (s2.heap.push {cls:= .type "slice",data:= .fields #[.none, .none,vk]}).objs.size=none:=I3.hok.fresh (Nat.le_refl _);refine⟨.ref _,_,I3.laid (t':=s2.toks) (o:= .lst xs.reverse) (fun b ob q=>Heap.get?_push_of_some _ q) (Nat.le_refl _) ?_,rfl,q _ _ ((OV.trans OO).trans (bg hp)) (Rep.lst.mpr ⟨_,_,rfl, .qe a_ fun ha=>?_,(rs.rev).same (bg hp)⟩)⟩
   .exact⟨by rw[List.length_reverse];exact hz,_,0,r.rev,Heap.get?_push_size _ rfl⟩
   .obtain⟨o,ho⟩:=(E.same (OV.trans OO)).bs _ ha;rw[hp] at ho;cases ho
 | _=>cases h2
end
end L2
end
section
namespace L2
open PySem PySem.Spec PyProof.Rows
section
variable {X:Cx}
def Tu(K:W.Frag)(n:Nat)(t:Ar):TG:=fun v σ H Q=>∃a xs,v= .ref a/\m4 K H a xs/\xs.length=n/\t xs σ H Q
end
end L2
namespace L3
open PySem PySem.Spec PyProof.Rows L2
section
variable {X:Cx} {cl:Wv}
def VT(n:Nat)(t:Fw):FG:=fun d δ=>match d with
 | .d (.lst ds)=>if ds.length=n then t (ds.map .d) δ else none
 | .lst vs=>if vs.length=n then t vs δ else none
 | _=>none
def TC(f g:FX):FA:=fun δ S=>(bp f (bp g fK) δ S).bind fun vs S1=>match vs with
 | [.d d, .d e]=>(match seqD? d,seqD? e with | some ds,some es=> .ok ((LJ ds es).map .d) S1 | _,_=> .no)
 | _=> .no
def Ai(S:aZ):Prop:=∀o∈S,vJ S.length o=true
theorem Flat.clo{S:aZ}(h:Flat S):Ai S:=fun o ho=>h o ho _
theorem Lr{N:List Str}{vs:List V3}{S:aZ}{QV:V3->aZ->Prop}(h:W3 (rC N F vs S) fun v S1=>(∀o∈S1.take S.length,vJ S.length o=true)/\i5 S.length v=true/\∃d,res S1 v=some d/\QV (.d d) (S1.take S.length)):W3 (wj N F vs S) QV:=
 W3.bind (h.mono fun v S1 ⟨hl,hg,d,e,q⟩=>by
  rw[e];exact W3.wh (by rw[List.all_eq_true.mpr hl,hg];rfl) (W3.ok q))
theorem yi{N:List Str}{vs:List V3}{S:aZ}{QV:V3->aZ->Prop}(hS:Ai S)(h:W3 (rC N F vs S) fun v S1=>i5 S.length v=true/\(∃T,S1=S++T)/\∃d,res S1 v=some d/\QV (.d d) S):W3 (wj N F vs S) QV:=
 Lr (h.mono fun v S1 ⟨hg,⟨T,e1⟩,d,e,q⟩=>by
  subst e1;rw[List.take_append_of_le_length (Nat.le_refl _),List.take_length];exact⟨hS,hg,d,e,q⟩)
end
end L3
end
section
namespace L2
open PySem PySem.Spec PyProof.Rows
section
variable {X:Cx}
def ois?:List D->Option (List (Option Int))
 | []=>some []
 | .int i ::ds=>(ois? ds).map (some i ::·)
 | .cI ::ds=>(ois? ds).map (none ::·)
 | _ ::_=>none
def Vz:Option Int->V | some i=> .int i | none=> .cI
def SS(d e:D):R Bool:=match d,e with
 | .cI, .lst ds=>(match ois? ds with | some ss=> .ok (ss.any (·.isNone)) | none=> .no)
 | _,_=> .no
def SG(d e:D):R D:=(SS d e).bind fun b=> .ok (.bl b)
end
end L2
end
section
namespace L2
open PySem PySem.Spec PyProof.Rows
section
variable {X:Cx}
def Nb(d:D)(ds:List D):R D:=match d,ds with
 | .lst es,[.int k]=>(match ints? es with | some ss=> .ok (.int (ss.count k:Nat)) | none=> .no)
 | _,_=> .no
end
end L2
end
section
namespace L2
open PySem PySem.Spec PyProof.Rows
section
variable {X:Cx}
abbrev TZ:D->D->R D:=C_ (fun i j=>decide (0<=j/\j < 1000/\ -1000 < i/\i < 1000)) fun i j=>i*2 ^ j.toNat
def P2(d e:D):R D:=match d,e with | .bl a, .bl b=> .ok (.bl (a !=b)) | _,_=> .no
end
end L2
namespace L3
open PySem PySem.Spec PyProof.Rows L2
section
variable {X:Cx} {cl:Wv}
def P0(fo f:FX):FZ:=fun δ S=>(fo δ S).bind fun o S0=>match o with
 | .loc k=>(match c7 S0 k with
   | none=> .no
   | some _=>(f δ S0).bind fun v S1=>match v with
     | .d d=>(match c7 S1 k with | some ds=>R3.aS (decide (ds.length < sizeLine)) (.ok (.nx δ) (S1.set k (.lst (ds++[d])))) | none=> .no)
     | _=> .no)
 | _=> .no
def P9(f:FX):FA:=fun δ S=>(bp f fK δ S).bind fun vs S1=>match vs with
 | [.d (.lst ds)]=> .ok ((gq ds).map .d) S1
 | _=> .no
end
end L3
end
section
namespace L2
open PySem PySem.Spec PyProof.Rows
section
variable {X:Cx}
end
end L2
end
section
namespace L3
open PySem PySem.Spec PyProof.Rows L2
section
variable {cl:Wv}
def Nc(it:FA)(t:FG)(c:FB)(f:FX)(own:List Str)(kp:List Nat):FX:=fun δ S=>(it δ S).bind fun vs S1=>R3.aS (decide (vs.length<=sizeLine)) ((lD t c f (mj own kp δ) vs S1).bind fun ys S2=>match m6 ys with | some ds=> .ok (.loc S2.length) (S2++[.lst ds]) | none=> .no)
end
section
variable {X:Cx} {cl:Wv}
end
end L3
end
section
namespace L3
open PySem PySem.Spec PyProof.Rows L2
section
variable {X:Cx} {cl:Wv}
def Ox(g:List D->R D)(fs:FA):FX:=fun δ S=>(fs δ S).bind fun vs S1=>match xq S1 vs with
 | some ds=>(R3.of (g ds) S1).bind fun d S=>R3.aS (xb d) (.ok (.d d) S)
 | none=> .no
end
end L3
end
section
namespace L2
open PySem PySem.Spec PyProof.Rows
section
variable {X:Cx}
def To(f:FD):FD:=fun δ=>(f δ).bind fun d=>match d with | .int i=> .ok (.int (-i - 1)) | _=> .no
def R7(d:D)(lo hi:Option Int):R D:=match d with
 | .tup ds=>R.aS (decide (¬(HT.oM ds.length 0 lo=0/\HT.oM ds.length ds.length hi=ds.length))) (.ok (.tup (cutD ds lo hi)))
 | _=> .no
def Ug(f:FD)(fl fh:FO):FD:=fun δ=>(f δ).bind fun d=>(fl δ).bind fun lo=>(fh δ).bind fun hi=>R7 d lo hi
end
end L2
namespace L3
open PySem PySem.Spec PyProof.Rows L2
section
variable {X:Cx} {cl:Wv}
structure Vr (X:Cx) (cl:Wv) (st:List Stmt) (F:FZ):Prop where
 go:sZ X st (fun D σ H=>D.ct=D.nx/\sX X.K cl F D σ H)
end
end L3
end
section
namespace L2
open PySem PySem.Spec PyProof.Rows
end L2
namespace L3
open PySem PySem.Spec PyProof.Rows L2
section
variable {X:Cx} {cl:Wv}
def TQ(i:Nat)(f:FX):FX:=fun δ S=>match gW δ i with
 | none=> .no
 | some k=>match c7 S k with
   | none=> .no
   | some _=>(f δ S).bind fun v S1=>match v with
     | .d (.int j)=>(match c7 S1 k with
       | some ds=>(match Dc ds.length j with
         | some p=>(match ds[p]? with | some d=>R3.aS (decide (-(2 ^ 63)<=j/\j < 2 ^ 63)) (.ok (.d d) (S1.set k (.lst (ds.eraseIdx p)))) | none=> .no)
         | none=> .no)
       | none=> .no)
     | _=> .no
end
end L3
end
section
namespace L3
open PySem PySem.Spec PyProof.Rows L2
section
variable {X:Cx} {cl:Wv}
def Tn(f:FX)(fl fh:JD):FX:=fun δ S=>(f δ S).bind fun v S1=>(fl δ S1).bind fun lo S2=>(fh δ S2).bind fun hi S3=>match v with
 | .lst vs=> .ok (.lst (L2.cutD vs lo hi)) S3
 | _=> .no
end
end L3
end
section
namespace L2
open PySem PySem.Spec PyProof.Rows
section
variable {X:Cx}
def Ov:List V->Hp->VK->Prop:=fun xs H Q=>∃a aC ns,xs=[V.ref a]/\H a=some (.dK aC)/\aC.map (·.1)=ns.map Sum.inl/\ns.length < 64/\∀p,H p=none->Q (.ref p) (upd H p (.lst ((yJ ns).map V.int)))
end
end L2
end
section
namespace L3
open PySem PySem.Spec PyProof.Rows L2
section
variable {X:Cx} {cl:Wv}
def pS(aC:List (Key × D))(k:Key)(d:D):List (Key × D):=if(aC.any fun kv=>decide (kv.1=k))=true then aC.map (fun kv=>if kv.1=k then(kv.1,d) else kv) else aC++[(k,d)]
def nG(S:aZ)(k:Nat):Option (List (Key × D)):=match S[k]? with | some (.dct aC)=>some aC | _=>none
theorem pV{S:aZ}{k:Nat}{aC:List (Key × D)}(h:nG S k=some aC):S[k]? =some (.dct aC):=by
 unfold nG at h;split at h
 .rename_i e;cases h;exact e
 .cases h
theorem yP{α β:Type}(k:Key):∀{a:List (Key × α)} {b:List (Key × β)},a.map (·.1)=b.map (·.1)->(a.any fun kv=>decide (kv.1=k))=b.any fun kv=>decide (kv.1=k)
 | [],[],_=>rfl
 | [],_ ::_,h=>by simp at h
 | _ ::_,[],h=>by simp at h
 | x ::a,y ::b,h=>by
   rw[List.map_cons,List.map_cons] at h;obtain⟨h1,h2⟩:=List.cons.inj h;rw[List.any_cons,List.any_cons,yP k h2,h1]
theorem yM{K:W.Frag}{B:List Addr}{k:Key}{d:D}{v:V}(rv:Rep K B H d v):∀{aC:List (Key × D)} {ys:List (Key × V)},ys.map (·.1)=aC.map (·.1)->aD K B H (aC.map (·.2)) (ys.map (·.2))->
 (ys.map fun kv=>if kv.1=k then(kv.1,v) else kv).map (·.1)=(aC.map fun kv=>if kv.1=k then(kv.1,d) else kv).map (·.1)/\aD K B H ((aC.map fun kv=>if kv.1=k then(kv.1,d) else kv).map (·.2)) ((ys.map fun kv=>if kv.1=k then(kv.1,v) else kv).map (·.2))
 | [],[],_,_=>⟨rfl,aD.nil⟩
 | [],_ ::_,h,_=>by simp at h
 | _ ::_,[],h,_=>by simp at h
 | (k1,d1) ::aC,(k2,v2) ::ys,h,r=>by
   obtain⟨h1,h2⟩:=List.cons.inj h;have h1:k2=k1:=h1;subst h1;obtain⟨x,r',e,q1,q2⟩:=aD.b9 r;cases e;obtain⟨i1,i2⟩:=yM rv h2 q2;simp only[List.map_cons];by_cases hk:k2=k
   .rw [if_pos hk,if_pos hk];exact⟨by rw[i1],aD.cons rv i2⟩
   .rw [if_neg hk,if_neg hk];exact⟨by rw[i1],aD.cons q1 i2⟩
theorem Ke{K:W.Frag}{B:List Addr}{k:Key}{d:D}{v:V}(rv:Rep K B H d v){aC:List (Key × D)}{ys:List (Key × V)}(h:ys.map (·.1)=aC.map (·.1))(r:aD K B H (aC.map (·.2)) (ys.map (·.2))) :
 (putK ys k v).map (·.1)=(pS aC k d).map (·.1)/\aD K B H ((pS aC k d).map (·.2)) ((putK ys k v).map (·.2)):=by
 unfold putK pS;rw[yP k h];split
 .exact yM rv h r
 .rw [List.map_append,List.map_append,List.map_append,List.map_append,h];exact⟨rfl,r.append (aD.cons rv aD.nil)⟩
def yI:FX:=fun δ S=> .ok (.loc S.length) (S++[.dct []])
theorem yF:PX X cl (.Dict [] [] pos) yI:=⟨Br.imp fun σ H Q ⟨ρ,S,δ,v,S',E,hf,q⟩=>by
 cases hf;intro p hp;obtain⟨w,pr⟩:=E.sw.new (a:=p) (o:= .dct []) (bg (o:= .dK []) hp) hp ⟨[],a_,rfl,aD.nil⟩;exact q _ _ _ pr w (by unfold bq;exact⟨p,by show(ρ.r++[p])[_]? =_;rw [<-E.sw.len,List.getElem?_append_right (by omega),Nat.sub_self];rfl,rfl⟩)⟩
def Qu(fo fi fe:FX):FZ:=fun δ S=>(fe δ S).bind fun v S1=>(fo δ S1).bind fun o S2=>(fi δ S2).bind fun j S3=>match v,o,j with
 | .d d, .loc k, .d (.int n)=>(match nG S3 k with | some aC=>R3.aS (decide (aC.length < sizeLine)) (.ok (.nx δ) (S3.set k (.dct (pS aC (Sum.inl n) d)))) | none=> .no)
 | _,_,_=> .no
def S9(fa fo:FX):FX:=fun δ S=>(fa δ S).bind fun j S1=>(fo δ S1).bind fun o S2=>match j,o with
 | .d (.int n), .loc k=>(match nG S2 k with | some aC=> .ok (.d (.bl (aC.any fun kv=>decide (kv.1=Sum.inl n)))) S2 | none=> .no)
 | _,_=> .no
def intK?:List Key->Option (List Int)
 | []=>some []
 | .inl n ::ks=>(intK? ks).map (n ::·)
 | .inr _ ::_=>none
def N0(f:FX):FX:=fun δ S=>(f δ S).bind fun o S1=>match o with
 | .loc k=>(match nG S1 k with
   | some aC=>(match intK? (aC.map (·.1)) with | some ns=>R3.aS (decide (ns.length < 64)) (.ok (.d (.lst ((yJ ns).map .int))) S1) | none=> .no)
   | none=> .no)
 | _=> .no
theorem AK{δ:DE}{S:aZ}{QV:V3->aZ->Prop}(h:QV (.loc S.length) (S++[.dct []])):W3 (yI δ S) QV:=W3.ok h
end
end L3
end
section
namespace L2
open PySem PySem.Spec PyProof.Rows
section
variable {X:Cx}
def Ml:V->List V->Hp->VK->Prop:=fun x vs H Q=>∃(l:Addr) (xs:List V) (j:Int) (i:Nat) (y:V),x= .ref l/\vs=[.int j,y]/\H l=some (.lst xs)/\j=i/\i<=xs.length/\xs.length < sizeLine/\Q .cI (upd H l (.lst (xs.take i++y ::xs.drop i)))
end
end L2
namespace L3
open PySem PySem.Spec PyProof.Rows L2
section
variable {X:Cx} {cl:Wv}
def R5(i:Nat)(f g:FX):FZ:=fun δ S=>match gW δ i with
 | none=> .no
 | some k=>match c7 S k with
   | none=> .no
   | some _=>(f δ S).bind fun v S1=>match v with
     | .d (.int j)=>(g δ S1).bind fun w S2=>(match w with
       | .d d=>(match c7 S2 k with
         | some ds=>R3.aS (decide (0<=j/\j.toNat<=ds.length/\ds.length < sizeLine)) (.ok (.nx δ) (S2.set k (.lst (ds.take j.toNat++d ::ds.drop j.toNat))))
         | none=> .no)
       | _=> .no)
     | _=> .no
end
end L3
end
section
namespace L3
open PySem PySem.Spec PyProof.Rows L2
section
variable {X:Cx} {cl:Wv}
structure VH (X:Cx) (pos:Pos) (keys:List (Option Expr)) (values:List Expr) (ks:List Str) (g:au->R (List D)):Prop where
 h:∃sU,GG X pos keys values sU/\∀(σ:L2.St) (H:Hp) (Q:List (V × V)->Hp->Prop),(∃Z B δ ds,df X.K Z B H σ δ/\g δ= .ok ds/\∀vs H',aU H H'->aD X.K B H' ds vs->Q ((ks.zip vs).map fun p=>(V.str p.1,p.2)) H')->oz sU σ H Q
def HA(ks:List Str)(ns:List Int):List (Key × D):=(ks.zip ns).foldl (fun acc p=>pS acc (Sum.inr p.1) (.int p.2)) []
def Oe(ks:List Str)(g:au->R (List D)):FX:=fun δ S=>(R3.of (g (down δ)) S).bind fun ds S=>match ints? ds with
 | some ns=>R3.aS (decide (ns.length=ks.length/\ks.length<=15)) (.ok (.loc S.length) (S++[.dct (HA ks ns)]))
 | none=> .no
def NF(aC:List (Key × D))(k:Key):Option D:=(aC.find? fun kv=>decide (kv.1=k)).map (·.2)
def QL(i:Nat)(f g:FD):FX:=fun δ S=>match gW δ i with
 | none=> .no
 | some k=>match nG S k with
   | none=> .no
   | some aC=>(R3.of (f (down δ)) S).bind fun kd S=>(R3.of (g (down δ)) S).bind fun d S=>match kd with
     | .str x=> .ok (.d ((NF aC (Sum.inr x)).getD d)) S
     | _=> .no
end
end L3
end
section
namespace L2
open PySem PySem.Spec PyProof.Rows
section
variable {X:Cx}
def so:List D->R D
 | [.tup ds]=>(match ints? ds with | some ns=> .ok (.int ns.sum) | none=> .no)
 | ds=>Hz ds
theorem wH(hc:X.calm=true):cN X (.builtin "sum") so:=by
 intro pins s σ H B ds d xs us I hb rx rs hg;unfold so at hg;split at hg
 .split at hg
  .rename_i es ns e;cases hg;obtain⟨x,rfl,r⟩:=rs.one;obtain⟨a,ys,rfl,l,r⟩:=Rep.tup.mp r;obtain⟨u,rfl,ru⟩:=vals1 rx;cases ru;obtain⟨its,rv,ht,hz⟩:=I.tuple l.sq;rw[dO r e] at rv;obtain⟨ps,rfl,rfl⟩:=f_ rv;have hl:s.heap.IsTuple a (intItems ps.toArray):=by
    have ht:s.heap.IsTuple a (ps.map fun p=>Value.int p.1 p.2).toArray:=ht
    simpa [intItems] using ht
   refine PySem.W.ktm_sumG (I.ok.hd hc) hl fun h' tk t' k=>⟨.int _,H,I.kept k,⟨t',rfl⟩,aU.refl H,Rep.int.mpr ?_⟩
   rw[preSum_eq,List.take_of_length_le (by simp)]
  .cases hg
 .exact Lh hc pins s σ H B ds d xs us I hb rx rs hg
end
end L2
end
section
namespace L2
open PySem PySem.Spec PyProof.Rows
section
variable {X:Cx}
def P8(d e:D):R D:=match d,e with
 | .tup a, .int k=>R.aS (decide (2<=k/\k < 1000/\a≠[]/\a.length*k.toNat<=sizeLine)) (.ok (.tup (List.replicate k.toNat a).flatten))
 | d,e=>kE d e
end
end L2
end
section
namespace L2
open PySem PySem.Spec PyProof.Rows
def uO(P:Program)(w:World):Aj:=fun outer H s E e s'=>
 ∃(a:Addr) (B:Heap) (cls a0:Value) (H':Hp),e= .ref a/\s'.os=s.os/\AllBare s'.gens/\Un (mD outer) [] H H' s.heap s'.heap/\kU P w H' s'.heap/\Heap.FlyingW B outer a cls a0 s'.heap/\
  (∀b o,s'.heap.get? b=some o->b ∉ mD outer->((∃u,s.heap.get? b=some u)\/∃u,H' b=some u)->B.get? b=some o)/\E cls none H'
section
variable {X:Cx} {pins:Wo} {σ:St} {H1 H':Hp} {s1 s':Shared} {B J0:Heap} {a:Addr} {cls a0:Value} {E:XK}
theorem ud{H:Hp}{h:Heap}{b:Addr}{o:HO}(k:kU P w H h)(e:H b=some o):∃u,h.get? b=some u:=by
 have hx:=k b o e
 induction o with
 | lst xs=>obtain⟨_,_,_,_,e⟩:=hx;exact⟨_,e⟩
 | tup xs=>obtain⟨_,_,_,o,e,_⟩:=hx;exact⟨_,e⟩
 | dK aC=>obtain⟨_,_,_,_,o,_,_,e,_⟩:=hx;exact⟨_,e⟩
 | dT aC=>obtain⟨_,_,_,_,o,_,_,e,_⟩:=hx;exact⟨_,e⟩
 | set S n=>obtain⟨o,_,_,_,e,_⟩:=hx;exact⟨_,e⟩
 | ins C dx fs=>obtain⟨_,_,_,e,_⟩:=hx;exact⟨_,e⟩
 | own y=>exact hx
 | xd fs=>obtain⟨_,⟨o,_,_,e,_⟩,_⟩:=hx;exact⟨_,e⟩
 | rng lo hi=>obtain⟨_,_,_,e⟩:=hx;exact⟨_,e⟩
 | jn o u _=>exact⟨_,hx.1⟩
 | qc ps=>exact⟨_,hx⟩
 | met f x=>exact⟨_,hx⟩
 | ext φ=>exact hx.2.1
theorem Bq(I:Inv X pins σ H1 s1)(pz:X.stack=X.env ::X.outer)(hf:X.env.frame=some X.env.locals)(hex:X.ex=[])(os:s'.os=s1.os)(bare:AllBare s'.gens)(un:Un (mD X.stack) [] H1 H' s1.heap s'.heap)(hok:kU X.prog X.w H' s'.heap)
 (uA:∀b o,s'.heap.get? b=some o->b ∉ mD X.stack->((∃u,s1.heap.get? b=some u)\/∃u,H' b=some u)->B.get? b=some o) (fl:Heap.FlyingW B X.outer a cls a0 J0) (up:s'.heap.UpToSlots J0) (e:E cls none H') :
 uO X.prog X.w X.outer X.H₀ X.s₀ E (.ref a) {s' with heap:=J0}:=by
 have wk:∀b,b∈mD X.stack↔b=X.env.locals\/b∈mD X.outer:=fun b=>by
  rw[pz];unfold mD;rw [List.filterMap_cons,hf];exact List.mem_cons
 have hfree:∀b,b∈mD X.stack->H' b=none:=fun b hb=>by
  obtain⟨_,o,ho,_⟩:=I.stack.mem hb;exact un.free b o ho (I.l5 b hb) (by simp)
 have old:∀b o,X.s₀.heap.get? b=some o->b≠X.env.locals:=fun b o q=>Nat.ne_of_lt (Nat.lt_of_lt_of_le (Heap.lt_size q) I.ok.above)
 have thr:∀b o,X.s₀.heap.get? b=some o->∃u,s1.heap.get? b=some u:=fun b o q=>I.base.there b o q (by rw[hex];simp)
 have thr2:∀b o,s1.heap.get? b=some o->∃u,s'.heap.get? b=some u:=fun b o q=>un.there b o q (by simp)
 have stB:∀b o,B.get? b=some o->J0.get? b=some o:=fl.1;have Dg:∀b o,H' b=some o->∀u,s'.heap.get? b=some u->J0.get? b=some u:=fun b o q u hu=>stB b u (uA b u hu (fun hb=>by rw[hfree b hb] at q;cases q) (.inr ⟨o,q⟩))
 refine⟨a,B,cls,a0,H',rfl,os.trans I.os,bare,⟨fun b o q n hb _=>?_,fun b o q n hb _=>?_,fun b o q n _=>?_,fun b o q _=>?_,fun b xs q=>un.tups b xs (I.base.tups b xs q),fun b o u q=>un.frzs b o u (I.base.frzs b o u q),fun b ps q=>?_⟩,fun b o q=>?_,fl,fun b o q hb MP=>?_,e⟩
 .have h1:=I.base.keep b o q n hb (by rw[hex];simp)
  have n1:=I.base.free b o q n (by rw[hex];simp)
  have ma:b ∉ mD X.stack:=fun z=>((wk b).mp z).elim (old b o q) hb
  have h2:=un.keep b o h1 n1 ma (by simp)
  exact stB b o (uA b o h2 ma (.inl ⟨o,h1⟩))
 .obtain⟨sl,h1⟩:=I.base.slot b o q n hb (by rw[hex];simp)
  have n1:=I.base.free b o q n (by rw[hex];simp)
  obtain⟨UP,h2⟩:=un.slot b _ h1 n1 ((wk b).mpr (.inr hb)) (by simp)
  obtain⟨_,o',v3,hd⟩:=I.ok.n9.mem hb;rw[q] at v3;cases v3;obtain⟨Me,h3⟩:=up b _ h2 hd;exact⟨Me,h3⟩
 .obtain⟨u,h1⟩:=thr b o q;exact un.free b u h1 (I.base.free b o q n (by rw[hex];simp)) (by simp)
 .obtain⟨u,h1⟩:=thr b o q;obtain⟨u2,h2⟩:=thr2 b u h1;by_cases hb:b∈mD X.outer
  .obtain⟨_,o',v3,hd⟩:=I.stack.mem ((wk b).mpr (.inr hb));obtain⟨sl,h3⟩:=un.slot b o' v3 (I.l5 b ((wk b).mpr (.inr hb))) ((wk b).mpr (.inr hb)) (by simp)
   obtain⟨Me,h4⟩:=up b _ h3 hd;exact⟨_,h4⟩
  .exact⟨u2,stB b u2 (uA b u2 h2 (fun z=>((wk b).mp z).elim (old b o q) hb) (.inl ⟨u,h1⟩))⟩
 .obtain⟨m1,e1⟩:=I.base.tbls b ps q;obtain⟨m2,e2⟩:=un.tbls b _ e1;exact⟨m1++m2,by rw[e2,Array.append_assoc]⟩
 .refine(hok b o q).tU (fun c u hc hu=>?_) (fun c z=>z) (fun c xs z=>z)
  rcases hc with rfl | hc
  .exact Dg c o q u hu
  .exact Dg c _ hc u hu
 .have ma:b≠X.env.locals:=fun z=>by
   subst z;rcases MP with⟨u,hu⟩ | ⟨u,hu⟩
   .exact old _ u hu rfl
   .rw [hfree _ ((wk _).mpr (.inl rfl))] at hu;cases hu
  have hb2:b ∉ mD X.stack:=fun z=>((wk b).mp z).elim ma hb
  have:(∃u,s1.heap.get? b=some u)\/∃u,H' b=some u:=MP.imp (fun⟨u,hu⟩=>thr b u hu) id
  obtain⟨u,hu⟩:∃u,s'.heap.get? b=some u:=this.elim (fun⟨u,hu⟩=>thr2 b u hu) fun⟨u,hu⟩=>ud hok hu
  have h3:=uA b u hu hb2 this;have h4:=stB b u h3;rw[q] at h4;cases h4;exact h3
end
section
variable {P:Program} {w:World} {K:W.Frag} {mg:Wu} {base:Heap} {N:List Str} {qual:Str} {scope:Scope} {f:Addr} {cd:Value} {A:Around} {outer:List Env} {s:Shared} {H:Hp} {E:XK}
theorem KJ:Passes (uO P w) (iG (uO P w) P w K mg base N qual scope f cd A outer s H E) E:=by
 intro pins σ H1 s1 e s' I hc;obtain⟨a,B,cls,a0,H',rfl,os,bare,un,hok,fl,uA,hE⟩:=hc;exact wpAny_leaves_onW (env:=envOfC qual scope s.heap.objs.size f cd) (outer:=outer) (L:=s.heap.objs.size) I.ok.frames rfl fl fun h' f1 up=>Bq I rfl rfl rfl os bare un hok uA f1 up hE
theorem Hd{pins:Wo}{s1:Shared}{a:Addr}{cls:Value}{vs:List Value}(I:Inv (iG (uO P w) P w K mg base N qual scope f cd A outer s H E) pins σ H1 s1)(hx:Heap.MadeExcOf s1.heap h' a cls vs)(hE:E cls none H1) :
 (iG (uO P w) P w K mg base N qual scope f cd A outer s H E).xe (.ref a) {s1 with heap:=h'}:=by
 have hin:∀env∈(envOfC qual scope s.heap.objs.size f cd ::outer),∀b,env.frame=some b->b∈mD (envOfC qual scope s.heap.objs.size f cd ::outer):=fun env he b hb=>List.mem_filterMap.mpr ⟨env,he,hb⟩
 have ff:s1.heap.FunFrames base (envOfC qual scope s.heap.objs.size f cd ::outer):=I.stack;refine wpAny_leaves_madeW (env:=envOfC qual scope s.heap.objs.size f cd) (outer:=outer) (L:=s.heap.objs.size) (base:=PySem.W.hideAll s1.heap (mD (envOfC qual scope s.heap.objs.size f cd ::outer))) (h:=s1.heap) (s:={s1 with heap:=h'}) I.ok.frames rfl (fun b o q=>PySem.W.of_hideAll _ q) (PySem.W.funFrames_hide ff hin) hx fun J0 t x1 x2 x3 x4=>?_
 exact Bq (s':={s1 with heap:=h'}) I rfl rfl rfl rfl I.bare (Un.kept hx.keeps) (I.hok.kept hx.keeps) (fun b o q hb MP=>by
  obtain⟨u,hu⟩:∃u,s1.heap.get? b=some u:=MP.elim id fun⟨u,hu⟩=>ud I.hok hu
  have h2:=hx.keeps b u hu;have q:h'.get? b=some o:=q;rw[q] at h2;cases h2;exact PySem.W.hideAll_get _ hu hb) x1 x4 hE
end
end L2
end
section
namespace L2
open PySem PySem.Spec PyProof.Rows
def HN:List Value:=[.type "ValueError", .type "Exception", .type "BaseException", .type "object"]
structure XC (K:W.Frag) (C:Addr):Prop where
 ex:PySem.W.excIn K C HN "ValueError.__new__"=true
 ga:PySem.W.findIn K (.ref C) "__getattribute__"=some (some (.builtin "BaseException.__getattribute__"))
 gt:PySem.W.findIn K (.ref C) "__getattr__"=some none
 co:PySem.W.findIn K (.ref C) "__class__"=some (some (.builtin "object.__class__"))
 gs:PySem.W.specialIn K (.builtin "object.__class__") "__get__"=some (some (.builtin "getset_descriptor.__get__"))
 tk:PySem.W.takesIn K (.builtin "object.__class__")=some true
 mo:PySem.W.mroIn K C (.type "object")=some true
 mb:PySem.W.mroIn K C (.type "BaseException")=some true
 ic:(PySem.W.clsIn K C).isSome=true
def tW(x C:Addr)(h:Heap):Prop:=∃o,h.get? x=some o/\o.cls= .ref C
theorem tW.ty{M:Model}{x C:Addr}(I:tW x C h):PySem.W.Looks M h (typeOf (.ref x)) (.ref C):=by
 obtain⟨o,e,c⟩:=I;exact c▸(PySem.W.Looks.ld e).andThen .now
section
variable {prog:Program} {w:World} {A:Around} {E:Wq} {s:Shared} {K:W.Frag} {x C:Addr}
theorem B5{M:Model}(T:XC K C)(X:K.In h):PySem.W.Looks M h (Builtin.ObjectAttr.find (.ref x) (.ref C) "__class__") (.bind (.builtin "getset_descriptor.__get__") (.builtin "object.__class__")):=by
 have a1:=PySem.W.looks_findIn (M:=M) X T.co;have a2:PySem.W.Looks M h (Builtin.ObjectAttr.getOf (some (.builtin "object.__class__"))) (some (.builtin "getset_descriptor.__get__")):=PySem.W.looks_specialIn X T.gs;have a3:=PySem.W.looks_takesIn (M:=M) X T.tk;exact a1.andThen (a2.andThen ((show PySem.W.Looks M h (Builtin.ObjectAttr.dataDescriptor? (some (.builtin "object.__class__")) (some (.builtin "getset_descriptor.__get__"))) (some (.builtin "getset_descriptor.__get__", .builtin "object.__class__")) from a3.andThen .now).andThen (PySem.W.Looks.tag .now)))
theorem DK{tp:Value}{R:Result->Shared->Prop}(T:XC K C)(X:K.In s.heap)(I:tW x C s.heap)(h:R (.ok (.ret (.ref C))) s) :
 codeAny (model prog w) A (.call (.builtin "getset_descriptor.__get__") ⟨[.builtin "object.__class__", .ref x,tp],[]⟩) R s:=by
 obtain⟨hp,gn,dr,tk,oo⟩:=s;have b0:=I.ty (M:=model prog w);have b1:=PySem.W.looks_mroIn (M:=model prog w) X T.mo;refine codeAny_call_builtin PySem.W.KF.slot_gs.plain PySem.W.KF.entry_gs (PySem.W.KF.slot_gs.check _ _ _ _ _ _ _ _ PySem.W.KF.type_class (PySem.W.KF.args_gs _ _ _) ?_);unfold Builtin.«getset_descriptor.__get__» PySem.Builtin.Getset_descriptor.descrGet;rw[PySem.W.dga_obj];refine wpAny_bind (wpAny_pure ?_);unfold PySem.Builtin.Getset_descriptor.descrGetter PySem.Builtin.Getset_descriptor.descrCheckInstance PySem.Builtin.Getset_descriptor.descrNameAndClass isInstance;simp only[PySem.W.KF.owner_class]
 repeat lk
 refine⟨Code.quiet_builtin _ (by decide+kernel),codeAny_builtin PySem.W.KF.entry_class ?_⟩
 unfold Builtin.«object.__class__» shownTypeOf
 repeat lk
 exact h
theorem Ht{tk:Tok}{R:Result->Shared->Prop}(T:XC K C)(X:K.In s.heap)(I:tW x C s.heap)(h:R (.ok (.ret (.ref C))) s) :
 codeAny (model prog w) A (.call (.builtin "BaseException.__getattribute__") ⟨[.ref x, .str "__class__" tk],[]⟩) R s:=by
 have L0:=I.ty (M:=model prog w);have L1:=B5 (M:=model prog w) (x:=x) T X;have LM:=PySem.W.looks_mroIn (M:=model prog w) X T.mb;have LI:PySem.W.Looks (model prog w) s.heap (isInstance (.ref x) (.type "BaseException")) true:=L0.andThen LM;have hk:builtinKind "BaseException.__getattribute__"=some .slot:=by decide+kernel
 have Dm:splitId "BaseException.__getattribute__"=some ("BaseException","__getattribute__"):=by decide+kernel
 have ha:=PySem.F.args_bexc_ga (.ref x) (.str "__class__" tk);refine codeAny_call_builtin PySem.F.excAttr_ValueError.ga.plain PySem.F.entry_bexc_ga ?_;obtain⟨hh,g,d,t,os⟩:=s;simp only[checkBuiltinCall,hk,Dm];refine wpAny_bind (LI.at ?_);simp only[Bool.not_true,Bool.false_eq_true,if_false];refine wpAny_of_eq ha ?_;refine wpAny_bind (wpAny_pure (wpAny_bind (wpAny_pure (wpAny_bind (L0.at (wpAny_bind (L1.at ?_)))))));show wpAny _ _ (holding [Value.builtin "object.__class__"] (call (.builtin "getset_descriptor.__get__") [.builtin "object.__class__", .ref x, .ref C]) >>=ret) _ _ _;refine wpAny_bind (wpAny_holding (wpAny_call (DK (s:=⟨hh,g,d,t,os⟩) T X I ?_)));exact wpAny_pure h
theorem zm{Q:Option Value->Shared->Prop}(T:XC K C)(X:K.In s.heap)(I:tW x C s.heap)(h:Q (some (.ref C)) {s with toks:=s.toks+1}):wpAny (model prog w) A (getAttr? (.ref x) "__class__") Q E s:=by
 obtain⟨hh,g,d,t,os⟩:=s;have L0:=I.ty (M:=model prog w);have L1:=PySem.W.looks_findIn (M:=model prog w) X T.ga;have L2:=PySem.W.looks_findIn (M:=model prog w) X T.gt;have hb:=PySem.F.excAttr_ValueError.ga.bind (.ref x);unfold getAttr? getAttrBy? getAttrBy;refine wpAny_bind (wpAny_mkText (wpAny_bind (wpAny_attempt (wpAny_holding (wpAny_bind (L0.at (wpAny_bind (L1.at ?_))))))));have y0:(onTheHeap (Value.ref C) && Value.builtin "BaseException.__getattribute__"==Value.builtin "object.__getattribute__")=false:=by
  have z:(Value.builtin "BaseException.__getattribute__"==Value.builtin "object.__getattribute__")=false:=by decide+kernel
  rw[z];exact Bool.and_false _
 dsimp only;rw[y0,if_neg Bool.false_ne_true];unfold getAttrByItsOwn hookBefore;refine wpAny_bind (L2.at ?_);refine wpAny_bind (wpAny_attempt (wpAny_holding ?_));show wpAny _ _ (boundAndCalled _ _ _) _ _ _;unfold boundAndCalled;rw[hb];refine wpAny_bind (wpAny_pure ?_);refine wpAny_call (Ht (s:=⟨hh,g,d,t+1,os⟩) T X I ?_);show wpAny _ _ (handedOut (.ref C)) _ _ _;exact PySem.W.handed_on rfl (wpAny_pure h)
theorem Cr(T:XC K C):PySem.W.KitX K (.ref x) (.ref C) (tW x C) where
 ty:=fun _ _ _ I=>I.ty
 it:=fun M h X _=>by
  obtain⟨cd,hc⟩:=Option.isSome_iff_exists.mp T.ic;unfold PySem.W.clsIn at hc;split at hc
  .rename_i ho;intro A' Q' E' s' k q;unfold isType loadHead;exact wpAny_bind (wpAny_loadPart (k _ _ (X _ _ ho)) (wpAny_pure q))
  .cases hc
 ne:=fun h tp dd its n sl X UW=>by
  obtain⟨cd,hc⟩:=Option.isSome_iff_exists.mp T.ic;refine Bool.eq_false_iff.mpr fun q=>?_
  cases Value.ref.inj (beq_iff_eq.mp q);unfold PySem.W.clsIn at hc;split at hc
  .rename_i ho;have z:=(X _ _ ho).symm.trans UW;cases z
  .cases hc
 ca:=fun X I k=>zm T X I k
theorem DS(X:K.In h)(q:PySem.W.excIn K C HN "ValueError.__new__"=true):∃bm N nm qn bs hdct sn sub ab col dd k0 k1 k2 k3 k5 mN,
 h.get? C=some (excClassObj nm qn C N bs bm hdct sn sub ab col dd k0 k1 k2 k3 k5 "ValueError.__new__")/\h.Ns N mN/\mN "__init__"=none/\OwnTail h HN bm:=by
 unfold PySem.W.excIn at q;split at q
 .rename_i dd cd sl ho;split at q
  .rename_i C' bm k0 k1 k2 k3 n k5 hm hs;simp only[Bool.and_eq_true,beq_iff_eq,Bool.not_eq_true'] at q;obtain⟨⟨⟨⟨⟨q1,q2⟩,q3⟩,q4⟩,q5⟩,q6⟩:=q;subst q1 q2;obtain⟨nm,bs,mro,ns,qn,hd,sn,sub,ab,col,del⟩:=cd;obtain⟨l⟩:=sl;dsimp only at hm hs q3 q5 q6;subst hm hs q3;exact⟨bm,ns,nm,qn,bs,hd,sn,sub,ab,col,dd,k0,k1,k2,k3,k5,_,X _ _ ho,Heap.Ns.of_isNs (PySem.W.isNs_of_in X q5),PySem.W.nsMap_none_of_in X q5 q6,PySem.W.tail_of_in X q4⟩
  .cases q
 .cases q
end
end L2
end
section
namespace L3
open PySem PySem.Spec PyProof.Rows L2
theorem R3.iK{α β:Type}{r:R3 α}{f:α->aZ->R3 β}{c:Nat}{S':aZ}(h:r.bind f= .ex c S'):r= .ex c S'\/∃a S,r= .ok a S/\f a S= .ex c S':=by
 cases r with
 | ok a S=>exact .inr ⟨a,S,rfl,h⟩
 | ex c' S=>cases h;exact .inl rfl
 | no=>cases h
def DT{α:Type}(r:R3 α):R3 α:=match r with | .ex _ _=> .no | .ok a S=> .ok a S | .no=> .no
theorem jQ{α:Type}{r:R3 α}{a:α}{S:aZ}(h:DT r= .ok a S):r= .ok a S:=by
 cases r with
 | ok b S=>exact h
 | ex c S=>cases h
 | no=>cases h
theorem qZ{α:Type}{r:R3 α}{c:Nat}{S:aZ}(h:DT r= .ex c S):False:=by
 cases r <;> cases h
def Am(K:W.Frag)(cl:Wv)(E:XK)(ρ:P3)(H:Hp)(S':aZ)(c:Nat):Prop:=∀bF H',Pre ρ H bF H'->SW K cl bF H' S'->E (.ref (cl c)) none H'
theorem Am.pre{K:W.Frag}{cl:Wv}{E:XK}{S':aZ}{c:Nat}(q:Am K cl E ρ H S' c)(p:Pre ρ H cb H1):Am K cl E cb H1 S' c:=fun bF H' p' w=>q bF H' (p.trans p') w
def Si(K:W.Frag)(cl:Wv)(E:XK)(f:FX):TE:=fun σ H Q=>∃ρ S δ,dt K cl ρ H S σ δ/\((∃v S',f δ S= .ok v S'/\∀u bF H',Pre ρ H bF H'->SW K cl bF H' S'->bq K bF H' v u->Q u H')\/∃c S',f δ S= .ex c S'/\Am K cl E ρ H S' c)
def Na(K:W.Frag)(cl:Wv)(E:XK)(f:FA):TA:=fun σ H Q=>∃ρ S δ,dt K cl ρ H S σ δ/\((∃vs S',f δ S= .ok vs S'/\∀us bF H',Pre ρ H bF H'->SW K cl bF H' S'->aL K bF H' vs us->Q us H')\/∃c S',f δ S= .ex c S'/\Am K cl E ρ H S' c)
def Ms(K:W.Frag)(cl:Wv)(E:XK)(F:FZ):TS:=fun D σ H=>∃ρ S δ,dt K cl ρ H S σ δ/\((∃o S',F δ S= .ok o S'/\uM K cl ρ H D S' o)\/∃c S',F δ S= .ex c S'/\Am K cl E ρ H S' c)
structure Oo (X:Cx) (cl:Wv) (E:XK) (e:Expr) (f:FX):Prop where
 go:PE X e (Si X.K cl E f)
structure G2 (X:Cx) (cl:Wv) (E:XK) (es:List Expr) (f:FA):Prop where
 go:PA X es (Na X.K cl E f)
structure FQ (X:Cx) (cl:Wv) (E:XK) (st:Stmt) (F:FZ):Prop where
 go:PS X st (Ms X.K cl E F)
structure rX (X:Cx) (cl:Wv) (E:XK) (st:List Stmt) (F:FZ):Prop where
 go:sZ X st (Ms X.K cl E F)
section
variable {X:Cx} {cl:Wv} {E:XK}
def Vk(f:FX):FX:=fun δ S=>DT (f δ S)
def kI(f:FA):FA:=fun δ S=>DT (f δ S)
def uz(f:FZ):FZ:=fun δ S=>DT (f δ S)
theorem gb(h:JM X cl es f):G2 X cl E es (kI f):=⟨h.1.imp fun σ H Q ⟨ρ,S,δ,En,z⟩=>by
 rcases z with⟨v,S',hf,q⟩ | ⟨c,S',hf,q⟩
 .exact⟨ρ,S,δ,v,S',En,jQ hf,q⟩
 .exact(qZ hf).elim⟩
theorem i0{st:Stmt}(h:PZ X cl st F):FQ X cl E st (uz F):=⟨h.1.imp fun D σ H ⟨ρ,S,δ,En,z⟩=>by
 rcases z with⟨v,S',hf,q⟩ | ⟨c,S',hf,q⟩
 .exact⟨ρ,S,δ,v,S',En,jQ hf,q⟩
 .exact(qZ hf).elim⟩
theorem pF{st:List Stmt}(h:yA X cl st F):rX X cl E st (uz F):=⟨h.1.imp fun D σ H ⟨ρ,S,δ,En,z⟩=>by
 rcases z with⟨v,S',hf,q⟩ | ⟨c,S',hf,q⟩
 .exact⟨ρ,S,δ,v,S',En,jQ hf,q⟩
 .exact(qZ hf).elim⟩
def xj(K:W.Frag)(cl:Wv)(n:Nat)(g:List V3->aZ->R3 V3):Sp:=fun vs H Q E=>vs.length=n/\∃ρ S xs,SW K cl ρ H S/\aL K ρ H xs vs/\
 ((∃v S',g xs S= .ok v S'/\∀u bF H',Pre ρ H bF H'->SW K cl bF H' S'->bq K bF H' v u->Q u H')\/∃c S',g xs S= .ex c S'/\Am K cl E ρ H S' c)
def bO(P:Program)(w:World)(K:W.Frag)(mg:Wu)(base:Heap)(cl:Wv)(k:Nat)(x:Str)(n:Nat)(g:List V3->aZ->R3 V3):Prop:=
 ∃(f:Addr) (fd:FuncData) (ps:List Str),hJ P w K mg base (uO P w) k f fd ps (xj K cl n g)/\mg x=some (.ref f)/\PySem.W.keepIn K (.ref f)=true/\Binds K fd ps []
theorem jB{g:List V3->aZ->R3 V3}{k j n:Nat}{x:Str}{p pos:Pos}{e:Expr}{es:List Expr}{fs:FA}(hp:Passes (uO X.prog X.w) X E)(C:bO X.prog X.w X.K X.mg X.base cl k x n g)(hr:eJ j X.A)(Jl:k<=j)(hg:Gl X x)(ha:G2 X cl E (e ::es) fs)
 (hn:∀δ S ds S',fs δ S= .ok ds S'->ds.length=n) (nR:(x==("__debug__":Str))=false:=by decide) (he:starEach (e ::es) X.env=(false,eval e X.env) ::starEach es X.env:=by rfl) (jE:(backTo pos (starEach es X.env)).any (·.1)=false:=by rfl) :
 Oo X cl E (.Call (.Name x p) (e ::es) [] pos) (h_ g fs):=by
 obtain⟨f,fd,ps,F,hm,hk,hb⟩:=C;refine⟨(tj F (hr.mono Jl) hg hm hk hb .nil hp ha.1 nR he jE).imp fun σ H Q ⟨ρ,S,δ,En,z⟩=>⟨ρ,S,δ,En,?_⟩⟩
 have go:∀vs S1,fs δ S= .ok vs S1->((∃v S',g vs S1= .ok v S'/\∀u bF H',Pre ρ H bF H'->SW X.K cl bF H' S'->bq X.K bF H' v u->Q u H')\/∃c S',g vs S1= .ex c S'/\Am X.K cl E ρ H S' c)->
  (∃vs S',fs δ S= .ok vs S'/\∀us bF H',Pre ρ H bF H'->SW X.K cl bF H' S'->aL X.K bF H' vs us->(fun vs H1=>xj X.K cl n g (vs++[]) H1 Q E) us H')\/∃c S',fs δ S= .ex c S'/\Am X.K cl E ρ H S' c:=fun vs S1 h1 h2=>by
  refine .inl ⟨vs,S1,h1,fun us cb H1 p1 w1 r1=>?_⟩
  show xj X.K cl n g (us++[]) H1 Q E;rw[List.append_nil];refine⟨by rw[<-r1.length];exact hn δ S vs S1 h1,cb,S1,vs,w1,r1,?_⟩
  rcases h2 with⟨v,S',h3,q⟩ | ⟨c,S',h3,q⟩
  .exact .inl ⟨v,S',h3,fun u wm H2 p2 w2 r2=>q u wm H2 (p1.trans p2) w2 r2⟩
  .exact .inr ⟨c,S',h3,q.pre p1⟩
 rcases z with⟨v,S',hf,q⟩ | ⟨c,S',hf,q⟩
 .obtain⟨vs,S1,h1,h2⟩:=R3.aj hf;exact go vs S1 h1 (.inl ⟨v,S',h2,q⟩)
 .rcases R3.iK hf with h1 | ⟨vs,S1,h1,h2⟩
  .exact .inr ⟨c,S',h1,q⟩
  .exact go vs S1 h1 (.inr ⟨c,S',h2,q⟩)
theorem EC{i:Nat}{pos pos':Pos}(he:Oo X cl E e f)(hs:swapsWith e (some (.Name x pos')) pos.line X.env=pure false:=by rfl)(hf:X.fn x=true\/X.env.scope.names.lookup x=some .local:=by first | exact .inl rfl | exact .inr rfl | assumption)(hN:X.N.Nodup:=by first | assumption | exact DQ (by kernel_rfl))(hi:X.N[i]? =some x:=by rfl)(hx:Loc X.env.scope x:=by first | exact Or.inl rfl | exact Or.inr rfl) :
 FQ X cl E (.Assign [.Name x pos'] e pos) (cf i f):=⟨(tS hN hi hx he.1 hs hf).imp fun D σ H ⟨ρ,S,δ,En,z⟩=>by
 refine⟨ρ,S,δ,En,?_⟩;rcases z with⟨o,S',hf,q⟩ | ⟨c,S',hf,q⟩
 .obtain⟨v,S1,h1,h2⟩:=R3.aj hf;obtain⟨hi,h3⟩:=R3.aX h2;cases h3;refine .inl ⟨v,_,h1,fun u cb H1 p1 w1 r1=>?_⟩
  exact q _ cb H1 p1 ((En.to p1 w1).set (by rw[<-En.len];exact of_decide_eq_true hi) r1)
 .rcases R3.iK hf with h1 | ⟨v,S1,h1,h2⟩
  .exact .inr ⟨c,S',h1,q⟩
  .unfold R3.aS at h2;split at h2 <;> cases h2⟩
theorem lC{pos:Pos}(he:Oo X cl E e f)(v8:swapsWith e none pos.line X.env=pure false:=by rfl):FQ X cl E (.Expr e pos) (ql f):=⟨(pJ he.1 v8).imp fun D σ H ⟨ρ,S,δ,En,z⟩=>by
 refine⟨ρ,S,δ,En,?_⟩;rcases z with⟨o,S',hf,q⟩ | ⟨c,S',hf,q⟩
 .obtain⟨v,S1,h1,h2⟩:=R3.aj hf;cases h2;exact .inl ⟨v,_,h1,fun u cb H1 p1 w1 r1=>q _ cb H1 p1 (En.to p1 w1)⟩
 .rcases R3.iK hf with h1 | ⟨v,S1,h1,h2⟩
  .exact .inr ⟨c,S',h1,q⟩
  .cases h2⟩
def ID(f:FB):FB:=fun δ S=>DT (f δ S)
theorem um(hc:JG X cl c fc)(ha:rX X cl E a F)(hb:rX X cl E b G):FQ X cl E (.If c a b pos) (uB (ID fc) F G):=⟨(Ck hc.1 ha.1 hb.1).imp fun D σ H ⟨ρ,S,δ,En,z⟩=>by
 have fin:∀k S1,fc δ S= .ok k S1->((∃o S',(if k then F δ S1 else G δ S1)= .ok o S'/\uM X.K cl ρ H D S' o)\/∃c S',(if k then F δ S1 else G δ S1)= .ex c S'/\Am X.K cl E ρ H S' c)->Lu (G3 X.K cl fc) (Ms X.K cl E F) (Ms X.K cl E G) D σ H:=fun k S1 h1 h2=>by
  refine⟨ρ,S,δ,k,S1,En,h1,fun cb H1 p1 w1=>?_⟩
  cases k with
  | true=>
    refine AM ⟨cb,S1,δ,En.to p1 w1,?_⟩;rcases h2 with⟨o,S',h3,q⟩ | ⟨c,S',h3,q⟩
    .rw [if_pos rfl] at h3;exact .inl ⟨o,S',h3,q.pre p1⟩
    .rw [if_pos rfl] at h3;exact .inr ⟨c,S',h3,q.pre p1⟩
  | false=>
    refine BQ ⟨cb,S1,δ,En.to p1 w1,?_⟩;rcases h2 with⟨o,S',h3,q⟩ | ⟨c,S',h3,q⟩
    .rw [if_neg (by decide)] at h3;exact .inl ⟨o,S',h3,q.pre p1⟩
    .rw [if_neg (by decide)] at h3;exact .inr ⟨c,S',h3,q.pre p1⟩
 rcases z with⟨o,S',hf,q⟩ | ⟨c,S',hf,q⟩
 .obtain⟨k,S1,h1,h2⟩:=R3.aj hf;exact fin k S1 (jQ h1) (.inl ⟨o,S',h2,q⟩)
 .rcases R3.iK hf with h1 | ⟨k,S1,h1,h2⟩
  .exact(qZ h1).elim
  .exact fin k S1 (jQ h1) (.inr ⟨c,S',h2,q⟩)⟩
theorem nA:rX X cl E [] lB:=⟨tw.imp fun D σ H ⟨ρ,S,δ,En,z⟩=>by
 rcases z with⟨o,S',hf,q⟩ | ⟨c,S',hf,q⟩
 .cases hf;exact q σ ρ H (Pre.refl ρ H) En
 .cases hf⟩
theorem fj{st:Stmt}(h:FQ X cl E st F):rX X cl E [st] F:=⟨t5 h.1⟩
theorem bR{st:Stmt}{rest:List Stmt}(h1:FQ X cl E st F)(h2:rX X cl E rest G):rX X cl E (st ::rest) (bK F G):=⟨(q_ h1.1 h2.1).imp fun D σ H ⟨ρ,S,δ,En,z⟩=>by
 refine⟨ρ,S,δ,En,?_⟩;rcases z with⟨o,S',hf,q⟩ | ⟨c,S',hf,q⟩
 .obtain⟨o1,S1,h1,h2⟩:=R3.aj hf;refine .inl ⟨o1,S1,h1,?_⟩;cases o1 with
  | nx δ1=>exact fun Js cb H1 p1 E1=>⟨cb,S1,δ1,E1, .inl ⟨o,S',h2,q.pre p1⟩⟩
  | rt d=>cases h2;exact q
 .rcases R3.iK hf with h1 | ⟨o1,S1,h1,h2⟩
  .exact .inr ⟨c,S',h1,q⟩
  .refine .inl ⟨o1,S1,h1,?_⟩;cases o1 with
   | nx δ1=>exact fun Js cb H1 p1 E1=>⟨cb,S1,δ1,E1, .inr ⟨c,S',h2,q.pre p1⟩⟩
   | rt d=>cases h2⟩
def w_(X:Cx)(E:XK):Prop:=∀(pins:Wo) (σ:L2.St) (H:Hp) (s:Shared) (h':Heap) (a:Addr) (cls:Value) (vs:List Value),Inv X pins σ H s->Heap.MadeExcOf s.heap h' a cls vs->E cls none H->X.xe (.ref a) {s with heap:=h'}
def jX(c:Nat)(fs:FA):FZ:=fun δ S=>(fs δ S).bind fun vs S=>R3.aS (decide (vs.length<=sizeLine)) (.ex c S)
theorem BY{C:Addr}{t:TA}{x:Str}{e:Expr}{es:List Expr}{np b4 pos:Pos}(hf:w_ X E)(hc:X.calm=true)(T:XC X.K C)(hg:Gl X x)(hm:X.mg x=some (.ref C))(ha:PA X (e ::es) t)(nR:(x==("__debug__":Str))=false:=by decide)
 (he:starEach (e ::es) X.env=(false,eval e X.env) ::starEach es X.env:=by rfl) (jE:(backTo b4 (starEach es X.env)).any (·.1)=false:=by rfl) :
 PS X (.Raise (some (.Call (.Name x np) (e ::es) [] b4)) none pos) (fun D σ H=>t σ H fun vs H1=>vs.length<=sizeLine/\E (.ref C) none H1):=by
 intro pins s σ H D I h;obtain⟨bm,N,nm,qn,bs,hdct,sn,sub,ab,col,dd,k0,k1,k2,k3,k5,mN,hC,hN,hni,OT⟩:=DS (C:=C) I.mod.kin T.ex;refine wpAny_Raise_call_subT (C:=C) (nm:=nm) (q:=qn) (N:=N) (bs:=bs) (bm:=bm) (hdct:=hdct) (sn:=sn) (sub:=sub) (ab:=ab) (col:=col) (dd:=dd) (k0:=k0) (k1:=k1) (k2:=k2) (k3:=k3) (k5:=k5) (bmB:=HN) PySem.F.excBase_ValueError (mN:=mN) (OT.hasType PySem.F.excBase_ValueError.hasBase) (I.ok.hd hc)
  (by rw[he];show(false || (backTo b4 (starEach es X.env)).any (·.1))=false;rw [jE];rfl) hni (pA I hg hm ⟨rfl,?_⟩ nR)
 have hA:=ha b4 pins s σ H _ I h;rw[he] at hA ⊢;refine Calls.evalArgs_plain (wpAny_mono hA (fun us s2 ⟨vs,H1,I1,r,hl,hE⟩=>⟨rfl,by rw[<-r.length];exact hl,I1.bk _ _ hC,hN.keeps I1.bk,OT.keeps I1.bk,fun h' a hx=>hf pins σ H1 s2 h' a _ _ I1 hx hE⟩) fun _ _ y=>y)
theorem l8{c:Nat}{fs:FA}{x:Str}{e:Expr}{es:List Expr}{np b4 pos:Pos}(hf:w_ X E)(hc:X.calm=true)(T:XC X.K (cl c))(hg:Gl X x)(hm:X.mg x=some (.ref (cl c)))(ha:G2 X cl E (e ::es) fs)(nR:(x==("__debug__":Str))=false:=by decide)
 (he:starEach (e ::es) X.env=(false,eval e X.env) ::starEach es X.env:=by rfl) (jE:(backTo b4 (starEach es X.env)).any (·.1)=false:=by rfl) :
 FQ X cl E (.Raise (some (.Call (.Name x np) (e ::es) [] b4)) none pos) (jX c fs):=⟨(BY hf hc T hg hm ha.1 nR he jE).imp fun D σ H ⟨ρ,S,δ,En,z⟩=>by
 refine⟨ρ,S,δ,En,?_⟩;rcases z with⟨o,S',hf,q⟩ | ⟨c',S',hf,q⟩
 .obtain⟨vs,S1,h1,h2⟩:=R3.aj hf;unfold R3.aS at h2;split at h2 <;> cases h2
 .rcases R3.iK hf with h1 | ⟨vs,S1,h1,h2⟩
  .exact .inr ⟨c',S',h1,q⟩
  .unfold R3.aS at h2;split at h2
   .rename_i hl;cases h2;exact .inl ⟨vs,_,h1,fun us cb H1 p1 w1 r1=>⟨by rw[<-r1.length];exact of_decide_eq_true hl,q cb H1 p1 w1⟩⟩
   .cases h2⟩
end
theorem lz{P:Program}{w:World}{K:W.Frag}{mg:Wu}{base:Heap}{cl:Wv}{x qual:Str}{st:Stmt}{f:Addr}{fd:FuncData}{N ps:List Str}{k:Nat}{F:FZ}{b:List Stmt}{sc:Scope}(hb:bh st=b)(hs:aO st=sc)(Fn:wK K x qual st f fd)(S:bz N ps sc)
 (dS:∀(d8:Value) (A:Around) (outer:List Env) (s:Shared) (H:Hp) (E:XK),eJ k (A.deeper (envOfC qual sc s.heap.objs.size f d8))->
   rX (iG (uO P w) P w K mg base N qual sc f d8 A outer s H E) cl E b F):hJ P w K mg base (uO P w) (k+1) f fd ps (xj K cl ps.length (rC N F)):=by
 subst hb hs;obtain⟨oc,od,kV,doc,pm,an,d8,ct,CS,rfl,lk,px⟩:=Fn.ex;refine F8 lk px S (fun vs H Q E h=>h.1) fun A outer s H vs Q E hr Dm=>⟨_,(dS d8 A outer s H E hr).1,?_⟩
 obtain⟨_,ρ,S,ds,w,r,z⟩:=Dm;refine⟨ρ,S,dC N ds,vb w r,?_⟩;rcases z with⟨v,S',hg,q⟩ | ⟨c,S',hg,q⟩
 .obtain⟨o,S1,h1,h2⟩:=R3.aj hg;refine .inl ⟨o,S1,h1,?_⟩;cases o with
  | nx cT=>
    cases h2;exact fun b8 bF H' p' E'=>q _ bF H' p' E'.sw (by unfold bq Rep;rfl)
  | rt d'=>
    cases h2;exact fun u bF H' p' w' r'=>q u bF H' p' w' r'
 .rcases R3.iK hg with h1 | ⟨o,S1,h1,h2⟩
  .exact .inr ⟨c,S',h1,q⟩
  .cases o with
   | nx cT=>cases h2
   | rt d'=>cases h2
theorem jv{P:Program}{w:World}{K:W.Frag}{mg:Wu}{base:Heap}{N:List Str}{qual:Str}{scope:Scope}{f:Addr}{cd:Value}{A:Around}{outer:List Env}{s:Shared}{H:Hp}{E:XK} :
 Passes (uO P w) (iG (uO P w) P w K mg base N qual scope f cd A outer s H E) E:=KJ
theorem lV{P:Program}{w:World}{K:W.Frag}{mg:Wu}{base:Heap}{N:List Str}{qual:Str}{scope:Scope}{f:Addr}{cd:Value}{A:Around}{outer:List Env}{s:Shared}{H:Hp}{E:XK} :
 w_ (iG (uO P w) P w K mg base N qual scope f cd A outer s H E) E:=fun pins σ H1 s1 h' a cls vs I hx hE=>Hd I hx hE
end L3
end
section
namespace L2
open PySem PySem.Spec PyProof.Rows
abbrev Cx.alt(X:Cx)(A:Around)(calm:Bool)(pn:Wo)(xe:Wq):Cx:={X with A:=A,calm:=calm,pn:=pn,xe:=xe}
theorem Cx.Ok.alt{X:Cx}(ok:X.Ok){A:Around}{calm:Bool}{pn:Wo}{xe:Wq}(hd:calm=true->A.handled=none)(hf:A.frames=X.A.frames):(X.alt A calm pn xe).Ok:=
 ⟨ok.mod,ok.kind,ok.glob,ok.blt,ok.above,ok.inj,ok.has,ok.cab,hd,hf.trans ok.frames,ok.stk,ok.exf,ok.bs,ok.bsz,ok.noex,ok.exfs,ok.n9,ok.frf⟩
section
variable {X:Cx} {pins jF:Wo} {σ:St} {H H1 H':Hp} {s s1 s':Shared}
theorem Inv.alt{A:Around}{calm:Bool}{pn:Wo}{xe:Wq}(I:Inv X pins σ H s)(hd:calm=true->A.handled=none)(hf:A.frames=X.A.frames)(hp:∀p∈pn++jF,p∈X.pn++pins):Inv (X.alt A calm pn xe) jF σ H s:=
 ⟨I.ok.alt hd hf,I.os,I.bare,I.base,I.loc,I.cell,I.free,I.freeC,fun p hq=>I.pin p (hp p hq),I.hok,I.len⟩
theorem Inv.Ly{calm:Bool}{pn:Wo}{xe:Wq}(ok:X.Ok)(I:Inv (X.alt A calm pn xe) jF σ H s)(hp:∀p∈X.pn++pins,p∈pn++jF):Inv X pins σ H s:=
 ⟨ok,I.os,I.bare,I.base,I.loc,I.cell,I.free,I.freeC,fun p hq=>I.pin p (hp p hq),I.hok,I.len⟩
theorem yL{M:Model}{A:Around}{E:Wq}{i:Nat}{x:Str}{pos:Pos}{Q:Unit->Shared->Prop}(I:Inv X pins σ H s)(hN:X.N.Nodup)(hi:X.N[i]? =some x)(hk:X.env.kindOf x=some .local)
 (h:∀s',Inv X pins (σ.set i none) H s'->Q () s'):wpAny M A (do bindName X.env x .none;unbindBehindTheSuite X.env x pos) Q E s:=by
 obtain⟨m,hn,hl⟩:=id I.loc;have hcls:(X.env.scope.kind== .class || (X.env.scope.kind== .module && X.env.locals !=X.env.globals))=false:=by rw[I.ok.kind];rfl
 have hiσ:i < σ.length:=by rw[I.len];exact(List.getElem?_eq_some_iff.mp hi).1
 have Cj:=I.Cj;refine wpAny_nameGoes_keeps hk hn hcls fun h' v Px hs=>?_
 refine h _ ⟨I.ok,I.os,I.bare,⟨fun b o e n hb hx=>?_,fun b o e n hb hx=>?_,I.base.free,fun b o e hx=>?_,I.base.tups,I.base.frzs,I.base.tbls⟩,⟨_,Px,fun j y v' e1 e2 e3=>?_⟩,fun y c e=>?_,I.free,I.freeC,fun p hp=>?_,fun b ob e=>?_,by simpa using I.len⟩
 .exact(hs.2 b (Nat.ne_of_lt (Nat.lt_of_lt_of_le (Heap.lt_size e) I.ok.above))).trans (I.base.keep b o e n hb hx)
 .obtain⟨sl,e1⟩:=I.base.slot b o e n hb hx;exact⟨sl,(hs.2 b (Nat.ne_of_lt (Nat.lt_of_lt_of_le (Heap.lt_size e) I.ok.above))).trans e1⟩
 .obtain⟨o',e1⟩:=I.base.there b o e hx;exact⟨o',(hs.2 b (Nat.ne_of_lt (Nat.lt_of_lt_of_le (Heap.lt_size e) I.ok.above))).trans e1⟩
 .by_cases hj:j=i
  .subst hj;rw[List.getElem?_set_self hiσ] at e2;cases e2
  .rw [List.getElem?_set_ne (Ne.symm hj)] at e2;obtain⟨u',r',q⟩:=hl j y v' e1 e2 e3;refine⟨u',r',?_⟩;rcases q with⟨k,e⟩ | ⟨k,c,e,z⟩
   .refine .inl ⟨k,?_⟩;have:y≠x:=fun e=>hj (qv hN e1 (e▸hi))
    simp [this,e]
   .exact .inr ⟨k,c,e,z.sameBut hs (Cj y c e)⟩
 .obtain⟨w',z⟩:=I.cell y c e;exact⟨w',z.sameBut hs (Cj y c e)⟩
 .obtain⟨e,n,ne,nf,d⟩:=I.pin p hp;exact⟨(hs.2 p.1 ne).trans e,n,ne,nf,d⟩
 .refine(I.hok b ob e).tU (fun c w' hc q=>(hs.2 c ?_).trans q) (fun _ q=>q) fun _ _ q=>q
  rintro rfl;rcases hc with rfl | hc
  .have z:=I.free;rw [z] at e;cases e
  .have z:=I.free;rw [z] at hc;cases hc
theorem pP{B h5:Heap}{a:Addr}{C:Addr}{a0:Value}(I:Inv X pins σ H1 s1)(pz:X.stack=X.env ::X.outer)(os:s'.os=s1.os)(bare:AllBare s'.gens)(un:Un (mD X.stack) [] H1 H' s1.heap s'.heap)(hok:kU X.prog X.w H' s'.heap)
 (uA:∀b o,s'.heap.get? b=some o->b ∉ mD X.stack->((∃u,s1.heap.get? b=some u)\/∃u,H' b=some u)->B.get? b=some o) (fl:Heap.FlyingW B X.stack a (.ref C) a0 h5) (up:s'.heap.UpToSlots h5) :
 H' a=none/\tW a C h5/\Inv X pins σ (upd H' a (.ext (L3.isExc C a))) {s' with heap:=h5}:=by
 have hfree:∀b,b∈mD X.stack->H' b=none:=fun b hb=>by
  obtain⟨_,o,ho,_⟩:=I.stack.mem hb;exact un.free b o ho (I.l5 b hb) (by simp)
 have stB:∀b o,B.get? b=some o->h5.get? b=some o:=fl.1;have Dg:∀b o,H' b=some o->∀u,s'.heap.get? b=some u->h5.get? b=some u:=fun b o q u hu=>stB b u (uA b u hu (fun hb=>by rw[hfree b hb] at q;cases q) (.inr ⟨o,q⟩))
 obtain⟨oe,vs,he,hec,hed,_⟩:=fl.first
 have nst:a ∉ mD X.stack:=fun hb=>by
  obtain⟨_,o,ho,hd⟩:=fl.2.2.1.mem hb;rw[he] at ho;cases ho;exact hd _ hed
 have n0:∀u,s1.heap.get? a≠some u:=fun u hu=>by
  obtain⟨u2,h2⟩:=un.there a u hu (by simp)
  have:=uA a u2 h2 nst (.inl ⟨u,hu⟩);rw[fl.2.1] at this;cases this
 have n1:H' a=none:=by
  cases q:H' a with
  | none=>rfl
  | some u=>
    obtain⟨u2,h2⟩:=ud hok q;have:=uA a u2 h2 nst (.inr ⟨u,q⟩);rw[fl.2.1] at this;cases this
 have n2:H1 a=none:=by
  cases q:H1 a with
  | none=>rfl
  | some u=>
    obtain⟨u2,h2⟩:=ud I.hok q;exact absurd h2 (n0 u2)
 refine⟨n1,⟨oe,he,hec⟩,?_⟩;have un2:Un (mD X.stack) [] H1 (upd H' a (.ext (L3.isExc C a))) s1.heap h5:=by
  refine⟨fun b o q n hb _=>?_,fun b o q n hb _=>?_,fun b o q n _=>?_,fun b o q _=>?_,fun b xs q=>?_,fun b o u q=>?_,fun b ps q=>?_⟩
  .exact stB b o (uA b o (un.keep b o q n hb (by simp)) hb (.inl ⟨o,q⟩))
  .obtain⟨UP,h2⟩:=un.slot b o q n hb (by simp)
   obtain⟨_,o',v3,hd⟩:=I.stack.mem hb;rw[q] at v3;cases v3;obtain⟨Me,h3⟩:=up b _ h2 hd;exact⟨Me,h3⟩
  .rw [bf (fun z=>by subst z;exact n0 o q)];exact un.free b o q n (by simp)
  .obtain⟨u2,h2⟩:=un.there b o q (by simp)
   by_cases hb:b∈mD X.stack
   .obtain⟨_,o',v3,hd⟩:=I.stack.mem hb;obtain⟨sl,h3⟩:=un.slot b o' v3 (I.l5 b hb) hb (by simp)
    obtain⟨Me,h4⟩:=up b _ h3 hd;exact⟨_,h4⟩
   .exact⟨u2,stB b u2 (uA b u2 h2 hb (.inl ⟨o,q⟩))⟩
  .rw [bf (bD q n2)];exact un.tups b xs q
  .rw [bf (bD q n2)];exact un.frzs b o u q
  .rw [bf (bD q n2)];exact un.tbls b ps q
 have hok2:kU X.prog X.w (upd H' a (.ext (L3.isExc C a))) h5:=fun b o q=>by
  by_cases hb:b=a
  .subst hb;rw[a_] at q;cases q;refine⟨⟨oe,he,hec⟩,⟨oe,he⟩,fun h1 h2 p k=>?_⟩
   obtain⟨o,h3,h4⟩:=p;exact⟨o,k o h3,h4⟩
  .rw [bf hb] at q;refine(hok b o q).tU (fun c u hc hu=>?_) (fun c z=>by rw[bf (bD z n1)];exact z) (fun c xs z=>by rw[bf (bD z n1)];exact z)
   rcases hc with rfl | hc
   .exact Dg c o q u hu
   .exact Dg c _ hc u hu
 exact I.Gk (s':={s' with heap:=h5}) os un2 hok2 bare (fun b z=>absurd z (by simp))
end
end L2
namespace L3
open PySem PySem.Spec PyProof.Rows L2
section
variable {X:Cx} {cl:Wv}
def rO(F:FZ)(ok:Nat->Bool)(i:Nat)(G:FZ):FZ:=fun δ S=>match F δ S with
 | .ok o S'=> .ok o S'
 | .ex c S'=>R3.aS (ok c) ((DT (G ((List.replicate δ.length none).set i (some (.loc S'.length))) (S'++[.exc c]))).bind fun o S2=>match o with | .nx cT=> .ok (.nx (cT.set i none)) S2 | .rt v=> .ok (.rt v) S2)
 | .no=> .no
theorem GN{F G:FZ}{ok:Nat->Bool}{i:Nat}{n fx:Str}{Cf:Addr}{body CK:List Stmt}{b0:Stmt}{np LS pos:Pos}(pz:X.stack=X.env ::X.outer)(wk:X.env.frame=some X.env.locals)(Rz:X.calm=true)
 (hC:∀c,ok c=true->PySem.W.exmOne X.K (.ref (cl c)) (.ref Cf)=some true) (hg:Gl X fx) (hm:X.mg fx=some (.ref Cf)) (hN:X.N.Nodup) (hi:X.N[i]? =some n) (hk:X.env.kindOf n=some .local)
 (dS:∀(pn:Wo) (xe:Wq) (E:XK),Passes (uO X.prog X.w) (X.alt X.A X.calm pn xe) E->rX (X.alt X.A X.calm pn xe) cl E body F)
 (LV:∀(a:Addr) (pn:Wo),yA (X.alt (X.A.mark (some (.ref a))) false pn fun _ _=>False) cl (b0 ::CK) G) (nR:(fx==("__debug__":Str))=false:=by decide) :
 PZ X cl (.Try body [.ExceptHandler (some (.Name fx np)) (some n) (b0 ::CK) LS] [] [] pos) (rO F ok i G):=⟨by
 intro pins s σ H D I ⟨ρ,S,δ,o,S',En,hf,q⟩;refine wpAny_Try_except ?_;have I1:∀xe,Inv (X.alt X.A X.calm (X.pn++pins) xe) [] σ H s:=fun xe=>I.alt I.ok.hd rfl fun p hp=>by simpa using hp
 have back:∀{b8 H' s'} {xe} {A calm jF},Inv (X.alt A calm (X.pn++pins) xe) jF b8 H' s'->Inv X pins b8 H' s':=fun J=>Inv.Ly I.ok J fun p hp=>List.mem_append_left _ hp
 have nxt:∀{xe f s1},SP (X.alt X.A X.calm (X.pn++pins) xe) [] D f s1->(match f with | .next=>wpAny (model X.prog X.w) X.A (execs [] X.env) (SP X pins D) X.xe s1 | f=>SP X pins D f s1):=fun {xe f s1} z=>by
  cases f with
  | next=>obtain⟨b8,H',J,w⟩:=z;exact wpAny_execs_nil ⟨b8,H',back J,w⟩
  | brk=>obtain⟨b8,H',J,w⟩:=z;exact⟨b8,H',back J,w⟩
  | cont=>obtain⟨b8,H',J,w⟩:=z;exact⟨b8,H',back J,w⟩
  | ret u=>obtain⟨v,b8,H',J,r,w⟩:=z;exact⟨v,b8,H',back J,r,w⟩
 cases hF:F δ S with
 | no=>simp only[rO,hF] at hf;cases hf
 | ok o1 S1=>
   simp only[rO,hF] at hf;cases hf;exact di ((dS (X.pn++pins) _ E0 fun _ _ _ _ _ _ _ ⟨_,_,_,_,_,_,_,_,_,_,_,_,z⟩=>z.elim).1 [] s σ H D (I1 _) ⟨ρ,S,δ,En, .inl ⟨_,_,hF,q⟩⟩) fun f s1 z=>nxt z
 | ex c S1=>
   simp only[rO,hF] at hf;obtain⟨hok,hf⟩:=R3.aX hf;obtain⟨o2,S2,hG,hf⟩:=R3.aj hf;have hG:=jQ hG;refine di ((dS (X.pn++pins) (fun e s₁=>wpAny (model X.prog X.w) X.A (noteFrame e X.env) (fun _ rY=>wpAny (model X.prog X.w) X.A (setFlight e none) (fun _ FI=>wpAny (model X.prog X.w) X.A (handleBy e X.env [.ExceptHandler (some (.Name fx np)) (some n) (b0 ::CK) LS]) (SP X pins D) X.xe FI) X.xe rY) X.xe s₁)
    (fun cls d H'=>cls= .ref (cl c)/\∃bF,Pre ρ H bF H'/\SW X.K cl bF H' S1) ?_).1 [] s σ H D (I1 _) ⟨ρ,S,δ,En, .inr ⟨c,S1,hF,fun bF H' p w=>⟨rfl,bF,p,w⟩⟩⟩) fun f s1 z=>nxt z
   intro jF b8 H1 s1 e s' J hc;obtain⟨a,B,cls,a0,H',rfl,os,bare,un,hokH,fl,uA,rfl,bF,p',w'⟩:=hc;have fl:Heap.FlyingW B (X.env ::X.outer) a (.ref (cl c)) a0 s'.heap:=by rw[<-pz];exact fl
   refine wpAny_looks_onW (by rw[I.ok.frames,pz]) wk fl fun h4 held Rq=>?_
   refine wpAny_landsW held fun h5 Rk Rw=>?_
   have C5:=pP (X:=X.alt X.A X.calm (X.pn++pins) _) (s':=s') J pz os bare un hokH uA (by rw[show Cx.stack (X.alt X.A X.calm (X.pn++pins) _)=X.env ::X.outer from pz];exact Rk) (Rq.trans Rw)
   have J5:Inv (X.alt (X.A.mark (some (.ref a))) false (X.pn++pins) fun _ _=>False) jF b8 _ {s' with heap:=h5}:=Inv.alt (X:=X.alt X.A X.calm (X.pn++pins) _) C5.2.2 (fun z=>by cases z) rfl fun p hp=>hp
   refine wpAny_handleBy_cons (codeAny_handlers_test (pA J5 hg hm ?_ nR)) (by intro q;cases q)
   refine(PySem.W.exm_one J5.Dj (tW.ty C5.2.1) (hC c hok)).here ?_;refine codeAny_handlers_suite_as ?_;refine PyProof.Rows.lands_againW Rk fun h6 U8 Uz=>?_
   have C6:=pP (X:=X.alt X.A X.calm (X.pn++pins) _) (s':=s') J pz os bare un hokH uA (by rw[show Cx.stack (X.alt X.A X.calm (X.pn++pins) _)=X.env ::X.outer from pz];exact U8) ((Rq.trans Rw).trans Uz)
   have J6:Inv (X.alt (X.A.mark (some (.ref a))) false (X.pn++pins) fun _ _=>False) jF b8 _ {s' with heap:=h6}:=Inv.alt (X:=X.alt X.A X.calm (X.pn++pins) _) C6.2.2 (fun z=>by cases z) rfl fun p hp=>hp
   have sm:aU H' (upd H' a (.ext (isExc (cl c) a))):=bg C6.1;obtain⟨w6,p6⟩:=w'.new (o:= .exc c) sm C6.1 (show Al X.K cl (bF.push a) _ (.exc c) _ from⟨a,a_⟩)
   have la:(bF.push a).r[S1.length]? =some a:=by
    show(bF.r++[a])[S1.length]? =some a;rw[<-w'.len,List.getElem?_append_right (Nat.le_refl _),Nat.sub_self];rfl
   refine qu (X:=X.alt (X.A.mark (some (.ref a))) false (X.pn++pins) fun _ _=>False) J6 hN hi (.inl hk) (v:= .ref a) rfl (fun s7 J7=>?_) (.inr hk)
   have UE:dt X.K cl (bF.push a) (upd H' a (.ext (isExc (cl c) a))) (S1++[.exc c]) (b8.set i (some (.ref a))) ((List.replicate δ.length none).set i (some (.loc S1.length))):=by
    refine⟨?_,w6,fun j d e=>?_⟩
    .rw [List.length_set,List.length_set,List.length_replicate,En.len,I.len];exact J.len.symm
    .by_cases hj:i=j
     .subst hj;have hlt:i < (List.replicate δ.length (none:Option V3)).length:=by
       rw[List.length_replicate,En.len,I.len];exact(List.getElem?_eq_some_iff.mp hi).1
      rw[List.getElem?_set_self hlt] at e;cases e;refine⟨.ref a,?_,by unfold bq;exact⟨a,la,rfl⟩⟩
      rw[List.getElem?_set_self];have:b8.length=X.N.length:=J.len;rw[this];exact(List.getElem?_eq_some_iff.mp hi).1
     .rw [List.getElem?_set_ne hj,List.getElem?_replicate] at e;split at e <;> cases e
   have q7:uM X.K cl (bF.push a) (upd H' a (.ext (isExc (cl c) a))) {nx:=fun Jw H8=>D.nx (Jw.set i none) H8,rt:=D.rt} S2 o2:=by
    cases o2 with
    | nx dX=>
      cases hf;intro Jw O5 H8 p8 E8;refine q (Jw.set i none) O5 H8 ((p'.trans p6).trans p8) ⟨?_,E8.sw,fun j d e=>?_⟩
      .rw [List.length_set,List.length_set];exact E8.len
      .by_cases hj:i=j
       .subst hj;by_cases hlt:i < dX.length
        .rw [List.getElem?_set_self hlt] at e;cases e
        .rw [List.getElem?_eq_none (by rw[List.length_set];omega)] at e;cases e
       .rw [List.getElem?_set_ne hj] at e ⊢;exact E8.val j d e
    | rt v=>
      cases hf;exact fun u O5 H8 p8 w8 r8=>q u O5 H8 ((p'.trans p6).trans p8) w8 r8
   refine wpAny_mono ((LV a (X.pn++pins)).1 jF s7 _ _ _ J7 ⟨bF.push a,S1++[.exc c],_,o2,S2,UE,hG,q7⟩) (fun f s8 z=>?_) fun _ _ z=>z.elim
   cases f with
   | next=>
     obtain⟨Jw,H8,J8,z⟩:=z;exact yL (back J8) hN hi hk fun s9 J9=>⟨_,H8,J9,z⟩
   | brk=>obtain⟨Jw,H8,J8,z⟩:=z;exact z.elim
   | cont=>obtain⟨Jw,H8,J8,z⟩:=z;exact z.elim
   | ret u=>
     obtain⟨v,Jw,H8,J8,r8,z⟩:=z;exact yL (back J8) hN hi hk fun s9 J9=>⟨v,_,H8,J9,r8,z⟩⟩
end
end L3
end
section
namespace L2
open PySem PySem.Spec PyProof.Rows
theorem Hf{H:Hp}{a b C:Addr}(k:kU P w H h)(e:H a=some (.ext (L3.isExc C b))):tW a C h:=by
 obtain⟨p,⟨o,ho⟩,st⟩:=(show de P w H h a (.ext (L3.isExc C b)) from k a _ e)
 by_cases JW:a=b
 .subst JW;exact p
 .exfalso
  obtain⟨o2,h2,_⟩:=st h (PySem.W.hideAll h [b]) p fun o q=>PySem.W.hideAll_get [b] q (by simpa using JW)
  rw[PySem.W.hideAll_none [b] (List.mem_singleton.mpr rfl)] at h2;cases h2
def qK:V->Bool | .ref _=>true | .ty _=>true | _=>false
def zQ:V->Value | .ref a=> .ref a | .ty n=> .type n | _=> .none
theorem yu{v:V}{u:Value}(h:qK v=true)(r:RelV v u):u=zQ v:=by
 cases v with
 | ref a=>exact r
 | ty n=>exact r
 | _=>cases h
section
variable {X:Cx}
def HV(K:W.Frag):List V->Hp->VK->Prop:=fun xs H Q=>∃a b C cv k,xs=[V.ref a,cv]/\H a=some (.ext (L3.isExc C b))/\XC K C/\qK cv=true/\PySem.W.kitOne K (.ref C) (zQ cv)=some k/\Q (.bl k) H
def HQ(K:W.Frag):List V->Hp->VK->Prop:=fun xs H Q=>∃cv k,xs=[V.cI,cv]/\qK cv=true/\PySem.W.kitOne K (.type "NoneType") (zQ cv)=some k/\Q (.bl k) H
def So(K:W.Frag):List V->Hp->VK->Prop:=fun xs H Q=>∃a b C tp Mg k,xs=[V.ref a,V.ref tp]/\H a=some (.ext (L3.isExc C b))/\XC K C/\H tp=some (.tup Mg)/\Mg.all qK=true/\PySem.W.kitAny K (.ref C) (Mg.map zQ)=some k/\Q (.bl k) H
theorem BP:jC X (.builtin "isinstance") (HV X.K):=by
 intro pins s σ H xs us Q I r h;obtain⟨a,b,C,cv,k,rfl,e,T,hc,hk,q⟩:=h;obtain⟨u,w',rfl,ru,xM⟩:=vals2 r;cases ru;rw[yu hc xM];exact PySem.W.kia_one (Cr T) I.Dj (Hf I.hok e) hk (fun z=>nomatch z) fun tk=>⟨.bl k,H,I.tok _,rfl,q⟩
theorem Bo:jC X (.builtin "isinstance") (HQ X.K):=by
 intro pins s σ H xs us Q I r h;obtain⟨cv,k,rfl,hc,hk,q⟩:=h;obtain⟨u,w',rfl,ru,xM⟩:=vals2 r;cases ru;rw[yu hc xM];exact PySem.W.kia_one PySem.W.kitx_none I.Dj True.intro hk (fun z=>nomatch z) fun tk=>⟨.bl k,H,I.tok _,rfl,q⟩
end
end L2
namespace L3
open PySem PySem.Spec PyProof.Rows L2
section
variable {X:Cx} {cl:Wv} {E:XK}
def lK(f:FX)(tb:Nat->Option Bool):FX:=fun δ S=>(f δ S).bind fun v S1=>match v with
 | .loc k=>(match S1[k]? with | some (.exc c)=>(match tb c with | some b=> .ok (.d (.bl b)) S1 | none=> .no) | _=> .no)
 | .d .cI=> .ok (.d (.bl false)) S1
 | _=> .no
theorem eW{e c:Expr}{f:FX}{tb:Nat->Option Bool}{cv:V}{p pos:Pos}(he:PX X cl e f)(hc:PE X c (tC cv))(RF:qK cv=true)(hg:Gl X "isinstance")(hm:X.mg "isinstance"=none)
 (ht:∀c b,tb c=some b->XC X.K (cl c)/\PySem.W.kitOne X.K (.ref (cl c)) (zQ cv)=some b) (hn:PySem.W.kitOne X.K (.type "NoneType") (zQ cv)=some false)
 (hs:starEach [e,c] X.env=(false,eval e X.env) ::starEach [c] X.env:=by rfl) (hs2:starEach [c] X.env=(false,eval c X.env) ::starEach [] X.env:=by rfl) (jE:(backTo pos (starEach [c] X.env)).any (·.1)=false:=by rfl) :
 PX X cl (.Call (.Name "isinstance" p) [e,c] [] pos) (lK f tb):=⟨by
 have both:jC X (.builtin "isinstance") (fun xs H Q=>HV X.K xs H Q\/HQ X.K xs H Q):=fun pins s σ H xs us Q I r h=>h.elim (BP pins s σ H xs us Q I r) (Bo pins s σ H xs us Q I r)
 refine(vx both hg hm boot_isinstance (eE he.1 (eE hc iW hs2) hs) (by decide) (by decide) hs jE).imp fun σ H Q ⟨ρ,S,δ,v,S',En,hf,q⟩=>?_
 obtain⟨v1,S1,h1,h2⟩:=R3.aj hf;refine⟨ρ,S,δ,v1,S1,En,h1,fun u cb H1 p1 w1 r1=>?_⟩
 show HV X.K [u,cv] H1 Q\/HQ X.K [u,cv] H1 Q;split at h2
 .rename_i k;split at h2
  .rename_i cc hS;split at h2
   .rename_i b hb;cases h2;unfold bq at r1;obtain⟨a,ha,rfl⟩:=r1;obtain⟨b',hH⟩:=w1.ob k a _ ha hS;exact .inl ⟨a,b',cl cc,cv,b,rfl,hH,(ht cc b hb).1,RF,(ht cc b hb).2,q _ cb H1 p1 w1 (by unfold bq;exact Rep.bl.mpr rfl)⟩
   .cases h2
  .cases h2
 .cases h2;unfold bq at r1;cases Rep.cI.mp r1;exact .inr ⟨cv,false,rfl,RF,hn,q _ cb H1 p1 w1 (by unfold bq;exact Rep.bl.mpr rfl)⟩
 .cases h2⟩
def Sy(f:FX)(tb:Nat->Option Bool):FX:=fun δ S=>(f δ S).bind fun v S1=>match v with
 | .loc k=>(match S1[k]? with | some (.exc c)=>(match tb c with | some b=> .ok (.d (.bl b)) S1 | none=> .no) | _=> .no)
 | _=> .no
def VY(Mg:List V):TA:=fun _ H Q=>Q Mg H
theorem l9{fs:FA}{n:Nat}(h:∀δ S ds S',fs δ S= .ok ds S'->ds.length=n):∀δ S ds S',kI fs δ S= .ok ds S'->ds.length=n:=fun δ S ds S' e=>h δ S ds S' (jQ e)
end
end L3
end
section
namespace L3
open PySem PySem.Spec PyProof.Rows L2
section
variable {α β:Type} {S S':aZ} {δ:DE} {c:Nat}
theorem Ba{r:R3 α}{Q:α->aZ->Prop}(h:W3 r Q):W3 (DT r) Q:=by
 obtain⟨a,S,e,q⟩:=h;rw[e];exact⟨a,S,rfl,q⟩
theorem Cb{f:FA}{Q:List V3->aZ->Prop}(h:W3 (f δ S) Q):W3 (kI f δ S) Q:=Ba h
theorem La{f:FZ}{Q:Ou->aZ->Prop}(h:W3 (f δ S) Q):W3 (uz f δ S) Q:=Ba h
theorem LD{f:FB}{Q:Bool->aZ->Prop}(h:W3 (f δ S) Q):W3 (ID f δ S) Q:=Ba h
theorem GR{F G:FZ}{ok:Nat->Bool}{i:Nat}{Q:Ou->aZ->Prop}(h:W3 (F δ S) Q):W3 (rO F ok i G δ S) Q:=by
 obtain⟨o,S1,e,q⟩:=h;unfold rO;rw[e];exact W3.ok q
theorem IY{F G:FZ}{ok:Nat->Bool}{i:Nat}{Q:Ou->aZ->Prop}(h:F δ S= .ex c S')(hc:ok c=true)(hg:W3 (G ((List.replicate δ.length none).set i (some (.loc S'.length))) (S'++[.exc c])) fun o S2=>∃δ1,o= .nx δ1/\Q (.nx (δ1.set i none)) S2):W3 (rO F ok i G δ S) Q:=by
 unfold rO;rw[h];refine W3.wh hc (W3.bind (Ba (hg.mono fun o S2 ⟨δ1,e,q⟩=>?_)))
 subst e;exact W3.ok q
theorem Kc{f:FX}{tb:Nat->Option Bool}{Q:V3->aZ->Prop}(h:W3 (f δ S) fun v S1=>∃k c b,v= .loc k/\S1[k]? =some (.exc c)/\tb c=some b/\Q (.d (.bl b)) S1):W3 (lK f tb δ S) Q:=W3.bind (h.mono fun v S1 ⟨k,c,b,e,e1,e2,q⟩=>by
 subst e;simp only[e1,e2];exact W3.ok q)
end
end L3
end
section
namespace L3
open PySem PySem.Spec PyProof.Rows L2
def Vv(K:W.Frag)(mg:Wu)(x:Str):Prop:=∃f,PySem.W.nsIn K mainGlobals x=some (some (.ref f))/\mg x=some (.ref f)
section
variable {X:Cx} {cl:Wv} {E:XK}
def VD(x:Str):FX:=fun _ S=> .ok (.fn x) S
abbrev GT:=List (Str × (List V3->aZ->R3 V3))
def Ft(P:Program)(w:World)(K:W.Frag)(mg:Wu)(base:Heap)(cl:Wv)(j n:Nat)(l:GT):Prop:=∀x g,l.lookup x=some g->∃k,k<=j/\bO P w K mg base cl k x n g
def Nq(i:Nat)(l:GT)(fs:FA):FX:=fun δ S=>match δ[i]? with
 | some (some (.fn x))=>(match l.lookup x with | some g=>(fs δ S).bind g | none=> .no)
 | _=> .no
end
end L3
end
section
namespace HT
open PySem PySem.Spec PyProof.Rows
section
variable {prog:Program} {w:World} {A:Around} {E:Wq} {s:Shared}
end
end HT
namespace L2
open PySem PySem.Spec PyProof.Rows
def vU:D->Option Key
 | .int n=>some (Sum.inl n)
 | .str x=>some (Sum.inr x)
 | _=>none
theorem m_{K:W.Frag}{B:List Addr}{d:D}{k:Key}{v:V}(h:vU d=some k)(r:Rep K B H d v):v=kV k:=by
 cases d with
 | int n=>cases h;exact Rep.int.mp r
 | str x=>cases h;exact Rep.str.mp r
 | cI=>cases h
 | bl b=>cases h
 | lst ds=>cases h
 | tup ds=>cases h
 | dct ks ds=>cases h
def jS(ks:List Key)(k:Key):Bool:=ks.any fun x=>decide (x=k)
def Eh(ks:List Key)(ds:List D)(k:Key):Option D:=((ks.zip ds).find? fun p=>decide (p.1=k)).map (·.2)
theorem yG(aC:List (Key × V))(k:Key):(iE aC k).isSome=jS (aC.map (·.1)) k:=by
 unfold iE jS;rw[Option.isSome_map,Bool.eq_iff_iff,List.find?_isSome,List.any_eq_true];constructor
 .rintro⟨x,h1,h2⟩;exact⟨x.1,List.mem_map_of_mem h1,h2⟩
 .rintro⟨x,h1,h2⟩;obtain⟨y,y1,rfl⟩:=List.mem_map.mp h1;exact⟨y,y1,h2⟩
def wU(a b:D):R D:=match b with
 | .dct ks _=>(match vU a with | some k=> .ok (.bl (jS ks k)) | none=> .no)
 | _=> .no
def Fh(a b:D):R D:=match b with
 | .dct ks _=>(match vU a with | some k=> .ok (.bl (!jS ks k)) | none=> .no)
 | _=> .no
def yq(d k:D):R D:=match d with
 | .dct ks ds=>(match vU k with | some k=>(match Eh ks ds k with | some x=> .ok x | none=> .no) | none=> .no)
 | _=> .no
section
variable {X:Cx}
theorem BS(hu:X.A.units+1 < cLine):l_ X (compareOp .In) wU:=by
 intro pins s σ H B da db d x y v u I hb rx ry ra rb hg;unfold wU at hg;split at hg
 .split at hg
  .rename_i ks ds k hk;cases hg;obtain⟨a,aC,rfl,⟨_,hH⟩,rfl,rs⟩:=rb;have:=m_ hk ra;subst this;obtain rfl:u=Value.ref a:=ry;refine Nj hu I (lx.k hH) rx fun s3 I3=>⟨.bl (jS (aC.map (·.1)) k),H,I3,?_,aU.refl H,Rep.bl.mpr rfl⟩
   rw[yG];rfl
  .cases hg
 .cases hg
theorem KQ(hu:X.A.units+1 < cLine):l_ X (compareOp .NotIn) Fh:=by
 intro pins s σ H B da db d x y v u I hb rx ry ra rb hg;unfold Fh at hg;split at hg
 .split at hg
  .rename_i ks ds k hk;cases hg;obtain⟨a,aC,rfl,⟨_,hH⟩,rfl,rs⟩:=rb;have:=m_ hk ra;subst this;obtain rfl:u=Value.ref a:=ry;refine DH hu I (lx.k hH) rx fun s3 I3=>⟨.bl (!jS (aC.map (·.1)) k),H,I3,?_,aU.refl H,Rep.bl.mpr rfl⟩
   rw[yG];rfl
  .cases hg
 .cases hg
theorem zO(hu:X.A.units+1 < cLine)(ho:QD X o f)(hi:QD X i g)(hs:Hg i):QD X (.Subscript o i pos) (e2 yq f g):=by
 refine⟨(Fm hu ho.1 hi.1 hs).imp fun σ H Q ⟨Z,B,δ,d,E,hf,q⟩=>?_⟩
 obtain⟨d1,h1,h2⟩:=R.aj hf;obtain⟨d2,h3,h4⟩:=R.aj h2;refine⟨Z,B,δ,d1,E,h1,fun v1 H1 s1 r1=>⟨Z,B,δ,d2,E.same s1,h3,fun v2 H2 s2 r2=>?_⟩⟩
 unfold yq at h4;split at h4
 .split at h4
  .rename_i ks ds k hk;split at h4
   .rename_i x e;cases h4;have Ah:=r1.same s2;obtain⟨a,aC,rfl,⟨_,hH⟩,rfl,rs⟩:=Ah;obtain⟨p,e1,e2⟩:=L3.dN e;obtain⟨y,ey,ry⟩:=oK rs e1;have ry:Rep X.K B H2 _ y:=e2▸ry;refine⟨a,y,rfl,?_,q _ H2 (s1.trans s2) ry⟩;rw[m_ hk r2,<-ey];exact lx.k hH
   .cases h4
  .cases h4
 .cases h4
def P4(f:FD):FD:=fun δ=>(f δ).bind fun d=>match d with | .tup ds=> .ok (.tup ds.reverse) | _=> .no
theorem tE(l:Addr)(items:Array Value)(n:Nat)(b:Addr)(iA:Array Value)(n2:Nat)(o:Obj)(L6:o.cls= .type "tuple")(Py:o.data= .seq iA n2)(UI:¬(!items.isEmpty && Builtin.List.listTooLong (items.size+iA.size))=true)(MO:items.size<=sizeLine)(hs2:items.size+iA.size<=sizeLine+1) :
 Meets (Builtin.«list.extend» ⟨[.ref l, .ref b],[]⟩) (fun _ R s=>s.heap.get? l=some {cls:= .type "list",dict:=none,data:= .seq items n,slots:=#[]}/\s.heap.get? b=some o/\R (.ok (.ret Value.none)) {s with heap:=s.heap.update l (Obj.mapSeq fun x=>x++iA),toks:=s.toks}):=
 .of_wp fun prog w A R s h=>by
   obtain⟨cls,dct,data,slots⟩:=o;subst L6 Py;obtain⟨hp,g,d,tk,os⟩:=s;obtain⟨hl,hb,h⟩:=h;have hz':(items++iA).size<=sizeLine+1:=by rw[Array.size_append];exact hs2
   wp_walk using(wpAny_updateSeq hl rfl),AutoSeq1.wpAny_loadPart' hl,AutoSeq1.wpAny_loadPart' hb;exact⟨_,rfl,h⟩
theorem extend_list(l:Addr)(items:Array Value)(n:Nat)(b:Addr)(iA:Array Value)(n2:Nat)(o:Obj)(L6:o.cls= .type "list")(Py:o.data= .seq iA n2)(UI:¬(!items.isEmpty && Builtin.List.listTooLong (items.size+iA.size))=true)(MO:items.size<=sizeLine)(hs2:items.size+iA.size<=sizeLine+1) :
 Meets (Builtin.«list.extend» ⟨[.ref l, .ref b],[]⟩) (fun _ R s=>s.heap.get? l=some {cls:= .type "list",dict:=none,data:= .seq items n,slots:=#[]}/\s.heap.get? b=some o/\R (.ok (.ret Value.none)) {s with heap:=s.heap.update l (Obj.mapSeq fun x=>x++iA),toks:=s.toks}):=
 .of_wp fun prog w A R s h=>by
   obtain⟨cls,dct,data,slots⟩:=o;subst L6 Py;obtain⟨hp,g,d,tk,os⟩:=s;obtain⟨hl,hb,h⟩:=h;have hz':(items++iA).size<=sizeLine+1:=by rw[Array.size_append];exact hs2
   wp_walk using(wpAny_updateSeq hl rfl),AutoSeq1.wpAny_loadPart' hl,AutoSeq1.wpAny_loadPart' hb;exact⟨_,rfl,h⟩
theorem wx:MV X "list.extend" (fun x vs H Q=>∃l b xs zs,x= .ref l/\vs=[.ref b]/\H l=some (.lst xs)/\(∃t,EL t X.K H b zs)/\xs.length+zs.length<=sizeLine/\Q .cI (upd H l (.lst (xs++zs)))):=by
 intro pins s σ H x vs v us Q I rx rv h;obtain⟨l,b,xs,zs,rfl,rfl,hH,⟨t,hB⟩,hz,q⟩:=h;cases rx;obtain⟨u,rfl,ru⟩:=rv.one;cases ru;obtain⟨z,its,n,r,hl,e⟩:=I.Bv hH;obtain⟨nQ,r2,e2⟩:=I.N7 hB;have Ad:=r2.length;have hsz:its.toArray.size+nQ.toArray.size<=sizeLine:=by rw[List.size_toArray,List.size_toArray];omega
 have hlong:¬(!its.toArray.isEmpty && Builtin.List.listTooLong (its.toArray.size+nQ.toArray.size))=true:=by
  rw[pT hsz,Bool.and_false];exact Bool.false_ne_true
 cases t with
 | true=>
   obtain⟨o,o1,o2,n2,o3⟩:=(show s.heap.IsTuple b nQ.toArray from e2)
   refine call_meets F.slot_list_extend ⟨_,e,rfl⟩ F.entry_list_extend (F.args_list_extend_2 _ _)
    (tE l its.toArray n b nQ.toArray n2 o o2 o3 hlong (by rw[List.size_toArray];omega) (by omega)) ⟨e,o1,?_⟩
   refine⟨.cI,_,I.EJ hH e (by simp) (r.append r2) ?_,rfl,q⟩
   rw[List.length_append];omega
 | false=>
   obtain⟨o,o1,o2,n2,o3⟩:=(show s.heap.IsList b nQ.toArray from e2)
   refine call_meets F.slot_list_extend ⟨_,e,rfl⟩ F.entry_list_extend (F.args_list_extend_2 _ _)
    (extend_list l its.toArray n b nQ.toArray n2 o o2 o3 hlong (by rw[List.size_toArray];omega) (by omega)) ⟨e,o1,?_⟩
   refine⟨.cI,_,I.EJ hH e (by simp) (r.append r2) ?_,rfl,q⟩
   rw[List.length_append];omega
def sN(i:Nat)(f:FD):FS:=fun δ=>(f δ).bind fun d=>match seqD? d with
 | some es=>(qa δ i).bind fun ds=>R.aS (decide (ds.length+es.length<=sizeLine)) (.ok (.nx (δ.set i (.bld (ds++es)))))
 | none=> .no
theorem oj{i:Nat}{x:Str}{e:Expr}{f:FD}{ij apos b4 pos:Pos}(he:QD X e f)(hd:(x==("__debug__":Str))=false:=by decide)(px:(x==("__classdict__":Str))=false:=by decide)(hs:starEach [e] X.env=(false,eval e X.env) ::starEach [] X.env:=by rfl)(nS:(apos.endLine==b4.line)=true:=by rfl)(ur:((backTo b4 (starEach [e] X.env)).all (fun x=>!x.1) && (backToKw b4 (keywordEach [] X.env)).all (fun x=>x.1.isSome)
 && decide (([e]:List Expr).length+([]:List Keyword).length+(if([]:List Keyword).isEmpty then 0 else 1) < 30))=true:=by rfl) (v8:swapsWith (.Call (.Attribute (.Name x ij) "extend" apos) [e] [] b4) none pos.line X.env=pure false:=by rfl) (nU:attributeBase (.Name x ij) "extend" X.env (eval (.Name x ij) X.env)=eval (.Name x ij) X.env:=by rfl) (hN:X.N[i]? =some x:=by rfl) (hv:DA X.env.scope x:=by first | exact Or.inl rfl | exact Or.inr (Or.inl rfl) | exact Or.inr (Or.inr rfl)) :
 CZ X (.Expr (.Call (.Attribute (.Name x ij) "extend" apos) [e] [] b4) pos) (sN i f):=by
 refine⟨(pJ (BN PySem.F.plainAttrs_list PySem.F.slot_list_extend PySem.F.type_list_extend wx (qY hN hv hd px) (eE he.1 iW hs) nU ur nS hs) v8).imp fun D σ H ⟨Z,B,δ,o,E,hf,q⟩=>?_⟩
 obtain⟨d,h1,h2⟩:=R.aj hf;split at h2
 .rename_i es he;obtain⟨ds,h3,h4⟩:=R.aj h2;obtain⟨hl,h5⟩:=R.aX h4;cases h5;have hb:=vF h3;obtain⟨a,xs,q1,q2,q3,q4,q5⟩:=E.bld i ds hb;refine⟨.ref a,q1, .inl ⟨rfl,xs,m4.of q4⟩,⟨Z,B,δ,d,E,h1,fun v H1 s1 r1=>?_⟩⟩
  have E1:=E.same s1;obtain⟨t,b,ys,rfl,k1⟩:=r1.N7 he;obtain⟨l,r'⟩:=k1 B H1 (cX.refl B H1);refine⟨a,b,xs,ys,rfl,rfl,s1 a _ q4,⟨_,l⟩,by rw[<-q5.length,<-r'.length];exact of_decide_eq_true hl,?_⟩
  obtain⟨E2,p2⟩:=E1.grow hb q1 q2 (s1 a _ q4) ((q5.same s1).append r');exact q σ B _ ((Ev.same E.zb s1).trans (Ev.grow E.zb q3 p2)) E2
 .cases h2
theorem vt{lo:Int}{n:Nat}{acc:Array Value}(h:ItemsOf (fun i v=>∃t,v=Value.int (lo+(i:Int)*1) t) acc n):Vals ((List.range n).map fun(i:Nat)=>V.int (lo+(i:Int))) acc.toList:=by
 obtain⟨hl,h⟩:=h;have gen:∀(l:List Value) (m:Nat),(∀j v,l[j]? =some v->∃t,v=Value.int (lo+((m+j:Nat):Int)) t)->Vals ((List.range' m l.length).map fun(i:Nat)=>V.int (lo+(i:Int))) l:=by
  intro l
  induction l with
  | nil=>intro m _;exact .nil
  | cons v l ih=>
    intro m hm;obtain⟨t,ht⟩:=hm 0 v rfl;refine .cons ⟨t,by rw[ht];simp⟩ (ih (m+1) fun j w hw=>?_)
    obtain⟨t,ht⟩:=hm (j+1) w (by simpa using hw)
    exact⟨t,by rw[ht];congr 2;omega⟩
 have:=gen acc.toList 0 fun j v hv=>by
  obtain⟨t,ht⟩:=h j v (by simpa using hv)
  exact⟨t,by rw[ht];simp⟩
 rw[Array.length_toList,hl] at this;rw[List.range_eq_range'];exact this
theorem sv{K:W.Frag}{B:List Addr}{lo:Int}:∀l:List Nat,aD K B H (l.map fun(i:Nat)=>D.int (lo+(i:Int))) (l.map fun(i:Nat)=>V.int (lo+(i:Int)))
 | []=>aD.nil
 | i ::l=>aD.cons (Rep.int.mpr rfl) (sv l)
def vi(f g:FD):au->R (List D):=fun δ=>(f δ).bind fun d=>(g δ).bind fun e=>match d,e with
 | .int i, .int j=>R.aS (decide (-(2 ^ 62)<=i/\i < 2 ^ 62/\ -(2 ^ 62)<=j/\j < 2 ^ 62/\j - i < 16777216)) (.ok (kH i (j - i).toNat))
 | _,_=> .no
theorem uN{a b:Expr}{f g:FD}{p p2 pos rZ:Pos}(hc:X.calm=true)(h:QD X a f)(h':QD X b g)(hg:Gl X "list")(hm:X.mg "list"=none)(FN:Gl X "range")(Mf:X.mg "range"=none)(hs:starEach [a,b] X.env=(false,eval a X.env) ::starEach [b] X.env:=by rfl)(MO:starEach [b] X.env=[(false,eval b X.env)]:=by rfl)
 (hs2:starEach [.Call (.Name "range" p2) [a,b] [] rZ] X.env=(false,eval (.Call (.Name "range" p2) [a,b] [] rZ) X.env) ::starEach [] X.env:=by rfl) (jE:(backTo pos (starEach [] X.env)).any (·.1)=false:=by rfl) :
 QN X (.Call (.Name "list" p) [.Call (.Name "range" p2) [a,b] [] rZ] [] pos) (vi f g):=by
 refine⟨?_⟩;intro pins s σ H Q I ⟨Z,B,δ,ds,E,hf,q⟩;obtain⟨d1,h1,h2⟩:=R.aj hf;obtain⟨d2,h3,h4⟩:=R.aj h2;have key:∃i j:Int,d1= .int i/\d2= .int j/\(-(2 ^ 62)<=i/\i < 2 ^ 62/\ -(2 ^ 62)<=j/\j < 2 ^ 62/\j - i < 16777216)/\ds=kH i (j - i).toNat:=by
  split at h4
  .obtain⟨h5,h6⟩:=R.aX h4;cases h6;exact⟨_,_,rfl,rfl,of_decide_eq_true h5,rfl⟩
  .cases h4
 obtain⟨i,j,rfl,rfl,⟨Ro,RB,UK,UR,Wd⟩,rfl⟩:=key;refine wpAny_Call_Name_kw (gA I hg hm boot_list ?_ (by decide) (by decide))
 refine PyProof.Rows.callWith_type1 ?_ hs2 jE;refine Calls.spliced_cons ?_;have hA:=eE h.1 (eE h'.1 iW MO) hs rZ pins s σ H (fun vs H1=>aU H H1/\vs=[.int i, .int j]) I ⟨Z,B,δ, .int i,E,h1,fun v H1 s1 r1=>⟨Z,B,δ, .int j,E.same s1,h3,fun v2 H2 s2 r2=>⟨s1.trans s2,by rw[Rep.int.mp r1,Rep.int.mp r2]⟩⟩⟩
 refine Call_ (gA I FN Mf boot_range (PyProof.Rows.callWith_type1 (di hA fun us s1 ⟨vs,H1,I1,r1,ss,ev⟩=>?_) (by rw[hs]) (by rw[MO];rfl)))
 subst ev;cases r1 with
 | cons r rr=>
 cases rr with
 | cons r' rr=>
 cases rr;obtain⟨t,rfl⟩:=r;obtain⟨t',rfl⟩:=r';refine call_range_2 ?_;have I2:Inv X pins σ H1 {s1 with heap:=s1.heap.push {cls:= .type "range",data:= .fields #[.int i t, .int j t', .int 1 s1.toks]},toks:=s1.toks+1}:=I1.kept fun b o e=>Heap.get?_push_of_some _ e
 refine Calls.spliced_nil ?_;have hsz:Builtin.Range.rangeSize i j 1=((j - i).toNat:Nat):=by rw[rangeSize_one];split <;> omega
 have hz:sizeLine=16777216:=sizeLine_eq;refine call_list_range (I2.ok.hd hc) (IsRange.new ..) (small_one Ro RB UK UR) hsz (by omega) fun h' tk acc c' hk xJ wa=>?_
 have rv:=vt wa;have hle:((List.range (j - i).toNat).map fun(k:Nat)=>V.int (i+(k:Int))).length<=sizeLine:=by rw[List.length_map,List.length_range];omega
 have hf':H1 (s1.heap.push {cls:= .type "range",data:= .fields #[.int i t, .int j t', .int 1 s1.toks]}).objs.size=none:=I2.hok.fresh (Nat.le_refl _);have I4:=I2.laid (t':=tk) hk (Nat.le_refl _) (show de X.prog X.w _ _ _ (.lst _) from⟨hle,acc.toList,c',rv,by simpa using xJ⟩)
 exact⟨.ref _,_,I4,rfl,q _ _ _ (ss.trans (bg hf')) (ss.free hf') a_ (sv _)⟩
end
end L2
namespace L3
open PySem PySem.Spec PyProof.Rows L2
section
variable {X:Cx} {cl:Wv}
def QU(i:Nat)(f:FX):FZ:=fun δ S=>match gW δ i with
 | none=> .no
 | some k=>match c7 S k with
   | none=> .no
   | some _=>(f δ S).bind fun v S1=>match v with
     | .d d=>(match seqD? d with
       | some es=>(match c7 S1 k with
         | some ds=>R3.aS (decide (ds.length+es.length<=sizeLine)) (.ok (.nx δ) (S1.set k (.lst (ds++es))))
         | none=> .no)
       | none=> .no)
     | _=> .no
def uj(fo fi fe:FX):FZ:=fun δ S=>(fe δ S).bind fun v S1=>(fo δ S1).bind fun o S2=>(fi δ S2).bind fun j S3=>match v,o,j with
 | .d d, .loc k, .d n=>(match nG S3 k,vU n with | some aC,some key=>R3.aS (decide (aC.length < sizeLine)) (.ok (.nx δ) (S3.set k (.dct (pS aC key d)))) | _,_=> .no)
 | _,_,_=> .no
theorem vK{pos pos':Pos}(hu:X.A.units+1 < cLine)(hv:PX X cl value fe)(ho:PX X cl o fo)(hi:PX X cl i fi)(hs:swapsWith value (some (.Subscript o i pos')) pos.line X.env=pure false:=by rfl):PZ X cl (.Assign [.Subscript o i pos'] value pos) (uj fo fi fe):=
 ⟨(E4 hu ho.1 hi.1 hv.1 hs).imp fun D σ H ⟨ρ,S,δ,ou,S',E,hf,q⟩=>by
   obtain⟨v,S1,h1,h2⟩:=R3.aj hf;obtain⟨o,S2,h3,h4⟩:=R3.aj h2;obtain⟨j,S3,h5,h6⟩:=R3.aj h4;refine⟨ρ,S,δ,v,S1,E,h1,fun u1 cb H1 p1 w1 r1=>⟨cb,S1,δ,o,S2,E.to p1 w1,h3,fun u2 wm H2 p2 w2 r2=>⟨wm,S2,δ,j,S3,(E.to p1 w1).to p2 w2,h5,fun u3 FH H3 p3 w3 r3=>?_⟩⟩⟩
   split at h6
   .rename_i d k n;split at h6
    .rename_i aC key hd hn;obtain⟨hl,h7⟩:=R3.aX h6;cases h7;have r2':=r2.pre p3;obtain⟨a,a1,rfl⟩:=r2';have:=m_ hn r3;subst this;obtain⟨ys,y1,y2,y3⟩:=w3.ob k a _ a1 (pV hd);have Ah:=(r1.pre p2).pre p3;obtain⟨e1,uw⟩:=Ke Ah y2 y3;have hll:ys.length=aC.length:=by have:=congrArg List.length y2;simpa using this
     refine⟨a,_,rfl,zD.k y1 (by rw[hll];exact of_decide_eq_true hl),?_⟩
     obtain⟨w4,p4⟩:=w3.put (o:= .dct (pS aC key d)) a1 (w3.fz k a a1 (by rw[pV hd];intro h;cases h)) ⟨_,rfl,e1,uw⟩
     exact q σ FH _ (p1.trans (p2.trans (p3.trans p4))) (E.to (p1.trans (p2.trans (p3.trans p4))) w4)
    .cases h6
   .cases h6⟩
theorem xU{fo fi fe:FX}{δ:DE}{S:aZ}{QO:Ou->aZ->Prop}(h:W3 (fe δ S) fun v S1=>W3 (fo δ S1) fun o S2=>W3 (fi δ S2) fun j S3=>∃d k n key aC,v= .d d/\o= .loc k/\j= .d n/\vU n=some key/\S3[k]? =some (.dct aC)/\aC.length < sizeLine/\QO (.nx δ) (S3.set k (.dct (pS aC key d)))):W3 (uj fo fi fe δ S) QO:=
 W3.bind (h.mono fun _ _ h=>W3.bind (h.mono fun _ _ h=>W3.bind (h.mono fun _ S3 ⟨d,k,n,key,aC,e1,e2,e3,e6,e4,hl,q⟩=>by
  subst e1 e2 e3;have e5:nG S3 k=some aC:=by unfold nG;simp only[e4]
  simp only[e5,e6];exact W3.wh (decide_eq_true hl) (W3.ok q))))
end
end L3
end
section
namespace PySem.W
open PySem PySem.Calls PyProof.Rows
def Gq{α:Type}(n:Nat)(lt:Nat->Nat->Bool):KasT α->Option α
 | .ret a=>some a
 | .ask i j k=>if i < n/\j < n then Gq n lt (k (lt i j)) else none
section
variable {prog:Program} {w:World} {A:Around} {E:Wq} {s:Shared} {a:Addr} {vs:List Value} {κ:SortKind}
abbrev Ts(h:Heap)(a:Addr)(vs:List Value):Heap:=((h.update a (Obj.mapSeq fun _=>(#[]:Array Value))).push (seqObj "tuple" vs.toArray 0)).push (seqObj "list" #[] 0)
end
end PySem.W
namespace L2
open PySem PySem.Spec PyProof.Rows
def Sj:D->Option (Int × List Int)
 | .tup [.int a, .tup zs]=>(ints? zs).map fun ns=>(a,ns)
 | _=>none
def K6:List D->Option (List (Int × List Int))
 | []=>some []
 | d ::ds=>(Sj d).bind fun p=>(K6 ds).map (p ::·)
def Uh(x y:Int × List Int):Bool:=if x.1=y.1 then(if x.2=y.2 then false else HT.lexLt x.2 y.2) else decide (x.1 < y.1)
def NJ(ps:List (Int × List Int)):Option (Array Nat):=PySem.W.Gq ps.length (fun i j=>Uh (ps.getD i (0,[])) (ps.getD j (0,[]))) (PySem.W.kas_sort ps.length)
def MW:List D->R D
 | [.lst ds]=>(match K6 ds with
   | some ps=>R.aS (decide (2<=ps.length/\ps.length < 64)) (match NJ ps with | some p=>R.aS (p.toList.all (fun i=>decide (i < ps.length)) && decide (p.toList.length < 64)) (.ok (.lst (p.toList.map fun i=>ds.getD i .cI))) | none=> .no)
   | none=> .no)
 | _=> .no
def R8(h:Heap)(v:Value)(p:Int × List Int):Prop:=
 ∃(x b:Addr) (t:Tok) (n:Nat) (o:Obj) (its:Array Value),v= .ref x/\h.get? x=some o/\o.cls= .type "tuple"/\o.data= .seq #[.int p.1 t, .ref b] n/\IsTup h b its/\IntsAre its.toList p.2
section
variable {X:Cx}
end
end L2
end
section
namespace L2
open PySem PySem.Spec PyProof.Rows
def JQ(d a:D):Bool:=PyData.eqv (toPy d) (toPy a)
def Mv(d:D):Bool:=dU d && (toPy d).canLay0 && decide ((toPy d).depth<=8)
def QH(a b:D):R Bool:=match seqD? b with
 | some ds=>R.aS (Mv a && ds.all Mv) (.ok (ds.any fun d=>JQ d a))
 | none=> .no
def Sk(a b:D):R D:=(QH a b).bind fun x=> .ok (.bl x)
def Uk(a b:D):R D:=(QH a b).bind fun x=> .ok (.bl (!x))
section
variable {X:Cx}
open Classical in
def Qc(h:Heap)(a:D)(y:Value):Bool:=decide (∃d as,Reads h y (toPy d) as/\(toPy d).canLay0=true/\JQ d a=true)
open Classical in
theorem MR{a d:D}{y:Value}{as:List Addr}(r:Reads h y (toPy d) as)(hl:(toPy d).canLay0=true):Qc h a y=JQ d a:=by
 unfold Qc;cases q:JQ d a with
 | true=>exact decide_eq_true ⟨d,as,r,hl,q⟩
 | false=>
   refine decide_eq_false fun⟨d',UH,r',hl',q'⟩=>?_
   have:=SeqAt.Reads.unique _ _ y as UH hl r r';unfold JQ at q q';rw[<-this,q] at q';cases q'
end
end L2
end
section
set_option maxHeartbeats 1000000
namespace L3
open PySem PySem.Spec PyProof.Rows L2
section
variable {X:Cx} {cl:Wv}
def Q9(i:Nat)(F:FZ):FZ:=fun δ S=>match gW δ i with
 | some k=>(match S[k]? with | some (.dct aC)=>F (δ.set i (some (.d (.dct (aC.map (·.1)) (aC.map (·.2)))))) (S.set k .jn) | _=> .no)
 | none=> .no
end
end L3
end
section
set_option maxHeartbeats 3200000
namespace PySem.W
open PySem PySem.Calls PyProof.Rows
namespace F2
end F2
section
variable {prog:Program} {w:World} {A:Around} {E:Wq} {s:Shared}
end
section
variable {prog:Program} {w:World} {K:Type} [DecidableEq K] {knd:KeyKind prog w K} {A:Around} {s:Shared}
def MY(knd:KeyKind prog w K)(h:Heap)(v:Value)(q:K × Value):Prop:=
 ∃(x:Addr) (n:Nat) (o:Obj) (kv:Value),v= .ref x/\h.get? x=some o/\o.cls= .type "tuple"/\o.data= .seq #[kv,q.2] n/\knd.is q.1 kv=true
def fills(qs:List (K × Value))(aC:List (K × Value)):List (K × Value):=qs.foldl (fun acc q=>stored acc q.1 q.2) aC
end
end PySem.W
namespace L2
open PySem PySem.Spec PyProof.Rows
def Tz:D->Option (Key × D)
 | .tup [a,b]=>(vU a).map fun k=>(k,b)
 | _=>none
def LB:List D->Option (List (Key × D))
 | []=>some []
 | d ::ds=>(Tz d).bind fun p=>(LB ds).map (p ::·)
def Gm(qs:List (Key × D))(aC:List (Key × D)):List (Key × D):=qs.foldl (fun acc q=>L3.pS acc q.1 q.2) aC
def NC:List D->R D
 | [.lst ds]=>(match LB ds with
   | some qs=>R.aS (decide (ds.length<=1000000)) (.ok (.dct ((Gm qs []).map (·.1)) ((Gm qs []).map (·.2))))
   | none=> .no)
 | _=> .no
section
variable {X:Cx}
end
end L2
end
section
set_option maxHeartbeats 1000000
namespace L3
open PySem PySem.Spec PyProof.Rows L2
def sr(g:List V3->aZ->R3 V3):List V3->aZ->R3 V3:=fun vs S=>match g vs S with
 | .ok v S'=>(match res S' v with
   | some d=>R3.aS ((S'.take S.length).all (vJ S.length) && i5 S.length v) (.ok (.d d) (S'.take S.length))
   | none=> .no)
 | .ex c S'=>R3.aS ((S'.take S.length).all (vJ S.length)) (.ex c (S'.take S.length))
 | .no=> .no
theorem GV{K:W.Frag}{cl:Wv}{g:List V3->aZ->R3 V3}{n:Nat}{vs:List V}{Q:VK}{E:XK}(h:xj K cl n (sr g) vs H Q E):xj K cl n g vs H Q E:=by
 obtain⟨hl,ρ,S,xs,w,r,z⟩:=h;refine⟨hl,ρ,S,xs,w,r,?_⟩;have pc:∀{cb H1},Pre ρ H cb H1->Pre ρ H (cb.cut S.length) H1:=fun p1=>SW.A4 (K:=K) (cl:=cl) (by rw[w.len];exact Nat.le_refl _) p1
 rcases z with⟨v,S',hg,q⟩ | ⟨c,S',hg,q⟩
 .unfold sr at hg;split at hg
  .rename_i v1 S1 h1;split at hg
   .rename_i d e;obtain⟨ok,h3⟩:=R3.aX hg;obtain⟨ok,hk⟩:=Bool.and_eq_true_iff.mp ok;cases h3;refine .inl ⟨v1,S1,h1,fun u cb H1 p1 w1 r1=>q u _ H1 (pc p1) (w1.cut ok) ?_⟩
    unfold bq;refine r1.resB w1 (fg _) (fun k a hk a1 ha=>?_) hk e
    rcases P3.c8.mp ha with⟨z,_⟩ | z
    .obtain⟨j,hj⟩:=List.getElem?_of_mem z;have hj:(cb.r.take S.length)[j]? =some a:=hj;rw[List.getElem?_take] at hj;split at hj
     .rename_i hjl;have:=w1.nd j k a hj a1;omega
     .cases hj
    .exact(w1.zb a z).2 (List.mem_of_getElem? a1)
   .cases hg
  .rename_i c1 S1 h1;unfold R3.aS at hg;split at hg <;> cases hg
  .cases hg
 .unfold sr at hg;split at hg
  .rename_i v1 S1 h1;split at hg
   .unfold R3.aS at hg;split at hg <;> cases hg
   .cases hg
  .rename_i c1 S1 h1;unfold R3.aS at hg;split at hg
   .rename_i ok;cases hg;exact .inr ⟨_,S1,h1,fun cb H1 p1 w1=>q _ H1 (pc p1) (w1.cut ok)⟩
   .cases hg
  .cases hg
theorem bO.q{K:W.Frag}{mg:Wu}{cl:Wv}{k:Nat}{n:Nat}{g:List V3->aZ->R3 V3}(C:bO P w K mg base cl k x n g):bO P w K mg base cl k x n (sr g):=
 let⟨f,fd,ps,F,h⟩:=C;⟨f,fd,ps,F.imp fun _ _ _ _ h=>GV h,h⟩
section
variable {X:Cx} {cl:Wv} {E:XK}
def GW(f:FX):FX:=fun δ S=>(f δ S).bind fun v S1=>match v with | .d (.bl b)=> .ok (.d (.bl (!b))) S1 | _=> .no
theorem Ib(ha:PX X cl a f):PX X cl (.UnaryOp .Not a pos) (GW f):=⟨(GP ha.1).imp fun σ H Q ⟨ρ,S,δ,v,S',En,hf,q⟩=>by
 obtain⟨v1,S1,h1,h2⟩:=R3.aj hf;split at h2
 .rename_i b;cases h2;refine⟨ρ,S,δ,_,_,En,h1,fun u cb H1 p1 w1 r1=>⟨b,?_,q _ cb H1 p1 w1 (by unfold bq;exact Rep.bl.mpr rfl)⟩⟩
  unfold bq at r1;exact Rep.bl.mp r1
 .cases h2⟩
theorem xr{f:FX}{δ:DE}{S:aZ}{Q:V3->aZ->Prop}(h:W3 (f δ S) fun v S1=>∃b,v= .d (.bl b)/\Q (.d (.bl (!b))) S1):W3 (GW f δ S) Q:=W3.bind (h.mono fun v S1 ⟨b,e,q⟩=>by subst e;exact W3.ok q)
def M7(K:W.Frag)(cl:Wv)(E:XK)(ρ:P3)(H:Hp)(D:Ends)(r:R3 Ou):Prop:=match r with
 | .ok o S'=>uM K cl ρ H D S' o
 | .ex c S'=>Am K cl E ρ H S' c
 | .no=>False
def KC(f:FA):FA:=fun δ S=>DT (f δ S)
theorem tH{tg iter:Expr}{body:List Stmt}{it:FA}{t:FG}{F:FZ}{pos:Pos}(hp:PassesOwn (model X.prog X.w) X.A X.env X.xe)(hc:X.calm=true)(hi:MA X cl tg iter it)(hg:GU X cl tg t)(hb:rX X cl E body F)
 (hs:∀x,foldedSetIterable iter X.env x=pure x:=by intro _;rfl):FQ X cl E (.For tg iter body [] pos) (qD (KC it) t F):=⟨(wW hp hc hi.1 hg.1 hb.1 hs).imp fun D σ H ⟨ρ,S,δ,En,z⟩=>by
 have key:∃ds S0,it δ S= .ok ds S0/\M7 X.K cl E ρ H D (gh t F ds δ S0):=by
  rcases z with⟨o,S',hf,q⟩ | ⟨c,S',hf,q⟩
  .obtain⟨ds,S0,h1,h2⟩:=R3.aj hf;exact⟨ds,S0,jQ h1,by rw[h2];exact q⟩
  .rcases R3.iK hf with h1 | ⟨ds,S0,h1,h2⟩
   .exact(qZ h1).elim
   .exact⟨ds,S0,jQ h1,by rw[h2];exact q⟩
 obtain⟨ds,S0,h1,wi⟩:=key;obtain⟨r,hr⟩:∃r,gh t F ds δ S0=r:=⟨_,rfl⟩;rw[hr] at wi;refine⟨ρ,S,δ,ds,S0,En,h1,fun J cb H1 p1 w1 ir=>?_⟩
 refine⟨fun i m b8 H'=>m=ds.length - i/\i<=ds.length/\∃bF S1 cT,Pre cb H1 bF H'/\dt X.K cl bF H' S1 b8 cT/\gh t F (ds.drop i) cT S1=r,⟨ds.length,rfl,Nat.zero_le _,cb,S0,δ,Pre.refl cb H1,En.to p1 w1,by simpa using hr⟩,?_⟩
 rintro i m b8 H' ⟨rfl,hi,bF,S1,cT,pv,E',hl⟩;obtain⟨go,stop⟩:=ir bF H' pv.pw E'.sw.bs;by_cases hlt:i < ds.length
 .have hd:ds[i]? =some ds[i]:=List.getElem?_eq_getElem hlt;have hdrop:ds.drop i=ds[i] ::ds.drop (i+1):=List.drop_eq_getElem_cons hlt;rw[hdrop] at hl;unfold gh at hl;split at hl
  .rw [<-hl] at wi;exact wi.elim
  .rename_i δ1 h3;obtain⟨g1,g2⟩:=go i _ hd;refine .inr ⟨g1,fun rq H2=>∃wm S2 dX,Pre cb H1 wm H2/\dt X.K cl wm H2 S2 rq dX/\gh t F (ds.drop (i+1)) dX S2=r,fun rq H2 n=>⟨ds.length - (i+1),by omega,rfl,hlt,n⟩,fun x mW y=>?_⟩
   obtain⟨ss,rr⟩:=g2 x mW y;refine⟨bF,S1,cT,ds[i],δ1,E'.same ss,rr,h3,fun rq H2 s2 E2=>⟨bF,S1,δ1,E2,?_⟩⟩
   have pv2:Pre cb H1 bF H2:=pv.trans (Pre.same (ss.trans s2));cases hF:F δ1 S1 with
   | no=>rw [hF] at hl;rw [<-hl] at wi;exact wi.elim
   | ex c S2=>
     rw[hF] at hl;have hl:R3.ex c S2=r:=hl;rw[<-hl] at wi;exact .inr ⟨c,S2,rfl,Am.pre wi (p1.trans pv2)⟩
   | ok o1 S2=>
     rw[hF] at hl;refine .inl ⟨o1,S2,rfl,?_⟩;cases o1 with
     | nx dX=>exact fun Dq FH H3 p3 E3=>⟨FH,S2,dX,pv2.trans p3,E3,hl⟩
     | rt d=>
       have hl:R3.ok (Ou.rt d) S2=r:=hl;rw[<-hl] at wi;exact fun v FH H3 p3 w r=>wi v FH H3 (p1.trans (pv2.trans p3)) w r
 .have e:i=ds.length:=by omega
  subst e;rw[List.drop_length] at hl;have hl:R3.ok (Ou.nx cT) S1=r:=hl;rw[<-hl] at wi;exact .inl ⟨stop,wi b8 bF H' (p1.trans pv) E'⟩⟩
theorem wV{P:Program}{w:World}{K:W.Frag}{mg:Wu}{base:Heap}{N:List Str}{qual:Str}{scope:Scope}{f:Addr}{cd:Value}{A:Around}{outer:List Env}{s:Shared}{H:Hp}{E:XK} :
 PassesOwn (model P w) (iG (uO P w) P w K mg base N qual scope f cd A outer s H E).A (iG (uO P w) P w K mg base N qual scope f cd A outer s H E).env (iG (uO P w) P w K mg base N qual scope f cd A outer s H E).xe:=PassesOwn.leaving
def Qz(P:Program)(w:World)(K:W.Frag)(mg:Wu)(base:Heap)(cl:Wv)(k c:Nat)(m:Str)(n:Nat)(g:List V3->aZ->R3 V3):Prop:=
 ∃(f:Addr) (fd:FuncData) (ps:List Str),IB K (cl c)/\Meth K (cl c) m f/\hJ P w K mg base (uO P w) k f fd ps (xj K cl (n+1) g)/\Binds K fd ps []
theorem TL{g:List V3->aZ->R3 V3}{vs:List V3}{S:aZ}{QV:V3->aZ->Prop}(hS:Ai S)(h:W3 (g vs S) fun v S1=>i5 S.length v=true/\(∃T,S1=S++T)/\∃d,res S1 v=some d/\QV (.d d) S):W3 (sr g vs S) QV:=by
 obtain⟨v,S1,e,hg,⟨T,rfl⟩,d,hd,q⟩:=h;unfold sr;rw[e];simp only[hd];rw[List.take_append_of_le_length (Nat.le_refl _),List.take_length];exact W3.wh (by rw[List.all_eq_true.mpr hS,hg];rfl) (W3.ok q)
theorem RV{g:List V3->aZ->R3 V3}{vs:List V3}{S T:aZ}{c:Nat}(hS:Ai S)(h:g vs S= .ex c (S++T)):sr g vs S= .ex c S:=by
 unfold sr;rw[h];simp only;rw[List.take_append_of_le_length (Nat.le_refl _),List.take_length];unfold R3.aS;rw[List.all_eq_true.mpr hS];rfl
def WE{α:Type}(r:R3 α)(Q:α->aZ->Prop)(Y:Nat->aZ->Prop):Prop:=(∃a S,r= .ok a S/\Q a S)\/∃c S,r= .ex c S/\Y c S
section
variable {α β:Type} {S:aZ} {δ:DE} {Y:Nat->aZ->Prop}
theorem WE.bind{r:R3 α}{f:α->aZ->R3 β}{Q:β->aZ->Prop}(h:WE r (fun a S1=>WE (f a S1) Q Y) Y):WE (r.bind f) Q Y:=by
 rcases h with⟨a,S1,rfl,q⟩ | ⟨c,S1,rfl,q⟩
 .exact q
 .exact .inr ⟨c,S1,rfl,q⟩
theorem WE.mono{r:R3 α}{Q Q':α->aZ->Prop}{Y':Nat->aZ->Prop}(h:WE r Q Y)(m:∀a S,Q a S->Q' a S)(n:∀c S,Y c S->Y' c S):WE r Q' Y':=by
 rcases h with⟨a,S1,e,q⟩ | ⟨c,S1,e,q⟩
 .exact .inl ⟨a,S1,e,m _ _ q⟩
 .exact .inr ⟨c,S1,e,n _ _ q⟩
theorem WE.ok{a:α}{Q:α->aZ->Prop}(h:Q a S):WE (.ok a S) Q Y:= .inl ⟨a,S,rfl,h⟩
theorem fI{F G:FZ}{Q:Ou->aZ->Prop}(h:WE (F δ S) (fun o S1=>∃δ1,o= .nx δ1/\WE (G δ1 S1) Q Y) Y):WE (bK F G δ S) Q Y:=WE.bind (h.mono (fun o S1 ⟨δ1,e,q⟩=>by subst e;exact q) fun _ _ q=>q)
theorem nE{F:FZ}{Q:Ou->aZ->Prop}(h:W3 (F δ S) Q):WE (uz F δ S) Q Y:= .inl (La h)
theorem D8{fc:FB}{F G:FZ}{Q:Ou->aZ->Prop}(h:W3 (fc δ S) fun b S1=>if b then WE (F δ S1) Q Y else WE (G δ S1) Q Y):WE (uB (ID fc) F G δ S) Q Y:=WE.bind (.inl (LD (h.mono fun b S1 q=>by
 show WE (if b=true then F δ S1 else G δ S1) Q Y
 cases b with
 | true=>rw [if_pos rfl] at q ⊢;exact q
 | false=>rw [if_neg (by decide)] at q ⊢;exact q)))
theorem K7{i:Nat}{f:FX}{Q:Ou->aZ->Prop}(hi:i < δ.length)(h:WE (f δ S) (fun v S1=>Q (.nx (δ.set i (some v))) S1) Y):WE (cf i f δ S) Q Y:=WE.bind (h.mono (fun v S1 q=>by
 unfold R3.aS;rw[decide_eq_true hi];exact WE.ok q) fun _ _ q=>q)
theorem ri{f:FX}{Q:Ou->aZ->Prop}(h:WE (f δ S) (fun v S1=>Q (.nx δ) S1) Y):WE (ql f δ S) Q Y:=WE.bind (h.mono (fun v S1 q=>WE.ok q) fun _ _ q=>q)
theorem og{g:List V3->aZ->R3 V3}{fs:FA}{Q:V3->aZ->Prop}(h:W3 (fs δ S) fun vs S1=>WE (g vs S1) Q Y):WE (h_ g (kI fs) δ S) Q Y:=WE.bind (.inl (Cb h))
theorem pC{c:Nat}{fs:FA}{Q:Ou->aZ->Prop}(h:W3 (fs δ S) fun vs S1=>vs.length<=sizeLine/\Y c S1):WE (jX c (kI fs) δ S) Q Y:=WE.bind (.inl (Cb (h.mono fun vs S1 ⟨h1,h2⟩=>by
 unfold R3.aS;rw[decide_eq_true h1];exact .inr ⟨c,S1,rfl,h2⟩)))
theorem yk{Q:Ou->aZ->Prop}(h:Q (.nx δ) S):WE (lB δ S) Q Y:=WE.ok h
theorem KU{N:List Str}{F:FZ}{vs:List V3}{Q:V3->aZ->Prop}(e:dC N vs=δ)(h:WE (F δ S) (fun o S1=>match o with | .rt v=>Q v S1 | .nx _=>Q (.d .cI) S1) Y):WE (rC N F vs S) Q Y:=by
 unfold rC;rw[e];refine WE.bind (h.mono (fun o S1 q=>?_) fun _ _ q=>q)
 cases o with
 | nx δ1=>exact WE.ok q
 | rt v=>exact WE.ok q
theorem J3{g:List V3->aZ->R3 V3}{vs:List V3}{QV:V3->aZ->Prop}(hS:Ai S)(h:WE (g vs S) (fun v S1=>i5 S.length v=true/\(∃T,S1=S++T)/\∃d,res S1 v=some d/\QV (.d d) S) (fun c S1=>(∃T,S1=S++T)/\Y c S)):WE (sr g vs S) QV Y:=by
 rcases h with h | ⟨c,S1,e,⟨T,rfl⟩,q⟩
 .exact .inl (TL hS h)
 .exact .inr ⟨c,S,RV hS e,q⟩
theorem xp{t:FG}{F:FZ}(I:Nat->DE->aZ->Prop){vs:List V3}(h0:I 0 δ S)(step:∀i v δ1 S1,vs[i]? =some v->I i δ1 S1->∃dX,t v δ1=some dX/\WE (F dX S1) (fun o S2=>∃OC,o= .nx OC/\I (i+1) OC S2) Y) :
 WE (gh t F vs δ S) (fun o S1=>∃δ1,o= .nx δ1/\I vs.length δ1 S1) Y:=by
 induction vs generalizing I δ S with
 | nil=>exact .inl ⟨_,_,rfl,δ,rfl,h0⟩
 | cons v vs ih=>
   obtain⟨dX,e,h⟩:=step 0 v δ S rfl h0;unfold gh;rw[e];refine WE.bind (h.mono (fun o S2 ⟨OC,e3,q⟩=>?_) fun _ _ q=>q)
   subst e3;exact ih (fun i=>I (i+1)) q fun i w δ1 S1 hw hi=>step (i+1) w δ1 S1 hw hi
theorem Bh{it:FA}{Q:Ou->aZ->Prop}(h:W3 (it δ S) fun vs S1=>WE (gh t F vs δ S1) Q Y):WE (qD (KC it) t F δ S) Q Y:=WE.bind (.inl (Ba h))
theorem Ll{F G:FZ}{ok:Nat->Bool}{i:Nat}{Q:Ou->aZ->Prop}(h:WE (F δ S) Q fun c S1=>ok c=true/\W3 (G ((List.replicate δ.length none).set i (some (.loc S1.length))) (S1++[.exc c])) fun o S2=>∃δ1,o= .nx δ1/\Q (.nx (δ1.set i none)) S2):W3 (rO F ok i G δ S) Q:=by
 rcases h with h | ⟨c,S1,e,h1,h2⟩
 .exact GR h
 .exact IY e h1 h2
end
end
end L3
end
section
namespace L2
open PySem PySem.Spec PyProof.Rows
def gK(ks:List (Str × Int)):List (Key × V):=ks.map fun p=>(Sum.inr p.1,V.int p.2)
def P_(P:Program)(w:World)(K:W.Frag)(mg:Wu)(x:Str)(ks:List (Str × Int)):Prop:=∃a,mg x=some (.ref a)/\∀(H:Hp) (h:Heap),K.In h->de P w H h a (.dK (gK ks))
def S6(w:World)(es:List (Str × Tok × Int × Tok)):List DictEntry:=es.map fun e=>⟨hashStr w e.1, .str e.1 e.2.1, .int e.2.2.1 e.2.2.2⟩
section
variable {X:Cx}
def Mm(ks:List (Str × Int))(d:D):R Bool:=match d with | .str x=> .ok (ks.lookup x).isSome | _=> .no
def TV(ks:List (Str × Int))(f:FD):FD:=fun δ=>(f δ).bind fun d=>(Mm ks d).bind fun b=> .ok (.bl b)
def Ud(ks:List (Str × Int))(f:FD):FD:=fun δ=>(f δ).bind fun d=>(Mm ks d).bind fun b=> .ok (.bl (!b))
def Tg(ks:List (Str × Int))(f:FD):au->R Bool:=fun δ=>(f δ).bind fun d=>Mm ks d
def Te(ks:List (Str × Int))(f:FD):au->R Bool:=fun δ=>(f δ).bind fun d=>(Mm ks d).bind fun b=> .ok (!b)
def Qt(ks:List (Str × Int))(f:FD):FD:=fun δ=>(f δ).bind fun d=>match d with | .str x=>(match ks.lookup x with | some i=> .ok (.int i) | none=> .no) | _=> .no
def T_(ks:List (Str × Int))(neg:Bool)(t:TE):TE:=fun σ H Q=>t σ H fun y H1=>∃x,y= .str x/\Q (.bl (neg !=(ks.lookup x).isSome)) H1
end
end L2
namespace L3
open PySem PySem.Spec PyProof.Rows L2
section
variable {X:Cx} {cl:Wv} {E:XK}
def Gb(S:aZ)(k:Nat):Option Nat:=match S[k]? with | some (.lst ds)=>some ds.length | some (.dct aC)=>some aC.length | _=>none
def SK(f:FX):FX:=fun δ S=>(f δ S).bind fun v S1=>match v with | .loc k=>(match Gb S1 k with | some n=> .ok (.d (.int n)) S1 | none=> .no) | _=> .no
def Qk(f:FX):FB:=fun δ S=>(f δ S).bind fun v S1=>match v with | .loc k=>(match Gb S1 k with | some n=> .ok (decide (n≠0)) S1 | none=> .no) | _=> .no
def HS(v o:V3)(S:aZ):Option (Option D):=match v,o with
 | .d x, .loc k=>(match vU x,S[k]? with | some key,some (.dct aC)=>some ((aC.find? fun kv=>decide (kv.1=key)).map (·.2)) | _,_=>none)
 | _,_=>none
def Ue(neg:Bool)(fa fb:FX):FX:=fun δ S=>(fa δ S).bind fun v S1=>(fb δ S1).bind fun o S2=>match HS v o S2 with | some r=> .ok (.d (.bl (neg !=r.isSome))) S2 | none=> .no
def Tc(neg:Bool)(fa fb:FX):FB:=fun δ S=>(fa δ S).bind fun v S1=>(fb δ S1).bind fun o S2=>match HS v o S2 with | some r=> .ok (neg !=r.isSome) S2 | none=> .no
def Rg(fo fi:FX):FX:=fun δ S=>(fo δ S).bind fun o S1=>(fi δ S1).bind fun v S2=>match HS v o S2 with | some (some d)=> .ok (.d d) S2 | _=> .no
end
end L3
end
section
namespace L2
open PySem PySem.Spec PyProof.Rows
section
variable {X:Cx}
def Ql(f:FD):FD:=fun δ=>(f δ).bind fun d=>match d with | .str x=>R.aS (decide ((reprText x).length<=sizeLine)) (.ok (.str (reprText x))) | _=> .no
end
end L2
end
section
namespace L3
open PySem PySem.Spec PyProof.Rows L2
section
variable {X:Cx} {cl:Wv} {E:XK}
section
variable {S:aZ} {δ:DE} {Y:Nat->aZ->Prop}
end
end
end L3
end
section
namespace L3
open PySem PySem.Spec PyProof.Rows L2
section
variable {X:Cx} {cl:Wv} {E:XK}
def Uc(g:D->List D->R D)(fo:FX)(fs:FA):FX:=fun δ S=>(fo δ S).bind fun o S1=>match o with
 | .d (.str z)=>(fs δ S1).bind fun vs S2=>(match m6 vs with | some ds=>(R3.of (g (.str z) ds) S2).bind fun d S=> .ok (.d d) S | none=> .no)
 | _=> .no
end
end L3
end
section
namespace L2
open PySem PySem.Spec PyProof.Rows Builtin Builtin.Str
section
variable {prog:Program} {w:World} {A:Around} {E:Wq} {s:Shared} {x:Str} {t:Tok} {Q:Wq}
def Lo(x y:Str):List Str:=match occurrences x y 0 x.length 1 with
 | i ::_=>[strSub x 0 i,y,strSub x (i+y.length) x.length]
 | []=>[x,Str.empty,Str.empty]
end
section
variable {X:Cx}
def N9(d:D)(ds:List D):R D:=match d,ds with
 | .str x,[.str y]=>R.aS (decide ((y.length==0)=false/\x.length<=sizeLine/\(Txt.split x y).length<=sizeLine/\(partsBetween x (occurrences x y 0 x.length (x.length+1)) y.length).length<=sizeLine)) (.ok (.lst ((Txt.split x y).map .str)))
 | _,_=> .no
def QG(d:D)(ds:List D):R D:=match d,ds with
 | .str x,[.str y]=>R.aS (decide ((y.length==0)=false/\x.length<=sizeLine)) (.ok (.tup ((Lo x y).map .str)))
 | _,_=> .no
end
end L2
end
section
namespace L2
open PySem PySem.Spec PyProof.Rows
section
variable {X:Cx}
def Th(aC:List (Str × Int)):D:= .dct (aC.map fun p=>Sum.inr p.1) (aC.map fun p=> .int p.2)
def Vp(aC:List (Str × Int)):List (Key × V):=aC.map fun p=>((Sum.inr p.1:Key),V.int p.2)
end
end L2
namespace L3
open PySem PySem.Spec PyProof.Rows L2
def we(l:List (Nat × Bool))(c:Nat):Option Bool:=l.lookup c
def Ks(P:Nat->Bool->Prop):List (Nat × Bool)->Prop | []=>True | p ::l=>P p.1 p.2/\Ks P l
theorem eV{P:Nat->Bool->Prop}:Ks P []:=trivial
theorem aW{P:Nat->Bool->Prop}{c:Nat}{b:Bool}{l:List (Nat × Bool)}(h:P c b)(t:Ks P l):Ks P ((c,b) ::l):=⟨h,t⟩
theorem ig{P:Nat->Bool->Prop}:∀{l:List (Nat × Bool)},Ks P l->∀c b,we l c=some b->P c b
 | [],_,c,b,h=>by cases h
 | (c1,b1) ::l,t,c,b,h=>by
   unfold we at h;rw[List.lookup_cons] at h;cases e:c==c1 with
   | true=>rw [e] at h;cases h;rw [eq_of_beq e];exact t.1
   | false=>rw [e] at h;exact ig t.2 c b h
def JR(P:Nat->Prop):List Nat->Prop | []=>True | c ::l=>P c/\JR P l
theorem GJ{P:Nat->Prop}:JR P []:=trivial
theorem t7{P:Nat->Prop}{c:Nat}{l:List Nat}(h:P c)(t:JR P l):JR P (c ::l):=⟨h,t⟩
theorem Cu{P:Nat->Prop}:∀{l:List Nat},JR P l->∀c∈l,P c
 | [],_,c,h=>by cases h
 | d ::l,t,c,h=>by
   rcases List.mem_cons.mp h with rfl | z
   .exact t.1
   .exact Cu t.2 c z
theorem K3{P:Nat->Prop}{l:List Nat}(t:JR P l):∀c,l.contains c=true->P c:=fun c h=>Cu t c (List.contains_iff_mem.mp h)
end L3
namespace L2
open PySem PySem.Spec PyProof.Rows
section
variable {X:Cx}
def Mx(d:D)(ds:List D):R D:=match d,ds with
 | .lst es,[.str k]=>(match strs? es with | some ss=> .ok (.int (ss.count k:Nat)) | none=> .no)
 | _,_=> .no
end
section
variable {X:Cx}
def PF(n:Nat)(t:Ak):FT:=fun d δ=>match d with | .lst ds=>R.aS (decide (ds.length=n)) (t ds δ) | _=> .no
end
section
variable {X:Cx}
def QQ(d e:D):R D:=match d,e with
 | .lst ds, .int k=>R.aS (decide (0<=k/\k < 1000000/\ds.length*k.toNat<=sizeLine)) (.ok (.lst (List.replicate k.toNat ds).flatten))
 | _,_=> .no
end
end L2
end
section
namespace L2
open PySem PySem.Spec PyProof.Rows
section
variable {X:Cx}
def Ob(d:D)(ds:List D):R D:=match d,ds with
 | .lst es,[.str k]=>(match strs? es with | some ss=>(match ss.findIdx? (·==k) with | some j=>R.aS (decide (j < 1000000)) (.ok (.int (j:Nat))) | none=> .no) | none=> .no)
 | _,_=> .no
end
end L2
end
section
namespace HT
open PySem PySem.Spec PyProof.Rows
section
variable {prog:Program} {w:World} {A:Around} {E:Wq} {s:Shared}
end
end HT
namespace L2
open PySem PySem.Spec PyProof.Rows
section
variable {X:Cx}
def Sf(K:W.Frag):V->Option Int->Option Int->Hp->VK->Prop:=fun x lo hi H Q=>∃a xs,x= .ref a/\oy K H a xs/\HT.oM xs.length 0 lo=0/\HT.oM xs.length xs.length hi=xs.length/\Q (.ref a) H
def Ul(d:D)(lo hi:Option Int):R D:=match d with
 | .tup ds=> .ok (.tup (cutD ds lo hi))
 | _=> .no
def RN(f:FD)(fl fh:FO):FD:=fun δ=>(f δ).bind fun d=>(fl δ).bind fun lo=>(fh δ).bind fun hi=>Ul d lo hi
end
end L2
end
section
namespace L2
open PySem PySem.Spec PyProof.Rows Builtin Builtin.Str
section
variable {X:Cx}
def Gi(v c y z:Str):Bool:=decide (v.length<=1000000) && (decide (c.length<=10) && (decide (z.length<=14) && !(y==z)))
def RM(i:Nat)(c y z:Str):TA:=fun σ H Q=>∃v:Str,σ[i]? =some (some (.str v))/\Gi v c y z=true/\Q [.str (v++c), .str (Txt.replace v y z)] H
def Tt(i:Nat)(c y z:Str):au->R (List D):=fun δ=>match δ[i]? with | some (.val (.str v))=>R.aS (Gi v c y z) (.ok [.str (v++c), .str (Txt.replace v y z)]) | _=> .no
def MU(f:FD)(fs:au->R (List D)):au->R (List D):=fun δ=>(f δ).bind fun d=>(fs δ).bind fun ds=>match d,ds with
 | .str x,[.str y]=>R.aS (decide ((y.length==0)=false/\x.length<=sizeLine/\(Txt.split x y).length<=sizeLine/\(partsBetween x (occurrences x y 0 x.length (x.length+1)) y.length).length<=sizeLine)) (.ok ((Txt.split x y).map .str))
 | _,_=> .no
end
end L2
end
section
namespace L2
open PySem PySem.Spec PyProof.Rows
def qc(led:Bool)(p:List Nat):SetTable:={mask:=7,place:=p.toArray,dummies:=#[],finger:=0,led:=led,moves:=0,plain:=true}
def aV(m:Nat):List Nat:=(List.range 8).filter fun i=>m.testBit i
def pW(led:Bool)(p:List Nat)(h:Nat):Nat:=match (qc led p).freeSlot (h:Int) with
 | some (slot,false)=>slot
 | _=>99
def CU(k:Nat):List Nat:=(List.range 256).filter fun m=>decide ((aV m).length<=k)
theorem Nl:((CU 3).all fun m=>(List.range 32).all fun h=>decide (pW true (aV m) h < 8) && (!m.testBit (pW true (aV m) h) && decide (pW false (aV m) h=pW true (aV m) h)))=true:=by decide+kernel
theorem Od:((CU 3).all fun m=>(List.range 8).all fun s=>m.testBit s || (decide (m+2 ^ s < 256) && decide ((SetTable.insertAt (aV m).toArray (SetTable.below (aV m).toArray s) s).toList=aV (m+2 ^ s))))=true:=by decide+kernel
def zu(p:List Nat):Nat->Nat
 | 0=>0
 | j+1=>p.getD j 0+1
theorem M9:((CU 4).all fun m=>(List.range ((aV m).length+1)).all fun i=>SetTable.below (aV m).toArray (zu (aV m) i)==i)=true:=by decide+kernel
theorem Oi:((CU 3).all fun m=>(List.range 8).all fun s=>m.testBit s || decide ((aV (m+2 ^ s)).length=(aV m).length+1))=true:=by decide+kernel
theorem qE:∀m:Nat,m < 32->hashInt (m:Int)=(m:Int):=by decide+kernel
end L2
end
section
namespace L2
open PySem PySem.Spec PyProof.Rows
theorem pE{m k:Nat}(h:m < 256)(hl:(aV m).length<=k):m∈CU k:=List.mem_filter.mpr ⟨List.mem_range.mpr h,decide_eq_true hl⟩
theorem ED{led:Bool}{m h:Nat}(hm:m < 256)(hl:(aV m).length<=3)(hh:h < 32):∃s,s < 8/\m.testBit s=false/\(qc led (aV m)).freeSlot (h:Int)=some (s,false):=by
 have h1:=List.all_eq_true.mp (List.all_eq_true.mp Nl m (pE hm hl)) h (List.mem_range.mpr hh);simp only[Bool.and_eq_true,decide_eq_true_eq,Bool.not_eq_true'] at h1;obtain⟨h2,h3,h4⟩:=h1;have key:∀led,pW led (aV m) h < 8->(qc led (aV m)).freeSlot (h:Int)=some (pW led (aV m) h,false):=by
  intro led hlt;unfold pW at hlt ⊢;split at hlt
  .rename_i slot e;rw [e]
  .omega
 cases led with
 | true=>exact⟨_,h2,h3,key true h2⟩
 | false=>exact⟨_,h2,h3,by rw[<-h4];exact key false (by omega)⟩
theorem GZ{led:Bool}{m s:Nat}(hm:m < 256)(hl:(aV m).length<=3)(hs:s < 8)(hb:m.testBit s=false) :
 m+2 ^ s < 256/\(aV (m+2 ^ s)).length=(aV m).length+1/\(qc led (aV m)).put s=(qc led (aV (m+2 ^ s)),SetTable.below (aV m).toArray s):=by
 have h1:=List.all_eq_true.mp (List.all_eq_true.mp Od m (pE hm hl)) s (List.mem_range.mpr hs);have h2:=List.all_eq_true.mp (List.all_eq_true.mp Oi m (pE hm hl)) s (List.mem_range.mpr hs);rw[hb] at h1 h2;simp only[Bool.false_or,Bool.and_eq_true,decide_eq_true_eq] at h1 h2;refine⟨h1.1,h2,?_⟩;show(({qc led (aV m) with place:=SetTable.insertAt (aV m).toArray (SetTable.below (aV m).toArray s) s,dummies:=#[]}:SetTable),SetTable.below (aV m).toArray s)=_
 have e:SetTable.insertAt (aV m).toArray (SetTable.below (aV m).toArray s) s=(aV (m+2 ^ s)).toArray:=by rw[<-h1.2]
 rw[e];rfl
structure SI (h:Heap) (a:Addr) (led:Bool) (σ:List Nat) (es:Array (Int × Value)) (ep m:Nat):Prop where
 get:h.get? a=some {cls:= .type "set",dict:=none,data:= .set es ep (qc led (aV m)),slots:=#[]}
 m256:m < 256
 len:(aV m).length=es.size
 prm:(es.toList.map (·.1)).Perm (σ.map fun n:Nat=>(n:Int))
 el:∀e∈es.toList,∃(n:Nat) (t:Tok),n < 32/\e=((n:Int),Value.int n t)
section
variable {prog:Program} {w:World} {A:Around} {E:Wq} {s:Shared} {a:Addr} {led:Bool} {σ:List Nat} {es:Array (Int × Value)} {ep m:Nat}
theorem SI.size(S:SI h a led σ es ep m):es.size=σ.length:=by
 have:=S.prm.length_eq;rw[List.length_map,List.length_map,Array.length_toList] at this;exact this
theorem SI.fits(S:SI h a led σ es ep m)(hl:σ.length<=4):(qc led (aV m)).fits es.size=true:=by
 have h1:=S.len;have h2:=S.size;unfold SetTable.fits;rw[Bool.and_eq_true];refine⟨?_,?_⟩
 .show((aV m).toArray.size==es.size)=true;rw[List.size_toArray,h1];simp
 .show decide ((aV m).toArray.size+0<=7)=true;rw[List.size_toArray];exact decide_eq_true (by omega)
theorem SI.elems(S:SI h a led σ es ep m):ElemsOf (intKind prog w) es.toList:=fun e he=>by
 obtain⟨n,t,hn,rfl⟩:=S.el e he;exact⟨⟨(n:Int),intKind_is _ _ _ _,(qE n hn).symm⟩,rfl⟩
theorem zM{n:Nat}{t:Tok}{Q:Bool->Shared->Prop}(S:SI s.heap a led σ es ep m)(hn:n < 32)(JX:n ∉ σ)(hl:σ.length<=3)
 (hq:∀h' xK m',Heap.SameBut a s.heap h'->SI h' a led (σ++[n]) xK (ep+1) m'->Q true {s with heap:=h',toks:=s.toks+1}) :
 wpAny (model prog w) A (setAdd a (.int n t)) Q E s:=by
 have hsz:=S.size;have hf:=S.fits (by omega)
 have hel:ElemsOf (intKind prog w) es.toList:=S.elems;have hb:es.size < scanBound:=by unfold scanBound;omega
 have hkey:(intKind prog w).is (n:Int) (.int n t)=true:=intKind_is _ _ _ _;have hno:List.findIdx? (fun e:Int × Value=>(intKind prog w).is (n:Int) e.2) es.toList=none:=by
  rw[List.findIdx?_eq_none_iff];intro e he;obtain⟨k,u,hk,rfl⟩:=S.el e he;have Jd:(k:Int)∈σ.map fun n:Nat=>(n:Int):=S.prm.mem_iff.mp (List.mem_map_of_mem (f:=fun x:Int × Value=>x.1) he)
  obtain⟨j,hj,ej⟩:=List.mem_map.mp Jd;have hjk:j=k:=by omega
  have y0:(n:Int)≠(k:Int):=fun q=>JX (by rw[show n=k by omega,<-hjk];exact hj)
  have hk2:(intKind prog w).is (k:Int) (.int k u)=true:=intKind_is _ _ _ _;cases q:(intKind prog w).is (n:Int) (Value.int k u) with
  | false=>rfl
  | true=>exact absurd ((intKind prog w).inj _ _ _ q hk2) y0
 obtain⟨sl,Vb,hbit,hfree⟩:=ED (led:=led) S.m256 (by rw[S.len];omega) hn
 obtain⟨Mf,CO,hput⟩:=GZ (led:=led) S.m256 (by rw[S.len];omega) Vb hbit
 have hlay:layNew (qc led (aV m)) es (n:Int) (.int n t)=(SetTable.insertAt es (SetTable.below (aV m).toArray sl) ((n:Int), .int n t),qc led (aV (m+2 ^ sl)),false,false):=by
  unfold layNew;rw[hfree];simp only[hput];have e1:(SetTable.insertAt es (SetTable.below (aV m).toArray sl) ((n:Int),Value.int n t)).size=es.size+1:=by
   have:=(SetTable.insertAt_perm es (SetTable.below (aV m).toArray sl) ((n:Int),Value.int n t)).length_eq;rw[Array.length_toList,Array.length_toList,Array.size_push] at this;exact this
  have e2:(qc led (aV (m+2 ^ sl))).fits (es.size+1)=true:=by
   unfold SetTable.fits;rw[Bool.and_eq_true];have:=S.len;refine⟨?_,?_⟩
   .show((aV (m+2 ^ sl)).toArray.size==es.size+1)=true;rw[List.size_toArray,CO,S.len];simp
   .show decide ((aV (m+2 ^ sl)).toArray.size+0<=7)=true;rw[List.size_toArray];exact decide_eq_true (by omega)
  rw[e1];unfold SetTable.orStandIn;rw[e2];rfl
 have hperm:=SetTable.insertAt_perm es (SetTable.below (aV m).toArray sl) ((n:Int),Value.int n t);rw[Array.toList_push] at hperm;generalize hes':SetTable.insertAt es (SetTable.below (aV m).toArray sl) ((n:Int),Value.int n t)=xK at hlay hperm;have hsz':xK.size=es.size+1:=by
  have:=hperm.length_eq;rw[Array.length_toList,List.length_append,Array.length_toList] at this;exact this
 unfold setAdd;refine wpAny_holding (wpAny_bind ((intKind prog w).pyHash (k:=(n:Int)) hkey ?_));unfold setAddHashed setAddHashedIn;refine wpAny_holding (wpAny_bind (wpAny_setState_of (s:={s with toks:=s.toks+1}) S.get rfl hf ?_))
 dsimp only;rw[byScan_of (knd:=intKind prog w) (x:= .int n t) rfl hb hel];simp only[↓reduceIte];unfold setAddByScan;refine wpAny_bind ?_;refine wpAny_bind (wpAny_rule ?_);refine wpAny_bind (wpAny_setScan_of (knd:=intKind prog w) (s:={s with toks:=s.toks+1}) hkey S.get rfl hf hel ?_)
 rw[hno];dsimp only;rw[show(intKind prog w).hash (n:Int)=(n:Int) from qE n hn,hlay]
 dsimp only;refine wpAny_bind (wpAny_pure ?_);rw[if_pos (show(qc led (aV (m+2 ^ sl))).plain=true from rfl),hashByValue_scannable 8 (x:= .int n t) rfl]
 refine wpAny_bind (wpAny_pure ?_);rw[if_pos (show plainKind (Value.int n t)=true from rfl)]
 refine wpAny_bind (wpAny_storeSet_of (s:={s with toks:=s.toks+1}) S.get rfl ?_ (fits_of_scanBound (by unfold scanBound;omega)))
 have hful:(qc led (aV (m+2 ^ sl))).tooFull=false:=by
  show decide (((aV (m+2 ^ sl)).toArray.size+0)*5>=7*3)=false;rw[List.size_toArray,CO];have:=S.len;exact decide_eq_false (by omega)
 rw[hful];simp only[Bool.not_false,Bool.true_and,Bool.false_eq_true,↓reduceIte];refine wpAny_pure ?_;dsimp only;refine wpAny_pure (hq _ xK (m+2 ^ sl) (Heap.SameBut.update s.heap a _) ⟨?_,Mf,by rw[CO,S.len,hsz'],?_,fun e he=>?_⟩)
 .have:=Heap.get?_update_self (Obj.putSet xK (qc led (aV (m+2 ^ sl)))) S.get rfl;exact this
 .rw [List.map_append];refine(hperm.map (·.1)).trans ?_
  rw[List.map_append];exact S.prm.append (List.Perm.refl _)
 .rcases List.mem_append.mp (hperm.mem_iff.mp he) with z | z
  .exact S.el e z
  .rw [List.mem_singleton.mp z];exact⟨n,t,hn,rfl⟩
end
end L2
end
section
set_option maxHeartbeats 3200000
namespace L2
open PySem PySem.Spec PyProof.Rows
abbrev me(w:World):Bool:=w.params.followText "set-order"
abbrev n5(led:Bool):Obj:={cls:= .type "set",dict:=none,data:= .set #[] 0 (.fresh 0 0 led)}
theorem RZ{h:Heap}{a:Addr}{led:Bool}(e:h.get? a=some (n5 led)):SI h a led [] #[] 0 0:=⟨e,by omega,rfl,List.Perm.refl _,fun x hx=>by cases hx⟩
theorem SI.at{h h':Heap}{a:Addr}{led:Bool}{σ:List Nat}{es:Array (Int × Value)}{ep m:Nat}(S:SI h a led σ es ep m)(k:∀o,h.get? a=some o->h'.get? a=some o):SI h' a led σ es ep m:=⟨k _ S.get,S.m256,S.len,S.prm,S.el⟩
section
variable {prog:Program} {w:World} {A:Around} {E:Wq} {s:Shared}
theorem FC(x:Value){Y:Wq}(h:Y (.ref s.heap.objs.size) {s with heap:=s.heap.push (n5 (!me w))}):codeAny (model prog w) A (.call (.builtin "set.__new__") ⟨[.type "set",x],[]⟩) (wants Y E) s:=by
 refine codeAny_of_tree ?_;show wpAny _ A.in1 (do checkBuiltinCall "set.__new__" ⟨[.type "set",x],[]⟩;again (.builtin "set.__new__" ⟨[.type "set",x],[]⟩)) _ _ s
 refine wpAny_bind (wpAny_of_eq (F.newCall_set_1 x) (wpAny_pure ⟨plainId_quiet F.plain_set_new _,codeAny_builtin F.entry_set_new ?_⟩));rw[Around.under_plainId F.plain_set_new _];unfold Builtin.«set.__new__» Builtin.Frozenset.newClass;have q1:=PySem.sub_set_self;obtain⟨z1,z2,z3,z4,z5⟩:=s;dsimp only
 wp_walk
 refine wpAny_askSetting (wpAny_pure ?_);dsimp only;simp only[newObj];refine wpAny_bind (wpAny_alloc (wpAny_pure ?_));exact wpAny_pure h
end
section
variable {prog:Program} {w:World} {A:Around} {R:Result->Shared->Prop} {I:Addr} {fp wr:List Addr} {G:Array GenState->Array GenState->Prop} {P:Nat->Value->Prop} {St:Nat->Shared->Prop}
end
end L2
end
section
namespace L2
open PySem PySem.Spec PyProof.Rows
section
variable {prog:Program} {w:World} {A:Around} {E:Wq} {s:Shared}
end
end L2
end
section
set_option maxHeartbeats 1000000
namespace L2
open PySem PySem.Spec PyProof.Rows
theorem xw{α:Type}{l:List α}{i:Nat}(h:i < l.length):List.Perm (l[i] ::l.eraseIdx i) l:=by
 have e:l=l.take i++l[i] ::l.drop (i+1):=by rw[List.getElem_cons_drop,List.take_append_drop]
 rw[List.eraseIdx_eq_take_drop_succ];refine List.perm_middle.symm.trans ?_;rw[<-e]
theorem sf{α:Type}(nx:Nat->Nat):∀(n k:Nat) (l:List α) (o:Array α),l.length=n->(pickOrder.go nx n k l o).toList.Perm (o.toList++l)
 | 0,k,l,o,h=>by
   rw[List.length_eq_zero_iff.mp h,List.append_nil];exact List.Perm.refl _
 | n+1,k,l,o,h=>by
   have hi:nx k % l.length < l.length:=Nat.mod_lt _ (by omega)
   unfold pickOrder.go;rw[List.getElem?_eq_getElem hi];refine(sf nx n (k+1) _ _ (by rw[List.length_eraseIdx_of_lt hi];omega)).trans ?_
   rw[Array.toList_push,List.append_assoc];exact List.Perm.append (List.Perm.refl _) (xw hi)
def ph(w:World)(a:Addr)(ep:Nat)(es:Array (Int × Value)):Array (Int × Value):=if me w then pickOrder (w.params.setOrder a ep) es else es
theorem n6(w:World)(a:Addr)(ep:Nat)(es:Array (Int × Value)):(ph w a ep es).toList.Perm es.toList:=by
 unfold ph;split
 .have:=sf (w.params.setOrder a ep) es.size 0 es.toList #[] (by rw[Array.length_toList])
  simpa [pickOrder] using this
 .exact List.Perm.refl _
theorem lW(w:World)(a:Addr)(ep:Nat)(es:Array (Int × Value)):(ph w a ep es).size=es.size:=by
 have:=(n6 w a ep es).length_eq
 rwa [Array.length_toList,Array.length_toList] at this
theorem Kq:entryFor table "set.__iter__"=some Builtin.«frozenset.__iter__»:=entryFor_alias (id':="frozenset.__iter__") (by kernel_rfl) rfl (by decide+kernel) (by kernel_rfl)
theorem gu:Slot "set_iterator" "__next__" "set_iterator.__next__":=
 .of (owner:="set_iterator") (n:="__next__") (by rw[typeLookup_type,builtinLookup_eq_fast];kernel_rfl) (by decide+kernel) (by decide+kernel) (by decide+kernel) (by first | exact .inl (by decide+kernel) | exact .inr (by decide+kernel)) (by rw[isSubtype_type];kernel_rfl)
theorem zc:entryFor table "set_iterator.__next__"=some Builtin.«set_iterator.__next__»:=entryFor_of_tree (by kernel_rfl)
theorem FP:Manifest.owners.lookup (String.ofList ['r','o','t','a','r','e','t','i','_','t','e','s'].reverse)=some Manifest.sig_set_iterator:=by kernel_rfl
theorem sP(a:Value):argsOk "set_iterator.__next__" ⟨[a],[]⟩:=by
 unfold argsOk;rw [signature?_of (id:="set_iterator.__next__") (n:=['_','_','t','x','e','n','_','_']) (o:=['r','o','t','a','r','e','t','i','_','t','e','s']) (by kernel_rfl) FP];kernel_rfl
theorem yO:Slot "set_iterator" "__iter__" "set_iterator.__iter__":=
 .of (owner:="set_iterator") (n:="__iter__") (by rw[typeLookup_type,builtinLookup_eq_fast];kernel_rfl) (by decide+kernel) (by decide+kernel) (by decide+kernel) (by first | exact .inl (by decide+kernel) | exact .inr (by decide+kernel)) (by rw[isSubtype_type];kernel_rfl)
theorem FV(a:Value):argsOk "set_iterator.__iter__" ⟨[a],[]⟩:=by
 unfold argsOk;rw [signature?_of (id:="set_iterator.__iter__") (n:=['_','_','r','e','t','i','_','_']) (o:=['r','o','t','a','r','e','t','i','_','t','e','s']) (by kernel_rfl) FP];kernel_rfl
theorem LA:entryFor table "set_iterator.__iter__"=some Builtin.«dict_keyiterator.__iter__»:=entryFor_alias (id':="dict_keyiterator.__iter__") (by kernel_rfl) rfl (by decide+kernel) (by kernel_rfl)
def wR(h:Heap)(I d:Addr)(f i n ep:Nat):Prop:=h.get? I=some {cls:= .type "set_iterator",dict:=none,data:= .fields #[.int f 0, .int i 0, .ref d, .int n 0, .int ep 0],slots:=#[]}
def fz(w:World)(p:List Nat)(i:Nat):Nat:=if me w then 0 else zu p i
section
variable {prog:Program} {w:World} {A:Around} {E:Wq} {s:Shared} {a I:Addr} {ns:List Nat} {es:Array (Int × Value)} {ep m:Nat}
theorem wR.ty{f i n:Nat}(h:wR s.heap I a f i n ep):s.TypeIs (.ref I) "set_iterator":=⟨_,h,rfl⟩
theorem SI.ty(S:SI s.heap a led ns es ep m):s.TypeIs (.ref a) "set":=⟨_,S.get,rfl⟩
theorem sG{f i n:Nat}{Q:Wq}(h:wR s.heap I a f i n ep)(q:Q (.ref I) s):wpAny (model prog w) A (pyIter (.ref I)) Q E s:=by
 refine wpAny_pyIter_slot h.ty yO (wpAny_call_entry yO h.ty LA ?_ (FV _));show wpAny _ _ (ret (.ref I)) _ _ s;exact wpAny_pure ⟨_,rfl,"set_iterator",_,h.ty,gu.lookup,q⟩
theorem BZ{Q:Wq}(S:SI s.heap a (!me w) ns es ep m)(h4:ns.length<=4)
 (q:Q (.ref s.heap.objs.size) {s with heap:=s.heap.push {cls:= .type "set_iterator",data:= .fields #[.int 0 0, .int 0 0, .ref a, .int es.size 0, .int ep 0]}}):wpAny (model prog w) A (pyIter (.ref a)) Q E s:=by
 have hf:=S.fits h4;refine wpAny_pyIter_slot S.ty F.slot_set_iter (wpAny_call_entry F.slot_set_iter S.ty Kq ?_ (F.args_set_iter_1 _));unfold Builtin.«frozenset.__iter__» Builtin.Frozenset.slot0 slotArgs;simp only[List.isEmpty_nil,Bool.not_true,Bool.false_eq_true,↓reduceIte,bind_assoc,List.length_nil,bne_self_eq_false];unfold Builtin.Frozenset.addrOf Builtin.Frozenset.sizeOf;refine wpAny_bind (wpAny_pure ?_);dsimp only;refine wpAny_bind (wpAny_pure ?_);refine wpAny_bind (wpAny_bind (wpAny_setEntries_of S.get rfl hf (wpAny_pure ?_)));unfold setDrawn;refine wpAny_bind (wpAny_bind (wpAny_setState_of S.get rfl hf ?_));dsimp only;unfold setsByText;refine wpAny_bind (wpAny_bind (wpAny_askSetting (wpAny_pure ?_)));refine wpAny_pure ?_;refine wpAny_ite_split (fun hb=>absurd (show false=true from(Bool.and_eq_true_iff.mp hb).2) Bool.false_ne_true) fun _=>?_
 refine wpAny_bind (wpAny_pure ?_);refine wpAny_bind (wpAny_setEpoch_of S.get rfl hf ?_);refine wpAny_bind (wpAny_newObj_type (wpAny_pure ⟨_,rfl,"set_iterator",_,⟨_,Heap.get?_push_size _ rfl,rfl⟩,gu.lookup,?_⟩));simpa [rawInt] using q
theorem vX{i:Nat}{Q:Option (Value × Nat)->Shared->Prop}(S:SI s.heap a (!me w) ns es ep m)(h4:ns.length<=4)(hi:i<=es.size)
 (q:Q (((ph w a ep es)[i]?).map fun e=>(e.2,fz w (aV m) (i+1))) s):wpAny (model prog w) A (setNext a (fz w (aV m) i) i ep) Q E s:=by
 have hf:=S.fits h4;have hsz:=S.size;unfold setNext;refine wpAny_bind (wpAny_setState_of S.get rfl hf ?_);dsimp only;unfold setsByText;refine wpAny_bind (wpAny_bind (wpAny_askSetting (wpAny_pure ?_)));unfold ph fz at q;unfold fz;cases hb:me w with
 | true=>
   have ma:(model prog w).w.params.followText "set-order"=true:=hb;rw[hb] at q;simp only[ma,if_true] at q ⊢;rw[if_neg (by simp)]
   refine wpAny_bind ?_;unfold setWalk;refine wpAny_bind (wpAny_setState_of S.get rfl hf ?_);dsimp only;unfold setsByText;refine wpAny_bind (wpAny_bind (wpAny_askSetting (wpAny_pure ?_)));simp only[ma,if_true];refine wpAny_bind (wpAny_askSetting (wpAny_pure ?_));exact wpAny_pure q
 | false=>
   have ma:(model prog w).w.params.followText "set-order"=false:=hb;rw[hb] at q;simp only[ma,Bool.false_eq_true,if_false] at q ⊢;refine wpAny_ite_split (fun z=>absurd (show false=true from z) Bool.false_ne_true) fun _=>?_
   refine wpAny_bind (wpAny_of_eq (a:=()) rfl ?_);have hlen:=S.len;have hB:=List.all_eq_true.mp (List.all_eq_true.mp M9 m (pE S.m256 (k:=4) (by omega))) i (List.mem_range.mpr (by omega))
   have hB:SetTable.below (aV m).toArray (zu (aV m) i)=i:=by simpa using hB
   refine wpAny_pure ?_;show Q (match es[SetTable.below (aV m).toArray (zu (aV m) i)]?,(aV m).toArray[SetTable.below (aV m).toArray (zu (aV m) i)]? with | some (_,x),some j=>some (x,j+1) | _,_=>none) s
   rw[hB];by_cases hlt:i < es.size
   .have e1:es[i]? =some es[i]:=Array.getElem?_eq_getElem hlt;have Ad:i < (aV m).length:=by omega
    have e2:(aV m).toArray[i]? =some (aV m)[i]:=by rw[List.getElem?_toArray,List.getElem?_eq_getElem Ad]
    rw[e1] at q ⊢;rw[e2];have e3:zu (aV m) (i+1)=(aV m)[i]+1:=by
     show(aV m).getD i 0+1=_;rw[List.getD_eq_getElem?_getD,List.getElem?_eq_getElem Ad];rfl
    rw[e3] at q;exact q
   .have e1:es[i]? =none:=Array.getElem?_eq_none (by omega)
    rw[e1] at q ⊢;exact q
end
end L2
end
section
namespace L2
open PySem PySem.Spec PyProof.Rows
section
variable {prog:Program} {w:World} {A:Around} {E:Wq} {s:Shared} {a I:Addr} {ns:List Nat} {es:Array (Int × Value)} {ep m:Nat}
theorem DG{i:Nat}{x:Value}{y:Int}{Q:Option Value->Shared->Prop}(T:wR s.heap I a (fz w (aV m) i) i es.size ep)(S:SI s.heap a (!me w) ns es ep m)(h4:ns.length<=4)(hi:i < es.size)(hx:(ph w a ep es)[i]? =some (y,x))
 (q:∀g,wR g I a (fz w (aV m) (i+1)) (i+1) es.size ep->Heap.SameBut I s.heap g->Q (some x) {s with heap:=g}):wpAny (model prog w) A (pyNext (.ref I)) Q E s:=by
 have hf:=S.fits h4;unfold pyNext;refine wpAny_bind (wpAny_attempt (wpAny_callSpecial?_slot (name:="__next__") T.ty gu (wpAny_call_entry gu T.ty zc ?_ (sP _))));unfold Builtin.«set_iterator.__next__» slotArgs;simp only[List.isEmpty_nil,Bool.not_true,Bool.false_eq_true,↓reduceIte,bind_assoc,List.length_nil,bne_self_eq_false];refine wpAny_bind (wpAny_pure ?_);dsimp only;refine wpAny_bind (wpAny_fieldsOf T rfl ?_);dsimp only;refine wpAny_bind (wpAny_setEntries_of S.get rfl hf ?_);rw[if_neg (by simp)]
 simp only[Int.toNat_natCast];refine wpAny_bind (vX S h4 (Nat.le_of_lt hi) ?_);rw[hx];show wpAny _ _ (setField (.ref I) 0 (rawInt (fz w (aV m) (i+1))) >>=_) _ _ s;refine wpAny_bind (wpAny_setField_rec T (by simp) fun g1 t1 b1=>?_)
 refine wpAny_bind (wpAny_setField_rec (s:={s with heap:=g1}) t1 (by simp) fun g2 t2 b2=>?_)
 refine wpAny_pure ⟨_,rfl,wpAny_pure (q g2 ?_ (b1.trans b2))⟩;unfold wR;rw[t2];simp [rawInt]
theorem IJ{Q:Option Value->Shared->Prop}(nh:A.handled=none)(T:wR s.heap I a (fz w (aV m) es.size) es.size es.size ep)(S:SI s.heap a (!me w) ns es ep m)(h4:ns.length<=4)
 (q:∀g,Heap.ExtBut I s.heap g->Q none {s with heap:=g}):wpAny (model prog w) A (pyNext (.ref I)) Q E s:=by
 have hf:=S.fits h4;unfold pyNext;refine wpAny_bind (wpAny_attempt (wpAny_callSpecial?_slot (name:="__next__") T.ty gu (wpAny_call_entry gu T.ty zc ?_ (sP _))));unfold Builtin.«set_iterator.__next__» slotArgs;simp only[List.isEmpty_nil,Bool.not_true,Bool.false_eq_true,↓reduceIte,bind_assoc,List.length_nil,bne_self_eq_false];refine wpAny_bind (wpAny_pure ?_);dsimp only;refine wpAny_bind (wpAny_fieldsOf T rfl ?_);dsimp only;refine wpAny_bind (wpAny_setEntries_of S.get rfl hf ?_);rw[if_neg (by simp)]
 simp only[Int.toNat_natCast];refine wpAny_bind (vX S h4 (Nat.le_refl _) ?_);rw[Array.getElem?_eq_none (by rw[lW];exact Nat.le_refl _)]
 show wpAny _ _ (setField (.ref I) 2 .none >>=_) _ _ s;refine wpAny_bind (wpAny_setField T rfl (by simp) ?_)
 show wpAny _ _ (newExc (.type "StopIteration") [] >>=_) _ _ _;refine wpAny_bind ?_;simp only[newExc,newTuple];refine wpAny_bind (wpAny_newObj_type ?_ (by size_fits))
 refine wpAny_bind (m:=firstArgMember _ _) (wpAny_of_eq (a:=Value.none) (by first | rfl | (simp only[firstArgMember];rfl)) ?_)
 refine wpAny_newObj_type ?_ (by size_fits)
 simp only[raiseNew];refine wpAny_bind (wpAny_handled ?_);rw[show A.in1.handled=none from nh]
 refine wpAny_bind (wpAny_pure (wpAny_throw ?_));refine wpAny_bind (wpAny_isInstance (T:="StopIteration") (b:=true) ⟨_,Heap.get?_push_size _ rfl,rfl⟩ isSubtype_stop ?_);exact wpAny_pure (q _ (((Heap.SameBut.update ..).extBut.push _).push _))
theorem zw(nh:A.handled=none)(ne:a≠I)(h4:ns.length<=4):Walks prog w A I [I,a] [I] es.size (fun i v=>∃y,(ph w a ep es)[i]? =some (y,v)) (fun i h=>wR h I a (fz w (aV m) i) i es.size ep/\SI h a (!me w) ns es ep m) where
 sub:=fun b hb=>by simp at hb;simp [hb]
 frame:=fun _ _ _ st hk=>⟨hk I (by simp) _ st.1,st.2.at fun o e=>hk a (by simp) o e⟩
 item:=fun i s Q E hi st hQ=>by
  obtain⟨⟨y,x⟩,hx⟩:∃p,(ph w a ep es)[i]? =some p:=⟨_,Array.getElem?_eq_getElem (by rw[lW];exact hi)⟩
  refine DG st.1 st.2 h4 hi hx fun g t b=>?_
  exact hQ x g s.toks ⟨y,hx⟩ ⟨t,st.2.at fun o e=>b.extBut a o ne e⟩ fun c o hc e=>b.extBut c o (fun h=>hc (by simp [h])) e
 done:=fun s Q E st hQ=>IJ nh st.1 st.2 h4 fun g he=>hQ g s.toks fun b o hb e=>he b o (fun h=>hb (by simp [h])) e
 self:=fun _ _ _ _ st hQ=>sG st.1 hQ
theorem CG{Q:Bool->Shared->Prop}(hT:s.TypeIs (.ref a) "set")(h:Q false s):wpAny (model prog w) A (Builtin.List.listLengthHint (.ref a)) Q E s:=by
 unfold Builtin.List.listLengthHint;refine wpAny_bind (wpAny_specialOf hT PySem.F.slot_set_len.lookup ?_);generalize hid:("set.__len__":String)=id0
 wp_delta
 rw[show splitId id0=some ("set","__len__") from by subst hid;decide+kernel]
 subst hid;refine wpAny_bind (wpAny_isInstance (T:="set") (b:=true) hT (by rw[isSubtype_type];kernel_rfl) ?_)
 refine wpAny_ite_split (fun JW=>absurd JW (by decide)) (fun _=>?_)
 refine wpAny_ite_split (fun _=>?_) (fun JW=>absurd (by decide+kernel) JW)
 refine wpAny_bind (wpAny_typeOf hT ?_);exact wpAny_pure h
end
end L2
end
section
namespace L2
open PySem PySem.Spec PyProof.Rows
section
variable {X:Cx}
def TJ(ns:List Nat):List Int:=ns.map fun n:Nat=>(n:Int)
def IC(zs:List Int):Bool:=decide (zs.Nodup) && (decide (zs.length<=4) && zs.all fun z=>decide (0<=z/\z < 32))
def Vs(f:FD):FD:=fun δ=>(f δ).bind fun d=>match d with
 | .tup ds=>(match ints? ds with | some zs=>R.aS (IC zs) (.ok (.lst ((yJ zs).map .int))) | none=> .no)
 | _=> .no
def NI(g g':D->D->R D)(fa fb fc:FD):au->R Bool:=fun δ=>(H0 g g' fa fb fc δ).bind fun d=>match d with | .bl b=> .ok b | _=> .no
end
end L2
end
section
namespace L2
open PySem PySem.Spec PyProof.Rows
section
variable {X:Cx}
def NN(zs:List Int):List Int:=zs.foldl step_dedup []
def Vl(f:FD):FD:=fun δ=>(f δ).bind fun d=>match d with
 | .lst ds=>(match ints? ds with | some zs=>R.aS (decide (zs.length < 1000)) (.ok (.int ((NN zs).length:Nat))) | none=> .no)
 | _=> .no
end
end L2
end
section
namespace L2
open PySem PySem.Spec PyProof.Rows
section
variable {X:Cx}
def MD(d:D)(ds:List D):R D:=match d,ds with
 | .lst es,[k]=>R.aS (Mv k && es.all Mv) (match es.findIdx? (fun d=>JQ d k) with | some j=>R.aS (decide (j < 1000000)) (.ok (.int (j:Nat))) | none=> .no)
 | _,_=> .no
end
end L2
end
section
namespace L3
open PySem PySem.Spec PyProof.Rows L2
section
variable {X:Cx} {cl:Wv}
def keyV?:D->Option Key
 | .int n=>some (.inl n)
 | .str x=>some (.inr x)
 | _=>none
def keysV?:List D->Option (List Key)
 | []=>some []
 | d ::ds=>match keyV? d,keysV? ds with | some k,some ks=>some (k ::ks) | _,_=>none
def KR(S:aZ)(k:Nat):Option (List (List Key × D)):=match S[k]? with | some (.dcT aC)=>some aC | _=>none
def Nr{κ α:Type} [DecidableEq κ](aC:List (κ × α))(k:κ)(d:α):List (κ × α):=if(aC.any fun kv=>decide (kv.1=k))=true then aC.map (fun kv=>if kv.1=k then(kv.1,d) else kv) else aC++[(k,d)]
def Np{κ:Type} [DecidableEq κ](aC:List (κ × D))(k:κ):Option D:=(aC.find? fun kv=>decide (kv.1=k)).map (·.2)
def NL:FX:=fun δ S=> .ok (.loc S.length) (S++[.dcT []])
def Nt(td ty tx:TE)(K:W.Frag):TE:=fun σ H Q=>td σ H fun x H1=>∃a,x= .ref a/\JF H1 a/\ty σ H1 fun y H2=>tx σ H2 fun z H3=>∃aC k b,Rd H3 a (.dT aC)/\y= .ref b/\oy K H3 b (k.map kV)/\Q ((iE aC k).getD z) H3
def Nv(i:Nat)(f g:FD):FX:=fun δ S=>match gW δ i with
 | none=> .no
 | some k=>match KR S k with
   | none=> .no
   | some aC=>(R3.of (f (down δ)) S).bind fun kd S=>(R3.of (g (down δ)) S).bind fun d S=>match kd with
     | .tup ds=>(match keysV? ds with | some ks=> .ok (.d ((Np aC ks).getD d)) S | none=> .no)
     | _=> .no
def NO(fo:FX)(g:FA)(fe:FX):FZ:=fun δ S=>(fe δ S).bind fun v S1=>(fo δ S1).bind fun o S2=>(g δ S2).bind fun js S3=>match v,o,m6 js with
 | .d d, .loc k,some ds=>(match keysV? ds,KR S3 k with | some ks,some aC=>R3.aS (decide (aC.length < sizeLine/\js.length<=sizeLine)) (.ok (.nx δ) (S3.set k (.dcT (Nr aC ks d)))) | _,_=> .no)
 | _,_,_=> .no
end
end L3
end
section
namespace L3
open PySem PySem.Spec PyProof.Rows L2
section
variable {X:Cx} {cl:Wv}
def Qy(S:aZ):V3->Option D
 | .d x=>some x
 | .loc k=>(match S[k]? with | some (.lst ds)=>some (.lst ds) | _=>none)
 | _=>none
def Dk(S:aZ):List V3->Option (List D)
 | []=>some []
 | v ::vs=>match Qy S v,Dk S vs with | some d,some ds=>some (d ::ds) | _,_=>none
def Ow(S:aZ):V3->Option D
 | .tup vs=>(match Dk S vs with | some ds=>some (.tup ds) | none=>none)
 | v=>Qy S v
def VG(g:D->D->R D)(fa fb:FX):FB:=fun δ S=>(fa δ S).bind fun a S1=>(fb δ S1).bind fun b S2=>match Ow S2 a,Ow S2 b with
 | some x,some y=>(match g x y with | .ok (.bl k)=> .ok k S2 | _=> .no)
 | _,_=> .no
end
end L3
end
section
namespace L3
open PySem PySem.Spec PyProof.Rows L2
section
variable {X:Cx} {cl:Wv}
def Lq:D->Bool
 | .cI=>true
 | .bl _=>true
 | .int _=>true
 | .str _=>true
 | _=>false
def J4(S:aZ):List V3->Option (List D)
 | []=>some []
 | v ::vs=>match Ow S v,J4 S vs with | some d,some ds=>some (d ::ds) | _,_=>none
def Vn:P3:=⟨[],[],[]⟩
def Nh(g:List V3->aZ->R3 V3)(fs:FA):FX:=fun δ S=>(fs δ S).bind fun vs S1=>match J4 S1 vs with
 | some ds=>(match g (ds.map .d) [] with | .ok (.d d) _=>R3.aS (Lq d) (.ok (.d d) S1) | _=> .no)
 | none=> .no
end
end L3
end
section
namespace L2
open PySem PySem.Spec PyProof.Rows
theorem EH(t:SetTable)(n:Nat):(t.orStandIn n).led=t.led:=by
 unfold SetTable.orStandIn;split <;> rfl
theorem EF(t:SetTable)(es:Array (Int × Value))(h:Int)(x:Value):(layNew t es h x).2.1.led=t.led:=by
 unfold layNew;split
 .exact EH _ _
 .rfl
theorem wM{mask finger moves:Nat}{led plain:Bool}{hs:Array Int}{t:SetTable}{o:Array Nat}(e:SetTable.laid mask finger moves led plain hs=some (t,o)):t.led=led/\t.plain=plain:=by
 unfold SetTable.laid at e;cases q:SetTable.layClean mask hs with
 | none=>rw [q] at e;cases e
 | some ow=>rw [q] at e;cases e;exact⟨rfl,rfl⟩
theorem u9(t:SetTable)(es:Array (Int × Value))(n:Nat):(relayAll t es n).2.1.led=t.led/\(t.plain=false->(relayAll t es n).2.1.plain=false):=by
 unfold relayAll;split
 .rename_i t' o e;have:=wM e;dsimp only;split
  .exact⟨this.1,fun h=>this.2.trans h⟩
  .exact⟨rfl,fun _=>rfl⟩
 .exact⟨rfl,fun _=>rfl⟩
def m5{α:Type} [DecidableEq α](σ:List α)(x:α):List α:=if x∈σ then σ else σ++[x]
structure SV (prog:Program) (w:World) (h:Heap) (a:Addr) (σ:List Str) (es:Array (Int × Value)) (ep:Nat) (t:SetTable):Prop where
 get:h.get? a=some {cls:= .type "set",dict:=none,data:= .set es ep t,slots:=#[]}
 ld:t.led=!me w
 pl:es.size=0\/t.plain=false
 fit:t.fits es.size=true
 el:ElemsOf (PySem.strKind prog w) es.toList
 mem:∀k,k∈σ↔∃e∈es.toList,(PySem.strKind prog w).is k e.2=true
 len:es.size=σ.length
section
variable {prog:Program} {w:World} {A:Around} {E:Wq} {s:Shared} {a:Addr} {σ:List Str} {es:Array (Int × Value)} {ep:Nat} {t:SetTable}
theorem SV.at{h h':Heap}(S:SV prog w h a σ es ep t)(k:∀o,h.get? a=some o->h'.get? a=some o):SV prog w h' a σ es ep t:=⟨k _ S.get,S.ld,S.pl,S.fit,S.el,S.mem,S.len⟩
theorem SV.ty(S:SV prog w s.heap a σ es ep t):s.TypeIs (.ref a) "set":=⟨_,S.get,rfl⟩
theorem TU{h:Heap}(e:h.get? a=some (n5 (!me w))):SV prog w h a [] #[] 0 (.fresh 0 0 (!me w)):=⟨e,rfl, .inl rfl,rfl,(fun x hx=>by cases hx),(fun k=>by simp),rfl⟩
theorem SV.add{x:Str}{tk:Tok}{Q:Bool->Shared->Prop}(S:SV prog w s.heap a σ es ep t)(hl:σ.length < 1000)
 (hq:∀(b:Bool) (h':Heap) (xK:Array (Int × Value)) (FJ:Nat) (t':SetTable),Heap.SameBut a s.heap h'->SV prog w h' a (m5 σ x) xK FJ t'->Q b {s with heap:=h',toks:=s.toks+1}) :
 wpAny (model prog w) A (setAdd a (.str x tk)) Q E s:=by
 have hkey:(PySem.strKind prog w).is x (.str x tk)=true:=by show Value.isStrOf x (.str x tk)=true;simp [Value.isStrOf]
 have hb:es.size < scanBound:=by rw[S.len];unfold scanBound;omega
 have hsc:(Value.str x tk).scannable=true:=rfl;unfold setAdd;refine wpAny_holding (wpAny_bind ((PySem.strKind prog w).pyHash (k:=x) hkey ?_));unfold setAddHashed setAddHashedIn;refine wpAny_holding (wpAny_bind (wpAny_setState_of (s:={s with toks:=s.toks+1}) S.get rfl S.fit ?_))
 dsimp only;rw[byScan_of (knd:=PySem.strKind prog w) hsc hb S.el];simp only[↓reduceIte];unfold setAddByScan;refine wpAny_bind ?_;refine wpAny_bind (wpAny_rule ?_);refine wpAny_bind (wpAny_setScan_of (knd:=PySem.strKind prog w) (s:={s with toks:=s.toks+1}) hkey S.get rfl S.fit S.el ?_)
 cases hr:List.findIdx? (fun e:Int × Value=>(PySem.strKind prog w).is x e.2) es.toList with
 | some j=>
   obtain⟨hj,hpj,_⟩:=List.findIdx?_eq_some_iff_getElem.mp hr;have hx:x∈σ:=(S.mem x).mpr ⟨_,List.getElem_mem hj,hpj⟩;dsimp only;refine wpAny_pure (wpAny_pure ?_);refine hq _ s.heap es ep t (Heap.SameBut.refl a s.heap) ?_;unfold m5;rw[if_pos hx];exact S
 | none=>
   have hx:x ∉ σ:=fun hx=>by
    obtain⟨e,he,hp⟩:=(S.mem x).mp hx;have:=List.findIdx?_eq_none_iff.mp hr e he;rw[hp] at this;cases this
   dsimp only;have hperm:=layNew_perm t es ((PySem.strKind prog w).hash x) (.str x tk);have hfits:=layNew_fits t es ((PySem.strKind prog w).hash x) (.str x tk);have hled:=EF t es ((PySem.strKind prog w).hash x) (.str x tk);generalize layNew t es ((PySem.strKind prog w).hash x) (.str x tk)=L at hperm hfits hled;obtain⟨jH,t1,wd,gv⟩:=L;dsimp only at hperm hfits hled ⊢;rw[Array.toList_push] at hperm;have hsz1:jH.size=es.size+1:=by rw[<-Array.length_toList,hperm.length_eq,List.length_append,Array.length_toList];rfl
   have hb1:jH.size < scanBound:=by have:=S.len;unfold scanBound;omega
   have LO:ElemsOf (PySem.strKind prog w) jH.toList:=fun e he=>by
    rcases List.mem_append.mp (hperm.mem_iff.mp he) with z | z
    .exact S.el e z
    .rw [List.mem_singleton.mp z];exact⟨⟨x,hkey,rfl⟩,rfl⟩
   have GA:∀k,k∈m5 σ x↔∃e∈jH.toList,(PySem.strKind prog w).is k e.2=true:=fun k=>by
    unfold m5;rw[if_neg hx,List.mem_append,List.mem_singleton,S.mem k];constructor
    .rintro(⟨e,he,hp⟩ | rfl)
     .exact⟨e,hperm.mem_iff.mpr (List.mem_append_left _ he),hp⟩
     .exact⟨_,hperm.mem_iff.mpr (List.mem_append_right _ (List.mem_singleton.mpr rfl)),hkey⟩
    .rintro⟨e,he,hp⟩;rcases List.mem_append.mp (hperm.mem_iff.mp he) with z | z
     .exact .inl ⟨e,z,hp⟩
     .rw [List.mem_singleton.mp z] at hp;exact .inr ((PySem.strKind prog w).inj _ _ _ hp hkey)
   have Gx:jH.size=(m5 σ x).length:=by
    unfold m5;rw[if_neg hx,List.length_append,hsz1,S.len];rfl
   have tail:∀t2:SetTable,t2.fits jH.size=true->t2.led=t.led->t2.plain=false->wpAny (model prog w) A (do
    storeSet a jH t2
    if(!wd && t2.tooFull)=true then do
     (match (relayAll t2 jH (SetTable.grown jH.size)).2.2 with | true=>rule "set.scan.the-table-gave-way" | false=>pure ())
     storeSet a (relayAll t2 jH (SetTable.grown jH.size)).1 (relayAll t2 jH (SetTable.grown jH.size)).2.1
     pure (some true)
    else pure (some true)) (fun o s'=>wpAny (model prog w) A (match o with | some added=>pure added | none=>setAddHashedIn a (.str x tk) ((PySem.strKind prog w).hash x) 99999) Q E s') E {s with toks:=s.toks+1}:=by
    intro t2 f2 l2 p2;refine wpAny_bind (wpAny_storeSet_of (s:={s with toks:=s.toks+1}) S.get rfl ?_ (fits_of_scanBound hb1))
    have g1:=Heap.get?_update_self (Obj.putSet jH t2) S.get rfl;have sb1:=Heap.SameBut.update s.heap a (Obj.putSet jH t2);split
    .have hp:=relayAll_perm t2 jH (SetTable.grown jH.size);have wk:=relayAll_fits t2 jH (SetTable.grown jH.size);obtain⟨Pe,LU⟩:=u9 t2 jH (SetTable.grown jH.size);generalize relayAll t2 jH (SetTable.grown jH.size)=Rl at hp wk Pe LU;obtain⟨ML,t3,Va⟩:=Rl;dsimp only at hp wk Pe LU ⊢;have hsz:ML.size=jH.size:=by rw[<-Array.length_toList,hp.length_eq,Array.length_toList]
     refine wpAny_bind ?_;have nx:wpAny (model prog w) A (do storeSet a ML t3;pure (some true)) (fun o s'=>wpAny (model prog w) A (match o with | some added=>pure added | none=>setAddHashedIn a (.str x tk) ((PySem.strKind prog w).hash x) 99999) Q E s') E {s with heap:=s.heap.update a (Obj.putSet jH t2),toks:=s.toks+1}:=by
      refine wpAny_bind (wpAny_storeSet_of (s:={s with heap:=s.heap.update a (Obj.putSet jH t2),toks:=s.toks+1}) g1 rfl ?_ (fits_of_scanBound (by rw[hsz];exact hb1)))
      refine wpAny_pure (wpAny_pure ?_);have g2:=Heap.get?_update_self (Obj.putSet ML t3) g1 rfl;exact hq _ _ ML _ t3 (sb1.trans (Heap.SameBut.update _ a _)) ⟨g2,by rw[Pe,l2,S.ld], .inr (LU p2),wk,fun e he=>LO e (hp.mem_iff.mp he),fun k=>(GA k).trans ⟨fun⟨e,he,q⟩=>⟨e,hp.mem_iff.mpr he,q⟩,fun⟨e,he,q⟩=>⟨e,hp.mem_iff.mp he,q⟩⟩,by rw[hsz,Gx]⟩
     cases Va with
     | true=>exact wpAny_rule nx
     | false=>exact wpAny_pure nx
    .exact wpAny_pure (wpAny_pure (hq _ _ jH _ t2 sb1 ⟨g1,by rw[l2,S.ld], .inr p2,f2,LO,GA,Gx⟩))
   refine wpAny_bind ?_;have rest:wpAny (model prog w) A (do
    let byValue <-if t1.plain=true then hashByValue 8 (.str x tk) else pure true
    let t2:SetTable:=if byValue=true then t1 else {t1 with plain:=false}
    storeSet a jH t2
    if(!wd && t2.tooFull)=true then do
     (match (relayAll t2 jH (SetTable.grown jH.size)).2.2 with | true=>rule "set.scan.the-table-gave-way" | false=>pure ())
     storeSet a (relayAll t2 jH (SetTable.grown jH.size)).1 (relayAll t2 jH (SetTable.grown jH.size)).2.1
     pure (some true)
    else pure (some true)) (fun o s'=>wpAny (model prog w) A (match o with | some added=>pure added | none=>setAddHashedIn a (.str x tk) ((PySem.strKind prog w).hash x) 99999) Q E s') E {s with toks:=s.toks+1}:=by
    by_cases hp:t1.plain=true
    .rw [if_pos hp,hashByValue_scannable 8 hsc];refine wpAny_bind (wpAny_pure ?_);exact tail {t1 with plain:=false} (SetTable.fits_plain_off hfits) hled rfl
    .rw [if_neg hp];refine wpAny_bind (wpAny_pure ?_);exact tail t1 hfits hled (by cases q:t1.plain with | true=>exact absurd q hp | false=>rfl)
   cases gv with
   | true=>exact wpAny_rule rest
   | false=>exact wpAny_pure rest
end
end L2
end
section
namespace L2
open PySem PySem.Spec PyProof.Rows
section
variable {prog:Program} {w:World} {A:Around} {E:Wq} {s:Shared}
theorem wp_choose{src:Source}{n:Nat}{Q:Nat->Shared->Prop}(hn:n≠0)(h:∀i d,i < n->Q i {s with drawn:=d}):wpAny (model prog w) A (choose src n) Q E s:=fun _ _ _=>by
 show n≠0/\_;exact⟨hn,h _ _ (Nat.mod_lt _ (by omega))⟩
theorem xV{α:Type}:∀(n:Nat) (xs:List α) (s:Shared) {Q:List α->Shared->Prop},xs.length=n->(∀(ys:List α) d,ys.length=n->(∀y∈ys,y∈xs)->Q ys {s with drawn:=d})->wpAny (model prog w) A (drawOrder n xs) Q E s
 | 0,xs,s,Q,hl,h=>by
   unfold drawOrder;have e:s={s with drawn:=s.drawn}:=by cases s;rfl
   rw[e];exact wpAny_pure (h [] s.drawn rfl fun y hy=>by cases hy)
 | n+1,[],s,Q,hl,h=>by cases hl
 | n+1,x ::xs,s,Q,hl,h=>by
   unfold drawOrder;refine wpAny_bind (wp_choose (by simp) fun i d hi=>?_)
   rw[List.getElem?_eq_getElem hi];dsimp only;refine wpAny_bind (xV n ((x ::xs).eraseIdx i) _ (by rw[List.length_eraseIdx_of_lt hi];omega) fun ys d2 h1 h2=>?_)
   refine wpAny_pure (h _ d2 (by rw[List.length_cons,h1]) fun y hy=>?_)
   rcases List.mem_cons.mp hy with rfl | z
   .exact List.getElem_mem hi
   .exact List.mem_of_mem_eraseIdx (h2 y z)
end
def Got(prog:Program)(w:World)(A:Around)(s s':Shared)(a I:Addr)(n:Nat)(P:Value->Prop):Prop:=
 ∃(St:Nat->Heap->Prop) (fp:List Addr),Walks prog w A I fp [I] n (fun _ v=>P v) St/\St 0 s'.heap/\(∀b∈fp,b=a\/s.heap.objs.size<=b)/\s.heap.objs.size<=I/\(∀b o,s.heap.get? b=some o->s'.heap.get? b=some o)/\∃g d,s'={s with heap:=g,drawn:=d}
structure JK (prog:Program) (w:World) (a:Addr) (n:Nat) (P:Value->Prop) (OK:Heap->Prop):Prop where
 ty:∀s:Shared,OK s.heap->s.TypeIs (.ref a) "set"
 keep:∀h h':Heap,OK h->(∀o,h.get? a=some o->h'.get? a=some o)->OK h'
 iter:∀(A:Around) (s:Shared),A.handled=none->OK s.heap->∀(E:Wq) (Q:Wq),(∀I s',Got prog w A s s' a I n P->Q (.ref I) s')->wpAny (model prog w) A (pyIter (.ref a)) Q E s
section
variable {prog:Program} {w:World} {A:Around} {E:Wq} {s:Shared} {a:Addr} {n:Nat} {P:Value->Prop} {OK:Heap->Prop}
theorem DU{R:Result->Shared->Prop}(K:JK prog w a n P OK)(hh:A.handled=none)(hok:OK s.heap)(S:Addr)(RC:S≠a)(res:Value)(c0:Nat)(hS:s.heap.get? S=some {cls:= .type "list",data:= .seq #[] c0})
 (hR:∀g d tk acc c,(∀b o,b≠S->s.heap.get? b=some o->g.get? b=some o)->g.get? S=some {cls:= .type "list",dict:=none,data:= .seq acc c,slots:=#[]}->ItemsOf (fun _ v=>P v) acc n->R (.ok (.ret res)) {s with heap:=g,drawn:=d,toks:=tk}) (hn:n<=sizeLine) :
 wpAny (model prog w) A.in1 (Builtin.List.listExtendWith (.ref S) (.ref a) res)
  (fun q y=>match q with | .done f=>R (.ok f) y | .again c=>c.quiet=true/\codeAny (model prog w) A c R y) (fun e y=>R (.error e) y) s:=by
 unfold Builtin.List.listExtendWith;refine wpAny_bind (wpAny_typeOf (T:="set") (K.ty s hok) ?_);have h1:Builtin.List.listSameRef (.ref S) (.ref a)=false:=by simp [Builtin.List.listSameRef,RC]
 have h2:(Value.type "set"==Value.type "list")=false:=by decide
 have h3:(Value.type "set"==Value.type "tuple")=false:=by decide
 simp only[h1,h2,h3,Bool.or_false,Bool.false_eq_true,if_false];refine wpAny_bind (K.iter A.in1 s hh hok _ _ fun I s1 ⟨St,fp,W,st,hfp,hI,MG,g1,d1,e1⟩=>?_)
 subst e1;have hSlt:=Heap.lt_size hS;have L5:S ∉ fp:=fun h=>(hfp S h).elim RC fun z=>absurd hSlt (Nat.not_lt.mpr z)
 have OS:=MG S _ hS;have key:∀(h:Heap) (c1 tk:Nat),St 0 h->(∀b o,b≠S->s.heap.get? b=some o->h.get? b=some o)->h.get? S=some {cls:= .type "list",data:= .seq #[] c1}->
  codeAny (model prog w) A (.builtin "list.extend.loop" ⟨[.ref S, .ref I,res],[]⟩) R {s with heap:=h,drawn:=d1,toks:=tk}:=by
  intro h c1 tk pz hk hg;refine codeAny_extend_loopS W.toS hn S L5 res n 0 _ #[] c1 rfl (Nat.zero_le _) pz hg (ItemsOf.nil _) fun s2 acc c hm FN wa=>?_
  rw[Moved.eq_with hm];refine hR s2.heap d1 s2.toks acc c (fun b o hb e=>hm.heap b o (fun Jd=>?_) (hk b o hb e)) FN wa
  rcases List.mem_cons.mp Jd with z | z
  .exact hb z
  .exact absurd (Heap.lt_size e) (by rw[List.mem_singleton.mp z];exact Nat.not_lt.mpr hI)
 refine wpAny_bind (wpAny_holding (CG (K.ty _ (K.keep _ _ hok fun o e=>MG a o e)) ?_))
 refine wpAny_ite_split (fun _=>?_) (fun _=>wpAny_pure ⟨plainId_quiet PySem.F.plain_extend_loop _,key _ c0 _ st (fun b o _ e=>MG b o e) OS⟩)
 refine wpAny_bind (wpAny_rule ?_);refine wpAny_bind ?_;show wpAny _ _ (updateSeq S (·.push .none) >>=fun _=>updateSeq S (·.pop)) _ _ _
 refine wpAny_bind (wpAny_updateSeq OS rfl ?_);have r6:=Heap.get?_update_self (Obj.mapSeq (·.push Value.none)) OS rfl
 refine wpAny_updateSeq (hz:=by seq_fits) r6 rfl ?_
 have UB:=Heap.get?_update_self (Obj.mapSeq (·.pop)) r6 rfl
 refine wpAny_pure ⟨plainId_quiet PySem.F.plain_extend_loop _,key _ _ _ ?_ (fun b o hb e=>?_) UB⟩
 .refine W.frame 0 _ _ st fun b hb o e=>?_
  have hbS:b≠S:=fun h=>L5 (h▸hb)
  exact(Heap.get?_update_other _ _ (Ne.symm hbS)).trans ((Heap.get?_update_other _ _ (Ne.symm hbS)).trans e)
 .exact(Heap.get?_update_other _ _ (Ne.symm hb)).trans ((Heap.get?_update_other _ _ (Ne.symm hb)).trans (MG b o e))
theorem xh{Y:List Value->Shared->Prop}(K:JK prog w a n P OK)(hh:A.handled=none)(hok:OK s.heap)(CU:n<=sizeLine)
 (fin:∀(g:Heap) d (tk:Nat) (xs:Array Value),s.heap.objs.size < g.objs.size->(∀b o,s.heap.get? b=some o->g.get? b=some o)->ItemsOf (fun _ v=>P v) xs n->Y xs.toList {s with heap:=g,drawn:=d,toks:=tk}):wpAny (model prog w) A (collect (.ref a)) Y E s:=by
 obtain⟨oa,hoa,_⟩:=K.ty s hok;have l1:=Heap.lt_size hoa
 let z1:Shared:={s with heap:=s.heap.push {cls:= .type "list",data:= .seq ([]:List Value).toArray}}
 let Fn:Result->Shared->Prop:=fun q y=>∃g d tk xs c,q= .ok (.ret (.ref s.heap.objs.size))/\y={s with heap:=g,drawn:=d,toks:=tk}/\(∀b o,s.heap.get? b=some o->g.get? b=some o)/\g.get? s.heap.objs.size=some {cls:= .type "list",dict:=none,data:= .seq xs c,slots:=#[]}/\ItemsOf (fun _ v=>P v) xs n
 have mid:wpAny (model prog w) A.in1 (Builtin.List.listExtendWith (.ref s.heap.objs.size) (.ref a) (.ref s.heap.objs.size)) (fun q y=>match q with | .done f=>Fn (.ok f) y | .again c=>c.quiet=true/\codeAny (model prog w) A c Fn y) (fun e y=>Fn (.error e) y) z1:=
  DU (s:=z1) (R:=Fn) K hh (K.keep _ _ hok fun o e=>Heap.get?_push_of_some _ e) _ (Nat.ne_of_gt l1) _ 0 (Heap.get?_push_size _ rfl)
   (fun g d tk xs c hk hg hi=>⟨g,d,tk,xs,c,rfl,rfl,fun b o e=>hk b o (Nat.ne_of_lt (Heap.lt_size e)) (Heap.get?_push_of_some _ e),hg,hi⟩) CU
 have out:∀q y,Fn q y->q= .ok (.ret (.ref s.heap.objs.size))/\∃g d tk xs c,y={s with heap:=g,drawn:=d,toks:=tk}/\g.get? s.heap.objs.size=some {cls:= .type "list",dict:=none,data:= .seq xs c,slots:=#[]}/\Y xs.toList {s with heap:=g,drawn:=d,toks:=tk}:=fun q y ⟨g,d,tk,xs,c,e1,e2,hk,hg,hi⟩=>⟨e1,g,d,tk,xs,c,e2,hg,fin g d tk xs (Heap.lt_size hg) hk hi⟩
 unfold collect;refine wpAny_bind (wpAny_runValue (codeAny_builtin entry_proto_collect' ?_));rw[Around.under_plainId PySem.F.plain_proto_collect _];refine wpAny_bind (m:=newList []) (wpAny_newObj_type (wpAny_pure ⟨plainId_quiet PySem.F.plain_list_iadd _,codeAny_builtin entry_list_iadd' ?_⟩));rw[Around.under_plainId PySem.F.plain_list_iadd _];refine wpAny_mono mid (fun q y hq=>?_) fun e y he=>?_
 .cases q with
  | done f=>
    obtain⟨e1,g,d,tk,xs,c,rfl,hg,hy⟩:=out _ _ hq;cases e1;exact wpAny_bind (wpAny_load hg (wpAny_pure hy))
  | again c=>
    refine⟨hq.1,codeAny_mono hq.2 fun q y hq=>?_⟩
    obtain⟨rfl,g,d,tk,xs,c,rfl,hg,hy⟩:=out _ _ hq;exact wpAny_bind (wpAny_load hg (wpAny_pure hy))
 .obtain⟨e1,_⟩:=out _ _ he;cases e1
end
end L2
end
section
namespace L2
open PySem PySem.Spec PyProof.Rows
theorem IZ{xs:Array Nat}{i:Nat}(h:xs.size<=1)(hi:i<=xs.size):SetTable.below xs (zu xs.toList i)=i:=by
 obtain⟨l⟩:=xs
 match l,h with
 | [],_=>
   obtain rfl:i=0:=by simpa using hi
   rfl
 | [p],_=>
   have hi:i<=1:=hi;unfold SetTable.below
   match i,hi with
   | 0,_=>
     show SetTable.below.go #[p] 0 1 0 1=0;unfold SetTable.below.go;simp [SetTable.below.go]
   | 1,_=>
     show SetTable.below.go #[p] (p+1) 1 0 1=1;unfold SetTable.below.go;simp [SetTable.below.go]
 | _ ::_ ::_,h=>simp at h
def fv(w:World)(t:SetTable)(i:Nat):Nat:=if me w then 0 else zu t.place.toList i
section
variable {prog:Program} {w:World} {A:Around} {E:Wq} {s:Shared} {a I T:Addr} {σ:List Str} {es:Array (Int × Value)} {ep:Nat} {t:SetTable}
theorem SV.Tj(S:SV prog w h a σ es ep t):t.place.size=es.size:=by
 have:=S.fit;unfold SetTable.fits at this;rw[Bool.and_eq_true] at this;simpa using this.1
theorem vo{i:Nat}{Q:Option (Value × Nat)->Shared->Prop}(S:SV prog w s.heap a σ es ep t)(nd:me w=true\/es.size<=1)(hi:i<=es.size)
 (q:Q (((ph w a ep es)[i]?).map fun e=>(e.2,fv w t (i+1))) s):wpAny (model prog w) A (setNext a (fv w t i) i ep) Q E s:=by
 have hp:=S.Tj;have hld:=S.ld;unfold setNext;refine wpAny_bind (wpAny_setState_of S.get rfl S.fit ?_);dsimp only;unfold setsByText;refine wpAny_bind (wpAny_bind (wpAny_askSetting (wpAny_pure ?_)));unfold ph fv at q;unfold fv;cases hb:me w with
 | true=>
   have ma:(model prog w).w.params.followText "set-order"=true:=hb;rw[hb] at q;simp only[ma,if_true] at q ⊢;rw[if_neg (by simp)]
   refine wpAny_bind ?_;unfold setWalk;refine wpAny_bind (wpAny_setState_of S.get rfl S.fit ?_);dsimp only;unfold setsByText;refine wpAny_bind (wpAny_bind (wpAny_askSetting (wpAny_pure ?_)));simp only[ma,if_true];refine wpAny_bind (wpAny_askSetting (wpAny_pure ?_));exact wpAny_pure q
 | false=>
   have ma:(model prog w).w.params.followText "set-order"=false:=hb;have h1:es.size<=1:=nd.resolve_left (by rw[hb];decide)
   rw[hb] at q hld;simp only[ma,Bool.false_eq_true,if_false] at q ⊢;refine wpAny_ite_split (fun z=>?_) fun _=>?_
   .have z:(!t.plain && decide (es.size > 1))=true:=z;rw[Bool.and_eq_true,decide_eq_true_eq] at z;omega
   refine wpAny_bind (wpAny_of_eq (a:=()) ?_ ?_)
   .show(if(!t.led && !es.isEmpty)=true then unsupported "set:maker-not-led" else pure ())=_
    rw[hld];rfl
   have hB:=IZ (xs:=t.place) (i:=i) (by omega) (by omega)
   refine wpAny_pure ?_;show Q (match es[SetTable.below t.place (zu t.place.toList i)]?,t.place[SetTable.below t.place (zu t.place.toList i)]? with | some (_,x),some j=>some (x,j+1) | _,_=>none) s
   rw[hB];by_cases hlt:i < es.size
   .have e1:es[i]? =some es[i]:=Array.getElem?_eq_getElem hlt;have Ad:i < t.place.size:=by omega
    have e2:t.place[i]? =some t.place[i]:=Array.getElem?_eq_getElem Ad;rw[e1] at q ⊢;rw[e2];have e3:zu t.place.toList (i+1)=t.place[i]+1:=by
     show t.place.toList.getD i 0+1=_;rw[List.getD_eq_getElem?_getD,List.getElem?_eq_getElem (by rw[Array.length_toList];exact Ad),Array.getElem_toList];rfl
    rw[e3] at q;exact q
   .have e1:es[i]? =none:=Array.getElem?_eq_none (by omega)
    rw[e1] at q ⊢;exact q
theorem Cm{i:Nat}{x:Value}{y:Int}{Q:Option Value->Shared->Prop}(U:wR s.heap I a (fv w t i) i es.size ep)(S:SV prog w s.heap a σ es ep t)(nd:me w=true\/es.size<=1)(hi:i < es.size)(hx:(ph w a ep es)[i]? =some (y,x))
 (q:∀g,wR g I a (fv w t (i+1)) (i+1) es.size ep->Heap.SameBut I s.heap g->Q (some x) {s with heap:=g}):wpAny (model prog w) A (pyNext (.ref I)) Q E s:=by
 unfold pyNext;refine wpAny_bind (wpAny_attempt (wpAny_callSpecial?_slot (name:="__next__") U.ty gu (wpAny_call_entry gu U.ty zc ?_ (sP _))));unfold Builtin.«set_iterator.__next__» slotArgs;simp only[List.isEmpty_nil,Bool.not_true,Bool.false_eq_true,↓reduceIte,bind_assoc,List.length_nil,bne_self_eq_false];refine wpAny_bind (wpAny_pure ?_);dsimp only;refine wpAny_bind (wpAny_fieldsOf U rfl ?_);dsimp only;refine wpAny_bind (wpAny_setEntries_of S.get rfl S.fit ?_);rw[if_neg (by simp)]
 simp only[Int.toNat_natCast];refine wpAny_bind (vo S nd (Nat.le_of_lt hi) ?_);rw[hx];show wpAny _ _ (setField (.ref I) 0 (rawInt (fv w t (i+1))) >>=_) _ _ s;refine wpAny_bind (wpAny_setField_rec U (by simp) fun g1 t1 b1=>?_)
 refine wpAny_bind (wpAny_setField_rec (s:={s with heap:=g1}) t1 (by simp) fun g2 t2 b2=>?_)
 refine wpAny_pure ⟨_,rfl,wpAny_pure (q g2 ?_ (b1.trans b2))⟩;unfold wR;rw[t2];simp [rawInt]
theorem Du{Q:Option Value->Shared->Prop}(nh:A.handled=none)(U:wR s.heap I a (fv w t es.size) es.size es.size ep)(S:SV prog w s.heap a σ es ep t)(nd:me w=true\/es.size<=1)
 (q:∀g,Heap.ExtBut I s.heap g->Q none {s with heap:=g}):wpAny (model prog w) A (pyNext (.ref I)) Q E s:=by
 unfold pyNext;refine wpAny_bind (wpAny_attempt (wpAny_callSpecial?_slot (name:="__next__") U.ty gu (wpAny_call_entry gu U.ty zc ?_ (sP _))));unfold Builtin.«set_iterator.__next__» slotArgs;simp only[List.isEmpty_nil,Bool.not_true,Bool.false_eq_true,↓reduceIte,bind_assoc,List.length_nil,bne_self_eq_false];refine wpAny_bind (wpAny_pure ?_);dsimp only;refine wpAny_bind (wpAny_fieldsOf U rfl ?_);dsimp only;refine wpAny_bind (wpAny_setEntries_of S.get rfl S.fit ?_);rw[if_neg (by simp)]
 simp only[Int.toNat_natCast];refine wpAny_bind (vo S nd (Nat.le_refl _) ?_);rw[Array.getElem?_eq_none (by rw[lW];exact Nat.le_refl _)]
 show wpAny _ _ (setField (.ref I) 2 .none >>=_) _ _ s;refine wpAny_bind (wpAny_setField U rfl (by simp) ?_)
 show wpAny _ _ (newExc (.type "StopIteration") [] >>=_) _ _ _;refine wpAny_bind ?_;simp only[newExc,newTuple];refine wpAny_bind (wpAny_newObj_type ?_ (by size_fits))
 refine wpAny_bind (m:=firstArgMember _ _) (wpAny_of_eq (a:=Value.none) (by first | rfl | (simp only[firstArgMember];rfl)) ?_)
 refine wpAny_newObj_type ?_ (by size_fits)
 simp only[raiseNew];refine wpAny_bind (wpAny_handled ?_);rw[show A.in1.handled=none from nh]
 refine wpAny_bind (wpAny_pure (wpAny_throw ?_));refine wpAny_bind (wpAny_isInstance (T:="StopIteration") (b:=true) ⟨_,Heap.get?_push_size _ rfl,rfl⟩ isSubtype_stop ?_);exact wpAny_pure (q _ (((Heap.SameBut.update ..).extBut.push _).push _))
theorem Ab(nh:A.handled=none)(ne:a≠I)(nd:me w=true\/es.size<=1):Walks prog w A I [I,a] [I] es.size (fun _ v=>∃e∈es.toList,v=e.2) (fun i h=>wR h I a (fv w t i) i es.size ep/\SV prog w h a σ es ep t) where
 sub:=fun b hb=>by simp at hb;simp [hb]
 frame:=fun _ _ _ st hk=>⟨hk I (by simp) _ st.1,st.2.at fun o e=>hk a (by simp) o e⟩
 item:=fun i s Q E hi st hQ=>by
  obtain⟨⟨y,x⟩,hx⟩:∃p,(ph w a ep es)[i]? =some p:=⟨_,Array.getElem?_eq_getElem (by rw[lW];exact hi)⟩
  refine Cm st.1 st.2 nd hi hx fun g t b=>?_
  have hm:(y,x)∈es.toList:=(n6 w a ep es).mem_iff.mp (List.mem_of_getElem? (by rw[Array.getElem?_toList];exact hx))
  exact hQ x g s.toks ⟨_,hm,rfl⟩ ⟨t,st.2.at fun o e=>b.extBut a o ne e⟩ fun c o hc e=>b.extBut c o (fun h=>hc (by simp [h])) e
 done:=fun s Q E st hQ=>Du nh st.1 st.2 nd fun g he=>hQ g s.toks fun b o hb e=>he b o (fun h=>hb (by simp [h])) e
 self:=fun _ _ _ _ st hQ=>sG st.1 hQ
structure Iu (h:Heap) (I T a:Addr) (i n ep:Nat) (od:List Nat):Prop where
 it:h.get? I=some {cls:= .type "set_iterator",dict:=none,data:= .fields #[.ref T, .int i 0, .ref a, .int n 0, .int ep 0],slots:=#[]}
 tp:∃c,h.get? T=some {cls:= .type "tuple",dict:=none,data:= .seq (od.map fun j:Nat=>rawInt j).toArray c,slots:=#[]}
theorem Iu.ty{i n:Nat}{od:List Nat}(h:Iu s.heap I T a i n ep od):s.TypeIs (.ref I) "set_iterator":=⟨_,h.it,rfl⟩
theorem Cq{i j:Nat}{x:Value}{y:Int}{od:List Nat}{Q:Option Value->Shared->Prop}(U:Iu s.heap I T a i es.size ep od)(S:SV prog w s.heap a σ es ep t)(nI:T≠I)(hj:od[i]? =some j)(hx:es[j]? =some (y,x))
 (q:∀g,Iu g I T a (i+1) es.size ep od->Heap.SameBut I s.heap g->Q (some x) {s with heap:=g}):wpAny (model prog w) A (pyNext (.ref I)) Q E s:=by
 obtain⟨c,hT⟩:=U.tp;unfold pyNext;refine wpAny_bind (wpAny_attempt (wpAny_callSpecial?_slot (name:="__next__") U.ty gu (wpAny_call_entry gu U.ty zc ?_ (sP _))));unfold Builtin.«set_iterator.__next__» slotArgs;simp only[List.isEmpty_nil,Bool.not_true,Bool.false_eq_true,↓reduceIte,bind_assoc,List.length_nil,bne_self_eq_false];refine wpAny_bind (wpAny_pure ?_);dsimp only;refine wpAny_bind (wpAny_fieldsOf U.it rfl ?_);dsimp only;refine wpAny_bind (wpAny_setEntries_of S.get rfl S.fit ?_);rw[if_neg (by simp)]
 simp only[Int.toNat_natCast];refine wpAny_bind ?_;unfold seqItems?;refine wpAny_bind (wpAny_load hT (wpAny_pure ?_));dsimp only;have e1:(od.map fun j:Nat=>rawInt j).toArray[i]? =some (rawInt j):=by rw[List.getElem?_toArray,List.getElem?_map,hj];rfl
 rw[e1];show wpAny _ _ (setNextDrawn a (Int.toNat (j:Int)) ep >>=_) _ _ s;rw[Int.toNat_natCast];refine wpAny_bind ?_;unfold setNextDrawn;refine wpAny_bind (wpAny_setState_of S.get rfl S.fit ?_);dsimp only;rw[if_neg (by simp),hx]
 refine wpAny_pure ?_;refine wpAny_bind (wpAny_setField_rec U.it (by simp) fun g1 t1 b1=>?_)
 refine wpAny_pure ⟨_,rfl,wpAny_pure (q g1 ⟨?_,c,b1.extBut T _ nI hT⟩ b1)⟩;rw[t1];simp [rawInt]
theorem D1{od:List Nat}{Q:Option Value->Shared->Prop}(nh:A.handled=none)(U:Iu s.heap I T a es.size es.size ep od)(S:SV prog w s.heap a σ es ep t)(hl:od.length=es.size)
 (q:∀g,Heap.ExtBut I s.heap g->Q none {s with heap:=g}):wpAny (model prog w) A (pyNext (.ref I)) Q E s:=by
 obtain⟨c,hT⟩:=U.tp;unfold pyNext;refine wpAny_bind (wpAny_attempt (wpAny_callSpecial?_slot (name:="__next__") U.ty gu (wpAny_call_entry gu U.ty zc ?_ (sP _))));unfold Builtin.«set_iterator.__next__» slotArgs;simp only[List.isEmpty_nil,Bool.not_true,Bool.false_eq_true,↓reduceIte,bind_assoc,List.length_nil,bne_self_eq_false];refine wpAny_bind (wpAny_pure ?_);dsimp only;refine wpAny_bind (wpAny_fieldsOf U.it rfl ?_);dsimp only;refine wpAny_bind (wpAny_setEntries_of S.get rfl S.fit ?_);rw[if_neg (by simp)]
 simp only[Int.toNat_natCast];refine wpAny_bind ?_;unfold seqItems?;refine wpAny_bind (wpAny_load hT (wpAny_pure ?_));dsimp only;have e1:(od.map fun j:Nat=>rawInt j).toArray[es.size]? =none:=by rw[List.getElem?_toArray,List.getElem?_eq_none (by rw[List.length_map];omega)]
 rw[e1];show wpAny _ _ (setField (.ref I) 0 (rawInt 0) >>=_) _ _ s;refine wpAny_bind (wpAny_setField_rec U.it (by simp) fun g1 t1 b1=>?_)
 refine wpAny_bind (wpAny_setField (s:={s with heap:=g1}) t1 rfl (by simp) ?_)
 show wpAny _ _ (newExc (.type "StopIteration") [] >>=_) _ _ _;refine wpAny_bind ?_;simp only[newExc,newTuple];refine wpAny_bind (wpAny_newObj_type ?_ (by size_fits))
 refine wpAny_bind (m:=firstArgMember _ _) (wpAny_of_eq (a:=Value.none) (by first | rfl | (simp only[firstArgMember];rfl)) ?_)
 refine wpAny_newObj_type ?_ (by size_fits)
 simp only[raiseNew];refine wpAny_bind (wpAny_handled ?_);rw[show A.in1.handled=none from nh]
 refine wpAny_bind (wpAny_pure (wpAny_throw ?_));refine wpAny_bind (wpAny_isInstance (T:="StopIteration") (b:=true) ⟨_,Heap.get?_push_size _ rfl,rfl⟩ isSubtype_stop ?_);exact wpAny_pure (q _ (((b1.trans (Heap.SameBut.update ..)).extBut.push _).push _))
theorem A8{i n:Nat}{od:List Nat}{Q:Wq}(h:Iu s.heap I T a i n ep od)(q:Q (.ref I) s):wpAny (model prog w) A (pyIter (.ref I)) Q E s:=by
 refine wpAny_pyIter_slot h.ty yO (wpAny_call_entry yO h.ty LA ?_ (FV _));show wpAny _ _ (ret (.ref I)) _ _ s;exact wpAny_pure ⟨_,rfl,"set_iterator",_,h.ty,gu.lookup,q⟩
theorem zg{od:List Nat}(nh:A.handled=none)(ne:a≠I)(nT:T≠I)(hl:od.length=es.size)(UM:∀j∈od,j < es.size):Walks prog w A I [I,a,T] [I] es.size (fun _ v=>∃e∈es.toList,v=e.2) (fun i h=>Iu h I T a i es.size ep od/\SV prog w h a σ es ep t) where
 sub:=fun b hb=>by simp at hb;simp [hb]
 frame:=fun _ _ _ st hk=>⟨⟨hk I (by simp) _ st.1.it,st.1.tp.imp fun c e=>hk T (by simp) _ e⟩,st.2.at fun o e=>hk a (by simp) o e⟩
 item:=fun i s Q E hi st hQ=>by
  have hj:od[i]? =some od[i]:=List.getElem?_eq_getElem (by omega)
  have hjl:=UM _ (List.getElem_mem (by omega:i < od.length))
  obtain⟨⟨y,x⟩,hx⟩:∃p,es[od[i]]? =some p:=⟨_,Array.getElem?_eq_getElem hjl⟩;refine Cq st.1 st.2 nT hj hx fun g t b=>?_
  exact hQ x g s.toks ⟨(y,x),List.mem_of_getElem? (by rw[Array.getElem?_toList];exact hx),rfl⟩ ⟨t,st.2.at fun o e=>b.extBut a o ne e⟩ fun c o hc e=>b.extBut c o (fun h=>hc (by simp [h])) e
 done:=fun s Q E st hQ=>D1 nh st.1 st.2 hl fun g he=>hQ g s.toks fun b o hb e=>he b o (fun h=>hb (by simp [h])) e
 self:=fun _ _ _ _ st hQ=>A8 st.1 hQ
end
end L2
end
section
set_option maxHeartbeats 3200000
namespace L2
open PySem PySem.Spec PyProof.Rows
section
variable {prog:Program} {w:World} {A:Around} {E:Wq} {s:Shared} {a:Addr}
theorem Fq{I:Addr}{fp wr:List Addr}{n:Nat}{P P':Nat->Value->Prop}{St:Nat->Heap->Prop}(W:Walks prog w A I fp wr n P St)(h:∀i v,P i v->P' i v):Walks prog w A I fp wr n P' St where
 sub:=W.sub
 frame:=W.frame
 item:=fun i s Q E hi st hQ=>W.item i s Q E hi st fun v h' tk hv=>hQ v h' tk (h i v hv)
 done:=W.done
 self:=W.self
theorem Fx{σ:List Str}{es:Array (Int × Value)}{ep:Nat}{t:SetTable}(nh:A.handled=none)(S:SV prog w s.heap a σ es ep t)(hsz:es.size < 1000){Q:Wq}
 (q:∀I s',Got prog w A s s' a I es.size (fun v=>∃e∈es.toList,v=e.2)->Q (.ref I) s'):wpAny (model prog w) A (pyIter (.ref a)) Q E s:=by
 have hz:sizeLine=16777216:=sizeLine_eq;have hlt:=Heap.lt_size S.get;refine wpAny_pyIter_slot S.ty F.slot_set_iter (wpAny_call_entry F.slot_set_iter S.ty Kq ?_ (F.args_set_iter_1 _));unfold Builtin.«frozenset.__iter__» Builtin.Frozenset.slot0 slotArgs;simp only[List.isEmpty_nil,Bool.not_true,Bool.false_eq_true,↓reduceIte,bind_assoc,List.length_nil,bne_self_eq_false];unfold Builtin.Frozenset.addrOf Builtin.Frozenset.sizeOf;refine wpAny_bind (wpAny_pure ?_);dsimp only;refine wpAny_bind (wpAny_pure ?_);refine wpAny_bind (wpAny_bind (wpAny_setEntries_of S.get rfl S.fit (wpAny_pure ?_)));unfold setDrawn;refine wpAny_bind (wpAny_bind (wpAny_setState_of S.get rfl S.fit ?_));dsimp only;unfold setsByText;refine wpAny_bind (wpAny_bind (wpAny_askSetting (wpAny_pure ?_)));refine wpAny_pure ?_;refine wpAny_ite_split (fun hb=>?_) fun hb=>?_
 .refine wpAny_bind (xV es.size (List.range es.size) s (List.length_range) fun od d h1 h2=>?_)
  refine wpAny_bind (wpAny_newTuple ?_ (by rw[List.length_map];omega))
  have g1:(s.heap.push {cls:= .type "tuple",data:= .seq (od.map fun(i:Nat)=>rawInt i).toArray}).get? a=_:=Heap.get?_push_of_some _ S.get
  refine wpAny_bind (wpAny_setEpoch_of (s:={s with heap:=s.heap.push {cls:= .type "tuple",data:= .seq (od.map fun(i:Nat)=>rawInt i).toArray},drawn:=d}) g1 rfl S.fit ?_)
  refine wpAny_bind (wpAny_newObj_type (wpAny_pure ⟨_,rfl,"set_iterator",_,⟨_,Heap.get?_push_size _ rfl,rfl⟩,gu.lookup,?_⟩));have hI:({s with heap:=s.heap.push {cls:= .type "tuple",data:= .seq (od.map fun(i:Nat)=>rawInt i).toArray},drawn:=d}:Shared).heap.objs.size=s.heap.objs.size+1:=Heap.size_push ..
  refine q _ _ ⟨_,_,zg (prog:=prog) (w:=w) (σ:=σ) (t:=t) (T:=s.heap.objs.size) (od:=od) nh ?_ ?_ h1 (fun j hj=>List.mem_range.mp (h2 j hj)),⟨⟨?_,0,?_⟩,S.at fun o e=>Heap.get?_push_of_some _ (Heap.get?_push_of_some _ e)⟩,fun b hb=>?_,?_,fun b o e=>Heap.get?_push_of_some _ (Heap.get?_push_of_some _ e),_,d,rfl⟩
  .rw [hI];exact Nat.ne_of_lt (Nat.lt_succ_of_lt hlt)
  .rw [hI];exact Nat.ne_of_lt (Nat.lt_succ_self _)
  .rw [Heap.get?_push_size _ rfl];simp [rawInt]
  .exact Heap.get?_push_of_some _ (Heap.get?_push_size _ rfl)
  .simp only[List.mem_cons,List.not_mem_nil,or_false] at hb;rcases hb with rfl | rfl | rfl
   .right;rw [hI];exact Nat.le_succ _
   .exact .inl rfl
   .exact .inr (Nat.le_refl _)
  .rw [hI];exact Nat.le_succ _
 .have hb:¬(!me w && (!t.plain && decide (es.size > 1)))=true:=hb;have nd:me w=true\/es.size<=1:=by
   cases h1:me w with
   | true=>exact .inl rfl
   | false=>
     rw[h1] at hb;rcases S.pl with z | z
     .exact .inr (by omega)
     .rw [z] at hb;refine .inr (Nat.le_of_not_lt fun h=>hb ?_)
      rw[decide_eq_true h];rfl
  refine wpAny_bind (wpAny_pure ?_);refine wpAny_bind (wpAny_setEpoch_of S.get rfl S.fit ?_);refine wpAny_bind (wpAny_newObj_type (wpAny_pure ⟨_,rfl,"set_iterator",_,⟨_,Heap.get?_push_size _ rfl,rfl⟩,gu.lookup,?_⟩));have e:s={s with drawn:=s.drawn}:=by cases s;rfl
  refine q _ _ ⟨_,_,Ab (prog:=prog) (w:=w) (σ:=σ) (t:=t) nh (Nat.ne_of_lt hlt) nd,⟨?_,S.at fun o e=>Heap.get?_push_of_some _ e⟩,fun b hb=>?_,Nat.le_refl _,fun b o e=>Heap.get?_push_of_some _ e,_,s.drawn,rfl⟩
  .unfold wR;rw[Heap.get?_push_size _ rfl,show fv w t 0=0 by unfold fv zu;split <;> rfl];simp [rawInt]
  .simp only[List.mem_cons,List.not_mem_nil,or_false] at hb;rcases hb with rfl | rfl
   .exact .inr (Nat.le_refl _)
   .exact .inl rfl
theorem IQ{σ:List Str}{es:Array (Int × Value)}{ep:Nat}{t:SetTable}(hsz:es.size < 1000):JK prog w a es.size (fun v=>∃e∈es.toList,v=e.2) (fun h=>SV prog w h a σ es ep t) where
 ty:=fun _ S=>S.ty
 keep:=fun _ _ S hk=>S.at hk
 iter:=fun _ _ nh S _ _ q=>Fx nh S hsz q
theorem Hs{ns:List Nat}{es:Array (Int × Value)}{ep m:Nat}(h4:ns.length<=4):JK prog w a es.size (fun v=>∃e∈es.toList,v=e.2) (fun h=>SI h a (!me w) ns es ep m) where
 ty:=fun _ S=>S.ty
 keep:=fun _ _ S hk=>S.at hk
 iter:=fun A s nh S E Q q=>by
  refine BZ S h4 (q _ _ ⟨_,_,Fq (zw (prog:=prog) (w:=w) (ep:=ep) (m:=m) nh (Nat.ne_of_lt (Heap.lt_size S.get)) h4) fun i v ⟨y,hx⟩=>⟨(y,v),(n6 w a ep es).mem_iff.mp (List.mem_of_getElem? (by rw[Array.getElem?_toList];exact hx)),rfl⟩,⟨?_,S.at fun o e=>Heap.get?_push_of_some _ e⟩,fun b hb=>?_,Nat.le_refl _,fun b o e=>Heap.get?_push_of_some _ e,_,s.drawn,rfl⟩)
  .unfold wR;rw[Heap.get?_push_size _ rfl,show fz w (aV m) 0=0 by unfold fz zu;split <;> rfl];rfl
  .simp only[List.mem_cons,List.not_mem_nil,or_false] at hb;rcases hb with rfl | rfl
   .exact .inr (Nat.le_refl _)
   .exact .inl rfl
end
end L2
end
section
namespace L2
open PySem PySem.Spec PyProof.Rows
def kW{α:Type} [DecidableEq α](ks:List α):List α:=ks.foldl m5 []
theorem vI{α:Type} [DecidableEq α](ks:List α)(k:α):kW (ks++[k])=m5 (kW ks) k:=by unfold kW;rw [List.foldl_append];rfl
theorem uQ{α:Type} [DecidableEq α]:∀(zs σ:List α),σ.Nodup->(zs.foldl m5 σ).Nodup/\(∀z,z∈zs.foldl m5 σ↔z∈σ\/z∈zs)/\(zs.foldl m5 σ).length<=σ.length+zs.length
 | [],σ,h=>⟨h,fun z=>by simp,Nat.le_refl _⟩
 | y ::zs,σ,h=>by
   rw[List.foldl_cons];have hs:(m5 σ y).Nodup/\(∀z,z∈m5 σ y↔z∈σ\/z=y)/\(m5 σ y).length<=σ.length+1:=by
    unfold m5;split
    .rename_i q;exact⟨h,fun z=>⟨.inl,fun o=>o.elim id fun e=>by rw[e];exact q⟩,Nat.le_succ _⟩
    .rename_i q;refine⟨List.nodup_append.mpr ⟨h,by simp,fun a ha b hb e=>?_⟩,fun z=>by simp,by rw[List.length_append];exact Nat.le_refl _⟩
     rw[List.mem_singleton.mp hb] at e;subst e;exact q ha
   obtain⟨h1,h2,h3⟩:=uQ zs _ hs.1;refine⟨h1,fun z=>?_,by have:=hs.2.2;rw [List.length_cons];omega⟩
   rw[h2,hs.2.1,List.mem_cons];exact or_assoc
theorem IM{α:Type} [DecidableEq α](ks:List α):(kW ks).Nodup:=(uQ ks [] List.nodup_nil).1
theorem D4{α:Type} [DecidableEq α]{ks:List α}{z:α}:z∈kW ks↔z∈ks:=by
 have:=(uQ ks [] List.nodup_nil).2.1 z;simpa [kW] using this
theorem pK{α:Type} [DecidableEq α](ks:List α):(kW ks).length<=ks.length:=by
 have:=(uQ ks [] List.nodup_nil).2.2;simpa [kW] using this
theorem yo{α:Type} [DecidableEq α]:∀(zs σ:List α),σ.Nodup->(zs.foldl m5 σ).length=σ.length+zs.length->(σ++zs).Nodup
 | [],σ,h,_=>by rw[List.append_nil];exact h
 | y ::zs,σ,h,e=>by
   rw[List.foldl_cons,List.length_cons] at e;by_cases hy:y∈σ
   .have hd:m5 σ y=σ:=by unfold m5;rw [if_pos hy]
    rw[hd] at e;have:=(uQ zs σ h).2.2;omega
   .have hd:m5 σ y=σ++[y]:=by unfold m5;rw [if_neg hy]
    rw[hd] at e;have hn:(σ++[y]).Nodup:=List.nodup_append.mpr ⟨h,by simp,fun a ha b hb e=>by rw[List.mem_singleton.mp hb] at e;subst e;exact hy ha⟩
    have:=yo zs (σ++[y]) hn (by rw[e,List.length_append,List.length_singleton];omega)
    rw[List.append_assoc] at this;exact this
theorem Bj{α:Type} [DecidableEq α](ks:List α):(kW ks).length < ks.length↔¬ks.Nodup:=by
 constructor
 .intro h hn;have:(kW ks).length=ks.length:=((List.perm_ext_iff_of_nodup (IM ks) hn).mpr fun z=>D4).length_eq
  omega
 .intro h;have h1:=pK ks;refine Nat.lt_of_le_of_ne h1 fun e=>h ?_
  have:=yo ks [] List.nodup_nil (by rw[List.length_nil,Nat.zero_add];exact e)
  simpa using this
structure pL (prog:Program) (w:World) (K:Type) [DecidableEq K] (Jb:K->Value->Prop) (Iv:Heap->Addr->List K->Prop) (ok:List K->K->Prop):Prop where
 new:∀h a,h.get? a=some (n5 (!me w))->Iv h a []
 keep:∀h h' a σ,Iv h a σ->(∀o,h.get? a=some o->h'.get? a=some o)->Iv h' a σ
 add:∀(A:Around) (E:Wq) (s:Shared) (a:Addr) (σ:List K) (k:K) (v:Value) (Q:Bool->Shared->Prop),Iv s.heap a σ->Jb k v->ok σ k->
  (∀b h',Heap.SameBut a s.heap h'->Iv h' a (m5 σ k)->Q b {s with heap:=h',toks:=s.toks+1})->wpAny (model prog w) A (setAdd a v) Q E s
section
variable {prog:Program} {w:World} {A:Around} {R:Result->Shared->Prop} {I:Addr} {fp wr:List Addr} {G:Array GenState->Array GenState->Prop} {P:Nat->Value->Prop} {St:Nat->Shared->Prop}
variable {K:Type} [DecidableEq K] {Jb:K->Value->Prop} {Iv:Heap->Addr->List K->Prop} {ok:List K->K->Prop}
theorem AL(L:pL prog w K Jb Iv ok){ks:List K}(W:WalksS prog w A.in1 I fp wr G ks.length P St)(S:Addr)(L5:S ∉ fp)(hv:∀(i:Nat) (v:Value) (k:K),P i v->ks[i]? =some k->Jb k v)(hok:∀(i:Nat) (k:K),ks[i]? =some k->ok (kW (ks.take i)) k) :
 ∀(k i:Nat) (s:Shared),ks.length - i=k->i<=ks.length->St i s->Iv s.heap S (kW (ks.take i))->
  (∀s',Moved (S ::wr) G s s'->Iv s'.heap S (kW ks)->R (.ok (.ret .none)) s')->codeAny (model prog w) A (.builtin "set.update.loop" ⟨[.ref S, .ref I],[]⟩) R s:=by
 have nw:S ∉ wr:=fun h=>L5 (W.sub _ h)
 have sb:∀b∈wr,b∈S ::wr:=fun b hb=>List.mem_cons_of_mem _ hb
 intro k
 induction k with
 | zero=>
   intro i s hk hi pz hS hR;obtain rfl:i=ks.length:=by omega
   refine codeAny_builtin F.entry_set_update_loop ?_;rw[Around.under_plainId F.plain_set_update_loop _];show wpAny _ A.in1 (pyNext (.ref I) >>=_) _ _ s;refine wpAny_bind (W.done s _ _ pz fun s' hm=>?_)
   rw[List.take_length] at hS;exact wpAny_pure (hR s' (hm.mono sb) (L.keep _ _ _ _ hS fun o e=>hm.heap S o nw e))
 | succ k ih=>
   intro i s hk hi pz hS hR;have hlt:i < ks.length:=by omega
   refine codeAny_builtin F.entry_set_update_loop ?_;rw[Around.under_plainId F.plain_set_update_loop _];show wpAny _ A.in1 (pyNext (.ref I) >>=_) _ _ s;refine wpAny_bind (W.item i s _ _ hlt pz fun v s' hP Pc hm=>?_)
   have hx:ks[i]? =some ks[i]:=List.getElem?_eq_getElem hlt;have hS':=L.keep _ s'.heap _ _ hS fun o e=>hm.heap S o nw e
   show wpAny _ A.in1 (holding [v] (setAdd S v) >>=_) _ _ s';refine wpAny_bind (wpAny_holding (L.add _ _ _ _ _ _ _ _ hS' (hv i v _ hP hx) (hok i _ hx) fun b h' Rm r6=>?_))
   rw[<-vI,show ks.take i++[ks[i]]=ks.take (i+1) by rw[List.take_add_one,hx];rfl] at r6
   refine wpAny_pure ⟨plainId_quiet F.plain_set_update_loop _,ih (i+1) _ (by omega) hlt (W.frame _ s' _ _ Pc (Nat.le_succ _) fun b hb o e=>?_) r6 fun Mc OW OP=>?_⟩
   .rw [Rm.2 b (fun h:b=S=>L5 (by rw[<-h];exact hb))];exact e
   .refine hR Mc (Moved.trans W.gtrans ((hm.mono sb).then_heap (Nat.le_succ _) fun b o hb e=>?_) OW) OP
    rw[Rm.2 b (fun h:b=S=>hb (by rw[h];exact List.mem_cons_self))];exact e
end
section
variable {prog:Program} {w:World} {A:Around} {E:Wq} {s:Shared}
variable {K:Type} [DecidableEq K] {Jb:K->Value->Prop} {Iv:Heap->Addr->List K->Prop} {ok:List K->K->Prop}
theorem oI(L:pL prog w K Jb Iv ok){l:Addr}{items:Array Value}{ks:List K}{Q:Wq}(nh:A.handled=none)(tl:s.heap.IsList l items)(hv:∀(i:Nat) (v:Value) (k:K),items[i]? =some v->ks[i]? =some k->Jb k v)(sz:items.size=ks.length)(hok:∀(i:Nat) (k:K),ks[i]? =some k->ok (kW (ks.take i)) k)
 (fin:∀(g:Heap) (tk:Nat),Iv g s.heap.objs.size (kW ks)->(∀b o,s.heap.get? b=some o->g.get? b=some o)->Q (.ref s.heap.objs.size) {s with heap:=g,toks:=tk}) :
 wpAny (model prog w) A (call (.type "set") [.ref l]) Q E s:=by
 obtain⟨c1,c2,c3⟩:=F.called_set.mro;have d1:=F.called_set.made;have d2:=F.called_set.sub;refine wpAny_call (codeAny_of_tree ?_);show wpAny _ _ (callAny (.type "set") _) _ _ _;refine wpAny_pure ⟨Code.quiet_builtin _ (by decide+kernel),codeAny_builtin F.entry_type_call ?_⟩
 rw[Around.under_plain (weight_type_call_type "set" [.ref l] []) rfl];have d3:=F.called_set.notType;have d4:=F.called_set.canCreate;have d5:=F.typeCall_set_1 (.ref l)
 repeat (any_goals (first | assumption | wp_step))
 refine codeAny_mono (FC (.ref l) (E:=E) (Y:=fun ob y=>ob= .ref s.heap.objs.size/\y={s with heap:=s.heap.push (n5 (!me w))}) ⟨rfl,rfl⟩) fun r y hr=>?_
 cases r with
 | error e=>exact hr
 | ok fl=>
   cases fl with
   | ret ob=>
     obtain⟨rfl,rfl⟩:=hr;have g0:(s.heap.push (n5 (!me w))).get? s.heap.objs.size=some (n5 (!me w)):=Heap.get?_push_size _ rfl;have g1:Shared.TypeIs {s with heap:=s.heap.push (n5 (!me w))} (.ref s.heap.objs.size) "set":=⟨_,g0,rfl⟩
     have d6:=F.called_set.init.lookup;have d7:=F.called_set.init.bind (.ref s.heap.objs.size)
     repeat (any_goals (first | assumption | wp_step))
     refine codeAny_mono (codeAny_call_builtin (R:=wants (fun r y=>r= .none/\∃g tk,y={s with heap:=g,toks:=tk}/\Iv g s.heap.objs.size (kW ks)/\∀b o,s.heap.get? b=some o->g.get? b=some o) E) F.called_set.init.plain F.entry_set_init (check_set_init_1 g1 ?_)) fun r2 y2 OF=>?_
     .obtain⟨ol,o1,o2,on,o3⟩:=tl;obtain⟨oa,ob,oc,od⟩:=ol;simp only at o2 o3;subst o2 o3;have o4:(s.heap.push (n5 (!me w))).get? l=some {cls:= .type "list",dict:=ob,data:= .seq items on,slots:=od}:=Heap.get?_push_of_some _ o1;have e1:=F.sub_list_set;have e2:=F.sub_list_frozenset;have e3:(Value.type "list"==Value.type "dict")=false:=by decide
      have t1:(s.heap.push (n5 (!me w))).IsList l items:=⟨_,o4,rfl,on,rfl⟩;unfold Builtin.«set.__init__» noKeywords Builtin.Frozenset.updateFrom;generalize hPI:pyIter=PI
      wp_walk
      subst hPI;refine wpAny_pyIter_list t1 ?_;refine wpAny_bind (wpAny_runValue ?_);have lS:l < s.heap.objs.size:=Heap.lt_size o1;have nh3:A.in1.in1.in1.handled=none:=by simp [nh]
      have nI:l≠(s.heap.push (n5 (!me w))).objs.size:=by rw[Heap.size_push];exact Nat.ne_of_lt (Nat.lt_succ_of_lt lS)
      have nf:s.heap.objs.size ∉ [(s.heap.push (n5 (!me w))).objs.size,l]:=by
       rw[Heap.size_push];simp only[List.mem_cons,List.not_mem_nil,or_false,not_or];exact⟨Nat.ne_of_lt (Nat.lt_succ_self _),Nat.ne_of_gt lS⟩
      have Wk:=(Walks.list (prog:=prog) (w:=w) nh3 (s.heap.push (n5 (!me w))).objs.size l nI items).toS;rw[sz] at Wk;refine AL L Wk s.heap.objs.size nf (fun i v k hp hk=>hv i v k hp hk) hok (ks.length - 0) 0 _ (by omega) (Nat.zero_le _) ⟨⟨_,Heap.get?_push_size _ rfl,rfl,rfl⟩,(t1.push _)⟩ (L.new _ _ (Heap.get?_push_of_some _ g0)) ?_
      intro y mv S;obtain⟨y1,y2,y3,y4,y5⟩:=y;have a1:y2=s.gens:=mv.gens;have a2:y3=s.drawn:=mv.drawn;have a3:y5=s.os:=mv.os;subst a1 a2 a3;show wpAny _ _ _ _ _ _;refine wpAny_pure ?_;show wpAny _ _ (ret Value.none) _ _ _;refine wpAny_pure ⟨rfl,y1,y4,rfl,S,fun b o e=>?_⟩
      have hb:=Heap.lt_size e;refine mv.heap b o ?_ (Heap.get?_push_of_some _ (Heap.get?_push_of_some _ e));simp only[List.mem_cons,List.not_mem_nil,or_false,not_or];refine⟨Nat.ne_of_lt hb,?_⟩;rw[Heap.size_push];exact Nat.ne_of_lt (Nat.lt_succ_of_lt hb)
     .cases r2 with
      | error e=>exact OF
      | ok LU=>
        cases LU with
        | ret r=>
          obtain⟨rfl,g,tk,rfl,S,kp⟩:=OF
          repeat (any_goals (first | assumption | wp_step))
          exact fin _ _ S kp
        | _=>exact OF.elim
   | _=>exact hr.elim
end
end L2
end
section
set_option maxHeartbeats 1000000
namespace L2
open PySem PySem.Spec PyProof.Rows
section
variable {prog:Program} {w:World} {A:Around} {E:Wq} {s:Shared} {a:Addr}
def Q_(k:Str)(v:Value):Prop:=∃t,v= .str k t
def Qi(k:Nat)(v:Value):Prop:=∃t,v= .int (k:Int) t
theorem AW:pL prog w Str Q_ (fun h a σ=>∃es ep t,SV prog w h a σ es ep t) (fun σ _=>σ.length < 1000) where
 new:=fun _ _ e=>⟨_,_,_,TU e⟩
 keep:=fun _ _ _ _ ⟨es,ep,t,S⟩ hk=>⟨es,ep,t,S.at hk⟩
 add:=fun _ _ _ _ _ _ _ _ ⟨es,ep,t,S⟩ ⟨tk,e⟩ hl hq=>by
  subst e;exact S.add hl fun b h' xK FJ t' sb S'=>hq b h' sb ⟨xK,FJ,t',S'⟩
theorem DN{σ:List Nat}{es:Array (Int × Value)}{ep m n:Nat}{led:Bool}{t:Tok}{Q:Bool->Shared->Prop}(S:SI s.heap a led σ es ep m)(hn:n < 32)(JX:n∈σ)(hl:σ.length<=4)
 (hq:∀b,Q b {s with heap:=s.heap,toks:=s.toks+1}):wpAny (model prog w) A (setAdd a (.int n t)) Q E s:=by
 have hsz:=S.size;have hf:=S.fits hl;have hel:ElemsOf (intKind prog w) es.toList:=S.elems;have hb:es.size < scanBound:=by unfold scanBound;omega
 have hkey:(intKind prog w).is (n:Int) (.int n t)=true:=intKind_is _ _ _ _;obtain⟨e,he,hek⟩:∃e∈es.toList,(intKind prog w).is (n:Int) e.2=true:=by
  have hm:((n:Nat):Int)∈es.toList.map (·.1):=S.prm.mem_iff.mpr (List.mem_map_of_mem (f:=fun k:Nat=>(k:Int)) JX)
  obtain⟨e,he,e1⟩:=List.mem_map.mp hm;obtain⟨k,u,hk,rfl⟩:=S.el e he;have e1:(k:Int)=(n:Int):=e1;refine⟨_,he,?_⟩;show(intKind prog w).is (n:Int) (.int k u)=true;rw[e1];exact intKind_is _ _ _ _
 obtain⟨j,hj⟩:∃j,List.findIdx? (fun e:Int × Value=>(intKind prog w).is (n:Int) e.2) es.toList=some j:=by
  cases q:List.findIdx? (fun e:Int × Value=>(intKind prog w).is (n:Int) e.2) es.toList with
  | some j=>exact⟨j,rfl⟩
  | none=>have:=List.findIdx?_eq_none_iff.mp q e he;rw [hek] at this;cases this
 unfold setAdd;refine wpAny_holding (wpAny_bind ((intKind prog w).pyHash (k:=(n:Int)) hkey ?_));unfold setAddHashed setAddHashedIn;refine wpAny_holding (wpAny_bind (wpAny_setState_of (s:={s with toks:=s.toks+1}) S.get rfl hf ?_))
 dsimp only;rw[byScan_of (knd:=intKind prog w) (x:= .int n t) rfl hb hel];simp only[↓reduceIte];unfold setAddByScan;refine wpAny_bind ?_;refine wpAny_bind (wpAny_rule ?_);refine wpAny_bind (wpAny_setScan_of (knd:=intKind prog w) (s:={s with toks:=s.toks+1}) hkey S.get rfl hf hel ?_)
 rw[hj];dsimp only;exact wpAny_pure (wpAny_pure (hq _))
theorem Cv:pL prog w Nat Qi (fun h a σ=>σ.length<=4/\∃es ep m,SI h a (!me w) σ es ep m) (fun σ k=>k < 32/\(m5 σ k).length<=4) where
 new:=fun _ _ e=>⟨by simp,_,_,_,RZ e⟩
 keep:=fun _ _ _ _ ⟨h4,es,ep,m,S⟩ hk=>⟨h4,es,ep,m,S.at hk⟩
 add:=fun A E s a σ k v Q ⟨h4,es,ep,m,S⟩ ⟨tk,e⟩ ⟨MJ,hl⟩ hq=>by
  subst e;by_cases hk:k∈σ
  .have hd:m5 σ k=σ:=by unfold m5;rw [if_pos hk]
   refine DN S MJ hk h4 fun b=>hq b s.heap (Heap.SameBut.refl a s.heap) ?_
   rw[hd];exact⟨h4,es,ep,m,S⟩
  .have hd:m5 σ k=σ++[k]:=by unfold m5;rw [if_neg hk]
   rw[hd] at hl hq;rw[List.length_append,List.length_singleton] at hl;exact zM S MJ hk (by omega) fun h' xK m' sb S'=>hq true h' sb ⟨by rw[List.length_append];exact hl,xK,_,m',S'⟩
theorem xB{n:Nat}{P:Value->Prop}{OK:Heap->Prop}(K:JK prog w a n P OK)(nh:A.handled=none)(hok:OK s.heap)(We:n < 64)(hP:(∀v,P v->∃x t,v= .str x t)\/∀v,P v->∃i t,v= .int i t){Q:Wq}
 (q:∀(g:Heap) (dr) (tk c:Nat) (d:Addr) (out:Array Value),s.heap.objs.size<=d->(∀b o,s.heap.get? b=some o->g.get? b=some o)->g.get? d=some (seqObj "list" out c)->out.size=n->Q (.ref d) {s with heap:=g,drawn:=dr,toks:=tk}) :
 wpAny (model prog w) A (call (.builtin "sorted") [.ref a]) Q E s:=by
 have hz:sizeLine=16777216:=sizeLine_eq;refine Calls.call_function_entry kind_sorted plain_sorted entry_sorted (args_sorted1 _) ?_;unfold Builtin.«sorted»;refine wpAny_bind (m:=checkCount "sorted" 1 1 _) (wpAny_pure ?_);refine wpAny_bind (xh K nh hok (by omega) fun h' dr tk acc Vc RD wa=>?_)
 have hal:acc.toList.length=n:=by rw[Array.length_toList];exact wa.1
 have hPa:∀v∈acc.toList,P v:=fun v hv=>by
  obtain⟨j,hj⟩:=List.getElem?_of_mem hv;rw[Array.getElem?_toList] at hj;exact wa.2 j v hj
 refine wpAny_bind (wpAny_newList ?_ (by rw[hal];omega))
 have hoL:(h'.push (seqObj "list" acc.toList.toArray 0)).get? h'.objs.size=some (seqObj "list" acc.toList.toArray 0):=Heap.get?_push_size _ rfl;show wpAny _ _ _ _ _ {s with heap:=h'.push (seqObj "list" acc.toList.toArray 0),drawn:=dr,toks:=tk}
 have fin:∀out:Array Value,out.size=n->Q (.ref h'.objs.size) {s with heap:=sortedHeap (h'.push (seqObj "list" acc.toList.toArray 0)) h'.objs.size acc.toList out,drawn:=dr,toks:=tk}:=fun out ho=>by
  obtain⟨FJ,US⟩:=sortedHeap_at (out:=out) hoL;refine q _ dr tk FJ h'.objs.size out (Nat.le_of_lt Vc) (fun b o hb=>?_) (by simpa [seqObj] using US) ho
  have hlt:=Heap.lt_size (RD b o hb);rw[sortedHeap_old (Nat.ne_of_lt hlt) (by rw[size_push'];exact Nat.lt_succ_of_lt hlt)]
  exact Heap.get?_push_of_some _ (RD b o hb)
 rcases hP with hP | hP
 .have hS:=strsAre_map acc.toList fun v hv=>hP v (hPa v hv)
  refine wpAny_bind (wpAny_holding (wpAny_call_entry slot_list_sort ⟨_,hoL,rfl⟩ entry_list_sort (list_sort_treeK strKind_oneLt hoL hS.keysOf (fun v1 v2 r e=>by rw[e] at hS;exact keyKind_strs hS) (by omega) fun FE a1 a2=>⟨_,rfl,?_⟩) (args_list_sort _)))
  refine wpAny_pure ⟨_,rfl,fin _ ?_⟩;rw[Array.size_map,a1.size_eq,pairsOf_size,hal]
 .have hI:∃ns,IntsAre acc.toList ns:=by
   have:∀l:List Value,(∀v∈l,∃i t,v= .int i t)->∃ns,IntsAre l ns:=by
    intro l
    induction l with
    | nil=>exact fun _=>⟨[], .nil⟩
    | cons v l ih=>
      intro h;obtain⟨i,t,rfl⟩:=h v List.mem_cons_self;obtain⟨ns,hn⟩:=ih fun u hu=>h u (List.mem_cons_of_mem _ hu)
      exact⟨i ::ns, .cons i t hn⟩
   exact this _ fun v hv=>hP v (hPa v hv)
  obtain⟨ns,hI⟩:=hI;refine wpAny_bind (wpAny_holding (wpAny_call_entry slot_list_sort ⟨_,hoL,rfl⟩ entry_list_sort (list_sort_tree hoL hI (by omega) fun out Wf a1 a2 a3=>⟨_,rfl,?_⟩) (args_list_sort _)))
  refine wpAny_pure ⟨_,rfl,fin _ ?_⟩;have e1:=a1.length;have e2:=hI.length;have e3:=a2.length_eq;rw[Array.length_toList] at e1;omega
end
end L2
end
section
namespace L2
open PySem PySem.Spec PyProof.Rows
def strL?:List D->Option (List Str)
 | []=>some []
 | .str x ::ds=>(strL? ds).map (x ::·)
 | _ ::_=>none
theorem vH:∀ss:List Str,strL? (ss.map .str)=some ss
 | []=>rfl
 | x ::ss=>by show(strL? (ss.map .str)).map (x ::·)=_;rw [vH ss];rfl
def u6(f:FD):FD:=fun δ=>(f δ).bind fun d=>match d with
 | .lst ds=>(match strL? ds with
   | some ss=>R.aS (decide (ss.length < 60)) (.ok (.int ((kW ss).length:Nat)))
   | none=>(match ints? ds with
     | some zs=>R.aS (decide (zs.length < 60) && (zs.all (fun z=>decide (0<=z/\z < 32)) && decide ((kW (zs.map Int.toNat)).length<=4))) (.ok (.int ((kW (zs.map Int.toNat)).length:Nat)))
     | none=> .no))
 | _=> .no
theorem Gj{α:Type} [DecidableEq α]:∀(zs σ:List α),σ.length<=(zs.foldl m5 σ).length
 | [],σ=>Nat.le_refl _
 | y ::zs,σ=>by
   rw[List.foldl_cons];refine Nat.le_trans ?_ (Gj zs _);unfold m5;split
   .exact Nat.le_refl _
   .rw [List.length_append];exact Nat.le_add_right _ _
theorem IA{α:Type} [DecidableEq α]{ks:List α}{i:Nat}{k:α}(h:ks[i]? =some k):(m5 (kW (ks.take i)) k).length<=(kW ks).length:=by
 have e:ks=ks.take (i+1)++ks.drop (i+1):=(List.take_append_drop _ _).symm;have e2:m5 (kW (ks.take i)) k=kW (ks.take (i+1)):=by rw[<-vI,List.take_add_one,h];rfl
 rw[e2]
 conv=>rhs;rw [e]
 unfold kW;rw[List.foldl_append];exact Gj _ _
theorem vg{K:W.Frag}{B:List Addr}:∀{ds:List D} {ss:List Str} {xs:List V} {us:List Value},strL? ds=some ss->aD K B H ds xs->Vals xs us->us.length=ss.length/\∀(i:Nat) (v:Value) (k:Str),us[i]? =some v->ss[i]? =some k->Q_ k v
 | [],ss,xs,us,h,r,rv=>by
   cases h;subst r;cases rv;exact⟨rfl,fun i v k h=>by simp at h⟩
 | .str x ::ds,ss,xs,us,h,r,rv=>by
   obtain⟨OH,h1,rfl⟩:=L3.dN (show(strL? ds).map (x ::·)=some ss from h)
   obtain⟨y,ys,rfl,r1,r2⟩:=r.b9;cases rv with
   | cons u0 rv=>
     rename_i u us';obtain⟨h2,h3⟩:=vg h1 r2 rv;refine⟨by rw[List.length_cons,List.length_cons,h2],fun i v k a b=>?_⟩
     cases i with
     | zero=>
       simp only[List.getElem?_cons_zero,Option.some.injEq] at a b;subst a b;rw[Rep.str.mp r1] at u0;exact u0
     | succ i=>
       rw[List.getElem?_cons_succ] at a b;exact h3 i v k a b
 | .int _ ::_,_,_,_,h,_,_=>by cases h
 | .cI ::_,_,_,_,h,_,_=>by cases h
 | .bl _ ::_,_,_,_,h,_,_=>by cases h
 | .lst _ ::_,_,_,_,h,_,_=>by cases h
 | .tup _ ::_,_,_,_,h,_,_=>by cases h
 | .dct _ _ ::_,_,_,_,h,_,_=>by cases h
theorem B8{zs:List Int}{us:List Value}(h:IntsAre us zs)(h0:∀z∈zs,0<=z/\z < 32)(i:Nat)(v:Value)(k:Nat)(hv:us[i]? =some v)(hk:(zs.map Int.toNat)[i]? =some k):Qi k v:=by
 obtain⟨t,ht⟩:=IntsAre.int_at h i v hv;rw[List.getElem?_map] at hk;obtain⟨z,hz,rfl⟩:=L3.dN hk;refine⟨t,?_⟩;rw[ht,List.getD_eq_getElem?_getD,hz];have:=h0 z (List.mem_of_getElem? hz);show Value.int z t=Value.int ((z.toNat:Nat):Int) t;rw[Int.toNat_of_nonneg this.1]
section
variable {X:Cx}
theorem zh{pins:Wo}{σ:List (Option V)}{s:Shared}(I:Inv X pins σ H s)(d:Drawn):Inv X pins σ H {s with drawn:=d}:=⟨I.ok,I.os,I.bare,I.base,I.loc,I.cell,I.free,I.freeC,I.pin,I.hok,I.len⟩
theorem Ep{e:Expr}{f:FD}{p0 p1 p2 q0 q1 q2:Pos}(UG:X.mg "len"=none)(U0:X.mg "sorted"=none)(Uy:X.mg "set"=none)(h:QD X e f)(hc:X.calm=true:=by rfl)(UC:Gl X "len":=by rfl)(Ph:Gl X "sorted":=by rfl)(FN:Gl X "set":=by rfl)
 (Rt:starEach [.Call (.Name "sorted" p1) [.Call (.Name "set" p2) [e] [] q2] [] q1] X.env=(false,eval (.Call (.Name "sorted" p1) [.Call (.Name "set" p2) [e] [] q2] [] q1) X.env) ::starEach [] X.env:=by rfl)
 (Rx:starEach [.Call (.Name "set" p2) [e] [] q2] X.env=(false,eval (.Call (.Name "set" p2) [e] [] q2) X.env) ::starEach [] X.env:=by rfl)
 (RE:starEach [e] X.env=(false,eval e X.env) ::starEach [] X.env:=by rfl) (n0:(backTo q0 (starEach [] X.env)).any (·.1)=false:=by rfl) (n1:(backTo q1 (starEach [] X.env)).any (·.1)=false:=by rfl) (n2:(backTo q2 (starEach [] X.env)).any (·.1)=false:=by rfl) :
 QD X (.Call (.Name "len" p0) [.Call (.Name "sorted" p1) [.Call (.Name "set" p2) [e] [] q2] [] q1] [] q0) (u6 f):=by
 refine⟨?_⟩;intro pins s σ H Q I ⟨Z,B,δ,d,En,hf,q⟩;unfold u6 at hf;obtain⟨d1,h1,h2⟩:=R.aj hf;cases d1 with
 | lst ds=>
   simp only at h2
   suffices hs:∃m:Nat,d= .int (m:Nat)/\m < 60/\(∀(s1:Shared) (H1:Hp) (I1:Inv X pins σ H1 s1) (a:Addr) (xs:List V),sW X.K B H1 a xs->aD X.K B H1 ds xs->∀(A:Around) (E:Wq) (Q2:Wq),A.handled=none->
    (∀g tk (P:Value->Prop) (OK:Heap->Prop),JK X.prog X.w s1.heap.objs.size m P OK->OK g->((∀v,P v->∃x t,v= .str x t)\/∀v,P v->∃i t,v= .int i t)->(∀b o,s1.heap.get? b=some o->g.get? b=some o)->Q2 (.ref s1.heap.objs.size) {s1 with heap:=g,toks:=tk})->
    wpAny (model X.prog X.w) A (call (.type "set") [.ref a]) Q2 E s1) by
    obtain⟨m,hd,hm,hset⟩:=hs;subst hd;refine wpAny_Call_Name_kw (gA I UC UG boot_len ?_);refine PyProof.Rows.callWith_builtin1 ?_ Rt n0;rw[Rt];show wpAny _ _ (spliced ((false,eval (.Call (.Name "sorted" p1) [.Call (.Name "set" p2) [e] [] q2] [] q1) X.env) ::[])) _ _ s;refine Calls.spliced_cons (wpAny_Call_Name_kw (gA I Ph U0 boot_sorted ?_));refine PyProof.Rows.callWith_builtin1 ?_ Rx n1;rw[Rx];show wpAny _ _ (spliced ((false,eval (.Call (.Name "set" p2) [e] [] q2) X.env) ::[])) _ _ s;refine Calls.spliced_cons (wpAny_Call_Name_kw (gA I FN Uy PyProof.Rows.boot_set ?_));refine PyProof.Rows.callWith_type1 ?_ RE n2;rw[RE];show wpAny _ _ (spliced ((false,eval e X.env) ::[])) _ _ s;refine Calls.spliced_cons (di (h.1 pins s σ H _ I ⟨Z,B,δ, .lst ds,En,h1,fun v H1 s1 r1=>(⟨s1,r1⟩:aU H H1/\Rep X.K B H1 (.lst ds) v)⟩) fun u s1 ⟨v,H1,I1,ru,sm,rp⟩=>?_)
    refine Calls.spliced_nil ?_;obtain⟨a,xs,rfl,l,rs⟩:=Rep.lst.mp rp;cases ru;refine hset s1 H1 I1 a xs l rs _ _ _ (I1.ok.hd hc) fun g tk P OK K hok hP kp=>?_
    refine Calls.spliced_nil ?_;refine xB (s:={s1 with heap:=g,toks:=tk}) K (I1.ok.hd hc) hok (by omega) hP fun g2 dr Rj c d2 out hd2 U4 xJ hsz=>?_
    refine Calls.spliced_nil ?_;have hl:({s1 with heap:=g2,drawn:=dr,toks:=Rj}:Shared).heap.IsList d2 out:=⟨_,xJ,rfl,c,rfl⟩
    refine Calls.call_len_list hl (by rw[hsz];omega) ?_
    rw[hsz];refine⟨.int (m:Nat),H1,?_,⟨_,rfl⟩,q _ _ sm (Rep.int.mpr rfl)⟩;exact zh (I1.kept (t':=Rj+1+1) fun b o e=>U4 b o (kp b o e)) dr
   cases hs:strL? ds with
   | some ss=>
     rw[hs] at h2;obtain⟨hl,h3⟩:=R.aX h2;have hl:=of_decide_eq_true hl;cases h3;have hdl:=pK ss;refine⟨_,rfl,by omega,fun s1 H1 I1 a xs l rs A E Q2 nh fin=>?_⟩
     obtain⟨its,n,rv,e1,hz⟩:=I1.Dk l;obtain⟨v1,v2⟩:=vg hs rs rv;have hil:s1.heap.IsList a its.toArray:=⟨_,e1,rfl,n,rfl⟩;refine oI AW (ks:=ss) nh hil (fun i v k hv hk=>v2 i v k (by simpa using hv) hk) (by simpa using v1) (fun i k hk=>?_) fun g tk ⟨es,ep,t,S⟩ kp=>?_
     .have:=pK (ss.take i);rw[List.length_take] at this;omega
     .have hes:es.size=(kW ss).length:=S.len;have K:=IQ (prog:=X.prog) (w:=X.w) (a:=s1.heap.objs.size) (σ:=kW ss) (es:=es) (ep:=ep) (t:=t) (by omega)
      rw[hes] at K;refine fin g tk _ _ K S (.inl fun v ⟨e,he,hv⟩=>?_) kp
      obtain⟨⟨k,hk,_⟩,_⟩:=S.el e he;obtain⟨tt,ht⟩:=Value.isStrOf_shape hk;exact⟨k,tt,by rw[hv,ht]⟩
   | none=>
     rw[hs] at h2;simp only at h2;cases hi:ints? ds with
     | none=>rw [hi] at h2;cases h2
     | some zs=>
       rw[hi] at h2;obtain⟨hl,h3⟩:=R.aX h2;rw[Bool.and_eq_true,Bool.and_eq_true,decide_eq_true_eq,decide_eq_true_eq,List.all_eq_true] at hl;obtain⟨Gy,Ad,Pd⟩:=hl;have h0:∀z∈zs,0<=z/\z < 32:=fun z hz=>of_decide_eq_true (Ad z hz)
       cases h3;refine⟨_,rfl,by omega,fun s1 H1 I1 a xs l rs A E Q2 nh fin=>?_⟩
       obtain⟨its,n,rv,e1,hz⟩:=I1.Dk l;rw[dO rs hi] at rv;have ia:=vA rv;have hil:s1.heap.IsList a its.toArray:=⟨_,e1,rfl,n,rfl⟩;refine oI Cv (ks:=zs.map Int.toNat) nh hil (fun i v k hv hk=>B8 ia h0 i v k (by simpa using hv) hk) (by rw[List.length_map];simpa using ia.length) (fun i k hk=>⟨?_,Nat.le_trans (IA hk) Pd⟩) fun g tk ⟨h4,es,ep,m,S⟩ kp=>?_
       .rw [List.getElem?_map] at hk;obtain⟨z,hz,rfl⟩:=L3.dN hk;have:=h0 z (List.mem_of_getElem? hz);omega
       .have hes:=S.size;have K:=Hs (prog:=X.prog) (w:=X.w) (a:=s1.heap.objs.size) (es:=es) (ep:=ep) (m:=m) h4;rw[hes] at K;refine fin g tk _ _ K S (.inr fun v ⟨e,he,hv⟩=>?_) kp
        obtain⟨k,u,_,rfl⟩:=S.el e he;exact⟨k,u,hv⟩
 | _=>cases h2
end
end L2
end
section
set_option maxHeartbeats 4000000
namespace NT
def mx(f:Nat->Nat)(w:List Nat):Nat:=(w.map f).foldl max 0
structure BA (f:Nat->Nat) (M:Nat) (bs:List Int):Prop where
 a:∀(z:Nat) (v:Int),bs[z]? =some v->v= -1\/(0<=v/\v+f z<=M)
def BB(f:Nat->Nat)(M:Nat)(bs:List Int)(n:Nat):Prop:=∃(z:Nat) (v:Int),z < n/\bs[z]? =some v/\0<=v/\(M:Int)<=v+f z
def Up(bs Ru:List Int):Prop:=Ru.length=bs.length/\∀(z:Nat) (v:Int),bs[z]? =some v->∃v',Ru[z]? =some v'/\v<=v'
end NT
namespace NT
open PySem PySem.Spec PyProof.Rows L2 L3
structure Gt where
 k:Str
 w:List Nat
 s:Bool
def nN(z:Nat):D:= .int z
def wN(w:List Nat):D:= .tup (w.map nN)
def gN(g:Gt):D:= .tup [.str g.k,wN g.w, .bl g.s]
def iN(x:Str × Nat):D:= .tup [.str x.1, .int x.2]
def oN(x:Str × List Nat):D:= .tup [.str x.1,wN x.2]
structure Net where
 i:Wr
 g:List Gt
 o:Ws
def Net.d(n:Net):D:= .tup [.lst (n.i.map iN), .lst (n.g.map gN), .lst (n.o.map oN)]
def Net.first(n:Net):Nat:=(n.i.map (·.2)).sum
structure Qe (n:Nat) (w:List Nat):Prop where
 ne:w≠[]
 le:w.length<=3
 lt:∀z∈w,z < n
structure Net.Ok (n:Net):Prop where
 i1:1<=n.i.length
 i6:n.i.length<=6
 iw:∀x∈n.i,1<=x.2/\x.2<=3
 is:∀x∈n.i,dH 0 (.str x.1)
 g60:n.g.length<=60
 gw:∀(p:Nat) (g:Gt),n.g[p]? =some g->Qe (n.first+p) g.w
 gs:∀g∈n.g,dH 0 (.str g.k)
 o1:1<=n.o.length
 o6:n.o.length<=6
 ow:∀x∈n.o,Qe (n.first+n.g.length) x.2
 os:∀x∈n.o,dH 0 (.str x.1)
inductive Sm:Nat->D->Prop where
 | int (n:Nat) (i:Int):Sm n (.int i)
 | bl (n:Nat) (b:Bool):Sm n (.bl b)
 | str (n:Nat) (s:Str):Sm n (.str s)
 | lst {n:Nat} {ds:List D} (h:∀d∈ds,Sm n d) (hl:ds.length<=1000000):Sm (n+1) (.lst ds)
 | tup {n:Nat} {ds:List D} (h:∀d∈ds,Sm n d) (hl:ds.length<=1000000):Sm (n+1) (.tup ds)
theorem jT{F G:FS}{δ:au}{d:D}(h:F δ= .ok (.rt d)):cF F G δ= .ok (.rt d):=by unfold cF;rw [h];rfl
theorem eT{α:Type}{l:List α}{f:α->D}{i:Nat}{v:V3}(h:((l.map f).map V3.d)[i]? =some v):∃x,l[i]? =some x/\v= .d (f x):=by
 rw[List.getElem?_map,List.getElem?_map] at h;cases q:l[i]? with
 | none=>rw [q] at h;cases h
 | some x=>rw [q] at h;cases h;exact⟨x,rfl,rfl⟩
theorem Fp{α:Type}{l:List α}{f:α->D}{i:Nat}{v:D}(h:(l.map f)[i]? =some v):∃x,l[i]? =some x/\v=f x:=by
 rw[List.getElem?_map] at h;cases q:l[i]? with
 | none=>rw [q] at h;cases h
 | some x=>rw [q] at h;cases h;exact⟨x,rfl,rfl⟩
theorem bu{α:Type}{t:FT}{c:au->R Bool}{f:FD}{δ:au}(a b:α->D):∀{xs:List α},(∀x∈xs,∃δ1,t (a x) δ= .ok δ1/\c δ1= .ok true/\f δ1= .ok (b x))->nj t c f δ (xs.map a)= .ok (xs.map b)
 | [],_=>rfl
 | x ::xs,h=>by
   obtain⟨δ1,h1,h2,h3⟩:=h x List.mem_cons_self;have ih:=bu (δ:=δ) a b fun y hy=>h y (List.mem_cons_of_mem _ hy)
   rw[List.map_cons];unfold nj;rw[h1,R.aK,h2,R.aK,if_pos rfl,h3,R.aK,ih];rfl
theorem mH{α:Type}{t:FT}{c:au->R Bool}{f:FD}{δ:au}(p:α->Bool)(a b:α->D):∀{xs:List α},(∀x∈xs,∃δ1,t (a x) δ= .ok δ1/\c δ1= .ok (p x)/\(p x=true->f δ1= .ok (b x)))->nj t c f δ (xs.map a)= .ok ((xs.filter p).map b)
 | [],_=>rfl
 | x ::xs,h=>by
   obtain⟨δ1,h1,h2,h3⟩:=h x List.mem_cons_self;have ih:=mH (δ:=δ) p a b fun y hy=>h y (List.mem_cons_of_mem _ hy)
   rw[List.map_cons];unfold nj;rw[h1,R.aK,h2,R.aK];cases e:p x with
   | true=>rw [if_pos rfl,h3 e,R.aK,ih,List.filter_cons,if_pos e];rfl
   | false=>rw [if_neg (by decide),ih,List.filter_cons,if_neg (by rw[e];decide)]
theorem Em{n z:Nat}(h:z < n):Dc n (z:Int)=some z:=by
 unfold Dc;rw[if_pos (by omega),if_pos (by omega)]
 simp
theorem AJ{α:Type}{xs:List α}{z:Nat}{x:α}(h:xs[z]? =some x):rF xs (z:Int)=some x:=by
 have hl:=(List.getElem?_eq_some_iff.mp h).1;unfold rF;rw[Em hl];exact h
theorem cM{ds:List D}{z:Nat}{x:D}(h:ds[z]? =some x):br (.lst ds) (.int z)= .ok x:=IW (AJ h)
end NT
end
section
namespace MT
open PySem PySem.Spec PyProof.Rows L2 L3
abbrev M:=Nat->Bool
def Qp:Nat->M->Nat
 | 0,_=>0
 | N+1,f=>(if f 0 then 1 else 0)+2*Qp N (fun i=>f (i+1))
def mI(N:Nat)(f:M):D:= .int (Qp N f:Nat)
def one:M:=fun _=>true
def bI(b:Bool):D:= .int (if b then 1 else 0)
def RO:List Bool->Nat
 | []=>0
 | b ::bs=>(if b then 1 else 0)+2*RO bs
def nI(n:Nat):D:= .int (n:Int)
def kS:Nat->Str | 0=>"not" | 1=>"and" | 2=>"or" | 3=>"xor" | _=>"vote"
def ar:Nat->Nat | 0=>1 | 4=>3 | _=>2
theorem yt(k:Nat):ar k<=3:=by unfold ar;split <;> omega
def gv:Nat->List Bool->Bool
 | 0,[a]=>!a
 | 1,[a,b]=>a && b
 | 2,[a,b]=>a || b
 | 3,[a,b]=>a !=b
 | 4,[a,b,c]=>(a && b) || (a && c) || (b && c)
 | _,_=>false
def Qb(ws:List M)(n:Nat):M:=ws.getD n fun _=>false
abbrev Gt:=Nat × List Nat × Bool
def gZ(g:Gt):D:= .tup [.str (kS g.1), .tup (g.2.1.map nI), .bl g.2.2]
def Fj(n:Nat)(g:Gt):Prop:=g.1<=4/\g.2.1.length=ar g.1/\∀w∈g.2.1,w < n
def inD(x:Str × Nat):D:= .tup [.str x.1,nI x.2]
def fZ(x:Str × List Nat):D:= .tup [.str x.1, .tup (x.2.map nI)]
def aF(ins:Wr)(gs:List Gt)(os:Ws):D:= .tup [.lst (ins.map inD), .lst (gs.map gZ), .lst (os.map fZ)]
def b_(ins:Wr):Nat:=(ins.map (·.2)).sum
def gF(g:Gt)(ws:List M):M:=fun p=>gv g.1 (g.2.1.map fun n=>Qb ws n p)
def CC(bad:List Int)(b:M):Nat->List M->List M
 | 0,ws=>ws
 | n+1,ws=>CC bad b n ws++[fun p=>b p !=bad.contains ((CC bad b n ws).length:Int)]
def IH(ins:Wr)(bits:List M)(bad:List Int):Nat->List M
 | 0=>[]
 | i+1=>match ins[i]?,bits[i]? with | some x,some b=>CC bad b x.2 (IH ins bits bad i) | _,_=>IH ins bits bad i
def Mo(gs:List Gt)(turned:List Int)(w0:List M):Nat->List M
 | 0=>w0
 | i+1=>match gs[i]? with | some g=>Mo gs turned w0 i++[fun p=>gF g (Mo gs turned w0 i) p !=turned.contains (i:Int)] | none=>Mo gs turned w0 i
structure kr (ins:Wr) (gs:List Gt) (os:Ws):Prop where
 hi:ins.length < 100
 hw:∀x∈ins,x.2 < 100
 hg:gs.length < 1000
 g:∀(i:Nat) (x:Gt),gs[i]? =some x->Fj (b_ ins+i) x
 ho:os.length < 1000
 o:∀x∈os,x.2.length < 1000/\∀w∈x.2,w < b_ ins+gs.length
def RL(ins:Wr)(gs:List Gt)(bits:List M)(turned bad:List Int):List M:=Mo gs turned (IH ins bits bad ins.length) gs.length
theorem qX:∀{l:Wr},(∀x∈l,x.2 < 100)->b_ l<=100*l.length
 | [],_=>by simp [b_]
 | x ::l,h=>by
   have ih:=qX fun y hy=>h y (List.mem_cons_of_mem _ hy)
   have:=h x List.mem_cons_self;unfold b_ at ih ⊢;rw[List.map_cons,List.sum_cons,List.length_cons];omega
def tell(ws:List M)(x:Str × List Nat):List M:=x.2.map (Qb ws)
def VU:List Bool->Bool × Bool
 | [a]=>(!a,a)
 | [a,b]=>(!(a || b),a && b)
 | [a,b,c]=>let v:=(a && b) || (a && c) || (b && c);(!v,v)
 | _=>(false,false)
def brk(safe:Bool)(x y:Bool × Bool):Bool:=if safe then(x.1 && y.2) || (x.2 && y.1) else(x.1 !=y.1) || (x.2 !=y.2)
theorem D0{ds:List D}{i:Nat}{v:V3}(h:((gq ds).map V3.d)[i]? =some v):∃d,ds[i]? =some d/\v= .d (.tup [.int i,d]):=by
 rw[List.getElem?_map,gq,List.getElem?_map,List.getElem?_zipIdx] at h;cases q:ds[i]? with
 | none=>rw [q] at h;cases h
 | some d=>
   rw[q] at h;simp at h;exact⟨d,rfl,h.symm⟩
theorem gr(S:aZ)(x y:SO):(S++[x]).set S.length y=S++[y]:=by
 rw[List.set_append_right _ _ (Nat.le_refl _),Nat.sub_self];rfl
theorem cD(S:aZ)(x:SO):(S++[x])[S.length]? =some x:=by rw[List.getElem?_append_right (Nat.le_refl _),Nat.sub_self];rfl
theorem mF{α:Type}{t:FT}{body:FS}(g:α->D)(f:α->Option D)(E:au->Prop):∀{xs:List α} {δ:au},E δ->
 (∀x∈xs,∀δ,E δ->∃o,((t (g x) δ).bind body)= .ok o/\(match f x with | some v=>o= .rt v | none=>∃dX,o= .nx dX/\E dX))->
 ∃o,ml t body (xs.map g) δ= .ok o/\(match xs.findSome? f with | some v=>o= .rt v | none=>∃dX,o= .nx dX/\E dX)
 | [],δ,h0,_=>⟨_,rfl,δ,rfl,h0⟩
 | x ::xs,δ,h0,hs=>by
   obtain⟨o,e2,h2⟩:=hs x List.mem_cons_self δ h0;rw[List.map_cons];unfold ml;cases e3:t (g x) δ with
   | no=>rw [e3] at e2;cases e2
   | ex _=>rw [e3] at e2;cases e2
   | ok δ1=>
     rw[e3,R.aK] at e2;rw[R.aK,e2,R.aK,List.findSome?_cons];cases hf:f x with
     | some v=>rw [hf] at h2;subst h2;exact⟨_,rfl,rfl⟩
     | none=>
       rw[hf] at h2;obtain⟨dX,rfl,h2⟩:=h2;exact mF g f E h2 fun y hy=>hs y (List.mem_cons_of_mem _ hy)
def RJ:List Nat->Nat->Wt
 | _,0=>[[]]
 | ps,s+1=>(List.range ps.length).flatMap fun a=>(RJ (ps.drop (a+1)) s).map (ps.getD a 0 ::·)
end MT
end
section
set_option maxHeartbeats 1000000
namespace JT
open PySem PySem.Spec PyProof.Rows L2 L3 MT
def gB(g:Gt)(ws:List Bool):Bool:=gv g.1 (g.2.1.map fun n=>ws.getD n false)
def tK:List Gt->(Nat->Bool)->List Bool->List Bool
 | [],_,ws=>ws
 | g ::gs,T,ws=>tK gs (fun i=>T (i+1)) (ws++[gB g ws !=T 0])
def kZ(f:Nat->Nat)(g:Gt):Gt:=(g.1,g.2.1.map f,g.2.2)
def iU(f:Nat->Nat)(x:Str × List Nat):Str × List Nat:=(x.1,x.2.map f)
def Sh(f:Nat->Nat)(v ws:List Bool):Prop:=∀w,w < v.length->f w < ws.length/\ws.getD (f w) false=v.getD w false
def VE(p:Nat)(ws:List M):List Bool:=ws.map (· p)
def uA:List (Str × Nat)->List Bool->List Bool
 | x ::ins,b ::bits=>List.replicate x.2 b++uA ins bits
 | _,_=>[]
def CD(k:Nat)(bad:Nat->Bool):List Bool->List Bool
 | []=>[]
 | b ::bs=>(b !=bad k) ::CD (k+1) bad bs
def Ng(ins:Wr)(gs:List Gt)(bits:List Bool)(T bad:Nat->Bool):List Bool:=tK gs T (CD 0 bad (uA ins bits))
end JT
end
section
namespace JT
open PySem PySem.Spec PyProof.Rows L2 L3 MT
def ve(ws:List Bool)(ns:List Nat):List Bool:=ns.map fun n=>ws.getD n false
def As(f:Nat->List Bool):List (Option Nat × Nat)->List Bool->List Bool
 | [],_=>[]
 | (some o,_) ::r,l=>f o++As f r l
 | (none,w) ::r,l=>l.take w++As f r (l.drop w)
def dM(f1:Nat->Nat)(os:Nat->List Nat):List (Option Nat × Nat)->Nat->List Nat
 | [],_=>[]
 | (some o,_) ::r,free=>(os o).map f1++dM f1 os r free
 | (none,w) ::r,free=>List.range' free w++dM f1 os r (free+w)
def bC:List (Option Nat × Nat)->Nat
 | []=>0
 | (some _,_) ::r=>bC r
 | (none,w) ::r=>w+bC r
theorem nk{f1:Nat->Nat}{os:Nat->List Nat}:∀(φ:List (Option Nat × Nat)) (free:Nat),(∀o w,(some o,w)∈φ->(os o).length=w)->(dM f1 os φ free).length=(φ.map (·.2)).sum
 | [],_,_=>rfl
 | (some o,w) ::r,free,h=>by
   unfold dM;rw[List.length_append,List.length_map,h o w List.mem_cons_self,nk r free fun o w hh=>h o w (List.mem_cons_of_mem _ hh),List.map_cons,List.sum_cons]
 | (none,w) ::r,free,h=>by
   unfold dM;rw[List.length_append,List.length_range',nk r (free+w) fun o w hh=>h o w (List.mem_cons_of_mem _ hh),List.map_cons,List.sum_cons]
def HY(n1 l w:Nat):Nat:=if w < n1 then w else w+l
def Kb(L:List Nat)(top w:Nat):Nat:=if w < L.length then L.getD w 0 else top+(w - L.length)
section
variable {gs1 gs2:List Gt} {φ:List (Option Nat × Nat)} {os:Nat->List Nat} {n1:Nat} {r1 rl:List Bool} {T:Nat->Bool}
def gJ(gs1 gs2:List Gt)(φ:List (Option Nat × Nat))(os:Nat->List Nat)(n1:Nat):List Gt:=
 gs1.map (kZ (HY n1 (bC φ)))++gs2.map (kZ (Kb (dM (HY n1 (bC φ)) os φ n1) (n1+bC φ+gs1.length)))
end
def JO(bits:List Bool):List Bool:=bits.flatMap (List.replicate 3)
def P6:List Bool->Bool
 | [a,b,c]=>(a && b) || (a && c) || (b && c)
 | _=>false
def Q7:List Bool->Bool
 | [a,b,c]=>(a !=b) || (a !=c)
 | _=>false
def Uj(xs ys:List Bool):List Bool:=List.zipWith (· !=·) xs ys
def lst(xs ys:List Bool):Bool:=P6 (Uj xs ys)
def Kl:List Bool->List Bool->Prop
 | [],r=>r=[]
 | b ::bs,r=>∃x y z r',r=x ::y ::z ::r'/\P6 [b !=x,b !=y,b !=z]=false/\Kl bs r'
def no:Nat->Bool:=fun _=>false
structure RK (c:Nat) (gs:List Gt) (os:Ws):Prop where
 a:∀bits:List Bool,bits.length=c->∀x∈os,Q7 (ve (tK gs no (JO bits)) x.2)=false
 b:∀bits:List Bool,bits.length=c->∀i g,gs[i]? =some g->g.2.2=false->∀x∈os,lst (ve (tK gs no (JO bits)) x.2) (ve (tK gs (fun j=>j==i) (JO bits)) x.2)=false
 c:∀bits row:List Bool,bits.length=c->Kl bits row->∀x∈os,lst (ve (tK gs no (JO bits)) x.2) (ve (tK gs no row) x.2)=false
def yS(v:Nat->Bool):List (Option Nat × Nat)->List Bool->List Bool
 | [],_=>[]
 | (some o,_) ::r,l=>v o ::yS v r l
 | (none,_) ::r,l=>l.headD false ::yS v r l.tail
def many:List (Option Nat × Nat)->Nat
 | []=>0
 | (some _,_) ::r=>many r
 | (none,_) ::r=>many r+1
end JT
end
section
namespace JT
open PySem PySem.Spec PyProof.Rows L2 L3 MT
structure VW (c1:Nat) (gs1 gs2:List Gt) (os1 bB:Ws) (φ:List (Option Nat × Nat)) (os:Nat->List Nat):Prop where
 h3:∀x∈φ,x.2=3
 g1:∀i g,gs1[i]? =some g->∀w∈g.2.1,w < 3*c1+i
 g2:∀i g,gs2[i]? =some g->∀w∈g.2.1,w < 3*φ.length+i
 o1:∀x∈os1,x.2.length=3/\∀n∈x.2,n < 3*c1+gs1.length
 o2:∀x∈bB,x.2.length=3/\∀n∈x.2,n < 3*φ.length+gs2.length
 ho:∀o w,(some o,w)∈φ->∃x∈os1,x.2=os o
section
variable {c1:Nat} {gs1 gs2:List Gt} {os1 bB RA:Ws} {φ:List (Option Nat × Nat)} {os:Nat->List Nat}
abbrev Rb(c1:Nat)(φ:List (Option Nat × Nat)):Nat->Nat:=HY (3*c1) (bC φ)
abbrev Tr(c1:Nat)(gs1:List Gt)(φ:List (Option Nat × Nat))(os:Nat->List Nat):Nat->Nat:=Kb (dM (Rb c1 φ) os φ (3*c1)) (3*c1+bC φ+gs1.length)
def Q0(c1:Nat)(gs1:List Gt)(os1 bB RA:Ws)(φ:List (Option Nat × Nat))(os:Nat->List Nat):Prop:=
 ∀x∈RA,(∃y∈os1,x.2=y.2.map (Rb c1 φ))\/∃y∈bB,x.2=y.2.map (Tr c1 gs1 φ os)
end
end JT
end
section
namespace JT
open PySem PySem.Spec PyProof.Rows L2 L3 MT
def AB:Nat->List (List Bool)
 | 0=>[[]]
 | c+1=>(AB c).flatMap fun b=>[b++[false],b++[true]]
def R0(c j:Nat):M:=fun p=>((AB c).getD p []).getD j false
def R9(c:Nat):List M:=(List.range c).map (R0 c)
def F_(c p:Nat):List Bool:=(AB c).getD p []
def PM(f e:Nat):Nat->Wt
 | 0=>[[]]
 | m+1=>(List.range' f (e - f)).flatMap fun w=>(PM ((w / 3+1)*3) e m).map (w ::·)
def TN(f e:Nat):List Nat->Prop
 | []=>True
 | w ::B=>f<=w/\w < e/\TN ((w / 3+1)*3) e B
def NG(c:Nat)(gs:List Gt):List (List Nat × List Nat):=
 (gs.zipIdx.filter (fun x=>!x.1.2.2)).map (fun x=>(([]:List Nat),[x.2]))++(List.range' 1 c).flatMap fun m=>(PM 0 (3*c) m).map fun B=>(B,([]:List Nat))
def BG(c:Nat)(gs:List Gt)(p:Nat):List Bool:=tK gs no (JO (F_ c p))
def Hh(c:Nat)(gs:List Gt)(f:List Nat × List Nat)(p:Nat):List Bool:=tK gs (fun i=>f.2.contains i) (CD 0 (fun n=>f.1.contains n) (JO (F_ c p)))
def MZ(c:Nat)(gs:List Gt)(os:Ws)(p:Nat):Bool:=os.any fun x=>Q7 (ve (BG c gs p) x.2)
def Lz(c:Nat)(gs:List Gt)(os:Ws)(f:List Nat × List Nat)(p:Nat):Bool:=os.any fun x=>lst (ve (BG c gs p) x.2) (ve (Hh c gs f p) x.2)
def M_(c:Nat)(gs:List Gt)(os:Ws):Option (List Nat × List Nat × Nat):=
 match (List.range (2 ^ c)).find? (MZ c gs os) with
 | some p=>some ([],[],p)
 | none=>(NG c gs).findSome? fun f=>((List.range (2 ^ c)).find? (Lz c gs os f)).map fun p=>(f.1,f.2,p)
end JT
end
section
namespace JT
open PySem PySem.Spec PyProof.Rows L2 L3 MT
theorem et{a b:Nat}(h:0 < b):du (nI a) (nI b)= .ok (nI (a % b)):=by
 show du (.int a) (.int b)=_;rw[pM (by omega)];rfl
theorem yB{a b:Nat}(h:0 < b)(h2:b < 1073741824):mi (nI a) (nI b)= .ok (nI (a / b)):=by
 show mi (.int a) (.int b)=_;rw[yz (by omega) (by omega)];rfl
theorem dh(a b:Nat):bH (nI a) (nI b)= .ok (nI (a+b)):=rfl
theorem uG{a b:Nat}(h:b<=a):oW (nI a) (nI b)= .ok (nI (a - b)):=by
 show R.ok (D.int ((a:Int) - b))=R.ok (D.int ((a - b:Nat):Int));rw[Int.ofNat_sub h]
theorem sQ{a b:Nat}(h:b < 1000000\/a < 1000000):kE (nI a) (nI b)= .ok (nI (a*b)):=by
 show R.aS (decide _) (R.ok (D.int ((a:Int)*b)))=_;have hc:(-(2 ^ 64) < (a:Int)/\(a:Int) < 2 ^ 64)\/(-(2 ^ 64) < (b:Int)/\(b:Int) < 2 ^ 64):=by
  rcases h with h | h
  .exact .inr ⟨by omega,by omega⟩
  .exact .inl ⟨by omega,by omega⟩
 rw[bW _ hc];rfl
theorem wQ(a b:Nat):rV (nI a) (nI b)= .ok (.bl (decide (a=b))):=by
 show R.ok (D.bl ((a:Int)==(b:Int)))=_;congr 2;by_cases h:a=b
 .rw [decide_eq_true h];exact beq_iff_eq.mpr (by omega)
 .rw [decide_eq_false h];exact beq_eq_false_iff_ne.mpr (by omega)
theorem xE(a b:Nat):rW (nI a) (nI b)= .ok (.bl (decide (b < a))):=by
 show R.ok (D.bl (decide ((a:Int) > (b:Int))))=_;congr 2;by_cases h:b < a
 .rw [decide_eq_true h,decide_eq_true (by omega)]
 .rw [decide_eq_false h,decide_eq_false (by omega)]
theorem GD(a b:Nat):Ge (nI a) (nI b)= .ok (.bl (decide (a < b))):=by
 show R.ok (D.bl (decide ((a:Int) < (b:Int))))=_;congr 2;by_cases h:a < b
 .rw [decide_eq_true h,decide_eq_true (by omega)]
 .rw [decide_eq_false h,decide_eq_false (by omega)]
theorem MX(a b:Nat):KY (nI a) (nI b)= .ok (.bl (decide (b<=a))):=by
 show R.ok (D.bl (decide ((a:Int)>=(b:Int))))=_;congr 2;by_cases h:b<=a
 .rw [decide_eq_true h,decide_eq_true (by omega)]
 .rw [decide_eq_false h,decide_eq_false (by omega)]
theorem F5{a b:Nat}:uW [nI a,nI b]= .ok (nI (min a b)):=by
 show EZ [.int a, .int b]=_;show R.ok (D.int (if(b:Int) < a then b else a))=_
 congr 2;split <;> omega
theorem cq{ds:List D}:bV [.lst ds]= .ok (nI ds.length):=rfl
theorem B7{ds:List D}:bV [.tup ds]= .ok (nI ds.length):=rfl
theorem jD{f:FD}{δ:au}{n:Nat}(h:f δ= .ok (nI n))(hn:n < 1000000):cx f δ= .ok ((List.range n).map nI):=by
 rw[yE h hn];congr 1;refine List.map_congr_left fun i _=>?_
 show D.int (0+(i:Int))=D.int (i:Int);rw[Int.zero_add]
def V2(T:List Nat):D:= .tup (T.map nI)
def kdN(r:Nat):Nat:=[1,2,3,4,0].getD (r % 5) 0
theorem GI(r:Nat):kdN r<=4:=by
 have:r % 5 < 5:=Nat.mod_lt _ (by omega)
 unfold kdN;generalize r % 5=m at this
 match m,this with
 | 0,_=>decide
 | 1,_=>decide
 | 2,_=>decide
 | 3,_=>decide
 | 4,_=>decide
theorem Lm{f:FD}{δ:au}{r:Nat}(h:f δ= .ok (nI r)):e2 br (eNew (cZ (af (eC (.str "and")) (af (eC (.str "or")) (af (eC (.str "xor")) (af (eC (.str "vote")) (af (eC (.str "not")) aA))))))) (e2 du f (eC (.int 5))) δ= .ok (.str (kS (kdN r))):=by
 have h5:r % 5 < 5:=Nat.mod_lt _ (by omega)
 refine av rfl (av (b:=nI 5) h rfl (et (by omega))) (NT.cM ?_)
 unfold kdN;generalize r % 5=m at h5
 match m,h5 with
 | 0,_=>rfl
 | 1,_=>rfl
 | 2,_=>rfl
 | 3,_=>rfl
 | 4,_=>rfl
theorem LH{f:FD}{δ:au}{k:Nat}(hk:k<=4)(h:f δ= .ok (.str (kS k))):AQ [((Sum.inr "not":Key),V.int 1),((Sum.inr "vote":Key),V.int 3)] f (eC (.int 2)) δ= .ok (nI (ar k)):=by
 unfold AQ;rw[h,R.aK]
 match k,hk with
 | 0,_=>rfl
 | 1,_=>rfl
 | 2,_=>rfl
 | 3,_=>rfl
 | 4,_=>rfl
end JT
end
section
namespace JT
open PySem PySem.Spec PyProof.Rows L2 L3 MT
end JT
end
section
namespace JT
open PySem PySem.Spec PyProof.Rows L2 L3 MT
theorem Gf{f:au->R (List D)}{g:FD}{δ:au}{ds:List D}{n:Nat}(h1:f δ= .ok ds)(h2:g δ= .ok (nI n))(hn:n < 1000000)(hl:ds.length*n<=sizeLine):AZ f g δ= .ok (List.replicate n ds).flatten:=by
 unfold AZ;rw[h1,R.aK,h2,R.aK];show R.aS (decide (0<=(n:Int)/\(n:Int) < 1000000/\ds.length*(n:Int).toNat<=sizeLine)) _=_;rw[bW _ ⟨by omega,by omega,by rw[Int.toNat_natCast];exact hl⟩,Int.toNat_natCast]
theorem A3(d:D)(n:Nat):(List.replicate n [d]).flatten=List.replicate n d:=by
 induction n with
 | zero=>rfl
 | succ n ih=>rw [List.replicate_succ,List.flatten_cons,ih,List.replicate_succ];rfl
theorem LG{ms:List Nat}{n x:Nat}(h:ms[n]? =some x):br (.lst (ms.map nI)) (nI n)= .ok (nI x):=NT.cM (by rw[List.getElem?_map,h];rfl)
end JT
end
section
set_option maxHeartbeats 4000000
namespace K35
open PySem PySem.Spec PyProof.Rows L2 L3
variable {P:Program} {w:World} {K:W.Frag} {mg:Wu} {base:Heap} {cl:Wv}
def top(i:Nat):Stmt:=PySem.Challenge.pw_bearfaults_k35_joins_refused.main.body.getD i (.Pass ⟨0,0,0,0⟩)
def fL:D:=(.int 6)
def dJ:D:=(.int 60)
def eM:D:=(.int 6)
structure Tp (K:W.Frag) (mg:Wu) (cl:Wv):Prop where
 z_len:mg "len"=none
 z_sum:mg "sum"=none
 z_tuple:mg "tuple"=none
 z_list:mg "list"=none
 z_range:mg "range"=none
 z_enumerate:mg "enumerate"=none
 z_int:mg "int"=none
 z_isinstance:mg "isinstance"=none
 z_ValueError:mg "ValueError"=none
 z_min:mg "min"=none
 z_sorted:mg "sorted"=none
 z_set:mg "set"=none
 fL:Glob K mg "MOST_INS" fL
 dJ:Glob K mg "MOST_GATES" dJ
 eM:Glob K mg "MOST_OUTS" eM
 M_FaultError:mg "FaultError"=some (.ref (cl 0))
 M_TooLong:mg "TooLong"=some (.ref (cl 1))
 M_NoForm:mg "NoForm"=some (.ref (cl 2))
 M_NoPlace:mg "NoPlace"=some (.ref (cl 3))
 M_Twice:mg "Twice"=some (.ref (cl 4))
 M_Full:mg "Full"=some (.ref (cl 5))
 M_NoWire:mg "NoWire"=some (.ref (cl 6))
 M_Open:mg "Open"=some (.ref (cl 7))
 M_NotPlain:mg "NotPlain"=some (.ref (cl 8))
 M_NotThree:mg "NotThree"=some (.ref (cl 9))
 M_NotSound:mg "NotSound"=some (.ref (cl 10))
 M_NoFit:mg "NoFit"=some (.ref (cl 11))
 M_NoShape:mg "NoShape"=some (.ref (cl 12))
 M_NoneYet:mg "NoneYet"=some (.ref (cl 13))
 X_Twice:XC K (cl 4)
 X_Full:XC K (cl 5)
 X_NoFit:XC K (cl 11)
 I_NoFit_Twice:PySem.W.kitOne K (.ref (cl 11)) (.ref (cl 4))=some false
 I_Full_Twice:PySem.W.kitOne K (.ref (cl 5)) (.ref (cl 4))=some false
 I_Twice_Twice:PySem.W.kitOne K (.ref (cl 4)) (.ref (cl 4))=some true
 O_Twice:PySem.W.kitOne K (.type "NoneType") (.ref (cl 4))=some false
 I_NoFit_NoPlace:PySem.W.kitOne K (.ref (cl 11)) (.ref (cl 3))=some false
 I_Full_NoPlace:PySem.W.kitOne K (.ref (cl 5)) (.ref (cl 3))=some false
 I_Twice_NoPlace:PySem.W.kitOne K (.ref (cl 4)) (.ref (cl 3))=some false
 O_NoPlace:PySem.W.kitOne K (.type "NoneType") (.ref (cl 3))=some false
 I_NoFit_NoForm:PySem.W.kitOne K (.ref (cl 11)) (.ref (cl 2))=some false
 I_Full_NoForm:PySem.W.kitOne K (.ref (cl 5)) (.ref (cl 2))=some false
 I_Twice_NoForm:PySem.W.kitOne K (.ref (cl 4)) (.ref (cl 2))=some false
 O_NoForm:PySem.W.kitOne K (.type "NoneType") (.ref (cl 2))=some false
 I_NoFit_TooLong:PySem.W.kitOne K (.ref (cl 11)) (.ref (cl 1))=some false
 I_Full_TooLong:PySem.W.kitOne K (.ref (cl 5)) (.ref (cl 1))=some false
 I_Twice_TooLong:PySem.W.kitOne K (.ref (cl 4)) (.ref (cl 1))=some false
 O_TooLong:PySem.W.kitOne K (.type "NoneType") (.ref (cl 1))=some false
 I_NoFit_NotPlain:PySem.W.kitOne K (.ref (cl 11)) (.ref (cl 8))=some false
 I_Full_NotPlain:PySem.W.kitOne K (.ref (cl 5)) (.ref (cl 8))=some false
 I_Twice_NotPlain:PySem.W.kitOne K (.ref (cl 4)) (.ref (cl 8))=some false
 O_NotPlain:PySem.W.kitOne K (.type "NoneType") (.ref (cl 8))=some false
 I_NoFit_Open:PySem.W.kitOne K (.ref (cl 11)) (.ref (cl 7))=some false
 I_Full_Open:PySem.W.kitOne K (.ref (cl 5)) (.ref (cl 7))=some false
 I_Twice_Open:PySem.W.kitOne K (.ref (cl 4)) (.ref (cl 7))=some false
 O_Open:PySem.W.kitOne K (.type "NoneType") (.ref (cl 7))=some false
 I_NoFit_NoWire:PySem.W.kitOne K (.ref (cl 11)) (.ref (cl 6))=some false
 I_Full_NoWire:PySem.W.kitOne K (.ref (cl 5)) (.ref (cl 6))=some false
 I_Twice_NoWire:PySem.W.kitOne K (.ref (cl 4)) (.ref (cl 6))=some false
 O_NoWire:PySem.W.kitOne K (.type "NoneType") (.ref (cl 6))=some false
 I_NoFit_Full:PySem.W.kitOne K (.ref (cl 11)) (.ref (cl 5))=some false
 I_Full_Full:PySem.W.kitOne K (.ref (cl 5)) (.ref (cl 5))=some true
 I_Twice_Full:PySem.W.kitOne K (.ref (cl 4)) (.ref (cl 5))=some false
 O_Full:PySem.W.kitOne K (.type "NoneType") (.ref (cl 5))=some false
 I_NoFit_NoShape:PySem.W.kitOne K (.ref (cl 11)) (.ref (cl 12))=some false
 I_Full_NoShape:PySem.W.kitOne K (.ref (cl 5)) (.ref (cl 12))=some false
 I_Twice_NoShape:PySem.W.kitOne K (.ref (cl 4)) (.ref (cl 12))=some false
 O_NoShape:PySem.W.kitOne K (.type "NoneType") (.ref (cl 12))=some false
 I_NoFit_NoFit:PySem.W.kitOne K (.ref (cl 11)) (.ref (cl 11))=some true
 I_Full_NoFit:PySem.W.kitOne K (.ref (cl 5)) (.ref (cl 11))=some false
 I_Twice_NoFit:PySem.W.kitOne K (.ref (cl 4)) (.ref (cl 11))=some false
 O_NoFit:PySem.W.kitOne K (.type "NoneType") (.ref (cl 11))=some false
 I_NoFit_NotSound:PySem.W.kitOne K (.ref (cl 11)) (.ref (cl 10))=some false
 I_Full_NotSound:PySem.W.kitOne K (.ref (cl 5)) (.ref (cl 10))=some false
 I_Twice_NotSound:PySem.W.kitOne K (.ref (cl 4)) (.ref (cl 10))=some false
 O_NotSound:PySem.W.kitOne K (.type "NoneType") (.ref (cl 10))=some false
 I_NoFit_NotThree:PySem.W.kitOne K (.ref (cl 11)) (.ref (cl 9))=some false
 I_Full_NotThree:PySem.W.kitOne K (.ref (cl 5)) (.ref (cl 9))=some false
 I_Twice_NotThree:PySem.W.kitOne K (.ref (cl 4)) (.ref (cl 9))=some false
 O_NotThree:PySem.W.kitOne K (.type "NoneType") (.ref (cl 9))=some false
 I_NoFit_ValueError:PySem.W.kitOne K (.ref (cl 11)) (.type "ValueError")=some true
 I_Full_ValueError:PySem.W.kitOne K (.ref (cl 5)) (.type "ValueError")=some true
 I_Twice_ValueError:PySem.W.kitOne K (.ref (cl 4)) (.type "ValueError")=some true
 O_ValueError:PySem.W.kitOne K (.type "NoneType") (.type "ValueError")=some false
 I_NoFit_NoneYet:PySem.W.kitOne K (.ref (cl 11)) (.ref (cl 13))=some false
 I_Full_NoneYet:PySem.W.kitOne K (.ref (cl 5)) (.ref (cl 13))=some false
 I_Twice_NoneYet:PySem.W.kitOne K (.ref (cl 4)) (.ref (cl 13))=some false
 O_NoneYet:PySem.W.kitOne K (.type "NoneType") (.ref (cl 13))=some false
 E_NoFit_FaultError:PySem.W.exmOne K (.ref (cl 11)) (.ref (cl 0))=some true
 E_Full_FaultError:PySem.W.exmOne K (.ref (cl 5)) (.ref (cl 0))=some true
 E_Twice_FaultError:PySem.W.exmOne K (.ref (cl 4)) (.ref (cl 0))=some true
abbrev eU:Stmt:=top 19
noncomputable abbrev g6:List Str:=["one","other","pairs","out_place","in_place"]
noncomputable def rP:{b:List Stmt // bh eU=b}:=⟨_,by conv=>lhs;whnf⟩
noncomputable def mB:{b:Scope // aO eU=b}:=⟨_,by conv=>lhs;whnf⟩
theorem nC:bz g6 ["one","other","pairs"] mB.1:=⟨rfl,rfl,rfl,by decide+kernel,rfl,by decide+kernel,by decide+kernel⟩
def kY:FZ:=(uB (ID (bP (b2 rA (aw bV (af (e2 br (e2 br (e2 br (ag 0) (eC (.int 2))) (ag 3)) (eC (.int 1))) aA)) (e2 br (e2 br (e2 br (ag 1) (eC (.int 0))) (ag 4)) (eC (.int 1)))))) (jX 11 (kI (bp (xP (f9 (dR (eC (.str "out ")) (dR (ny (ag 3)) (dR (eC (.str " has other wires than in ")) (dR (ny (ag 4)) uE)))))) fK))) lB)
def jN:FZ:=(qD (KC (iP (cn (ag 2)))) (Gn 2 (z_ (pd 3) (z_ (pd 4) IF))) kY)
def dn:List V3->aZ->R3 V3:=rC g6 jN
def Di:List V3->aZ->R3 V3:=wj g6 jN
theorem tP(T:Tp K mg cl)(h:Def K mg "check_fits" eU):bO P w K mg base cl 1 "check_fits" 3 dn:=by
 obtain⟨f,fd,F,hm⟩:=h;exact⟨f,fd,_,lz (k:=0) rP.2 mB.2 F nC (fun _ _ _ _ _ _ hr=>(have nd:=nC.nd;(fj (tH wV rfl (cE (bU (aa 2))) (lY (cH bL (cH bL jy))) (fj (um (dj (bo (va hr.units) (aI cu rfl T.z_len PySem.boot_len (ae (ay (ay (ay (aa 0) ah) (aa 3)) ah) ai)) (ay (ay (ay (aa 1) ah) (aa 4)) ah))) (fj (l8 lV rfl T.X_NoFit rfl T.M_NoFit (gb (aN (az (mJ (eY b5 (eY (pH (aa 3)) (eY b5 (eY (pH (aa 4)) tF)))))) cG)))) nA)))))),hm,F.kp,F.binds fun _ _ _ _ _ _ us hl=>match us,hl with | [_,_,_],_=>rfl⟩
abbrev ei:Stmt:=top 20
noncomputable abbrev fX:List Str:=["pairs","found","out_place","in_place"]
noncomputable def qQ:{b:List Stmt // bh ei=b}:=⟨_,by conv=>lhs;whnf⟩
noncomputable def k_:{b:Scope // aO ei=b}:=⟨_,by conv=>lhs;whnf⟩
theorem mn:bz fX ["pairs"] k_.1:=⟨rfl,rfl,rfl,by decide+kernel,rfl,by decide+kernel,by decide+kernel⟩
def j_:FZ:=(bK (uB (ID (bT (b2 wU (ag 3) (ag 1)))) (jX 4 (kI (bp (xP (f9 (dR (eC (.str "in ")) (dR (ny (ag 3)) (dR (eC (.str " is told twice")) uE))))) fK))) lB) (uz (uj (iF 1) (xP (ag 3)) (xP (ag 2)))))
def iZ:FZ:=(bK (uz (cf 1 yI)) (bK (qD (KC (iP (cn (ag 0)))) (Gn 2 (z_ (pd 2) (z_ (pd 3) IF))) j_) (uz (oV (iF 1)))))
def cU:List V3->aZ->R3 V3:=rC fX iZ
def AI:List V3->aZ->R3 V3:=wj fX iZ
theorem rD(T:Tp K mg cl)(h:Def K mg "outs_of_ins" ei):bO P w K mg base cl 1 "outs_of_ins" 1 cU:=by
 obtain⟨f,fd,F,hm⟩:=h;exact⟨f,fd,_,lz (k:=0) qQ.2 k_.2 F mn (fun _ _ _ _ _ _ hr=>(have nd:=mn.nd;(bR (i0 (bJ yF)) (bR (tH wV rfl (cE (bU (aa 0))) (lY (cH bL (cH bL jy))) (bR (um (u_ (bo (BS (oT hr)) (aa 3) (aa 1))) (fj (l8 lV rfl T.X_Twice rfl T.M_Twice (gb (aN (az (mJ (eY b5 (eY (pH (aa 3)) (eY b5 tF))))) cG)))) nA) (pF (cm (vK (oT hr) (az (aa 2)) (dD 1) (az (aa 3))))))) (pF (cm (lA (dD 1)))))))),hm,F.kp,F.binds fun _ _ _ _ _ _ us hl=>match us,hl with | [_],_=>rfl⟩
abbrev eu:Stmt:=top 21
noncomputable abbrev f7:List Str:=["told","names","name","rest"]
noncomputable def qB:{b:List Stmt // bh eu=b}:=⟨_,by conv=>lhs;whnf⟩
noncomputable def lF:{b:Scope // aO eu=b}:=⟨_,by conv=>lhs;whnf⟩
theorem mz:bz f7 ["told"] lF.1:=⟨rfl,rfl,rfl,by decide+kernel,rfl,by decide+kernel,by decide+kernel⟩
def km:FZ:=(bK (uB (ID (bT (b2 wU (ag 2) (ag 1)))) (jX 4 (kI (bp (xP (f9 (dR (eC (.str "there are two of the name ")) (dR (ny (ag 2)) uE)))) fK))) lB) (uz (uj (iF 1) (xP (ag 2)) (xP (eC (.bl true))))))
def i4:FZ:=(bK (uz (cf 1 yI)) (qD (KC (iP (cn (ag 0)))) (Gn 2 (z_ (pd 2) (z_ (pd 3) IF))) km))
def cC:List V3->aZ->R3 V3:=rC f7 i4
def Av:List V3->aZ->R3 V3:=wj f7 i4
theorem rM(T:Tp K mg cl)(h:Def K mg "check_names" eu):bO P w K mg base cl 1 "check_names" 1 cC:=by
 obtain⟨f,fd,F,hm⟩:=h;exact⟨f,fd,_,lz (k:=0) qB.2 lF.2 F mz (fun _ _ _ _ _ _ hr=>(have nd:=mz.nd;(bR (i0 (bJ yF)) (fj (tH wV rfl (cE (bU (aa 0))) (lY (cH bL (cH bL jy))) (bR (um (u_ (bo (BS (oT hr)) (aa 2) (aa 1))) (fj (l8 lV rfl T.X_Twice rfl T.M_Twice (gb (aN (az (mJ (eY b5 (eY (pH (aa 2)) tF)))) cG)))) nA) (pF (cm (vK (oT hr) (az oi) (dD 1) (az (aa 2))))))))))),hm,F.kp,F.binds fun _ _ _ _ _ _ us hl=>match us,hl with | [_],_=>rfl⟩
abbrev fk:Stmt:=top 22
noncomputable abbrev g7:List Str:=["net"]
noncomputable def rN:{b:List Stmt // bh fk=b}:=⟨_,by conv=>lhs;whnf⟩
noncomputable def my:{b:Scope // aO fk=b}:=⟨_,by conv=>lhs;whnf⟩
theorem nv:bz g7 ["net"] my.1:=⟨rfl,rfl,rfl,by decide+kernel,rfl,by decide+kernel,by decide+kernel⟩
def jJ:FZ:=(uB (ID (bP (uL (b2 rW (aw bV (af (e2 br (ag 0) (eC (.int 0))) aA)) (eC fL)) (uL (b2 rW (aw bV (af (e2 br (ag 0) (eC (.int 1))) aA)) (eC dJ)) (b2 rW (aw bV (af (e2 br (ag 0) (eC (.int 2))) aA)) (eC eM)))))) (jX 5 (kI (bp (xP (eC (.str "a net of too many ins, gates or outs"))) fK))) lB)
def dq:List V3->aZ->R3 V3:=rC g7 jJ
def CY:List V3->aZ->R3 V3:=wj g7 jJ
theorem t8(T:Tp K mg cl)(h:Def K mg "check_room" fk):bO P w K mg base cl 1 "check_room" 1 dq:=by
 obtain⟨f,fd,F,hm⟩:=h;exact⟨f,fd,_,lz (k:=0) rN.2 my.2 F nv (fun _ _ _ _ _ _ hr=>(have nd:=nv.nd;(fj (um (dj (lU (nL (bo wC (aI cu rfl T.z_len PySem.boot_len (ae (ay (aa 0) ah) ai)) (rg T.fL rfl)) (nL (bo wC (aI cu rfl T.z_len PySem.boot_len (ae (ay (aa 0) ah) ai)) (rg T.dJ rfl)) (qk (bo wC (aI cu rfl T.z_len PySem.boot_len (ae (ay (aa 0) ah) ai)) (rg T.eM rfl))))))) (fj (l8 lV rfl T.X_Full rfl T.M_Full (gb (aN (az b5) cG)))) nA)))),hm,F.kp,F.binds fun _ _ _ _ _ _ us hl=>match us,hl with | [_],_=>rfl⟩
abbrev fm:Stmt:=top 23
noncomputable abbrev ni:List Str:=["ins"]
noncomputable def rQ:{b:List Stmt // bh fm=b}:=⟨_,by conv=>lhs;whnf⟩
noncomputable def mf:{b:Scope // aO fm=b}:=⟨_,by conv=>lhs;whnf⟩
theorem t4:bz ni ["ins"] mf.1:=⟨rfl,rfl,rfl,by decide+kernel,rfl,by decide+kernel,by decide+kernel⟩
def nH:FS:=(hV (aw so (af (eNew (b7 (cn (ag 0)) (dy 2 (bb (aM 0) (bb (aM 1) dw))) fJ (ag 1) ["name","width"] [])) aA)))
def cy:List D->R D:=tm ni nH
theorem tZ(T:Tp K mg cl)(h:Def K mg "many_wires" fm):Callee P w K mg base 1 "many_wires" 1 cy:=
 Dl h rQ.2 mf.2 t4 fun _ _ _ _ _ _ _ hr nd=>(bM (cg (aI (wH rfl) rfl T.z_sum PyProof.Rows.boot_sum (ae (bj (cw (bU (aa 0)) (fun _ _ _=>(cQ (aR aH (aR aH ck)))) (fun _ _ _=>bS) (fun _ _ _=>(aa 1)))) ai))))
abbrev jt:Stmt:=top 24
noncomputable abbrev sT:List Str:=["told","numbers"]
noncomputable def w9:{b:List Stmt // bh jt=b}:=⟨_,by conv=>lhs;whnf⟩
noncomputable def pN:{b:Scope // aO jt=b}:=⟨_,by conv=>lhs;whnf⟩
theorem zK:bz sT ["told","numbers"] pN.1:=⟨rfl,rfl,rfl,by decide+kernel,rfl,by decide+kernel,by decide+kernel⟩
def sx:FS:=(hV (aw nY (af (eNew (b7 (cn (ag 0)) (aM 0) fJ (e2 br (ag 1) (ag 0)) ["wire"] [1])) aA)))
def dI:List D->R D:=tm sT sx
theorem zT(T:Tp K mg cl)(h:Def K mg "rewired" jt):Callee P w K mg base 1 "rewired" 2 dI:=
 Dl h w9.2 pN.2 zK fun _ _ _ _ _ _ _ hr nd=>(bM (cg (cB pG rfl T.z_tuple PyProof.Rows.boot_tuple (ae (bj (cw (bU (aa 0)) (fun _ _ _=>aH) (fun _ _ _=>bS) (fun _ _ _=>(ay (aa 1) (aa 0))))) ai))))
abbrev dm:Stmt:=top 25
noncomputable abbrev kg:List Str:=["gates","numbers"]
noncomputable def nW:{b:List Stmt // bh dm=b}:=⟨_,by conv=>lhs;whnf⟩
noncomputable def jo:{b:Scope // aO dm=b}:=⟨_,by conv=>lhs;whnf⟩
theorem oX:bz kg ["gates","numbers"] jo.1:=⟨rfl,rfl,rfl,by decide+kernel,rfl,by decide+kernel,by decide+kernel⟩
def kj:FS:=(hV (eNew (b7 (cn (ag 0)) (dy 3 (bb (aM 0) (bb (aM 1) (bb (aM 2) dw)))) fJ (dz (af (ag 0) (af (aw dI (af (ag 1) (af (ag 3) aA))) (af (ag 2) aA)))) ["kind","wires","sure"] [1])))
def cJ:List D->R D:=tm kg kj
theorem o7(T:Tp K mg cl)(h:Def K mg "rewired_gates" dm)(dQ:Callee P w K mg base 1 "rewired" 2 dI):Callee P w K mg base 2 "rewired_gates" 2 cJ:=
 Dl h nW.2 jo.2 oX fun _ _ _ _ _ _ _ hr nd=>(bM (cg (bj (cw (bU (aa 0)) (fun _ _ _=>(cQ (aR aH (aR aH (aR aH ck))))) (fun _ _ _=>bS) (fun _ _ _=>(bE (ae (aa 0) (ae (aQ dQ (ae (aa 1) (ae (aa 3) ai))) (ae (aa 2) ai)))))))))
abbrev dG:Stmt:=top 26
noncomputable abbrev lr:List Str:=["outs","numbers"]
noncomputable def o_:{b:List Stmt // bh dG=b}:=⟨_,by conv=>lhs;whnf⟩
noncomputable def j9:{b:Scope // aO dG=b}:=⟨_,by conv=>lhs;whnf⟩
theorem q9:bz lr ["outs","numbers"] j9.1:=⟨rfl,rfl,rfl,by decide+kernel,rfl,by decide+kernel,by decide+kernel⟩
def lp:FS:=(hV (eNew (b7 (cn (ag 0)) (dy 2 (bb (aM 0) (bb (aM 1) dw))) fJ (dz (af (ag 0) (af (aw dI (af (ag 1) (af (ag 2) aA))) aA))) ["name","wires"] [1])))
def cV:List D->R D:=tm lr lp
theorem qN(T:Tp K mg cl)(h:Def K mg "rewired_outs" dG)(dQ:Callee P w K mg base 1 "rewired" 2 dI):Callee P w K mg base 2 "rewired_outs" 2 cV:=
 Dl h o_.2 j9.2 q9 fun _ _ _ _ _ _ _ hr nd=>(bM (cg (bj (cw (bU (aa 0)) (fun _ _ _=>(cQ (aR aH (aR aH ck)))) (fun _ _ _=>bS) (fun _ _ _=>(bE (ae (aa 0) (ae (aQ dQ (ae (aa 1) (ae (aa 2) ai))) ai))))))))
abbrev eh:Stmt:=top 27
noncomputable abbrev gc:List Str:=["one","left_wires","many","numbers"]
noncomputable def qF:{b:List Stmt // bh eh=b}:=⟨_,by conv=>lhs;whnf⟩
noncomputable def lq:{b:Scope // aO eh=b}:=⟨_,by conv=>lhs;whnf⟩
theorem rT:bz gc ["one","left_wires"] lq.1:=⟨rfl,rfl,rfl,by decide+kernel,rfl,by decide+kernel,by decide+kernel⟩
def mh:FS:=(cF (eA 2 (aw cy (af (e2 br (ag 0) (eC (.int 0))) aA))) (cF (wq 3 (Ez (ag 2))) (cF (E7 3 (b7 (cx (aw bV (af (e2 br (ag 0) (eC (.int 1))) aA))) (aM 0) fJ (e2 bH (e2 bH (ag 2) (ag 1)) (ag 0)) ["place"] [1,2])) (Cn 3 (hV (ag 3))))))
def eB:List D->R D:=tm gc mh
theorem rJ(T:Tp K mg cl)(h:Def K mg "one_numbers" eh)(cz:Callee P w K mg base 1 "many_wires" 1 cy):Callee P w K mg base 2 "one_numbers" 2 eB:=
 Dl h qF.2 lq.2 rT fun _ _ _ _ _ _ _ hr nd=>(aP (b3 (aQ cz (ae (ay (aa 0) ah) ai))) (aP (vY (Dw rfl (aa 2) rfl T.z_list rfl T.z_range)) (aP (Ap (cw (bQ (aI cu rfl T.z_len PySem.boot_len (ae (ay (aa 0) ah) ai)) rfl T.z_range) (fun _ _ _=>aH) (fun _ _ _=>bS) (fun _ _ _=>(ax bw (ax bw (aa 2) (aa 1)) (aa 0))))) (vD 3 (bM (cg (aa 3)))))))
abbrev dg:Stmt:=top 28
noncomputable abbrev eF:List Str:=["other","one","numbers","named","found","free","place","told","top"]
noncomputable def om:{b:List Stmt // bh dg=b}:=⟨_,by conv=>lhs;whnf⟩
noncomputable def ju:{b:Scope // aO dg=b}:=⟨_,by conv=>lhs;whnf⟩
theorem pj:bz eF ["other","one","numbers","named"] ju.1:=⟨rfl,rfl,rfl,by decide+kernel,rfl,by decide+kernel,by decide+kernel⟩
def e_:FS:=(xD (b2 wU (ag 6) (ag 3)) (sN 4 (aw dI (af (e2 br (e2 br (e2 br (ag 1) (eC (.int 2))) (e2 yq (ag 3) (ag 6))) (eC (.int 1))) (af (ag 2) aA)))) (cF (sN 4 (eNew (vi (ag 5) (e2 bH (ag 5) (e2 br (ag 7) (eC (.int 1))))))) (eA 5 (e2 bH (ag 5) (e2 br (ag 7) (eC (.int 1)))))))
def j8:FS:=(cF (wq 4 (cZ aA)) (cF (eA 5 (aw cy (af (e2 br (ag 1) (eC (.int 0))) aA))) (cF (uZ (mT (e2 br (ag 0) (eC (.int 0)))) (dy 2 (bb (aM 6) (bb (aM 7) dw))) e_) (cF (eA 8 (e2 bH (ag 5) (aw bV (af (e2 br (ag 1) (eC (.int 1))) aA)))) (cF (sN 4 (eNew (vi (ag 8) (e2 bH (ag 8) (aw bV (af (e2 br (ag 0) (eC (.int 1))) aA)))))) (Cn 4 (hV (ag 4))))))))
def dk:List D->R D:=tm eF j8
theorem pe(T:Tp K mg cl)(h:Def K mg "other_numbers" dg)(cz:Callee P w K mg base 1 "many_wires" 1 cy)(dQ:Callee P w K mg base 1 "rewired" 2 dI):Callee P w K mg base 2 "other_numbers" 4 dk:=
 Dl h om.2 ju.2 pj fun _ _ _ _ _ _ _ hr nd=>(aP (vY (b6 ai)) (aP (b3 (aQ cz (ae (ay (aa 1) ah) ai))) (aP (qi (oh (ay (aa 0) ah) rfl T.z_enumerate) (cQ (aR aH (aR aH ck))) (bM (iR (bo (BS (oT hr)) (aa 6) (aa 3)) (bM (oj (aQ dQ (ae (ay (ay (ay (aa 1) ah) (zO (oT hr) (aa 3) (aa 6) (fun _ _=>rfl))) ah) (ae (aa 2) ai))))) (aP (oj (bj (uN rfl (aa 5) (ax bw (aa 5) (ay (aa 7) ah)) rfl T.z_list rfl T.z_range))) (bM (b3 (ax bw (aa 5) (ay (aa 7) ah)))))))) (aP (b3 (ax bw (aa 5) (aI cu rfl T.z_len PySem.boot_len (ae (ay (aa 1) ah) ai)))) (aP (oj (bj (uN rfl (aa 8) (ax bw (aa 8) (aI cu rfl T.z_len PySem.boot_len (ae (ay (aa 0) ah) ai))) rfl T.z_list rfl T.z_range))) (vD 4 (bM (cg (aa 4)))))))))
abbrev lh:Stmt:=top 29
noncomputable abbrev nF:List Str:=["one","other","pairs","named","fed_by","left_ins","left_outs","numbers","others","ins","gates","outs"]
noncomputable def zY:{b:List Stmt // bh lh=b}:=⟨_,by conv=>lhs;whnf⟩
noncomputable def si:{b:Scope // aO lh=b}:=⟨_,by conv=>lhs;whnf⟩
theorem vC:bz nF ["one","other","pairs"] si.1:=⟨rfl,rfl,rfl,by decide+kernel,rfl,by decide+kernel,by decide+kernel⟩
def pO:FZ:=(bK (ql (h_ (sr dn) (kI (bp (xP (ag 0)) (bp (xP (ag 1)) (bp (xP (ag 2)) fK)))))) (bK (cf 3 (h_ (sr cU) (kI (bp (xP (ag 2)) fK)))) (bK (uz (cf 4 (xP (eNew (b7 (cn (ag 2)) (dy 2 (bb (aM 0) (bb (aM 1) dw))) fJ (ag 0) ["out_place","in_place"] []))))) (bK (uz (cf 5 (jx (iP (mT (e2 br (ag 1) (eC (.int 0))))) (Gn 2 (z_ (pd 0) (z_ (pd 1) IF))) (bP (b2 Fh (ag 0) (ag 2))) (xP (ag 1)) ["place","told"] [3]))) (bK (uz (cf 6 (jx (iP (mT (e2 br (ag 0) (eC (.int 2))))) (Gn 2 (z_ (pd 0) (z_ (pd 1) IF))) (bP (b2 mK (ag 0) (ag 2))) (xP (ag 1)) ["place","told"] [4]))) (bK (uz (cf 7 (xP (aw eB (af (ag 0) (af (aw cy (af (ag 5) aA)) aA)))))) (bK (uz (cf 8 (xP (aw dk (af (ag 1) (af (ag 0) (af (ag 7) (af (ag 3) aA)))))))) (bK (uz (cf 9 (xP (e2 bH (e2 br (ag 0) (eC (.int 0))) (ag 5))))) (bK (uz (cf 10 (xP (e2 bH (aw cJ (af (e2 br (ag 0) (eC (.int 1))) (af (ag 7) aA))) (aw cJ (af (e2 br (ag 1) (eC (.int 1))) (af (ag 8) aA))))))) (bK (uz (cf 11 (xP (e2 bH (aw cV (af (ag 6) (af (ag 7) aA))) (aw cV (af (e2 br (ag 1) (eC (.int 2))) (af (ag 8) aA))))))) (bK (ql (h_ (sr cC) (kI (bp (xP (ag 9)) fK)))) (bK (ql (h_ (sr cC) (kI (bp (xP (ag 11)) fK)))) (bK (ql (h_ (sr dq) (kI (bp (xP (dz (af (ag 9) (af (ag 10) (af (ag 11) aA))))) fK)))) (uz (oV (xP (dz (af (ag 9) (af (ag 10) (af (ag 11) aA))))))))))))))))))))
def g8:List V3->aZ->R3 V3:=rC nF pO
def JB:List V3->aZ->R3 V3:=wj nF pO
theorem A5(T:Tp K mg cl)(h:Def K mg "joined" lh)(cz:Callee P w K mg base 1 "many_wires" 1 cy)(jl:Callee P w K mg base 2 "one_numbers" 2 eB)(gL:Callee P w K mg base 2 "other_numbers" 4 dk)(eG:Callee P w K mg base 2 "rewired_gates" 2 cJ)(fE:Callee P w K mg base 2 "rewired_outs" 2 cV)(jj:bO P w K mg base cl 1 "check_fits" 3 dn)(iC:bO P w K mg base cl 1 "outs_of_ins" 1 cU)(fw:bO P w K mg base cl 1 "check_names" 1 cC)(jf:bO P w K mg base cl 1 "check_room" 1 dq):bO P w K mg base cl 3 "joined" 3 g8:=by
 obtain⟨f,fd,F,hm⟩:=h;exact⟨f,fd,_,lz (k:=2) zY.2 si.2 F vC (fun _ _ _ _ _ _ hr=>(have nd:=vC.nd;(bR (lC (jB jv (bO.q jj) hr (by decide) rfl (gb (aN (az (aa 0)) (aN (az (aa 1)) (aN (az (aa 2)) cG)))) (l9 (cY (cY (cY g_)))))) (bR (EC (jB jv (bO.q iC) hr (by decide) rfl (gb (aN (az (aa 2)) cG)) (l9 (cY g_)))) (bR (i0 (bJ (az (bj (cw (bU (aa 2)) (fun _ _ _=>(cQ (aR aH (aR aH ck)))) (fun _ _ _=>bS) (fun _ _ _=>(aa 0))))))) (bR (i0 (dF (cE (oh (ay (aa 1) ah) rfl T.z_enumerate)) (fun _ _ _=>(lY (cH bL (cH bL jy)))) (fun _ _ _=>(nc (dj (bo (KQ (oT hr)) (aa 0) (aa 2))))) (fun _ _ _=>(az (aa 1))))) (bR (i0 (dF (cE (oh (ay (aa 0) ah) rfl T.z_enumerate)) (fun _ _ _=>(lY (cH bL (cH bL jy)))) (fun _ _ _=>(nc (dj (bo tO (aa 0) (aa 2))))) (fun _ _ _=>(az (aa 1))))) (bR (i0 (bJ (az (aQ jl (ae (aa 0) (ae (aQ cz (ae (aa 5) ai)) ai)))))) (bR (i0 (bJ (az (aQ gL (ae (aa 1) (ae (aa 0) (ae (aa 7) (ae (aa 3) ai)))))))) (bR (i0 (bJ (az (ax bw (ay (aa 0) ah) (aa 5))))) (bR (i0 (bJ (az (ax bw (aQ eG (ae (ay (aa 0) ah) (ae (aa 7) ai))) (aQ eG (ae (ay (aa 1) ah) (ae (aa 8) ai))))))) (bR (i0 (bJ (az (ax bw (aQ fE (ae (aa 6) (ae (aa 7) ai))) (aQ fE (ae (ay (aa 1) ah) (ae (aa 8) ai))))))) (bR (lC (jB jv (bO.q fw) hr (by decide) rfl (gb (aN (az (aa 9)) cG)) (l9 (cY g_)))) (bR (lC (jB jv (bO.q fw) hr (by decide) rfl (gb (aN (az (aa 11)) cG)) (l9 (cY g_)))) (bR (lC (jB jv (bO.q jf) hr (by decide) rfl (gb (aN (az (bE (ae (aa 9) (ae (aa 10) (ae (aa 11) ai))))) cG)) (l9 (cY g_)))) (pF (cm (lA (az (bE (ae (aa 9) (ae (aa 10) (ae (aa 11) ai))))))))))))))))))))))),hm,F.kp,F.binds fun _ _ _ _ _ _ us hl=>match us,hl with | [_,_,_],_=>rfl⟩
abbrev hW:Stmt:=top 31
noncomputable abbrev jP:List Str:=["cell","k","number"]
noncomputable def vz:{b:List Stmt // bh hW=b}:=⟨_,by conv=>lhs;whnf⟩
noncomputable def oP:{b:Scope // aO hW=b}:=⟨_,by conv=>lhs;whnf⟩
theorem xu:bz jP ["cell","k"] oP.1:=⟨rfl,rfl,rfl,by decide+kernel,rfl,by decide+kernel,by decide+kernel⟩
def p9:FS:=(cF (xD (b2 KY (ag 0) (e2 zF (eC (.int 10)) (eC (.int 18)))) (hV (e2 du (e2 K2 (e2 oW (ag 0) (e2 zF (eC (.int 10)) (eC (.int 18)))) (e2 kE (eC (.int 28)) (ag 1))) (e2 zF (eC (.int 2)) (eC (.int 28))))) rR) (cF (eA 2 (e2 du (e2 kE (e2 bH (e2 bH (ag 0) (e2 kE (eC (.int 1013)) (ag 1))) (eC (.int 1))) (eC (.int 16807))) (eC (.int 2147483647)))) (cF (eA 2 (e2 du (e2 kE (ag 2) (ag 2)) (eC (.int 2147483629)))) (hV (e2 mi (e2 du (e2 kE (ag 2) (eC (.int 39373))) (eC (.int 2147483587))) (eC (.int 8)))))))
def aJ:List D->R D:=tm jP p9
theorem wu(T:Tp K mg cl)(h:Def K mg "_law_stir" hW):Callee P w K mg base 1 "_law_stir" 2 aJ:=
 Dl h vz.2 oP.2 xu fun _ _ _ _ _ _ _ hr nd=>(aP (iR (bo KD (aa 0) (ax Bd ah ah)) (bM (cg (ax c_ (ax K1 (ax p_ (aa 0) (ax Bd ah ah)) (ax lE ah (aa 1))) (ax Bd ah ah)))) ie) (aP (b3 (ax c_ (ax lE (ax bw (ax bw (aa 0) (ax lE ah (aa 1))) ah) ah) ah)) (aP (b3 (ax c_ (ax lE (aa 2) (aa 2)) ah)) (bM (cg (ax qx (ax c_ (ax lE (aa 2) ah) ah) ah))))))
abbrev er:Stmt:=top 32
noncomputable abbrev f6:List Str:=["cell","first","letters","widths","many","ins","count","gates","place","number","kind","some","outs","called","width"]
noncomputable def qJ:{b:List Stmt // bh er=b}:=⟨_,by conv=>lhs;whnf⟩
noncomputable def lb:{b:Scope // aO er=b}:=⟨_,by conv=>lhs;whnf⟩
theorem rG:bz f6 ["cell","first","letters","widths"] lb.1:=⟨rfl,rfl,rfl,by decide+kernel,rfl,by decide+kernel,by decide+kernel⟩
def gG:FZ:=(bK (cf 9 (xP (aw aJ (af (ag 0) (af (e2 bH (e2 bH (ag 1) (eC (.int 10))) (e2 kE (eC (.int 5)) (ag 8))) aA))))) (bK (cf 10 (xP (e2 br (eNew (cZ (af (eC (.str "and")) (af (eC (.str "or")) (af (eC (.str "xor")) (af (eC (.str "vote")) (af (eC (.str "not")) aA))))))) (e2 du (ag 9) (eC (.int 5)))))) (bK (cf 4 (xP (AQ [((Sum.inr "not":Key),V.int 1),((Sum.inr "vote":Key),V.int 3)] (ag 10) (eC (.int 2))))) (bK (cf 11 (jx (iP (cx (ag 4))) (pd 0) xn (xP (e2 du (aw aJ (af (ag 1) (af (e2 bH (e2 bH (e2 bH (ag 2) (eC (.int 11))) (e2 kE (eC (.int 5)) (ag 4))) (ag 0)) aA))) (e2 bH (ag 3) (ag 4)))) ["k"] [0,1,6,8])) (xC 7 (xP (dz (af (ag 10) (af (aw nY (af (ag 11) aA)) (af (e2 rV (e2 du (e2 mi (ag 9) (eC (.int 5))) (eC (.int 3))) (eC (.int 0))) aA))))))))))
def gC:FZ:=(bK (cf 14 (xP (e2 br (ag 3) (e2 du (aw aJ (af (ag 0) (af (e2 bH (e2 bH (ag 1) (eC (.int 60))) (e2 kE (eC (.int 5)) (ag 8))) aA))) (aw bV (af (ag 3) aA)))))) (bK (cf 11 (jx (iP (cx (ag 14))) (pd 0) xn (xP (e2 du (aw aJ (af (ag 1) (af (e2 bH (e2 bH (e2 bH (ag 2) (eC (.int 61))) (e2 kE (eC (.int 5)) (ag 5))) (ag 0)) aA))) (e2 bH (ag 3) (aw bV (af (ag 4) aA))))) ["k"] [0,1,6,7,8])) (xC 12 (xP (dz (af (e2 br (ag 13) (ag 8)) (af (aw nY (af (ag 11) aA)) aA)))))))
def iY:FZ:=(bK (cf 4 (xP (e2 bH (eC (.int 1)) (e2 du (aw aJ (af (ag 0) (af (ag 1) aA))) (eC (.int 3)))))) (bK (cf 5 (jx (iP (cx (ag 4))) (pd 0) xn (xP (dz (af (e2 br (ag 3) (ag 0)) (af (e2 br (ag 4) (e2 du (aw aJ (af (ag 1) (af (e2 bH (e2 bH (ag 2) (eC (.int 1))) (ag 0)) aA))) (aw bV (af (ag 4) aA)))) aA)))) ["k"] [0,1,2,3])) (bK (cf 6 (xP (aw so (af (eNew (b7 (cn (ag 5)) (dy 2 (bb (aM 0) (bb (aM 1) dw))) fJ (ag 1) ["name","width"] [])) aA)))) (bK (cf 7 (Bz (cZ aA))) (bK (qD (iP (cx (e2 du (aw aJ (af (ag 0) (af (e2 bH (ag 1) (eC (.int 5))) aA))) (eC (.int 8))))) (pd 8) gG) (wZ 7 (bK (cf 12 (Bz (cZ aA))) (bK (cf 13 (xP (JN (ag 2) (qr (e2 oW (eC (.int 4)) (e2 kE (eC (.int 4)) (aw ng (af (e2 rV (e2 du (aw aJ (af (ag 0) (af (e2 bH (ag 1) (eC (.int 7))) aA))) (eC (.int 3))) (eC (.int 0))) aA))))) yj))) (bK (qD (iP (cx (e2 bH (eC (.int 1)) (e2 du (aw aJ (af (ag 0) (af (e2 bH (ag 1) (eC (.int 6))) aA))) (eC (.int 3)))))) (pd 8) gC) (wZ 12 (oV (xP (dz (af (ag 5) (af (ag 7) (af (ag 12) aA))))))))))))))))
def qA:List V3->aZ->R3 V3:=rC f6 iY
def eR:List V3->aZ->R3 V3:=wj f6 iY
theorem rH(T:Tp K mg cl)(h:Def K mg "_law_any_net" er)(aY:Callee P w K mg base 1 "_law_stir" 2 aJ):iI P w K mg base cl 2 "_law_any_net" 4 qA:=
 MS h qJ.2 lb.2 rG fun _ _ _ _ _ _ _ hr nd=>(aT (bJ (az (ax bw ah (ax c_ (aQ aY (ae (aa 0) (ae (aa 1) ai))) ah)))) (aT (dF (cE (bQ (aa 4) rfl T.z_range)) (fun _ _ _=>bL) (fun _ _ _=>lZ) (fun _ _ _=>(az (bE (ae (ay (aa 3) (aa 0)) (ae (ay (aa 4) (ax c_ (aQ aY (ae (aa 1) (ae (ax bw (ax bw (aa 2) ah) (aa 0)) ai))) (aI cu rfl T.z_len PySem.boot_len (ae (aa 4) ai)))) ai)))))) (aT (bJ (az (aI (wH rfl) rfl T.z_sum PyProof.Rows.boot_sum (ae (bj (cw (bU (aa 5)) (fun _ _ _=>(cQ (aR aH (aR aH ck)))) (fun _ _ _=>bS) (fun _ _ _=>(aa 1)))) ai)))) (aT (bJ (wz (b6 ai))) (aT (uc (cE (bQ (ax c_ (aQ aY (ae (aa 0) (ae (ax bw (aa 1) ah) ai))) ah) rfl T.z_range)) bL (aT (bJ (az (aQ aY (ae (aa 0) (ae (ax bw (ax bw (aa 1) ah) (ax lE ah (aa 8))) ai))))) (aT (bJ (az (ay (bj (b6 (ae b5 (ae b5 (ae b5 (ae b5 (ae b5 ai))))))) (ax c_ (aa 9) ah)))) (aT (bJ (az (EK (oT hr) (nD qU qp (nD qU qp xX)) rfl rfl (by simp) (fun _ _ _ h=>h) (by decide) (aa 10) ah ⟨rfl,rfl,rfl,rfl⟩ (Dz (nD qU qp (nD qU qp xX)) rfl rfl (by simp) (by decide))))) (aT (dF (cE (bQ (aa 4) rfl T.z_range)) (fun _ _ _=>bL) (fun _ _ _=>lZ) (fun _ _ _=>(az (ax c_ (aQ aY (ae (aa 1) (ae (ax bw (ax bw (ax bw (aa 2) ah) (ax lE ah (aa 4))) (aa 0)) ai))) (ax bw (aa 3) (aa 4)))))) (cm (wO (az (bE (ae (aa 10) (ae (cB pG rfl T.z_tuple PyProof.Rows.boot_tuple (ae (aa 11) ai)) (ae (nJ (o5 hr.units) (ax c_ (ax qx (aa 9) ah) ah) ah) ai)))))))))))) (tR 7 (aT (bJ (wz (b6 ai))) (aT (bJ (az (Cy (aa 2) (qV (ax p_ ah (ax lE ah (cB wo rfl T.z_int PyProof.Rows.boot_int (ae (nJ (o5 hr.units) (ax c_ (aQ aY (ae (aa 0) (ae (ax bw (aa 1) ah) ai))) ah) ah) ai))))) vc))) (aT (uc (cE (bQ (ax bw ah (ax c_ (aQ aY (ae (aa 0) (ae (ax bw (aa 1) ah) ai))) ah)) rfl T.z_range)) bL (aT (bJ (az (ay (aa 3) (ax c_ (aQ aY (ae (aa 0) (ae (ax bw (ax bw (aa 1) ah) (ax lE ah (aa 8))) ai))) (aI cu rfl T.z_len PySem.boot_len (ae (aa 3) ai)))))) (aT (dF (cE (bQ (aa 14) rfl T.z_range)) (fun _ _ _=>bL) (fun _ _ _=>lZ) (fun _ _ _=>(az (ax c_ (aQ aY (ae (aa 1) (ae (ax bw (ax bw (ax bw (aa 2) ah) (ax lE ah (aa 5))) (aa 0)) ai))) (ax bw (aa 3) (aI cu rfl T.z_len PySem.boot_len (ae (aa 4) ai))))))) (cm (wO (az (bE (ae (ay (aa 13) (aa 8)) (ae (cB pG rfl T.z_tuple PyProof.Rows.boot_tuple (ae (aa 11) ai)) ai))))))))) (tR 12 (cm (lA (az (bE (ae (aa 5) (ae (aa 7) (ae (aa 12) ai)))))))))))))))))
abbrev gg:Stmt:=top 33
noncomputable abbrev iL:List Str:=["cell","one","other","found","place","fits","number"]
noncomputable def tM:{b:List Stmt // bh gg=b}:=⟨_,by conv=>lhs;whnf⟩
noncomputable def m8:{b:Scope // aO gg=b}:=⟨_,by conv=>lhs;whnf⟩
theorem vm:bz iL ["cell","one","other"] m8.1:=⟨rfl,rfl,rfl,by decide+kernel,rfl,by decide+kernel,by decide+kernel⟩
def iV:FZ:=(bK (cf 5 (jx (iP (cx (aw bV (af (e2 br (ag 1) (eC (.int 2))) aA)))) (pd 0) (bP (b2 rV (aw bV (af (e2 br (e2 br (e2 br (ag 1) (eC (.int 2))) (ag 0)) (eC (.int 1))) aA)) (e2 br (e2 br (e2 br (ag 2) (eC (.int 0))) (ag 3)) (eC (.int 1))))) (xP (ag 0)) ["out"] [1,2,4])) (bK (cf 6 (xP (aw aJ (af (ag 0) (af (e2 bH (eC (.int 80)) (ag 4)) aA))))) (uB (bP (vp (b2 rA (ag 5) (eNew (cZ aA))) (b2 rW (e2 du (ag 6) (eC (.int 4))) (eC (.int 0))))) (xC 3 (xP (dz (af (e2 br (ag 5) (e2 du (e2 mi (ag 6) (eC (.int 4))) (aw bV (af (ag 5) aA)))) (af (ag 4) aA))))) lB)))
def lJ:FZ:=(bK (cf 3 (Bz (cZ aA))) (bK (qD (iP (cx (aw bV (af (e2 br (ag 2) (eC (.int 0))) aA)))) (pd 4) iV) (wZ 3 (bK (uB (bP (b2 rV (e2 du (aw aJ (af (ag 0) (af (eC (.int 84)) aA))) (eC (.int 2))) (eC (.int 0)))) (cf 3 (xP (Ka (ag 3)))) lB) (oV (xP (ag 3)))))))
def ub:List V3->aZ->R3 V3:=rC iL lJ
def jM:List V3->aZ->R3 V3:=wj iL lJ
theorem vf(T:Tp K mg cl)(h:Def K mg "_law_pairs" gg)(aY:Callee P w K mg base 1 "_law_stir" 2 aJ):iI P w K mg base cl 2 "_law_pairs" 3 ub:=
 MS h tM.2 m8.2 vm fun _ _ _ _ _ _ _ hr nd=>(aT (bJ (wz (b6 ai))) (aT (uc (cE (bQ (aI cu rfl T.z_len PySem.boot_len (ae (ay (aa 2) ah) ai)) rfl T.z_range)) bL (aT (dF (cE (bQ (aI cu rfl T.z_len PySem.boot_len (ae (ay (aa 1) ah) ai)) rfl T.z_range)) (fun _ _ _=>bL) (fun _ _ _=>(nc (dj (bo (o5 hr.units) (aI cu rfl T.z_len PySem.boot_len (ae (ay (ay (ay (aa 1) ah) (aa 0)) ah) ai)) (ay (ay (ay (aa 2) ah) (aa 3)) ah))))) (fun _ _ _=>(az (aa 0)))) (aT (bJ (az (aQ aY (ae (aa 0) (ae (ax bw ah (aa 4)) ai))))) (cm (qq (dj (lU (qh (bo (va hr.units) (aa 5) (bj (b6 ai))) (oq (bo wC (ax c_ (aa 6) ah) ah))))) (cm (wO (az (bE (ae (ay (aa 5) (ax c_ (ax qx (aa 6) ah) (aI cu rfl T.z_len PySem.boot_len (ae (aa 5) ai)))) (ae (aa 4) ai)))))) jY))))) (tR 3 (aT (qq (dj (bo (o5 hr.units) (ax c_ (aQ aY (ae (aa 0) (ae ah ai))) ah) ah)) (cm (bJ (az (Ed (aa 3) (qV (yg ah)))))) jY) (cm (lA (az (aa 3))))))))
abbrev eD:Stmt:=top 34
noncomputable abbrev fY:List Str:=["one","other","pairs","found","e"]
noncomputable def qS:{b:List Stmt // bh eD=b}:=⟨_,by conv=>lhs;whnf⟩
noncomputable def lg:{b:Scope // aO eD=b}:=⟨_,by conv=>lhs;whnf⟩
theorem mw:bz fY ["one","other","pairs"] lg.1:=⟨rfl,rfl,rfl,by decide+kernel,rfl,by decide+kernel,by decide+kernel⟩
def iX:FZ:=(bK (cf 3 (xP (eNew (cZ aA)))) (bK (rO (ql (h_ (sr g8) (kI (bp (xP (ag 0)) (bp (xP (ag 1)) (bp (xP (ag 2)) fK)))))) (fun c=>[4,5,11].contains c) 4 (bK (cf 3 (ze (bp (lK (iF 4) (we [(4,false),(5,false),(11,false)])) (bp (lK (iF 4) (we [(4,false),(5,false),(11,false)])) (bp (lK (iF 4) (we [(4,false),(5,false),(11,false)])) (bp (lK (iF 4) (we [(4,true),(5,false),(11,false)])) fK)))))) (bK (cf 3 (x2 bH (xP (ag 3)) (ze (bp (lK (iF 4) (we [(4,false),(5,true),(11,false)])) (bp (lK (iF 4) (we [(4,false),(5,false),(11,false)])) (bp (lK (iF 4) (we [(4,false),(5,false),(11,false)])) (bp (lK (iF 4) (we [(4,false),(5,false),(11,false)])) fK))))))) (bK (cf 3 (x2 bH (xP (ag 3)) (ze (bp (lK (iF 4) (we [(4,false),(5,false),(11,false)])) (bp (lK (iF 4) (we [(4,false),(5,false),(11,false)])) (bp (lK (iF 4) (we [(4,false),(5,false),(11,true)])) (bp (lK (iF 4) (we [(4,false),(5,false),(11,false)])) fK))))))) (cf 3 (x2 bH (xP (ag 3)) (ze (bp (lK (iF 4) (we [(4,false),(5,false),(11,false)])) (bp (GW (lK (iF 4) (we [(4,true),(5,true),(11,true)]))) fK))))))))) (oV (xP (ag 3)))))
def qM:List V3->aZ->R3 V3:=rC fY iX
def eS:List V3->aZ->R3 V3:=wj fY iX
theorem rE(T:Tp K mg cl)(h:Def K mg "_law_refused" eD)(oE:bO P w K mg base cl 3 "joined" 3 g8):iI P w K mg base cl 4 "_law_refused" 3 qM:=
 MS h qS.2 lg.2 mw fun _ _ _ _ _ _ _ hr nd=>(aT (bJ (az (bj (b6 ai)))) (aT (GN rfl rfl rfl (K3 (t7 T.E_Twice_FaultError (t7 T.E_Full_FaultError (t7 T.E_NoFit_FaultError GJ)))) rfl T.M_FaultError mw.nd rfl rfl (fun pn xe E hp=>(fj (lC (jB hp (bO.q oE) hr (by decide) rfl (gb (aN (az (aa 0)) (aN (az (aa 1)) (aN (az (aa 2)) cG)))) (l9 (cY (cY (cY g_)))))))) (fun a pn=>(aT (bJ (t9 (aN (eW (dD 4) (dv (v:= .ref (cl 1)) rfl T.M_TooLong rfl) rfl rfl T.z_isinstance (ig (aW ⟨T.X_Twice,T.I_Twice_TooLong⟩ (aW ⟨T.X_Full,T.I_Full_TooLong⟩ (aW ⟨T.X_NoFit,T.I_NoFit_TooLong⟩ eV)))) T.O_TooLong) (aN (eW (dD 4) (dv (v:= .ref (cl 2)) rfl T.M_NoForm rfl) rfl rfl T.z_isinstance (ig (aW ⟨T.X_Twice,T.I_Twice_NoForm⟩ (aW ⟨T.X_Full,T.I_Full_NoForm⟩ (aW ⟨T.X_NoFit,T.I_NoFit_NoForm⟩ eV)))) T.O_NoForm) (aN (eW (dD 4) (dv (v:= .ref (cl 3)) rfl T.M_NoPlace rfl) rfl rfl T.z_isinstance (ig (aW ⟨T.X_Twice,T.I_Twice_NoPlace⟩ (aW ⟨T.X_Full,T.I_Full_NoPlace⟩ (aW ⟨T.X_NoFit,T.I_NoFit_NoPlace⟩ eV)))) T.O_NoPlace) (aN (eW (dD 4) (dv (v:= .ref (cl 4)) rfl T.M_Twice rfl) rfl rfl T.z_isinstance (ig (aW ⟨T.X_Twice,T.I_Twice_Twice⟩ (aW ⟨T.X_Full,T.I_Full_Twice⟩ (aW ⟨T.X_NoFit,T.I_NoFit_Twice⟩ eV)))) T.O_Twice) cG)))))) (aT (bJ (Bx bw (az (aa 3)) (t9 (aN (eW (dD 4) (dv (v:= .ref (cl 5)) rfl T.M_Full rfl) rfl rfl T.z_isinstance (ig (aW ⟨T.X_Twice,T.I_Twice_Full⟩ (aW ⟨T.X_Full,T.I_Full_Full⟩ (aW ⟨T.X_NoFit,T.I_NoFit_Full⟩ eV)))) T.O_Full) (aN (eW (dD 4) (dv (v:= .ref (cl 6)) rfl T.M_NoWire rfl) rfl rfl T.z_isinstance (ig (aW ⟨T.X_Twice,T.I_Twice_NoWire⟩ (aW ⟨T.X_Full,T.I_Full_NoWire⟩ (aW ⟨T.X_NoFit,T.I_NoFit_NoWire⟩ eV)))) T.O_NoWire) (aN (eW (dD 4) (dv (v:= .ref (cl 7)) rfl T.M_Open rfl) rfl rfl T.z_isinstance (ig (aW ⟨T.X_Twice,T.I_Twice_Open⟩ (aW ⟨T.X_Full,T.I_Full_Open⟩ (aW ⟨T.X_NoFit,T.I_NoFit_Open⟩ eV)))) T.O_Open) (aN (eW (dD 4) (dv (v:= .ref (cl 8)) rfl T.M_NotPlain rfl) rfl rfl T.z_isinstance (ig (aW ⟨T.X_Twice,T.I_Twice_NotPlain⟩ (aW ⟨T.X_Full,T.I_Full_NotPlain⟩ (aW ⟨T.X_NoFit,T.I_NoFit_NotPlain⟩ eV)))) T.O_NotPlain) cG))))))) (aT (bJ (Bx bw (az (aa 3)) (t9 (aN (eW (dD 4) (dv (v:= .ref (cl 9)) rfl T.M_NotThree rfl) rfl rfl T.z_isinstance (ig (aW ⟨T.X_Twice,T.I_Twice_NotThree⟩ (aW ⟨T.X_Full,T.I_Full_NotThree⟩ (aW ⟨T.X_NoFit,T.I_NoFit_NotThree⟩ eV)))) T.O_NotThree) (aN (eW (dD 4) (dv (v:= .ref (cl 10)) rfl T.M_NotSound rfl) rfl rfl T.z_isinstance (ig (aW ⟨T.X_Twice,T.I_Twice_NotSound⟩ (aW ⟨T.X_Full,T.I_Full_NotSound⟩ (aW ⟨T.X_NoFit,T.I_NoFit_NotSound⟩ eV)))) T.O_NotSound) (aN (eW (dD 4) (dv (v:= .ref (cl 11)) rfl T.M_NoFit rfl) rfl rfl T.z_isinstance (ig (aW ⟨T.X_Twice,T.I_Twice_NoFit⟩ (aW ⟨T.X_Full,T.I_Full_NoFit⟩ (aW ⟨T.X_NoFit,T.I_NoFit_NoFit⟩ eV)))) T.O_NoFit) (aN (eW (dD 4) (dv (v:= .ref (cl 12)) rfl T.M_NoShape rfl) rfl rfl T.z_isinstance (ig (aW ⟨T.X_Twice,T.I_Twice_NoShape⟩ (aW ⟨T.X_Full,T.I_Full_NoShape⟩ (aW ⟨T.X_NoFit,T.I_NoFit_NoShape⟩ eV)))) T.O_NoShape) cG))))))) (cm (bJ (Bx bw (az (aa 3)) (t9 (aN (eW (dD 4) (dv (v:= .ref (cl 13)) rfl T.M_NoneYet rfl) rfl rfl T.z_isinstance (ig (aW ⟨T.X_Twice,T.I_Twice_NoneYet⟩ (aW ⟨T.X_Full,T.I_Full_NoneYet⟩ (aW ⟨T.X_NoFit,T.I_NoFit_NoneYet⟩ eV)))) T.O_NoneYet) (aN (Ib (eW (dD 4) (DD (v:= .ty "ValueError") rfl T.z_ValueError PyProof.Rows.Boot.«ValueError» rfl) rfl rfl T.z_isinstance (ig (aW ⟨T.X_Twice,T.I_Twice_ValueError⟩ (aW ⟨T.X_Full,T.I_Full_ValueError⟩ (aW ⟨T.X_NoFit,T.I_NoFit_ValueError⟩ eV)))) T.O_ValueError)) cG))))))))))) (cm (lA (az (aa 3))))))
abbrev gp:Stmt:=top 35
noncomputable abbrev oU:List Str:=["wires","first","many"]
noncomputable def sV:{b:List Stmt // bh gp=b}:=⟨_,by conv=>lhs;whnf⟩
noncomputable def nB:{b:Scope // aO gp=b}:=⟨_,by conv=>lhs;whnf⟩
theorem vS:bz oU ["wires","first","many"] nB.1:=⟨rfl,rfl,rfl,by decide+kernel,rfl,by decide+kernel,by decide+kernel⟩
def oJ:FS:=(hV (aw nY (af (eNew (b7 (cn (ag 0)) (aM 0) fJ (e2 bH (ag 0) (e2 kE (ag 2) (aw ng (af (e2 KY (ag 0) (ag 1)) aA)))) ["wire"] [1,2])) aA)))
def eP:List D->R D:=tm oU oJ
theorem vM(T:Tp K mg cl)(h:Def K mg "_law_moved" gp):Callee P w K mg base 1 "_law_moved" 3 eP:=
 Dl h sV.2 nB.2 vS fun _ _ _ _ _ _ _ hr nd=>(bM (cg (cB pG rfl T.z_tuple PyProof.Rows.boot_tuple (ae (bj (cw (bU (aa 0)) (fun _ _ _=>aH) (fun _ _ _=>bS) (fun _ _ _=>(ax bw (aa 0) (ax lE (aa 2) (cB wo rfl T.z_int PyProof.Rows.boot_int (ae (nJ KD (aa 0) (aa 1)) ai))))))) ai))))
abbrev gm:Stmt:=top 36
noncomputable abbrev gf:List Str:=["cell","one","other","kind","many","need","more","rest","first","ins","gates","outs"]
noncomputable def uk:{b:List Stmt // bh gm=b}:=⟨_,by conv=>lhs;whnf⟩
noncomputable def m7:{b:Scope // aO gm=b}:=⟨_,by conv=>lhs;whnf⟩
theorem uT:bz gf ["cell","one","other"] m7.1:=⟨rfl,rfl,rfl,by decide+kernel,rfl,by decide+kernel,by decide+kernel⟩
def oO:FS:=(cF (eA 3 (e2 du (aw aJ (af (ag 0) (af (eC (.int 90)) aA))) (eC (.int 4)))) (cF (eA 4 (e2 du (aw aJ (af (ag 0) (af (eC (.int 91)) aA))) (eC (.int 3)))) (cF (xD (b2 rV (ag 3) (eC (.int 0))) (cF (eA 5 (e2 oW (e2 oW (e2 bH (eC (.int 59)) (ag 4)) (aw bV (af (e2 br (ag 1) (eC (.int 1))) aA))) (aw bV (af (e2 br (ag 2) (eC (.int 1))) aA)))) (cF (eA 6 (eNew (AZ (cZ (af (dz (af (eC (.str "not")) (af (dz (af (eC (.int 0)) aA)) (af (eC (.bl false)) aA)))) aA)) (e2 mi (ag 5) (eC (.int 2)))))) (cF (eA 7 (eNew (AZ (cZ (af (dz (af (eC (.str "not")) (af (dz (af (eC (.int 0)) aA)) (af (eC (.bl false)) aA)))) aA)) (e2 oW (ag 5) (e2 mi (ag 5) (eC (.int 2))))))) (hV (dz (af (dz (af (e2 br (ag 1) (eC (.int 0))) (af (e2 bH (e2 br (ag 1) (eC (.int 1))) (ag 6)) (af (e2 br (ag 1) (eC (.int 2))) aA)))) (af (dz (af (e2 br (ag 2) (eC (.int 0))) (af (e2 bH (e2 br (ag 2) (eC (.int 1))) (ag 7)) (af (e2 br (ag 2) (eC (.int 2))) aA)))) aA))))))) rR) (cF (xD (b2 rV (ag 3) (eC (.int 1))) (cF (eA 8 (aw so (af (eNew (b7 (cn (e2 br (ag 1) (eC (.int 0)))) (dy 2 (bb (aM 0) (bb (aM 1) dw))) fJ (ag 1) ["name","width"] [])) aA))) (cF (eA 4 (aw uW (af (e2 bH (eC (.int 2)) (ag 4)) (af (e2 oW (eC (.int 6)) (aw bV (af (e2 br (ag 1) (eC (.int 0))) aA))) aA)))) (cF (eA 9 (e2 bH (e2 br (ag 1) (eC (.int 0))) (eNew (b7 (cx (ag 4)) (aM 0) fJ (dz (af (e2 bH (eC (.str "k")) (e2 br (eC (.str "abcd")) (ag 0))) (af (eC (.int 1)) aA))) ["k"] [])))) (cF (eA 10 (eNew (b7 (cn (e2 br (ag 1) (eC (.int 1)))) (dy 3 (bb (aM 0) (bb (aM 1) (bb (aM 2) dw)))) fJ (dz (af (ag 0) (af (aw eP (af (ag 1) (af (ag 4) (af (ag 3) aA)))) (af (ag 2) aA)))) ["word","wires","sure"] [4,8]))) (cF (eA 11 (eNew (b7 (cn (e2 br (ag 1) (eC (.int 2)))) (dy 2 (bb (aM 0) (bb (aM 1) dw))) fJ (dz (af (ag 0) (af (aw eP (af (ag 1) (af (ag 3) (af (ag 2) aA)))) aA))) ["name","wires"] [4,8]))) (hV (dz (af (dz (af (ag 9) (af (ag 10) (af (ag 11) aA)))) (af (ag 2) aA))))))))) rR) (cF (xD (b2 rV (ag 3) (eC (.int 2))) (cF (eA 4 (aw uW (af (e2 bH (eC (.int 2)) (ag 4)) (af (e2 oW (eC (.int 6)) (aw bV (af (e2 br (ag 1) (eC (.int 2))) aA))) aA)))) (hV (dz (af (dz (af (e2 br (ag 1) (eC (.int 0))) (af (e2 br (ag 1) (eC (.int 1))) (af (e2 bH (e2 br (ag 1) (eC (.int 2))) (eNew (b7 (cx (ag 4)) (aM 0) fJ (dz (af (e2 bH (eC (.str "k")) (e2 br (eC (.str "abcd")) (ag 0))) (af (dz (af (eC (.int 0)) aA)) aA))) ["k"] []))) aA)))) (af (ag 2) aA))))) rR) (hV (dz (af (ag 1) (af (ag 2) aA)))))))))
def iQ:List D->R D:=tm gf oO
theorem uV(T:Tp K mg cl)(h:Def K mg "_law_grown" gm)(aY:Callee P w K mg base 1 "_law_stir" 2 aJ)(iT:Callee P w K mg base 1 "_law_moved" 3 eP):Callee P w K mg base 2 "_law_grown" 3 iQ:=
 Dl h uk.2 m7.2 uT fun _ _ _ _ _ _ _ hr nd=>(aP (b3 (ax c_ (aQ aY (ae (aa 0) (ae ah ai))) ah)) (aP (b3 (ax c_ (aQ aY (ae (aa 0) (ae ah ai))) ah)) (aP (iR (bo (o5 hr.units) (aa 3) ah) (aP (b3 (ax p_ (ax p_ (ax bw ah (aa 4)) (aI cu rfl T.z_len PySem.boot_len (ae (ay (aa 1) ah) ai))) (aI cu rfl T.z_len PySem.boot_len (ae (ay (aa 2) ah) ai)))) (aP (b3 (bj (yX (b6 (ae (bE (ae b5 (ae (bE (ae ah ai)) (ae oi ai)))) ai)) (ax qx (aa 5) ah)))) (aP (b3 (bj (yX (b6 (ae (bE (ae b5 (ae (bE (ae ah ai)) (ae oi ai)))) ai)) (ax p_ (aa 5) (ax qx (aa 5) ah))))) (bM (cg (bE (ae (bE (ae (ay (aa 1) ah) (ae (ax bw (ay (aa 1) ah) (aa 6)) (ae (ay (aa 1) ah) ai)))) (ae (bE (ae (ay (aa 2) ah) (ae (ax bw (ay (aa 2) ah) (aa 7)) (ae (ay (aa 2) ah) ai)))) ai)))))))) ie) (aP (iR (bo (o5 hr.units) (aa 3) ah) (aP (b3 (aI (wH rfl) rfl T.z_sum PyProof.Rows.boot_sum (ae (bj (cw (bU (ay (aa 1) ah)) (fun _ _ _=>(cQ (aR aH (aR aH ck)))) (fun _ _ _=>bS) (fun _ _ _=>(aa 1)))) ai))) (aP (b3 (aI (Bi rfl) rfl T.z_min PyProof.Rows.boot_min (ae (ax bw ah (aa 4)) (ae (ax p_ ah (aI cu rfl T.z_len PySem.boot_len (ae (ay (aa 1) ah) ai))) ai)))) (aP (b3 (ax bw (ay (aa 1) ah) (bj (cw (bQ (aa 4) rfl T.z_range) (fun _ _ _=>aH) (fun _ _ _=>bS) (fun _ _ _=>(bE (ae (ax bw b5 (ay b5 (aa 0))) (ae ah ai)))))))) (aP (gY (bU (ay (aa 1) ah)) (fun _ _ _=>(cQ (aR aH (aR aH (aR aH ck))))) (fun _ _ _=>bS) (fun _ _ _=>(bE (ae (aa 0) (ae (aQ iT (ae (aa 1) (ae (aa 4) (ae (aa 3) ai)))) (ae (aa 2) ai)))))) (aP (gY (bU (ay (aa 1) ah)) (fun _ _ _=>(cQ (aR aH (aR aH ck)))) (fun _ _ _=>bS) (fun _ _ _=>(bE (ae (aa 0) (ae (aQ iT (ae (aa 1) (ae (aa 3) (ae (aa 2) ai)))) ai))))) (bM (cg (bE (ae (bE (ae (aa 9) (ae (aa 10) (ae (aa 11) ai)))) (ae (aa 2) ai)))))))))) ie) (aP (iR (bo (o5 hr.units) (aa 3) ah) (aP (b3 (aI (Bi rfl) rfl T.z_min PyProof.Rows.boot_min (ae (ax bw ah (aa 4)) (ae (ax p_ ah (aI cu rfl T.z_len PySem.boot_len (ae (ay (aa 1) ah) ai))) ai)))) (bM (cg (bE (ae (bE (ae (ay (aa 1) ah) (ae (ay (aa 1) ah) (ae (ax bw (ay (aa 1) ah) (bj (cw (bQ (aa 4) rfl T.z_range) (fun _ _ _=>aH) (fun _ _ _=>bS) (fun _ _ _=>(bE (ae (ax bw b5 (ay b5 (aa 0))) (ae (bE (ae ah ai)) ai))))))) ai)))) (ae (aa 2) ai)))))) ie) (bM (cg (bE (ae (aa 1) (ae (aa 2) ai))))))))))
abbrev jr:Stmt:=top 37
noncomputable abbrev l0:List Str:=["one","other","pairs","out","place","places","used","ins","outs","some"]
noncomputable def xl:{b:List Stmt // bh jr=b}:=⟨_,by conv=>lhs;whnf⟩
noncomputable def qL:{b:Scope // aO jr=b}:=⟨_,by conv=>lhs;whnf⟩
theorem zS:bz l0 ["one","other","pairs"] qL.1:=⟨rfl,rfl,rfl,by decide+kernel,rfl,by decide+kernel,by decide+kernel⟩
def lj:FS:=(xD (b2 rA (aw bV (af (e2 br (e2 br (e2 br (ag 0) (eC (.int 2))) (ag 3)) (eC (.int 1))) aA)) (e2 br (e2 br (e2 br (ag 1) (eC (.int 0))) (ag 4)) (eC (.int 1)))) (hV (eC (.int 10))) rR)
def iJ:FS:=(xD (b2 Ge (u6 (ag 9)) (aw bV (af (ag 9) aA))) (hV (eC (.int 3))) rR)
def jq:FS:=(cF (uZ (cn (ag 2)) (dy 2 (bb (aM 3) (bb (aM 4) dw))) lj) (cF (eA 5 (eNew (b7 (cn (ag 2)) (dy 2 (bb (aM 0) (bb (aM 1) dw))) fJ (ag 1) ["out","place"] []))) (cF (eA 6 (eNew (b7 (cn (ag 2)) (dy 2 (bb (aM 0) (bb (aM 1) dw))) fJ (ag 0) ["out","place"] []))) (cF (eA 7 (eNew (b7 (cn (e2 br (ag 0) (eC (.int 0)))) (dy 2 (bb (aM 0) (bb (aM 1) dw))) fJ (ag 0) ["name","width"] []))) (cF (eA 7 (e2 bH (ag 7) (eNew (b7 (cx (aw bV (af (e2 br (ag 1) (eC (.int 0))) aA))) (aM 0) (b2 mK (ag 0) (ag 2)) (e2 br (e2 br (e2 br (ag 1) (eC (.int 0))) (ag 0)) (eC (.int 0))) ["place"] [1,5])))) (cF (eA 8 (eNew (b7 (cx (aw bV (af (e2 br (ag 0) (eC (.int 2))) aA))) (aM 0) (b2 mK (ag 0) (ag 2)) (e2 br (e2 br (e2 br (ag 1) (eC (.int 2))) (ag 0)) (eC (.int 0))) ["place"] [0,6]))) (cF (eA 8 (e2 bH (ag 8) (eNew (b7 (cn (e2 br (ag 1) (eC (.int 2)))) (dy 2 (bb (aM 0) (bb (aM 1) dw))) fJ (ag 0) ["name","wires"] [])))) (cF (uZ (cn (eNew (cZ (af (ag 5) (af (ag 7) (af (ag 8) aA)))))) (aM 9) iJ) (cF (xD (uL (b2 rW (aw bV (af (ag 7) aA)) (eC (.int 6))) (uL (b2 rW (aw bV (af (ag 8) aA)) (eC (.int 6))) (b2 rW (e2 bH (aw bV (af (e2 br (ag 0) (eC (.int 1))) aA)) (aw bV (af (e2 br (ag 1) (eC (.int 1))) aA))) (eC (.int 60))))) (hV (eC (.int 4))) rR) (hV (Ex (eC (.int 1)))))))))))))
def jw:List D->R D:=tm l0 jq
theorem y_(T:Tp K mg cl)(h:Def K mg "_law_due" jr):Callee P w K mg base 1 "_law_due" 3 jw:=
 Dl h xl.2 qL.2 zS fun _ _ _ _ _ _ _ hr nd=>(aP (qi (bU (aa 2)) (cQ (aR aH (aR aH ck))) (bM (iR (bo (va hr.units) (aI cu rfl T.z_len PySem.boot_len (ae (ay (ay (ay (aa 0) ah) (aa 3)) ah) ai)) (ay (ay (ay (aa 1) ah) (aa 4)) ah)) (bM (cg ah)) ie))) (aP (b3 (bj (cw (bU (aa 2)) (fun _ _ _=>(cQ (aR aH (aR aH ck)))) (fun _ _ _=>bS) (fun _ _ _=>(aa 1))))) (aP (b3 (bj (cw (bU (aa 2)) (fun _ _ _=>(cQ (aR aH (aR aH ck)))) (fun _ _ _=>bS) (fun _ _ _=>(aa 0))))) (aP (gY (bU (ay (aa 0) ah)) (fun _ _ _=>(cQ (aR aH (aR aH ck)))) (fun _ _ _=>bS) (fun _ _ _=>(aa 0))) (aP (b3 (ax bw (aa 7) (bj (cw (bQ (aI cu rfl T.z_len PySem.boot_len (ae (ay (aa 1) ah) ai)) rfl T.z_range) (fun _ _ _=>aH) (fun _ _ _=>(uI (bo tO (aa 0) (aa 2)))) (fun _ _ _=>(ay (ay (ay (aa 1) ah) (aa 0)) ah)))))) (aP (gY (bQ (aI cu rfl T.z_len PySem.boot_len (ae (ay (aa 0) ah) ai)) rfl T.z_range) (fun _ _ _=>aH) (fun _ _ _=>(uI (bo tO (aa 0) (aa 2)))) (fun _ _ _=>(ay (ay (ay (aa 1) ah) (aa 0)) ah))) (aP (b3 (ax bw (aa 8) (bj (cw (bU (ay (aa 1) ah)) (fun _ _ _=>(cQ (aR aH (aR aH ck)))) (fun _ _ _=>bS) (fun _ _ _=>(aa 0)))))) (aP (qi (bU (bj (b6 (ae (aa 5) (ae (aa 7) (ae (aa 8) ai)))))) aH (bM (iR (bo K8 (Ep T.z_len T.z_sorted T.z_set (aa 9)) (aI cu rfl T.z_len PySem.boot_len (ae (aa 9) ai))) (bM (cg ah)) ie))) (aP (iR (lU (nL (bo wC (aI cu rfl T.z_len PySem.boot_len (ae (aa 7) ai)) ah) (nL (bo wC (aI cu rfl T.z_len PySem.boot_len (ae (aa 8) ai)) ah) (qk (bo wC (ax bw (aI cu rfl T.z_len PySem.boot_len (ae (ay (aa 0) ah) ai)) (aI cu rfl T.z_len PySem.boot_len (ae (ay (aa 1) ah) ai))) ah))))) (bM (cg ah)) ie) (bM (cg (yg ah))))))))))))
abbrev yK:Stmt:=top 38
noncomputable abbrev oQ:List Str:=["script","cell","one","letters","other","pairs","way","fits","due","handed","some"]
noncomputable def HR:{b:List Stmt // bh yK=b}:=⟨_,by conv=>lhs;whnf⟩
noncomputable def BU:{b:Scope // aO yK=b}:=⟨_,by conv=>lhs;whnf⟩
theorem Gd:bz oQ ["script"] BU.1:=⟨rfl,rfl,rfl,by decide+kernel,rfl,by decide+kernel,by decide+kernel⟩
def ue:FZ:=(bK (cf 2 (h_ eR (bp (xP (ag 1)) (bp (xP (eC (.int 0))) (bp (xP (eC (.str "abcdefg"))) (bp (xP (eNew (cZ (af (eC (.int 1)) (af (eC (.int 2)) (af (eC (.int 3)) aA)))))) fK)))))) (bK (cf 3 (xP (e2 br (eNew (cZ (af (eC (.str "nopqrst")) (af (eC (.str "nbpqrst")) (af (eC (.str "nopqrse")) (af (eC (.str "abcdefg")) aA)))))) (e2 du (aw aJ (af (ag 1) (af (eC (.int 92)) aA))) (eC (.int 4)))))) (bK (cf 4 (h_ eR (bp (xP (ag 1)) (bp (xP (eC (.int 150))) (bp (xP (ag 3)) (bp (xP (eNew (cZ (af (eC (.int 1)) (af (eC (.int 2)) (af (eC (.int 3)) aA)))))) fK)))))) (bK (cf 5 (h_ jM (bp (xP (ag 1)) (bp (xP (ag 2)) (bp (xP (ag 4)) fK))))) (bK (Hv (xP (aw iQ (af (ag 1) (af (ag 2) (af (ag 4) aA))))) (Gn 2 (z_ (pd 2) (z_ (pd 4) IF)))) (bK (cf 6 (xP (e2 du (aw aJ (af (ag 1) (af (eC (.int 93)) aA))) (eC (.int 5))))) (bK (uB (bP (b2 rV (ag 6) (eC (.int 0)))) (cf 5 (xP (e2 bH (ag 5) (eNew (cZ (af (dz (af (e2 du (aw aJ (af (ag 1) (af (eC (.int 94)) aA))) (aw bV (af (e2 br (ag 2) (eC (.int 2))) aA))) (af (e2 du (aw aJ (af (ag 1) (af (eC (.int 95)) aA))) (aw bV (af (e2 br (ag 4) (eC (.int 0))) aA))) aA))) aA)))))) lB) (bK (uB (bP (vp (b2 rV (ag 6) (eC (.int 1))) (b2 rA (ag 5) (eNew (cZ aA))))) (cf 5 (xP (e2 bH (ag 5) (eNew (cZ (af (e2 br (ag 5) (e2 du (aw aJ (af (ag 1) (af (eC (.int 94)) aA))) (aw bV (af (ag 5) aA)))) aA)))))) lB) (bK (uB (bP (vp (b2 rV (ag 6) (eC (.int 2))) (b2 rA (ag 5) (eNew (cZ aA))))) (bK (cf 7 (jx (iP (cx (aw bV (af (e2 br (ag 2) (eC (.int 2))) aA)))) (pd 0) (bP (b2 rV (aw bV (af (e2 br (e2 br (e2 br (ag 1) (eC (.int 2))) (ag 0)) (eC (.int 1))) aA)) (aw bV (af (e2 br (e2 br (e2 br (ag 1) (eC (.int 2))) (e2 br (e2 br (ag 2) (eC (.int 0))) (eC (.int 0)))) (eC (.int 1))) aA)))) (xP (ag 0)) ["k"] [2,5])) (cf 5 (xP (e2 bH (eNew (cZ (af (dz (af (e2 br (ag 7) (e2 du (aw aJ (af (ag 1) (af (eC (.int 94)) aA))) (aw bV (af (ag 7) aA)))) (af (e2 br (e2 br (ag 5) (eC (.int 0))) (eC (.int 1))) aA))) aA))) (ag 5))))) lB) (bK (cf 8 (xP (aw jw (af (ag 2) (af (ag 4) (af (ag 5) aA)))))) (bK (cf 9 (jx (iP (cn (eNew (cZ (af (ag 2) (af (ag 4) aA)))))) (pd 0) xn (xP (dz (af (aw mC (af (e2 br (ag 0) (eC (.int 0))) aA)) (af (aw mC (af (e2 br (ag 0) (eC (.int 1))) aA)) (af (aw mC (af (e2 br (ag 0) (eC (.int 2))) aA)) aA))))) ["net"] [])) (bK (cf 10 (xP (aw mC (af (ag 5) aA)))) (bK (uB (ME rA (h_ eS (bp (xP (e2 br (ag 9) (eC (.int 0)))) (bp (xP (e2 br (ag 9) (eC (.int 1)))) (bp (xP (ag 10)) fK)))) (xP (eNew (b7 (cx (e2 br (eNew (cZ (af (eC (.int 14)) (af (eC (.int 0)) aA)))) (aw ng (af (e2 Ge (ag 8) (eC (.int 0))) aA)))) (aM 0) fJ (e2 rV (ag 1) (ag 0)) ["k"] [8])))) (oV (xP (eC (.bl false)))) lB) (uB (bP (uL (b2 rA (ag 10) (ag 5)) (b2 rA (ag 9) (eNew (cZ (af (ag 2) (af (ag 4) aA))))))) (oV (xP (eC (.bl false)))) lB))))))))))))))
def qy:FZ:=(bK (qD (iP (cn (e2 bH (eNew (cZ (af (eC (.int 0)) aA))) (JN (ag 0) yj (qr (eC (.int 12))))))) (pd 1) ue) (oV (xP (eC (.bl true)))))
def Nf:List V3->aZ->R3 V3:=rC oQ qy
def M5:List V3->aZ->R3 V3:=wj oQ qy
def ym:List D->R D:=My oQ qy
structure Cf (K:W.Frag) (mg:Wu) (cl:Wv):Prop where
 M_FaultError:mg "FaultError"=some (.ref (cl 0))
 M_TooLong:mg "TooLong"=some (.ref (cl 1))
 M_NoForm:mg "NoForm"=some (.ref (cl 2))
 M_NoPlace:mg "NoPlace"=some (.ref (cl 3))
 M_Twice:mg "Twice"=some (.ref (cl 4))
 M_Full:mg "Full"=some (.ref (cl 5))
 M_NoWire:mg "NoWire"=some (.ref (cl 6))
 M_Open:mg "Open"=some (.ref (cl 7))
 M_NotPlain:mg "NotPlain"=some (.ref (cl 8))
 M_NotThree:mg "NotThree"=some (.ref (cl 9))
 M_NotSound:mg "NotSound"=some (.ref (cl 10))
 M_NoFit:mg "NoFit"=some (.ref (cl 11))
 M_NoShape:mg "NoShape"=some (.ref (cl 12))
 M_NoneYet:mg "NoneYet"=some (.ref (cl 13))
 X_Twice:XC K (cl 4)
 X_Full:XC K (cl 5)
 X_NoFit:XC K (cl 11)
 I_NoFit_Twice:PySem.W.kitOne K (.ref (cl 11)) (.ref (cl 4))=some false
 I_Full_Twice:PySem.W.kitOne K (.ref (cl 5)) (.ref (cl 4))=some false
 I_Twice_Twice:PySem.W.kitOne K (.ref (cl 4)) (.ref (cl 4))=some true
 O_Twice:PySem.W.kitOne K (.type "NoneType") (.ref (cl 4))=some false
 I_NoFit_NoPlace:PySem.W.kitOne K (.ref (cl 11)) (.ref (cl 3))=some false
 I_Full_NoPlace:PySem.W.kitOne K (.ref (cl 5)) (.ref (cl 3))=some false
 I_Twice_NoPlace:PySem.W.kitOne K (.ref (cl 4)) (.ref (cl 3))=some false
 O_NoPlace:PySem.W.kitOne K (.type "NoneType") (.ref (cl 3))=some false
 I_NoFit_NoForm:PySem.W.kitOne K (.ref (cl 11)) (.ref (cl 2))=some false
 I_Full_NoForm:PySem.W.kitOne K (.ref (cl 5)) (.ref (cl 2))=some false
 I_Twice_NoForm:PySem.W.kitOne K (.ref (cl 4)) (.ref (cl 2))=some false
 O_NoForm:PySem.W.kitOne K (.type "NoneType") (.ref (cl 2))=some false
 I_NoFit_TooLong:PySem.W.kitOne K (.ref (cl 11)) (.ref (cl 1))=some false
 I_Full_TooLong:PySem.W.kitOne K (.ref (cl 5)) (.ref (cl 1))=some false
 I_Twice_TooLong:PySem.W.kitOne K (.ref (cl 4)) (.ref (cl 1))=some false
 O_TooLong:PySem.W.kitOne K (.type "NoneType") (.ref (cl 1))=some false
 I_NoFit_NotPlain:PySem.W.kitOne K (.ref (cl 11)) (.ref (cl 8))=some false
 I_Full_NotPlain:PySem.W.kitOne K (.ref (cl 5)) (.ref (cl 8))=some false
 I_Twice_NotPlain:PySem.W.kitOne K (.ref (cl 4)) (.ref (cl 8))=some false
 O_NotPlain:PySem.W.kitOne K (.type "NoneType") (.ref (cl 8))=some false
 I_NoFit_Open:PySem.W.kitOne K (.ref (cl 11)) (.ref (cl 7))=some false
 I_Full_Open:PySem.W.kitOne K (.ref (cl 5)) (.ref (cl 7))=some false
 I_Twice_Open:PySem.W.kitOne K (.ref (cl 4)) (.ref (cl 7))=some false
 O_Open:PySem.W.kitOne K (.type "NoneType") (.ref (cl 7))=some false
 I_NoFit_NoWire:PySem.W.kitOne K (.ref (cl 11)) (.ref (cl 6))=some false
 I_Full_NoWire:PySem.W.kitOne K (.ref (cl 5)) (.ref (cl 6))=some false
 I_Twice_NoWire:PySem.W.kitOne K (.ref (cl 4)) (.ref (cl 6))=some false
 O_NoWire:PySem.W.kitOne K (.type "NoneType") (.ref (cl 6))=some false
 I_NoFit_Full:PySem.W.kitOne K (.ref (cl 11)) (.ref (cl 5))=some false
 I_Full_Full:PySem.W.kitOne K (.ref (cl 5)) (.ref (cl 5))=some true
 I_Twice_Full:PySem.W.kitOne K (.ref (cl 4)) (.ref (cl 5))=some false
 O_Full:PySem.W.kitOne K (.type "NoneType") (.ref (cl 5))=some false
 I_NoFit_NoShape:PySem.W.kitOne K (.ref (cl 11)) (.ref (cl 12))=some false
 I_Full_NoShape:PySem.W.kitOne K (.ref (cl 5)) (.ref (cl 12))=some false
 I_Twice_NoShape:PySem.W.kitOne K (.ref (cl 4)) (.ref (cl 12))=some false
 O_NoShape:PySem.W.kitOne K (.type "NoneType") (.ref (cl 12))=some false
 I_NoFit_NoFit:PySem.W.kitOne K (.ref (cl 11)) (.ref (cl 11))=some true
 I_Full_NoFit:PySem.W.kitOne K (.ref (cl 5)) (.ref (cl 11))=some false
 I_Twice_NoFit:PySem.W.kitOne K (.ref (cl 4)) (.ref (cl 11))=some false
 O_NoFit:PySem.W.kitOne K (.type "NoneType") (.ref (cl 11))=some false
 I_NoFit_NotSound:PySem.W.kitOne K (.ref (cl 11)) (.ref (cl 10))=some false
 I_Full_NotSound:PySem.W.kitOne K (.ref (cl 5)) (.ref (cl 10))=some false
 I_Twice_NotSound:PySem.W.kitOne K (.ref (cl 4)) (.ref (cl 10))=some false
 O_NotSound:PySem.W.kitOne K (.type "NoneType") (.ref (cl 10))=some false
 I_NoFit_NotThree:PySem.W.kitOne K (.ref (cl 11)) (.ref (cl 9))=some false
 I_Full_NotThree:PySem.W.kitOne K (.ref (cl 5)) (.ref (cl 9))=some false
 I_Twice_NotThree:PySem.W.kitOne K (.ref (cl 4)) (.ref (cl 9))=some false
 O_NotThree:PySem.W.kitOne K (.type "NoneType") (.ref (cl 9))=some false
 I_NoFit_ValueError:PySem.W.kitOne K (.ref (cl 11)) (.type "ValueError")=some true
 I_Full_ValueError:PySem.W.kitOne K (.ref (cl 5)) (.type "ValueError")=some true
 I_Twice_ValueError:PySem.W.kitOne K (.ref (cl 4)) (.type "ValueError")=some true
 O_ValueError:PySem.W.kitOne K (.type "NoneType") (.type "ValueError")=some false
 I_NoFit_NoneYet:PySem.W.kitOne K (.ref (cl 11)) (.ref (cl 13))=some false
 I_Full_NoneYet:PySem.W.kitOne K (.ref (cl 5)) (.ref (cl 13))=some false
 I_Twice_NoneYet:PySem.W.kitOne K (.ref (cl 4)) (.ref (cl 13))=some false
 O_NoneYet:PySem.W.kitOne K (.type "NoneType") (.ref (cl 13))=some false
 E_NoFit_FaultError:PySem.W.exmOne K (.ref (cl 11)) (.ref (cl 0))=some true
 E_Full_FaultError:PySem.W.exmOne K (.ref (cl 5)) (.ref (cl 0))=some true
 E_Twice_FaultError:PySem.W.exmOne K (.ref (cl 4)) (.ref (cl 0))=some true
theorem KN{K:W.Frag}{h:Heap}{mg:Wu}(X:K.In h)(G:h.Ns mainGlobals mg){C0:Addr}{C1:Addr}{C2:Addr}{C3:Addr}{C4:Addr}{C5:Addr}{C6:Addr}{C7:Addr}{C8:Addr}{C9:Addr}{JV:Addr}{nV:Addr}{JU:Addr}{JS:Addr}(O_:PySem.W.nsIn K mainGlobals "FaultError"=some (some (.ref C0)))(Pl:PySem.W.nsIn K mainGlobals "TooLong"=some (some (.ref C1)))(Oz:PySem.W.nsIn K mainGlobals "NoForm"=some (some (.ref C2)))(OA:PySem.W.nsIn K mainGlobals "NoPlace"=some (some (.ref C3)))(Pa:PySem.W.nsIn K mainGlobals "Twice"=some (some (.ref C4)))(OE:PySem.W.nsIn K mainGlobals "Full"=some (some (.ref C5)))(Pn:PySem.W.nsIn K mainGlobals "NoWire"=some (some (.ref C6)))(Pr:PySem.W.nsIn K mainGlobals "Open"=some (some (.ref C7)))(O9:PySem.W.nsIn K mainGlobals "NotPlain"=some (some (.ref C8)))(OJ:PySem.W.nsIn K mainGlobals "NotThree"=some (some (.ref C9)))(Jf:PySem.W.nsIn K mainGlobals "NotSound"=some (some (.ref JV)))(Jx:PySem.W.nsIn K mainGlobals "NoFit"=some (some (.ref nV)))(Jy:PySem.W.nsIn K mainGlobals "NoShape"=some (some (.ref JU)))(Jo:PySem.W.nsIn K mainGlobals "NoneYet"=some (some (.ref JS)))(OQ:PySem.W.excIn K C4 HN "ValueError.__new__"=true)(Pf:PySem.W.findIn K (.ref C4) "__getattribute__"=some (some (.builtin "BaseException.__getattribute__")))(Pj:PySem.W.findIn K (.ref C4) "__getattr__"=some none)(Pu:PySem.W.findIn K (.ref C4) "__class__"=some (some (.builtin "object.__class__")))(OM:PySem.W.mroIn K C4 (.type "object")=some true)(OY:PySem.W.mroIn K C4 (.type "BaseException")=some true)(O7:(PySem.W.clsIn K C4).isSome=true)(Pq:PySem.W.excIn K C5 HN "ValueError.__new__"=true)(Pt:PySem.W.findIn K (.ref C5) "__getattribute__"=some (some (.builtin "BaseException.__getattribute__")))(ON:PySem.W.findIn K (.ref C5) "__getattr__"=some none)(OL:PySem.W.findIn K (.ref C5) "__class__"=some (some (.builtin "object.__class__")))(Pp:PySem.W.mroIn K C5 (.type "object")=some true)(O1:PySem.W.mroIn K C5 (.type "BaseException")=some true)(OB:(PySem.W.clsIn K C5).isSome=true)(Jm:PySem.W.excIn K nV HN "ValueError.__new__"=true)(Jt:PySem.W.findIn K (.ref nV) "__getattribute__"=some (some (.builtin "BaseException.__getattribute__")))(Je:PySem.W.findIn K (.ref nV) "__getattr__"=some none)(Ji:PySem.W.findIn K (.ref nV) "__class__"=some (some (.builtin "object.__class__")))(Ju:PySem.W.mroIn K nV (.type "object")=some true)(Jj:PySem.W.mroIn K nV (.type "BaseException")=some true)(Jq:(PySem.W.clsIn K nV).isSome=true)(Mb:PySem.W.specialIn K (.builtin "object.__class__") "__get__"=some (some (.builtin "getset_descriptor.__get__")))(LW:PySem.W.takesIn K (.builtin "object.__class__")=some true)(iz:PySem.W.kitOne K (.ref nV) (.ref C4)=some false)(i9:PySem.W.kitOne K (.ref C5) (.ref C4)=some false)(iu:PySem.W.kitOne K (.ref C4) (.ref C4)=some true)(rm:PySem.W.kitOne K (.type "NoneType") (.ref C4)=some false)(fQ:PySem.W.kitOne K (.ref nV) (.ref C3)=some false)(gI:PySem.W.kitOne K (.ref C5) (.ref C3)=some false)(fS:PySem.W.kitOne K (.ref C4) (.ref C3)=some false)(mX:PySem.W.kitOne K (.type "NoneType") (.ref C3)=some false)(gT:PySem.W.kitOne K (.ref nV) (.ref C2)=some false)(iy:PySem.W.kitOne K (.ref C5) (.ref C2)=some false)(gH:PySem.W.kitOne K (.ref C4) (.ref C2)=some false)(oH:PySem.W.kitOne K (.type "NoneType") (.ref C2)=some false)(fU:PySem.W.kitOne K (.ref nV) (.ref C1)=some false)(gU:PySem.W.kitOne K (.ref C5) (.ref C1)=some false)(fR:PySem.W.kitOne K (.ref C4) (.ref C1)=some false)(m3:PySem.W.kitOne K (.type "NoneType") (.ref C1)=some false)(fF:PySem.W.kitOne K (.ref nV) (.ref C8)=some false)(fW:PySem.W.kitOne K (.ref C5) (.ref C8)=some false)(fD:PySem.W.kitOne K (.ref C4) (.ref C8)=some false)(lN:PySem.W.kitOne K (.type "NoneType") (.ref C8)=some false)(jk:PySem.W.kitOne K (.ref nV) (.ref C7)=some false)(j5:PySem.W.kitOne K (.ref C5) (.ref C7)=some false)(ja:PySem.W.kitOne K (.ref C4) (.ref C7)=some false)(uq:PySem.W.kitOne K (.type "NoneType") (.ref C7)=some false)(gS:PySem.W.kitOne K (.ref nV) (.ref C6)=some false)(iq:PySem.W.kitOne K (.ref C5) (.ref C6)=some false)(gP:PySem.W.kitOne K (.ref C4) (.ref C6)=some false)(oD:PySem.W.kitOne K (.type "NoneType") (.ref C6)=some false)(ji:PySem.W.kitOne K (.ref nV) (.ref C5)=some false)(j6:PySem.W.kitOne K (.ref C5) (.ref C5)=some true)(jb:PySem.W.kitOne K (.ref C4) (.ref C5)=some false)(uy:PySem.W.kitOne K (.type "NoneType") (.ref C5)=some false)(fV:PySem.W.kitOne K (.ref nV) (.ref JU)=some false)(gQ:PySem.W.kitOne K (.ref C5) (.ref JU)=some false)(fM:PySem.W.kitOne K (.ref C4) (.ref JU)=some false)(mY:PySem.W.kitOne K (.type "NoneType") (.ref JU)=some false)(il:PySem.W.kitOne K (.ref nV) (.ref nV)=some true)(jh:PySem.W.kitOne K (.ref C5) (.ref nV)=some false)(iB:PySem.W.kitOne K (.ref C4) (.ref nV)=some false)(ro:PySem.W.kitOne K (.type "NoneType") (.ref nV)=some false)(fA:PySem.W.kitOne K (.ref nV) (.ref JV)=some false)(fN:PySem.W.kitOne K (.ref C5) (.ref JV)=some false)(ft:PySem.W.kitOne K (.ref C4) (.ref JV)=some false)(lP:PySem.W.kitOne K (.type "NoneType") (.ref JV)=some false)(fB:PySem.W.kitOne K (.ref nV) (.ref C9)=some false)(fO:PySem.W.kitOne K (.ref C5) (.ref C9)=some false)(fu:PySem.W.kitOne K (.ref C4) (.ref C9)=some false)(lR:PySem.W.kitOne K (.type "NoneType") (.ref C9)=some false)(d_:PySem.W.kitOne K (.ref nV) (.type "ValueError")=some true)(eK:PySem.W.kitOne K (.ref C5) (.type "ValueError")=some true)(dZ:PySem.W.kitOne K (.ref C4) (.type "ValueError")=some true)(je:PySem.W.kitOne K (.type "NoneType") (.type "ValueError")=some false)(fT:PySem.W.kitOne K (.ref nV) (.ref JS)=some false)(gR:PySem.W.kitOne K (.ref C5) (.ref JS)=some false)(fP:PySem.W.kitOne K (.ref C4) (.ref JS)=some false)(mV:PySem.W.kitOne K (.type "NoneType") (.ref JS)=some false)(d9:PySem.W.exmOne K (.ref nV) (.ref C0)=some true)(eL:PySem.W.exmOne K (.ref C5) (.ref C0)=some true)(dY:PySem.W.exmOne K (.ref C4) (.ref C0)=some true):∃cl,Cf K mg cl:=by
 exact⟨fun n=>if n=0 then C0 else if n=1 then C1 else if n=2 then C2 else if n=3 then C3 else if n=4 then C4 else if n=5 then C5 else if n=6 then C6 else if n=7 then C7 else if n=8 then C8 else if n=9 then C9 else if n=10 then JV else if n=11 then nV else if n=12 then JU else JS,PySem.W.mg_of X G O_,PySem.W.mg_of X G Pl,PySem.W.mg_of X G Oz,PySem.W.mg_of X G OA,PySem.W.mg_of X G Pa,PySem.W.mg_of X G OE,PySem.W.mg_of X G Pn,PySem.W.mg_of X G Pr,PySem.W.mg_of X G O9,PySem.W.mg_of X G OJ,PySem.W.mg_of X G Jf,PySem.W.mg_of X G Jx,PySem.W.mg_of X G Jy,PySem.W.mg_of X G Jo,⟨OQ,Pf,Pj,Pu,Mb,LW,OM,OY,O7⟩,⟨Pq,Pt,ON,OL,Mb,LW,Pp,O1,OB⟩,⟨Jm,Jt,Je,Ji,Mb,LW,Ju,Jj,Jq⟩,iz,i9,iu,rm,fQ,gI,fS,mX,gT,iy,gH,oH,fU,gU,fR,m3,fF,fW,fD,lN,jk,j5,ja,uq,gS,iq,gP,oD,ji,j6,jb,uy,fV,gQ,fM,mY,il,jh,iB,ro,fA,fN,ft,lP,fB,fO,fu,lR,d_,eK,dZ,je,fT,gR,fP,mV,d9,eL,dY⟩
theorem HH{K:W.Frag}{mg:Wu}{f:Addr}{fd:FuncData}{cl:Wv}(T:Tp K mg cl)(j4:Def K mg "check_fits" eU)(jd:Def K mg "outs_of_ins" ei)(i8:Def K mg "check_names" eu)(j0:Def K mg "check_room" fk)(j7:Def K mg "many_wires" fm)(oF:Def K mg "rewired" jt)(gM:Def K mg "rewired_gates" dm)(ik:Def K mg "rewired_outs" dG)(i7:Def K mg "one_numbers" eh)(gO:Def K mg "other_numbers" dg)(rj:Def K mg "joined" lh)(mZ:Def K mg "_law_stir" hW)(jc:Def K mg "_law_any_net" er)(lT:Def K mg "_law_pairs" gg)(jg:Def K mg "_law_refused" eD)(lQ:Def K mg "_law_moved" gp)(lM:Def K mg "_law_grown" gm)(oG:Def K mg "_law_due" jr)(F:wK K "law" "law" yK f fd):hJ P w K mg base rB 5 f fd ["script"] (Fu K 1 ym):=by
 have jj:bO P w K mg base cl 1 "check_fits" 3 dn:=tP T j4;have iC:bO P w K mg base cl 1 "outs_of_ins" 1 cU:=rD T jd;have fw:bO P w K mg base cl 1 "check_names" 1 cC:=rM T i8;have jf:bO P w K mg base cl 1 "check_room" 1 dq:=t8 T j0;have cz:=tZ (P:=P) (w:=w) (base:=base) T j7;have dQ:=zT (P:=P) (w:=w) (base:=base) T oF;have eG:=o7 (P:=P) (w:=w) (base:=base) T gM dQ;have fE:=qN (P:=P) (w:=w) (base:=base) T ik dQ;have jl:=rJ (P:=P) (w:=w) (base:=base) T i7 cz;have gL:=pe (P:=P) (w:=w) (base:=base) T gO cz dQ;have oE:bO P w K mg base cl 3 "joined" 3 g8:=A5 T rj cz jl gL eG fE jj iC fw jf;have aY:=wu (P:=P) (w:=w) (base:=base) T mZ;have XK_law_any_net:=rH (P:=P) (w:=w) (base:=base) T jc aY;have XP_law_any_net:=XK_law_any_net.p;have XK_law_pairs:=vf (P:=P) (w:=w) (base:=base) T lT aY;have XP_law_pairs:=XK_law_pairs.p;have XK_law_refused:=rE (P:=P) (w:=w) (base:=base) T jg oE;have XP_law_refused:=XK_law_refused.p;have iT:=vM (P:=P) (w:=w) (base:=base) T lQ;have C_law_grown:=uV (P:=P) (w:=w) (base:=base) T lM aY iT;have C_law_due:=y_ (P:=P) (w:=w) (base:=base) T oG;exact(uX (cl:=cl) (N:=oQ) (F:=qy) (k:=4) HR.2 BU.2 F Gd (fun _ _ _ _ _ _ hr=>(have nd:=Gd.nd;(aT (uc (cE (bU (ax bw (bj (b6 (ae ah ai))) (Cy (aa 0) vc (qV ah))))) bL (aT (bJ (pI XP_law_any_net (aN (az (aa 1)) (aN (az ah) (aN (az b5) (aN (az (bj (b6 (ae ah (ae ah (ae ah ai)))))) cG)))))) (aT (bJ (az (ay (bj (b6 (ae b5 (ae b5 (ae b5 (ae b5 ai)))))) (ax c_ (aQ aY (ae (aa 1) (ae ah ai))) ah)))) (aT (bJ (pI XP_law_any_net (aN (az (aa 1)) (aN (az ah) (aN (az (aa 3)) (aN (az (bj (b6 (ae ah (ae ah (ae ah ai)))))) cG)))))) (aT (bJ (pI XP_law_pairs (aN (az (aa 1)) (aN (az (aa 2)) (aN (az (aa 4)) cG))))) (aT (Iw (az (aQ C_law_grown (ae (aa 1) (ae (aa 2) (ae (aa 4) ai))))) (lY (cH bL (cH bL jy)))) (aT (bJ (az (ax c_ (aQ aY (ae (aa 1) (ae ah ai))) ah))) (aT (qq (dj (bo (o5 hr.units) (aa 6) ah)) (cm (bJ (az (ax bw (aa 5) (bj (b6 (ae (bE (ae (ax c_ (aQ aY (ae (aa 1) (ae ah ai))) (aI cu rfl T.z_len PySem.boot_len (ae (ay (aa 2) ah) ai))) (ae (ax c_ (aQ aY (ae (aa 1) (ae ah ai))) (aI cu rfl T.z_len PySem.boot_len (ae (ay (aa 4) ah) ai))) ai))) ai))))))) jY) (aT (qq (dj (lU (qh (bo (o5 hr.units) (aa 6) ah) (oq (bo (va hr.units) (aa 5) (bj (b6 ai))))))) (cm (bJ (az (ax bw (aa 5) (bj (b6 (ae (ay (aa 5) (ax c_ (aQ aY (ae (aa 1) (ae ah ai))) (aI cu rfl T.z_len PySem.boot_len (ae (aa 5) ai)))) ai))))))) jY) (aT (qq (dj (lU (qh (bo (o5 hr.units) (aa 6) ah) (oq (bo (va hr.units) (aa 5) (bj (b6 ai))))))) (aT (dF (cE (bQ (aI cu rfl T.z_len PySem.boot_len (ae (ay (aa 2) ah) ai)) rfl T.z_range)) (fun _ _ _=>bL) (fun _ _ _=>(nc (dj (bo (o5 hr.units) (aI cu rfl T.z_len PySem.boot_len (ae (ay (ay (ay (aa 1) ah) (aa 0)) ah) ai)) (aI cu rfl T.z_len PySem.boot_len (ae (ay (ay (ay (aa 1) ah) (ay (ay (aa 2) ah) ah)) ah) ai)))))) (fun _ _ _=>(az (aa 0)))) (cm (bJ (az (ax bw (bj (b6 (ae (bE (ae (ay (aa 7) (ax c_ (aQ aY (ae (aa 1) (ae ah ai))) (aI cu rfl T.z_len PySem.boot_len (ae (aa 7) ai)))) (ae (ay (ay (aa 5) ah) ah) ai))) ai))) (aa 5)))))) jY) (aT (bJ (az (aQ C_law_due (ae (aa 2) (ae (aa 4) (ae (aa 5) ai)))))) (aT (dF (cE (bU (bj (b6 (ae (aa 2) (ae (aa 4) ai)))))) (fun _ _ _=>bL) (fun _ _ _=>lZ) (fun _ _ _=>(az (bE (ae (cB s_ rfl T.z_list PyProof.Rows.boot_list (ae (ay (aa 0) ah) ai)) (ae (cB s_ rfl T.z_list PyProof.Rows.boot_list (ae (ay (aa 0) ah) ai)) (ae (cB s_ rfl T.z_list PyProof.Rows.boot_list (ae (ay (aa 0) ah) ai)) ai))))))) (aT (bJ (az (cB s_ rfl T.z_list PyProof.Rows.boot_list (ae (aa 5) ai)))) (aT (qq (Er (va hr.units) (pI XP_law_refused (aN (az (ay (aa 9) ah)) (aN (az (ay (aa 9) ah)) (aN (az (aa 10)) cG)))) (az (bj (cw (bQ (ay (bj (b6 (ae ah (ae ah ai)))) (cB wo rfl T.z_int PyProof.Rows.boot_int (ae (nJ K8 (aa 8) ah) ai))) rfl T.z_range) (fun _ _ _=>aH) (fun _ _ _=>bS) (fun _ _ _=>(nJ (o5 hr.units) (aa 1) (aa 0)))))) (xx _)) (cm (lA (az oi))) jY) (cm (qq (dj (lU (nL (bo (va hr.units) (aa 10) (aa 5)) (qk (bo (va hr.units) (aa 9) (bj (b6 (ae (aa 2) (ae (aa 4) ai))))))))) (cm (lA (az oi))) jY)))))))))))))))) (cm (lA (az oi))))))).imp fun _ _ _ _ h=>Iy h
end K35
end
section
set_option maxHeartbeats 1000000
namespace K35
open PySem PySem.Spec PyProof.Rows L2 L3 MT JT
theorem uo{i:Nat}{f:FD}{δ:au}{d:D}{ds es:List D}(h:f δ= .ok d)(hs:seqD? d=some es)(hb:δ[i]? =some (.bld ds))(hl:ds.length+es.length<=sizeLine):sN i f δ= .ok (.nx (δ.set i (.bld (ds++es)))):=by
 unfold sN qa;rw [h,R.aK,hb];show(match seqD? d with | some es=>_ | none=>_)=_
 rw[hs];show R.aS _ _=_;rw [bW _ hl]
section
variable {ins:Wr} {gs:List Gt} {os:Ws}
theorem uh(hi:ins.length < 1000):cy [.lst (ins.map inD)]= .ok (nI (b_ ins)):=by
 have hz:sizeLine=16777216:=sizeLine_eq;unfold cy nH;refine gz (dP (aq (ds:=[.lst (ins.map fun x=>nI x.2)]) (ao (bA (bY (ds:=ins.map inD) rfl (by rw[List.length_map];omega) ?_)) rfl) ?_))
 .exact NT.bu inD _ fun x hx=>⟨[.val (.str x.1), .val (nI x.2)],rfl,rfl,rfl⟩
 .have e:(ins.map fun x=>nI x.2)=(ins.map fun x=>((x.2:Nat):Int)).map D.int:=by rw[List.map_map];rfl
  rw[e];show(match ints? ((ins.map fun x=>((x.2:Nat):Int)).map D.int) with | some ns=>R.ok (D.int ns.sum) | none=> .no)=_
  rw[L2.ints_map];show R.ok (D.int (ins.map fun x=>((x.2:Nat):Int)).sum)=_
  unfold nI b_;congr 2
  induction ins with
  | nil=>rfl
  | cons x l ih=>
    rw[List.map_cons,List.map_cons,List.sum_cons,List.sum_cons,ih (by simp only[List.length_cons] at hi;omega) (by rw[List.map_map];rfl)]
    omega
theorem wt{nums ns:List Nat}(h:∀n∈ns,n < nums.length)(hl:ns.length < 1000):dI [.tup (ns.map nI), .lst (nums.map nI)]= .ok (.tup ((ns.map fun n=>nums.getD n 0).map nI)):=by
 have hz:sizeLine=16777216:=sizeLine_eq;unfold dI sx;refine gz (dP (aq (ds:=[.lst ((ns.map fun n=>nums.getD n 0).map nI)]) (ao (bA (bY (ds:=ns.map nI) (Bf rfl) (by rw[List.length_map];omega) ?_)) rfl) rfl))
 rw[List.map_map];refine NT.bu nI _ fun n hn=>⟨[.val (nI n), .val (.lst (nums.map nI))],rfl,rfl,av (a:= .lst (nums.map nI)) (b:=nI n) rfl rfl ?_⟩
 refine NT.cM ?_;rw[List.getElem?_map,List.getElem?_eq_getElem (h n hn)];show _=some (nI (nums.getD n 0));rw[List.getD_eq_getElem?_getD,List.getElem?_eq_getElem (h n hn)];rfl
abbrev gd(nums:List Nat):Nat->Nat:=fun n=>nums.getD n 0
theorem vQ{nums:List Nat}(h:∀g∈gs,(∀n∈g.2.1,n < nums.length)/\g.2.1.length < 1000)(hl:gs.length < 1000):cJ [.lst (gs.map gZ), .lst (nums.map nI)]= .ok (.lst ((gs.map (kZ (gd nums))).map gZ)):=by
 have hz:sizeLine=16777216:=sizeLine_eq;unfold cJ kj;refine gz (dP (bA (bY (ds:=gs.map gZ) rfl (by rw[List.length_map];omega) ?_)))
 rw[List.map_map];exact NT.bu gZ _ fun g hg=>⟨[.val (.str (kS g.1)), .val (.tup (g.2.1.map nI)), .val (.bl g.2.2), .val (.lst (nums.map nI))],rfl,rfl,bG (ao rfl (ao (aq (ds:=[.tup (g.2.1.map nI), .lst (nums.map nI)]) rfl (wt (h g hg).1 (h g hg).2)) (ao rfl rfl))) (by simp;omega)⟩
theorem uY{nums:List Nat}(h:∀x∈os,(∀n∈x.2,n < nums.length)/\x.2.length < 1000)(hl:os.length < 1000):cV [.lst (os.map fZ), .lst (nums.map nI)]= .ok (.lst ((os.map (iU (gd nums))).map fZ)):=by
 have hz:sizeLine=16777216:=sizeLine_eq;unfold cV lp;refine gz (dP (bA (bY (ds:=os.map fZ) rfl (by rw[List.length_map];omega) ?_)))
 rw[List.map_map];exact NT.bu fZ _ fun x hx=>⟨[.val (.str x.1), .val (.tup (x.2.map nI)), .val (.lst (nums.map nI))],rfl,rfl,bG (ao rfl (ao (aq (ds:=[.tup (x.2.map nI), .lst (nums.map nI)]) rfl (wt (h x hx).1 (h x hx).2)) rfl)) (by simp;omega)⟩
theorem Ij(n:Nat):kH 0 n=(List.range n).map nI:=by
 unfold kH;refine List.map_congr_left fun i _=>?_
 show D.int (0+(i:Int))=D.int (i:Int);rw[Int.zero_add]
theorem DW{f:FD}{δ:au}{n:Nat}(h:f δ= .ok (nI n))(hn:n < 1000000):Ez f δ= .ok ((List.range n).map nI):=by
 unfold Ez;rw [h,R.aK];show R.aS _ _=_;rw [bW _ ⟨by omega,by omega⟩,Int.toNat_natCast,Ij]
theorem vT{f g:FD}{δ:au}{a b:Nat}(h:f δ= .ok (nI a))(h2:g δ= .ok (nI b))(ha:a < 1000000)(hb:b < 1000000):vi f g δ= .ok ((List.range' a (b - a)).map nI):=by
 unfold vi;rw [h,R.aK,h2,R.aK];show R.aS _ _=_;rw[bW _ ⟨by omega,by omega,by omega,by omega,by omega⟩,show((b:Int) - a).toNat=b - a by omega,List.range'_eq_map_range,List.map_map];rfl
def nX(c l n:Nat):List Nat:=List.range c++(List.range n).map fun i=>c+l+i
theorem BH(c l n:Nat):(nX c l n).length=c+n:=by unfold nX;simp
theorem Fi{c l n w:Nat}(h:w < c+n):gd (nX c l n) w=HY c l w:=by
 show(nX c l n).getD w 0=_;unfold nX HY;rw[List.getD_eq_getElem?_getD];by_cases q:w < c
 .rw [List.getElem?_append_left (by simpa using q),if_pos q,List.getElem?_range q];rfl
 .rw [List.getElem?_append_right (by simpa using q),if_neg q,List.getElem?_map,List.length_range,List.getElem?_range (by omega)]
  show c+l+(w - c)=w+l;omega
theorem Il{l:Nat}(hi:ins.length < 100)(hw:∀x∈ins,x.2 < 100)(hg:gs.length < 1000)(hl:l < 100000):eB [aF ins gs os,nI l]= .ok (.lst ((nX (b_ ins) l gs.length).map nI)):=by
 have hz:sizeLine=16777216:=sizeLine_eq;have hwd:=qX hw;have hwd2:b_ ins < 10000:=by omega
 unfold eB mh;refine gz (a9 (bZ (d:=nI (b_ ins)) (aq (ds:=[.lst (ins.map inD)]) rfl (uh (by omega))) (by simp [dW,gc])) (a9 (yy (ds:=(List.range (b_ ins)).map nI) (DW (n:=b_ ins) rfl (by omega)) (by simp [dW,gc])) ?_))
 have r2:b7 (cx (aw bV (af (e2 br (ag 0) (eC (.int 1))) aA))) (aM 0) fJ (e2 bH (e2 bH (ag 2) (ag 1)) (ag 0)) [(Str.ofString "place")] [1,2] [.val (aF ins gs os), .val (nI l), .val (nI (b_ ins)), .bld ((List.range (b_ ins)).map nI)]= .ok (((List.range gs.length).map fun i=>b_ ins+l+i).map nI):=by
  refine bY (ds:=kH 0 gs.length) (yE (n:=gs.length) (aq (ds:=[.lst (gs.map gZ)]) rfl (by rw[HD,List.length_map])) (by omega)) (by unfold kH;rw [List.length_map,List.length_range];omega) ?_
  rw[List.map_map];unfold kH;refine NT.bu (fun i:Nat=>D.int (0+(i:Int))) _ fun i hi=>⟨[.val (.int (0+(i:Int))), .val (nI l), .val (nI (b_ ins))],rfl,rfl,av (a:= .int ((b_ ins:Int)+l)) (b:= .int (0+(i:Int))) (av (a:=nI (b_ ins)) (b:=nI l) rfl rfl rfl) rfl ?_⟩
  exact congrArg (fun z=>R.ok (D.int z)) (by omega:(b_ ins:Int)+l+(0+(i:Int))=((b_ ins+l+i:Nat):Int))
 refine a9 (δ1:=[.val (aF ins gs os), .val (nI l), .val (nI (b_ ins)), .bld ((nX (b_ ins) l gs.length).map nI)]) ?_ (dP rfl);unfold E7;show(b7 _ _ _ _ _ _ [.val (aF ins gs os), .val (nI l), .val (nI (b_ ins)), .bld ((List.range (b_ ins)).map nI)]).bind _=_;rw[r2,R.aK];show R.aS (decide (((List.range (b_ ins)).map nI).length+(((List.range gs.length).map fun i=>b_ ins+l+i).map nI).length<=sizeLine)) _=_
 rw[bW _ (by rw[List.length_map,List.length_range,List.length_map,List.length_map,List.length_range];omega)]
 unfold nX;rw[List.map_append];rfl
end
def cO(pairs:List (Nat × Nat))(k:Nat):Option Nat:=(pairs.find? fun q=>decide (q.2=k)).map (·.1)
def dctP(pairs:List (Nat × Nat)):D:= .dct (pairs.map fun q=>Sum.inl ((q.2:Nat):Int)) (pairs.map fun q=>nI q.1)
theorem Bn(a b:Nat):decide ((Sum.inl ((a:Nat):Int):Key)=Sum.inl ((b:Nat):Int))=decide (a=b):=by
 by_cases h:a=b
 .subst h;simp
 .rw [decide_eq_false h];refine decide_eq_false fun z=>h ?_
  injection z with z
  omega
theorem x_(k:Nat):∀pairs:List (Nat × Nat),Eh (pairs.map fun q=>Sum.inl ((q.2:Nat):Int)) (pairs.map fun q=>nI q.1) (Sum.inl ((k:Nat):Int))=(cO pairs k).map nI
 | []=>rfl
 | q ::pairs=>by
   have ih:=x_ k pairs;unfold Eh cO at ih ⊢;rw[List.map_cons,List.map_cons,List.zip_cons_cons,List.find?_cons,List.find?_cons];show Option.map _ (match decide ((Sum.inl ((q.2:Nat):Int):Key)=Sum.inl ((k:Nat):Int)) with | true=>some (Sum.inl ((q.2:Nat):Int),nI q.1) | false=>_)=_
   rw[Bn];cases decide (q.2=k) with
   | true=>rfl
   | false=>exact ih
theorem nK(k:Nat):∀pairs:List (Nat × Nat),jS (pairs.map fun q=>Sum.inl ((q.2:Nat):Int)) (Sum.inl ((k:Nat):Int))=(cO pairs k).isSome
 | []=>rfl
 | q ::pairs=>by
   have ih:=nK k pairs;unfold jS cO at ih ⊢;rw[List.map_cons,List.any_cons,List.find?_cons,Bn,ih];cases decide (q.2=k) <;> rfl
theorem ui{k:Nat}{pairs:List (Nat × Nat)}:wU (.int k) (dctP pairs)= .ok (.bl (cO pairs k).isSome):=by
 show R.ok (D.bl (jS _ _))=_;rw[nK]
theorem Dr{k:Nat}{pairs:List (Nat × Nat)}:Fh (.int k) (dctP pairs)= .ok (.bl (cO pairs k).isNone):=by
 show R.ok (D.bl (!jS _ _))=_;rw[nK,Option.not_isSome]
theorem Au{k o:Nat}{pairs:List (Nat × Nat)}(h:cO pairs k=some o):yq (dctP pairs) (.int k)= .ok (nI o):=by
 show(match Eh (pairs.map fun q=>Sum.inl ((q.2:Nat):Int)) (pairs.map fun q=>nI q.1) (Sum.inl ((k:Nat):Int)) with | some x=>R.ok x | none=> .no)=_
 rw[x_,h];rfl
theorem q8{f:Nat->Nat}{os:Nat->List Nat}:∀(a b:List (Option Nat × Nat)) (free:Nat),dM f os (a++b) free=dM f os a free++dM f os b (free+bC a)
 | [],b,free=>rfl
 | (some o,w) ::a,b,free=>by
   rw[List.cons_append];show _++dM f os (a++b) free=(_++dM f os a free)++dM f os b (free+bC a);rw[q8 a b free,List.append_assoc]
 | (none,w) ::a,b,free=>by
   rw[List.cons_append];show _++dM f os (a++b) (free+w)=(_++dM f os a (free+w))++dM f os b (free+(w+bC a));rw[q8 a b (free+w),List.append_assoc,show free+w+bC a=free+(w+bC a) by omega]
theorem n8:∀(a b:List (Option Nat × Nat)),bC (a++b)=bC a+bC b
 | [],b=>by show bC b=0+_;omega
 | (some o,w) ::a,b=>n8 a b
 | (none,w) ::a,b=>by
   show w+bC (a++b)=(w+bC a)+bC b;rw[n8 a b];omega
def fG(pairs:List (Nat × Nat))(ins:Wr):List (Option Nat × Nat):=ins.zipIdx.map fun x=>(cO pairs x.2,x.1.2)
def wg(os:Ws)(o:Nat):List Nat:=(os.getD o (Str.empty,[])).2
theorem Bc{pairs:List (Nat × Nat)}{ins:Wr}{i:Nat}{x:Str × Nat}(h:ins[i]? =some x):(fG pairs ins).take (i+1)=(fG pairs ins).take i++[(cO pairs i,x.2)]:=by
 unfold fG;rw[List.take_add_one,List.getElem?_map,List.getElem?_zipIdx,h];simp
theorem pB{pairs:List (Nat × Nat)}{ins:Wr}:(fG pairs ins).length=ins.length:=by unfold fG;simp
theorem Fd{pairs:List (Nat × Nat)}{ins:Wr}{o w:Nat}(h:(some o,w)∈fG pairs ins):∃k x,ins[k]? =some x/\x.2=w/\cO pairs k=some o:=by
 unfold fG at h;obtain⟨⟨x,k⟩,hx,e⟩:=List.mem_map.mp h;rw[List.mem_zipIdx_iff_getElem?] at hx;injection e with e1 e2
 exact⟨k,x,hx,e2,e1⟩
theorem zr{pairs:List (Nat × Nat)}{k o:Nat}(h:cO pairs k=some o):(o,k)∈pairs:=by
 unfold cO at h;obtain⟨⟨a,b⟩,h1,e⟩:=L3.dN h;have:=List.find?_some h1;have hb:b=k:=of_decide_eq_true this;have ha:a=o:=e;subst ha hb;exact List.mem_of_find?_eq_some h1
theorem nM:∀{φ:List (Option Nat × Nat)},(∀x∈φ,x.2 < 100)->bC φ<=100*φ.length
 | [],_=>Nat.le_refl _
 | (some o,w) ::φ,h=>by
   have:=nM (φ:=φ) fun x hx=>h x (List.mem_cons_of_mem _ hx)
   show bC φ<=100*(φ.length+1);omega
 | (none,w) ::φ,h=>by
   have:=nM (φ:=φ) fun x hx=>h x (List.mem_cons_of_mem _ hx)
   have:=h (none,w) List.mem_cons_self;show w+bC φ<=100*(φ.length+1);omega
theorem yb:∀{φ:List (Option Nat × Nat)},(∀x∈φ,x.2 < 100)->(φ.map (·.2)).sum<=100*φ.length
 | [],_=>Nat.le_refl _
 | x ::φ,h=>by
   have:=yb (φ:=φ) fun x hx=>h x (List.mem_cons_of_mem _ hx)
   have:=h x List.mem_cons_self;rw[List.map_cons,List.sum_cons,List.length_cons];omega
section
variable {ak ins2:Wr} {gs1 gs2:List Gt} {os1 bB:Ws} {pairs:List (Nat × Nat)} {nums:List Nat}
def Fits(os1:Ws)(ins2:Wr)(pairs:List (Nat × Nat)):Prop:=∀q∈pairs,∃x y,os1[q.1]? =some x/\ins2[q.2]? =some y/\x.2.length=y.2
theorem Fits.at(F:Fits os1 ins2 pairs){o w:Nat}(h:(some o,w)∈fG pairs ins2):∃x,os1[o]? =some x/\wg os1 o=x.2/\x.2.length=w:=by
 obtain⟨k,y,h1,h2,h3⟩:=Fd h;obtain⟨x,y',a,b,c⟩:=F _ (zr h3);rw[h1] at b;cases b;refine⟨x,a,?_,by rw[c,h2]⟩
 unfold wg;rw[List.getD_eq_getElem?_getD,a];rfl
theorem AN(F:Fits os1 ins2 pairs)(MK:ak.length < 100)(Jz:∀x∈ak,x.2 < 100)(Rh:ins2.length < 100)(FK:∀x∈ins2,x.2 < 100)(Ph:gs1.length < 1000)(FN:gs2.length < 1000)(ho:∀x∈os1,x.2.length < 1000/\∀n∈x.2,n < nums.length) :
 dk [aF ins2 gs2 bB,aF ak gs1 os1, .lst (nums.map nI),dctP pairs]= .ok (.lst ((dM (gd nums) (wg os1) (fG pairs ins2) (b_ ak)++List.range' (b_ ak+bC (fG pairs ins2)+gs1.length) gs2.length).map nI)):=by
 have hz:sizeLine=16777216:=sizeLine_eq;have hwd:=qX Jz;have hph:∀x∈fG pairs ins2,x.2 < 100:=fun x hx=>by
  unfold fG at hx;obtain⟨⟨y,k⟩,hy,rfl⟩:=List.mem_map.mp hx;rw[List.mem_zipIdx_iff_getElem?] at hy;exact FK y (List.mem_of_getElem? hy)
 have hpt:∀i,∀x∈(fG pairs ins2).take i,x.2 < 100:=fun i x hx=>hph x (List.mem_of_mem_take hx)
 have hlw:∀i,bC ((fG pairs ins2).take i)<=10000:=fun i=>by
  have:=nM (hpt i);rw[List.length_take,pB] at this;omega
 have Ag:∀i,(dM (gd nums) (wg os1) ((fG pairs ins2).take i) (b_ ak)).length<=10000:=fun i=>by
  rw[nk _ _ fun o w h=>by obtain⟨x,_,e,e2⟩:=F.at (List.mem_of_mem_take h);rw [e,e2]]
  have:=yb (hpt i);rw[List.length_take,pB] at this;omega
 unfold dk j8;refine gz (a9 (yy (ds:=[]) rfl (by simp [dW,eF])) (a9 (bZ (d:=nI (b_ ak)) (aq (ds:=[.lst (ak.map inD)]) rfl (uh (by omega))) (by simp [dW,eF])) ?_))
 let E (i:Nat) (a6 a7:Sl):au:=[.val (aF ins2 gs2 bB), .val (aF ak gs1 os1), .val (.lst (nums.map nI)), .val (dctP pairs), .bld ((dM (gd nums) (wg os1) ((fG pairs ins2).take i) (b_ ak)).map nI), .val (nI (b_ ak+bC ((fG pairs ins2).take i))),a6,a7, .un]
 obtain⟨δ1,e1,a6,a7,LX⟩:=zR (t:=dy 2 (bb (aM 6) (bb (aM 7) dw))) (body:=e_) (ds:=gq (ins2.map inD))
  (fun i δ=>∃a6 a7,δ=E i a6 a7) (δ:=E 0 .un .un) ⟨.un, .un,rfl⟩ (by
    rintro i d δ hd ⟨a6,a7,rfl⟩;have hv:((gq (ins2.map inD)).map V3.d)[i]? =some (.d d):=by rw[List.getElem?_map,hd];rfl
    obtain⟨d0,UD,ed⟩:=D0 hv;cases ed;obtain⟨x,hx,rfl⟩:=NT.Fp UD;have hxw:=FK x (List.mem_of_getElem? hx);refine⟨E (i+1) (.val (.int i)) (.val (inD x)),?_,⟨_,_,rfl⟩⟩;have hE:E (i+1) (.val (.int i)) (.val (inD x))=[.val (aF ins2 gs2 bB), .val (aF ak gs1 os1), .val (.lst (nums.map nI)), .val (dctP pairs), .bld ((dM (gd nums) (wg os1) ((fG pairs ins2).take i) (b_ ak)).map nI++(dM (gd nums) (wg os1) [(cO pairs i,x.2)] (b_ ak+bC ((fG pairs ins2).take i))).map nI), .val (nI (b_ ak+bC ((fG pairs ins2).take i)+bC [(cO pairs i,x.2)])), .val (.int i), .val (inD x), .un]:=by
     show [_,_,_,_,Sl.bld ((dM (gd nums) (wg os1) ((fG pairs ins2).take (i+1)) (b_ ak)).map nI),Sl.val (nI (b_ ak+bC ((fG pairs ins2).take (i+1)))),_,_,_]=_;rw[Bc hx,q8,n8,List.map_append,Nat.add_assoc]
    rw[hE];have Gy:=Ag i;have Ad:=hlw i;rw[show dy 2 (bb (aM 6) (bb (aM 7) dw)) (.tup [.int i,inD x]) (E i a6 a7)= .ok ([.val (aF ins2 gs2 bB), .val (aF ak gs1 os1), .val (.lst (nums.map nI)), .val (dctP pairs), .bld ((dM (gd nums) (wg os1) ((fG pairs ins2).take i) (b_ ak)).map nI), .val (nI (b_ ak+bC ((fG pairs ins2).take i))), .val (.int i), .val (inD x), .un]:au) from rfl,R.aK]
    generalize wk:b_ ak+bC ((fG pairs ins2).take i)=fr;have hfrl:fr < 30000:=by omega
    generalize dM (gd nums) (wg os1) ((fG pairs ins2).take i) (b_ ak)=L at Gy;unfold e_;cases hf:cO pairs i with
    | some o=>
      have hm:(some o,x.2)∈fG pairs ins2:=by
       unfold fG;exact List.mem_map.mpr ⟨(x,i),List.mem_zipIdx_iff_getElem?.mpr hx,by rw[hf]⟩
      obtain⟨y,y1,y2,y3⟩:=F.at hm;have hyo:=ho y (List.mem_of_getElem? y1);refine oR (cA (a:= .int i) (b:=dctP pairs) rfl rfl (by rw[ui,hf];rfl)) ?_
      refine(uo (ds:=L.map nI) (es:=((y.2.map (gd nums)).map nI)) (aq (ds:=[.tup (y.2.map nI), .lst (nums.map nI)]) (ao (av (a:=fZ y) (b:= .int 1) (av (a:= .lst (os1.map fZ)) (b:=nI o) (av (a:=aF ak gs1 os1) (b:= .int 2) rfl rfl rfl) (av (a:=dctP pairs) (b:= .int i) rfl rfl (Au hf)) (NT.cM (by rw[List.getElem?_map,y1];rfl))) rfl rfl) rfl) (wt hyo.2 hyo.1)) rfl rfl ?_).trans ?_
      .rw [List.length_map,List.length_map,List.length_map];omega
      .show R.ok (Out.nx [_,_,_,_,Sl.bld (L.map nI++(y.2.map (gd nums)).map nI),Sl.val (nI fr),_,_,_])=R.ok (Out.nx [_,_,_,_,Sl.bld (L.map nI++(((wg os1 o).map (gd nums))++[]).map nI),Sl.val (nI (fr+0)),_,_,_]);rw[y2,List.append_nil,Nat.add_zero]
    | none=>
      refine lH (cA (a:= .int i) (b:=dctP pairs) rfl rfl (by rw[ui,hf];rfl)) ?_
      have ev:∀b,e2 bH (ag 5) (e2 br (ag 7) (eC (.int 1))) [.val (aF ins2 gs2 bB), .val (aF ak gs1 os1), .val (.lst (nums.map nI)), .val (dctP pairs), .bld b, .val (nI fr), .val (.int i), .val (inD x), .un]= .ok (nI (fr+x.2)):=fun b=>av (a:=nI fr) (b:=nI x.2) rfl (av (a:=inD x) (b:= .int 1) rfl rfl rfl) rfl
      refine(a9 (uo (d:= .lst ((List.range' fr x.2).map nI)) (ds:=L.map nI) (es:=(List.range' fr x.2).map nI) (bA ((vT (a:=fr) (b:=fr+x.2) rfl (ev (L.map nI)) (by omega) (by omega)).trans (by rw[Nat.add_sub_cancel_left]))) rfl rfl (by rw[List.length_map,List.length_map,List.length_range'];omega)) (bZ (ev (L.map nI++(List.range' fr x.2).map nI)) (by simp))).trans ?_
      show R.ok (Out.nx [_,_,_,_,Sl.bld (L.map nI++(List.range' fr x.2).map nI),Sl.val (nI (fr+x.2)),_,_,_])=R.ok (Out.nx [_,_,_,_,Sl.bld (L.map nI++(List.range' fr x.2++[]).map nI),Sl.val (nI (fr+(x.2+0))),_,_,_]);rw[List.append_nil,Nat.add_zero])
 have hlen:(gq (ins2.map inD)).length=ins2.length:=by simp [gq]
 rw[hlen] at LX;have hta:(fG pairs ins2).take ins2.length=fG pairs ins2:=List.take_of_length_le (by rw[pB];exact Nat.le_refl _)
 have Gy:=Ag ins2.length;have Ad:=hlw ins2.length;subst LX;refine a9 (lX (ds:=gq (ins2.map inD)) (xt rfl) e1) ?_;show cF _ _ [.val (aF ins2 gs2 bB), .val (aF ak gs1 os1), .val (.lst (nums.map nI)), .val (dctP pairs), .bld ((dM (gd nums) (wg os1) ((fG pairs ins2).take ins2.length) (b_ ak)).map nI), .val (nI (b_ ak+bC ((fG pairs ins2).take ins2.length))),a6,a7, .un]=_;rw[hta] at Gy Ad ⊢;generalize dM (gd nums) (wg os1) (fG pairs ins2) (b_ ak)=L at Gy;generalize wk:b_ ak+bC (fG pairs ins2)=fr;refine a9 (bZ (d:=nI (fr+gs1.length)) (av (a:=nI fr) (b:=nI gs1.length) rfl (aq (ds:=[.lst (gs1.map gZ)]) rfl (by rw[HD,List.length_map];rfl)) rfl) (by simp)) ?_
 have ev:∀b,e2 bH (ag 8) (aw bV (af (e2 br (ag 0) (eC (.int 1))) aA)) [.val (aF ins2 gs2 bB), .val (aF ak gs1 os1), .val (.lst (nums.map nI)), .val (dctP pairs), .bld b, .val (nI fr),a6,a7, .val (nI (fr+gs1.length))]= .ok (nI (fr+gs1.length+gs2.length)):=fun b=>av (a:=nI (fr+gs1.length)) (b:=nI gs2.length) rfl (aq (ds:=[.lst (gs2.map gZ)]) rfl (by rw[HD,List.length_map];rfl)) rfl
 refine a9 (uo (d:= .lst ((List.range' (fr+gs1.length) gs2.length).map nI)) (ds:=L.map nI) (es:=(List.range' (fr+gs1.length) gs2.length).map nI) (bA ?_) rfl rfl (by rw[List.length_map,List.length_map,List.length_range'];omega)) (dP ?_)
 .exact(vT (a:=fr+gs1.length) (b:=fr+gs1.length+gs2.length) rfl (ev (L.map nI)) (by omega) (by omega)).trans (by rw[Nat.add_sub_cancel_left])
 .show R.ok (D.lst (L.map nI++(List.range' (fr+gs1.length) gs2.length).map nI))=_;rw[List.map_append]
end
end K35
end
section
set_option maxHeartbeats 400000
namespace K35
open PySem PySem.Spec PyProof.Rows L2 L3 MT JT
def dA(q:Nat × Nat):D:= .tup [nI q.1,nI q.2]
def ye(pairs:List (Nat × Nat)):List (Key × D):=pairs.map fun q=>(Sum.inl ((q.2:Nat):Int),nI q.1)
theorem FW(pairs:List (Nat × Nat)):D.dct ((ye pairs).map (·.1)) ((ye pairs).map (·.2))=dctP pairs:=by
 unfold ye dctP;rw[List.map_map,List.map_map];rfl
theorem yc{aC:List (Key × D)}{k:Key}{d:D}(h:jS (aC.map (·.1)) k=false):pS aC k d=aC++[(k,d)]:=by
 unfold pS;have e:(aC.any fun kv=>decide (kv.1=k))=jS (aC.map (·.1)) k:=by unfold jS;rw [List.any_map];rfl
 rw[e,h,if_neg (by decide)]
section
variable {S:aZ} {pairs:List (Nat × Nat)}
theorem xg{α β:Type}{f:α->β}{l:List α}{i:Nat}{x:α}(hn:(l.map f).Nodup)(hx:l[i]? =some x):∀y∈l.take i,f y≠f x:=fun y hy e=>by
 obtain⟨j,hj⟩:=List.getElem?_of_mem hy;rw[List.getElem?_take] at hj;split at hj
 .rename_i hji;have h1:(l.map f)[j]? =some (f y):=by rw[List.getElem?_map,hj];rfl
  have h2:(l.map f)[i]? =some (f x):=by rw[List.getElem?_map,hx];rfl
  obtain⟨a1,a2⟩:=List.getElem?_eq_some_iff.mp h1;obtain⟨b1,b2⟩:=List.getElem?_eq_some_iff.mp h2;have:=(List.nodup_iff_pairwise_ne.mp hn);have:=List.pairwise_iff_getElem.mp this j i a1 b1 hji;exact this (by rw[a2,b2,e])
 .cases hj
def uS(x:Str × D):D:= .tup [.str x.1,x.2]
def yx(xs:List (Str × D)):List (Key × D):=xs.map fun x=>(Sum.inr x.1,D.bl true)
theorem BW{xs:List (Str × D)}(h:∀x∈xs,x.1≠n):jS ((yx xs).map (·.1)) (Sum.inr n)=false:=by
 unfold jS yx;rw[List.map_map,List.any_map];refine List.any_eq_false.mpr fun x hx=>?_
 show ¬decide ((Sum.inr x.1:Key)=Sum.inr n)=true;rw[decide_eq_false fun z=>h x hx (by injection z)]
 decide
end
theorem ug:∀n∈List.range 100,(toString ((n:Nat):Int):Str).length<=10/\(((n:Nat):Int)).natAbs.log2 < 1920:=by decide+kernel
theorem Kg{c i n:Nat}{a b:Str}{δ:DE}{S:aZ}{Y:Nat->aZ->Prop}{Q:Ou->aZ->Prop}(h:(down δ)[i]? =some (.val (nI n)))(hn:n < 100)(ha:a.length<=1000)(hb:b.length<=1000)(hy:Y c S):WE (jX c (kI (bp (xP (f9 (dR (eC (.str a)) (dR (ny (ag i)) (dR (eC (.str b)) uE))))) fK)) δ S) Q Y:=by
 have hz:sizeLine=16777216:=sizeLine_eq;obtain⟨l1,l2⟩:=ug n (List.mem_range.mpr hn);refine pC <| aG <| cW (d:= .str _) (mQ (ss:=[a,toString ((n:Nat):Int),b]) (eZ rfl (eZ (qO (by unfold ag;rw [h];rfl) l2) (eZ rfl rfl))) ?_) <| c6 ⟨by show 1<=sizeLine;omega,hy⟩
 show(((Str.empty++a)++toString ((n:Nat):Int))++b).length<=_;rw[Str.length_append,Str.length_append,Str.length_append];show 0+a.length+(toString ((n:Nat):Int):Str).length+b.length<=_;omega
theorem KL{c i j n m:Nat}{a b:Str}{δ:DE}{S:aZ}{Y:Nat->aZ->Prop}{Q:Ou->aZ->Prop}(h:(down δ)[i]? =some (.val (nI n)))(h':(down δ)[j]? =some (.val (nI m)))(hn:n < 100)(hm:m < 100)(ha:a.length<=1000)(hb:b.length<=1000)(hy:Y c S):WE (jX c (kI (bp (xP (f9 (dR (eC (.str a)) (dR (ny (ag i)) (dR (eC (.str b)) (dR (ny (ag j)) uE)))))) fK)) δ S) Q Y:=by
 have hz:sizeLine=16777216:=sizeLine_eq;obtain⟨l1,l2⟩:=ug n (List.mem_range.mpr hn);obtain⟨l3,l4⟩:=ug m (List.mem_range.mpr hm);refine pC <| aG <| cW (d:= .str _) (mQ (ss:=[a,toString ((n:Nat):Int),b,toString ((m:Nat):Int)]) (eZ rfl (eZ (qO (by unfold ag;rw [h];rfl) l2) (eZ rfl (eZ (qO (by unfold ag;rw [h'];rfl) l4) rfl)))) ?_) <| c6 ⟨by show 1<=sizeLine;omega,hy⟩
 show((((Str.empty++a)++toString ((n:Nat):Int))++b)++toString ((m:Nat):Int)).length<=_;rw[Str.length_append,Str.length_append,Str.length_append,Str.length_append];show 0+a.length+(toString ((n:Nat):Int):Str).length+b.length+(toString ((m:Nat):Int):Str).length<=_;omega
theorem Lv{c i:Nat}{a x:Str}{δ:DE}{S:aZ}{Y:Nat->aZ->Prop}{Q:Ou->aZ->Prop}(h:(down δ)[i]? =some (.val (.str x)))(hx:x.length<=1000)(ha:a.length<=1000)(hy:Y c S):WE (jX c (kI (bp (xP (f9 (dR (eC (.str a)) (dR (ny (ag i)) uE)))) fK)) δ S) Q Y:=by
 have hz:sizeLine=16777216:=sizeLine_eq;refine pC <| aG <| cW (d:= .str _) (mQ (ss:=[a,x]) (eZ rfl (eZ (Ce (by unfold ag;rw [h]) (by omega)) rfl)) ?_) <| c6 ⟨by show 1<=sizeLine;omega,hy⟩
 show((Str.empty++a)++x).length<=_;rw[Str.length_append,Str.length_append];show 0+a.length+x.length<=_;omega
theorem yf{α:Type}{l:List α}{x:α}(h:l.Nodup)(hx:x ∉ l):(l++[x]).Nodup:=List.nodup_append.mpr ⟨h,by simp,fun a ha b hb e=>by rw[List.mem_singleton.mp hb] at e;subst e;exact hx ha⟩
theorem CA{α β:Type}{f:α->β}{l:List α}{i:Nat}{x:α}(hx:l[i]? =some x)(hm:f x∈(l.take i).map f):¬(l.map f).Nodup:=fun hn=>by
 obtain⟨y,hy,e⟩:=List.mem_map.mp hm;exact xg hn hx y hy e
theorem mq{α β:Type}{f:α->β}{l:List α}{i:Nat}{x:α}(hx:l[i]? =some x):(l.take (i+1)).map f=(l.take i).map f++[f x]:=by rw[List.take_add_one,hx,List.map_append];rfl
section
variable {S:aZ} {pairs:List (Nat × Nat)}
theorem tu{k:Nat}:(cO pairs k).isSome=true↔k∈pairs.map (·.2):=by
 rw[<-nK];unfold jS;rw[List.any_map,List.any_eq_true,List.mem_map];constructor
 .rintro⟨q,hq,e⟩;refine⟨q,hq,?_⟩;have:=of_decide_eq_true e;injection this with this
  exact Int.ofNat_inj.mp this
 .rintro⟨q,hq,e⟩;exact⟨q,hq,decide_eq_true (by rw[<-e])⟩
theorem E5(hl:pairs.length < 1000)(hp:∀q∈pairs,q.2 < 100)(hS:Ai S):WE (sr cU [.d (.lst (pairs.map dA))] S) (fun v S1=>v= .d (dctP pairs)/\S1=S/\(pairs.map (·.2)).Nodup) (fun c S1=>c=4/\S1=S/\¬(pairs.map (·.2)).Nodup):=by
 have hz:sizeLine=16777216:=sizeLine_eq;unfold cU;refine J3 hS (KU rfl ?_);simp only[dC,fX,List.map,List.length,List.replicate,List.cons_append,List.nil_append,Nat.reduceAdd,Nat.reduceSub];unfold iZ;refine fI <| nE <| bx (by simp) <| AK ⟨_,rfl,?_⟩
 simp only[List.set];refine fI <| Bh <| mU (ds:=pairs.map dA) rfl ?_
 refine(xp (fun i δ S2=>(∃a b,δ=[some (.d (.lst (pairs.map dA))),some (.loc S.length),a,b])/\S2=S++[SO.dct (ye (pairs.take i))]/\((pairs.take i).map (·.2)).Nodup)
  ⟨⟨_,_,rfl⟩,rfl,by simp⟩ ?_).mono (fun o S2 ⟨dX,uw,⟨a,b,hδ⟩,r6,hnd⟩=>⟨dX,uw,?_⟩) fun c S1 h=>h
 .rintro i v δ S2 hv ⟨⟨a,b,rfl⟩,rfl,hnd⟩;obtain⟨q,hq,rfl⟩:=NT.eT hv;refine⟨[some (.d (.lst (pairs.map dA))),some (.loc S.length),some (.d (nI q.1)),some (.d (nI q.2))],rfl,?_⟩;unfold j_;have h1:(ib (S++[.dct (ye (pairs.take i))]) [some (.d (.lst (pairs.map dA))),some (.loc S.length),some (.d (nI q.1)),some (.d (nI q.2))])[1]? =some (.val (dctP (pairs.take i))):=by
   unfold ib;show some (match res (S++[.dct (ye (pairs.take i))]) (.loc S.length) with | some d=>Sl.val d | none=> .un)=_
   unfold res;rw[cD];show some (Sl.val (.dct ((ye (pairs.take i)).map (·.1)) ((ye (pairs.take i)).map (·.2))))=_
   rw[FW]
  refine fI <| D8 <| Lg (b:=(cO (pairs.take i) q.2).isSome) (cA (a:=nI q.2) (b:=dctP (pairs.take i)) rfl (by unfold ag;rw [h1]) (by show wU (.int (q.2:Nat)) _=_;rw [ui])) ?_
  cases hf:(cO (pairs.take i) q.2).isSome with
  | true=>
    rw[if_pos rfl];exact Kg (i:=3) (n:=q.2) rfl (hp q (List.mem_of_getElem? hq)) (by decide+kernel) (by decide+kernel) ⟨⟨_,rfl⟩,by trivial,by trivial,CA hq (tu.mp hf)⟩
  | false=>
    rw[if_neg (by decide)]
    have hno:cO (pairs.take i) q.2=none:=Option.isSome_eq_false_iff.mp hf |> Option.isNone_iff_eq_none.mp
    refine yk ⟨_,rfl,?_⟩;refine nE <| xU <| cW (d:=nI q.1) rfl <| w_var (v:= .loc S.length) rfl <| cW (d:=nI q.2) rfl ⟨_,S.length,_,Sum.inl ((q.2:Nat):Int),ye (pairs.take i),rfl,rfl,rfl,rfl,cD _ _,?_,?_⟩
    .unfold ye;rw [List.length_map,List.length_take];omega
    .refine⟨_,rfl,⟨_,_,rfl⟩,?_,?_⟩
     .rw [gr,yc (by
       have:=nK q.2 (pairs.take i);rw[hno] at this;unfold ye;rw[List.map_map];exact this),List.take_add_one,hq]
      unfold ye;rw[List.map_append];rfl
     .rw [mq hq];exact yf hnd fun hm=>by
       have:=tu.mpr hm;rw[hf] at this;cases this
 rw[List.length_map,List.length_map,List.take_length] at r6 hnd;subst hδ r6;refine nE <| sM (w_var rfl ⟨by unfold i5;exact decide_eq_true (Nat.le_refl _),⟨_,rfl⟩,dctP pairs,?_,by trivial,by trivial,hnd⟩)
 unfold res;rw[cD];show some (D.dct ((ye pairs).map (·.1)) ((ye pairs).map (·.2)))=_
 rw[FW]
theorem sO{xs:List (Str × D)}(hl:xs.length < 1000)(hx:∀x∈xs,x.1.length<=1000)(hS:Ai S):WE (sr cC [.d (.lst (xs.map uS))] S) (fun v S1=>S1=S/\(xs.map (·.1)).Nodup) (fun c S1=>c=4/\S1=S/\¬(xs.map (·.1)).Nodup):=by
 have hz:sizeLine=16777216:=sizeLine_eq;unfold cC;refine J3 hS (KU rfl ?_);simp only[dC,f7,List.map,List.length,List.replicate,List.cons_append,List.nil_append,Nat.reduceAdd,Nat.reduceSub];unfold i4;refine fI <| nE <| bx (by simp) <| AK ⟨_,rfl,?_⟩
 simp only[List.set];refine Bh <| mU (ds:=xs.map uS) rfl ?_
 refine(xp (fun i δ S2=>(∃a b,δ=[some (.d (.lst (xs.map uS))),some (.loc S.length),a,b])/\S2=S++[SO.dct (yx (xs.take i))]/\((xs.take i).map (·.1)).Nodup)
  ⟨⟨_,_,rfl⟩,rfl,by simp⟩ ?_).mono (fun o S2 ⟨dX,uw,⟨a,b,hδ⟩,r6,hnd⟩=>?_) fun c S1 h=>h
 .rintro i v δ S2 hv ⟨⟨a,b,rfl⟩,rfl,hnd⟩;obtain⟨x,hq,rfl⟩:=NT.eT hv;refine⟨[some (.d (.lst (xs.map uS))),some (.loc S.length),some (.d (.str x.1)),some (.d x.2)],rfl,?_⟩;unfold km;have h1:(ib (S++[.dct (yx (xs.take i))]) [some (.d (.lst (xs.map uS))),some (.loc S.length),some (.d (.str x.1)),some (.d x.2)])[1]? =some (.val (.dct ((yx (xs.take i)).map (·.1)) ((yx (xs.take i)).map (·.2)))):=by
   unfold ib;show some (match res (S++[.dct (yx (xs.take i))]) (.loc S.length) with | some d=>Sl.val d | none=> .un)=_
   unfold res;rw[cD]
  have hh:jS ((yx (xs.take i)).map (·.1)) (Sum.inr x.1)=decide (x.1∈(xs.take i).map (·.1)):=by
   by_cases hm:x.1∈(xs.take i).map (·.1)
   .rw [decide_eq_true hm];obtain⟨y,hy,e⟩:=List.mem_map.mp hm;unfold jS yx;rw[List.map_map,List.any_map];exact List.any_eq_true.mpr ⟨y,hy,decide_eq_true (by show(Sum.inr y.1:Key)=Sum.inr x.1;rw [e])⟩
   .rw [decide_eq_false hm];exact BW fun y hy e=>hm (List.mem_map.mpr ⟨y,hy,e⟩)
  refine fI <| D8 <| Lg (b:=decide (x.1∈(xs.take i).map (·.1))) (cA (a:= .str x.1) (b:= .dct ((yx (xs.take i)).map (·.1)) ((yx (xs.take i)).map (·.2))) rfl (by unfold ag;rw [h1]) (by show R.ok (D.bl (jS _ _))=_;rw [hh])) ?_
  by_cases hm:x.1∈(xs.take i).map (·.1)
  .rw [decide_eq_true hm,if_pos rfl];exact Lv (i:=2) rfl (hx x (List.mem_of_getElem? hq)) (by decide+kernel) ⟨⟨_,rfl⟩,by trivial,by trivial,CA hq hm⟩
  .rw [decide_eq_false hm,if_neg (by decide)]
   refine yk ⟨_,rfl,?_⟩;refine nE <| xU <| cW (d:= .bl true) rfl <| w_var (v:= .loc S.length) rfl <| cW (d:= .str x.1) rfl ⟨_,S.length,_,Sum.inr x.1,yx (xs.take i),rfl,rfl,rfl,rfl,cD _ _,?_,?_⟩
   .unfold yx;rw [List.length_map,List.length_take];omega
   .refine⟨_,rfl,⟨_,_,rfl⟩,?_,by rw[mq hq];exact yf hnd hm⟩
    rw[gr,yc (by rw[hh,decide_eq_false hm]),List.take_add_one,hq]
    unfold yx;rw[List.map_append];rfl
 rw[List.length_map,List.length_map,List.take_length] at r6 hnd;subst uw r6;exact⟨by unfold i5;rfl,⟨_,rfl⟩, .cI,by unfold res;rfl,by trivial,hnd⟩
end
section
variable {ak ins2:Wr} {gs1 gs2:List Gt} {os1 bB:Ws} {pairs:List (Nat × Nat)} {S:aZ}
theorem Cz(a b:Nat):rA (.int a) (.int b)= .ok (.bl (!decide (a=b))):=by
 show R.ok (D.bl (!((a:Int)==(b:Int))))=_;congr 3;by_cases h:a=b
 .rw [decide_eq_true h];exact beq_iff_eq.mpr (by omega)
 .rw [decide_eq_false h];exact beq_eq_false_iff_ne.mpr (by omega)
def Ff(os1:Ws)(ins2:Wr)(pairs:List (Nat × Nat)):Prop:=∀q∈pairs,q.1 < os1.length/\q.2 < ins2.length
theorem Az(hR:Ff os1 ins2 pairs)(h1:os1.length < 100)(h2:ins2.length < 100)(hS:Ai S):WE (sr dn [.d (aF ak gs1 os1), .d (aF ins2 gs2 bB), .d (.lst (pairs.map dA))] S) (fun v S1=>S1=S/\Fits os1 ins2 pairs) (fun c S1=>c=11/\S1=S/\¬Fits os1 ins2 pairs):=by
 have hz:sizeLine=16777216:=sizeLine_eq;unfold dn;refine J3 hS (KU rfl ?_);simp only[dC,g6,List.map,List.length,List.replicate,List.cons_append,List.nil_append,Nat.reduceAdd,Nat.reduceSub];unfold jN;refine Bh <| mU (ds:=pairs.map dA) rfl ?_
 refine(xp (fun i δ S2=>(∃a b,δ=[some (.d (aF ak gs1 os1)),some (.d (aF ins2 gs2 bB)),some (.d (.lst (pairs.map dA))),a,b])/\S2=S/\Fits os1 ins2 (pairs.take i))
  ⟨⟨_,_,rfl⟩,rfl,fun q hq=>by cases hq⟩ ?_).mono (fun o S2 ⟨dX,uw,_,r6,hF⟩=>?_) fun c S1 h=>h
 .rintro i v δ S2 hv ⟨⟨a,b,rfl⟩,rfl,hF⟩;obtain⟨q,hq,rfl⟩:=NT.eT hv;obtain⟨r1,r2⟩:=hR q (List.mem_of_getElem? hq);refine⟨[some (.d (aF ak gs1 os1)),some (.d (aF ins2 gs2 bB)),some (.d (.lst (pairs.map dA))),some (.d (nI q.1)),some (.d (nI q.2))],rfl,?_⟩;unfold kY;have g1:os1[q.1]? =some os1[q.1]:=List.getElem?_eq_getElem r1;have g2:ins2[q.2]? =some ins2[q.2]:=List.getElem?_eq_getElem r2;refine D8 <| pf (b:=!decide (os1[q.1].2.length=ins2[q.2].2)) (cA (a:= .int os1[q.1].2.length) (b:= .int ins2[q.2].2) (aq (ds:=[.tup (os1[q.1].2.map nI)]) (ao (av (a:=fZ os1[q.1]) (b:= .int 1) (av (a:= .lst (os1.map fZ)) (b:=nI q.1) (av (a:=aF ak gs1 os1) (b:= .int 2) rfl rfl rfl) rfl (NT.cM (by rw[List.getElem?_map,g1];rfl))) rfl rfl) rfl) (by show R.ok (D.int ((os1[q.1].2.map nI).length:Nat))=_;rw [List.length_map])) (av (a:=MT.inD ins2[q.2]) (b:= .int 1) (av (a:= .lst (ins2.map MT.inD)) (b:=nI q.2) (av (a:=aF ins2 gs2 bB) (b:= .int 0) rfl rfl rfl) rfl (NT.cM (by rw[List.getElem?_map,g2];rfl))) rfl rfl) (Cz _ _)) ?_
  by_cases hm:os1[q.1].2.length=ins2[q.2].2
  .rw [decide_eq_true hm,if_neg (by decide)]
   refine yk ⟨_,rfl,⟨_,_,rfl⟩,rfl,fun p hp=>?_⟩
   rw[List.take_add_one,hq] at hp;rcases List.mem_append.mp hp with z | z
   .exact hF p z
   .rw [show p=q by simpa using z];exact⟨_,_,g1,g2,hm⟩
  .rw [decide_eq_false hm,if_pos (by rfl)]
   refine KL (i:=3) (j:=4) (n:=q.1) (m:=q.2) rfl rfl (by omega) (by omega) (by decide+kernel) (by decide+kernel) ⟨⟨[],by simp⟩,by trivial,by trivial,fun UT=>hm ?_⟩
   obtain⟨x,y,a1,a2,a3⟩:=UT q (List.mem_of_getElem? hq);rw[g1] at a1;rw[g2] at a2;cases a1;cases a2;exact a3
 rw[List.length_map,List.length_map,List.take_length] at hF;subst uw r6;exact⟨by unfold i5;rfl,⟨[],by simp⟩, .cI,by unfold res;rfl,by trivial,hF⟩
theorem BR{a b c:List D}(hS:Ai S):WE (sr dq [.d (.tup [.lst a, .lst b, .lst c])] S) (fun v S1=>S1=S/\(a.length<=6/\b.length<=60/\c.length<=6)) (fun e S1=>e=5/\S1=S/\¬(a.length<=6/\b.length<=60/\c.length<=6)):=by
 have hz:sizeLine=16777216:=sizeLine_eq;unfold dq;refine J3 hS (KU rfl ?_);simp only[dC,g7,List.map,List.length,List.replicate,List.cons_append,List.nil_append,Nat.reduceAdd,Nat.reduceSub];unfold jJ;have q1:b2 rW (aw bV (af (e2 br (ag 0) (eC (.int 0))) aA)) (eC fL) [.val (.tup [.lst a, .lst b, .lst c])]= .ok (decide (6 < a.length)):=cA (a:=nI a.length) (b:=nI 6) (aq (ds:=[.lst a]) rfl cq) rfl (xE _ _);have q2:b2 rW (aw bV (af (e2 br (ag 0) (eC (.int 1))) aA)) (eC dJ) [.val (.tup [.lst a, .lst b, .lst c])]= .ok (decide (60 < b.length)):=cA (a:=nI b.length) (b:=nI 60) (aq (ds:=[.lst b]) rfl cq) rfl (xE _ _);have q3:b2 rW (aw bV (af (e2 br (ag 0) (eC (.int 2))) aA)) (eC eM) [.val (.tup [.lst a, .lst b, .lst c])]= .ok (decide (6 < c.length)):=cA (a:=nI c.length) (b:=nI 6) (aq (ds:=[.lst c]) rfl cq) rfl (xE _ _);refine D8 <| pf (b:=decide (6 < a.length) || (decide (60 < b.length) || decide (6 < c.length))) ?_ ?_
 .show uL _ _ [.val (.tup [.lst a, .lst b, .lst c])]=_;unfold uL;rw[q1,R.aK];cases decide (6 < a.length) with
  | true=>rfl
  | false=>
    rw[if_neg (by decide),q2,R.aK]
    cases decide (60 < b.length) with
    | true=>rfl
    | false=>rw [if_neg (by decide),q3];rfl
 by_cases hm:a.length<=6/\b.length<=60/\c.length<=6
 .rw [decide_eq_false (by omega),decide_eq_false (by omega),decide_eq_false (by omega),if_neg (by decide)]
  exact yk ⟨by unfold i5;rfl,⟨[],by simp⟩, .cI,by unfold res;rfl,by trivial,hm⟩
 .have hb:(decide (6 < a.length) || (decide (60 < b.length) || decide (6 < c.length)))=true:=by
   rw[Bool.or_eq_true,Bool.or_eq_true,decide_eq_true_eq,decide_eq_true_eq,decide_eq_true_eq];omega
  rw[hb,if_pos rfl];exact pC <| aG <| cW (d:= .str _) rfl <| c6 ⟨by show 1<=sizeLine;omega,⟨[],by simp⟩,by trivial,by trivial,hm⟩
end
end K35
end
section
set_option maxHeartbeats 1000000
namespace K35
open PySem PySem.Spec PyProof.Rows L2 L3 MT JT
def fH(pairs:List (Nat × Nat))(ins:Wr):Wr:=(ins.zipIdx.filter fun x=>(cO pairs x.2).isNone).map (·.1)
def eN(pairs:List (Nat × Nat))(os:Ws):Ws:=(os.zipIdx.filter fun x=>!(pairs.map (·.1)).contains x.2).map (·.1)
theorem Bp{pairs:List (Nat × Nat)}{ins:Wr}:b_ (fH pairs ins)=bC (fG pairs ins):=by
 unfold fH fG;generalize ins.zipIdx=l
 induction l with
 | nil=>rfl
 | cons x l ih=>
   rw[List.filter_cons,List.map_cons];cases hf:cO pairs x.2 with
   | none=>
     rw[Option.isNone_none,if_pos rfl,List.map_cons];show b_ (x.1 ::_)=x.1.2+bC _;rw[<-ih];unfold b_;rw[List.map_cons,List.sum_cons]
   | some o=>
     rw[Option.isNone_some,if_neg (by decide)]
     exact ih
theorem BL{pairs:List (Nat × Nat)}{ins:Wr}{x:Str × Nat}(h:x∈fH pairs ins):x∈ins:=by
 unfold fH at h;obtain⟨⟨y,k⟩,hy,rfl⟩:=List.mem_map.mp h;exact List.mem_of_getElem? (List.mem_zipIdx_iff_getElem?.mp (List.mem_filter.mp hy).1)
theorem l7{pairs:List (Nat × Nat)}{os:Ws}{x:Str × List Nat}(h:x∈eN pairs os):x∈os:=by
 unfold eN at h;obtain⟨⟨y,k⟩,hy,rfl⟩:=List.mem_map.mp h;exact List.mem_of_getElem? (List.mem_zipIdx_iff_getElem?.mp (List.mem_filter.mp hy).1)
section
variable {ak ins2:Wr} {gs1 gs2:List Gt} {os1 bB:Ws} {pairs:List (Nat × Nat)} {S:aZ}
abbrev jL(ak ins2:Wr)(os1:Ws)(pairs:List (Nat × Nat)):List Nat:=dM (HY (b_ ak) (bC (fG pairs ins2))) (wg os1) (fG pairs ins2) (b_ ak)
abbrev JH(ak ins2:Wr)(pairs:List (Nat × Nat)):Nat->Nat:=HY (b_ ak) (bC (fG pairs ins2))
abbrev JP(ak ins2:Wr)(gs1:List Gt)(os1:Ws)(pairs:List (Nat × Nat)):Nat->Nat:=Kb (jL ak ins2 os1 pairs) (b_ ak+bC (fG pairs ins2)+gs1.length)
def jI(ak ins2:Wr)(pairs:List (Nat × Nat)):Wr:=ak++fH pairs ins2
def jG(ak ins2:Wr)(gs1 gs2:List Gt)(os1:Ws)(pairs:List (Nat × Nat)):List Gt:=gJ gs1 gs2 (fG pairs ins2) (wg os1) (b_ ak)
def jO(ak ins2:Wr)(gs1:List Gt)(os1 bB:Ws)(pairs:List (Nat × Nat)):Ws:=(eN pairs os1).map (iU (JH ak ins2 pairs))++bB.map (iU (JP ak ins2 gs1 os1 pairs))
theorem AD{α:Type}(f:α->D)(l:List α):gq (l.map f)=l.zipIdx.map fun x=>D.tup [.int x.2,f x.1]:=by
 unfold gq;rw[List.zipIdx_map,List.map_map];rfl
theorem Hn{ins:Wr}:ins.map MT.inD=(ins.map fun x=>(x.1,nI x.2)).map uS:=by rw[List.map_map];rfl
theorem Fe{os:Ws}:os.map fZ=(os.map fun x=>(x.1,D.tup (x.2.map nI))).map uS:=by rw[List.map_map];rfl
theorem EB{ins:Wr}:((fG pairs ins).map (·.2)).sum=b_ ins:=by
 unfold fG b_;rw[List.map_map];congr 1;refine List.ext_getElem? fun i=>?_
 rw[List.getElem?_map,List.getElem?_map,List.getElem?_zipIdx];cases ins[i]? <;> rfl
theorem mR{f g:Nat->Nat}{os:Nat->List Nat}:∀{φ:List (Option Nat × Nat)} {free:Nat},(∀o w,(some o,w)∈φ->∀n∈os o,f n=g n)->dM f os φ free=dM g os φ free
 | [],_,_=>rfl
 | (some o,w) ::φ,free,h=>by
   show(os o).map f++dM f os φ free=(os o).map g++dM g os φ free;rw[mR fun o w hh=>h o w (List.mem_cons_of_mem _ hh),List.map_congr_left (h o w List.mem_cons_self)]
 | (none,w) ::φ,free,h=>by
   show _++dM f os φ (free+w)=_++dM g os φ (free+w);rw[mR fun o w hh=>h o w (List.mem_cons_of_mem _ hh)]
theorem GQ{L:List Nat}{top n w:Nat}(h:w < L.length+n):gd (L++List.range' top n) w=Kb L top w:=by
 show(L++List.range' top n).getD w 0=_;unfold Kb;rw[List.getD_eq_getElem?_getD];by_cases q:w < L.length
 .rw [List.getElem?_append_left q,if_pos q,List.getD_eq_getElem?_getD]
 .rw [List.getElem?_append_right (by omega),if_neg q,List.getElem?_range' (by omega)]
  show top+1*(w - L.length)=_;omega
theorem qz{f g:Nat->Nat}{x:Gt}(h:∀n∈x.2.1,f n=g n):kZ f x=kZ g x:=by unfold kZ;rw [List.map_congr_left h]
theorem qR{f g:Nat->Nat}{x:Str × List Nat}(h:∀n∈x.2,f n=g n):iU f x=iU g x:=by unfold iU;rw [List.map_congr_left h]
theorem yQ{a b:List D}(h:a.length+b.length<=sizeLine):bH (.lst a) (.lst b)= .ok (.lst (a++b)):=yR h
theorem tV(k:Nat)(l:List Nat):mK (.int k) (.lst (l.map nI))= .ok (.bl (!l.contains k)):=by
 have e:l.map nI=(l.map fun(n:Nat)=>(n:Int)).map D.int:=(List.map_map (g:=D.int) (f:=fun(n:Nat)=>(n:Int)) (l:=l)).symm
 rw[e];show((match ints? ((l.map fun(n:Nat)=>(n:Int)).map D.int) with | some ss=>R.ok (ss.contains (k:Int)) | none=> .no)).bind (fun b=>R.ok (D.bl (!b)))=_
 rw[L2.ints_map];show R.ok (D.bl (!((l.map fun(n:Nat)=>(n:Int)).contains (k:Int))))=_
 congr 3;rw[Bool.eq_iff_iff];simp only[List.contains_iff_mem,List.mem_map];constructor
 .rintro⟨a,ha,e⟩;rw[<-Int.ofNat_inj.mp e];exact ha
 .exact fun h=>⟨k,h,rfl⟩
def zW(ak ins2:Wr)(gs1 gs2:List Gt)(os1 bB:Ws)(pairs:List (Nat × Nat))(c:Option Nat):Prop:=
 (¬Fits os1 ins2 pairs/\c=some 11)\/(Fits os1 ins2 pairs/\
 ((¬(pairs.map (·.2)).Nodup/\c=some 4)\/((pairs.map (·.2)).Nodup/\
 ((¬((jI ak ins2 pairs).map (·.1)).Nodup/\c=some 4)\/(((jI ak ins2 pairs).map (·.1)).Nodup/\
 ((¬((jO ak ins2 gs1 os1 bB pairs).map (·.1)).Nodup/\c=some 4)\/(((jO ak ins2 gs1 os1 bB pairs).map (·.1)).Nodup/\
 ((¬((jI ak ins2 pairs).length<=6/\gs1.length+gs2.length<=60/\(jO ak ins2 gs1 os1 bB pairs).length<=6)/\c=some 5)\/(((jI ak ins2 pairs).length<=6/\gs1.length+gs2.length<=60/\(jO ak ins2 gs1 os1 bB pairs).length<=6)/\c=none)))))))))
theorem xA(N1:kr ak gs1 os1)(N2:kr ins2 gs2 bB)(hR:Ff os1 ins2 pairs)(OI:os1.length < 100)(Wc:bB.length < 100)(jE:pairs.length < 1000)(MK:∀x∈ak,x.1.length<=1000)(Rh:∀x∈ins2,x.1.length<=1000)(O3:∀x∈os1,x.1.length<=1000)(OR:∀x∈bB,x.1.length<=1000)(hS:Ai S) :
 WE (sr g8 [.d (aF ak gs1 os1), .d (aF ins2 gs2 bB), .d (.lst (pairs.map dA))] S) (fun v S1=>S1=S/\zW ak ins2 gs1 gs2 os1 bB pairs none) (fun c S1=>S1=S/\zW ak ins2 gs1 gs2 os1 bB pairs (some c)):=by
 have hz:sizeLine=16777216:=sizeLine_eq;have Jz:=qX N1.hw;have FK:=qX N2.hw;have JY:=N1.hi;have L7:=N1.hg;have h13:=N1.ho;have h21:=N2.hi;have h22:=N2.hg;have h23:=N2.ho;have hpw:∀x∈fG pairs ins2,x.2 < 100:=fun x hx=>by
  unfold fG at hx;obtain⟨⟨y,k⟩,hy,rfl⟩:=List.mem_map.mp hx;rw[List.mem_zipIdx_iff_getElem?] at hy;exact N2.hw y (List.mem_of_getElem? hy)
 have hlw:bC (fG pairs ins2) < 10000:=by
  have:=nM hpw;rw[pB] at this;omega
 have hll:(fH pairs ins2).length<=ins2.length:=by
  unfold fH;rw[List.length_map];have:=List.length_filter_le (fun x:(Str × Nat) × Nat=>(cO pairs x.2).isNone) ins2.zipIdx
  rwa [List.length_zipIdx] at this
 have hlo:(eN pairs os1).length<=os1.length:=by
  unfold eN;rw[List.length_map];have:=List.length_filter_le (fun x:(Str × List Nat) × Nat=>!(pairs.map (·.1)).contains x.2) os1.zipIdx
  rwa [List.length_zipIdx] at this
 unfold g8;refine J3 hS (KU rfl ?_);simp only[dC,nF,List.map,List.length,List.replicate,List.cons_append,List.nil_append,Nat.reduceAdd,Nat.reduceSub];unfold pO;refine fI <| ri <| og <| aG <| cW (d:=aF ak gs1 os1) rfl <| aG <| cW (d:=aF ins2 gs2 bB) rfl <| aG <| cW (d:= .lst (pairs.map dA)) rfl <| c6 <| (Az hR OI h21 hS).mono (fun v S1 ⟨e1,F⟩=>⟨_,rfl,?_⟩) fun c S1 ⟨e1,e2,hF⟩=>⟨⟨[],by rw[e2,List.append_nil]⟩,trivial, .inl ⟨hF,by rw[e1]⟩⟩
 obtain rfl:=e1.symm;refine fI <| K7 (by simp) <| og <| aG <| cW (d:= .lst (pairs.map dA)) rfl <| c6 <| (E5 jE (fun q hq=>by have:=(hR q hq).2;omega) hS).mono (fun v S1 ⟨e0,e1,nd⟩=>⟨_,rfl,?_⟩) fun c S1 ⟨e1,e2,hn⟩=>⟨⟨[],by rw[e2,List.append_nil]⟩,trivial, .inr ⟨F, .inl ⟨hn,by rw[e1]⟩⟩⟩
 subst e0;obtain rfl:=e1.symm;simp only[List.set];refine fI <| nE <| bx (by simp) <| cW (d:= .lst ((pairs.map (·.1)).map nI)) (bA (bY (ds:=pairs.map dA) rfl (by rw[List.length_map];omega) ?_)) ⟨_,rfl,?_⟩
 .rw [List.map_map];exact NT.bu dA _ fun q hq=>⟨[.val (nI q.1), .val (nI q.2)],rfl,rfl,rfl⟩
 simp only[List.set];refine fI <| nE <| bx (by simp) <| iO (fun j ds S2=>S2=S/\ds=(((ins2.zipIdx.take j).filter fun x=>(cO pairs x.2).isNone).map (·.1)).map MT.inD) <| mU (ds:=ins2.zipIdx.map fun x=>D.tup [.int x.2,MT.inD x.1]) (by rw[<-AD MT.inD];exact xt rfl) ⟨by rw[List.length_map,List.length_map,List.length_zipIdx];omega,⟨rfl,rfl⟩,?_,?_⟩
 .rintro j v ds S2 hv ⟨rfl,rfl⟩;obtain⟨⟨x,k⟩,hx,rfl⟩:=NT.eT hv;refine⟨[some (.d (.int k)),some (.d (inD x)),some (.d (dctP pairs))],rfl,pf (b:=(cO pairs k).isNone) (cA (a:= .int k) (b:=dctP pairs) rfl rfl Dr) ?_⟩;rw[List.take_add_one,hx,List.filter_append];cases hf:(cO pairs k).isNone with
  | true=>rw [if_pos rfl];exact cW (d:=inD x) rfl ⟨_,rfl,rfl,by simp [hf]⟩
  | false=>rw [if_neg (by decide)];exact⟨rfl,by simp [hf]⟩
 rintro ds S2 ⟨e1,rfl⟩;subst S2;rw[List.length_map,List.length_map,List.take_length];refine⟨_,rfl,?_⟩;simp only[List.set];refine fI <| nE <| bx (by simp) <| iO (fun j ds S2=>S2=S/\ds=(((os1.zipIdx.take j).filter fun x=>!(pairs.map (·.1)).contains x.2).map (·.1)).map fZ) <| mU (ds:=os1.zipIdx.map fun x=>D.tup [.int x.2,fZ x.1]) (by rw[<-AD fZ];exact xt rfl) ⟨by rw[List.length_map,List.length_map,List.length_zipIdx];omega,⟨rfl,rfl⟩,?_,?_⟩
 .rintro j v ds S2 hv ⟨rfl,rfl⟩;obtain⟨⟨x,k⟩,hx,rfl⟩:=NT.eT hv;refine⟨[some (.d (.int k)),some (.d (fZ x)),some (.d (.lst ((pairs.map (·.1)).map nI)))],rfl,pf (b:=!(pairs.map (·.1)).contains k) (cA (a:= .int k) (b:= .lst ((pairs.map (·.1)).map nI)) rfl rfl ?_) ?_⟩
  .exact tV k _
  rw[List.take_add_one,hx,List.filter_append];cases hf:!(pairs.map (·.1)).contains k with
  | true=>rw [if_pos rfl];exact cW (d:=fZ x) rfl ⟨_,rfl,rfl,by rw[List.map_append,List.map_append];congr 1;simp only[Option.toList_some,List.filter_cons,hf,if_true,List.filter_nil,List.map_cons,List.map_nil]⟩
  | false=>rw [if_neg (by decide)];exact⟨rfl,by congr 1;simp only[Option.toList_some,List.filter_cons,hf,List.filter_nil];simp⟩
 rintro ds S2 ⟨e1,rfl⟩;subst S2;rw[List.length_map,List.length_map,List.take_length];refine⟨_,rfl,?_⟩;simp only[List.set];have eI:((ins2.zipIdx.filter fun x=>(cO pairs x.2).isNone).map (·.1)).map MT.inD=(fH pairs ins2).map MT.inD:=rfl
 have eO:((os1.zipIdx.filter fun x=>!(pairs.map (·.1)).contains x.2).map (·.1)).map fZ=(eN pairs os1).map fZ:=rfl
 rw[eI,eO];refine fI <| nE <| bx (by simp) <| cW (d:= .lst ((nX (b_ ak) (bC (fG pairs ins2)) gs1.length).map nI)) (aq (ds:=[aF ak gs1 os1,nI (bC (fG pairs ins2))]) (ao rfl (ao (aq (ds:=[.lst ((fH pairs ins2).map inD)]) rfl (by rw[uh (by omega),Bp])) rfl)) (Il JY N1.hw L7 (by omega))) ⟨_,rfl,?_⟩
 simp only[List.set];have hnl:=BH (b_ ak) (bC (fG pairs ins2)) gs1.length;have hna:∀w,w < b_ ak+gs1.length->gd (nX (b_ ak) (bC (fG pairs ins2)) gs1.length) w=JH ak ins2 pairs w:=fun w hw=>Fi hw
 have hL:dM (gd (nX (b_ ak) (bC (fG pairs ins2)) gs1.length)) (wg os1) (fG pairs ins2) (b_ ak)=jL ak ins2 os1 pairs:=mR fun o w ho n hn=>by
  obtain⟨x,x1,x2,x3⟩:=F.at ho;rw[x2] at hn;exact hna n ((N1.o x (List.mem_of_getElem? x1)).2 n hn)
 have hLl:(jL ak ins2 os1 pairs).length=b_ ins2:=by
  rw[nk _ _ fun o w ho=>by obtain⟨x,_,e,e2⟩:=F.at ho;rw [e,e2],EB]
 refine fI <| nE <| bx (by simp) <| cW (d:= .lst ((jL ak ins2 os1 pairs++List.range' (b_ ak+bC (fG pairs ins2)+gs1.length) gs2.length).map nI)) ((aq (ds:=[aF ins2 gs2 bB,aF ak gs1 os1, .lst ((nX (b_ ak) (bC (fG pairs ins2)) gs1.length).map nI),dctP pairs]) rfl (AN F JY N1.hw h21 N2.hw L7 h22 (fun x hx=>⟨(N1.o x hx).1,fun n hn=>by rw[hnl];exact(N1.o x hx).2 n hn⟩))).trans (by rw[hL])) ⟨_,rfl,?_⟩
 simp only[List.set];generalize hnu:nX (b_ ak) (bC (fG pairs ins2)) gs1.length=nums at hnl hna;have hnb:∀w,w < b_ ins2+gs2.length->gd (jL ak ins2 os1 pairs++List.range' (b_ ak+bC (fG pairs ins2)+gs1.length) gs2.length) w=JP ak ins2 gs1 os1 pairs w:=fun w hw=>GQ (by rw[hLl];exact hw)
 have Ag:(jL ak ins2 os1 pairs++List.range' (b_ ak+bC (fG pairs ins2)+gs1.length) gs2.length).length=b_ ins2+gs2.length:=by rw[List.length_append,hLl,List.length_range']
 generalize jL ak ins2 os1 pairs++List.range' (b_ ak+bC (fG pairs ins2)+gs1.length) gs2.length=oths at hnb Ag;refine fI <| nE <| bx (by simp) <| cW (d:= .lst ((jI ak ins2 pairs).map inD)) (av (a:= .lst (ak.map inD)) (b:= .lst ((fH pairs ins2).map inD)) rfl rfl ((yQ (by rw[List.length_map,List.length_map];omega)).trans (by unfold jI;rw [List.map_append]))) ⟨_,rfl,?_⟩
 simp only[List.set];have g1:∀g∈gs1,(∀n∈g.2.1,n < b_ ak+gs1.length)/\g.2.1.length < 1000:=fun g hg=>by
  obtain⟨i,hi⟩:=List.getElem?_of_mem hg;have hil:=(List.getElem?_eq_some_iff.mp hi).1;obtain⟨a,b,c⟩:=N1.g i g hi;have:=yt g.1;exact⟨fun n hn=>by have:=c n hn;omega,by omega⟩
 have g2:∀g∈gs2,(∀n∈g.2.1,n < b_ ins2+gs2.length)/\g.2.1.length < 1000:=fun g hg=>by
  obtain⟨i,hi⟩:=List.getElem?_of_mem hg;have hil:=(List.getElem?_eq_some_iff.mp hi).1;obtain⟨a,b,c⟩:=N2.g i g hi;have:=yt g.1;exact⟨fun n hn=>by have:=c n hn;omega,by omega⟩
 have eG1:gs1.map (kZ (gd nums))=gs1.map (kZ (JH ak ins2 pairs)):=List.map_congr_left fun g hg=>qz fun n hn=>hna n ((g1 g hg).1 n hn)
 have eG2:gs2.map (kZ (gd oths))=gs2.map (kZ (JP ak ins2 gs1 os1 pairs)):=List.map_congr_left fun g hg=>qz fun n hn=>hnb n ((g2 g hg).1 n hn)
 have eO1:(eN pairs os1).map (iU (gd nums))=(eN pairs os1).map (iU (JH ak ins2 pairs)):=List.map_congr_left fun x hx=>qR fun n hn=>hna n ((N1.o x (l7 hx)).2 n hn)
 have eO2:bB.map (iU (gd oths))=bB.map (iU (JP ak ins2 gs1 os1 pairs)):=List.map_congr_left fun x hx=>qR fun n hn=>hnb n ((N2.o x hx).2 n hn)
 refine fI <| nE <| bx (by simp) <| cW (d:= .lst ((jG ak ins2 gs1 gs2 os1 pairs).map gZ)) (av (a:= .lst ((gs1.map (kZ (JH ak ins2 pairs))).map gZ)) (b:= .lst ((gs2.map (kZ (JP ak ins2 gs1 os1 pairs))).map gZ)) ((aq (ds:=[.lst (gs1.map gZ), .lst (nums.map nI)]) rfl (vQ (fun g hg=>by rw[hnl];exact g1 g hg) L7)).trans (by rw[eG1])) ((aq (ds:=[.lst (gs2.map gZ), .lst (oths.map nI)]) rfl (vQ (fun g hg=>by rw[Ag];exact g2 g hg) h22)).trans (by rw[eG2])) ((yQ (by rw[List.length_map,List.length_map,List.length_map,List.length_map];omega)).trans (by unfold jG gJ;rw [List.map_append]))) ⟨_,rfl,?_⟩
 simp only[List.set];refine fI <| nE <| bx (by simp) <| cW (d:= .lst ((jO ak ins2 gs1 os1 bB pairs).map fZ)) (av (a:= .lst (((eN pairs os1).map (iU (JH ak ins2 pairs))).map fZ)) (b:= .lst ((bB.map (iU (JP ak ins2 gs1 os1 pairs))).map fZ)) ((aq (ds:=[.lst ((eN pairs os1).map fZ), .lst (nums.map nI)]) rfl (uY (fun x hx=>by rw[hnl];exact⟨(N1.o x (l7 hx)).2,(N1.o x (l7 hx)).1⟩) (by omega))).trans (by rw[eO1])) ((aq (ds:=[.lst (bB.map fZ), .lst (oths.map nI)]) rfl (uY (fun x hx=>by rw[Ag];exact⟨(N2.o x hx).2,(N2.o x hx).1⟩) h23)).trans (by rw[eO2])) ((yQ (by rw[List.length_map,List.length_map,List.length_map,List.length_map];omega)).trans (by unfold jO;rw [List.map_append]))) ⟨_,rfl,?_⟩
 simp only[List.set];have jgl:(jG ak ins2 gs1 gs2 os1 pairs).length=gs1.length+gs2.length:=by unfold jG gJ;rw [List.length_append,List.length_map,List.length_map]
 have nI:((jI ak ins2 pairs).map fun x=>(x.1,nI x.2)).map (·.1)=(jI ak ins2 pairs).map (·.1):=by rw[List.map_map];rfl
 have nO:((jO ak ins2 gs1 os1 bB pairs).map fun x=>(x.1,D.tup (x.2.map MT.nI))).map (·.1)=(jO ak ins2 gs1 os1 bB pairs).map (·.1):=by rw[List.map_map];rfl
 have jil:(jI ak ins2 pairs).length < 1000:=by unfold jI;rw [List.length_append];omega
 have jol:(jO ak ins2 gs1 os1 bB pairs).length < 1000:=by unfold jO;rw [List.length_append,List.length_map,List.length_map];omega
 have lI:∀x∈(jI ak ins2 pairs).map (fun x=>(x.1,MT.nI x.2)),x.1.length<=1000:=fun x hx=>by
  obtain⟨y,hy,rfl⟩:=List.mem_map.mp hx;rcases List.mem_append.mp hy with z | z
  .exact MK y z
  .exact Rh y (BL z)
 have lO:∀x∈(jO ak ins2 gs1 os1 bB pairs).map (fun x=>(x.1,D.tup (x.2.map MT.nI))),x.1.length<=1000:=fun x hx=>by
  obtain⟨y,hy,rfl⟩:=List.mem_map.mp hx;rcases List.mem_append.mp hy with z | z
  .obtain⟨u,hu,rfl⟩:=List.mem_map.mp z;exact O3 u (l7 hu)
  .obtain⟨u,hu,rfl⟩:=List.mem_map.mp z;exact OR u hu
 have hY1:¬(((jI ak ins2 pairs).map fun x=>(x.1,MT.nI x.2)).map (·.1)).Nodup->zW ak ins2 gs1 gs2 os1 bB pairs (some 4):=fun hn=> .inr ⟨F, .inr ⟨nd, .inl ⟨by rw[nI] at hn;exact hn,rfl⟩⟩⟩
 have hY2:(((jI ak ins2 pairs).map fun x=>(x.1,MT.nI x.2)).map (·.1)).Nodup->¬(((jO ak ins2 gs1 os1 bB pairs).map fun x=>(x.1,D.tup (x.2.map MT.nI))).map (·.1)).Nodup->zW ak ins2 gs1 gs2 os1 bB pairs (some 4):=fun hn xN=> .inr ⟨F, .inr ⟨nd, .inr ⟨by rw[nI] at hn;exact hn, .inl ⟨by rw[nO] at xN;exact xN,rfl⟩⟩⟩⟩
 have hY3:(((jI ak ins2 pairs).map fun x=>(x.1,MT.nI x.2)).map (·.1)).Nodup->(((jO ak ins2 gs1 os1 bB pairs).map fun x=>(x.1,D.tup (x.2.map MT.nI))).map (·.1)).Nodup->¬((((jI ak ins2 pairs).map fun x=>(x.1,MT.nI x.2)).map uS).length<=6/\((jG ak ins2 gs1 gs2 os1 pairs).map gZ).length<=60/\(((jO ak ins2 gs1 os1 bB pairs).map fun x=>(x.1,D.tup (x.2.map MT.nI))).map uS).length<=6)->zW ak ins2 gs1 gs2 os1 bB pairs (some 5):=fun hn xN hr=> .inr ⟨F, .inr ⟨nd, .inr ⟨by rw[nI] at hn;exact hn, .inr ⟨by rw[nO] at xN;exact xN, .inl ⟨by simp only[List.length_map] at hr;rw [jgl] at hr;exact hr,rfl⟩⟩⟩⟩⟩
 have hQ:(((jI ak ins2 pairs).map fun x=>(x.1,MT.nI x.2)).map (·.1)).Nodup->(((jO ak ins2 gs1 os1 bB pairs).map fun x=>(x.1,D.tup (x.2.map MT.nI))).map (·.1)).Nodup->((((jI ak ins2 pairs).map fun x=>(x.1,MT.nI x.2)).map uS).length<=6/\((jG ak ins2 gs1 gs2 os1 pairs).map gZ).length<=60/\(((jO ak ins2 gs1 os1 bB pairs).map fun x=>(x.1,D.tup (x.2.map MT.nI))).map uS).length<=6)->zW ak ins2 gs1 gs2 os1 bB pairs none:=fun hn xN hr=> .inr ⟨F, .inr ⟨nd, .inr ⟨by rw[nI] at hn;exact hn, .inr ⟨by rw[nO] at xN;exact xN, .inr ⟨by simp only[List.length_map] at hr;rw [jgl] at hr;exact hr,rfl⟩⟩⟩⟩⟩
 have CJ:((jI ak ins2 pairs).map fun x=>(x.1,MT.nI x.2)).length < 1000:=by rw[List.length_map];exact jil
 have Ag:((jO ak ins2 gs1 os1 bB pairs).map fun x=>(x.1,D.tup (x.2.map MT.nI))).length < 1000:=by rw[List.length_map];exact jol
 rw[Hn (ins:=jI ak ins2 pairs),Fe (os:=jO ak ins2 gs1 os1 bB pairs)]
 clear nI nO
 generalize (jI ak ins2 pairs).map (fun x=>(x.1,MT.nI x.2))=xI at hY1 hY2 hY3 hQ CJ lI
 generalize (jO ak ins2 gs1 os1 bB pairs).map (fun x=>(x.1,D.tup (x.2.map MT.nI)))=xO at hY2 hY3 hQ Ag lO
 generalize (jG ak ins2 gs1 gs2 os1 pairs).map gZ=lG at hY3 hQ;generalize zW ak ins2 gs1 gs2 os1 bB pairs=DC at*;refine fI <| ri <| og <| aG <| cW (d:= .lst (xI.map uS)) rfl <| c6 <| (sO CJ lI hS).mono (fun v S1 ⟨e1,hn⟩=>⟨_,rfl,?_⟩) fun c S1 ⟨e1,e2,hn⟩=>⟨⟨[],by rw[e2,List.append_nil]⟩,trivial,by rw[e1];exact hY1 hn⟩
 obtain rfl:=e1.symm;refine fI <| ri <| og <| aG <| cW (d:= .lst (xO.map uS)) rfl <| c6 <| (sO Ag lO hS).mono (fun v S2 ⟨e1,xN⟩=>⟨_,rfl,?_⟩) fun c S2 ⟨e1,e2,xN⟩=>⟨⟨[],by rw[e2,List.append_nil]⟩,trivial,by rw[e1];exact hY2 hn xN⟩
 obtain rfl:=e1.symm;refine fI <| ri <| og <| aG <| cW (d:= .tup [.lst (xI.map uS), .lst lG, .lst (xO.map uS)]) (bG rfl (by simp;omega)) <| c6 <| (BR hS).mono (fun v S3 ⟨e1,hr⟩=>⟨_,rfl,?_⟩) fun c S3 ⟨e1,e2,hr⟩=>⟨⟨[],by rw[e2,List.append_nil]⟩,trivial,by rw[e1];exact hY3 hn xN hr⟩
 obtain rfl:=e1.symm;exact nE <| sM <| cW (d:= .tup [.lst (xI.map uS), .lst lG, .lst (xO.map uS)]) (bG rfl (by simp;omega)) ⟨rfl,⟨[],by simp⟩,_,rfl,trivial,hQ hn xN hr⟩
end
end K35
end
section
set_option maxHeartbeats 4000000
namespace K35
open PySem PySem.Spec PyProof.Rows L2 L3 MT JT
def stir(cell k:Int):Int:=if 10 ^ 18<=cell then(cell - 10 ^ 18) / 2 ^ (28*k).toNat % 2 ^ 28
 else((cell+1013*k+1)*16807 % 2147483647)*((cell+1013*k+1)*16807 % 2147483647) % 2147483629*39373 % 2147483587 / 8
theorem D5(cell k:Int)(hk:0<=k):aJ [.int cell, .int k]= .ok (.int (stir cell k)):=by
 have p1:∀δ,e2 zF (eC (.int 10)) (eC (.int 18)) δ= .ok (.int (10 ^ 18)):=fun δ=>rfl
 have p2:∀δ,e2 zF (eC (.int 2)) (eC (.int 28)) δ= .ok (.int (2 ^ 28)):=fun δ=>rfl
 have ge:∀a b:Int,KY (.int a) (.int b)= .ok (.bl (decide (a>=b))):=fun a b=>rfl
 have mulc:∀(a b:Int),(-(2 ^ 64) < b/\b < 2 ^ 64)->kE (.int a) (.int b)= .ok (.int (a*b)):=fun a b h=>by
  show R.aS (decide _) (R.ok (D.int (a*b)))=_;exact bW _ (.inr h)
 have mulc':∀(a b:Int),(-(2 ^ 64) < a/\a < 2 ^ 64)->kE (.int a) (.int b)= .ok (.int (a*b)):=fun a b h=>by
  show R.aS (decide _) (R.ok (D.int (a*b)))=_;exact bW _ (.inl h)
 unfold aJ p9 stir;by_cases h:(10:Int) ^ 18<=cell
 .rw [if_pos h];refine gz (NT.jT (oR (cA (a:= .int cell) (b:= .int (10 ^ 18)) rfl (p1 _) ((ge _ _).trans (by rw[decide_eq_true h]))) (dP (av (a:= .int ((cell - 10 ^ 18) / 2 ^ (28*k).toNat)) (b:= .int (2 ^ 28)) (av (a:= .int (cell - 10 ^ 18)) (b:= .int (28*k)) (av (a:= .int cell) (b:= .int (10 ^ 18)) rfl (p1 _) rfl) (av (a:= .int 28) (b:= .int k) rfl rfl (mulc' _ _ ⟨by omega,by omega⟩)) ?_) (p2 _) (pM (by omega))))))
  show R.aS (decide ((0:Int)<=28*k)) (R.ok (D.int ((cell - 10 ^ 18) / 2 ^ (28*k).toNat)))=_;exact bW _ (by omega)
 .rw [if_neg h];refine gz (a9 (lH (cA (a:= .int cell) (b:= .int (10 ^ 18)) rfl (p1 _) ((ge _ _).trans (by rw[decide_eq_false h]))) rfl) (a9 (bZ (d:= .int ((cell+1013*k+1)*16807 % 2147483647)) (av (a:= .int ((cell+1013*k+1)*16807)) (b:= .int 2147483647) (av (a:= .int (cell+1013*k+1)) (b:= .int 16807) (av (a:= .int (cell+1013*k)) (b:= .int 1) (av (a:= .int cell) (b:= .int (1013*k)) rfl (av (a:= .int 1013) (b:= .int k) rfl rfl (mulc' _ _ ⟨by omega,by omega⟩)) rfl) rfl rfl) rfl (mulc _ _ ⟨by omega,by omega⟩)) rfl (pM (by omega))) (by simp [dW,jP])) ?_))
  have b1:0<=(cell+1013*k+1)*16807 % 2147483647:=Int.emod_nonneg _ (by omega)
  have b2':(cell+1013*k+1)*16807 % 2147483647 < 2147483647:=Int.emod_lt_of_pos _ (by omega)
  generalize (cell+1013*k+1)*16807 % 2147483647=x at b1 b2';refine a9 (bZ (d:= .int (x*x % 2147483629)) (av (a:= .int (x*x)) (b:= .int 2147483629) (av (a:= .int x) (b:= .int x) rfl rfl (mulc _ _ ⟨by omega,by omega⟩)) rfl (pM (by omega))) (by simp [dW,jP])) (dP ?_)
  exact av (a:= .int (x*x % 2147483629*39373 % 2147483587)) (b:= .int 8) (av (a:= .int (x*x % 2147483629*39373)) (b:= .int 2147483587) (av (a:= .int (x*x % 2147483629)) (b:= .int 39373) rfl rfl (mulc _ _ ⟨by omega,by omega⟩)) rfl (pM (by omega))) rfl (yz (by omega) (by omega))
theorem E6(cell k:Int):0<=stir cell k:=by
 unfold stir;split <;> omega
def stN(cell:Int)(k:Nat):Nat:=(stir cell k).toNat
theorem eX(cell:Int)(k:Nat):aJ [.int cell,nI k]= .ok (nI (stN cell k)):=by
 show aJ [.int cell, .int k]=_;rw[D5 cell k (by omega)]
 unfold nI stN;rw[Int.toNat_of_nonneg (E6 _ _)]
end K35
end
section
set_option maxHeartbeats 1000000
namespace K35
open PySem PySem.Spec PyProof.Rows L2 L3 MT JT
structure Og (L:Str) (a:Nat->Str):Prop where
 ix:∀k,k < 3->br (.str L) (nI k)= .ok (.str (a k))
 sl:∀f:Nat,(f=0\/f=4)->∃C,JI (.str L) (some (f:Int)) none= .ok (.str C)/\∀k,k < 3->br (.str C) (nI k)= .ok (.str (a (f+k)))
structure Any (a:Nat->Str) (ins:Wr) (gs:List Gt) (os:Ws):Prop where
 N:kr ins gs os
 i1:1<=ins.length
 i3:ins.length<=3
 g:gs.length<=7
 o1:1<=os.length
 o3:os.length<=3
 iw:∀x∈ins,1<=x.2/\x.2<=3
 nI:ins.map (·.1)=(List.range ins.length).map a
 nO:∃f,(f=0\/f=4)/\os.map (·.1)=(List.range os.length).map fun k=>a (f+k)
def De:D:= .lst [.int 1, .int 2, .int 3]
theorem Gg(n:Nat):br De (nI (n % 3))= .ok (nI (1+n % 3)):=by
 have h:n % 3 < 3:=Nat.mod_lt _ (by omega)
 match n % 3,h with
 | 0,_=>rfl
 | 1,_=>rfl
 | 2,_=>rfl
theorem sumZ:∀ns:List Nat,(ns.map fun(n:Nat)=>(n:Int)).sum=(ns.sum:Int)
 | []=>rfl
 | n ::ns=>by
   show(n:Int)+(ns.map fun(n:Nat)=>(n:Int)).sum=((n+ns.sum:Nat):Int)
   rw[sumZ ns];omega
theorem Cc(T:List Nat):T.map nI=(T.map fun(n:Nat)=>(n:Int)).map D.int:=(List.map_map (g:=D.int) (f:=fun(n:Nat)=>(n:Int)) (l:=T)).symm
theorem BD(ns:List Nat):so [.lst (ns.map nI)]= .ok (nI ns.sum):=by
 rw[Cc];show(match ints? ((ns.map fun(n:Nat)=>(n:Int)).map D.int) with | some ns=>R.ok (D.int ns.sum) | none=> .no)=_
 rw[L2.ints_map];show R.ok (D.int (ns.map fun(n:Nat)=>(n:Int)).sum)=_
 rw[sumZ];rfl
abbrev aE(c:Int)(f:Nat)(L:Str)(x4 x5 x6 x7 x8 x9 x10 x11 Rr Rp x14:Option V3):DE:=[some (.d (.int c)),some (.d (nI f)),some (.d (.str L)),some (.d De),x4,x5,x6,x7,x8,x9,x10,x11,Rr,Rp,x14]
def BJ(n:Nat)(G:List Gt):Prop:=∀(i:Nat) (x:Gt),G[i]? =some x->Fj (n+i) x
theorem BJ.push{P:Nat}{G:List Gt}{g:Gt}(h:BJ P G)(hg:Fj (P+G.length) g):BJ P (G++[g]):=by
 intro i x hx;by_cases hi:i < G.length
 .rw [List.getElem?_append_left hi] at hx;exact h i x hx
 .rw [List.getElem?_append_right (by omega)] at hx
  have h0:i - G.length=0:=by
   cases q:i - G.length with
   | zero=>rfl
   | succ n=>rw [q] at hx;simp at hx
  rw[h0] at hx;cases hx;rw[show i=G.length by omega];exact hg
section
variable {S:aZ} {c:Int} {f:Nat} {L:Str} {a:Nat->Str} {x4 x5 x9 x10 x11 Rr Rp x14:Option V3}
theorem wF{n i:Nat}{G:List Gt}(hn:0 < n)(hi:i < 10)(hG:BJ n G)(hl:G.length=i) :
 W3 (gG (aE c f L x4 x5 (some (.d (nI n))) (some (.loc S.length)) (some (.d (nI i))) x9 x10 x11 none none none) (S++[.lst (G.map gZ)])) fun o S2=>∃g y4 y9 CT Gw,o= .nx (aE c f L y4 x5 (some (.d (nI n))) (some (.loc S.length)) (some (.d (nI i))) y9 CT Gw none none none)/\S2=S++[SO.lst ((G++[g]).map gZ)]/\Fj (n+G.length) g:=by
 have hz:sizeLine=16777216:=sizeLine_eq;unfold gG;obtain⟨r,hr⟩:∃r,stN c (f+10+5*i)=r:=⟨_,rfl⟩;refine bN <| bx (by simp) <| cW (d:=nI r) ((aq (ds:=[.int c,nI (f+10+5*i)]) (ao rfl (ao (av (a:=nI (f+10)) (b:=nI (5*i)) (av (a:=nI f) (b:=nI 10) rfl rfl (dh _ _)) (av (a:=nI 5) (b:=nI i) rfl rfl (sQ (.inr (by omega)))) (dh _ _)) rfl)) (eX c _)).trans (by rw[hr])) ⟨_,rfl,?_⟩
 simp only[List.set];have hkd:=GI r;have hal:=yt (kdN r);refine bN <| bx (by simp) <| cW (d:= .str (kS (kdN r))) (Lm rfl) ⟨_,rfl,?_⟩
 simp only[List.set];generalize kdN r=kd at hkd hal;refine bN <| bx (by simp) <| cW (d:=nI (ar kd)) (LH hkd rfl) ⟨_,rfl,?_⟩
 simp only[List.set]
 let pk:Nat->Nat:=fun j=>stN c (f+11+5*i+j) % (n+i)
 refine bN <| bx (by simp) <| iO (fun j ds S2=>S2=S++[.lst (G.map gZ)]/\ds=((List.range j).map pk).map nI) <| mU (jD (n:=ar kd) rfl (by omega)) ⟨by rw[List.length_map,List.length_map,List.length_range];omega,⟨rfl,rfl⟩,?_,?_⟩
 .rintro j v ds S2 hv ⟨rfl,rfl⟩;obtain⟨j',Dn,rfl⟩:=NT.eT hv;obtain⟨hjl,ej⟩:=List.getElem?_eq_some_iff.mp Dn;rw[List.getElem_range] at ej;subst ej;refine⟨[some (.d (nI j)),some (.d (.int c)),some (.d (nI f)),some (.d (nI n)),some (.d (nI i))],rfl,uD ?_⟩;rw[if_pos rfl];refine cW (d:=nI (pk j)) (av (a:=nI (stN c (f+11+5*i+j))) (b:=nI (n+i)) (aq (ds:=[.int c,nI (f+11+5*i+j)]) (ao rfl (ao (av (a:=nI (f+11+5*i)) (b:=nI j) (av (a:=nI (f+11)) (b:=nI (5*i)) (av (a:=nI f) (b:=nI 11) rfl rfl (dh _ _)) (av (a:=nI 5) (b:=nI i) rfl rfl (sQ (.inr (by omega)))) (dh _ _)) rfl (dh _ _)) rfl)) (eX c _)) (av (a:=nI n) (b:=nI i) rfl rfl (dh _ _)) (et (by omega))) ⟨_,rfl,rfl,?_⟩
  rw[List.range_succ,List.map_append,List.map_append];rfl
 rintro ds S2 ⟨e1,rfl⟩;subst S2;rw[List.length_map,List.length_map,List.length_range];refine⟨_,rfl,?_⟩;simp only[List.set];refine BM (k:=S.length) rfl ⟨_,cD _ _⟩ (cW (d:=gZ (kd,(List.range (ar kd)).map pk,decide (r / 5 % 3=0))) (bG (ao rfl (ao (aq (ds:=[.lst (((List.range (ar kd)).map pk).map nI)]) rfl rfl) (ao (av (a:=nI (r / 5 % 3)) (b:=nI 0) (av (a:=nI (r / 5)) (b:=nI 3) (av (a:=nI r) (b:=nI 5) rfl rfl (yB (by omega) (by omega))) rfl (et (by omega))) rfl (wQ _ _)) rfl))) (by simp;omega)) ⟨_,_,rfl,cD _ _,by rw[List.length_map];omega,(kd,(List.range (ar kd)).map pk,decide (r / 5 % 3=0)),_,_,_,_,rfl,?_,hkd,?_,fun w hw=>?_⟩)
 .rw [gr,List.map_append];rfl
 .show((List.range (ar kd)).map pk).length=_;rw[List.length_map,List.length_range]
 .obtain⟨j,_,rfl⟩:=List.mem_map.mp (show w∈(List.range (ar kd)).map pk from hw)
  rw[hl];exact Nat.mod_lt _ (by omega)
theorem Aw{n i fo:Nat}{G:List Gt}{os:Ws}(hn:0 < n)(hi:i < 3)(hG:G.length < 100)(hC:br (.str C) (nI i)= .ok (.str (a (fo+i))))(Ag:os.length < 100) :
 W3 (gC (aE c f L x4 x5 (some (.d (nI n))) (some (.d (.lst (G.map gZ)))) (some (.d (nI i))) x9 x10 x11 (some (.loc S.length)) (some (.d (.str C))) x14) (S++[.lst (os.map fZ)])) fun o S2=>∃ws Gw MM,o= .nx (aE c f L x4 x5 (some (.d (nI n))) (some (.d (.lst (G.map gZ)))) (some (.d (nI i))) x9 x10 Gw (some (.loc S.length)) (some (.d (.str C))) MM)/\S2=S++[SO.lst ((os++[(a (fo+i),ws)]).map fZ)]/\ws.length<=3/\∀w∈ws,w < n+G.length:=by
 have hz:sizeLine=16777216:=sizeLine_eq;unfold gC;obtain⟨r,hr⟩:∃r,stN c (f+60+5*i)=r:=⟨_,rfl⟩;have hr3:r % 3 < 3:=Nat.mod_lt _ (by omega)
 refine bN <| bx (by simp) <| cW (d:=nI (1+r % 3)) (av (a:=De) (b:=nI (r % 3)) rfl (av (a:=nI r) (b:=nI 3) ((aq (ds:=[.int c,nI (f+60+5*i)]) (ao rfl (ao (av (a:=nI (f+60)) (b:=nI (5*i)) (av (a:=nI f) (b:=nI 60) rfl rfl (dh _ _)) (av (a:=nI 5) (b:=nI i) rfl rfl (sQ (.inr (by omega)))) (dh _ _)) rfl)) (eX c _)).trans (by rw[hr])) (aq (ds:=[De]) rfl rfl) (et (by omega))) (Gg r)) ⟨_,rfl,?_⟩
 simp only[List.set];obtain⟨wd,hwd⟩:∃wd,1+r % 3=wd:=⟨_,rfl⟩;rw[hwd]
 let pk:Nat->Nat:=fun j=>stN c (f+61+5*i+j) % (n+G.length)
 refine bN <| bx (by simp) <| iO (fun j ds S2=>S2=S++[.lst (os.map fZ)]/\ds=((List.range j).map pk).map nI) <| mU (jD (n:=wd) rfl (by omega)) ⟨by rw[List.length_map,List.length_map,List.length_range];omega,⟨rfl,rfl⟩,?_,?_⟩
 .rintro j v ds S2 hv ⟨rfl,rfl⟩;obtain⟨j',Dn,rfl⟩:=NT.eT hv;obtain⟨hjl,ej⟩:=List.getElem?_eq_some_iff.mp Dn;rw[List.getElem_range] at ej;subst ej;refine⟨[some (.d (nI j)),some (.d (.int c)),some (.d (nI f)),some (.d (nI n)),some (.d (.lst (G.map gZ))),some (.d (nI i))],rfl,uD ?_⟩;rw[if_pos rfl];refine cW (d:=nI (pk j)) (av (a:=nI (stN c (f+61+5*i+j))) (b:=nI (n+G.length)) (aq (ds:=[.int c,nI (f+61+5*i+j)]) (ao rfl (ao (av (a:=nI (f+61+5*i)) (b:=nI j) (av (a:=nI (f+61)) (b:=nI (5*i)) (av (a:=nI f) (b:=nI 61) rfl rfl (dh _ _)) (av (a:=nI 5) (b:=nI i) rfl rfl (sQ (.inr (by omega)))) (dh _ _)) rfl (dh _ _)) rfl)) (eX c _)) (av (a:=nI n) (b:=nI G.length) rfl (aq (ds:=[.lst (G.map gZ)]) rfl (by rw[cq,List.length_map])) (dh _ _)) (et (by omega))) ⟨_,rfl,rfl,?_⟩
  rw[List.range_succ,List.map_append,List.map_append];rfl
 rintro ds S2 ⟨e1,rfl⟩;subst S2;rw[List.length_map,List.length_map,List.length_range];refine⟨_,rfl,?_⟩;simp only[List.set];refine BM (k:=S.length) rfl ⟨_,cD _ _⟩ (cW (d:=fZ (a (fo+i),(List.range wd).map pk)) (bG (ao (av (a:= .str C) (b:=nI i) rfl rfl hC) (ao (aq (ds:=[.lst (((List.range wd).map pk).map nI)]) rfl rfl) rfl)) (by simp;omega)) ⟨_,_,rfl,cD _ _,by rw[List.length_map];omega,(List.range wd).map pk,_,_,rfl,?_,?_,fun w hw=>?_⟩)
 .rw [gr,List.map_append];rfl
 .rw [List.length_map,List.length_range];omega
 .obtain⟨j,_,rfl⟩:=List.mem_map.mp hw;exact Nat.mod_lt _ (by omega)
theorem BX(hL:Og L a)(hS:Flat S){Q:V3->aZ->Prop}(h:∀ins gs os,Any a ins gs os->Q (.d (aF ins gs os)) S) :
 W3 (eR [.d (.int c), .d (nI f), .d (.str L), .d De] S) Q:=by
 have hz:sizeLine=16777216:=sizeLine_eq;unfold eR;refine yi hS.clo (Mp rfl ?_);simp only[dC,f6,List.map,List.length,List.replicate,List.cons_append,List.nil_append,Nat.reduceAdd,Nat.reduceSub];unfold iY;obtain⟨m,hm⟩:∃m,1+stN c f % 3=m:=⟨_,rfl⟩;have hm3:1<=m/\m<=3:=by omega
 refine bN <| bx (by simp) <| cW (d:=nI m) ((av (a:=nI 1) (b:=nI (stN c f % 3)) rfl (av (a:=nI (stN c f)) (b:=nI 3) (aq (ds:=[.int c,nI f]) rfl (eX c f)) rfl (et (by omega))) (dh _ _)).trans (by rw[hm])) ⟨_,rfl,?_⟩
 simp only[List.set]
 let ip:Nat->Str × Nat:=fun k=>(a k,1+stN c (f+1+k) % 3)
 let ins:Wr:=(List.range m).map ip
 have hil:ins.length=m:=by show((List.range m).map ip).length=m;rw [List.length_map,List.length_range]
 have hiw:∀x∈ins,1<=x.2/\x.2<=3:=fun x hx=>by
  obtain⟨k,_,rfl⟩:=List.mem_map.mp hx;show 1<=1+stN c (f+1+k) % 3/\1+stN c (f+1+k) % 3<=3;omega
 refine bN <| bx (by simp) <| iO (fun j ds S2=>S2=S/\ds=((List.range j).map ip).map MT.inD) <| mU (jD (n:=m) rfl (by omega)) ⟨by rw[List.length_map,List.length_map,List.length_range];omega,⟨rfl,rfl⟩,?_,?_⟩
 .rintro j v ds S2 hv ⟨rfl,rfl⟩;obtain⟨j',Dn,rfl⟩:=NT.eT hv;obtain⟨hjl,ej⟩:=List.getElem?_eq_some_iff.mp Dn;rw[List.getElem_range] at ej;subst ej;rw[List.length_range] at hjl;refine⟨[some (.d (nI j)),some (.d (.int c)),some (.d (nI f)),some (.d (.str L)),some (.d De)],rfl,uD ?_⟩;rw[if_pos rfl];refine cW (d:=MT.inD (ip j)) (bG (ao (av (a:= .str L) (b:=nI j) rfl rfl (hL.ix j (by omega))) (ao (av (a:=De) (b:=nI (stN c (f+1+j) % 3)) rfl (av (a:=nI (stN c (f+1+j))) (b:=nI 3) (aq (ds:=[.int c,nI (f+1+j)]) (ao rfl (ao (av (a:=nI (f+1)) (b:=nI j) (av (a:=nI f) (b:=nI 1) rfl rfl (dh _ _)) rfl (dh _ _)) rfl)) (eX c _)) (aq (ds:=[De]) rfl rfl) (et (by omega))) (Gg _)) rfl)) (by simp;omega)) ⟨_,rfl,rfl,?_⟩
  rw[List.range_succ,List.map_append,List.map_append];rfl
 rintro ds S2 ⟨e1,rfl⟩;subst S2;rw[List.length_map,List.length_map,List.length_range];refine⟨_,rfl,?_⟩;simp only[List.set];have hnI:ins.map (·.1)=(List.range ins.length).map a:=by
  rw[hil];show((List.range m).map ip).map _=_;rw[List.map_map];rfl
 have eI:((List.range m).map ip).map MT.inD=ins.map MT.inD:=rfl;rw[eI]
 clear eI
 generalize ins=ins at hil hiw hnI;have hws:b_ ins<=9/\1<=b_ ins:=by
  have:∀l:Wr,(∀x∈l,1<=x.2/\x.2<=3)->b_ l<=3*l.length/\l.length<=b_ l:=by
   intro l
   induction l with
   | nil=>exact fun _=>⟨Nat.le_refl _,Nat.le_refl _⟩
   | cons x l ih=>
     intro hl;have h1:=ih fun y hy=>hl y (List.mem_cons_of_mem _ hy)
     have h2:=hl x List.mem_cons_self;unfold b_ at h1 ⊢;rw[List.map_cons,List.sum_cons,List.length_cons];omega
  have:=this ins hiw;omega
 refine bN <| bx (by simp) <| cW (d:=nI (b_ ins)) (aq (ds:=[.lst ((ins.map (·.2)).map nI)]) (ao (bA (bY (ds:=ins.map MT.inD) (jK rfl) (by rw[List.length_map];omega) (by
  rw[show(ins.map (·.2)).map nI=ins.map fun x=>nI x.2 from List.map_map]
  exact NT.bu MT.inD _ fun x hx=>⟨[.val (.str x.1), .val (nI x.2)],rfl,rfl,rfl⟩))) rfl) (BD _)) ⟨_,rfl,?_⟩
 simp only[List.set];refine bN <| bx (by simp) <| BI (ds:=([]:List Gt).map gZ) rfl ⟨_,rfl,?_⟩
 simp only[List.set];obtain⟨q,hq⟩:∃q,stN c (f+5) % 8=q:=⟨_,rfl⟩;have hq8:q < 8:=by omega
 refine bN <| yU <| mU (jD (n:=q) ((av (a:=nI (stN c (f+5))) (b:=nI 8) (aq (ds:=[.int c,nI (f+5)]) (ao rfl (ao (av (a:=nI f) (b:=nI 5) rfl rfl (dh _ _)) rfl)) (eX c _)) rfl (et (by omega))).trans (by rw[hq])) (by omega)) ?_
 refine(l6 (fun i δ S2=>∃(G:List Gt) (x4 x8 x9 x10 x11:Option V3),G.length=i/\BJ (b_ ins) G/\δ=aE c f L x4 (some (.d (.lst (ins.map MT.inD)))) (some (.d (nI (b_ ins)))) (some (.loc S.length)) x8 x9 x10 x11 none none none/\S2=S++[SO.lst (G.map gZ)])
  ⟨[],_,_,_,_,_,rfl,fun i x hx=>(by cases hx),rfl,rfl⟩ ?_).mono fun o S2 ⟨dX,uw,G,x4,x8,x9,x10,x11,hGl,hG,hδ,r6⟩=>⟨dX,uw,?_⟩
 .rintro i v δ S2 hv ⟨G,x4,x8,x9,x10,x11,hGl,hG,rfl,rfl⟩;obtain⟨k,hk,rfl⟩:=NT.eT hv;obtain⟨hkl,ek⟩:=List.getElem?_eq_some_iff.mp hk;rw[List.getElem_range] at ek;subst ek;rw[List.length_range] at hkl;refine⟨_,rfl,(wF (x4:=x4) (x9:=x9) (x10:=x10) (x11:=x11) (by omega) (by omega) hG hGl).mono fun o S3 ⟨g,y4,y9,CT,Gw,e1,e2,e3⟩=>⟨_,e1,G++[g],y4,some (.d (nI i)),y9,CT,Gw,by rw[List.length_append,hGl];rfl,hG.push e3,rfl,e2⟩⟩
 rw[List.length_map,List.length_map,List.length_range] at hGl;subst hδ r6;refine A0 (i:=7) rfl (cD _ _) ?_;rw[gr];simp only[List.set];generalize hU:S++[SO.jn]=U;refine bN <| bx (by simp) <| BI (ds:=([]:Ws).map fZ) rfl ⟨_,rfl,?_⟩
 simp only[List.set];obtain⟨fo,hfo⟩:∃fo,4 - 4*(if decide (stN c (f+7) % 3=0) then 1 else 0)=fo:=⟨_,rfl⟩
 have hfo2:fo=0\/fo=4:=by rw[<-hfo];cases decide (stN c (f+7) % 3=0) <;> simp
 obtain⟨C,Ux,UZ⟩:=hL.sl fo hfo2;have hsl:(e2 oW (eC (.int 4)) (e2 kE (eC (.int 4)) (aw ng (af (e2 rV (e2 du (aw aJ (af (ag 0) (af (e2 bH (ag 1) (eC (.int 7))) aA))) (eC (.int 3))) (eC (.int 0))) aA)))) (down (aE c f L x4 (some (.d (.lst (ins.map MT.inD)))) (some (.d (nI (b_ ins)))) (some (.d (.lst (G.map gZ)))) x8 x9 x10 x11 (some (.loc U.length)) none none))= .ok (.int (fo:Int)):=by
  refine av (a:= .int 4) (b:=nI (4*(if decide (stN c (f+7) % 3=0) then 1 else 0))) rfl (av (a:=nI 4) (b:=nI (if decide (stN c (f+7) % 3=0) then 1 else 0)) rfl (aq (ds:=[.bl (decide (stN c (f+7) % 3=0))]) (ao (av (a:=nI (stN c (f+7) % 3)) (b:=nI 0) (av (a:=nI (stN c (f+7))) (b:=nI 3) (aq (ds:=[.int c,nI (f+7)]) (ao rfl (ao (av (a:=nI f) (b:=nI 7) rfl rfl (dh _ _)) rfl)) (eX c _)) rfl (et (by omega))) rfl (wQ _ _)) rfl) (by cases decide (stN c (f+7) % 3=0) <;> rfl)) (sQ (.inr (by omega)))) ?_
  rw[<-hfo];cases decide (stN c (f+7) % 3=0) <;> rfl
 refine bN <| bx (by simp) <| cW (d:= .str C) (Cg (d:= .str L) (lo:=some (fo:Int)) (hi:=none) rfl (vj hsl) rfl Ux) ⟨_,rfl,?_⟩
 simp only[List.set];obtain⟨q2,UN⟩:∃q2,1+stN c (f+6) % 3=q2:=⟨_,rfl⟩;have hq23:1<=q2/\q2<=3:=by omega
 refine bN <| yU <| mU (jD (n:=q2) ((av (a:=nI 1) (b:=nI (stN c (f+6) % 3)) rfl (av (a:=nI (stN c (f+6))) (b:=nI 3) (aq (ds:=[.int c,nI (f+6)]) (ao rfl (ao (av (a:=nI f) (b:=nI 6) rfl rfl (dh _ _)) rfl)) (eX c _)) rfl (et (by omega))) (dh _ _)).trans (by rw[UN])) (by omega)) ?_
 refine(l6 (fun i δ S2=>∃(os:Ws) (x8 x11 x14:Option V3),os.map (·.1)=(List.range i).map (fun k=>a (fo+k))/\(∀x∈os,x.2.length<=3/\∀w∈x.2,w < b_ ins+G.length)/\δ=aE c f L x4 (some (.d (.lst (ins.map MT.inD)))) (some (.d (nI (b_ ins)))) (some (.d (.lst (G.map gZ)))) x8 x9 x10 x11 (some (.loc U.length)) (some (.d (.str C))) x14/\S2=U++[SO.lst (os.map fZ)])
  ⟨[],_,_,_,rfl,by simp,rfl,rfl⟩ ?_).mono fun o S2 ⟨dX,uw,os,y8,Gw,MM,hon,hos,hδ,r6⟩=>⟨dX,uw,?_⟩
 .rintro i v δ S2 hv ⟨os,y8,Gw,MM,hon,hos,rfl,rfl⟩;obtain⟨k,hk,rfl⟩:=NT.eT hv;obtain⟨hkl,ek⟩:=List.getElem?_eq_some_iff.mp hk;rw[List.getElem_range] at ek;subst ek;rw[List.length_range] at hkl;have Ag:os.length=i:=by have:=congrArg List.length hon;simpa using this
  refine⟨_,rfl,(Aw (a:=a) (fo:=fo) (x4:=x4) (x9:=x9) (x10:=x10) (x11:=Gw) (x14:=MM) (by omega) (by omega) (by omega) (UZ i (by omega)) (by omega)).mono fun o S3 ⟨ws,UX,UQ,e1,e2,e3,e4⟩=>⟨_,e1,os++[(a (fo+i),ws)],some (.d (nI i)),UX,UQ,?_,fun x hx=>?_,rfl,e2⟩⟩
  .rw [List.map_append,hon,List.range_succ,List.map_append];rfl
  .rcases List.mem_append.mp hx with z | z
   .exact hos x z
   .rw [List.mem_singleton.mp z];exact⟨e3,e4⟩
 rw[List.length_map,List.length_map,List.length_range] at hon;subst hδ r6;have Ag:os.length=q2:=by have:=congrArg List.length hon;simpa using this
 refine A0 (i:=12) rfl (cD _ _) ?_;rw[gr];simp only[List.set];exact sM <| cW (d:=aF ins G os) (bG rfl (by simp;omega)) ⟨_,rfl,rfl,⟨[SO.jn,SO.jn],by rw[<-hU,List.append_assoc];rfl⟩,_,rfl,h ins G os ⟨⟨by omega,fun x hx=>by have:=hiw x hx;omega,by omega,fun i x hx=>hG i x hx,by omega,fun x hx=>⟨by have:=(hos x hx).1;omega,(hos x hx).2⟩⟩,by omega,by omega,by omega,by omega,by omega,hiw,hnI,fo,hfo2,by rw[Ag];exact hon⟩⟩
end
end K35
end
section
namespace K35
open PySem PySem.Spec PyProof.Rows L2 L3 MT JT
theorem Ei(l:List Nat):rA (.lst (l.map nI)) (.lst [])= .ok (.bl (!l.isEmpty)):=by
 have f1:dH 1 (.lst (l.map nI)):=dH.lst fun d hd=>by obtain⟨b,_,rfl⟩:=List.mem_map.mp hd;exact dH.int _
 have f2:dH 1 (.lst []):=dH.lst fun d hd=>by cases hd
 show(Gp (.lst _) (.lst [])).bind _=_;rw[xa,f1.pl,f2.pl,f1.sh (by omega),f2.sh (by omega)]
 cases l <;> rfl
section
variable {S:aZ} {c:Int} {ak ins2:Wr} {gs1 gs2:List Gt} {os1 bB:Ws}
structure yC (os1:Ws) (ins2:Wr) (i:Nat) (pairs:List (Nat × Nat)):Prop where
 F:Fits os1 ins2 pairs
 nd:(pairs.map (·.2)).Nodup
 lt:∀q∈pairs,q.2 < i
 l:pairs.length<=i
theorem yC.push{i o:Nat}{pairs:List (Nat × Nat)}{x:Str × List Nat}{y:Str × Nat}(P:yC os1 ins2 i pairs)(hx:os1[o]? =some x)(hy:ins2[i]? =some y)(e:x.2.length=y.2):yC os1 ins2 (i+1) (pairs++[(o,i)]):=by
 refine⟨fun q hq=>?_,?_,fun q hq=>?_,by rw[List.length_append,List.length_singleton];have:=P.l;omega⟩
 .rcases List.mem_append.mp hq with z | z
  .exact P.F q z
  .rw [List.mem_singleton.mp z];exact⟨x,y,hx,hy,e⟩
 .rw [List.map_append];refine List.nodup_append.mpr ⟨P.nd,by simp,fun x hx y hy=>?_⟩
  obtain⟨q,hq,rfl⟩:=List.mem_map.mp hx;have:=P.lt q hq;simp only[List.map_cons,List.map_nil,List.mem_singleton] at hy;omega
 .rcases List.mem_append.mp hq with z | z
  .have:=P.lt q z;omega
  .rw [List.mem_singleton.mp z];simp
theorem yC.keep{i:Nat}{pairs:List (Nat × Nat)}(P:yC os1 ins2 i pairs):yC os1 ins2 (i+1) pairs:=⟨P.F,P.nd,fun q hq=>by have:=P.lt q hq;omega,by have:=P.l;omega⟩
theorem yC.rev{i:Nat}{pairs:List (Nat × Nat)}(P:yC os1 ins2 i pairs):yC os1 ins2 i pairs.reverse:=
 ⟨fun q hq=>P.F q (List.mem_reverse.mp hq),by rw[List.map_reverse];exact List.pairwise_reverse.mpr (P.nd.imp fun h=>h.symm),fun q hq=>P.lt q (List.mem_reverse.mp hq),by rw[List.length_reverse];exact P.l⟩
theorem zi{i:Nat}{y:Str × Nat}{pairs:List (Nat × Nat)}{x5 x6:Option V3}(hO:os1.length < 1000)(hy:ins2[i]? =some y)(P:yC os1 ins2 i pairs)(hi:i < 100) :
 W3 (iV [some (.d (.int c)),some (.d (aF ak gs1 os1)),some (.d (aF ins2 gs2 bB)),some (.loc S.length),some (.d (nI i)),x5,x6] (S++[.lst (pairs.map dA)])) fun o S2=>∃i_ y5 y6,o= .nx [some (.d (.int c)),some (.d (aF ak gs1 os1)),some (.d (aF ins2 gs2 bB)),some (.loc S.length),some (.d (nI i)),y5,y6]/\S2=S++[SO.lst (i_.map dA)]/\yC os1 ins2 (i+1) i_:=by
 have hz:sizeLine=16777216:=sizeLine_eq;unfold iV
 let p:Nat->Bool:=fun o=>decide ((os1.getD o (Str.empty,[])).2.length=y.2)
 refine bN <| bx (by simp) <| iO (fun j ds S2=>S2=S++[.lst (pairs.map dA)]/\ds=((List.range j).filter p).map nI) <| mU (jD (n:=os1.length) (aq (ds:=[.lst (os1.map fZ)]) rfl (by rw[cq,List.length_map])) (by omega)) ⟨by rw[List.length_map,List.length_map,List.length_range];omega,⟨rfl,rfl⟩,?_,?_⟩
 .rintro j v ds S2 hv ⟨rfl,rfl⟩;obtain⟨j',Dn,rfl⟩:=NT.eT hv;obtain⟨hjl,ej⟩:=List.getElem?_eq_some_iff.mp Dn;rw[List.getElem_range] at ej;subst ej;rw[List.length_range] at hjl;have hgd:os1.getD j (Str.empty,[])=os1[j]:=by rw[List.getD_eq_getElem?_getD,List.getElem?_eq_getElem hjl];rfl
  refine⟨[some (.d (nI j)),some (.d (aF ak gs1 os1)),some (.d (aF ins2 gs2 bB)),some (.d (nI i))],rfl,pf (b:=p j) (cA (a:=nI (os1.getD j (Str.empty,[])).2.length) (b:=nI y.2) (aq (ds:=[.tup ((os1.getD j (Str.empty,[])).2.map nI)]) (ao (av (a:=fZ (os1.getD j (Str.empty,[]))) (b:= .int 1) (av (a:= .lst (os1.map fZ)) (b:=nI j) (av (a:=aF ak gs1 os1) (b:= .int 2) rfl rfl rfl) rfl (NT.cM (by rw[hgd,List.getElem?_map,List.getElem?_eq_getElem hjl];rfl))) rfl rfl) rfl) (by rw[B7,List.length_map])) (av (a:=MT.inD y) (b:= .int 1) (av (a:= .lst (ins2.map MT.inD)) (b:=nI i) (av (a:=aF ins2 gs2 bB) (b:= .int 0) rfl rfl rfl) rfl (NT.cM (by rw[List.getElem?_map,hy];rfl))) rfl rfl) (wQ _ _)) ?_⟩
  rw[List.range_succ,List.filter_append,List.map_append];cases hp:p j with
  | true=>
    rw[if_pos rfl];exact cW (d:=nI j) rfl ⟨_,rfl,rfl,by rw[List.filter_cons,if_pos hp];rfl⟩
  | false=>
    rw[if_neg (by decide)]
    exact⟨rfl,by rw[List.filter_cons,if_neg (by rw[hp];decide)];simp⟩
 rintro ds S2 ⟨e1,rfl⟩;subst S2;rw[List.length_map,List.length_map,List.length_range];refine⟨_,rfl,?_⟩;simp only[List.set];have hF:∀o∈(List.range os1.length).filter p,o < os1.length/\(os1.getD o (Str.empty,[])).2.length=y.2:=fun o ho=>by
  obtain⟨h1,h2⟩:=List.mem_filter.mp ho;exact⟨List.mem_range.mp h1,of_decide_eq_true h2⟩
 generalize (List.range os1.length).filter p=Ft at hF;obtain⟨r,hr⟩:∃r,stN c (80+i)=r:=⟨_,rfl⟩;refine bN <| bx (by simp) <| cW (d:=nI r) ((aq (ds:=[.int c,nI (80+i)]) (ao rfl (ao (av (a:=nI 80) (b:=nI i) rfl rfl (dh _ _)) rfl)) (eX c _)).trans (by rw[hr])) ⟨_,rfl,?_⟩
 simp only[List.set];refine xi <| pf (b:=!Ft.isEmpty && decide (0 < r % 4)) ?_ ?_
 .unfold vp;rw[show b2 rA (ag 5) (eNew (cZ aA)) (down [some (.d (.int c)),some (.d (aF ak gs1 os1)),some (.d (aF ins2 gs2 bB)),some (.loc S.length),some (.d (nI i)),some (.d (.lst (Ft.map nI))),some (.d (nI r))])= .ok (!Ft.isEmpty) from cA (a:= .lst (Ft.map nI)) (b:= .lst []) rfl rfl (Ei Ft),R.aK]
  cases !Ft.isEmpty with
  | false=>rfl
  | true=>
    rw[if_pos rfl];refine(cA (a:=nI (r % 4)) (b:=nI 0) (av (a:=nI r) (b:=nI 4) rfl rfl (et (by omega))) rfl (xE _ _)).trans ?_
    rw[Bool.true_and]
 cases hc:!Ft.isEmpty && decide (0 < r % 4) with
 | false=>rw [if_neg (by decide)];exact mP ⟨pairs,_,_,rfl,rfl,P.keep⟩
 | true=>
   rw[if_pos rfl];have y0:0 < Ft.length:=by
    cases Ft with
    | nil=>rw [Bool.and_eq_true] at hc;cases hc.1
    | cons g G=>simp
   have hm:r / 4 % Ft.length < Ft.length:=Nat.mod_lt _ y0;obtain⟨o,ho⟩:∃o,Ft[r / 4 % Ft.length]? =some o:=⟨_,List.getElem?_eq_getElem hm⟩;obtain⟨h1,h2⟩:=hF o (List.mem_of_getElem? ho);have hgd:os1.getD o (Str.empty,[])=os1[o]:=by rw[List.getD_eq_getElem?_getD,List.getElem?_eq_getElem h1];rfl
   have jE:=P.l;refine BM (k:=S.length) rfl ⟨_,cD _ _⟩ (cW (d:=dA (o,i)) (bG (ao (av (a:= .lst (Ft.map nI)) (b:=nI (r / 4 % Ft.length)) rfl (av (a:=nI (r / 4)) (b:=nI Ft.length) (av (a:=nI r) (b:=nI 4) rfl rfl (yB (by omega) (by omega))) (aq (ds:=[.lst (Ft.map nI)]) rfl (by rw[cq,List.length_map])) (et y0)) (LG ho)) rfl) (by simp;omega)) ⟨_,_,rfl,cD _ _,by rw[List.length_map];omega,pairs++[(o,i)],_,_,rfl,?_,P.push (List.getElem?_eq_getElem h1) hy (by rw[<-hgd];exact h2)⟩)
   rw[gr,List.map_append];rfl
theorem BC(N1:kr ak gs1 os1)(N2:kr ins2 gs2 bB)(hS:Flat S){Q:V3->aZ->Prop}(h:∀pairs,yC os1 ins2 ins2.length pairs->Q (.d (.lst (pairs.map dA))) S) :
 W3 (jM [.d (.int c), .d (aF ak gs1 os1), .d (aF ins2 gs2 bB)] S) Q:=by
 have hz:sizeLine=16777216:=sizeLine_eq;have h21:=N2.hi;unfold jM;refine yi hS.clo (Mp rfl ?_);simp only[dC,iL,List.map,List.length,List.replicate,List.cons_append,List.nil_append,Nat.reduceAdd,Nat.reduceSub];unfold lJ;refine bN <| bx (by simp) <| BI (ds:=([]:List (Nat × Nat)).map dA) rfl ⟨_,rfl,?_⟩
 simp only[List.set];refine bN <| yU <| mU (jD (n:=ins2.length) (aq (ds:=[.lst (ins2.map MT.inD)]) rfl (by rw[cq,List.length_map])) (by omega)) ?_
 refine(l6 (fun i δ S2=>∃(pairs:List (Nat × Nat)) (x4 x5 x6:Option V3),yC os1 ins2 i pairs/\δ=[some (.d (.int c)),some (.d (aF ak gs1 os1)),some (.d (aF ins2 gs2 bB)),some (.loc S.length),x4,x5,x6]/\S2=S++[SO.lst (pairs.map dA)])
  ⟨[],_,_,_,⟨fun q hq=>(by cases hq),List.nodup_nil,fun q hq=>(by cases hq),Nat.le_refl _⟩,rfl,rfl⟩ ?_).mono fun o S2 ⟨dX,uw,pairs,x4,x5,x6,P,hδ,r6⟩=>⟨dX,uw,?_⟩
 .rintro i v δ S2 hv ⟨pairs,x4,x5,x6,P,rfl,rfl⟩;obtain⟨k,hk,rfl⟩:=NT.eT hv;obtain⟨hkl,ek⟩:=List.getElem?_eq_some_iff.mp hk;rw[List.getElem_range] at ek;subst ek;rw[List.length_range] at hkl;exact⟨_,rfl,(zi N1.ho (List.getElem?_eq_getElem hkl) P (by omega)).mono fun o S3 ⟨i_,y5,y6,e1,e2,e3⟩=>⟨_,e1,i_,_,y5,y6,e3,rfl,e2⟩⟩
 rw[List.length_map,List.length_map,List.length_range] at P;subst hδ r6;refine A0 (i:=3) rfl (cD _ _) ?_;rw[gr];simp only[List.set];refine bN (W3.mono (Q:=fun o S2=>S2=S++[SO.jn]/\∃i_,yC os1 ins2 ins2.length i_/\o= .nx [some (.d (.int c)),some (.d (aF ak gs1 os1)),some (.d (aF ins2 gs2 bB)),some (.d (.lst (i_.map dA))),x4,x5,x6]) ?_ fun o S2 ⟨e1,i_,P',eo⟩=>⟨_,eo,?_⟩)
 .refine xi <| pf (b:=decide (stN c 84 % 2=0)) (cA (a:=nI (stN c 84 % 2)) (b:=nI 0) (av (a:=nI (stN c 84)) (b:=nI 2) (aq (ds:=[.int c,nI 84]) rfl (eX c 84)) rfl (et (by omega))) rfl (wQ _ _)) ?_
  cases decide (stN c 84 % 2=0) with
  | false=>rw [if_neg (by decide)];exact mP ⟨rfl,pairs,P,rfl⟩
  | true=>
    rw[if_pos rfl];refine bx (by simp) <| cW (d:= .lst (pairs.reverse.map dA)) (by rw[List.map_reverse];rfl) ⟨rfl,pairs.reverse,P.rev,?_⟩
    simp only[List.set]
 subst e1;exact sM <| cW (d:= .lst (i_.map dA)) rfl ⟨_,rfl,rfl,⟨[SO.jn],rfl⟩,_,rfl,h i_ P'⟩
end
end K35
end
section
namespace K35
open PySem PySem.Spec PyProof.Rows L2 L3 MT JT
theorem kz{a b:List D}(h:a.length+b.length<=sizeLine):bH (.lst a) (.lst b)= .ok (.lst (a++b)):=yR h
def FU(cs:List Nat)(k:Nat):Str:=⟨#[cs.getD k 0]⟩
def ot:Ws:=[(Str.ofString "nopqrst",[110,111,112,113,114,115,116]),(Str.ofString "nbpqrst",[110,98,112,113,114,115,116]),(Str.ofString "nopqrse",[110,111,112,113,114,115,101]),(Str.ofString "abcdefg",[97,98,99,100,101,102,103])]
theorem Km{L:Str}{cs:List Nat}(hl:L.length<=16777216)(h1:∀k∈List.range 3,rF L.cps.toList ((k:Nat):Int)=some (cs.getD k 0))(h2:∀f∈[0,4],(Txt.slice L (some ((f:Nat):Int)) none).length<=16777216/\∀k∈List.range 3,rF (Txt.slice L (some ((f:Nat):Int)) none).cps.toList ((k:Nat):Int)=some (cs.getD (f+k) 0)):Og L (FU cs):=by
 have hz:sizeLine=16777216:=sizeLine_eq;refine⟨fun k hk=>ox (by rw[hz];exact hl) (h1 k (List.mem_range.mpr hk)),fun f hf=>?_⟩
 obtain⟨a,b⟩:=h2 f (by rcases hf with rfl | rfl <;> simp)
 exact⟨_,bW _ (by rw[hz];exact hl),fun k hk=>ox (by rw[hz];exact a) (b k (List.mem_range.mpr hk))⟩
theorem yN:∀x∈ot,Og x.1 (FU x.2):=fun x hx=>by
 have h:∀x∈ot,x.1.length<=16777216/\(∀k∈List.range 3,rF x.1.cps.toList ((k:Nat):Int)=some (x.2.getD k 0))/\∀f∈[0,4],(Txt.slice x.1 (some ((f:Nat):Int)) none).length<=16777216/\∀k∈List.range 3,rF (Txt.slice x.1 (some ((f:Nat):Int)) none).cps.toList ((k:Nat):Int)=some (x.2.getD (f+k) 0):=by decide+kernel
 obtain⟨a,b,c⟩:=h x hx;exact Km a b c
def kN(k:Nat):Str:=⟨#[107,97+k]⟩
theorem FR{f:FD}{δ:au}{k:Nat}(hk:k < 4)(h:f δ= .ok (nI k)):e2 bH (eC (.str (Str.ofString "k"))) (e2 br (eC (.str (Str.ofString "abcd"))) f) δ= .ok (.str (kN k)):=by
 have hz:sizeLine=16777216:=sizeLine_eq;have hl:(Str.ofString "abcd").length<=sizeLine:=by rw[hz];decide+kernel
 have e1:∀k,k < 4->br (.str (Str.ofString "abcd")) (nI k)= .ok (.str ⟨#[97+k]⟩):=fun k hk=>by
  match k,hk with
  | 0,_=>exact ox hl (by decide+kernel)
  | 1,_=>exact ox hl (by decide+kernel)
  | 2,_=>exact ox hl (by decide+kernel)
  | 3,_=>exact ox hl (by decide+kernel)
 refine av (a:= .str (Str.ofString "k")) (b:= .str ⟨#[97+k]⟩) rfl (av (a:= .str (Str.ofString "abcd")) (b:=nI k) rfl h (e1 k hk)) ?_;show R.aS (decide ((Str.ofString "k").length+(⟨#[97+k]⟩:Str).length<=sizeLine)) (R.ok (D.str (Str.ofString "k"++⟨#[97+k]⟩)))=_;have h2:(Str.ofString "k").length+(⟨#[97+k]⟩:Str).length<=sizeLine:=by
  rw[hz]
  match k,hk with
  | 0,_=>decide+kernel
  | 1,_=>decide+kernel
  | 2,_=>decide+kernel
  | 3,_=>decide+kernel
 rw[bW _ h2];rfl
def mv(f m w:Nat):Nat:=w+m*(if decide (f<=w) then 1 else 0)
theorem vL{ws:List Nat}{f m:Nat}(hl:ws.length < 1000)(hm:m < 100):eP [.tup (ws.map nI),nI f,nI m]= .ok (.tup ((ws.map (mv f m)).map nI)):=by
 have hz:sizeLine=16777216:=sizeLine_eq;unfold eP oJ;refine gz (dP (aq (ds:=[.lst ((ws.map (mv f m)).map nI)]) (ao (bA (bY (ds:=ws.map nI) (Bf rfl) (by rw[List.length_map];omega) ?_)) rfl) rfl))
 rw[List.map_map];refine NT.bu nI _ fun w hw=>⟨[.val (nI w), .val (nI f), .val (nI m)],rfl,rfl,?_⟩
 refine av (a:=nI w) (b:=nI (m*(if decide (f<=w) then 1 else 0))) rfl (av (a:=nI m) (b:=nI (if decide (f<=w) then 1 else 0)) rfl (aq (ds:=[.bl (decide (f<=w))]) (ao (av (a:=nI w) (b:=nI f) rfl rfl (MX w f)) rfl) (by cases decide (f<=w) <;> rfl)) (sQ (.inr (by omega)))) (dh _ _)
def nt:Gt:=(0,[0],false)
structure Gr (ak:Wr) (os1:Ws) (ins2:Wr) (bB:Ws) (eQ:Wr) (kL:List Gt) (cj:Ws) (nP:List Gt):Prop where
 N1:kr eQ kL cj
 N2:kr ins2 nP bB
 nI:∃m,m<=4/\eQ.map (·.1)=ak.map (·.1)++(List.range m).map kN
 nO:∃m,m<=4/\cj.map (·.1)=os1.map (·.1)++(List.range m).map kN
 oL:∀(o:Nat) (y:Str × List Nat),os1[o]? =some y->∃y',cj[o]? =some y'/\y'.2.length=y.2.length
abbrev gE(c:Int)(n1 n2:D)(kd:Nat)(x4 x5 x6 x7 x8 x9 x10 x11:Sl):au:=[.val (.int c), .val n1, .val n2, .val (nI kd),x4,x5,x6,x7,x8,x9,x10,x11]
section
variable {ins ak ins2:Wr} {gs gs1 gs2:List Gt} {os os1 bB:Ws} {a:Nat->Str}
theorem tT(A:Any a ins gs os):1<=b_ ins/\b_ ins<=9:=by
 have h1:=A.i1;have h3:=A.i3;have:∀l:Wr,(∀x∈l,1<=x.2/\x.2<=3)->b_ l<=3*l.length/\l.length<=b_ l:=by
  intro l
  induction l with
  | nil=>exact fun _=>⟨Nat.le_refl _,Nat.le_refl _⟩
  | cons x l ih=>
    intro hl;have h1:=ih fun y hy=>hl y (List.mem_cons_of_mem _ hy)
    have h2:=hl x List.mem_cons_self;unfold b_ at h1 ⊢;rw[List.map_cons,List.sum_cons,List.length_cons];omega
 have:=this ins A.iw;omega
theorem uP(A:Any a ins gs os){k:Nat}(hk:k < 100):kr ins (gs++List.replicate k nt) os:=by
 have hw:=tT A;have hg:=A.g;refine⟨A.N.hi,A.N.hw,by rw[List.length_append,List.length_replicate];omega,fun i x hx=>?_,A.N.ho,fun x hx=>⟨(A.N.o x hx).1,fun w hw=>by have:=(A.N.o x hx).2 w hw;rw [List.length_append];omega⟩⟩
 by_cases hi:i < gs.length
 .rw [List.getElem?_append_left hi] at hx;exact A.N.g i x hx
 .rw [List.getElem?_append_right (by omega)] at hx
  have:=List.mem_of_getElem? hx;rw[(List.mem_replicate.mp this).2];exact⟨by decide,rfl,fun w hw=>by rw[List.mem_singleton.mp hw];omega⟩
theorem vN(l:Wr)(m:Nat):b_ (l++(List.range m).map fun k=>(kN k,1))=b_ l+m:=by
 unfold b_;rw[List.map_append,List.sum_append,List.map_map];congr 1
 induction m with
 | zero=>rfl
 | succ m ih=>rw [List.range_succ,List.map_append,List.sum_append,ih];rfl
theorem Gh{f m w n:Nat}(h:w < n):mv f m w < n+m:=by
 unfold mv;cases decide (f<=w)
 .rw [if_neg (by decide)];omega
 .rw [if_pos rfl];omega
theorem AX(A:Any a ins gs os){m:Nat}(hm:m < 10):kr (ins++(List.range m).map fun k=>(kN k,1)) (gs.map (kZ (mv (b_ ins) m))) (os.map (iU (mv (b_ ins) m))):=by
 have hi3:=A.i3;have hg:=A.g;have ho:=A.o3;refine⟨by rw[List.length_append,List.length_map,List.length_range];omega,fun x hx=>?_,by rw[List.length_map];omega,fun i x hx=>?_,by rw[List.length_map];omega,fun x hx=>?_⟩
 .rcases List.mem_append.mp hx with z | z
  .exact A.N.hw x z
  .obtain⟨k,_,rfl⟩:=List.mem_map.mp z;show 1 < 100;omega
 .rw [List.getElem?_map] at hx;obtain⟨g,hg,rfl⟩:=L3.dN hx;obtain⟨h1,h2,h3⟩:=A.N.g i g hg;refine⟨h1,by unfold kZ;rw [List.length_map];exact h2,fun w hw=>?_⟩
  obtain⟨n,hn,rfl⟩:=List.mem_map.mp (show w∈g.2.1.map _ from hw)
  rw[vN];have:=Gh (f:=b_ ins) (m:=m) (h3 n hn);omega
 .obtain⟨y,hy,rfl⟩:=List.mem_map.mp hx;obtain⟨h1,h2⟩:=A.N.o y hy;refine⟨by unfold iU;rw [List.length_map];exact h1,fun w hw=>?_⟩
  obtain⟨n,hn,rfl⟩:=List.mem_map.mp (show w∈y.2.map _ from hw)
  rw[vN,List.length_map];have:=Gh (f:=b_ ins) (m:=m) (h2 n hn);omega
theorem DL(A:Any a ins gs os){m:Nat}(hm:m < 10):kr ins gs (os++(List.range m).map fun k=>(kN k,[0])):=by
 have hw:=tT A;have ho:=A.o3;refine⟨A.N.hi,A.N.hw,A.N.hg,A.N.g,by rw[List.length_append,List.length_map,List.length_range];omega,fun x hx=>?_⟩
 rcases List.mem_append.mp hx with z | z
 .exact A.N.o x z
 .obtain⟨k,_,rfl⟩:=List.mem_map.mp z;exact⟨by show 1 < 1000;omega,fun w hw=>by rw[List.mem_singleton.mp hw];omega⟩
theorem Ci(k:Nat):List.replicate k (gZ nt)=(List.replicate k nt).map gZ:=by rw[List.map_replicate]
theorem HW(m:Nat):((List.range m).map fun k=>((kN k,1):Str × Nat)).map MT.inD=(List.range m).map fun k=>D.tup [.str (kN k), .int 1]:=by rw[List.map_map];rfl
theorem G_(m:Nat):((List.range m).map fun k=>((kN k,[0]):Str × List Nat)).map fZ=(List.range m).map fun k=>D.tup [.str (kN k), .tup [.int 0]]:=by rw[List.map_map];rfl
theorem D7(A1:Any a ak gs1 os1){b:Nat->Str}(A2:Any b ins2 gs2 bB):Gr ak os1 ins2 bB ak gs1 os1 gs2:=⟨A1.N,A2.N,⟨0,by omega,by simp⟩,⟨0,by omega,by simp⟩,fun o y h=>⟨y,h,rfl⟩⟩
theorem CI(A1:Any a ak gs1 os1){b:Nat->Str}(A2:Any b ins2 gs2 bB)(c:Int):∃eQ kL cj nP,Gr ak os1 ins2 bB eQ kL cj nP/\iQ [.int c,aF ak gs1 os1,aF ins2 gs2 bB]= .ok (.tup [aF eQ kL cj,aF ins2 nP bB]):=by
 have hz:sizeLine=16777216:=sizeLine_eq;have Ph:=A1.g;have FN:=A2.g;have MK:=A1.i3;have OI:=A1.o3;have Jz:=tT A1;obtain⟨kd,hkd⟩:∃kd,stN c 90 % 4=kd:=⟨_,rfl⟩;obtain⟨mm,hmm⟩:∃mm,stN c 91 % 3=mm:=⟨_,rfl⟩;have hkl:kd < 4:=by omega
 have hml:mm < 3:=by omega
 unfold iQ oO;have s1:e2 du (aw aJ (af (ag 0) (af (eC (.int 90)) aA))) (eC (.int 4)) (dW gf [.int c,aF ak gs1 os1,aF ins2 gs2 bB])= .ok (nI kd):=(av (a:=nI (stN c 90)) (b:=nI 4) (aq (ds:=[.int c,nI 90]) rfl (eX c 90)) rfl (et (by omega))).trans (by rw[hkd])
 have s2:e2 du (aw aJ (af (ag 0) (af (eC (.int 91)) aA))) (eC (.int 3)) (gE c (aF ak gs1 os1) (aF ins2 gs2 bB) kd .un .un .un .un .un .un .un .un)= .ok (nI mm):=(av (a:=nI (stN c 91)) (b:=nI 3) (aq (ds:=[.int c,nI 91]) rfl (eX c 91)) rfl (et (by omega))).trans (by rw[hmm])
 have q:∀k:Nat,b2 rV (ag 3) (eC (nI k)) (gE c (aF ak gs1 os1) (aF ins2 gs2 bB) kd (.val (nI mm)) .un .un .un .un .un .un .un)= .ok (decide (kd=k)):=fun k=>cA (a:=nI kd) (b:=nI k) rfl rfl (wQ _ _)
 have l1:∀δ:au,ag 1 δ= .ok (aF ak gs1 os1)->aw bV (af (e2 br (ag 1) (eC (.int 1))) aA) δ= .ok (nI gs1.length):=fun δ h=>aq (ds:=[.lst (gs1.map gZ)]) (ao (av (a:=aF ak gs1 os1) (b:= .int 1) h rfl rfl) rfl) (by rw[cq,List.length_map])
 have l2:∀δ:au,ag 2 δ= .ok (aF ins2 gs2 bB)->aw bV (af (e2 br (ag 2) (eC (.int 1))) aA) δ= .ok (nI gs2.length):=fun δ h=>aq (ds:=[.lst (gs2.map gZ)]) (ao (av (a:=aF ins2 gs2 bB) (b:= .int 1) h rfl rfl) rfl) (by rw[cq,List.length_map])
 have st:∀(F:FS) (r:D),F (gE c (aF ak gs1 os1) (aF ins2 gs2 bB) kd (.val (nI mm)) .un .un .un .un .un .un .un)= .ok (.rt r)->tm gf (cF (eA 3 (e2 du (aw aJ (af (ag 0) (af (eC (.int 90)) aA))) (eC (.int 4)))) (cF (eA 4 (e2 du (aw aJ (af (ag 0) (af (eC (.int 91)) aA))) (eC (.int 3)))) F)) [.int c,aF ak gs1 os1,aF ins2 gs2 bB]= .ok r:=fun F r hF=>gz (a9 (bZ s1 (by simp [dW,gf])) (a9 (bZ (δ:=gE c (aF ak gs1 os1) (aF ins2 gs2 bB) kd .un .un .un .un .un .un .un .un) s2 (by simp)) hF))
 have qt:∀k:Nat,kd=k->b2 rV (ag 3) (eC (nI k)) (gE c (aF ak gs1 os1) (aF ins2 gs2 bB) kd (.val (nI mm)) .un .un .un .un .un .un .un)= .ok true:=fun k e=>(q k).trans (by rw[decide_eq_true e])
 have qf:∀k:Nat,¬kd=k->b2 rV (ag 3) (eC (nI k)) (gE c (aF ak gs1 os1) (aF ins2 gs2 bB) kd (.val (nI mm)) .un .un .un .un .un .un .un)= .ok false:=fun k e=>(q k).trans (by rw[decide_eq_false e])
 rcases(show kd=0\/kd=1\/kd=2\/kd=3 by omega) with e | e | e | e
 .obtain⟨nd,hnd⟩:∃nd,59+mm - gs1.length - gs2.length=nd:=⟨_,rfl⟩;have hn61:nd<=61:=by omega
  refine⟨ak,gs1++List.replicate (nd / 2) nt,os1,gs2++List.replicate (nd - nd / 2) nt,⟨uP A1 (by omega),uP A2 (by omega),⟨0,by omega,by simp⟩,⟨0,by omega,by simp⟩,fun o y h=>⟨y,h,rfl⟩⟩,?_⟩
  refine st _ _ (NT.jT (oR (qt 0 e) ?_));have e5:e2 oW (e2 oW (e2 bH (eC (.int 59)) (ag 4)) (aw bV (af (e2 br (ag 1) (eC (.int 1))) aA))) (aw bV (af (e2 br (ag 2) (eC (.int 1))) aA)) (gE c (aF ak gs1 os1) (aF ins2 gs2 bB) kd (.val (nI mm)) .un .un .un .un .un .un .un)= .ok (nI nd):=(av (a:=nI (59+mm - gs1.length)) (b:=nI gs2.length) (av (a:=nI (59+mm)) (b:=nI gs1.length) (av (a:=nI 59) (b:=nI mm) rfl rfl (dh _ _)) (l1 _ rfl) (uG (by omega))) (l2 _ rfl) (uG (by omega))).trans (by rw[hnd])
  have ntd:∀δ:au,cZ (af (dz (af (eC (.str (Str.ofString "not"))) (af (dz (af (eC (.int 0)) aA)) (af (eC (.bl false)) aA)))) aA) δ= .ok [gZ nt]:=fun δ=>iH (ds:=[gZ nt]) (ao (bG (ds:=[.str (kS 0), .tup [nI 0], .bl false]) (ao rfl (ao (bG rfl (by simp;omega)) rfl)) (by simp;omega)) rfl) (by simp;omega)
  refine a9 (bZ e5 (by simp)) (a9 (bZ (d:= .lst ((List.replicate (nd / 2) nt).map gZ)) (bA ((Gf (n:=nd / 2) (ntd _) (av (a:=nI nd) (b:=nI 2) rfl rfl (yB (by omega) (by omega))) (by omega) (by simp;omega)).trans (by rw[A3,Ci]))) (by simp)) (a9 (bZ (d:= .lst ((List.replicate (nd - nd / 2) nt).map gZ)) (bA ((Gf (n:=nd - nd / 2) (ntd _) (av (a:=nI nd) (b:=nI (nd / 2)) rfl (av (a:=nI nd) (b:=nI 2) rfl rfl (yB (by omega) (by omega))) (uG (by omega))) (by omega) (by simp;omega)).trans (by rw[A3,Ci]))) (by simp)) (dP ?_)))
  refine bG (ds:=[aF ak (gs1++List.replicate (nd / 2) nt) os1,aF ins2 (gs2++List.replicate (nd - nd / 2) nt) bB]) (ao (bG (ds:=[.lst (ak.map MT.inD), .lst ((gs1++List.replicate (nd / 2) nt).map gZ), .lst (os1.map fZ)]) (ao rfl (ao ?_ rfl)) (by simp;omega)) (ao (bG (ds:=[.lst (ins2.map MT.inD), .lst ((gs2++List.replicate (nd - nd / 2) nt).map gZ), .lst (bB.map fZ)]) (ao rfl (ao ?_ rfl)) (by simp;omega)) rfl)) (by simp;omega)
  .exact av (a:= .lst (gs1.map gZ)) (b:= .lst ((List.replicate (nd / 2) nt).map gZ)) rfl rfl ((kz (by rw[List.length_map,List.length_map,List.length_replicate];omega)).trans (by rw[List.map_append]))
  .exact av (a:= .lst (gs2.map gZ)) (b:= .lst ((List.replicate (nd - nd / 2) nt).map gZ)) rfl rfl ((kz (by rw[List.length_map,List.length_map,List.length_replicate];omega)).trans (by rw[List.map_append]))
 .obtain⟨m,hm⟩:∃m,min (2+mm) (6 - ak.length)=m:=⟨_,rfl⟩;have Po:m<=4:=by omega
  refine⟨ak++(List.range m).map fun k=>(kN k,1),gs1.map (kZ (mv (b_ ak) m)),os1.map (iU (mv (b_ ak) m)),gs2,⟨AX A1 (by omega),A2.N,⟨m,Po,by rw[List.map_append,List.map_map];rfl⟩,⟨0,by omega,by rw[List.map_map,List.range_zero,List.map_nil,List.append_nil];rfl⟩,fun o y h=>⟨iU (mv (b_ ak) m) y,by rw[List.getElem?_map,h];rfl,by unfold iU;rw [List.length_map]⟩⟩,?_⟩
  refine st _ _ (a9 (lH (qf 0 (by omega)) rfl) (NT.jT (oR (qt 1 e) ?_)))
  refine a9 (bZ (d:=nI (b_ ak)) (aq (ds:=[.lst ((ak.map (·.2)).map nI)]) (ao (bA (bY (ds:=ak.map MT.inD) (jK rfl) (by rw[List.length_map];omega) (by
   rw[show(ak.map (·.2)).map nI=ak.map fun x=>nI x.2 from List.map_map]
   exact NT.bu MT.inD _ fun x hx=>⟨[.val (.str x.1), .val (nI x.2)],rfl,rfl,rfl⟩))) rfl) (BD _)) (by simp)) ?_
  refine a9 (bZ (d:=nI m) ((aq (ds:=[nI (2+mm),nI (6 - ak.length)]) (ao (av (a:=nI 2) (b:=nI mm) rfl rfl (dh _ _)) (ao (av (a:=nI 6) (b:=nI ak.length) rfl (aq (ds:=[.lst (ak.map MT.inD)]) rfl (by rw[cq,List.length_map])) (uG (by omega))) rfl)) F5).trans (by rw[hm])) (by simp)) ?_
  refine a9 (bZ (d:= .lst ((ak++(List.range m).map fun k=>(kN k,1)).map MT.inD)) (av (a:= .lst (ak.map MT.inD)) (b:= .lst ((List.range m).map fun k=>D.tup [.str (kN k), .int 1])) rfl (bA (bY (jD (n:=m) rfl (by omega)) (by rw[List.length_map,List.length_range];omega) (NT.bu nI _ fun k hk=>⟨[.val (nI k)],rfl,rfl,bG (ao (FR (by have:=List.mem_range.mp hk;omega) rfl) rfl) (by simp;omega)⟩))) ((kz (by rw[List.length_map,List.length_map,List.length_range];omega)).trans (by rw[List.map_append,HW]))) (by simp)) ?_
  refine a9 (bZ (d:= .lst ((gs1.map (kZ (mv (b_ ak) m))).map gZ)) (bA (bY (ds:=gs1.map gZ) (jK rfl) (by rw[List.length_map];omega) (by
   rw[List.map_map];exact NT.bu gZ _ fun g hg=>⟨[.val (.str (kS g.1)), .val (.tup (g.2.1.map nI)), .val (.bl g.2.2), .val (nI m), .val (nI (b_ ak))],rfl,rfl,bG (ds:=[.str (kS g.1), .tup ((g.2.1.map (mv (b_ ak) m)).map nI), .bl g.2.2]) (ao rfl (ao (aq (ds:=[.tup (g.2.1.map nI),nI (b_ ak),nI m]) rfl (vL (by
    obtain⟨i,hi⟩:=List.getElem?_of_mem hg;have h1:=(A1.N.g i g hi).2.1;have:=yt g.1;omega) (by omega))) (ao rfl rfl))) (by simp;omega)⟩))) (by simp)) ?_
  refine a9 (bZ (d:= .lst ((os1.map (iU (mv (b_ ak) m))).map fZ)) (bA (bY (ds:=os1.map fZ) (jK rfl) (by rw[List.length_map];omega) (by
   rw[show(os1.map (iU (mv (b_ ak) m))).map fZ=os1.map (fun x=>fZ (iU (mv (b_ ak) m) x)) from List.map_map]
   refine NT.bu fZ _ fun x hx=>⟨[.val (.str x.1), .val (.tup (x.2.map nI)), .val (nI m), .val (nI (b_ ak))],rfl,rfl,?_⟩
   exact bG (ds:=[.str x.1, .tup ((x.2.map (mv (b_ ak) m)).map nI)]) (ao rfl (ao (aq (ds:=[.tup (x.2.map nI),nI (b_ ak),nI m]) rfl (vL (A1.N.o x hx).1 (by omega))) rfl)) (by simp;omega)))) (by simp)) ?_
  exact dP (bG (ds:=[aF (ak++(List.range m).map fun k=>(kN k,1)) (gs1.map (kZ (mv (b_ ak) m))) (os1.map (iU (mv (b_ ak) m))),aF ins2 gs2 bB]) (ao (bG rfl (by simp;omega)) rfl) (by simp;omega))
 .obtain⟨m,hm⟩:∃m,min (2+mm) (6 - os1.length)=m:=⟨_,rfl⟩;have Po:m<=4:=by omega
  refine⟨ak,gs1,os1++(List.range m).map fun k=>(kN k,[0]),gs2,⟨DL A1 (by omega),A2.N,⟨0,by omega,by simp⟩,⟨m,Po,by rw[List.map_append,List.map_map];rfl⟩,fun o y h=>⟨y,by rw[List.getElem?_append_left (List.getElem?_eq_some_iff.mp h).1];exact h,rfl⟩⟩,?_⟩
  refine st _ _ (a9 (lH (qf 0 (by omega)) rfl) (a9 (lH (qf 1 (by omega)) rfl) (NT.jT (oR (qt 2 e) ?_))))
  refine a9 (bZ (d:=nI m) ((aq (ds:=[nI (2+mm),nI (6 - os1.length)]) (ao (av (a:=nI 2) (b:=nI mm) rfl rfl (dh _ _)) (ao (av (a:=nI 6) (b:=nI os1.length) rfl (aq (ds:=[.lst (os1.map fZ)]) rfl (by rw[cq,List.length_map])) (uG (by omega))) rfl)) F5).trans (by rw[hm])) (by simp)) (dP ?_)
  refine bG (ds:=[aF ak gs1 (os1++(List.range m).map fun k=>(kN k,[0])),aF ins2 gs2 bB]) (ao (bG (ds:=[.lst (ak.map MT.inD), .lst (gs1.map gZ), .lst ((os1++(List.range m).map fun k=>(kN k,[0])).map fZ)]) (ao rfl (ao rfl (ao ?_ rfl))) (by simp;omega)) rfl) (by simp;omega)
  exact av (a:= .lst (os1.map fZ)) (b:= .lst ((List.range m).map fun k=>D.tup [.str (kN k), .tup [.int 0]])) rfl (bA (bY (jD (n:=m) rfl (by omega)) (by rw[List.length_map,List.length_range];omega) (NT.bu nI _ fun k hk=>⟨[.val (nI k)],rfl,rfl,bG (ao (FR (by have:=List.mem_range.mp hk;omega) rfl) (ao (bG rfl (by simp;omega)) rfl)) (by simp;omega)⟩))) ((kz (by rw[List.length_map,List.length_map,List.length_range];omega)).trans (by rw[List.map_append,G_]))
 .refine⟨ak,gs1,os1,gs2,D7 A1 A2,?_⟩;exact st _ _ (a9 (lH (qf 0 (by omega)) rfl) (a9 (lH (qf 1 (by omega)) rfl) (a9 (lH (qf 2 (by omega)) rfl) (dP (bG rfl (by simp;omega))))))
end
end K35
end
section
set_option maxHeartbeats 400000
namespace K35
open PySem PySem.Spec PyProof.Rows L2 L3 MT JT
theorem xc(pairs:List (Nat × Nat))(p:Nat):(cO pairs p).isNone=!(pairs.map (·.2)).contains p:=by
 rw[<-Option.not_isSome];congr 1;rw[Bool.eq_iff_iff,tu,List.contains_iff_mem]
theorem Bk(ins:Wr)(pairs:List (Nat × Nat)):((List.range ins.length).filter fun p=>!(pairs.map (·.2)).contains p).map (fun p=>ins.getD p (Str.empty,0))=fH pairs ins:=by
 have e:ins.zipIdx=(List.range ins.length).map fun p=>(ins.getD p (Str.empty,0),p):=List.ext_getElem? fun i=>by
  rw[List.getElem?_zipIdx,List.getElem?_map];by_cases h:i < ins.length
  .rw [List.getElem?_range h,List.getElem?_eq_getElem h];show some (ins[i],0+i)=some (ins.getD i _,i);rw[Nat.zero_add,List.getD_eq_getElem?_getD,List.getElem?_eq_getElem h];rfl
  .rw [List.getElem?_eq_none (by omega),List.getElem?_eq_none (by simpa using h)];rfl
 unfold fH;rw[e,List.filter_map,List.map_map];congr 1;refine List.filter_congr fun p _=>?_
 show _=(cO pairs p).isNone;rw[xc]
theorem zX(os:Ws)(pairs:List (Nat × Nat)):((List.range os.length).filter fun p=>!(pairs.map (·.1)).contains p).map (fun p=>os.getD p (Str.empty,[]))=eN pairs os:=by
 have e:os.zipIdx=(List.range os.length).map fun p=>(os.getD p (Str.empty,[]),p):=List.ext_getElem? fun i=>by
  rw[List.getElem?_zipIdx,List.getElem?_map];by_cases h:i < os.length
  .rw [List.getElem?_range h,List.getElem?_eq_getElem h];show some (os[i],0+i)=some (os.getD i _,i);rw[Nat.zero_add,List.getD_eq_getElem?_getD,List.getElem?_eq_getElem h];rfl
  .rw [List.getElem?_eq_none (by omega),List.getElem?_eq_none (by simpa using h)];rfl
 unfold eN;rw[e,List.filter_map,List.map_map];rfl
theorem yl{f:FD}{δ:au}{ss:List Str}(h:f δ= .ok (.lst (ss.map .str)))(hl:ss.length < 60):u6 f δ= .ok (nI (kW ss).length):=by
 unfold u6;rw[h,R.aK];show(match strL? (ss.map .str) with | some ss=>R.aS (decide (ss.length < 60)) (R.ok (D.int ((kW ss).length:Nat))) | none=>_)=_
 rw[vH];exact bW _ hl
theorem DV{f:FD}{δ:au}{ns:List Nat}(h:f δ= .ok (.lst (ns.map nI)))(hl:ns.length<=4)(MJ:∀n∈ns,n < 32):u6 f δ= .ok (nI (kW ns).length):=by
 unfold u6;rw[h,R.aK];cases ns with
 | nil=>rfl
 | cons n ns=>
   show(match ints? ((n ::ns).map nI) with | some zs=>R.aS (decide (zs.length < 60) && (zs.all (fun z=>decide (0<=z/\z < 32)) && decide ((kW (zs.map Int.toNat)).length<=4))) (R.ok (D.int ((kW (zs.map Int.toNat)).length:Nat))) | none=> .no)=_
   rw[Cc,L2.ints_map];have e:((n ::ns).map fun(n:Nat)=>(n:Int)).map Int.toNat=n ::ns:=by
    rw[List.map_map];exact(List.map_congr_left (g:=id) fun x _=>by show((x:Nat):Int).toNat=x;simp).trans (List.map_id _)
   show R.aS _ _=_;rw[e];have h1:(((n ::ns).map fun(n:Nat)=>(n:Int)).all fun z=>decide (0<=z/\z < 32))=true:=List.all_eq_true.mpr fun z hz=>by
    obtain⟨x,hx,rfl⟩:=List.mem_map.mp hz;have:=MJ x hx;exact decide_eq_true ⟨by omega,by omega⟩
   have h2:=pK (n ::ns);rw[h1,decide_eq_true (show((n ::ns).map fun(n:Nat)=>(n:Int)).length < 60 by rw[List.length_map];omega),decide_eq_true (show(kW (n ::ns)).length<=4 by omega)]
   rfl
theorem wA{α:Type} [DecidableEq α](ks:List α):decide ((kW ks).length < ks.length)=!decide ks.Nodup:=by
 by_cases h:ks.Nodup
 .rw [decide_eq_true h,decide_eq_false fun z=>(Bj ks).mp z h];rfl
 .rw [decide_eq_false h,decide_eq_true ((Bj ks).mpr h)];rfl
def DB:Option Nat->Int
 | none=> -1
 | some 11=>10
 | some 4=>3
 | some _=>4
section
variable {ak ins2:Wr} {gs1 gs2:List Gt} {os1 bB:Ws} {pairs:List (Nat × Nat)}
theorem AR:(jI ak ins2 pairs).map (·.1)=ak.map (·.1)++(fH pairs ins2).map (·.1):=by unfold jI;rw [List.map_append]
theorem B9:(jO ak ins2 gs1 os1 bB pairs).map (·.1)=(eN pairs os1).map (·.1)++bB.map (·.1):=by unfold jO;rw [List.map_append,List.map_map,List.map_map];rfl
theorem Ax:(fH pairs ins2).length<=ins2.length:=by
 unfold fH;rw[List.length_map];have:=List.length_filter_le (fun x:(Str × Nat) × Nat=>(cO pairs x.2).isNone) ins2.zipIdx
 rwa [List.length_zipIdx] at this
theorem AA:(eN pairs os1).length<=os1.length:=by
 unfold eN;rw[List.length_map];have:=List.length_filter_le (fun x:(Str × List Nat) × Nat=>!(pairs.map (·.1)).contains x.2) os1.zipIdx
 rwa [List.length_zipIdx] at this
theorem Io(hR:Ff os1 ins2 pairs)(i1:ak.length<=20)(i2:ins2.length<=20)(o1:os1.length<=20)(o2:bB.length<=20)(g1:gs1.length < 1000)(g2:gs2.length < 1000)(hp:pairs.length<=4) :
 ∃c,zW ak ins2 gs1 gs2 os1 bB pairs c/\jw [aF ak gs1 os1,aF ins2 gs2 bB, .lst (pairs.map dA)]= .ok (.int (DB c)):=by
 have hz:sizeLine=16777216:=sizeLine_eq;have hli:=Ax (pairs:=pairs) (ins2:=ins2);have hlo:=AA (pairs:=pairs) (os1:=os1)
 let E (x3 x4 x5 x6 x7 x8 x9:Sl):au:=[.val (aF ak gs1 os1), .val (aF ins2 gs2 bB), .val (.lst (pairs.map dA)),x3,x4,x5,x6,x7,x8,x9]
 let mis:Nat × Nat->Bool:=fun q=>!decide ((os1.getD q.1 (Str.empty,[])).2.length=(ins2.getD q.2 (Str.empty,0)).2)
 obtain⟨ou,e1,h1⟩:=mF (t:=dy 2 (bb (aM 3) (bb (aM 4) dw))) (body:=lj) dA (fun q=>if mis q then some (.int 10) else none) (fun δ=>∃x3 x4,δ=E x3 x4 .un .un .un .un .un) (xs:=pairs) (δ:=E .un .un .un .un .un .un .un) ⟨_,_,rfl⟩ (by
  rintro q hq δ ⟨x3,x4,rfl⟩;obtain⟨r1,r2⟩:=hR q hq;have g1:os1[q.1]? =some (os1.getD q.1 (Str.empty,[])):=by rw[List.getD_eq_getElem?_getD,List.getElem?_eq_getElem r1];rfl
  have g2:ins2[q.2]? =some (ins2.getD q.2 (Str.empty,0)):=by rw[List.getD_eq_getElem?_getD,List.getElem?_eq_getElem r2];rfl
  have hc:b2 rA (aw bV (af (e2 br (e2 br (e2 br (ag 0) (eC (.int 2))) (ag 3)) (eC (.int 1))) aA)) (e2 br (e2 br (e2 br (ag 1) (eC (.int 0))) (ag 4)) (eC (.int 1))) (E (.val (nI q.1)) (.val (nI q.2)) .un .un .un .un .un)= .ok (mis q):=cA (a:= .int (os1.getD q.1 (Str.empty,[])).2.length) (b:= .int (ins2.getD q.2 (Str.empty,0)).2) (aq (ds:=[.tup ((os1.getD q.1 (Str.empty,[])).2.map nI)]) (ao (av (a:=fZ (os1.getD q.1 (Str.empty,[]))) (b:= .int 1) (av (a:= .lst (os1.map fZ)) (b:=nI q.1) (av (a:=aF ak gs1 os1) (b:= .int 2) rfl rfl rfl) rfl (NT.cM (by rw[List.getElem?_map,g1];rfl))) rfl rfl) rfl) (by show R.ok (D.int (((os1.getD q.1 (Str.empty,[])).2.map nI).length:Nat))=_;rw [List.length_map])) (av (a:=MT.inD (ins2.getD q.2 (Str.empty,0))) (b:= .int 1) (av (a:= .lst (ins2.map MT.inD)) (b:=nI q.2) (av (a:=aF ins2 gs2 bB) (b:= .int 0) rfl rfl rfl) rfl (NT.cM (by rw[List.getElem?_map,g2];rfl))) rfl rfl) (Cz _ _)
  rw[show dy 2 (bb (aM 3) (bb (aM 4) dw)) (dA q) (E x3 x4 .un .un .un .un .un)= .ok (E (.val (nI q.1)) (.val (nI q.2)) .un .un .un .un .un) from rfl,R.aK]
  unfold lj;cases hm:mis q with
  | true=>
    rw[hm] at hc;exact⟨_,oR hc rfl,by rw[if_pos rfl]⟩
  | false=>
    rw[hm] at hc;exact⟨_,lH hc rfl,by rw[if_neg (by decide)];exact⟨_,rfl,_,_,rfl⟩⟩)
 have hfit:pairs.findSome? (fun q=>if mis q then some (D.int 10) else none)=none↔Fits os1 ins2 pairs:=by
  rw[List.findSome?_eq_none_iff];constructor
  .intro h q hq;obtain⟨r1,r2⟩:=hR q hq;have:=h q hq;have hm:mis q=false:=by
    cases hm:mis q with
    | true=>rw [hm,if_pos rfl] at this;cases this
    | false=>rfl
   refine⟨os1.getD q.1 (Str.empty,[]),ins2.getD q.2 (Str.empty,0),by rw[List.getD_eq_getElem?_getD,List.getElem?_eq_getElem r1];rfl,by rw[List.getD_eq_getElem?_getD,List.getElem?_eq_getElem r2];rfl,?_⟩
   have:(!decide ((os1.getD q.1 (Str.empty,[])).2.length=(ins2.getD q.2 (Str.empty,0)).2))=false:=hm;rw[Bool.not_eq_false'] at this;exact of_decide_eq_true this
  .intro h q hq;obtain⟨x,y,a,b,c⟩:=h q hq;have hm:mis q=false:=by
    show(!decide ((os1.getD q.1 (Str.empty,[])).2.length=(ins2.getD q.2 (Str.empty,0)).2))=false;rw[List.getD_eq_getElem?_getD,List.getD_eq_getElem?_getD,a,b];show(!decide (x.2.length=y.2))=false;rw[decide_eq_true c];rfl
   rw[hm,if_neg (by decide)]
 unfold jw jq;cases hf:pairs.findSome? (fun q=>if mis q then some (D.int 10) else none) with
 | some v=>
   rw[hf] at h1;have hv:v= .int 10:=by
    obtain⟨q,hq,e⟩:=List.exists_of_findSome?_eq_some hf;split at e
    .cases e;rfl
    .cases e
   subst h1 hv;refine⟨some 11, .inl ⟨fun F=>?_,rfl⟩,gz (NT.jT (lX (ds:=pairs.map dA) rfl e1))⟩
   rw[hfit.mpr F] at hf;cases hf
 | none=>
   rw[hf] at h1;obtain⟨dX,rfl,x3,x4,rfl⟩:=h1;have F:=hfit.mp hf
   let iN:=ak.map (·.1)++(fH pairs ins2).map (·.1)
   let oN:=(eN pairs os1).map (·.1)++bB.map (·.1)
   have e5:eNew (b7 (cn (ag 2)) (dy 2 (bb (aM 0) (bb (aM 1) dw))) fJ (ag 1) [(Str.ofString "out"),(Str.ofString "place")] []) (E x3 x4 .un .un .un .un .un)= .ok (.lst ((pairs.map (·.2)).map nI)):=bA (bY (ds:=pairs.map dA) rfl (by rw[List.length_map];omega) (by
    rw[List.map_map];exact NT.bu dA _ fun q hq=>⟨[.val (nI q.1), .val (nI q.2)],rfl,rfl,rfl⟩))
   have e6:eNew (b7 (cn (ag 2)) (dy 2 (bb (aM 0) (bb (aM 1) dw))) fJ (ag 0) [(Str.ofString "out"),(Str.ofString "place")] []) (E x3 x4 (.val (.lst ((pairs.map (·.2)).map nI))) .un .un .un .un)= .ok (.lst ((pairs.map (·.1)).map nI)):=bA (bY (ds:=pairs.map dA) rfl (by rw[List.length_map];omega) (by
    rw[show(pairs.map (·.1)).map nI=pairs.map fun q=>nI q.1 from List.map_map]
    exact NT.bu dA _ fun q hq=>⟨[.val (nI q.1), .val (nI q.2)],rfl,rfl,rfl⟩))
   have e7:eNew (b7 (cn (e2 br (ag 0) (eC (.int 0)))) (dy 2 (bb (aM 0) (bb (aM 1) dw))) fJ (ag 0) [(Str.ofString "name"),(Str.ofString "width")] []) (E x3 x4 (.val (.lst ((pairs.map (·.2)).map nI))) (.val (.lst ((pairs.map (·.1)).map nI))) .un .un .un)= .ok (.lst ((ak.map (·.1)).map .str)):=bA (bY (ds:=ak.map MT.inD) (jK rfl) (by rw[List.length_map];omega) (by
    rw[show(ak.map (·.1)).map D.str=ak.map fun x=>D.str x.1 from List.map_map]
    exact NT.bu MT.inD _ fun x hx=>⟨[.val (.str x.1), .val (nI x.2)],rfl,rfl,rfl⟩))
   have e7b:e2 bH (ag 7) (eNew (b7 (cx (aw bV (af (e2 br (ag 1) (eC (.int 0))) aA))) (aM 0) (b2 mK (ag 0) (ag 2)) (e2 br (e2 br (e2 br (ag 1) (eC (.int 0))) (ag 0)) (eC (.int 0))) [(Str.ofString "place")] [1,5])) (E x3 x4 (.val (.lst ((pairs.map (·.2)).map nI))) (.val (.lst ((pairs.map (·.1)).map nI))) (.val (.lst ((ak.map (·.1)).map .str))) .un .un)= .ok (.lst (iN.map .str)):=by
    refine av (a:= .lst ((ak.map (·.1)).map .str)) (b:= .lst (((fH pairs ins2).map (·.1)).map .str)) rfl (bA (bY (jD (n:=ins2.length) (aq (ds:=[.lst (ins2.map MT.inD)]) rfl (by rw[cq,List.length_map])) (by omega)) (by rw[List.length_map,List.length_range];omega) ((NT.mH (fun p=>!(pairs.map (·.2)).contains p) nI (fun p=>D.str (ins2.getD p (Str.empty,0)).1) fun p hp=>⟨[.val (nI p), .val (aF ins2 gs2 bB), .val (.lst ((pairs.map (·.2)).map nI))],rfl,cA (a:=nI p) (b:= .lst ((pairs.map fun q:Nat × Nat=>q.2).map nI)) rfl rfl (tV _ _),fun _=>av (a:=MT.inD (ins2.getD p (Str.empty,0))) (b:= .int 0) (av (a:= .lst (ins2.map MT.inD)) (b:=nI p) (av (a:=aF ins2 gs2 bB) (b:= .int 0) rfl rfl rfl) rfl (NT.cM ?_)) rfl rfl⟩).trans (by rw[<-Bk,List.map_map,List.map_map];rfl)))) ((kz (by rw[List.length_map,List.length_map,List.length_map,List.length_map];omega)).trans (by rw[<-List.map_append]))
    have Jp:=List.mem_range.mp hp;rw[List.getElem?_map,List.getElem?_eq_getElem Jp,List.getD_eq_getElem?_getD,List.getElem?_eq_getElem Jp];rfl
   have e8:eNew (b7 (cx (aw bV (af (e2 br (ag 0) (eC (.int 2))) aA))) (aM 0) (b2 mK (ag 0) (ag 2)) (e2 br (e2 br (e2 br (ag 1) (eC (.int 2))) (ag 0)) (eC (.int 0))) [(Str.ofString "place")] [0,6]) (E x3 x4 (.val (.lst ((pairs.map (·.2)).map nI))) (.val (.lst ((pairs.map (·.1)).map nI))) (.val (.lst (iN.map .str))) .un .un)= .ok (.lst (((eN pairs os1).map (·.1)).map .str)):=by
    refine bA (bY (jD (n:=os1.length) (aq (ds:=[.lst (os1.map fZ)]) rfl (by rw[cq,List.length_map])) (by omega)) (by rw[List.length_map,List.length_range];omega) ((NT.mH (fun p=>!(pairs.map (·.1)).contains p) nI (fun p=>D.str (os1.getD p (Str.empty,[])).1) fun p hp=>⟨[.val (nI p), .val (aF ak gs1 os1), .val (.lst ((pairs.map (·.1)).map nI))],rfl,cA (a:=nI p) (b:= .lst ((pairs.map fun q:Nat × Nat=>q.1).map nI)) rfl rfl (tV _ _),fun _=>av (a:=fZ (os1.getD p (Str.empty,[]))) (b:= .int 0) (av (a:= .lst (os1.map fZ)) (b:=nI p) (av (a:=aF ak gs1 os1) (b:= .int 2) rfl rfl rfl) rfl (NT.cM ?_)) rfl rfl⟩).trans (by rw[<-zX,List.map_map,List.map_map];rfl)))
    have Jp:=List.mem_range.mp hp;rw[List.getElem?_map,List.getElem?_eq_getElem Jp,List.getD_eq_getElem?_getD,List.getElem?_eq_getElem Jp];rfl
   have e8b:e2 bH (ag 8) (eNew (b7 (cn (e2 br (ag 1) (eC (.int 2)))) (dy 2 (bb (aM 0) (bb (aM 1) dw))) fJ (ag 0) [(Str.ofString "name"),(Str.ofString "wires")] [])) (E x3 x4 (.val (.lst ((pairs.map (·.2)).map nI))) (.val (.lst ((pairs.map (·.1)).map nI))) (.val (.lst (iN.map .str))) (.val (.lst (((eN pairs os1).map (·.1)).map .str))) .un)= .ok (.lst (oN.map .str)):=av (a:= .lst (((eN pairs os1).map (·.1)).map .str)) (b:= .lst ((bB.map (·.1)).map .str)) rfl (bA (bY (ds:=bB.map fZ) (jK rfl) (by rw[List.length_map];omega) (by
    rw[show(bB.map (·.1)).map D.str=bB.map fun x=>D.str x.1 from List.map_map]
    exact NT.bu fZ _ fun x hx=>⟨[.val (.str x.1), .val (.tup (x.2.map nI))],rfl,rfl,rfl⟩))) ((kz (by rw[List.length_map,List.length_map,List.length_map,List.length_map];omega)).trans (by rw[<-List.map_append]))
   have hiN:iN.length<=40:=by show(ak.map (·.1)++(fH pairs ins2).map (·.1)).length<=40;rw [List.length_append,List.length_map,List.length_map];omega
   have hoN:oN.length<=40:=by show((eN pairs os1).map (·.1)++bB.map (·.1)).length<=40;rw [List.length_append,List.length_map,List.length_map];omega
   have heI:(jI ak ins2 pairs).map (·.1)=iN:=AR
   have heO:(jO ak ins2 gs1 os1 bB pairs).map (·.1)=oN:=B9
   have hlI:(jI ak ins2 pairs).length=iN.length:=by rw[<-heI,List.length_map]
   have hlO:(jO ak ins2 gs1 os1 bB pairs).length=oN.length:=by rw[<-heO,List.length_map]
   generalize iN=iN at*;generalize oN=oN at*
   let Z (x9:Sl):au:=E x3 x4 (.val (.lst ((pairs.map (·.2)).map nI))) (.val (.lst ((pairs.map (·.1)).map nI))) (.val (.lst (iN.map .str))) (.val (.lst (oN.map .str))) x9
   have wc:∀r,(cF (uZ (cn (eNew (cZ (af (ag 5) (af (ag 7) (af (ag 8) aA)))))) (aM 9) iJ) (cF (xD (uL (b2 rW (aw bV (af (ag 7) aA)) (eC (.int 6))) (uL (b2 rW (aw bV (af (ag 8) aA)) (eC (.int 6))) (b2 rW (e2 bH (aw bV (af (e2 br (ag 0) (eC (.int 1))) aA)) (aw bV (af (e2 br (ag 1) (eC (.int 1))) aA))) (eC (.int 60))))) (hV (eC (.int 4))) rR) (hV (Ex (eC (.int 1)))))) (Z .un)= .ok (.rt r)->tm l0 jq [aF ak gs1 os1,aF ins2 gs2 bB, .lst (pairs.map dA)]= .ok r:=fun r hr=>by
    unfold jq;exact gz (a9 (lX (ds:=pairs.map dA) rfl e1) (a9 (bZ e5 (by simp [E])) (a9 (bZ e6 (by simp [E])) (a9 (bZ e7 (by simp [E])) (a9 (bZ e7b (by simp [E])) (a9 (bZ e8 (by simp [E])) (a9 (bZ e8b (by simp [E])) hr)))))))
   have jE:∀n∈pairs.map (·.2),n < 32:=fun n hn=>by
    obtain⟨q,hq,rfl⟩:=List.mem_map.mp hn;have:=(hR q hq).2;omega
   let xs:List (List D × Bool):=[((pairs.map (·.2)).map nI,!decide (pairs.map (·.2)).Nodup),(iN.map .str,!decide iN.Nodup),(oN.map .str,!decide oN.Nodup)]
   obtain⟨ou,e9,h9⟩:=mF (t:=aM 9) (body:=iJ) (fun x:List D × Bool=>D.lst x.1) (fun x=>if x.2 then some (.int 3) else none) (fun δ=>∃x9,δ=Z x9) (xs:=xs) (δ:=Z .un) ⟨_,rfl⟩ (by
    rintro x hx δ ⟨x9,rfl⟩;rw[show aM 9 (.lst x.1) (Z x9)= .ok (Z (.val (.lst x.1))) from rfl,R.aK]
    have hc:b2 Ge (u6 (ag 9)) (aw bV (af (ag 9) aA)) (Z (.val (.lst x.1)))= .ok x.2:=by
     simp only[xs,List.mem_cons,List.not_mem_nil,or_false] at hx;rcases hx with rfl | rfl | rfl
     .exact(cA (a:=nI (kW (pairs.map (·.2))).length) (b:=nI (pairs.map (·.2)).length) (DV rfl (by rw[List.length_map];omega) jE) (aq (ds:=[.lst ((pairs.map (·.2)).map nI)]) rfl (by rw[cq,List.length_map])) (GD _ _)).trans (by rw[wA])
     .exact(cA (a:=nI (kW iN).length) (b:=nI iN.length) (yl rfl (by omega)) (aq (ds:=[.lst (iN.map .str)]) rfl (by rw[cq,List.length_map])) (GD _ _)).trans (by rw[wA])
     .exact(cA (a:=nI (kW oN).length) (b:=nI oN.length) (yl rfl (by omega)) (aq (ds:=[.lst (oN.map .str)]) rfl (by rw[cq,List.length_map])) (GD _ _)).trans (by rw[wA])
    unfold iJ;cases hm:x.2 with
    | true=>
      rw[hm] at hc;exact⟨_,oR hc rfl,by rw[if_pos rfl]⟩
    | false=>
      rw[hm] at hc;exact⟨_,lH hc rfl,by rw[if_neg (by decide)];exact⟨_,rfl,_,rfl⟩⟩)
   have hit:cn (eNew (cZ (af (ag 5) (af (ag 7) (af (ag 8) aA))))) (Z .un)= .ok (xs.map fun x:List D × Bool=>D.lst x.1):=jK (bA (iH (ds:=[.lst ((pairs.map (·.2)).map nI), .lst (iN.map .str), .lst (oN.map .str)]) rfl (by simp;omega)))
   have hbad:∀(h:xs.findSome? (fun x:List D × Bool=>if x.2 then some (D.int 3) else none)=some (.int 3)),tm l0 jq [aF ak gs1 os1,aF ins2 gs2 bB, .lst (pairs.map dA)]= .ok (.int 3):=fun h=>by
    rw[h] at h9;subst h9;exact wc _ (NT.jT (lX hit e9))
   by_cases n1:(pairs.map (·.2)).Nodup
   .by_cases n2:iN.Nodup
    .by_cases n3:oN.Nodup
     .have hno:xs.findSome? (fun x:List D × Bool=>if x.2 then some (D.int 3) else none)=none:=by simp [xs,List.findSome?,n1,n2,n3]
      rw[hno] at h9;obtain⟨dX,rfl,x9,rfl⟩:=h9;have q1:b2 rW (aw bV (af (ag 7) aA)) (eC (.int 6)) (Z x9)= .ok (decide (6 < iN.length)):=cA (a:=nI iN.length) (b:=nI 6) (aq (ds:=[.lst (iN.map .str)]) rfl (by rw[cq,List.length_map])) rfl (xE _ _)
      have q2:b2 rW (aw bV (af (ag 8) aA)) (eC (.int 6)) (Z x9)= .ok (decide (6 < oN.length)):=cA (a:=nI oN.length) (b:=nI 6) (aq (ds:=[.lst (oN.map .str)]) rfl (by rw[cq,List.length_map])) rfl (xE _ _)
      have q3:b2 rW (e2 bH (aw bV (af (e2 br (ag 0) (eC (.int 1))) aA)) (aw bV (af (e2 br (ag 1) (eC (.int 1))) aA))) (eC (.int 60)) (Z x9)= .ok (decide (60 < gs1.length+gs2.length)):=cA (a:=nI (gs1.length+gs2.length)) (b:=nI 60) (av (a:=nI gs1.length) (b:=nI gs2.length) (aq (ds:=[.lst (gs1.map gZ)]) rfl (by rw[cq,List.length_map])) (aq (ds:=[.lst (gs2.map gZ)]) rfl (by rw[cq,List.length_map])) (dh _ _)) rfl (xE _ _)
      have qo:uL (b2 rW (aw bV (af (ag 7) aA)) (eC (.int 6))) (uL (b2 rW (aw bV (af (ag 8) aA)) (eC (.int 6))) (b2 rW (e2 bH (aw bV (af (e2 br (ag 0) (eC (.int 1))) aA)) (aw bV (af (e2 br (ag 1) (eC (.int 1))) aA))) (eC (.int 60)))) (Z x9)= .ok (decide (6 < iN.length) || (decide (6 < oN.length) || decide (60 < gs1.length+gs2.length))):=by
       unfold uL;rw[q1,R.aK];cases decide (6 < iN.length) with
       | true=>rfl
       | false=>
         rw[if_neg (by decide),q2,R.aK]
         cases decide (6 < oN.length) with
         | true=>rfl
         | false=>rw [if_neg (by decide),q3];rfl
      by_cases hr:iN.length<=6/\gs1.length+gs2.length<=60/\oN.length<=6
      .refine⟨none, .inr ⟨F, .inr ⟨n1, .inr ⟨by rw[heI];exact n2, .inr ⟨by rw[heO];exact n3, .inr ⟨by rw[hlI,hlO];exact hr,rfl⟩⟩⟩⟩⟩,wc _ (a9 (lX hit e9) (a9 (lH ?_ rfl) rfl))⟩
       rw[qo,decide_eq_false (by omega),decide_eq_false (by omega),decide_eq_false (by omega)];rfl
      .refine⟨some 5, .inr ⟨F, .inr ⟨n1, .inr ⟨by rw[heI];exact n2, .inr ⟨by rw[heO];exact n3, .inl ⟨by rw[hlI,hlO];exact hr,rfl⟩⟩⟩⟩⟩,wc _ (a9 (lX hit e9) (NT.jT (oR ?_ rfl)))⟩
       have hb:(decide (6 < iN.length) || (decide (6 < oN.length) || decide (60 < gs1.length+gs2.length)))=true:=by
        rw[Bool.or_eq_true,Bool.or_eq_true,decide_eq_true_eq,decide_eq_true_eq,decide_eq_true_eq];omega
       rw[qo,hb]
     .exact⟨some 4, .inr ⟨F, .inr ⟨n1, .inr ⟨by rw[heI];exact n2, .inl ⟨by rw[heO];exact n3,rfl⟩⟩⟩⟩,hbad (by simp [xs,List.findSome?,n1,n2,n3])⟩
    .exact⟨some 4, .inr ⟨F, .inr ⟨n1, .inl ⟨by rw[heI];exact n2,rfl⟩⟩⟩,hbad (by simp [xs,List.findSome?,n1,n2])⟩
   .exact⟨some 4, .inr ⟨F, .inl ⟨n1,rfl⟩⟩,hbad (by simp [xs,List.findSome?,n1])⟩
theorem EV{c c':Option Nat}(h:zW ak ins2 gs1 gs2 os1 bB pairs c)(h':zW ak ins2 gs1 gs2 os1 bB pairs c'):c=c':=by
 rcases h with⟨a,e⟩ | ⟨a,h⟩ <;> rcases h' with⟨a',e'⟩ | ⟨a',h'⟩
 .rw [e,e']
 .exact absurd a' a
 .exact absurd a a'
 rcases h with⟨a,e⟩ | ⟨a,h⟩ <;> rcases h' with⟨a',e'⟩ | ⟨a',h'⟩
 .rw [e,e']
 .exact absurd a' a
 .exact absurd a a'
 rcases h with⟨a,e⟩ | ⟨a,h⟩ <;> rcases h' with⟨a',e'⟩ | ⟨a',h'⟩
 .rw [e,e']
 .exact absurd a' a
 .exact absurd a a'
 rcases h with⟨a,e⟩ | ⟨a,h⟩ <;> rcases h' with⟨a',e'⟩ | ⟨a',h'⟩
 .rw [e,e']
 .exact absurd a' a
 .exact absurd a a'
 rcases h with⟨a,e⟩ | ⟨a,e⟩ <;> rcases h' with⟨a',e'⟩ | ⟨a',e'⟩
 .rw [e,e']
 .exact absurd a' a
 .exact absurd a a'
 .rw [e,e']
end
end K35
end
section
namespace K35
open PySem PySem.Spec PyProof.Rows L2 L3 MT JT
theorem Ig{g:Gt}:dH 2 (gZ g):=by
 refine dH.tup fun x hx=>?_
 simp only[List.mem_cons,List.not_mem_nil,or_false] at hx;rcases hx with rfl | rfl | rfl
 .refine(dH.str ?_).mono (by omega)
  unfold kS;split <;> decide+kernel
 .exact dH.tup fun d hd=>by obtain⟨z,_,rfl⟩:=List.mem_map.mp hd;exact dH.int _
 .exact(dH.bl _).mono (by omega)
theorem IL{x:Str × List Nat}(h:dH 0 (.str x.1)):dH 2 (fZ x):=dH.tup fun d hd=>by
 simp only[List.mem_cons,List.not_mem_nil,or_false] at hd;rcases hd with rfl | rfl
 .exact h.mono (by omega)
 .exact dH.tup fun d hd=>by obtain⟨z,_,rfl⟩:=List.mem_map.mp hd;exact dH.int _
theorem xQ{l:Wr}{gs:List Gt}{os:Ws}(fi:∀x∈l,dH 0 (.str x.1))(fo:∀x∈os,dH 0 (.str x.1)):dH 4 (aF l gs os):=dH.tup fun d hd=>by
 simp only[List.mem_cons,List.not_mem_nil,or_false] at hd;rcases hd with rfl | rfl | rfl
 .exact dH.lst fun d hd=>by
   obtain⟨x,hx,rfl⟩:=List.mem_map.mp hd;exact(dH.tup (n:=0) fun d hd=>by
    simp only[List.mem_cons,List.not_mem_nil,or_false] at hd;rcases hd with rfl | rfl
    .exact fi x hx
    .exact dH.int _).mono (by omega)
 .exact dH.lst fun d hd=>by obtain⟨x,hx,rfl⟩:=List.mem_map.mp hd;exact Ig
 .exact dH.lst fun d hd=>by obtain⟨x,hx,rfl⟩:=List.mem_map.mp hd;exact IL (fo x hx)
theorem IX{n:Nat}{ds:List D}(h:dH n (.lst ds))(hn:n<=64):rA (.lst ds) (.lst ds)= .ok (.bl false):=by unfold rA;rw [h.Us hn];rfl
theorem I0(pairs:List (Nat × Nat)):rA (.lst (pairs.map dA)) (.lst (pairs.map dA))= .ok (.bl false):=by
 refine IX (n:=2) (dH.lst fun d hd=>?_) (by omega)
 obtain⟨q,_,rfl⟩:=List.mem_map.mp hd;refine dH.tup fun d hd=>?_
 simp only[List.mem_cons,List.not_mem_nil,or_false] at hd;rcases hd with rfl | rfl
 .exact dH.int _
 .exact dH.int _
def vd(s:Str):Prop:=dH 0 (.str s)/\s.length<=1000
theorem Gv{x:Str × List Nat}(hx:x∈ot){k:Nat}(hk:k < 7):vd (FU x.2 k):=by
 have h:∀x∈ot,∀k∈List.range 7,(PyData.str (FU x.2 k)).canLay0=true/\(FU x.2 k).length<=1000:=by decide+kernel
 obtain⟨a,b⟩:=h x hx k (List.mem_range.mpr hk);exact⟨dH.str a,b⟩
theorem LF{k:Nat}(hk:k < 4):vd (kN k):=by
 have h:∀k∈List.range 4,(PyData.str (kN k)).canLay0=true/\(kN k).length<=1000:=by decide+kernel
 obtain⟨a,b⟩:=h k (List.mem_range.mpr hk);exact⟨dH.str a,b⟩
section
variable {ins ak ins2 eQ:Wr} {gs gs1 gs2 kL nP:List Gt} {os os1 bB cj:Ws} {pairs:List (Nat × Nat)} {S:aZ}
theorem su{x:Str × List Nat}(hx:x∈ot)(A:Any (FU x.2) ins gs os):(∀y∈ins,vd y.1)/\∀y∈os,vd y.1:=by
 have a1:=A.i3;have b1:=A.o3;obtain⟨f,hf,ef⟩:=A.nO;have hf4:f<=4:=by rcases hf with h | h <;> omega
 refine⟨fun y hy=>?_,fun y hy=>?_⟩
 .have h:y.1∈ins.map (·.1):=List.mem_map_of_mem hy
  rw[A.nI] at h;obtain⟨k,hk,e⟩:=List.mem_map.mp h;rw[<-e];exact Gv hx (by have:=List.mem_range.mp hk;omega)
 .have h:y.1∈os.map (·.1):=List.mem_map_of_mem hy
  rw[ef] at h;obtain⟨k,hk,e⟩:=List.mem_map.mp h;rw[<-e];exact Gv hx (by have:=List.mem_range.mp hk;omega)
structure Mj (ak ins2:Wr) (gs1 gs2:List Gt) (os1 bB:Ws):Prop where
 N1:kr ak gs1 os1
 N2:kr ins2 gs2 bB
 i1:∀y∈ak,vd y.1
 i2:∀y∈ins2,vd y.1
 o1:∀y∈os1,vd y.1
 o2:∀y∈bB,vd y.1
 li1:ak.length<=20
 li2:ins2.length<=20
 lo1:os1.length<=20
 lo2:bB.length<=20
theorem two{x y:Str × List Nat}(hx:x∈ot)(hy:y∈ot)(A1:Any (FU x.2) ak gs1 os1)(A2:Any (FU y.2) ins2 gs2 bB)(G:Gr ak os1 ins2 bB eQ kL cj nP):Mj eQ ins2 kL nP cj bB:=by
 obtain⟨a1,a2⟩:=su hx A1;obtain⟨b1,b2⟩:=su hy A2;have c1:=A1.i3;have c2:=A2.i3;have c3:=A1.o3;have c4:=A2.o3;obtain⟨m,hm,em⟩:=G.nI;obtain⟨n,hn,en⟩:=G.nO;have lm:=congrArg List.length em;have ln:=congrArg List.length en;rw[List.length_append,List.length_map,List.length_map,List.length_map,List.length_range] at lm ln;refine⟨G.N1,G.N2,fun y hy=>?_,b1,fun y hy=>?_,b2,by omega,by omega,by omega,by omega⟩
 .have h:y.1∈eQ.map (·.1):=List.mem_map_of_mem hy
  rw[em] at h;rcases List.mem_append.mp h with z | z
  .obtain⟨u,hu,e⟩:=List.mem_map.mp z;rw[<-e];exact a1 u hu
  .obtain⟨k,hk,e⟩:=List.mem_map.mp z;rw[<-e];exact LF (by have:=List.mem_range.mp hk;omega)
 .have h:y.1∈cj.map (·.1):=List.mem_map_of_mem hy
  rw[en] at h;rcases List.mem_append.mp h with z | z
  .obtain⟨u,hu,e⟩:=List.mem_map.mp z;rw[<-e];exact a2 u hu
  .obtain⟨k,hk,e⟩:=List.mem_map.mp z;rw[<-e];exact LF (by have:=List.mem_range.mp hk;omega)
theorem HM(T:Mj ak ins2 gs1 gs2 os1 bB):rA (.lst [aF ak gs1 os1,aF ins2 gs2 bB]) (.lst [aF ak gs1 os1,aF ins2 gs2 bB])= .ok (.bl false):=by
 refine IX (n:=5) (dH.lst fun d hd=>?_) (by omega)
 simp only[List.mem_cons,List.not_mem_nil,or_false] at hd;rcases hd with rfl | rfl
 .exact xQ (fun x hx=>(T.i1 x hx).1) fun x hx=>(T.o1 x hx).1
 .exact xQ (fun x hx=>(T.i2 x hx).1) fun x hx=>(T.o2 x hx).1
def F0:Option Nat->List D
 | none=>[]
 | some c=>(List.range 14).map fun(k:Nat)=>D.bl (decide (DB (some c)=(k:Int)))
theorem vO{c:Nat}(h:zW ak ins2 gs1 gs2 os1 bB pairs (some c)):c=11\/c=4\/c=5:=by
 rcases h with⟨_,e⟩ | ⟨_,h⟩
 .cases e;exact .inl rfl
 rcases h with⟨_,e⟩ | ⟨_,h⟩
 .cases e;exact .inr (.inl rfl)
 rcases h with⟨_,e⟩ | ⟨_,h⟩
 .cases e;exact .inr (.inl rfl)
 rcases h with⟨_,e⟩ | ⟨_,h⟩
 .cases e;exact .inr (.inl rfl)
 rcases h with⟨_,e⟩ | ⟨_,e⟩
 .cases e;exact .inr (.inr rfl)
 .cases e
theorem jm{c k:Nat}{b:Bool}{tb:Nat->Option Bool}{δ:DE}{Q:V3->aZ->Prop}(h4:δ[4]? =some (some (.loc k)))(hS:S[k]? =some (.exc c))(ht:tb c=some b)(q:Q (.d (.bl b)) S):W3 (lK (iF 4) tb δ S) Q:=Kc (w_var h4 ⟨k,c,b,rfl,hS,ht,q⟩)
theorem xy(T:Mj ak ins2 gs1 gs2 os1 bB)(hR:Ff os1 ins2 pairs)(jE:pairs.length < 1000)(hS:Ai S){Q:V3->aZ->Prop}(h:∀c,zW ak ins2 gs1 gs2 os1 bB pairs c->Q (.d (.lst (F0 c))) S) :
 W3 (eS [.d (aF ak gs1 os1), .d (aF ins2 gs2 bB), .d (.lst (pairs.map dA))] S) Q:=by
 have hz:sizeLine=16777216:=sizeLine_eq;unfold eS;refine yi hS (Mp rfl ?_);simp only[dC,fY,List.map,List.length,List.replicate,List.cons_append,List.nil_append,Nat.reduceAdd,Nat.reduceSub];unfold iX;refine bN <| bx (by simp) <| cW (d:= .lst []) rfl ⟨_,rfl,?_⟩
 simp only[List.set];refine bN (W3.mono (Q:=fun o S2=>∃c x0 x1 x2 x4 U,zW ak ins2 gs1 gs2 os1 bB pairs c/\o= .nx [x0,x1,x2,some (.d (.lst (F0 c))),x4]/\S2=S++U) ?_ fun o S2 ⟨c,x0,x1,x2,x4,U,hc,e1,e2⟩=>⟨_,e1,sM <| cW (d:= .lst (F0 c)) rfl ⟨_,rfl,rfl,⟨U,e2⟩,_,rfl,h c hc⟩⟩)
 refine Ll <| ri <| og <| aG <| cW (d:=aF ak gs1 os1) rfl <| aG <| cW (d:=aF ins2 gs2 bB) rfl <| aG <| cW (d:= .lst (pairs.map dA)) rfl <| c6 <| (xA T.N1 T.N2 hR (by have:=T.lo1;omega) (by have:=T.lo2;omega) jE (fun x hx=>(T.i1 x hx).2) (fun x hx=>(T.i2 x hx).2) (fun x hx=>(T.o1 x hx).2) (fun x hx=>(T.o2 x hx).2) hS).mono (fun v S1 ⟨e,hd⟩=>⟨none,_,_,_,_,[],hd,rfl,by rw[e,List.append_nil]⟩) fun c S1 ⟨e,hd⟩=>?_
 obtain rfl:=e.symm;have hl:(S++[SO.exc c])[S.length]? =some (.exc c):=cD _ _;rcases vO hd with rfl | rfl | rfl
 .refine⟨by decide,?_⟩
  show W3 (bK _ _ [none,none,none,none,some (.loc S.length)] _) _;refine bN <| bx (by simp) <| kq <| aG <| jm rfl hl rfl <| aG <| jm rfl hl rfl <| aG <| jm rfl hl rfl <| aG <| jm rfl hl rfl <| c6 ⟨by simp;omega,_,rfl,?_⟩
  refine bN <| bx (by simp) <| Dh <| cW rfl <| kq <| aG <| jm rfl hl rfl <| aG <| jm rfl hl rfl <| aG <| jm rfl hl rfl <| aG <| jm rfl hl rfl <| c6 ⟨by simp;omega,_,_,_,rfl,rfl,kz (by simp;omega),_,rfl,?_⟩
  refine bN <| bx (by simp) <| Dh <| cW rfl <| kq <| aG <| jm rfl hl rfl <| aG <| jm rfl hl rfl <| aG <| jm rfl hl rfl <| aG <| jm rfl hl rfl <| c6 ⟨by simp;omega,_,_,_,rfl,rfl,kz (by simp;omega),_,rfl,?_⟩
  refine bx (by simp) <| Dh <| cW rfl <| kq <| aG <| jm rfl hl rfl <| aG <| xr <| jm rfl hl rfl ⟨_,rfl,c6 ⟨by simp;omega,_,_,_,rfl,rfl,kz (by simp;omega),_,rfl,some 11,none,none,none,none,[.exc 11],hd,rfl,rfl⟩⟩
 .refine⟨by decide,?_⟩
  show W3 (bK _ _ [none,none,none,none,some (.loc S.length)] _) _;refine bN <| bx (by simp) <| kq <| aG <| jm rfl hl rfl <| aG <| jm rfl hl rfl <| aG <| jm rfl hl rfl <| aG <| jm rfl hl rfl <| c6 ⟨by simp;omega,_,rfl,?_⟩
  refine bN <| bx (by simp) <| Dh <| cW rfl <| kq <| aG <| jm rfl hl rfl <| aG <| jm rfl hl rfl <| aG <| jm rfl hl rfl <| aG <| jm rfl hl rfl <| c6 ⟨by simp;omega,_,_,_,rfl,rfl,kz (by simp;omega),_,rfl,?_⟩
  refine bN <| bx (by simp) <| Dh <| cW rfl <| kq <| aG <| jm rfl hl rfl <| aG <| jm rfl hl rfl <| aG <| jm rfl hl rfl <| aG <| jm rfl hl rfl <| c6 ⟨by simp;omega,_,_,_,rfl,rfl,kz (by simp;omega),_,rfl,?_⟩
  refine bx (by simp) <| Dh <| cW rfl <| kq <| aG <| jm rfl hl rfl <| aG <| xr <| jm rfl hl rfl ⟨_,rfl,c6 ⟨by simp;omega,_,_,_,rfl,rfl,kz (by simp;omega),_,rfl,some 4,none,none,none,none,[.exc 4],hd,rfl,rfl⟩⟩
 .refine⟨by decide,?_⟩
  show W3 (bK _ _ [none,none,none,none,some (.loc S.length)] _) _;refine bN <| bx (by simp) <| kq <| aG <| jm rfl hl rfl <| aG <| jm rfl hl rfl <| aG <| jm rfl hl rfl <| aG <| jm rfl hl rfl <| c6 ⟨by simp;omega,_,rfl,?_⟩
  refine bN <| bx (by simp) <| Dh <| cW rfl <| kq <| aG <| jm rfl hl rfl <| aG <| jm rfl hl rfl <| aG <| jm rfl hl rfl <| aG <| jm rfl hl rfl <| c6 ⟨by simp;omega,_,_,_,rfl,rfl,kz (by simp;omega),_,rfl,?_⟩
  refine bN <| bx (by simp) <| Dh <| cW rfl <| kq <| aG <| jm rfl hl rfl <| aG <| jm rfl hl rfl <| aG <| jm rfl hl rfl <| aG <| jm rfl hl rfl <| c6 ⟨by simp;omega,_,_,_,rfl,rfl,kz (by simp;omega),_,rfl,?_⟩
  refine bx (by simp) <| Dh <| cW rfl <| kq <| aG <| jm rfl hl rfl <| aG <| xr <| jm rfl hl rfl ⟨_,rfl,c6 ⟨by simp;omega,_,_,_,rfl,rfl,kz (by simp;omega),_,rfl,some 5,none,none,none,none,[.exc 5],hd,rfl,rfl⟩⟩
end
end K35
end
section
namespace K35
open PySem PySem.Spec PyProof.Rows L2 L3 MT JT
abbrev vE(sc:D)(c:Int)(x2 x3 x4 x5 x6 x7 x8 x9 x10:Option V3):DE:=[some (.d sc),some (.d (.int c)),x2,x3,x4,x5,x6,x7,x8,x9,x10]
theorem Hq(c:Option Nat):rA (.lst (F0 c)) (.lst (F0 c))= .ok (.bl false):=by
 refine IX (n:=1) (dH.lst fun d hd=>?_) (by omega)
 cases c with
 | none=>cases hd
 | some c=>
   obtain⟨k,_,rfl⟩:=List.mem_map.mp hd;exact dH.bl _
theorem Fb{δ:au}{c:Option Nat}(h8:ag 8 δ= .ok (.int (DB c)))(hk:pR [(Str.ofString "k")] [8] δ=[.un, .val (.int (DB c))])(hc:c=none\/c=some 11\/c=some 4\/c=some 5) :
 eNew (b7 (cx (e2 br (eNew (cZ (af (eC (.int 14)) (af (eC (.int 0)) aA)))) (aw ng (af (e2 Ge (ag 8) (eC (.int 0))) aA)))) (aM 0) fJ (e2 rV (ag 1) (ag 0)) [(Str.ofString "k")] [8]) δ= .ok (.lst (F0 c)):=by
 have hz:sizeLine=16777216:=sizeLine_eq;have hl:eNew (cZ (af (eC (.int 14)) (af (eC (.int 0)) aA))) δ= .ok (.lst [.int 14, .int 0]):=bA (iH rfl (by simp;omega))
 suffices hs:∃n:Nat,n<=14/\e2 br (eNew (cZ (af (eC (.int 14)) (af (eC (.int 0)) aA)))) (aw ng (af (e2 Ge (ag 8) (eC (.int 0))) aA)) δ= .ok (nI n)/\(List.range n).map (fun(k:Nat)=>D.bl (decide (DB c=(k:Int))))=F0 c by
  obtain⟨n,hn,he,hf⟩:=hs;refine bA (bY (jD (n:=n) he (by omega)) (by rw[List.length_map,List.length_range];omega) ?_)
  rw[hk,<-hf];exact NT.bu nI _ fun k _=>⟨[.val (nI k), .val (.int (DB c))],rfl,rfl,av (a:= .int (DB c)) (b:=nI k) rfl rfl (by
   show R.ok (D.bl (DB c==(k:Int)))=_;congr 2)⟩
 rcases hc with rfl | rfl | rfl | rfl
 .exact⟨0,by omega,av (a:= .lst [.int 14, .int 0]) (b:=nI 1) hl (aq (ds:=[.bl true]) (ao (av (a:= .int (-1)) (b:= .int 0) h8 rfl rfl) rfl) rfl) rfl,rfl⟩
 .exact⟨14,by omega,av (a:= .lst [.int 14, .int 0]) (b:=nI 0) hl (aq (ds:=[.bl false]) (ao (av (a:= .int 10) (b:= .int 0) h8 rfl rfl) rfl) rfl) rfl,rfl⟩
 .exact⟨14,by omega,av (a:= .lst [.int 14, .int 0]) (b:=nI 0) hl (aq (ds:=[.bl false]) (ao (av (a:= .int 3) (b:= .int 0) h8 rfl rfl) rfl) rfl) rfl,rfl⟩
 .exact⟨14,by omega,av (a:= .lst [.int 14, .int 0]) (b:=nI 0) hl (aq (ds:=[.bl false]) (ao (av (a:= .int 4) (b:= .int 0) h8 rfl rfl) rfl) rfl) rfl,rfl⟩
theorem xY{p q:au->R Bool}{δ:au}{a b:Bool}(h:p δ= .ok a)(h2:q δ= .ok b):vp p q δ= .ok (a && b):=by
 unfold vp;rw[h,R.aK];cases a with
 | false=>rfl
 | true=>rw [if_pos rfl,h2];rfl
theorem xR(l:List (Nat × Nat)):rA (.lst (l.map dA)) (.lst [])= .ok (.bl (!l.isEmpty)):=by
 have f1:dH 2 (.lst (l.map dA)):=dH.lst fun d hd=>by
  obtain⟨q,_,rfl⟩:=List.mem_map.mp hd;refine dH.tup fun d hd=>?_
  simp only[List.mem_cons,List.not_mem_nil,or_false] at hd;rcases hd with rfl | rfl
  .exact dH.int _
  .exact dH.int _
 have f2:dH 1 (.lst []):=dH.lst fun d hd=>by cases hd
 show(Gp (.lst _) (.lst [])).bind _=_;rw[xa,f1.pl,f2.pl,f1.sh (by omega),f2.sh (by omega)]
 cases l <;> rfl
theorem KG{p q:au->R Bool}{δ:au}(h:p δ= .ok false)(h2:q δ= .ok false):uL p q δ= .ok false:=by
 unfold uL;rw[h,R.aK,if_neg (by decide)];exact h2
section
variable {sc:D} {c:Int} {ak ins2:Wr} {gs1 gs2:List Gt} {os1 bB:Ws} {pairs:List (Nat × Nat)} {S:aZ} {x3 x6 x7 x8 x9 x10:Option V3}
theorem F1{δ:au}(h2:ag 2 δ= .ok (aF ak gs1 os1))(h3:ag 4 δ= .ok (aF ins2 gs2 bB)):eNew (cZ (af (ag 2) (af (ag 4) aA))) δ= .ok (.lst [aF ak gs1 os1,aF ins2 gs2 bB]):=by
 have hz:sizeLine=16777216:=sizeLine_eq;exact bA (iH (ao h2 (ao h3 rfl)) (by simp;omega))
theorem EU(T:Mj ak ins2 gs1 gs2 os1 bB)(hR:Ff os1 ins2 pairs)(hp:pairs.length<=4)(hS:Ai S) :
 W3 ((bK (cf 8 (xP (aw jw (af (ag 2) (af (ag 4) (af (ag 5) aA)))))) (bK (cf 9 (jx (iP (cn (eNew (cZ (af (ag 2) (af (ag 4) aA)))))) (pd 0) xn (xP (dz (af (aw mC (af (e2 br (ag 0) (eC (.int 0))) aA)) (af (aw mC (af (e2 br (ag 0) (eC (.int 1))) aA)) (af (aw mC (af (e2 br (ag 0) (eC (.int 2))) aA)) aA))))) [(Str.ofString "net")] [])) (bK (cf 10 (xP (aw mC (af (ag 5) aA)))) (bK (uB (ME rA (h_ eS (bp (xP (e2 br (ag 9) (eC (.int 0)))) (bp (xP (e2 br (ag 9) (eC (.int 1)))) (bp (xP (ag 10)) fK)))) (xP (eNew (b7 (cx (e2 br (eNew (cZ (af (eC (.int 14)) (af (eC (.int 0)) aA)))) (aw ng (af (e2 Ge (ag 8) (eC (.int 0))) aA)))) (aM 0) fJ (e2 rV (ag 1) (ag 0)) [(Str.ofString "k")] [8])))) (oV (xP (eC (.bl false)))) lB) (uB (bP (uL (b2 rA (ag 10) (ag 5)) (b2 rA (ag 9) (eNew (cZ (af (ag 2) (af (ag 4) aA))))))) (oV (xP (eC (.bl false)))) lB))))) (vE sc c (some (.d (aF ak gs1 os1))) x3 (some (.d (aF ins2 gs2 bB))) (some (.d (.lst (pairs.map dA)))) x6 x7 x8 x9 x10) S) fun o S2=>(∃y2 y3 y4 y5 y6 y7 y8 y9 CT,o= .nx (vE sc c y2 y3 y4 y5 y6 y7 y8 y9 CT))/\S2=S:=by
 have hz:sizeLine=16777216:=sizeLine_eq;obtain⟨dc,hdc,ed⟩:=Io (gs1:=gs1) (gs2:=gs2) hR T.li1 T.li2 T.lo1 T.lo2 T.N1.hg T.N2.hg hp;refine bN <| bx (by simp) <| cW (d:= .int (DB dc)) (aq (ds:=[aF ak gs1 os1,aF ins2 gs2 bB, .lst (pairs.map dA)]) rfl ed) ⟨_,rfl,?_⟩
 simp only[List.set];refine bN <| bx (by simp) <| iO (fun j ds S2=>S2=S/\ds=[aF ak gs1 os1,aF ins2 gs2 bB].take j) <| mU (ds:=[aF ak gs1 os1,aF ins2 gs2 bB]) (jK (F1 rfl rfl)) ⟨by simp;omega,⟨rfl,rfl⟩,?_,?_⟩
 .rintro j v ds S2 hv ⟨rfl,rfl⟩
  match j,hv with
  | 0,hv=>
    cases hv;refine⟨[some (.d (aF ak gs1 os1))],rfl,uD ?_⟩;rw[if_pos rfl];exact cW (d:=aF ak gs1 os1) (bG rfl (by simp;omega)) ⟨_,rfl,rfl,rfl⟩
  | 1,hv=>
    cases hv;refine⟨[some (.d (aF ins2 gs2 bB))],rfl,uD ?_⟩;rw[if_pos rfl];exact cW (d:=aF ins2 gs2 bB) (bG rfl (by simp;omega)) ⟨_,rfl,rfl,rfl⟩
 rintro ds S2 ⟨e2,e3⟩;have e3:ds=[aF ak gs1 os1,aF ins2 gs2 bB]:=e3;obtain rfl:=e2.symm;subst e3;refine⟨_,rfl,?_⟩;simp only[List.set];refine bN <| bx (by simp) <| cW (d:= .lst (pairs.map dA)) (aq (ds:=[.lst (pairs.map dA)]) rfl rfl) ⟨_,rfl,?_⟩
 simp only[List.set];refine bN <| xi <| NV <| tY <| aG <| cW (d:=aF ak gs1 os1) (av (a:= .lst [aF ak gs1 os1,aF ins2 gs2 bB]) (b:= .int 0) rfl rfl rfl) <| aG <| cW (d:=aF ins2 gs2 bB) (av (a:= .lst [aF ak gs1 os1,aF ins2 gs2 bB]) (b:= .int 1) rfl rfl rfl) <| aG <| cW (d:= .lst (pairs.map dA)) rfl <| c6 <| xy T hR (by omega) hS fun c' yY=>?_
 obtain rfl:=EV hdc yY;have hcs:dc=none\/dc=some 11\/dc=some 4\/dc=some 5:=by
  cases dc with
  | none=>exact .inl rfl
  | some k=>rcases vO hdc with rfl | rfl | rfl <;> simp
 refine cW (d:= .lst (F0 dc)) (Fb rfl rfl hcs) ⟨_,_,false,rfl,rfl,Hq dc,?_⟩;rw[if_neg (by decide)]
 refine mP ⟨_,rfl,?_⟩;refine xi <| pf (b:=false) (KG (cA (a:= .lst (pairs.map dA)) (b:= .lst (pairs.map dA)) rfl rfl (I0 pairs)) (cA (a:= .lst [aF ak gs1 os1,aF ins2 gs2 bB]) (b:= .lst [aF ak gs1 os1,aF ins2 gs2 bB]) rfl (F1 rfl rfl) (HM T))) ?_
 rw[if_neg (by decide)]
 exact mP ⟨⟨_,_,_,_,_,_,_,_,_,rfl⟩,rfl⟩
theorem wX{f:FD}{δ:au}{r:Nat}(h:f δ= .ok (nI r))(hr:r < 4):∃x∈ot,e2 br (eNew (cZ (af (eC (.str (Str.ofString "nopqrst"))) (af (eC (.str (Str.ofString "nbpqrst"))) (af (eC (.str (Str.ofString "nopqrse"))) (af (eC (.str (Str.ofString "abcdefg"))) aA)))))) f δ= .ok (.str x.1):=by
 have hz:sizeLine=16777216:=sizeLine_eq;have hl:eNew (cZ (af (eC (.str (Str.ofString "nopqrst"))) (af (eC (.str (Str.ofString "nbpqrst"))) (af (eC (.str (Str.ofString "nopqrse"))) (af (eC (.str (Str.ofString "abcdefg"))) aA))))) δ= .ok (.lst (ot.map fun x=>D.str x.1)):=bA (iH rfl (by rw[List.length_map];show 4<=sizeLine;omega))
 have hal:r < ot.length:=hr;refine⟨ot[r],List.getElem_mem hal,av (b:=nI r) hl h (NT.cM ?_)⟩;rw[List.getElem?_map,List.getElem?_eq_getElem hal];rfl
theorem BE{x2 x4 x5:Option V3}(f0:Flat S) :
 W3 (ue (vE sc c x2 x3 x4 x5 x6 x7 x8 x9 x10) S) fun o S2=>(∃y2 y3 y4 y5 y6 y7 y8 y9 CT,o= .nx (vE sc c y2 y3 y4 y5 y6 y7 y8 y9 CT))/\S2=S:=by
 have hz:sizeLine=16777216:=sizeLine_eq;have hA:(Str.ofString "abcdefg",[97,98,99,100,101,102,103])∈ot:=by unfold ot;simp
 unfold ue;refine bN <| bx (by simp) <| tY <| aG <| cW (d:= .int c) rfl <| aG <| cW (d:=nI 0) rfl <| aG <| cW (d:= .str (Str.ofString "abcdefg")) rfl <| aG <| cW (d:=De) rfl <| c6 <| BX (yN _ hA) f0 fun ak gs1 os1 A1=>⟨_,rfl,?_⟩
 simp only[List.set];obtain⟨y,hy,ey⟩:=wX (f:=e2 du (aw aJ (af (ag 1) (af (eC (.int 92)) aA))) (eC (.int 4))) (δ:=down (vE sc c (some (.d (aF ak gs1 os1))) x3 x4 x5 x6 x7 x8 x9 x10)) (r:=stN c 92 % 4) (av (a:=nI (stN c 92)) (b:=nI 4) (aq (ds:=[.int c,nI 92]) rfl (eX c 92)) rfl (et (by omega))) (Nat.mod_lt _ (by omega))
 refine bN <| bx (by simp) <| cW (d:= .str y.1) ey ⟨_,rfl,?_⟩
 simp only[List.set];refine bN <| bx (by simp) <| tY <| aG <| cW (d:= .int c) rfl <| aG <| cW (d:=nI 150) rfl <| aG <| cW (d:= .str y.1) rfl <| aG <| cW (d:=De) rfl <| c6 <| BX (yN _ hy) f0 fun ins2 gs2 bB A2=>⟨_,rfl,?_⟩
 simp only[List.set];refine bN <| bx (by simp) <| tY <| aG <| cW (d:= .int c) rfl <| aG <| cW (d:=aF ak gs1 os1) rfl <| aG <| cW (d:=aF ins2 gs2 bB) rfl <| c6 <| BC A1.N A2.N f0 fun pairs P=>⟨_,rfl,?_⟩
 simp only[List.set];obtain⟨eQ,kL,cj,nP,G,eg⟩:=CI A1 A2 c;have T:=two hA hy A1 A2 G;have Pw:pairs.length<=3:=Nat.le_trans P.l A2.i3;have hR:Ff cj ins2 pairs:=fun q hq=>by
  obtain⟨x,z,h1,h2,_⟩:=P.F q hq;obtain⟨x',h4,_⟩:=G.oL _ _ h1;exact⟨(List.getElem?_eq_some_iff.mp h4).1,(List.getElem?_eq_some_iff.mp h2).1⟩
 have OI:1<=cj.length:=by
  obtain⟨n,_,en⟩:=G.nO;have:=congrArg List.length en;have h1:=A1.o1;rw[List.length_append,List.length_map,List.length_map] at this;omega
 have MK:=A2.i1;have lo1:=T.lo1;have li2:=T.li2;refine bN <| KO <| cW (d:= .tup [aF eQ kL cj,aF ins2 nP bB]) (aq (ds:=[.int c,aF ak gs1 os1,aF ins2 gs2 bB]) rfl eg) ⟨_,rfl,_,rfl,?_⟩
 obtain⟨way,hway⟩:∃way,stN c 93 % 5=way:=⟨_,rfl⟩;refine bN <| bx (by simp) <| cW (d:=nI way) ((av (a:=nI (stN c 93)) (b:=nI 5) (aq (ds:=[.int c,nI 93]) rfl (eX c 93)) rfl (et (by omega))).trans (by rw[hway])) ⟨_,rfl,?_⟩
 show W3 (bK _ _ (vE sc c (some (.d (aF eQ kL cj))) (some (.d (.str y.1))) (some (.d (aF ins2 nP bB))) (some (.d (.lst (pairs.map dA)))) (some (.d (nI way))) x7 x8 x9 x10) S) _;have hwz:∀(k:Nat) (p:Option V3) (x7:Option V3),b2 rV (ag 6) (eC (nI k)) (down (vE sc c (some (.d (aF eQ kL cj))) (some (.d (.str y.1))) (some (.d (aF ins2 nP bB))) p (some (.d (nI way))) x7 x8 x9 x10))= .ok (decide (way=k)):=fun k p x7=>cA (a:=nI way) (b:=nI k) rfl rfl (wQ _ _)
 refine bN (W3.mono (Q:=fun o S2=>S2=S/\∃prs,Ff cj ins2 prs/\(prs.length<=3\/way=0/\prs.length<=4)/\o= .nx (vE sc c (some (.d (aF eQ kL cj))) (some (.d (.str y.1))) (some (.d (aF ins2 nP bB))) (some (.d (.lst (prs.map dA)))) (some (.d (nI way))) x7 x8 x9 x10)) ?_ fun o S2 ⟨e1,prs,Pk,Gy,eo⟩=>⟨_,eo,?_⟩)
 .refine xi <| pf (b:=decide (way=0)) (hwz 0 _ _) ?_
  by_cases hw:way=0
  .rw [decide_eq_true hw,if_pos rfl];refine bx (by simp) <| cW (d:= .lst ((pairs++[(stN c 94 % cj.length,stN c 95 % ins2.length)]).map dA)) (av (a:= .lst (pairs.map dA)) (b:= .lst [dA (stN c 94 % cj.length,stN c 95 % ins2.length)]) rfl (bA (iH (ao (bG (ds:=[nI (stN c 94 % cj.length),nI (stN c 95 % ins2.length)]) (ao (av (a:=nI (stN c 94)) (b:=nI cj.length) (aq (ds:=[.int c,nI 94]) rfl (eX c 94)) (aq (ds:=[.lst (cj.map fZ)]) rfl (by rw[cq,List.length_map])) (et (by omega))) (ao (av (a:=nI (stN c 95)) (b:=nI ins2.length) (aq (ds:=[.int c,nI 95]) rfl (eX c 95)) (aq (ds:=[.lst (ins2.map MT.inD)]) rfl (by rw[cq,List.length_map])) (et (by omega))) rfl)) (by simp;omega)) rfl) (by simp;omega))) ((kz (by rw[List.length_map];simp;omega)).trans (by rw[List.map_append];rfl))) ⟨rfl,pairs++[(stN c 94 % cj.length,stN c 95 % ins2.length)],?_, .inr ⟨hw,by rw[List.length_append,List.length_singleton];omega⟩,?_⟩
   .intro q hq;rcases List.mem_append.mp hq with z | z
    .exact hR q z
    .rw [List.mem_singleton.mp z];exact⟨Nat.mod_lt _ (by omega),Nat.mod_lt _ (by omega)⟩
   .simp only[List.set]
  .rw [decide_eq_false hw,if_neg (by decide)]
   exact mP ⟨rfl,pairs,hR, .inl Pw,rfl⟩
 obtain rfl:=e1.symm;refine bN (W3.mono (Q:=fun o S3=>S3=S/\∃prs,Ff cj ins2 prs/\(prs.length<=3\/way<=1/\prs.length<=4)/\o= .nx (vE sc c (some (.d (aF eQ kL cj))) (some (.d (.str y.1))) (some (.d (aF ins2 nP bB))) (some (.d (.lst (prs.map dA)))) (some (.d (nI way))) x7 x8 x9 x10)) ?_ fun o S3 ⟨e1,kJ,O6,Ad,eo⟩=>⟨_,eo,?_⟩)
 .refine xi <| pf (b:=decide (way=1) && !prs.isEmpty) (xY (hwz 1 _ _) (cA (a:= .lst (prs.map dA)) (b:= .lst []) rfl rfl (xR prs))) ?_
  by_cases hw:way=1/\0 < prs.length
  .obtain⟨Jz,FK⟩:=hw;have y0:(!prs.isEmpty)=true:=by cases prs with | nil=>simp at FK | cons a b=>rfl
   rw[decide_eq_true Jz,y0,Bool.and_self,if_pos rfl];have hm:stN c 94 % prs.length < prs.length:=Nat.mod_lt _ FK;obtain⟨q0,JZ⟩:∃q0,prs[stN c 94 % prs.length]? =some q0:=⟨_,List.getElem?_eq_getElem hm⟩;refine bx (by simp) <| cW (d:= .lst ((prs++[q0]).map dA)) (av (a:= .lst (prs.map dA)) (b:= .lst [dA q0]) rfl (bA (iH (ao (av (a:= .lst (prs.map dA)) (b:=nI (stN c 94 % prs.length)) rfl (av (a:=nI (stN c 94)) (b:=nI prs.length) (aq (ds:=[.int c,nI 94]) rfl (eX c 94)) (aq (ds:=[.lst (prs.map dA)]) rfl (by rw[cq,List.length_map])) (et (by omega))) (NT.cM (by rw[List.getElem?_map,JZ];rfl))) rfl) (by simp;omega))) ((kz (by rw[List.length_map];simp;omega)).trans (by rw[List.map_append];rfl))) ⟨rfl,prs++[q0],?_, .inr ⟨by omega,by rw[List.length_append,List.length_singleton];omega⟩,?_⟩
   .intro q hq;rcases List.mem_append.mp hq with z | z
    .exact Pk q z
    .rw [List.mem_singleton.mp z];exact Pk q0 (List.mem_of_getElem? JZ)
   .simp only[List.set]
  .have hb:(decide (way=1) && !prs.isEmpty)=false:=by
    rw[Bool.and_eq_false_iff,decide_eq_false_iff_not];by_cases h1:way=1
    .right;cases prs with
     | nil=>rfl
     | cons a b=>exact absurd ⟨h1,by simp⟩ hw
    .exact .inl h1
   rw[hb,if_neg (by decide)]
   exact mP ⟨rfl,prs,Pk,by omega,rfl⟩
 obtain rfl:=e1.symm;refine bN (W3.mono (Q:=fun o S4=>S4=S/\∃prs z7,Ff cj ins2 prs/\prs.length<=4/\o= .nx (vE sc c (some (.d (aF eQ kL cj))) (some (.d (.str y.1))) (some (.d (aF ins2 nP bB))) (some (.d (.lst (prs.map dA)))) (some (.d (nI way))) z7 x8 x9 x10)) ?_ fun o S4 ⟨e1,Vd,z7,UU,Pd,eo⟩=>⟨_,eo,?_⟩)
 .refine xi <| pf (b:=decide (way=2) && !kJ.isEmpty) (xY (hwz 2 _ _) (cA (a:= .lst (kJ.map dA)) (b:= .lst []) rfl rfl (xR kJ))) ?_
  by_cases hw:way=2/\0 < kJ.length
  .obtain⟨Jz,FK⟩:=hw;have y0:(!kJ.isEmpty)=true:=by cases kJ with | nil=>simp at FK | cons a b=>rfl
   rw[decide_eq_true Jz,y0,Bool.and_self,if_pos rfl];obtain⟨q0,JZ⟩:∃q0,kJ[0]? =some q0:=⟨_,List.getElem?_eq_getElem FK⟩;obtain⟨r1,r2⟩:=O6 q0 (List.mem_of_getElem? JZ)
   let p:Nat->Bool:=fun k=>decide ((cj.getD k (Str.empty,[])).2.length=(cj.getD q0.1 (Str.empty,[])).2.length)
   have xJ:∀k,k < cj.length->cj[k]? =some (cj.getD k (Str.empty,[])):=fun k hk=>by rw[List.getD_eq_getElem?_getD,List.getElem?_eq_getElem hk];rfl
   refine bN <| bx (by simp) <| iO (fun j ds S5=>S5=S/\ds=((List.range j).filter p).map nI) <| mU (jD (n:=cj.length) (aq (ds:=[.lst (cj.map fZ)]) rfl (by rw[cq,List.length_map])) (by omega)) ⟨by rw[List.length_map,List.length_map,List.length_range];omega,⟨rfl,rfl⟩,?_,?_⟩
   .rintro j v ds S5 hv ⟨rfl,rfl⟩;obtain⟨j',Dn,rfl⟩:=NT.eT hv;obtain⟨hjl,ej⟩:=List.getElem?_eq_some_iff.mp Dn;rw[List.getElem_range] at ej;subst ej;rw[List.length_range] at hjl;have lk:∀(k:Nat) (f:FD),k < cj.length->f (down [some (.d (nI j)),some (.d (aF eQ kL cj)),some (.d (.lst (kJ.map dA)))])= .ok (nI k)->aw bV (af (e2 br (e2 br (e2 br (ag 1) (eC (.int 2))) f) (eC (.int 1))) aA) (down [some (.d (nI j)),some (.d (aF eQ kL cj)),some (.d (.lst (kJ.map dA)))])= .ok (nI (cj.getD k (Str.empty,[])).2.length):=fun k f hk hf=>aq (ds:=[.tup ((cj.getD k (Str.empty,[])).2.map nI)]) (ao (av (a:=fZ (cj.getD k (Str.empty,[]))) (b:= .int 1) (av (a:= .lst (cj.map fZ)) (b:=nI k) (av (a:=aF eQ kL cj) (b:= .int 2) rfl rfl rfl) hf (NT.cM (by rw[List.getElem?_map,xJ k hk];rfl))) rfl rfl) rfl) (by rw[B7,List.length_map])
    refine⟨[some (.d (nI j)),some (.d (aF eQ kL cj)),some (.d (.lst (kJ.map dA)))],rfl,pf (b:=p j) (cA (a:=nI (cj.getD j (Str.empty,[])).2.length) (b:=nI (cj.getD q0.1 (Str.empty,[])).2.length) (lk j (ag 0) hjl rfl) (lk q0.1 _ r1 (av (a:=dA q0) (b:= .int 0) (av (a:= .lst (kJ.map dA)) (b:= .int (0:Nat)) rfl rfl (NT.cM (by rw[List.getElem?_map,JZ];rfl))) rfl rfl)) (wQ _ _)) ?_⟩
    rw[List.range_succ,List.filter_append,List.map_append];cases hp:p j with
    | true=>
      rw[if_pos rfl];exact cW (d:=nI j) rfl ⟨_,rfl,rfl,by rw[List.filter_cons,if_pos hp];rfl⟩
    | false=>
      rw[if_neg (by decide)]
      exact⟨rfl,by rw[List.filter_cons,if_neg (by rw[hp];decide)];simp⟩
   rintro ds S5 ⟨e5,e6⟩;rw[List.length_map,List.length_map,List.length_range] at e6;subst e6;obtain rfl:=e5.symm;refine⟨_,rfl,?_⟩;simp only[List.set];have hF:∀o∈(List.range cj.length).filter p,o < cj.length:=fun o ho=>List.mem_range.mp (List.mem_filter.mp ho).1
   have hn0:0 < ((List.range cj.length).filter p).length:=List.length_pos_of_mem (List.mem_filter.mpr ⟨List.mem_range.mpr r1,decide_eq_true rfl⟩);have hFl:((List.range cj.length).filter p).length<=cj.length:=by have:=List.length_filter_le p (List.range cj.length);rwa [List.length_range] at this
   generalize (List.range cj.length).filter p=Ft at hF hn0 hFl;have hm:stN c 94 % Ft.length < Ft.length:=Nat.mod_lt _ hn0;obtain⟨o,ho⟩:∃o,Ft[stN c 94 % Ft.length]? =some o:=⟨_,List.getElem?_eq_getElem hm⟩;refine bx (by simp) <| cW (d:= .lst (((o,q0.2) ::kJ).map dA)) (av (a:= .lst [dA (o,q0.2)]) (b:= .lst (kJ.map dA)) (bA (iH (ao (bG (ds:=[nI o,nI q0.2]) (ao (av (a:= .lst (Ft.map nI)) (b:=nI (stN c 94 % Ft.length)) rfl (av (a:=nI (stN c 94)) (b:=nI Ft.length) (aq (ds:=[.int c,nI 94]) rfl (eX c 94)) (aq (ds:=[.lst (Ft.map nI)]) rfl (by rw[cq,List.length_map])) (et (by omega))) (LG ho)) (ao (av (a:=dA q0) (b:= .int 1) (av (a:= .lst (kJ.map dA)) (b:= .int (0:Nat)) rfl rfl (NT.cM (by rw[List.getElem?_map,JZ];rfl))) rfl rfl) rfl)) (by simp;omega)) rfl) (by simp;omega))) rfl ((kz (by rw[List.length_map];simp;omega)).trans rfl)) ⟨rfl,(o,q0.2) ::kJ,some (.d (.lst (Ft.map nI))),?_,by rw[List.length_cons];omega,?_⟩
   .intro q hq;rcases List.mem_cons.mp hq with z | z
    .rw [z];exact⟨hF o (List.mem_of_getElem? ho),r2⟩
    .exact O6 q z
   .simp only[List.set]
  .have hb:(decide (way=2) && !kJ.isEmpty)=false:=by
    rw[Bool.and_eq_false_iff,decide_eq_false_iff_not];by_cases h1:way=2
    .right;cases kJ with
     | nil=>rfl
     | cons a b=>exact absurd ⟨h1,by simp⟩ hw
    .exact .inl h1
   rw[hb,if_neg (by decide)]
   exact mP ⟨rfl,kJ,_,O6,by omega,rfl⟩
 obtain rfl:=e1.symm;exact EU T UU Pd f0.clo
end
end K35
end
section
namespace K35
open PySem PySem.Spec PyProof.Rows L2 L3 MT JT
theorem GO(ns:List Int):JI (.lst (ns.map .int)) none (some 12)= .ok (.lst ((ns.take 12).map .int)):=by
 show R.ok (D.lst (L2.cutD (ns.map .int) none (some ((12:Nat):Int))))=_;unfold L2.cutD;rw[List.length_map,HT.EA,HT.A6,List.map_take];congr 2;show(ns.map D.int).take (min 12 ns.length - 0)=(ns.map D.int).take 12;by_cases h:12<=ns.length
 .rw [Nat.min_eq_left h]
 .rw [Nat.min_eq_right (by omega),List.take_of_length_le (by rw[List.length_map];omega),List.take_of_length_le (by rw[List.length_map];omega)]
theorem BO(ns:List Int)(hn:ns.length<=63):ym [.lst (ns.map D.int)]= .ok (.bl true):=by
 have hz:sizeLine=16777216:=sizeLine_eq;have f0:Flat ([]:aZ):=Flat.nil;have key:W3 (wj oQ qy [.d (.lst (ns.map .int))] []) fun v S1=>v= .d (.bl true)/\S1=[]:=by
  refine yi f0.clo (Mp rfl ?_);simp only[dC,oQ,List.map,List.length,List.replicate,List.cons_append,List.nil_append,Nat.reduceAdd,Nat.reduceSub];unfold qy;have ht:(ns.take 12).length<=12:=by rw[List.length_take];omega
  refine bN <| yU <| mU (ds:=((0:Int) ::ns.take 12).map D.int) (jK (av (a:= .lst [.int 0]) (b:= .lst ((ns.take 12).map .int)) rfl (Cg (d:= .lst (ns.map .int)) (lo:=none) (hi:=some 12) rfl rfl (vj rfl) (GO ns)) (yQ (by rw[List.length_map];simp;omega)))) ?_
  refine(l6 (fun i δ S2=>(∃x1 y2 y3 y4 y5 y6 y7 y8 y9 CT,δ=[some (.d (.lst (ns.map .int))),x1,y2,y3,y4,y5,y6,y7,y8,y9,CT])/\S2=[])
   ⟨⟨_,_,_,_,_,_,_,_,_,_,rfl⟩,rfl⟩ ?_).mono fun o S2 ⟨dX,uw,⟨x1,y2,y3,y4,y5,y6,y7,y8,y9,CT,hδ⟩,r6⟩=>⟨dX,uw,?_⟩
  .rintro i v δ S2 hv ⟨⟨x1,y2,y3,y4,y5,y6,y7,y8,y9,CT,rfl⟩,rfl⟩;obtain⟨c,hc,rfl⟩:=NT.eT hv;exact⟨_,rfl,(BE f0).mono fun o S3 ⟨⟨z2,z3,z4,z5,z6,z7,z8,z9,Wb,e1⟩,e2⟩=>⟨_,e1,⟨_,_,_,_,_,_,_,_,_,_,rfl⟩,e2⟩⟩
  subst hδ r6;exact sM <| cW (d:= .bl true) rfl ⟨_,rfl,rfl,⟨_,rfl⟩,_,rfl,rfl,trivial⟩
 obtain⟨v,S1,e1,uw,e3⟩:=key;unfold ym My;show(match wj oQ qy ([D.lst (ns.map D.int)].map V3.d) [] with | .ok (.d d) []=>R.aS d.atom (R.ok d) | _=> .no)=_
 rw[show [D.lst (ns.map D.int)].map V3.d=[V3.d (.lst (ns.map .int))] from rfl,e1,uw,e3]
 rfl
end K35
end
open PySem PySem.W PyProof.Rows
set_option maxRecDepth 100000 in
set_option maxHeartbeats 0 in
theorem PySem.Challenge.cw_bearfaults_k35_joins_refused_holds : PySem.Challenge.rw_bearfaults_k35_joins_refused.Holds := by
 w_on;o_law;k_head;(case hw=>w_witness2)
 k_fill
 refine L2.LC (l:=PySem.Challenge.rw_bearfaults_k35_joins_refused) (n:=63) (k:=5) (x:="script") (g:=K35.ym) rfl (by decide) rfl ⟨rfl,by decide,by decide⟩ (fun w h Y=>PySem.W.kIn_of Y) ?F K35.BO
 case F=>
  intro w mg fa h KX G LP
  have j4:L2.Def (L2.g9 KX) mg "check_fits" K35.eU:=by
   dsimp only[L2.g9]
   refine' L2.c9 KX G ?a ?l ?c ?k
   (case a=>k_is);(case l=>k_is);(case c=>k_is);(case k=>k_is)
  have jd:L2.Def (L2.g9 KX) mg "outs_of_ins" K35.ei:=by
   dsimp only[L2.g9]
   refine' L2.c9 KX G ?a ?l ?c ?k
   (case a=>k_is);(case l=>k_is);(case c=>k_is);(case k=>k_is)
  have i8:L2.Def (L2.g9 KX) mg "check_names" K35.eu:=by
   dsimp only[L2.g9]
   refine' L2.c9 KX G ?a ?l ?c ?k
   (case a=>k_is);(case l=>k_is);(case c=>k_is);(case k=>k_is)
  have j0:L2.Def (L2.g9 KX) mg "check_room" K35.fk:=by
   dsimp only[L2.g9]
   refine' L2.c9 KX G ?a ?l ?c ?k
   (case a=>k_is);(case l=>k_is);(case c=>k_is);(case k=>k_is)
  have j7:L2.Def (L2.g9 KX) mg "many_wires" K35.fm:=by
   dsimp only[L2.g9]
   refine' L2.c9 KX G ?a ?l ?c ?k
   (case a=>k_is);(case l=>k_is);(case c=>k_is);(case k=>k_is)
  have oF:L2.Def (L2.g9 KX) mg "rewired" K35.jt:=by
   dsimp only[L2.g9]
   refine' L2.c9 KX G ?a ?l ?c ?k
   (case a=>k_is);(case l=>k_is);(case c=>k_is);(case k=>k_is)
  have gM:L2.Def (L2.g9 KX) mg "rewired_gates" K35.dm:=by
   dsimp only[L2.g9]
   refine' L2.c9 KX G ?a ?l ?c ?k
   (case a=>k_is);(case l=>k_is);(case c=>k_is);(case k=>k_is)
  have ik:L2.Def (L2.g9 KX) mg "rewired_outs" K35.dG:=by
   dsimp only[L2.g9]
   refine' L2.c9 KX G ?a ?l ?c ?k
   (case a=>k_is);(case l=>k_is);(case c=>k_is);(case k=>k_is)
  have i7:L2.Def (L2.g9 KX) mg "one_numbers" K35.eh:=by
   dsimp only[L2.g9]
   refine' L2.c9 KX G ?a ?l ?c ?k
   (case a=>k_is);(case l=>k_is);(case c=>k_is);(case k=>k_is)
  have gO:L2.Def (L2.g9 KX) mg "other_numbers" K35.dg:=by
   dsimp only[L2.g9]
   refine' L2.c9 KX G ?a ?l ?c ?k
   (case a=>k_is);(case l=>k_is);(case c=>k_is);(case k=>k_is)
  have rj:L2.Def (L2.g9 KX) mg "joined" K35.lh:=by
   dsimp only[L2.g9]
   refine' L2.c9 KX G ?a ?l ?c ?k
   (case a=>k_is);(case l=>k_is);(case c=>k_is);(case k=>k_is)
  have mZ:L2.Def (L2.g9 KX) mg "_law_stir" K35.hW:=by
   dsimp only[L2.g9]
   refine' L2.c9 KX G ?a ?l ?c ?k
   (case a=>k_is);(case l=>k_is);(case c=>k_is);(case k=>k_is)
  have jc:L2.Def (L2.g9 KX) mg "_law_any_net" K35.er:=by
   dsimp only[L2.g9]
   refine' L2.c9 KX G ?a ?l ?c ?k
   (case a=>k_is);(case l=>k_is);(case c=>k_is);(case k=>k_is)
  have lT:L2.Def (L2.g9 KX) mg "_law_pairs" K35.gg:=by
   dsimp only[L2.g9]
   refine' L2.c9 KX G ?a ?l ?c ?k
   (case a=>k_is);(case l=>k_is);(case c=>k_is);(case k=>k_is)
  have jg:L2.Def (L2.g9 KX) mg "_law_refused" K35.eD:=by
   dsimp only[L2.g9]
   refine' L2.c9 KX G ?a ?l ?c ?k
   (case a=>k_is);(case l=>k_is);(case c=>k_is);(case k=>k_is)
  have lQ:L2.Def (L2.g9 KX) mg "_law_moved" K35.gp:=by
   dsimp only[L2.g9]
   refine' L2.c9 KX G ?a ?l ?c ?k
   (case a=>k_is);(case l=>k_is);(case c=>k_is);(case k=>k_is)
  have lM:L2.Def (L2.g9 KX) mg "_law_grown" K35.gm:=by
   dsimp only[L2.g9]
   refine' L2.c9 KX G ?a ?l ?c ?k
   (case a=>k_is);(case l=>k_is);(case c=>k_is);(case k=>k_is)
  have oG:L2.Def (L2.g9 KX) mg "_law_due" K35.jr:=by
   dsimp only[L2.g9]
   refine' L2.c9 KX G ?a ?l ?c ?k
   (case a=>k_is);(case l=>k_is);(case c=>k_is);(case k=>k_is)
  have D_law:L2.Def (L2.g9 KX) mg "law" K35.yK:=by
   dsimp only[L2.g9]
   refine' L2.c9 KX G ?a ?l ?c ?k
   (case a=>k_is);(case l=>k_is);(case c=>k_is);(case k=>k_is)
  have xG:L2.Glob (L2.g9 KX) mg "MOST_INS" K35.fL:=by
   dsimp only[L2.g9]
   refine' L2.qd KX G ?a
   (case a=>k_is)
  have uv:L2.Glob (L2.g9 KX) mg "MOST_GATES" K35.dJ:=by
   dsimp only[L2.g9]
   refine' L2.qd KX G ?a
   (case a=>k_is)
  have v_:L2.Glob (L2.g9 KX) mg "MOST_OUTS" K35.eM:=by
   dsimp only[L2.g9]
   refine' L2.qd KX G ?a
   (case a=>k_is)
  obtain⟨cl,CF⟩:∃cl,K35.Cf (L2.g9 KX) mg cl:=by
   dsimp only[L2.g9]
   refine' K35.KN KX G ?O_ ?Pl ?Oz ?OA ?Pa ?OE ?Pn ?Pr ?O9 ?OJ ?Jf ?Jx ?Jy ?Jo ?OQ ?Pf ?Pj ?Pu ?OM ?OY ?O7 ?Pq ?Pt ?ON ?OL ?Pp ?O1 ?OB ?Jm ?Jt ?Je ?Ji ?Ju ?Jj ?Jq ?Mb ?LW ?iz ?i9 ?iu ?rm ?fQ ?gI ?fS ?mX ?gT ?iy ?gH ?oH ?fU ?gU ?fR ?m3 ?fF ?fW ?fD ?lN ?jk ?j5 ?ja ?uq ?gS ?iq ?gP ?oD ?ji ?j6 ?jb ?uy ?fV ?gQ ?fM ?mY ?il ?jh ?iB ?ro ?fA ?fN ?ft ?lP ?fB ?fO ?fu ?lR ?d_ ?eK ?dZ ?je ?fT ?gR ?fP ?mV ?d9 ?eL ?dY
   (case O_=>k_is)
   (case Pl=>k_is)
   (case Oz=>k_is)
   (case OA=>k_is)
   (case Pa=>k_is)
   (case OE=>k_is)
   (case Pn=>k_is)
   (case Pr=>k_is)
   (case O9=>k_is)
   (case OJ=>k_is)
   (case Jf=>k_is)
   (case Jx=>k_is)
   (case Jy=>k_is)
   (case Jo=>k_is)
   (case OQ=>kernel_rfl)
   (case Pf=>k_is)
   (case Pj=>k_is)
   (case Pu=>k_is)
   (case OM=>k_is)
   (case OY=>k_is)
   (case O7=>kernel_rfl)
   (case Pq=>kernel_rfl)
   (case Pt=>k_is)
   (case ON=>k_is)
   (case OL=>k_is)
   (case Pp=>k_is)
   (case O1=>k_is)
   (case OB=>kernel_rfl)
   (case Jm=>kernel_rfl)
   (case Jt=>k_is)
   (case Je=>k_is)
   (case Ji=>k_is)
   (case Ju=>k_is)
   (case Jj=>k_is)
   (case Jq=>kernel_rfl)
   (case Mb=>k_is)
   (case LW=>k_is)
   (case iz=>first | kit_is | kernel_rfl)
   (case i9=>first | kit_is | kernel_rfl)
   (case iu=>first | kit_is | kernel_rfl)
   (case rm=>first | kit_is | kernel_rfl)
   (case fQ=>first | kit_is | kernel_rfl)
   (case gI=>first | kit_is | kernel_rfl)
   (case fS=>first | kit_is | kernel_rfl)
   (case mX=>first | kit_is | kernel_rfl)
   (case gT=>first | kit_is | kernel_rfl)
   (case iy=>first | kit_is | kernel_rfl)
   (case gH=>first | kit_is | kernel_rfl)
   (case oH=>first | kit_is | kernel_rfl)
   (case fU=>first | kit_is | kernel_rfl)
   (case gU=>first | kit_is | kernel_rfl)
   (case fR=>first | kit_is | kernel_rfl)
   (case m3=>first | kit_is | kernel_rfl)
   (case fF=>first | kit_is | kernel_rfl)
   (case fW=>first | kit_is | kernel_rfl)
   (case fD=>first | kit_is | kernel_rfl)
   (case lN=>first | kit_is | kernel_rfl)
   (case jk=>first | kit_is | kernel_rfl)
   (case j5=>first | kit_is | kernel_rfl)
   (case ja=>first | kit_is | kernel_rfl)
   (case uq=>first | kit_is | kernel_rfl)
   (case gS=>first | kit_is | kernel_rfl)
   (case iq=>first | kit_is | kernel_rfl)
   (case gP=>first | kit_is | kernel_rfl)
   (case oD=>first | kit_is | kernel_rfl)
   (case ji=>first | kit_is | kernel_rfl)
   (case j6=>first | kit_is | kernel_rfl)
   (case jb=>first | kit_is | kernel_rfl)
   (case uy=>first | kit_is | kernel_rfl)
   (case fV=>first | kit_is | kernel_rfl)
   (case gQ=>first | kit_is | kernel_rfl)
   (case fM=>first | kit_is | kernel_rfl)
   (case mY=>first | kit_is | kernel_rfl)
   (case il=>first | kit_is | kernel_rfl)
   (case jh=>first | kit_is | kernel_rfl)
   (case iB=>first | kit_is | kernel_rfl)
   (case ro=>first | kit_is | kernel_rfl)
   (case fA=>first | kit_is | kernel_rfl)
   (case fN=>first | kit_is | kernel_rfl)
   (case ft=>first | kit_is | kernel_rfl)
   (case lP=>first | kit_is | kernel_rfl)
   (case fB=>first | kit_is | kernel_rfl)
   (case fO=>first | kit_is | kernel_rfl)
   (case fu=>first | kit_is | kernel_rfl)
   (case lR=>first | kit_is | kernel_rfl)
   (case d_=>first | kit_is | kernel_rfl)
   (case eK=>first | kit_is | kernel_rfl)
   (case dZ=>first | kit_is | kernel_rfl)
   (case je=>first | kit_is | kernel_rfl)
   (case fT=>first | kit_is | kernel_rfl)
   (case gR=>first | kit_is | kernel_rfl)
   (case fP=>first | kit_is | kernel_rfl)
   (case mV=>first | kit_is | kernel_rfl)
   (case d9=>kernel_rfl)
   (case eL=>kernel_rfl)
   (case dY=>kernel_rfl)
  have T:K35.Tp (L2.g9 KX) mg cl:=by
   dsimp only[L2.g9]
   refine' ⟨PySem.W.mg_none_of KX G ?z_len,PySem.W.mg_none_of KX G ?z_sum,PySem.W.mg_none_of KX G ?z_tuple,PySem.W.mg_none_of KX G ?z_list,PySem.W.mg_none_of KX G ?z_range,PySem.W.mg_none_of KX G ?z_enumerate,PySem.W.mg_none_of KX G ?z_int,PySem.W.mg_none_of KX G ?z_isinstance,PySem.W.mg_none_of KX G ?z_ValueError,PySem.W.mg_none_of KX G ?z_min,PySem.W.mg_none_of KX G ?z_sorted,PySem.W.mg_none_of KX G ?z_set,xG,uv,v_,CF.M_FaultError,CF.M_TooLong,CF.M_NoForm,CF.M_NoPlace,CF.M_Twice,CF.M_Full,CF.M_NoWire,CF.M_Open,CF.M_NotPlain,CF.M_NotThree,CF.M_NotSound,CF.M_NoFit,CF.M_NoShape,CF.M_NoneYet,CF.X_Twice,CF.X_Full,CF.X_NoFit,CF.I_NoFit_Twice,CF.I_Full_Twice,CF.I_Twice_Twice,CF.O_Twice,CF.I_NoFit_NoPlace,CF.I_Full_NoPlace,CF.I_Twice_NoPlace,CF.O_NoPlace,CF.I_NoFit_NoForm,CF.I_Full_NoForm,CF.I_Twice_NoForm,CF.O_NoForm,CF.I_NoFit_TooLong,CF.I_Full_TooLong,CF.I_Twice_TooLong,CF.O_TooLong,CF.I_NoFit_NotPlain,CF.I_Full_NotPlain,CF.I_Twice_NotPlain,CF.O_NotPlain,CF.I_NoFit_Open,CF.I_Full_Open,CF.I_Twice_Open,CF.O_Open,CF.I_NoFit_NoWire,CF.I_Full_NoWire,CF.I_Twice_NoWire,CF.O_NoWire,CF.I_NoFit_Full,CF.I_Full_Full,CF.I_Twice_Full,CF.O_Full,CF.I_NoFit_NoShape,CF.I_Full_NoShape,CF.I_Twice_NoShape,CF.O_NoShape,CF.I_NoFit_NoFit,CF.I_Full_NoFit,CF.I_Twice_NoFit,CF.O_NoFit,CF.I_NoFit_NotSound,CF.I_Full_NotSound,CF.I_Twice_NotSound,CF.O_NotSound,CF.I_NoFit_NotThree,CF.I_Full_NotThree,CF.I_Twice_NotThree,CF.O_NotThree,CF.I_NoFit_ValueError,CF.I_Full_ValueError,CF.I_Twice_ValueError,CF.O_ValueError,CF.I_NoFit_NoneYet,CF.I_Full_NoneYet,CF.I_Twice_NoneYet,CF.O_NoneYet,CF.E_NoFit_FaultError,CF.E_Full_FaultError,CF.E_Twice_FaultError⟩
   (case z_len=>k_is);(case z_sum=>k_is);(case z_tuple=>k_is);(case z_list=>k_is);(case z_range=>k_is);(case z_enumerate=>k_is);(case z_int=>k_is);(case z_isinstance=>k_is);(case z_ValueError=>k_is);(case z_min=>k_is);(case z_sorted=>k_is);(case z_set=>k_is)
  obtain⟨fl,fd,Fl,hl⟩:=D_law
  have e0:=LP.symm.trans hl
  cases e0
  refine' ⟨fd,?b,fun base kb nb=>K35.HH T j4 jd i8 j0 j7 oF gM ik i7 gO rj mZ jc lT jg lQ lM oG Fl⟩
  obtain⟨_,_,_,_,_,_,_,_,_,e,_,_⟩:=Fl.ex
  subst e
  exact fun s u=> .of_eq rfl
