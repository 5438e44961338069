import PyProof.Rows.All
import Wide.All
import OpenK.AllK
import Wide.FinOn
import Lean
import PyProof.EqAt
import PyProof.EqKinds
import PyProof.TupleCall
import PyProof.Rows.StrJoin2
import PyProof.TupleOfGen
import PyProof.ListRange
import PyProof.Draws
import PyProof.Rows.StrClose3
import KE.KSortedM
import PyProof.Rows.SortWalk
import PyProof.WalkInts
import PyProof.Rows.Range3
import PyProof.ZipIter
import PyProof.ConsumeWalk
import PyProof.Rows.SeqMore
import KE.KRevIter
import KE.KRevSl
import KE.KUnpack
import KE.KDictSum
import KE.KTupSum
import KE.KSortTup
import KE.KDictOf
import OpenK.KRaise
import KE.KTryMore
import PyProof.ExcArgs
import PyProof.ExcBaseAll.ValueError
import PyProof.NsDelKeeps
import PyProof.AttrMissSeq
import PyProof.FString4
import PyProof.StrLawsRepr
import PyProof.Rows.StrSplitAre
import PyProof.Rows.StrNews2
import PyProof.StrLawsChain
import PyProof.StrLawsTight
import PySem.Challenge.RW_bearfaults_k08_whole_names_otherwise
noncomputable section
set_option bootstrap.genMatcherCode false
section
open PySem
abbrev V6:=List (Addr×Obj)
abbrev V7:=Value->Shared->Prop
abbrev V8:=List (Str×Nat)
abbrev V9:=List (Str×List Nat)
abbrev V_:=List (List Nat)
abbrev Wa:=Str->Option Value
abbrev Wb:=Nat->Addr
end
def PySem.W.Fast.tw3440084836769218026:=0
def PySem.W.Fast.tw1958196267721244534:=0
def PySem.W.Fast.tw15354331615720833135:=0
def PySem.W.Fast.tw13717449935242144954:=0
def PySem.W.Fast.tw1879029965741843744:=0
def PySem.W.Fast.tw8193025156832004982:=0
def PySem.W.Fast.tw5115445208885105188:=0
def PySem.W.Fast.tw16470042601879882184:=0
def PySem.W.Fast.tw3860755441961713460:=0
def PySem.W.Fast.tw7453541099073581541:=0
def PySem.W.Fast.tw7243908957321296974:=0
def PySem.W.Fast.tw11176145529372874489:=0
def PySem.W.Fast.tw5985788402895973932:=0
def PySem.W.Fast.tw5065918977747933300:=0
def PySem.W.Fast.tw10177323673568292021:=0
def PySem.W.Fast.tw581983436771294628:=0
def PySem.W.Fast.tw1820171810559485124:=0
def PySem.W.Fast.tw15363434035370526867:=0
def PySem.W.Fast.tw9828287094617571193:=0
def PySem.W.Fast.tw9564006401558367417:=0
def PySem.W.Fast.tw9584931362467824093:=0
def PySem.W.Fast.tw10265864302399257876:=0
def PySem.W.Fast.tw12865554368721467399:=0
def PySem.W.Fast.tw10793393066707254102:=0
def PySem.W.Fast.tw7894588143277944037:=0
def PySem.W.Fast.tw10689123210312559062:=0
def PySem.W.Fast.tw6919255628992677462:=0
def PySem.W.Fast.tw15428389712208086110:=0
def PySem.W.Fast.tw14015657031857790826:=0
def PySem.W.Fast.tw10945057454006310640:=0
def PySem.W.Fast.tw12294951694488209037:=0
def PySem.W.Fast.tw5653776100542496610:=0
def PySem.W.Fast.tw15752375642959737631:=0
def PySem.W.Fast.tw12595546903206887421:=0
def PySem.W.Fast.tw6105516456025658751:=0
def PySem.W.Fast.tw12194997896860252281:=0
def PySem.W.Fast.tw2449550558631696206:=0
def PySem.W.Fast.tw12173331737067917318:=0
def PySem.W.Fast.tw5721227748735000929:=0
def PySem.W.Fast.tw7249979429826097369:=0
set_option Elab.async false
set_option linter.all false
set_option maxRecDepth 100000
set_option maxHeartbeats 4000000
section
namespace L2
open PySem PySem.Spec PyProof.Rows
abbrev Key:=Sum Int Str
def sd:Key->Value->Bool
 | .inl k,v=>Value.isInt k v
 | .inr x,v=>Value.isStrOf x v
def Nz(w:World):Key->Int
 | .inl k=>hashInt k
 | .inr x=>hashStr w x
theorem cY:∀{k:Key} {v:Value},sd k v=true->(∃i t,k=Sum.inl i/\v=Value.int i t)\/(∃x t,k=Sum.inr x/\v=Value.str x t)
 | .inl i,v,h=>by
   obtain⟨t,e⟩:=Value.isInt_shape (k:=i) (v:=v) h;exact .inl ⟨i,t,rfl,e⟩
 | .inr x,v,h=>by
   obtain⟨t,e⟩:=Value.isStrOf_shape (x:=x) (v:=v) h;exact .inr ⟨x,t,rfl,e⟩
theorem Af(i:Int)(t:Tok):sd (.inl i) (.int i t)=true:=by simp [sd,Value.isInt]
theorem zF(x:Str)(t:Tok):sd (.inr x) (.str x t)=true:=by simp [sd,Value.isStrOf]
theorem Iy(a b:Int):decide ((Sum.inl a:Key)=Sum.inl b)=(a==b):=by
 by_cases e:a=b
 .subst e;simp
 .have h:¬(Sum.inl a:Key)=Sum.inl b:=fun q=>e (Sum.inl.inj q)
  rw[decide_eq_false h];exact(beq_eq_false_iff_ne.mpr e).symm
theorem IG(a b:Str):decide ((Sum.inr a:Key)=Sum.inr b)=decide (a=b):=by
 by_cases e:a=b
 .subst e;simp
 .have h:¬(Sum.inr a:Key)=Sum.inr b:=fun q=>e (Sum.inr.inj q)
  rw[decide_eq_false h,decide_eq_false e]
theorem Jc(a:Int)(b:Str):decide ((Sum.inl a:Key)=Sum.inr b)=false:=decide_eq_false (fun q=>nomatch q)
theorem Hx(a:Str)(b:Int):decide ((Sum.inr a:Key)=Sum.inl b)=false:=decide_eq_false (fun q=>nomatch q)
def cL(prog:Program)(w:World):PySem.KeyKind prog w Key where
 is:=sd
 hash:=Nz w
 inj:=fun v a b ha hb=>by
  rcases cY ha with⟨i,t,rfl,rfl⟩ | ⟨x,t,rfl,rfl⟩
  .rcases cY hb with⟨j,u,rfl,e⟩ | ⟨y,u,rfl,e⟩
   .injection e with e1 _;rw [e1]
   .exact nomatch e
  .rcases cY hb with⟨j,u,rfl,e⟩ | ⟨y,u,rfl,e⟩
   .exact nomatch e
   .injection e with e1 _;rw [e1]
 byValue:=fun k v h=>by
  rcases cY h with⟨i,t,rfl,rfl⟩ | ⟨x,t,rfl,rfl⟩ <;> rfl
 pyHash:=fun hv h=>by
  rcases cY hv with⟨i,t,rfl,rfl⟩ | ⟨x,t,rfl,rfl⟩
  .exact wpAny_pyHash_int h
  .exact wpAny_pyHash_str h
 eqBool:=fun hu hv h=>by
  rcases cY hu with⟨i,t,rfl,rfl⟩ | ⟨x,t,rfl,rfl⟩
  .rcases cY hv with⟨j,u,rfl,rfl⟩ | ⟨y,u,rfl,rfl⟩
   .rw [Iy] at h;exact wpAny_eqBool_int h
   .rw [Jc] at h;exact SeqAt.EqAt.int_str i t y u _ _ _ _ h
  .rcases cY hv with⟨j,u,rfl,rfl⟩ | ⟨y,u,rfl,rfl⟩
   .rw [Hx] at h;exact SeqAt.EqAt.str_int x t j u _ _ _ _ h
   .rw [IG] at h;exact wpAny_eqBool_str h
 «strs»:=fun k x t v h=>by
  rcases cY h with⟨i,u,rfl,e⟩ | ⟨y,u,rfl,e⟩
  .exact nomatch e
  .injection e with e1 _
   subst e1;cases v <;> rfl
theorem vx(prog:Program)(w:World)(i:Int)(t:Tok):(cL prog w).is (.inl i) (.int i t)=true:=Af i t
theorem ll(prog:Program)(w:World)(x:Str)(t:Tok):(cL prog w).is (.inr x) (.str x t)=true:=zF x t
inductive V where
 | cH | bl (b:Bool) | int (i:Int) | str (x:Str) | byt (b:Array UInt8) | flt (b:UInt64) | ref (a:Addr) | ty (n:String)
 deriving DecidableEq
def RelV:V->Value->Prop
 | .cH,u=>u=Value.none
 | .bl b,u=>u=Value.bool b
 | .int i,u=>∃t,u=Value.int i t
 | .str x,u=>∃t,u=Value.str x t
 | .byt b,u=>∃t,u=Value.bytes b t
 | .flt b,u=>∃t,u=Value.float b t
 | .ref a,u=>u=Value.ref a
 | .ty n,u=>u=Value.type n
abbrev Vals:List V->List Value->Prop:=Paired RelV
theorem Vals.length{xs:List V}{us:List Value}(r:Vals xs us):xs.length=us.length:=Paired.length r
theorem Vals.get:∀{xs:List V} {us:List Value} {i:Nat} {x:V},Vals xs us->xs[i]? =some x->∃u,us[i]? =some u/\RelV x u
 | _,_,_,_, .nil,e=>by simp at e
 | _,_,0,_, .cons r _,e=>by simp at e;subst e;exact⟨_,rfl,r⟩
 | _,_,i+1,x, .cons _ t,e=>by
   obtain⟨u,h1,h2⟩:=Vals.get (i:=i) (x:=x) t (by simpa using e)
   exact⟨u,by simpa using h1,h2⟩
theorem Vals.append:∀{xs ys:List V} {us ws:List Value},Vals xs us->Vals ys ws->Vals (xs++ys) (us++ws)
 | _,_,_,_, .nil,s=>s
 | _,_,_,_, .cons r t,s=> .cons r (Vals.append t s)
theorem Vals.take:∀{xs:List V} {us:List Value} (n:Nat),Vals xs us->Vals (xs.take n) (us.take n)
 | _,_,0,_=> .nil
 | _,_,_+1, .nil=> .nil
 | _,_,n+1, .cons r t=> .cons r (Vals.take n t)
theorem Vals.drop:∀{xs:List V} {us:List Value} (n:Nat),Vals xs us->Vals (xs.drop n) (us.drop n)
 | _,_,0,r=>r
 | _,_,_+1, .nil=> .nil
 | _,_,n+1, .cons _ t=>Vals.drop n t
def ka:Option V->Option Value->Prop
 | some v,some u=>RelV v u
 | none,none=>True
 | _,_=>False
def KV{κ:Type}:List (κ × V)->List (κ × Value)->Prop:=Paired fun(p:κ × V) (q:κ × Value)=>p.1=q.1/\RelV p.2 q.2
def kV:Key->V
 | .inl i=> .int i
 | .inr x=> .str x
inductive HO where
 | lst (xs:List V)
 | tup (xs:List V)
 | dK (aA:List (Key × V)) | dT (aA:List (List Key × V))
 | set (S:Int->Bool) (n:Nat)
 | ins (C dx:Addr) (fs:List (Str × V))
 | own (x:Addr)
 | xd (fs:List (Str × V))
 | met (f x:Addr)
 | rng (lo hi:Int)
 | kT (o:Obj) (u:HO)
 | tbl (ps:Array Value)
 | ext (φ:Heap->Prop)
abbrev Hp:=Addr->Option HO
def upd(H:Hp)(a:Addr)(o:HO):Hp:=fun b=>if b=a then some o else H b
theorem aY{a:Addr}{o:HO}:upd H a o a=some o:=by unfold upd;rw [if_pos rfl]
theorem a_{H:Hp}{a b:Addr}{o:HO}(h:b≠a):upd H a o b=H b:=by unfold upd;rw [if_neg h]
theorem FE{a:Addr}{o u:HO}:upd (upd H a o) a u=upd H a u:=by
 funext b;unfold upd;split <;> rfl
theorem Km{H:Hp}{a b:Addr}{o u:HO}(h:H a=some o)(h':H b=some u)(d:o≠u):a≠b:=by
 intro e;subst e;rw [h] at h';exact d (Option.some.inj h')
theorem b8{H:Hp}{a b:Addr}{o:HO}(h:H a=some o)(h':H b=none):a≠b:=by
 intro e;subst e;rw [h] at h';cases h'
section
variable (P:Program) (w:World)
def d8(H:Hp)(h:Heap)(a:Addr):HO->Prop
 | .lst xs=>xs.length<=sizeLine/\∃(its:List Value) (n:Nat),Vals xs its/\h.get? a=some {cls:= .type "list",data:= .seq its.toArray n}
 | .tup xs=>xs.length<=sizeLine/\∃its:List Value,Vals xs its/\IsTup h a its.toArray
 | .dK aA=>aA.length<=sizeLine/\(a==sysModules)=false/\∃vs,KV aA vs/\h.DictOf (cL P w) a vs
 | .dT aA=>aA.length<=sizeLine/\(a==sysModules)=false/\∃xs:List (List Key × Addr × Value),
    Paired (fun(p:List Key × V) (q:List Key × Addr × Value)=>p.1=q.1/\H q.2.1=some (.tup (p.1.map kV))/\RelV p.2 q.2.2) aA xs/\
    ∃o es ep,h.get? a=some o/\o.ExactDict/\o.data= .dict es ep/\es.toList=xs.map (entryOfKey (tupleKind (cL P w)))/\(xs.map (·.1)).Nodup
 | .set S n=>h.SetOf (intKind P w) a S n
 | .ins C dx fs=>H dx=some (.own a)/\fs.length<=1000/\dx≠a/\h.get? a=some (PySem.W.instObj C dx)/\
    ∃mA,h.Ns1 dx mA/\(∀f,ka (fs.lookup f) (mA f))/\PySem.Within mA (fs.map (·.1))
 | .own _=>∃o,h.get? a=some o
 | .xd fs=>∃mA,h.Ns1 a mA/\∀f,ka (fs.lookup f) (mA f)
 | .rng lo hi=>∃t u v,h.get? a=some {cls:= .type "range",data:= .fields #[.int lo t, .int hi u, .int 1 v]}
 | .kT o u=>h.get? a=some o/\d8 H h a u
 | .tbl ps=>h.get? a=some {cls:= .none,data:= .fields ps}
 | .met f x=>h.get? a=some (PySem.W.methodObj (.ref f) (.ref x))
 | .ext φ=>φ h/\(∃o,h.get? a=some o)/\∀h1 h2:Heap,φ h1->(∀o,h1.get? a=some o->h2.get? a=some o)->φ h2
def l6(H:Hp)(h:Heap):Prop:=∀a o,H a=some o->d8 P w H h a o
end
section
variable {P:Program} {w:World} {H H':Hp} {h h':Heap} {a:Addr} {o:HO}
theorem d8.lt(x:d8 P w H h a o):a < h.objs.size:=by
 cases o with
 | lst xs=>obtain⟨_,_,_,_,e⟩:=x;exact Heap.lt_size e
 | tup xs=>obtain⟨_,_,_,p⟩:=x;exact p.lt
 | dK aA=>obtain⟨_,_,_,_,o,_,_,e,_⟩:=x;exact Heap.lt_size e
 | dT aA=>obtain⟨_,_,_,_,o,_,_,e,_⟩:=x;exact Heap.lt_size e
 | set S n=>obtain⟨o,_,_,_,e,_⟩:=x;exact Heap.lt_size e
 | ins C dx fs=>obtain⟨_,_,_,e,_⟩:=x;exact Heap.lt_size e
 | own y=>obtain⟨_,e⟩:=x;exact Heap.lt_size e
 | xd fs=>obtain⟨_,⟨_,_,_,e,_⟩,_⟩:=x;exact Heap.lt_size e
 | rng lo hi=>obtain⟨_,_,_,e⟩:=x;exact Heap.lt_size e
 | kT ob u=>obtain⟨e,_⟩:=x;exact Heap.lt_size e
 | tbl ps=>exact Heap.lt_size (show h.get? a=some _ from x)
 | met f y=>exact Heap.lt_size (show h.get? a=some _ from x)
 | ext φ=>obtain⟨_,⟨_,e⟩,_⟩:=x;exact Heap.lt_size e
theorem Paired.Ha{α β:Type}{F G:α->β->Prop}:∀{L7:List α} {L4:List β},Paired F L7 L4->(∀a b,F a b->G a b)->Paired G L7 L4
 | _,_, .nil,_=> .nil
 | _,_, .cons r t,f=> .cons (f _ _ r) (Paired.Ha t f)
theorem d8.wH(x:d8 P w H h a o)(k:∀b u,(b=a\/H b=some (.own a))->h.get? b=some u->h'.get? b=some u)
 (ho:∀b,H b=some (.own a)->H' b=some (.own a)) (ht:∀b xs,H b=some (.tup xs)->H' b=some (.tup xs)):d8 P w H' h' a o:=by
 induction o with
 | lst xs=>obtain⟨z,its,n,r,e⟩:=x;exact⟨z,its,n,r,k _ _ (.inl rfl) e⟩
 | tup xs=>obtain⟨z,its,r,ob,e,c⟩:=x;exact⟨z,its,r,ob,k _ _ (.inl rfl) e,c⟩
 | dK aA=>obtain⟨z,y,vs,r,ob,es,ep,e,c⟩:=x;exact⟨z,y,vs,r,ob,es,ep,k _ _ (.inl rfl) e,c⟩
 | dT aA=>
   obtain⟨z,y,xs,r,ob,es,ep,e,c⟩:=x;exact⟨z,y,xs,Paired.Ha r fun p q z=>⟨z.1,ht _ _ z.2.1,z.2.2⟩,ob,es,ep,k _ _ (.inl rfl) e,c⟩
 | set S n=>obtain⟨ob,es,ep,t,e,c⟩:=x;exact⟨ob,es,ep,t,k _ _ (.inl rfl) e,c⟩
 | ins C dx fs=>
   obtain⟨d,z,ne,e,mA,⟨od,es,ep,e2,c⟩,r⟩:=x;exact⟨ho _ d,z,ne,k _ _ (.inl rfl) e,mA,⟨od,es,ep,k _ _ (.inr d) e2,c⟩,r⟩
 | own y=>obtain⟨ob,e⟩:=x;exact⟨ob,k _ _ (.inl rfl) e⟩
 | xd fs=>obtain⟨mA,⟨od,es,ep,e,c⟩,r⟩:=x;exact⟨mA,⟨od,es,ep,k _ _ (.inl rfl) e,c⟩,r⟩
 | rng lo hi=>obtain⟨t,u,v,e⟩:=x;exact⟨t,u,v,k _ _ (.inl rfl) e⟩
 | kT ob u ih=>obtain⟨e,q⟩:=x;exact⟨k _ _ (.inl rfl) e,ih q⟩
 | tbl ps=>
   have e:h.get? a=some {cls:= .none,data:= .fields ps}:=x;show h'.get? a=some {cls:= .none,data:= .fields ps};exact k a _ (.inl rfl) e
 | met f y=>
   have e:h.get? a=some (PySem.W.methodObj (.ref f) (.ref y)):=x;show h'.get? a=some (PySem.W.methodObj (.ref f) (.ref y));exact k a _ (.inl rfl) e
 | ext φ=>obtain⟨p,⟨o,e⟩,st⟩:=x;exact⟨st _ _ p fun o q=>k _ _ (.inl rfl) q,⟨o,k _ _ (.inl rfl) e⟩,st⟩
theorem l6.lt(x:l6 P w H h)(e:H a=some o):a < h.objs.size:=(x a o e).lt
theorem l6.fresh(x:l6 P w H h)(e:h.objs.size<=a):H a=none:=by
 cases q:H a with
 | none=>rfl
 | some u=>exact absurd (Nat.lt_of_lt_of_le (x.lt q) e) (Nat.lt_irrefl _)
theorem l6.kept(x:l6 P w H h)(k:∀b u,h.get? b=some u->h'.get? b=some u):l6 P w H h':=fun a o e=>
 (x a o e).wH (fun b u _ q=>k b u q) (fun _ q=>q) fun _ _ q=>q
theorem l6.laid(x:l6 P w H h)(k:∀b u,h.get? b=some u->h'.get? b=some u)(hp:h.objs.size<=a)(new:d8 P w (upd H a o) h' a o):l6 P w (upd H a o) h':=fun b u e=>by
 have hn:=x.fresh hp;by_cases hb:b=a
 .subst hb;rw [aY] at e;cases e;exact new
 .rw [a_ hb] at e;exact(x b u e).wH (fun c v _ q=>k c v q) (fun c q=>by rw[a_ (b8 q hn)];exact q) fun c xs q=>by rw[a_ (b8 q hn)];exact q
end
def Rd(H:Hp)(a:Addr)(u:HO):Prop:=H a=some u\/∃o,H a=some (.kT o u)
theorem Rd.ok{a:Addr}{u:HO}(r:Rd H a u)(x:l6 P w H h):d8 P w H h a u:=by
 rcases r with r | ⟨o,r⟩
 .exact x a u r
 .obtain⟨_,q⟩:=x a _ r;exact q
def Lg:Option HO->Prop
 | some (.lst _)=>True
 | some (.dK _)=>True
 | some (.dT _)=>True
 | some (.set _ _)=>True
 | some (.ins _ _ _)=>True
 | some (.ext _)=>True
 | _=>False
section
variable {P:Program} {w:World} {H:Hp} {h h':Heap} {x e:Addr} {o':HO}
theorem l6.write(ok:l6 P w H h)(mu:Lg (H x))(he:e=x\/H e=some (.own x))(k:∀b u,b≠e->h.get? b=some u->h'.get? b=some u)(G0:∃u,h'.get? e=some u)
 (new:d8 P w (upd H x o') h' x o'):l6 P w (upd H x o') h':=fun b u q=>by
 have nown:∀c y,H c=some (.own y)->c≠x:=fun c y r z=>by subst z;rw [r] at mu;exact mu
 have ntup:∀c xs,H c=some (.tup xs)->c≠x:=fun c xs r z=>by subst z;rw [r] at mu;exact mu
 by_cases hb:b=x
 .subst hb;rw [aY] at q;cases q;exact new
 .rw [a_ hb] at q;by_cases hbe:b=e
  .have q':H b=some (.own x):=by
    rcases he with z | z
    .exact absurd (hbe.trans z) hb
    .rw [hbe];exact z
   rw[q] at q';cases q';obtain⟨v,hv⟩:=G0;exact⟨v,by rw[hbe];exact hv⟩
  .refine(ok b u q).wH (fun c v hc r=>k c v ?_ r) (fun c r=>by rw[a_ (nown c b r)];exact r) fun c xs r=>by rw[a_ (ntup c xs r)];exact r
   rcases hc with rfl | hc
   .exact hbe
   .rintro rfl;rcases he with z | z
    .exact nown c b hc z
    .rw [hc] at z;cases z;exact hb rfl
end
structure Un (fs ex:List Addr) (H H':Hp) (h h':Heap):Prop where
 keep:∀b o,h.get? b=some o->H b=none->b ∉ fs->b ∉ ex->h'.get? b=some o
 slot:∀b o,h.get? b=some o->H b=none->b∈fs->b ∉ ex->∃sl,h'.get? b=some {o with slots:=sl}
 free:∀b o,h.get? b=some o->H b=none->b ∉ ex->H' b=none
 there:∀b o,h.get? b=some o->b ∉ ex->∃o',h'.get? b=some o'
 tups:∀b xs,H b=some (.tup xs)->H' b=some (.tup xs)
 frzs:∀b o u,H b=some (.kT o u)->H' b=some (.kT o u)
 tbls:∀b ps,H b=some (.tbl ps)->∃more,H' b=some (.tbl (ps++more))
section
variable {fs Kb ex VZ:List Addr} {H H1 H2:Hp} {h h1 h2 h':Heap} {a x e:Addr} {o:HO}
theorem Un.any(u:Un fs ex H H1 h h1){b:Addr}{ob:Obj}(q:h.get? b=some ob)(n:H b=none)(hx:b ∉ ex):∃sl,h1.get? b=some {ob with slots:=sl}:=by
 by_cases hb:b∈fs
 .exact u.slot b ob q n hb hx
 .exact⟨ob.slots,u.keep b ob q n hb hx⟩
theorem Un.kept(k:∀b u,h.get? b=some u->h'.get? b=some u):Un fs ex H H h h':=
 ⟨fun b ob q _ _ _=>k b ob q,fun b ob q _ _ _=>⟨ob.slots,k b ob q⟩,fun _ _ _ n _=>n,fun b ob q _=>⟨ob,k b ob q⟩,fun _ _ q=>q,fun _ _ _ q=>q,fun _ ps q=>⟨#[],by rw[q];simp⟩⟩
theorem Un.refl:Un fs ex H H h h:=Un.kept fun _ _ q=>q
theorem Un.laid(k:∀b u,h.get? b=some u->h'.get? b=some u)(hp:h.objs.size<=a)(hn:H a=none):Un fs ex H (upd H a o) h h' where
 keep:=fun b u q _ _ _=>k b u q
 slot:=fun b u q _ _ _=>⟨u.slots,k b u q⟩
 free:=fun b u q n _=>by rw[a_ (Nat.ne_of_lt (Nat.lt_of_lt_of_le (Heap.lt_size q) hp))];exact n
 there:=fun b u q _=>⟨u,k b u q⟩
 tups:=fun b xs q=>by rw[a_ (b8 q hn)];exact q
 frzs:=fun b u xs q=>by rw[a_ (b8 q hn)];exact q
 tbls:=fun b ps q=>⟨#[],by rw[a_ (b8 q hn),q];simp⟩
theorem Un.write(mu:Lg (H x))(he:e=x\/H e=some (.own x))(k:∀b u,b≠e->h.get? b=some u->h'.get? b=some u)(G0:∃u,h'.get? e=some u):Un fs ex H (upd H x o) h h':=by
 have hx:∀b,H b=none->b≠x:=fun b n z=>by subst z;rw [n] at mu;exact mu
 have hb:∀b,H b=none->b≠e:=fun b n z=>by
  subst z;rcases he with r | r
  .exact hx b n r
  .rw [n] at r;cases r
 have hm:∀b u,H b=some u->¬Lg (some u)->b≠x:=fun b u q nm z=>by subst z;rw [q] at mu;exact nm mu
 refine⟨fun b u q n _ _=>k b u (hb b n) q,fun b u q n _ _=>⟨u.slots,k b u (hb b n) q⟩,fun b u q n _=>by rw[a_ (hx b n)];exact n,fun b u q _=>?_,
  fun b xs q=>by rw[a_ (hm b _ q fun z=>z)];exact q,fun b u xs q=>by rw[a_ (hm b _ q fun z=>z)];exact q,fun b ps q=>⟨#[],by rw[a_ (hm b _ q fun z=>z),q];simp⟩⟩
 by_cases hbe:b=e
 .subst hbe;exact G0
 .exact⟨u,k b u hbe q⟩
end
def Iw(h:Heap)(H:Hp):List Addr:=(List.range h.objs.size).filter fun a=>(H a).isSome
def sU(h:Heap)(H:Hp):Heap:=PySem.W.hideAll h (Iw h H)
theorem zX(h:Heap)(H:Hp):(sU h H).objs.size=h.objs.size:=PySem.W.hideAll_size _ _
theorem BV{h:Heap}{H:Hp}{b:Addr}{o:Obj}(e:h.get? b=some o)(n:H b=none):(sU h H).get? b=some o:=
 PySem.W.hideAll_get _ e fun hm=>by
  have q:(H b).isSome=true:=(List.mem_filter.mp hm).2;rw[n] at q;simp at q
theorem Eo{h:Heap}{H:Hp}{b:Addr}{o:Obj}(e:(sU h H).get? b=some o):h.get? b=some o/\H b=none:=by
 have e':h.get? b=some o:=PySem.W.of_hideAll (Iw h H) e;refine⟨e',?_⟩;cases q:H b with
 | none=>rfl
 | some x=>
   have hm:b∈Iw h H:=List.mem_filter.mpr ⟨List.mem_range.mpr (Heap.lt_size e'),by simp [q]⟩
   have z:(sU h H).get? b=none:=PySem.W.hideAll_none (Iw h H) hm;rw[z] at e;cases e
def Ek(g h:Heap)(L:Addr):V6:=(List.range h.objs.size).filterMap fun a=>if a=L\/(g.get? a).isSome=true then none else(h.get? a).map fun o=>(a,o)
def rest(g h:Heap)(L d:Addr):V6:=(Ek g h L).filter fun p=>decide (p.1≠d)
structure Mod (K:W.Frag) (mg:Wa) (base:Heap):Prop where
 kin:K.In base
 glob:base.Ns mainGlobals mg
 blt:∃mb,base.Ns builtinsNs mb/\∀x:Str,x≠"__name__"->mb x=bootBuiltins x
 nolimit:base.NoLimit
structure Cx where
 prog:Program
 w:World
 K:W.Frag
 mg:Wa
 base:Heap
 A:Around
 N:List Str
 s₀:Shared
 H₀:Hp
 env:Env
 outer:List Env
 stack:List Env
 ex:List Addr
 fn:Str->Bool
 calm:Bool
 pn:V6
 xe:V7
def pH(l:List Env):List Addr:=l.filterMap (·.frame)
abbrev Cx.fs(X:Cx):List Addr:=pH X.outer
def HX(sc:Scope)(x:Str):Prop:=sc.names.lookup x=some .local\/sc.names.lookup x=some .cell\/sc.names.lookup x=some .free
def Loc(sc:Scope)(x:Str):Prop:=sc.names.lookup x=some .local\/sc.names.lookup x=some .cell
def Look(env:Env)(h:Heap)(m:Wa)(x:Str)(u:Value):Prop:=
 (env.kindOf x=some .local/\m x=some u)\/((env.kindOf x=some .cell\/env.kindOf x=some .free)/\∃c,env.cells.lookup x=some c/\h.IsCell c (some u))
structure Cx.Ok (X:Cx):Prop where
 mod:Mod X.K X.mg X.base
 kind:X.env.scope.kind= .function
 glob:X.env.globals=mainGlobals
 blt:X.env.builtins=builtinsNs
 above:X.s₀.heap.objs.size<=X.env.locals
 inj:∀x y c,X.env.cells.lookup x=some c->X.env.cells.lookup y=some c->x=y
 has:∀x,(X.env.kindOf x=some .cell\/X.env.kindOf x=some .free)->∃c,X.env.cells.lookup x=some c
 cab:∀x c,X.fn x=true->X.env.cells.lookup x=some c->X.s₀.heap.objs.size<=c
 hd:X.calm=true->X.A.handled=none
 frames:X.A.frames=some X.stack
 stk:X.stack=X.outer\/(X.stack=X.env ::X.outer/\X.env.frame=some X.env.locals)
 exf:∀b∈X.ex,b≠X.env.locals/\∀x c,X.env.cells.lookup x=some c->c≠b
 bs:∀b o,X.base.get? b=some o->X.s₀.heap.get? b=some o/\X.H₀ b=none
 bsz:X.base.objs.size<=X.s₀.heap.objs.size
 noex:∀b o,X.base.get? b=some o->b ∉ X.ex
 exfs:∀b∈X.ex,b ∉ X.fs
 oG:X.s₀.heap.FunFrames X.base X.outer
 frf:∀b∈X.fs,X.H₀ b=none
structure Inv (X:Cx) (pins:V6) (σ:List (Option V)) (H:Hp) (s:Shared):Prop where
 ok:X.Ok
 os:s.os=X.s₀.os
 bare:AllBare s.gens
 base:Un X.fs X.ex X.H₀ H X.s₀.heap s.heap
 loc:∃m,s.heap.Ns X.env.locals m/\∀(i:Nat) (x:Str) (v:V),X.N[i]? =some x->σ[i]? =some (some v)->HX X.env.scope x->∃u,RelV v u/\Look X.env s.heap m x u
 cell:∀x c,X.env.cells.lookup x=some c->∃v,s.heap.IsCell c v
 free:H X.env.locals=none
 freeC:∀x c,X.env.cells.lookup x=some c->H c=none
 pin:∀p∈X.pn++pins,s.heap.get? p.1=some p.2/\H p.1=none/\p.1≠X.env.locals/\p.1 ∉ X.fs/\∀v,p.2.data≠ .cell v
 hok:l6 X.prog X.w H s.heap
 len:σ.length=X.N.length
section
variable {X:Cx} {pins:V6} {σ:List (Option V)} {H H':Hp} {s:Shared} {h':Heap}
theorem Cx.Ok.NA(ok:X.Ok){b:Addr}{o:Obj}(e:X.base.get? b=some o):b ∉ X.fs:=fun hb=>by
 have:=(ok.oG.mem hb).1;rw[e] at this;cases this
theorem Inv.bs(I:Inv X pins σ H s):∀b o,X.base.get? b=some o->s.heap.get? b=some o/\H b=none:=fun b o e=>
 ⟨I.base.keep b o (I.ok.bs b o e).1 (I.ok.bs b o e).2 (I.ok.NA e) (I.ok.noex b o e),I.base.free b o (I.ok.bs b o e).1 (I.ok.bs b o e).2 (I.ok.noex b o e)⟩
theorem Inv.bk(I:Inv X pins σ H s):∀b o,X.base.get? b=some o->s.heap.get? b=some o:=fun b o e=>(I.bs b o e).1
theorem Inv.mod(I:Inv X pins σ H s):Mod X.K X.mg X.base:=I.ok.mod
theorem Inv.vq(I:Inv X pins σ H s):X.K.In s.heap:=I.ok.mod.kin.keeps I.bk
theorem Inv.lt(I:Inv X pins σ H s):X.env.locals < s.heap.objs.size:=let⟨_,hn,_⟩:=I.loc;hn.lt
theorem Inv.sz(I:Inv X pins σ H s):X.s₀.heap.objs.size<=s.heap.objs.size:=Nat.le_trans I.ok.above (Nat.le_of_lt I.lt)
theorem Inv.N6(I:Inv X pins σ H s){a:Addr}(h:s.heap.objs.size<=a):a ∉ X.fs:=fun hb=>by
 obtain⟨_,o,ho,_⟩:=I.ok.oG.mem hb;exact absurd (Nat.lt_of_lt_of_le (Heap.lt_size ho) (Nat.le_trans I.sz h)) (Nat.lt_irrefl _)
theorem Inv.Jg(I:Inv X pins σ H s):∀x c,X.env.cells.lookup x=some c->c≠X.env.locals:=fun x c e z=>by
 obtain⟨v,o,ho,hd⟩:=I.cell x c e;obtain⟨m,⟨o',es,ep,we,F8,_⟩,_⟩:=I.loc;rw[z,we] at ho;cases ho;rw [F8] at hd;cases hd
theorem Inv.oG(I:Inv X pins σ H s):s.heap.FunFrames X.base X.outer:=by
 have all:∀(l:List Env),(∀b∈pH l,b∈X.fs)->X.s₀.heap.FunFrames X.base l->s.heap.FunFrames X.base l:=by
  intro l
  induction l with
  | nil=>intro _ _;trivial
  | cons env r ih=>
    intro hs hl;obtain⟨hk,⟨L,o,hf,hn,ho,hd⟩,hr⟩:=hl;have hL:L∈X.fs:=hs L (by unfold pH;rw [List.filterMap_cons,hf];exact List.mem_cons_self)
    obtain⟨sl,e⟩:=I.base.slot L o ho (I.ok.frf L hL) hL fun z=>I.ok.exfs L z hL
    exact⟨hk,⟨L,_,hf,hn,e,hd⟩,ih (fun b hb=>hs b (by unfold pH;rw [List.filterMap_cons,hf];exact List.mem_cons_of_mem _ hb)) hr⟩
 exact all X.outer (fun _ hb=>hb) I.ok.oG
theorem Inv.stack(I:Inv X pins σ H s):s.heap.FunFrames X.base X.stack:=by
 rcases I.ok.stk with e | ⟨e,hf⟩
 .rw [e];exact I.oG
 .rw [e];obtain⟨m,hn,_⟩:=I.loc;refine .cons (by rw[I.ok.kind];decide) hf hn ?_ I.oG
  exact Heap.get?_none_of_le (Nat.le_trans I.ok.bsz I.ok.above)
theorem Inv.w9(I:Inv X pins σ H s):∀b∈pH X.stack,b∈X.env.locals ::X.fs:=fun b hb=>by
 rcases I.ok.stk with e | ⟨e,hf⟩
 .rw [e] at hb;exact List.mem_cons_of_mem _ hb
 .rw [e] at hb;unfold pH at hb;rw[List.filterMap_cons,hf] at hb;exact hb
theorem Inv.pR(I:Inv X pins σ H s):∀b∈pH X.stack,H b=none:=fun b hb=>by
 rcases List.mem_cons.mp (I.w9 b hb) with e | hb
 .rw [e];exact I.free
 .obtain⟨_,o,ho,_⟩:=I.ok.oG.mem hb;exact I.base.free b o ho (I.ok.frf b hb) fun z=>I.ok.exfs b z hb
theorem Inv.step{g':Array GenState}{t':Nat}{d':Drawn}{ch:List Addr}(I:Inv X pins σ H s)
 (DP:∀b∈ch,(b∈X.ex\/X.s₀.heap.objs.size<=b)/\b≠X.env.locals/\(∀x c,X.env.cells.lookup x=some c->c≠b)/\∀p∈X.pn++pins,p.1≠b)
 (keep:∀b o,b≠X.env.locals->b ∉ X.fs->b ∉ ch->s.heap.get? b=some o->H b=none->h'.get? b=some o)
 (slot:∀b o,b≠X.env.locals->b∈X.fs->b ∉ ch->s.heap.get? b=some o->H b=none->∃sl,h'.get? b=some {o with slots:=sl}) (free:∀b o,b ∉ ch->s.heap.get? b=some o->H b=none->H' b=none)
 (there:∀b o,b ∉ ch->s.heap.get? b=some o->∃o',h'.get? b=some o')
 (tups:∀b xs,H b=some (.tup xs)->H' b=some (.tup xs)) (frzs:∀b o u,H b=some (.kT o u)->H' b=some (.kT o u)) (tbls:∀b ps,H b=some (.tbl ps)->∃more,H' b=some (.tbl (ps++more)))
 (ns:∀m,s.heap.Ns X.env.locals m->h'.Ns X.env.locals m) (hok:l6 X.prog X.w H' h') (hg:AllBare g') :
 Inv X pins σ H' {s with heap:=h',gens:=g',drawn:=d',toks:=t'}:=by
 have neL:∀b o,X.s₀.heap.get? b=some o->b≠X.env.locals:=fun b o e=>Nat.ne_of_lt (Nat.lt_of_lt_of_le (Heap.lt_size e) I.ok.above)
 have neC:∀b o,X.s₀.heap.get? b=some o->b ∉ X.ex->b ∉ ch:=fun b o e hx hb=>by
  rcases(DP b hb).1 with z | z
  .exact hx z
  .exact absurd (Nat.lt_of_lt_of_le (Heap.lt_size e) z) (Nat.lt_irrefl _)
 have cellK:∀x c,X.env.cells.lookup x=some c->∀v,s.heap.IsCell c v->h'.IsCell c v:=fun x c e v ⟨o,ho,hd⟩=>by
  have nch:c ∉ ch:=fun z=>(DP c z).2.2.1 x c e rfl
  by_cases hc:c∈X.fs
  .obtain⟨sl,q⟩:=slot c o (I.Jg x c e) hc nch ho (I.freeC x c e);exact⟨_,q,hd⟩
  .exact⟨o,keep c o (I.Jg x c e) hc nch ho (I.freeC x c e),hd⟩
 refine⟨I.ok,I.os,hg,⟨fun b o e n hb hx=>?_,fun b o e n hb hx=>?_,fun b o e n hx=>?_,fun b o e hx=>?_,fun b xs e=>tups b xs (I.base.tups b xs e),fun b o xs e=>frzs b o xs (I.base.frzs b o xs e),fun b ps e=>?_⟩,?_,fun x c e=>?_,?_,fun x c e=>?_,fun p hp=>?_,hok,I.len⟩
 .exact keep b o (neL b o e) hb (neC b o e hx) (I.base.keep b o e n hb hx) (I.base.free b o e n hx)
 .obtain⟨sl,e1⟩:=I.base.slot b o e n hb hx;obtain⟨Ur,e2⟩:=slot b _ (neL b o e) hb (neC b o e hx) e1 (I.base.free b o e n hx);exact⟨Ur,e2⟩
 .obtain⟨o',e1⟩:=I.base.there b o e hx;exact free b o' (neC b o e hx) e1 (I.base.free b o e n hx)
 .obtain⟨o',e1⟩:=I.base.there b o e hx;exact there b o' (neC b o e hx) e1
 .obtain⟨m1,e1⟩:=I.base.tbls b ps e;obtain⟨m2,e2⟩:=tbls b _ e1;exact⟨m1++m2,by rw[e2,Array.append_assoc]⟩
 .obtain⟨m,hn,hl⟩:=I.loc;refine⟨m,ns m hn,fun i x v e1 e2 e3=>?_⟩
  obtain⟨u,r,l⟩:=hl i x v e1 e2 e3;refine⟨u,r,?_⟩;rcases l with l | ⟨k,c,e,z⟩
  .exact .inl l
  .exact .inr ⟨k,c,e,cellK x c e _ z⟩
 .obtain⟨v,z⟩:=I.cell x c e;exact⟨v,cellK x c e v z⟩
 .obtain⟨m,⟨o,_,_,ho,_⟩,_⟩:=I.loc;exact free _ o (fun z=>(DP _ z).2.1 rfl) ho I.free
 .obtain⟨v,o,ho,hd⟩:=I.cell x c e;exact free c o (fun z=>(DP c z).2.2.1 x c e rfl) ho (I.freeC x c e)
 .obtain⟨e,n,ne,nf,d⟩:=I.pin p hp;have nch:p.1 ∉ ch:=fun z=>(DP p.1 z).2.2.2 p hp rfl
  exact⟨keep p.1 p.2 ne nf nch e n,free p.1 p.2 nch e n,ne,nf,d⟩
theorem Inv.un{t':Nat}(I:Inv X pins σ H s)(u:Un X.fs [] H H' s.heap h')(hok:l6 X.prog X.w H' h'):Inv X pins σ H' {s with heap:=h',toks:=t'}:=by
 obtain⟨m,⟨o,es,ep,ho,r⟩,_⟩:=id I.loc;obtain⟨sl,hL⟩:=u.any ho I.free (by simp)
 exact I.step (g':=s.gens) (d':=s.drawn) (ch:=[]) (fun _ z=>nomatch z) (fun b o _ hb _ e n=>u.keep b o e n hb (by simp)) (fun b o _ hb _ e n=>u.slot b o e n hb (by simp)) (fun b o _ e n=>u.free b o e n (by simp)) (fun b o _ e=>u.there b o e (by simp)) u.tups u.frzs u.tbls (fun m' hm=>by
  obtain⟨o',OS,O7,we,r'⟩:=hm;rw[ho] at we;cases we;exact⟨_,OS,O7,hL,r'⟩) hok I.bare
theorem Inv.call{g':Array GenState}{t':Nat}{d':Drawn}{ch:List Addr}(I:Inv X pins σ H s)(u:Un (pH X.stack) ch H H' s.heap h')(hok:l6 X.prog X.w H' h')(hg:AllBare g')
 (DP:∀b∈ch,(b∈X.ex\/X.s₀.heap.objs.size<=b)/\b≠X.env.locals/\(∀x c,X.env.cells.lookup x=some c->c≠b)/\∀p∈X.pn++pins,p.1≠b) :
 Inv X pins σ H' {s with heap:=h',gens:=g',drawn:=d',toks:=t'}:=by
 obtain⟨m,⟨o,es,ep,ho,r⟩,_⟩:=id I.loc;obtain⟨sl,hL⟩:=u.any ho I.free fun z=>(DP _ z).2.1 rfl
 exact I.step (ch:=ch) DP (fun b o hL hb hc e n=>u.keep b o e n (fun z=>(List.mem_cons.mp (I.w9 b z)).elim hL hb) hc) (fun b o _ _ hc e n=>u.any e n hc) (fun b o hc e n=>u.free b o e n hc) (fun b o hc e=>u.there b o e hc) u.tups u.frzs u.tbls (fun m' hm=>by
  obtain⟨o',OS,O7,we,r'⟩:=hm;rw[ho] at we;cases we;exact⟨_,OS,O7,hL,r'⟩) hok hg
theorem Inv.turned{t':Nat}{it:Addr}(I:Inv X pins σ H s)(k:∀b o,b≠it->s.heap.get? b=some o->h'.get? b=some o)(hn:H it=none)(hL:it≠X.env.locals)
 (h1:it∈X.ex\/X.s₀.heap.objs.size<=it) (h2:∀x c,X.env.cells.lookup x=some c->c≠it) (h3:∀p∈X.pn++pins,p.1≠it):Inv X pins σ H {s with heap:=h',toks:=t'}:=by
 have nit:∀b u,H b=some u->b≠it:=fun b u e z=>by rw[z,hn] at e;cases e
 refine I.step (g':=s.gens) (d':=s.drawn) (ch:=[it]) (fun b hb=>?_) (fun b o _ _ hc e _=>k b o (fun z=>hc (by simp [z])) e) (fun b o _ _ hc e _=>⟨o.slots,k b o (fun z=>hc (by simp [z])) e⟩) (fun _ _ _ _ n=>n)
  (fun b o hc e=>⟨o,k b o (fun z=>hc (by simp [z])) e⟩) (fun _ _ e=>e) (fun _ _ _ e=>e) (fun b ps e=>⟨#[],by rw[e];simp⟩) (fun m hm=>?_) (fun b u e=>?_) I.bare
 .have e:b=it:=by simpa using hb
  subst e;exact⟨h1,hL,h2,h3⟩
 .obtain⟨o,es,ep,ho,r⟩:=hm;exact⟨o,es,ep,k _ o (Ne.symm hL) ho,r⟩
 .refine(I.hok b u e).wH (fun c v hc q=>k c v ?_ q) (fun _ q=>q) fun _ _ q=>q
  rcases hc with z | z
  .rw [z];exact nit b u e
  .exact nit c _ z
theorem Inv.tok(I:Inv X pins σ H s)(t:Nat):Inv X pins σ H {s with toks:=t}:=I.un (h':=s.heap) (t':=t) Un.refl I.hok
theorem Inv.kept{t':Nat}(I:Inv X pins σ H s)(k:∀b u,s.heap.get? b=some u->h'.get? b=some u):Inv X pins σ H {s with heap:=h',toks:=t'}:=I.un (Un.kept k) (I.hok.kept k)
theorem Inv.laid{a:Addr}{o:HO}{t':Nat}(I:Inv X pins σ H s)(k:∀b u,s.heap.get? b=some u->h'.get? b=some u)(hp:s.heap.objs.size<=a)(new:d8 X.prog X.w (upd H a o) h' a o) :
 Inv X pins σ (upd H a o) {s with heap:=h',toks:=t'}:=I.un (Un.laid k hp (I.hok.fresh hp)) (I.hok.laid k hp new)
theorem Inv.write{x e:Addr}{o:HO}{t':Nat}(I:Inv X pins σ H s)(mu:Lg (H x))(he:e=x\/H e=some (.own x))(k:∀b u,b≠e->s.heap.get? b=some u->h'.get? b=some u)(G0:∃u,h'.get? e=some u)
 (new:d8 X.prog X.w (upd H x o) h' x o):Inv X pins σ (upd H x o) {s with heap:=h',toks:=t'}:=I.un (Un.write mu he k G0) (I.hok.write mu he k G0 new)
theorem Inv.ym{Dy:V6}(I:Inv X pins σ H s)(h:∀p∈Dy,s.heap.get? p.1=some p.2/\H p.1=none/\p.1≠X.env.locals/\p.1 ∉ X.fs/\∀v,p.2.data≠ .cell v):Inv X Dy σ H s:=
 ⟨I.ok,I.os,I.bare,I.base,I.loc,I.cell,I.free,I.freeC,fun p hp=>(List.mem_append.mp hp).elim (fun z=>I.pin p (List.mem_append_left _ z)) (h p),I.hok,I.len⟩
theorem iO{N:List Str}(hN:N.Nodup){i j:Nat}(a:N[i]? =some x)(b:N[j]? =some x):i=j:=by
 obtain⟨h1,e1⟩:=List.getElem?_eq_some_iff.mp a;obtain⟨h2,e2⟩:=List.getElem?_eq_some_iff.mp b;exact(List.getElem_inj hN).mp (e1.trans e2.symm)
theorem rQ{M:Model}{A:Around}{E:V7}{i:Nat}{x:Str}{v:V}{u:Value}{Q:Unit->Shared->Prop}(I:Inv X pins σ H s)(hN:X.N.Nodup)(hi:X.N[i]? =some x)(hx:Loc X.env.scope x)(r:RelV v u)
 (h:∀s',Inv X pins (σ.set i (some v)) H s'->(∃a,Heap.SameBut a s.heap s'.heap/\(a=X.env.locals\/X.env.cells.lookup x=some a))->Q () s') (hf:X.fn x=true\/X.env.scope.names.lookup x=some .local:=by first | exact .inl rfl | exact .inr rfl | assumption):wpAny M A (storeName X.env x u) Q E s:=by
 obtain⟨m,hn,hl⟩:=id I.loc;have hcls:(X.env.scope.kind== .class || (X.env.scope.kind== .module && X.env.locals !=X.env.globals))=false:=by rw[I.ok.kind];rfl
 have hiσ:i < σ.length:=by rw[I.len];exact(List.getElem?_eq_some_iff.mp hi).1
 have Jg:=I.Jg;have tracked:∀{a:Addr} {h':Heap},(∃o,s.heap.get? a=some o/\H a=none)->Heap.SameBut a s.heap h'->l6 X.prog X.w H h':=fun {a h'} ha hs b ob e=>by
  obtain⟨_,_,hfree⟩:=ha;refine(I.hok b ob e).wH (fun c w' hc q=>(hs.2 c ?_).trans q) (fun _ q=>q) fun _ _ q=>q
  rintro rfl;rcases hc with rfl | hc
  .rw [hfree] at e;cases e
  .rw [hfree] at hc;cases hc
 rcases hx with hk | hk
 .refine wpAny_storeName_local hk hn (fun h' Uh hs=>?_) hcls
  obtain⟨oL,_,_,hoL,_⟩:=id hn;refine h _ ⟨I.ok,I.os,I.bare,⟨fun b o e n hb hx=>?_,fun b o e n hb hx=>?_,I.base.free,fun b o e hx=>?_,I.base.tups,I.base.frzs,I.base.tbls⟩,⟨_,Uh,fun j y v' e1 e2 e3=>?_⟩,fun y c e=>?_,I.free,I.freeC,fun p hp=>?_,tracked ⟨oL,hoL,I.free⟩ hs,by simpa using I.len⟩ ⟨_,hs, .inl rfl⟩
  .exact(hs.2 b (Nat.ne_of_lt (Nat.lt_of_lt_of_le (Heap.lt_size e) I.ok.above))).trans (I.base.keep b o e n hb hx)
  .obtain⟨sl,e1⟩:=I.base.slot b o e n hb hx;exact⟨sl,(hs.2 b (Nat.ne_of_lt (Nat.lt_of_lt_of_le (Heap.lt_size e) I.ok.above))).trans e1⟩
  .obtain⟨o',e1⟩:=I.base.there b o e hx;exact⟨o',(hs.2 b (Nat.ne_of_lt (Nat.lt_of_lt_of_le (Heap.lt_size e) I.ok.above))).trans e1⟩
  .by_cases hj:j=i
   .subst hj;rw[hi] at e1;cases e1;rw[List.getElem?_set_self hiσ] at e2;cases e2;exact⟨u,r, .inl ⟨hk,by simp⟩⟩
   .rw [List.getElem?_set_ne (Ne.symm hj)] at e2;obtain⟨u',r',q⟩:=hl j y v' e1 e2 e3;refine⟨u',r',?_⟩;rcases q with⟨k,e⟩ | ⟨k,c,e,z⟩
    .refine .inl ⟨k,?_⟩;have:y≠x:=fun e=>hj (iO hN e1 (e▸hi))
     simp [this,e]
    .exact .inr ⟨k,c,e,z.sameBut hs (Jg y c e)⟩
  .obtain⟨w',z⟩:=I.cell y c e;exact⟨w',z.sameBut hs (Jg y c e)⟩
  .obtain⟨e,n,ne,nf,d⟩:=I.pin p hp;exact⟨(hs.2 p.1 ne).trans e,n,ne,nf,d⟩
 .have hfn:X.fn x=true:=by
   rcases hf with z | z
   .exact z
   .rw [z] at hk;cases hk
  obtain⟨c,hc⟩:=I.ok.has x (.inl hk);obtain⟨w',z⟩:=I.cell x c hc;refine wpAny_storeName_cell I.ok.kind hk hc z (fun h' AM hs=>?_)
  obtain⟨oc,hoc,hocd⟩:=id z;refine h {s with heap:=h'} ⟨I.ok,I.os,I.bare,⟨fun b o e n hb hx=>?_,fun b o e n hb hx=>?_,I.base.free,fun b o e hx=>?_,I.base.tups,I.base.frzs,I.base.tbls⟩,⟨m,hn.sameBut hs (Ne.symm (Jg x c hc)),fun j y v' e1 e2 e3=>?_⟩,fun y c' e=>?_,I.free,I.freeC,fun p hp=>?_,tracked ⟨oc,hoc,I.freeC x c hc⟩ hs,by simpa using I.len⟩ ⟨c,hs, .inr hc⟩
  .exact(hs.2 b (Nat.ne_of_lt (Nat.lt_of_lt_of_le (Heap.lt_size e) (I.ok.cab x c hfn hc)))).trans (I.base.keep b o e n hb hx)
  .obtain⟨sl,e1⟩:=I.base.slot b o e n hb hx;exact⟨sl,(hs.2 b (Nat.ne_of_lt (Nat.lt_of_lt_of_le (Heap.lt_size e) (I.ok.cab x c hfn hc)))).trans e1⟩
  .obtain⟨o',e1⟩:=I.base.there b o e hx;exact⟨o',(hs.2 b (Nat.ne_of_lt (Nat.lt_of_lt_of_le (Heap.lt_size e) (I.ok.cab x c hfn hc)))).trans e1⟩
  .by_cases hj:j=i
   .subst hj;rw[hi] at e1;cases e1;rw[List.getElem?_set_self hiσ] at e2;cases e2;exact⟨u,r, .inr ⟨.inl hk,c,hc,AM⟩⟩
   .rw [List.getElem?_set_ne (Ne.symm hj)] at e2;obtain⟨u',r',q⟩:=hl j y v' e1 e2 e3;refine⟨u',r',?_⟩;rcases q with q | ⟨k,c',e,z'⟩
    .exact .inl q
    .refine .inr ⟨k,c',e,z'.sameBut hs ?_⟩;rintro rfl;exact hj (iO hN e1 (I.ok.inj _ _ _ e hc▸hi))
  .by_cases hcc:c'=c
   .subst hcc;exact⟨_,AM⟩
   .obtain⟨w2,z2⟩:=I.cell y c' e;exact⟨w2,z2.sameBut hs hcc⟩
  .obtain⟨e,n,ne,nf,d⟩:=I.pin p hp;refine⟨(hs.2 p.1 ?_).trans e,n,ne,nf,d⟩;intro q;rw[q,hoc] at e;have q':oc=p.2:=Option.some.inj e;exact d w' (by rw[<-q'];exact hocd)
theorem vi{M:Model}{A:Around}{E:V7}{i:Nat}{x:Str}{v:V}{u:Value}{Q:Unit->Shared->Prop}(I:Inv X pins σ H s)(hN:X.N.Nodup)(hi:X.N[i]? =some x)(hx:Loc X.env.scope x)(r:RelV v u)
 (h:∀s',Inv X pins (σ.set i (some v)) H s'->Q () s') (hf:X.fn x=true\/X.env.scope.names.lookup x=some .local:=by first | exact .inl rfl | exact .inr rfl | assumption):wpAny M A (storeName X.env x u) Q E s:=
 rQ I hN hi hx r (fun s' I' _=>h s' I') hf
theorem Inv.Ln{s':Shared}{ch:List Addr}(I:Inv X pins σ H s)(ho:s'.os=s.os)(u:Un (pH X.stack) ch H H' s.heap s'.heap)(hok:l6 X.prog X.w H' s'.heap)(hg:AllBare s'.gens)
 (DP:∀b∈ch,(b∈X.ex\/X.s₀.heap.objs.size<=b)/\b≠X.env.locals/\(∀x c,X.env.cells.lookup x=some c->c≠b)/\∀p∈X.pn++pins,p.1≠b):Inv X pins σ H' s':=by
 obtain⟨h',g',d',t',o'⟩:=s';have e:o'=s.os:=ho;subst e;exact I.call (g':=g') (t':=t') (d':=d') u hok hg DP
end
abbrev XK:=Value->Option Addr->Hp->Prop
abbrev St:=List (Option V)
abbrev VK:=V->Hp->Prop
abbrev TE:=St->Hp->VK->Prop
abbrev TT:=St->Hp->(Bool->Hp->Prop)->Prop
abbrev TA:=St->Hp->(List V->Hp->Prop)->Prop
structure Ends where
 nx:St->Hp->Prop
 rt:VK
 bk:St->Hp->Prop:=fun _ _=>False
 ct:St->Hp->Prop:=fun _ _=>False
abbrev TS:=Ends->St->Hp->Prop
def EP(X:Cx)(pins:V6)(σ:St)(Q:VK)(u:Value)(s':Shared):Prop:=∃v H',Inv X pins σ H' s'/\RelV v u/\Q v H'
def TP(X:Cx)(pins:V6)(σ:St)(Q:Bool->Hp->Prop)(b:Bool)(s':Shared):Prop:=∃H',Inv X pins σ H' s'/\Q b H'
def AP(X:Cx)(pins:V6)(σ:St)(Q:List V->Hp->Prop)(us:List Value)(s':Shared):Prop:=∃vs H',Inv X pins σ H' s'/\Vals vs us/\Q vs H'
def SP(X:Cx)(pins:V6)(D:Ends)(f:Flow)(s':Shared):Prop:=
 match f with
 | .next=>∃cB H',Inv X pins cB H' s'/\D.nx cB H'
 | .brk=>∃cB H',Inv X pins cB H' s'/\D.bk cB H'
 | .cont=>∃cB H',Inv X pins cB H' s'/\D.ct cB H'
 | .ret u=>∃v cB H',Inv X pins cB H' s'/\RelV v u/\D.rt v H'
def PE(X:Cx)(e:Expr)(t:TE):Prop:=
 ∀(pins:V6) (s:Shared) (σ:St) (H:Hp) (Q:VK),Inv X pins σ H s->t σ H Q->wpAny (model X.prog X.w) X.A (eval e X.env) (EP X pins σ Q) X.xe s
def PT(X:Cx)(e:Expr)(t:TT):Prop:=
 ∀(pins:V6) (s:Shared) (σ:St) (H:Hp) (Q:Bool->Hp->Prop),Inv X pins σ H s->t σ H Q->wpAny (model X.prog X.w) X.A (isTrue e X.env (eval e X.env)) (TP X pins σ Q) X.xe s
def PW(X:Cx)(e:Expr)(t:TT):Prop:=
 ∀(whole:Sem Value) (pins:V6) (s:Shared) (σ:St) (H:Hp) (Q:Bool->Hp->Prop),Inv X pins σ H s->t σ H Q->wpAny (model X.prog X.w) X.A (isTrue e X.env whole) (TP X pins σ Q) X.xe s
theorem PW.pt{X:Cx}{t:TT}(h:PW X e t):PT X e t:=h _
def PA(X:Cx)(es:List Expr)(t:TA):Prop:=
 ∀(pos:Pos) (pins:V6) (s:Shared) (σ:St) (H:Hp) (Q:List V->Hp->Prop),Inv X pins σ H s->t σ H Q->wpAny (model X.prog X.w) X.A (spliced (backTo pos (starEach es X.env))) (AP X pins σ Q) X.xe s
def PS(X:Cx)(st:Stmt)(t:TS):Prop:=
 ∀(pins:V6) (s:Shared) (σ:St) (H:Hp) (D:Ends),Inv X pins σ H s->t D σ H->wpAny (model X.prog X.w) X.A (exec st X.env) (SP X pins D) X.xe s
def sQ(X:Cx)(st:List Stmt)(t:TS):Prop:=
 ∀(pins:V6) (s:Shared) (σ:St) (H:Hp) (D:Ends),Inv X pins σ H s->t D σ H->wpAny (model X.prog X.w) X.A (execs st X.env) (SP X pins D) X.xe s
theorem cO{α:Type}{t:Sem α}{Q Q':α->Shared->Prop}{M:Model}{E:V7}{s:Shared}(h:wpAny M A t Q E s)(hQ:∀a s,Q a s->Q' a s):wpAny M A t Q' E s:=wpAny_mono h hQ fun _ _ x=>x
section
variable {X:Cx}
def N2(i:Nat):TE:=fun σ H Q=>∃v,σ[i]? =some (some v)/\Q v H
def tC(v:V):TE:=fun _ H Q=>Q v H
theorem xh{i:Nat}{pos:Pos}(hN:X.N[i]? =some x)(hv:HX X.env.scope x)(hd:(x==("__debug__":Str))=false:=by decide)(rM:(x==("__classdict__":Str))=false:=by decide):PE X (.Name x pos) (N2 i):=by
 intro pins s σ H Q I h;obtain⟨v,e,h⟩:=h;obtain⟨m,hn,hl⟩:=I.loc;obtain⟨u,r,l⟩:=hl i x v hN e hv;have fin:EP X pins σ Q u s:=⟨v,H,I,r,h⟩;rcases l with⟨hk,hm⟩ | ⟨hk,c,hc,hcell⟩
 .exact wpAny_Name (wpAny_loadName_local I.ok.kind hk hn hm fin) hd
 .rcases hk with hk | hk
  .exact wpAny_Name (wpAny_loadName_cell I.ok.kind hk hc hcell fin) hd
  .exact wpAny_Name (wpAny_loadName_free I.ok.kind hk hc hcell fin rM) hd
theorem qM{i j pos}:PE X (.Constant (.int i) j pos) (tC (.int i)):=fun _ _ _ H _ I h=>wpAny_Constant_int ⟨.int i,H,I.tok _,⟨_,rfl⟩,h⟩
theorem K8{b j pos}:PE X (.Constant (.bool b) j pos) (tC (.bl b)):=fun _ _ _ H _ I h=>Constant_bool ⟨.bl b,H,I,rfl,h⟩
theorem qJ{x j pos}:PE X (.Constant (.str x) j pos) (tC (.str x)):=fun _ _ _ H _ I h=>Calls.Constant_str ⟨.str x,H,I.tok _,⟨_,rfl⟩,h⟩
def Gl(X:Cx)(x:Str):Prop:=X.env.kindOf x=some .globalImplicit
theorem p9{E:V7}{pins:V6}{s:Shared}{σ:St}{H:Hp}{x:Str}{u:Value}{pos:Pos}{Q:V7}(I:Inv X pins σ H s)(hg:Gl X x)(hm:X.mg x=some u)(h:Q u s)
 (hd:(x==("__debug__":Str))=false:=by decide):wpAny (model X.prog X.w) X.A (eval (.Name x pos) X.env) Q E s:=
 Calls.Name_function_global I.ok.kind hg (Calls.loadGlobal_global (by rw[I.ok.glob];exact I.mod.glob.keeps I.bk) hm h) hd
theorem sV{E:V7}{pins:V6}{s:Shared}{σ:St}{H:Hp}{x:Str}{u:Value}{pos:Pos}{Q:V7}(I:Inv X pins σ H s)(hg:Gl X x)(hm:X.mg x=none)(hv:bootBuiltins x=some u)(h:Q u s)
 (hn:x≠"__name__":=by decide) (hd:(x==("__debug__":Str))=false:=by decide):wpAny (model X.prog X.w) X.A (eval (.Name x pos) X.env) Q E s:=by
 obtain⟨mb,h1,h2⟩:=I.mod.blt;exact Calls.Name_function_global I.ok.kind hg (Calls.loadGlobal_builtin (by rw[I.ok.glob];exact I.mod.glob.keeps I.bk) hm (by rw[I.ok.blt];exact h1.keeps I.bk) ((h2 x hn).trans hv) h) hd
theorem y_{v:V}{u:Value}{pos:Pos}(hg:Gl X x)(hm:X.mg x=some u)(r:RelV v u)(hd:(x==("__debug__":Str))=false:=by decide):PE X (.Name x pos) (tC v):=
 fun _ _ _ H _ I h=>p9 I hg hm ⟨v,H,I,r,h⟩ hd
def Mm(ta tb:TE)(k:Int->Int->Hp->Prop):St->Hp->Prop:=fun σ H=>ta σ H fun x H1=>tb σ H1 fun y H2=>∃i j,x= .int i/\y= .int j/\k i j H2
def Sd(ta tb:TE):TE:=fun σ H Q=>Mm ta tb (fun i j H2=>Q (.int (i+j)) H2) σ H
def TL(ta tb:TE):TE:=fun σ H Q=>Mm ta tb (fun i j H2=>Q (.int (i - j)) H2) σ H
def To(ta tb:TE):TE:=fun σ H Q=>Mm ta tb (fun i j H2=>(-(2 ^ 64) < i/\i < 2 ^ 64)/\Q (.int (i*j)) H2) σ H
variable {a b:Expr} {ta tb:TE} {pos:Pos}
def PC(X:Cx)(op:CmpOp)(a b:Expr)(t:TE):Prop:=
 ∀(pins:V6) (s:Shared) (σ:St) (H:Hp) (Q:VK),Inv X pins σ H s->t σ H Q->
  wpAny (model X.prog X.w) X.A (eval a X.env) (fun v s₁=>wpAny (model X.prog X.w) X.A (eval b X.env) (fun u v8=>wpAny (model X.prog X.w) X.A (compareOp op v u) (EP X pins σ Q) X.xe v8) X.xe s₁) X.xe s
def zU(p:Int->Int->Bool)(ta tb:TE):TE:=fun σ H Q=>Mm ta tb (fun i j H2=>Q (.bl (p i j)) H2) σ H
abbrev Vz:TE->TE->TE:=zU fun i j=>decide (i < j)
abbrev VR:TE->TE->TE:=zU fun i j=>decide (i<=j)
abbrev Vv:TE->TE->TE:=zU fun i j=>decide (j < i)
abbrev Vk:TE->TE->TE:=zU fun i j=>decide (j<=i)
abbrev Tz:TE->TE->TE:=zU fun i j=>decide (i=j)
abbrev SY:TE->TE->TE:=zU fun i j=>!decide (i=j)
def Sf(ta:TE):TE:=fun σ H Q=>ta σ H fun x H1=>Q (.bl (decide (x= .cH))) H1
def Qs(ta:TE):TE:=fun σ H Q=>ta σ H fun x H1=>Q (.bl (!decide (x= .cH))) H1
def tB(t:TE):TT:=fun σ H Q=>t σ H fun x H1=>∃c,x= .bl c/\Q c H1
theorem Jq{op:CmpOp}{t:TE}(h:PC X op a b t)(h1:behindInMarks op b=false:=by first | exact nobehind _ (by decide) (by decide) | rfl):PE X (.Compare a [op] [b] pos) t:=fun pins s σ H Q I hw=>wpAny_Compare1 (h pins s σ H Q I hw) h1
theorem wU{op:CmpOp}{t:TE}(h:PC X op a b t)(h1:behindInMarks op b=false:=by first | exact nobehind _ (by decide) (by decide) | rfl):PT X (.Compare a [op] [b] pos) (tB t):=by
 intro pins s σ H Q I hw;refine wpAny_isTrue_Compare1 (cO (h pins s σ H _ I hw) fun v s1 h1=>cO h1 fun u s2 h2=>cO h2 fun c s3 ⟨x,H1,I1,r1,q1⟩=>?_) h1
 obtain⟨d,rfl,q⟩:=q1;cases r1;exact wpAny_truthy_bool ⟨H1,I1,q⟩
variable {tA MP:TT} {rest:List Expr}
def Np(t u:TT):TT:=fun σ H Q=>t σ H fun c H1=>if c=true then u σ H1 Q else Q false H1
def R4(t u:TT):TT:=fun σ H Q=>t σ H fun c H1=>if c=true then Q true H1 else u σ H1 Q
def NV(t:TT):TT:=fun σ H Q=>t σ H fun c H1=>Q (!c) H1
theorem Et(ha:PT X a tA):PW X (.BoolOp .And [a] pos) tA:=by
 intro wh pins s σ H Q I h;refine isTrue_and (cO (ha pins s σ H Q I h) fun c s1 e=>?_)
 cases c with
 | true=>exact isTrue_and_nil e
 | false=>exact e
theorem AW(ha:PT X a tA):PW X (.BoolOp .Or [a] pos) tA:=by
 intro wh pins s σ H Q I h;refine isTrue_or (cO (ha pins s σ H Q I h) fun c s1 e=>?_)
 cases c with
 | false=>exact isTrue_or_nil e
 | true=>exact e
theorem Ju(ha:PT X a tA)(hb:PW X (.BoolOp .And (b ::rest) pos) MP):PW X (.BoolOp .And (a ::b ::rest) pos) (Np tA MP):=by
 intro wh pins s σ H Q I h;refine isTrue_and (cO (ha pins s σ H _ I h) fun c s1 ⟨H1,I1,q1⟩=>?_)
 cases c with
 | true=>exact hb wh pins s1 σ H1 Q I1 q1
 | false=>exact⟨H1,I1,q1⟩
theorem GK(ha:PT X a tA)(hb:PW X (.BoolOp .Or (b ::rest) pos) MP):PW X (.BoolOp .Or (a ::b ::rest) pos) (R4 tA MP):=by
 intro wh pins s σ H Q I h;refine isTrue_or (cO (ha pins s σ H _ I h) fun c s1 ⟨H1,I1,q1⟩=>?_)
 cases c with
 | true=>exact⟨H1,I1,q1⟩
 | false=>exact hb wh pins s1 σ H1 Q I1 q1
theorem Dk(ha:PT X a tA):PT X (.UnaryOp .Not a pos) (NV tA):=by
 intro pins s σ H Q I h;exact isTrue_not (ha pins s σ H (fun c H1=>Q (!c) H1) I h)
def Ly(ta tb:TE):TE:=fun σ H Q=>ta σ H fun x H1=>∃c,x= .bl c/\if c=true then tb σ H1 Q else Q (.bl false) H1
def NH(ta tb:TE):TE:=fun σ H Q=>ta σ H fun x H1=>∃c,x= .bl c/\if c=true then Q (.bl true) H1 else tb σ H1 Q
def K_(ta:TE):TE:=fun σ H Q=>ta σ H fun x H1=>∃c,x= .bl c/\Q (.bl (!c)) H1
theorem Iu{op}{t:TE}(h:PE X a t):PE X (.BoolOp op [a] pos) t:=fun pins s σ H Q I hw=>BoolOp_one (h pins s σ H Q I hw)
theorem IM(ha:PE X a ta)(hb:PE X (.BoolOp .And (b ::rest) pos) tb):PE X (.BoolOp .And (a ::b ::rest) pos) (Ly ta tb):=by
 intro pins s σ H Q I h;refine BoolOp_and (cO (ha pins s σ H _ I h) fun v s1 ⟨x,H1,I1,r1,q1⟩=>?_)
 obtain⟨c,rfl,q1⟩:=q1;cases r1;refine wpAny_truthy_bool ?_;cases c with
 | true=>exact hb pins s1 σ H1 Q I1 q1
 | false=>exact⟨.bl false,H1,I1,rfl,q1⟩
theorem Ld(ha:PE X a ta)(hb:PE X (.BoolOp .Or (b ::rest) pos) tb):PE X (.BoolOp .Or (a ::b ::rest) pos) (NH ta tb):=by
 intro pins s σ H Q I h;refine BoolOp_or (cO (ha pins s σ H _ I h) fun v s1 ⟨x,H1,I1,r1,q1⟩=>?_)
 obtain⟨c,rfl,q1⟩:=q1;cases r1;refine wpAny_truthy_bool ?_;cases c with
 | false=>exact hb pins s1 σ H1 Q I1 q1
 | true=>exact⟨.bl true,H1,I1,rfl,q1⟩
theorem IC(ha:PE X a ta):PE X (.UnaryOp .Not a pos) (K_ ta):=by
 intro pins s σ H Q I h;refine UnaryOp_ (cO (ha pins s σ H _ I h) fun v s1 ⟨x,H1,I1,r1,q1⟩=>?_)
 obtain⟨c,rfl,q1⟩:=q1;cases r1;exact not_of (wpAny_truthy_bool ⟨.bl (!c),H1,I1,rfl,q1⟩)
def Vt(t:TT)(ta tb:TE):TE:=fun σ H Q=>t σ H fun c H1=>if c=true then ta σ H1 Q else tb σ H1 Q
end
def me(K:W.Frag)(H:Hp)(a:Addr)(xs:List V):Prop:=
 Rd H a (.lst xs)\/
  ∃(o:Obj) (its:Array Value) (n:Nat),K.lookup a=some o/\o.cls= .type "list"/\o.dict=none/\o.data= .seq its n/\its.size<=sizeLine/\Vals xs its.toList
def oz(K:W.Frag)(H:Hp)(a:Addr)(xs:List V):Prop:=
 Rd H a (.tup xs)\/
  ∃(o:Obj) (its:Array Value) (n:Nat),K.lookup a=some o/\o.cls= .type "tuple"/\o.data= .seq its n/\its.size<=sizeLine/\Vals xs its.toList
def MR:Value->Option V
 | .none=>some .cH
 | .bool b=>some (.bl b)
 | .int i _=>some (.int i)
 | .str x _=>some (.str x)
 | .bytes b _=>some (.byt b)
 | .float b _=>some (.flt b)
 | .ref a=>some (.ref a)
 | .type n=>some (.ty n)
 | _=>none
theorem RelV.abs{x:V}{u:Value}(r:RelV x u):MR u=some x:=by
 cases x with
 | cH=>cases r;rfl
 | bl _=>cases r;rfl
 | int _=>obtain⟨t,rfl⟩:=r;rfl
 | str _=>obtain⟨t,rfl⟩:=r;rfl
 | byt _=>obtain⟨t,rfl⟩:=r;rfl
 | flt _=>obtain⟨t,rfl⟩:=r;rfl
 | ref _=>cases r;rfl
 | ty _=>cases r;rfl
theorem RelV.inj{x y:V}{u:Value}(r:RelV x u)(q:RelV y u):x=y:=Option.some.inj (r.abs.symm.trans q.abs)
theorem Vals.inj:∀{xs ys:List V} {us:List Value},Vals xs us->Vals ys us->xs=ys
 | _,_,_, .nil, .nil=>rfl
 | _,_,_, .cons r t, .cons r' t'=>by rw[r.inj r',Vals.inj t t']
section
variable {X:Cx} {pins:V6} {σ:St} {H:Hp} {s:Shared} {a:Addr} {xs ys:List V}
theorem me.of{K:W.Frag}(h:H a=some (.lst xs)):me K H a xs:= .inl (.inl h)
theorem Inv.list(I:Inv X pins σ H s)(h:me X.K H a xs):∃its:List Value,Vals xs its/\PlainL s.heap a its.toArray/\xs.length<=sizeLine:=by
 rcases h with h | ⟨o,its,n,hk,hc,hd,hs,hz,r⟩
 .obtain⟨z,its,n,r,e⟩:=h.ok I.hok;exact⟨its,r,⟨_,n,e,rfl,rfl,rfl⟩,z⟩
 .refine⟨its.toList,r,⟨o,n,I.vq a o hk,hc,hd,by simpa using hs⟩,?_⟩
  have e:=r.length;simp only[Array.length_toList] at e;omega
theorem Inv.tuple(I:Inv X pins σ H s)(h:oz X.K H a xs):∃its:List Value,Vals xs its/\IsTup s.heap a its.toArray/\xs.length<=sizeLine:=by
 rcases h with h | ⟨o,its,n,hk,hc,hs,hz,r⟩
 .obtain⟨z,its,r,p⟩:=h.ok I.hok;exact⟨its,r,p,z⟩
 .refine⟨its.toList,r,⟨o,I.vq a o hk,hc,n,by simpa using hs⟩,?_⟩
  have e:=r.length;simp only[Array.length_toList] at e;omega
theorem Inv.uX(I:Inv X pins σ H s)(h:me X.K H a xs)(h':me X.K H a ys):xs=ys:=by
 obtain⟨its,r,⟨o,n,e,_,_,d⟩,_⟩:=I.list h;obtain⟨its',r',⟨o',n',e',_,_,d'⟩,_⟩:=I.list h';rw[e] at e';cases e';rw[d] at d';injection d' with d1 _
 have:its=its':=by simpa using congrArg Array.toList d1
 subst this;exact r.inj r'
theorem Inv.Au(I:Inv X pins σ H s)(h:oz X.K H a xs)(h':oz X.K H a ys):xs=ys:=by
 obtain⟨its,r,⟨o,e,_,n,d⟩,_⟩:=I.tuple h;obtain⟨its',r',⟨o',e',_,n',d'⟩,_⟩:=I.tuple h';rw[e] at e';cases e';rw[d] at d';injection d' with d1 _
 have:its=its':=by simpa using congrArg Array.toList d1
 subst this;exact r.inj r'
end
abbrev Cx.rn(X:Cx)(E:V7):Cx:={X with xe:=E}
abbrev Cx.D2(X:Cx):Cx:=X.rn fun _ _=>False
theorem Cx.Ok.rn{X:Cx}(ok:X.Ok)(E:V7):(X.rn E).Ok:=
 ⟨ok.mod,ok.kind,ok.glob,ok.blt,ok.above,ok.inj,ok.has,ok.cab,ok.hd,ok.frames,ok.stk,ok.exf,ok.bs,ok.bsz,ok.noex,ok.exfs,ok.oG,ok.frf⟩
theorem Cx.Ok.lp{X:Cx}{E:V7}(ok:(X.rn E).Ok):X.Ok:=
 ⟨ok.mod,ok.kind,ok.glob,ok.blt,ok.above,ok.inj,ok.has,ok.cab,ok.hd,ok.frames,ok.stk,ok.exf,ok.bs,ok.bsz,ok.noex,ok.exfs,ok.oG,ok.frf⟩
section
variable {X:Cx} {pins:V6} {σ:St} {H:Hp} {s:Shared} {E:V7}
theorem Inv.rn(I:Inv X pins σ H s)(E:V7):Inv (X.rn E) pins σ H s:=⟨I.ok.rn E,I.os,I.bare,I.base,I.loc,I.cell,I.free,I.freeC,I.pin,I.hok,I.len⟩
theorem Inv.lp(I:Inv (X.rn E) pins σ H s):Inv X pins σ H s:=⟨I.ok.lp,I.os,I.bare,I.base,I.loc,I.cell,I.free,I.freeC,I.pin,I.hok,I.len⟩
theorem SP.lp{D:Ends}{f:Flow}{s':Shared}(h:SP (X.rn E) pins D f s'):SP X pins D f s':=by
 cases f with
 | next=>obtain⟨cB,H',I,q⟩:=h;exact⟨cB,H',I.lp,q⟩
 | brk=>obtain⟨cB,H',I,q⟩:=h;exact⟨cB,H',I.lp,q⟩
 | cont=>obtain⟨cB,H',I,q⟩:=h;exact⟨cB,H',I.lp,q⟩
 | ret u=>obtain⟨v,cB,H',I,r,q⟩:=h;exact⟨v,cB,H',I.lp,r,q⟩
theorem sQ.D2{st:List Stmt}{t:TS}(h:sQ X.D2 st t):sQ X st t:=fun pins s σ H D I hw=>
 wpAny_mono (h pins s σ H D (I.rn _) hw) (fun _ _ q=>q.lp) fun _ _ z=>False.elim z
end
section
variable {X:Cx} {st:Stmt} {rest:List Stmt} {t u:TS} {e:Expr} {te:TE} {pos:Pos}
def LK:TS:=fun D σ H=>D.nx σ H
def K4(t u:TS):TS:=fun D σ H=>t {D with nx:=u D} σ H
theorem tm:sQ X [] LK:=fun _ _ σ H _ I h=>wpAny_execs_nil ⟨σ,H,I,h⟩
theorem qk(h1:PS X st t)(h2:sQ X rest u):sQ X (st ::rest) (K4 t u):=by
 intro pins s σ H D I h;refine wpAny_execs_cons (cO (h1 pins s σ H {D with nx:=u D} I h) fun f s1 q=>?_)
 cases f with
 | next=>
   obtain⟨cB,H',I',q⟩:=q;exact h2 pins s1 cB H' D I' q
 | ret v=>exact q
 | brk=>exact q
 | cont=>exact q
theorem uo(h1:PS X st t):sQ X [st] t:=by
 intro pins s σ H D I h;refine wpAny_execs_cons (cO (h1 pins s σ H D I h) fun f s1 q=>?_)
 cases f with
 | next=>exact wpAny_execs_nil q
 | ret v=>exact q
 | brk=>exact q
 | cont=>exact q
def Ni:TS:=fun D σ H=>D.bk σ H
def Ra:TS:=fun D σ H=>D.ct σ H
theorem Inv.quiet{pins:V6}{s:Shared}(I:Inv X pins σ H s):interactive X.env=false:=by simp [interactive,I.ok.kind]
def KG(te:TE):TS:=fun D σ H=>te σ H fun _ H1=>D.nx σ H1
theorem pW(he:PE X e te)(hs:swapsWith e none pos.line X.env=pure false:=by rfl):PS X (.Expr e pos) (KG te):=by
 intro pins s σ H D I h;exact wpAny_Expr_any (cO (he pins s σ H _ I h) fun v s1 ⟨x,H1,I1,r1,q1⟩=>⟨σ,H1,I1,q1⟩) I.quiet hs
def NC(te:TE):TS:=fun D σ H=>te σ H D.rt
theorem Be(he:PE X e te):PS X (.Return (some e) pos) (NC te):=by
 intro pins s σ H D I h;exact wpAny_Return_some (cO (he pins s σ H _ I h) fun v s1 ⟨x,H1,I1,r1,q1⟩=>⟨x,σ,H1,I1,r1,q1⟩)
def Q_:TS:=fun D _ H=>D.rt .cH H
def K0(c:TT)(t u:TS):TS:=fun D σ H=>c σ H fun b H1=>if b=true then t D σ H1 else u D σ H1
theorem BL{tc:TT}(hc:PT X c tc)(ha:sQ X a t)(hb:sQ X b u):PS X (.If c a b pos) (K0 tc t u):=by
 intro pins s σ H D I h;refine wpAny_If (cO (hc pins s σ H _ I h) fun d s1 ⟨H1,I1,q1⟩=>?_)
 cases d with
 | true=>exact ha pins s1 σ H1 D I1 q1
 | false=>exact hb pins s1 σ H1 D I1 q1
def NG:TS:=fun _ _ _=>False
end
abbrev TG:=V->St->Hp->(St->Hp->Prop)->Prop
abbrev AV:=List V->St->Hp->(St->Hp->Prop)->Prop
def PG(X:Cx)(target:Expr)(t:TG):Prop:=
 ∀(pins:V6) (s:Shared) (σ:St) (H:Hp) (v:V) (u:Value) (Q:St->Hp->Prop),Inv X pins σ H s->RelV v u->t v σ H Q->
  wpAny (model X.prog X.w) X.A (assign target X.env u) (fun _ s'=>∃cB H',Inv X pins cB H' s'/\Q cB H') X.xe s
def DZ(X:Cx)(ts:List Expr)(t:AV):Prop:=
 ∀(pins:V6) (s:Shared) (σ:St) (H:Hp) (vs:List V) (us:List Value) (Q:St->Hp->Prop),Inv X pins σ H s->Vals vs us->t vs σ H Q->
  wpAny (model X.prog X.w) X.A (assignInOrder ((assignEach ts X.env).map (·.2)) us) (fun _ s'=>∃cB H',Inv X pins cB H' s'/\Q cB H') X.xe s
abbrev IS:=V->V->V->Hp->(Hp->Prop)->Prop
def TC(X:Cx)(t:IS):Prop:=
 ∀(pins:V6) (s:Shared) (σ:St) (H:Hp) (o i v:V) (ov iv u:Value) (Q:Hp->Prop),Inv X pins σ H s->RelV o ov->RelV i iv->RelV v u->t o i v H Q->
  wpAny (model X.prog X.w) X.A (setItem ov iv u) (fun _ s'=>∃H',Inv X pins σ H' s'/\Q H') X.xe s
abbrev Mw:=V->V->Hp->VK->Prop
def Vl(X:Cx)(op:Operator)(t:Mw):Prop:=
 ∀(pins:V6) (s:Shared) (σ:St) (H:Hp) (x y:V) (v u:Value) (Q:VK),Inv X pins σ H s->RelV x v->RelV y u->t x y H Q->
  wpAny (model X.prog X.w) X.A (inplaceOp op v u) (EP X pins σ Q) X.xe s
section
variable {X:Cx} {pos:Pos}
def qO(i:Nat):TG:=fun v σ H Q=>Q (σ.set i (some v)) H
theorem yz{i:Nat}(hN:X.N.Nodup)(hi:X.N[i]? =some x)(hx:Loc X.env.scope x)(hf:X.fn x=true\/X.env.scope.names.lookup x=some .local:=by first | exact .inl rfl | exact .inr rfl | assumption):PG X (.Name x pos) (qO i):=by
 intro pins s σ H v u Q I r h;exact wpAny_assign_Name (vi I hN hi hx r (fun s' I'=>⟨_,H,I',h⟩) hf)
def NQ:AV:=fun vs σ H Q=>vs=[]/\Q σ H
def LG(t:TG)(u:AV):AV:=fun vs σ H Q=>∃v r,vs=v ::r/\t v σ H fun cB H'=>u r cB H' Q
theorem yx:DZ X [] NQ:=by
 intro pins s σ H vs us Q I r h;obtain⟨e,h⟩:=h;subst e;cases r;exact assignInOrder_nil ⟨σ,H,I,h⟩
theorem vO{e:Expr}{es:List Expr}{t:TG}{u:AV}(h1:PG X e t)(h2:DZ X es u)
 (hs:(assignEach (e ::es) X.env).map (·.2)=assign e X.env ::(assignEach es X.env).map (·.2):=by rfl):DZ X (e ::es) (LG t u):=by
 intro pins s σ H vs us Q I r h;obtain⟨v,vr,e1,h⟩:=h;subst e1;cases r with
 | cons r rr=>
   rw[hs];refine assignInOrder_cons (cO (h1 pins s σ H _ _ _ I r h) fun _ s1 ⟨JQ,H1,I1,q1⟩=>?_)
   exact h2 pins s1 JQ H1 _ _ Q I1 rr q1
def Og(K:W.Frag)(n:Nat)(t:AV):TG:=fun v σ H Q=>∃a xs,v= .ref a/\oz K H a xs/\xs.length=n/\t xs σ H Q
theorem A7{es:List Expr}{k:Nat}{t:AV}{n:Nat}(hc:X.calm=true)(h:DZ X es t)
 (hn:(assignEach es X.env).length=n:=by rfl) (Ay:(assignEach es X.env).findIdx? (·.1)=none:=by rfl):PG X (.Tuple es k pos) (Og X.K n t):=by
 intro pins s σ H v u Q I r hw;obtain⟨a,xs,e1,hq,hl,hw⟩:=hw;subst e1;cases r;obtain⟨its,rv,ht,hz⟩:=I.tuple hq;refine assign_Tuple_tuple (I.ok.hd hc) ht (by simp [hn,<-hl,rv.length]) Ay fun h' hx=>?_
 have I1:Inv X pins σ H {s with heap:=h'}:=I.kept (t':=s.toks) fun b o e=>hx b o (Nat.ne_of_lt (Heap.lt_size e)) e
 exact h pins _ σ H xs _ Q I1 (by simpa using rv) hw
def Ss(to ti:TE)(t:IS):TG:=fun v σ H Q=>to σ H fun o H1=>ti σ H1 fun i H2=>t o i v H2 fun H3=>Q σ H3
def zy(te:TE)(g:TG):TS:=fun D σ H=>te σ H fun x H1=>g x σ H1 D.nx
theorem BH{tg e:Expr}{te:TE}{g:TG}(he:PE X e te)(hg:PG X tg g)(hs:swapsWithSole [tg] e pos.line X.env=pure false:=by rfl)(hw:swappedStores [tg] e X.env=pure none:=by rfl)
 (h1:(assignEach [tg] X.env).map (·.2)=[assign tg X.env]:=by rfl):PS X (.Assign [tg] e pos) (zy te g):=by
 intro pins s σ H D I h;refine wpAny_Assign_stores (cO (he pins s σ H _ I h) fun v s1 ⟨x,H1,I1,r1,q1⟩=>?_) hs hw
 rw[h1];exact cO (hg pins s1 σ H1 x v _ I1 r1 q1) fun _ s2 q=>q
theorem xV{i:Nat}{te:TE}(hN:X.N.Nodup)(hi:X.N[i]? =some x)(hx:Loc X.env.scope x)(he:PE X e te)(hs:swapsWith e (some (.Name x pos')) pos.line X.env=pure false:=by rfl)(hf:X.fn x=true\/X.env.scope.names.lookup x=some .local:=by first | exact .inl rfl | exact .inr rfl | assumption) :
 PS X (.Assign [.Name x pos'] e pos) (zy te (qO i)):=by
 intro pins s σ H D I h;refine wpAny_Assign_Name (cO (he pins s σ H _ I h) fun v s1 ⟨y,H1,I1,r1,q1⟩=>?_) hs
 exact vi I1 hN hi hx r1 (fun s2 I2=>⟨_,H1,I2,q1⟩) hf
def SE(i j:Nat)(ta:TA):TS:=fun D σ H=>ta σ H fun vs H1=>∃v w,vs=[v,w]/\D.nx ((σ.set i (some v)).set j (some w)) H1
def Sz(i:Nat)(te:TE)(ti:Mw):TS:=fun D σ H=>∃x,σ[i]? =some (some x)/\te σ H fun y H1=>ti x y H1 fun z H2=>D.nx (σ.set i (some z)) H2
def Qz(to ti te:TE)(Oo:V->V->Hp->VK->Prop)(UI:Mw)(OL:IS):TS:=fun D σ H=>to σ H fun o H1=>ti σ H1 fun i H2=>Oo o i H2 fun x H3=>te σ H3 fun y H4=>UI x y H4 fun z H5=>OL o i z H5 fun H6=>D.nx σ H6
def RP(X:Cx)(t:V->V->Hp->VK->Prop):Prop:=
 ∀(pins:V6) (s:Shared) (σ:St) (H:Hp) (o i:V) (ov iv:Value) (Q:VK),Inv X pins σ H s->RelV o ov->RelV i iv->t o i H Q->
  wpAny (model X.prog X.w) X.A (getItem ov iv) (EP X pins σ Q) X.xe s
def VT(f:Int->Int->Int):Mw:=fun x y H Q=>∃i j,x= .int i/\y= .int j/\Q (.int (f i j)) H
end
section
variable {X:Cx} {pos:Pos}
def Nm(c:TT)(tb:TS):TS:=fun D σ H=>∃W:Nat->St->Hp->Prop,(∃m,W m σ H)/\∀m σ H,W m σ H->
 c σ H fun b H1=>if b=true then ∃N:St->Hp->Prop,(∀cB H',N cB H'->∃m',m' < m/\W m' cB H')/\tb {D with nx:=N,ct:=N,bk:=D.nx} σ H1 else D.nx σ H1
end
structure It where
 go:Nat->Hp->Prop
 yld:Nat->Hp->V->Hp->Prop
 stop:Nat->Hp->Prop
def pF(X:Cx)(pins:V6)(H:Hp)(b:Addr):Prop:=
 H b=none/\b≠X.env.locals/\b ∉ X.fs/\(b∈X.ex\/X.s₀.heap.objs.size<=b)/\(∀x c,X.env.cells.lookup x=some c->c≠b)/\∀p∈X.pn++pins,p.1≠b
theorem Inv.wX{X:Cx}{pins:V6}{H H':Hp}{s:Shared}{b:Addr}(I:Inv X pins σ H s)(hb:s.heap.objs.size<=b)(hn:H' b=none):pF X pins H' b:=by
 refine⟨hn,Nat.ne_of_gt (Nat.lt_of_lt_of_le I.lt hb),I.N6 hb, .inr (Nat.le_trans I.sz hb),fun x c e z=>?_,fun p hp z=>?_⟩
 .obtain⟨v,q⟩:=I.cell x c e;exact absurd (Nat.lt_of_lt_of_le q.lt (by rw[z];exact hb)) (Nat.lt_irrefl _)
 .exact absurd (Nat.lt_of_lt_of_le (Heap.lt_size (I.pin p hp).1) (by rw[z];exact hb)) (Nat.lt_irrefl _)
structure Turn (P:Program) (w:World) (K:W.Frag) (tg:Expr) (J:It) (fp:List Addr) (it:Addr) (tn:Nat->Heap->Prop):Prop where
 mem:it∈fp
 obj:∀i h,tn i h->∀b∈fp,∃o,h.get? b=some o/\∀v,o.data≠ .cell v
 keep:∀i h h',tn i h->(∀b∈fp,∀o,h.get? b=some o->h'.get? b=some o)->tn i h'
 item:∀(X:Cx),X.prog=P->X.w=w->X.K=K->X.calm=true->∀(i:Nat) (pins:V6) (s:Shared) (σ:St) (H:Hp) (E:V7),Inv X pins σ H s->(∀b∈fp,pF X pins H b)->tn i s.heap->J.go i H->
  wpAny (model P w) X.A (pyNext (.ref it)) (fun r s1=>∃u,r=some u/\
   wpAny (model P w) X.A (letOwnedTupleGo tg (.ref it) u) (fun _ s2=>∃x H',Inv X pins σ H' s2/\RelV x u/\J.yld i H x H'/\tn (i+1) s2.heap/\∀b∈fp,H' b=none) E s1) E s
 done:∀(X:Cx),X.prog=P->X.w=w->X.K=K->X.calm=true->∀(i:Nat) (pins:V6) (s:Shared) (σ:St) (H:Hp) (E:V7),Inv X pins σ H s->(∀b∈fp,pF X pins H b)->tn i s.heap->J.stop i H->
  wpAny (model P w) X.A (pyNext (.ref it)) (fun r s1=>r=none/\Inv X pins σ H s1) E s
 self:∀(A:Around) (i:Nat) (s:Shared) (Q:V7) (E:V7),tn i s.heap->Q (.ref it) s->wpAny (model P w) A (pyIter (.ref it)) Q E s
abbrev TI:=St->Hp->(It->Hp->Prop)->Prop
def Qn(X:Cx)(pins:V6)(σ:St)(tg:Expr)(R:It->Hp->Prop)(ME:Value)(s2:Shared):Prop:=
 ∃(it:Addr) (fp:List Addr) (tn:Nat->Heap->Prop) (J:It) (H':Hp),ME= .ref it/\Inv X pins σ H' s2/\Turn X.prog X.w X.K tg J fp it tn/\tn 0 s2.heap/\(∀b∈fp,pF X pins H' b)/\R J H'
def PI(X:Cx)(tg iter:Expr)(wi:TI):Prop:=
 ∀(pins:V6) (s:Shared) (σ:St) (H:Hp) (R:It->Hp->Prop),Inv X pins σ H s->wi σ H R->
  wpAny (model X.prog X.w) X.A (eval iter X.env) (fun v s1=>wpAny (model X.prog X.w) X.A (pyIter v) (Qn X pins σ tg R) X.xe s1) X.xe s
theorem yj{M:Model}{A:Around}{E:V7}{s:Shared}{tg:Expr}{it:Addr}{u:Value}{o:Obj}{n:String}{vs:Array Value}{Q:Unit->Shared->Prop}(ho:s.heap.get? it=some o)(hc:o.cls= .type n)(hd:o.data= .fields vs)
 (hn:["enumerate","zip","dict_itemiterator","dict_reverseitemiterator","odict_iterator","itertools.zip_longest","itertools.pairwise"].contains n=false) (hQ:Q () s):wpAny M A (letOwnedTupleGo tg (.ref it) u) Q E s:=by
 unfold letOwnedTupleGo;cases tg <;> first
  | exact wpAny_pure hQ
  | (cases u <;> first
      | exact wpAny_pure hQ
      | (refine wpAny_bind (wpAny_load ho ?_)
         rw[hc,hd];show wpAny M A (if(["enumerate","zip","dict_itemiterator","dict_reverseitemiterator","odict_iterator","itertools.zip_longest","itertools.pairwise"].contains n && vs[0]? ==some (rawInt _))=true then _ else _) Q E s
         rw[if_neg (by intro h;rw [hn,Bool.false_and] at h;cases h)]
         exact wpAny_pure hQ))
def Qx(K:W.Frag)(a:Addr):It:=
 ⟨fun i H=>∃xs x,me K H a xs/\xs[i]? =some x,fun i H x H'=>H'=H/\∀xs,me K H a xs->xs[i]? =some x,fun i H=>∃xs,me K H a xs/\xs.length<=i⟩
def Q9(K:W.Frag)(a:Addr):It:=
 ⟨fun i H=>∃xs x,oz K H a xs/\xs[i]? =some x,fun i H x H'=>H'=H/\∀xs,oz K H a xs->xs[i]? =some x,fun i H=>∃xs,oz K H a xs/\xs.length<=i⟩
def LA(lo:Int)(n:Nat):It:=⟨fun i _=>i < n,fun i H x H'=>H'=H/\x= .int (lo+i),fun i _=>n<=i⟩
theorem zM{K:W.Frag}(a it:Addr):Turn P w K tg (Qx K a) [it] it (fun i h=>h.IsListIter it a i) where
 mem:=by simp
 obj:=fun i h st b hb=>by
  have e:b=it:=by simpa using hb
  subst e;obtain⟨o,e,c,d⟩:=st;exact⟨o,e,fun v z=>by rw[d] at z;cases z⟩
 keep:=fun i h h' st k=>st.at fun o e=>k it (by simp) o e
 item:=by
  intro X hP hw hK hc i pins s σ H E I hf st hg;subst hP hw hK;obtain⟨xs,x,hq,hx⟩:=hg;obtain⟨its,rv,p,hz⟩:=I.list hq;obtain⟨u,hu,ru⟩:=rv.get hx;obtain⟨f0,f1,f2,f3,f4,f5⟩:=hf it (by simp)
  refine wpAny_pyNext_list_item st p.isList (x:=u) (by simpa using hu) fun h' Dz sb=>?_
  have I1:Inv X pins σ H {s with heap:=h'}:=I.turned (t':=s.toks) (fun b o hb e=>(sb.2 b hb).trans e) f0 f1 f3 f4 f5
  obtain⟨o,e,c,d⟩:=id Dz;exact⟨u,rfl,yj (s:={s with heap:=h'}) e c d (by decide) ⟨x,H,I1,ru,⟨rfl,fun ys hy=>by rw[I.uX hy hq];exact hx⟩,Dz,fun b hb=>(hf b hb).1⟩⟩
 done:=by
  intro X hP hw hK hc i pins s σ H E I hf st hg;subst hP hw hK;obtain⟨xs,hq,hx⟩:=hg;obtain⟨its,rv,p,hz⟩:=I.list hq;obtain⟨f0,f1,f2,f3,f4,f5⟩:=hf it (by simp)
  have hl:=rv.length;exact wpAny_pyNext_list_end (I.ok.hd hc) st p.isList (by simp;omega) fun h' eb=>⟨rfl,I.turned (t':=s.toks) (fun b o hb e=>eb b o hb e) f0 f1 f3 f4 f5⟩
 self:=fun _ _ _ _ _ st h=>wpAny_pyIter_listiter st h
theorem xp{K:W.Frag}(a it:Addr):Turn P w K tg (Q9 K a) [it] it (fun i h=>h.IsTupleIter it a i) where
 mem:=by simp
 obj:=fun i h st b hb=>by
  have e:b=it:=by simpa using hb
  subst e;obtain⟨o,e,c,d⟩:=st;exact⟨o,e,fun v z=>by rw[d] at z;cases z⟩
 keep:=fun i h h' st k=>st.at fun o e=>k it (by simp) o e
 item:=by
  intro X hP hw hK hc i pins s σ H E I hf st hg;subst hP hw hK;obtain⟨xs,x,hq,hx⟩:=hg;obtain⟨its,rv,p,hz⟩:=I.tuple hq;obtain⟨u,hu,ru⟩:=rv.get hx;obtain⟨f0,f1,f2,f3,f4,f5⟩:=hf it (by simp)
  refine wpAny_pyNext_tuple_item st (show s.heap.IsTuple a its.toArray from p) (x:=u) (by simpa using hu) fun h' Dz sb=>?_
  have I1:Inv X pins σ H {s with heap:=h'}:=I.turned (t':=s.toks) (fun b o hb e=>(sb.2 b hb).trans e) f0 f1 f3 f4 f5
  obtain⟨o,e,c,d⟩:=id Dz;exact⟨u,rfl,yj (s:={s with heap:=h'}) e c d (by decide) ⟨x,H,I1,ru,⟨rfl,fun ys hy=>by rw[I.Au hy hq];exact hx⟩,Dz,fun b hb=>(hf b hb).1⟩⟩
 done:=by
  intro X hP hw hK hc i pins s σ H E I hf st hg;subst hP hw hK;obtain⟨xs,hq,hx⟩:=hg;obtain⟨its,rv,p,hz⟩:=I.tuple hq;obtain⟨f0,f1,f2,f3,f4,f5⟩:=hf it (by simp)
  have hl:=rv.length;exact wpAny_pyNext_tuple_end (I.ok.hd hc) st (show s.heap.IsTuple a its.toArray from p) (by simp;omega) fun h' eb=>⟨rfl,I.turned (t':=s.toks) (fun b o hb e=>eb b o hb e) f0 f1 f3 f4 f5⟩
 self:=fun _ _ _ _ _ st h=>wpAny_pyIter_tupleiter st h
theorem xK{K:W.Frag}(it:Addr)(lo:Int)(n:Nat):Turn P w K tg (LA lo n) [it] it (fun i h=>IsRangeIter h it (lo+(i:Nat)*1) ((n:Int) - (i:Nat)) 1) where
 mem:=by simp
 obj:=fun i h st b hb=>by
  have e:b=it:=by simpa using hb
  subst e;exact⟨_,st,fun v z=>by
   have z':Data.fields _=Data.cell v:=z;cases z'⟩
 keep:=fun i h h' st k=>k it (by simp) _ st
 item:=by
  intro X hP hw hK hc i pins s σ H E I hf st hg;subst hP hw hK;obtain⟨f0,f1,f2,f3,f4,f5⟩:=hf it (by simp)
  have W:=Walks.range (prog:=X.prog) (w:=X.w) (I.ok.hd hc) it lo 1 n;refine W.item i s _ _ hg st fun v h' tk hv Dz kk=>?_
  obtain⟨t,rfl⟩:=hv;have I1:Inv X pins σ H {s with heap:=h',toks:=tk}:=I.turned (fun b o hb e=>kk b o (by simpa using hb) e) f0 f1 f3 f4 f5
  refine⟨_,rfl,yj (s:={s with heap:=h',toks:=tk}) (n:="range_iterator") Dz rfl rfl (by decide) ⟨.int (lo+i),H,I1,⟨t,?_⟩,⟨rfl,rfl⟩,Dz,fun b hb=>(hf b hb).1⟩⟩
  rw[Int.mul_one]
 done:=by
  intro X hP hw hK hc i pins s σ H E I hf st hg;subst hP hw hK;obtain⟨f0,f1,f2,f3,f4,f5⟩:=hf it (by simp)
  exact wpAny_pyNext_range_end (I.ok.hd hc) st (by have:n<=i:=hg;omega) fun h' eb=>⟨rfl,I.turned (t':=s.toks) (fun b o hb e=>eb b o hb e) f0 f1 f3 f4 f5⟩
 self:=fun _ _ _ _ _ st h=>wpAny_pyIter_rangeiter st h
section
variable {X:Cx} {tg:Expr}
def QE(K:W.Frag)(tl:TE):TI:=fun σ H R=>tl σ H fun x H1=>∃a,x= .ref a/\(∃xs,me K H1 a xs)/\R (Qx K a) H1
def MQ(K:W.Frag)(tl:TE):TI:=fun σ H R=>tl σ H fun x H1=>∃a,x= .ref a/\(∃xs,oz K H1 a xs)/\R (Q9 K a) H1
theorem Cs{pins:V6}{σ:St}{H:Hp}{s:Shared}{R:It->Hp->Prop}{E:V7}{lo hi:Int}{t u v:Tok}{tk:Nat}(I:Inv X pins σ H s)(h1: -(2 ^ 62)<=lo)(h2:lo < 2 ^ 62)(h3: -(2 ^ 62)<=hi)(h4:hi < 2 ^ 62)
 (q:R (LA lo (hi - lo).toNat) H):wpAny (model X.prog X.w) X.A (pyIter (.ref s.heap.objs.size)) (Qn X pins σ tg R) E {s with heap:=s.heap.push {cls:= .type "range",data:= .fields #[.int lo t, .int hi u, .int 1 v]},toks:=tk}:=by
 refine wpAny_pyIter_range (IsRange.new ..) (small_one h1 h2 h3 h4) ?_;have I1:Inv X pins σ H {s with heap:=s.heap.push {cls:= .type "range",data:= .fields #[.int lo t, .int hi u, .int 1 v]},toks:=tk}:=I.kept fun b o e=>Heap.get?_push_of_some _ e
 refine⟨(s.heap.push {cls:= .type "range",data:= .fields #[.int lo t, .int hi u, .int 1 v]}).objs.size,[(s.heap.push {cls:= .type "range",data:= .fields #[.int lo t, .int hi u, .int 1 v]}).objs.size],_,_,H,rfl,
  I1.kept (t':=tk) fun b o e=>Heap.get?_push_of_some _ e,xK _ lo (hi - lo).toNat,?_,fun b hb=>?_,q⟩
 .have e1:lo+((0:Nat):Int)*1=lo:=by simp
  have e2:(((hi - lo).toNat:Nat):Int) - ((0:Nat):Int)=Builtin.Range.rangeSize lo hi 1:=by rw[rangeSize_one];split <;> omega
  show IsRangeIter _ _ (lo+((0:Nat):Int)*1) ((((hi - lo).toNat:Nat):Int) - ((0:Nat):Int)) 1;rw[e1,e2];exact Heap.get?_push_size _ rfl
 .have e:b=(s.heap.push {cls:= .type "range",data:= .fields #[.int lo t, .int hi u, .int 1 v]}).objs.size:=by simpa using hb
  subst e;exact I1.wX (Nat.le_refl _) (I1.hok.fresh (Nat.le_refl _))
def GP(ta:TA):TI:=fun σ H R=>ta σ H fun vs H1=>∃j:Int,vs=[.int j]/\ -(2 ^ 62)<=j/\j < 2 ^ 62/\R (LA 0 j.toNat) H1
def Qh(ta:TA):TI:=fun σ H R=>ta σ H fun vs H1=>∃i j:Int,vs=[.int i, .int j]/\(-(2 ^ 62)<=i/\i < 2 ^ 62/\ -(2 ^ 62)<=j/\j < 2 ^ 62)/\R (LA i (j - i).toNat) H1
theorem zK{ta:TA}{p pos:Pos}(hg:Gl X "range")(hm:X.mg "range"=none)(ha:PA X [a] ta)(hs:starEach [a] X.env=[(false,eval a X.env)]:=by rfl):PI X tg (.Call (.Name "range" p) [a] [] pos) (GP ta):=by
 intro pins s σ H R I h;refine Call_ (sV I hg hm boot_range (PyProof.Rows.callWith_type1 (cO (ha pos pins s σ H _ I h) fun us s1 ⟨vs,H1,I1,r1,q1⟩=>?_) hs rfl))
 obtain⟨j,e,q1,q2,q⟩:=q1;subst e;cases r1 with
 | cons r rr=>
   cases rr;obtain⟨t,rfl⟩:=r;exact call_range_1 (Cs I1 (by omega) (by omega) q1 q2 (by simpa using q))
def Nx(wi:TI)(g:TG)(tb:TS):TS:=fun D σ H=>wi σ H fun J H1=>∃W:Nat->Nat->St->Hp->Prop,(∃m,W 0 m σ H1)/\∀i m σ H,W i m σ H->
 (J.stop i H/\D.nx σ H)\/(J.go i H/\∃N:St->Hp->Prop,(∀cB H',N cB H'->∃m',m' < m/\W (i+1) m' cB H')/\∀x H',J.yld i H x H'->g x σ H' fun rf H2=>tb {D with nx:=N,ct:=N,bk:=D.nx} rf H2)
def m_(fp:List Addr)(h:Heap):V6:=fp.filterMap fun b=>(h.get? b).map fun o=>(b,o)
theorem kg{fp:List Addr}{h:Heap}{b:Addr}{o:Obj}(hb:b∈fp)(e:h.get? b=some o):(b,o)∈m_ fp h:=List.mem_filterMap.mpr ⟨b,hb,by rw[e];rfl⟩
theorem zQ{fp:List Addr}{h:Heap}{p:Addr × Obj}(hp:p∈m_ fp h):p.1∈fp/\h.get? p.1=some p.2:=by
 obtain⟨b,hb,e⟩:=List.mem_filterMap.mp hp;cases q:h.get? b with
 | none=>rw [q] at e;cases e
 | some o=>
   rw[q] at e;have e':(b,o)=p:=Option.some.inj e;subst e';exact⟨hb,q⟩
theorem Inv.pinned{pins:V6}{s:Shared}{fp:List Addr}(I:Inv X pins σ H s)(hf:∀b∈fp,pF X pins H b)(ho:∀b∈fp,∃o,s.heap.get? b=some o/\∀v,o.data≠ .cell v):Inv X (pins++m_ fp s.heap) σ H s:=
 I.ym fun p hp=>(List.mem_append.mp hp).elim (fun z=>I.pin p (List.mem_append_right _ z)) fun z=>by
  obtain⟨hb,e⟩:=zQ z;obtain⟨f0,f1,f2,_⟩:=hf p.1 hb;obtain⟨o,e',d⟩:=ho p.1 hb;rw[e] at e';cases e';exact⟨e,f0,f1,f2,d⟩
theorem Inv.oe{pins pl:V6}{s:Shared}(I:Inv X (pins++pl) σ H s):Inv X pins σ H s:=I.ym fun p hp=>I.pin p (List.mem_append_right _ (List.mem_append_left _ hp))
theorem wG{iter:Expr}{body:List Stmt}{wi:TI}{g:TG}{tb:TS}{pos:Pos}(hp:PassesOwn (model X.prog X.w) X.A X.env X.xe)(hc:X.calm=true)(hi:PI X tg iter wi)(hg:PG X tg g)(hb:sQ X body tb)
 (hs:∀x,foldedSetIterable iter X.env x=pure x:=by intro _;rfl):PS X (.For tg iter body [] pos) (Nx wi g tb):=by
 intro pins s σ H D I h;refine wpAny_For (cO (hi pins s σ H _ I h) fun v s1 h1=>cO h1 fun ME s2 h2=>?_) hs
 obtain⟨it,fp,tn,J,H2,e,I2,T,JV,f2,W,⟨m0,w0⟩,turn⟩:=h2;subst e;have stat:∀{H':Hp},(∀b∈fp,H' b=none)->∀b∈fp,pF X pins H' b:=fun hn b hb=>⟨hn b hb,(f2 b hb).2⟩
 refine codeAny_forLoop_any (fun n s'=>∃i cB H',Inv X pins cB H' s'/\tn i s'.heap/\(∀b∈fp,H' b=none)/\W i n cB H') ?_ m0 ⟨0,σ,H2,I2,JV,fun b hb=>(f2 b hb).1,w0⟩
 rintro n s3 ⟨i,DO,H3,I3,F6,Me,w3⟩;rcases turn i n DO H3 w3 with⟨stop,qn⟩ | ⟨go,N,hN,step⟩
 .refine wpAny_passesOwn hp (cO (T.done X rfl rfl rfl hc i pins s3 DO H3 X.xe I3 (stat Me) F6 stop) fun r s4 ⟨hr,I4⟩=>?_)
  subst hr;exact wpAny_execs_nil ⟨DO,H3,I4,qn⟩
 .refine wpAny_passesOwn hp (cO (T.item X rfl rfl rfl hc i pins s3 DO H3 X.xe I3 (stat Me) F6 go) fun r s4 ⟨u,hr,h4⟩=>?_)
  subst hr;refine wpAny_passesOwn hp (cO h4 fun _ s5 ⟨x,H5,I5,r5,y5,JM,PR⟩=>?_)
  have I5':=I5.pinned (stat PR) (T.obj _ _ JM);refine wpAny_passesOwn hp (cO (hg _ s5 DO H5 x u _ I5' r5 (step x H5 y5)) fun _ s6 ⟨Mb,H6,I6,q6⟩=>?_)
  refine wpAny_passesOwn hp (cO (hb _ s6 Mb H6 _ I6 q6) fun f s7 q7=>?_)
  have again:∀{wa:St} {H7:Hp},Inv X (pins++m_ fp s5.heap) wa H7 s7->N wa H7->∃m,m < n/\∃i cB H',Inv X pins cB H' s7/\tn i s7.heap/\(∀b∈fp,H' b=none)/\W i m cB H':=fun {wa H7} I7 n7=>by
   obtain⟨m',hm,w7⟩:=hN wa H7 n7;refine⟨m',hm,i+1,wa,H7,I7.oe,T.keep _ _ _ JM fun b hb o e=>(I7.pin (b,o) (List.mem_append_right _ (List.mem_append_right _ (kg hb e)))).1,fun b hb=>?_,w7⟩
   obtain⟨o,e,d⟩:=T.obj _ _ JM b hb;exact(I7.pin (b,o) (List.mem_append_right _ (List.mem_append_right _ (kg hb e)))).2.1
  cases f with
  | next=>obtain⟨wa,H7,I7,n7⟩:=q7;exact again I7 n7
  | cont=>obtain⟨wa,H7,I7,n7⟩:=q7;exact again I7 n7
  | brk=>obtain⟨wa,H7,I7,q7⟩:=q7;exact⟨wa,H7,I7.oe,q7⟩
  | ret v=>obtain⟨x7,wa,H7,I7,r7,q7⟩:=q7;exact⟨x7,wa,H7,I7.oe,r7,q7⟩
end
abbrev R2:=V->V->Hp->VK->Prop
def my(X:Cx)(f:Value->Value->Sem Value)(r:R2):Prop:=
 ∀(pins:V6) (s:Shared) (σ:St) (H:Hp) (x y:V) (v u:Value) (Q:VK),Inv X pins σ H s->RelV x v->RelV y u->r x y H Q->
  wpAny (model X.prog X.w) X.A (f v u) (EP X pins σ Q) X.xe s
def Nu(X:Cx)(f:Value->Sem Value)(r:V->Hp->VK->Prop):Prop:=
 ∀(pins:V6) (s:Shared) (σ:St) (H:Hp) (x:V) (v:Value) (Q:VK),Inv X pins σ H s->RelV x v->r x H Q->
  wpAny (model X.prog X.w) X.A (f v) (EP X pins σ Q) X.xe s
def j7(X:Cx)(f:Value)(r:List V->Hp->VK->Prop):Prop:=
 ∀(pins:V6) (s:Shared) (σ:St) (H:Hp) (xs:List V) (us:List Value) (Q:VK),Inv X pins σ H s->Vals xs us->r xs H Q->
  wpAny (model X.prog X.w) X.A (call f us) (EP X pins σ Q) X.xe s
def N_(X:Cx)(r:V->Hp->(Bool->Hp->Prop)->Prop):Prop:=
 ∀(pins:V6) (s:Shared) (σ:St) (H:Hp) (x:V) (v:Value) (Q:Bool->Hp->Prop),Inv X pins σ H s->RelV x v->r x H Q->
  wpAny (model X.prog X.w) X.A (truthy v) (TP X pins σ Q) X.xe s
def J8(r:R2)(ta tb:TE):TE:=fun σ H Q=>ta σ H fun x H1=>tb σ H1 fun y H2=>r x y H2 Q
def S5(r:V->Hp->VK->Prop)(ta:TE):TE:=fun σ H Q=>ta σ H fun x H1=>r x H1 Q
def rI(C:Int->Int->Prop)(g:Int->Int->V):R2:=fun x y H Q=>∃i j,x= .int i/\y= .int j/\C i j/\Q (g i j) H
def DJ(g:Int->Int->V):R2:=fun x y H Q=>∃i j,x= .int i/\y= .int j/\Q (g i j) H
def rU(g:Int->V):V->Hp->VK->Prop:=fun x H Q=>∃i,x= .int i/\Q (g i) H
section
variable {X:Cx} {a b c:Expr} {ta tb tc:TE} {pos:Pos}
theorem Ip(ha:PE X a ta)(hb:PE X b tb){pins:V6}{s:Shared}{σ:St}{H:Hp}{R:V->V->Hp->Prop}(I:Inv X pins σ H s)
 (h:ta σ H fun x H1=>tb σ H1 fun y H2=>R x y H2) {Q:V7} {f:Value->Value->Sem Value}
 (hf:∀v u s2 x y H2,Inv X pins σ H2 s2->RelV x v->RelV y u->R x y H2->wpAny (model X.prog X.w) X.A (f v u) Q X.xe s2) :
 wpAny (model X.prog X.w) X.A (eval a X.env) (fun v s₁=>wpAny (model X.prog X.w) X.A (eval b X.env) (fun u v8=>wpAny (model X.prog X.w) X.A (f v u) Q X.xe v8) X.xe s₁) X.xe s:=by
 refine cO (ha pins s σ H _ I h) fun v s1 ⟨x,H1,I1,r1,q1⟩=>?_
 refine cO (hb pins s1 σ H1 _ I1 q1) fun u s2 ⟨y,H2,I2,r2,q2⟩=>?_
 exact hf v u s2 x y H2 I2 r1 r2 q2
theorem Ku{op:Operator}{r:R2}(ho:my X (binaryOp op) r)(ha:PE X a ta)(hb:PE X b tb):PE X (.BinOp a op b pos) (J8 r ta tb):=by
 intro pins s σ H Q I h;exact wpAny_BinOp (Ip ha hb I h fun v u s2 x y H2 I2 rx ry q=>ho pins s2 σ H2 x y v u Q I2 rx ry q)
theorem Ke{op:UnaryOp}{r:V->Hp->VK->Prop}(ho:Nu X (unaryOp op) r)(ha:PE X a ta):PE X (.UnaryOp op a pos) (S5 r ta):=by
 intro pins s σ H Q I h;exact UnaryOp_ (cO (ha pins s σ H _ I h) fun v s1 ⟨x,H1,I1,r1,q1⟩=>ho pins s1 σ H1 x v Q I1 r1 q1)
theorem K5{f:Value->Value->Sem Value}{C:Int->Int->Prop}{g:Int->Int->Int}
 (rule:∀(i j:Int) (t u:Tok) (s:Shared) (Q:V7) (E:V7),C i j->Q (.int (g i j) s.toks) {s with toks:=s.toks+1}->wpAny (model X.prog X.w) X.A (f (.int i t) (.int j u)) Q E s) :
 my X f (rI C fun i j=> .int (g i j)):=by
 intro pins s σ H x y v u Q I rx ry h;obtain⟨i,j,rfl,rfl,hc,q⟩:=h;obtain⟨t,rfl⟩:=rx;obtain⟨t',rfl⟩:=ry;exact rule i j t t' s _ _ hc ⟨.int (g i j),H,I.tok _,⟨_,rfl⟩,q⟩
theorem K7{f:Value->Value->Sem Value}{g:Int->Int->Int}
 (rule:∀(i j:Int) (t u:Tok) (s:Shared) (Q:V7) (E:V7),Q (.int (g i j) s.toks) {s with toks:=s.toks+1}->wpAny (model X.prog X.w) X.A (f (.int i t) (.int j u)) Q E s) :
 my X f (DJ fun i j=> .int (g i j)):=by
 intro pins s σ H x y v u Q I rx ry h;obtain⟨i,j,rfl,rfl,q⟩:=h;obtain⟨t,rfl⟩:=rx;obtain⟨t',rfl⟩:=ry;exact rule i j t t' s _ _ ⟨.int (g i j),H,I.tok _,⟨_,rfl⟩,q⟩
theorem Fo{f:Value->Value->Sem Value}{g:Int->Int->Bool}
 (rule:∀(i j:Int) (t u:Tok) (s:Shared) (Q:V7) (E:V7),Q (.bool (g i j)) s->wpAny (model X.prog X.w) X.A (f (.int i t) (.int j u)) Q E s) :
 my X f (DJ fun i j=> .bl (g i j)):=by
 intro pins s σ H x y v u Q I rx ry h;obtain⟨i,j,rfl,rfl,q⟩:=h;obtain⟨t,rfl⟩:=rx;obtain⟨t',rfl⟩:=ry;exact rule i j t t' s _ _ ⟨.bl (g i j),H,I,rfl,q⟩
def NP(i j:Int):Prop:=0 < j/\j < 1073741824
def Ri(i j:Int):Prop:=j≠0/\j.natAbs < 1073741824
def Nw(i j:Int):Prop:=0<=j/\j<=1000000/\i.natAbs < 2 ^ 64
def HU(i j:Int):Prop:=(-(2 ^ 64) < i/\i < 2 ^ 64)\/(-(2 ^ 64) < j/\j < 2 ^ 64)
theorem HU.ok{i j:Int}(h:HU i j):IntMulOk i j:=by
 rcases h with⟨h1,h2⟩ | ⟨h1,h2⟩
 .exact .of_left (intBits_le_64 h1 h2)
 .exact .of_right (intBits_le_64 h1 h2)
theorem xm(k:Nat):(0:Int)<=2 ^ k:=by
 rw[two_pow_cast];exact Int.natCast_nonneg _
theorem Hv:my X (binaryOp .Add) (DJ fun i j=> .int (i+j)):=K7 fun _ _ _ _ _ _ _ q=>add_int q
theorem Jm:my X (binaryOp .Sub) (DJ fun i j=> .int (i - j)):=K7 fun _ _ _ _ _ _ _ q=>sub_int q
theorem HZ:my X (binaryOp .Mult) (rI HU fun i j=> .int (i*j)):=K5 fun _ _ _ _ _ _ _ hc q=>mul_int q hc.ok
theorem ET:my X (binaryOp .FloorDiv) (rI NP fun i j=> .int (i / j)):=K5 fun i j _ _ _ _ _ hc q=>by
 have h1:(0:Int) < j:=hc.1;have h2:j < 1073741824:=hc.2;exact floordiv_int (by omega) (by rw[Int.fdiv_eq_ediv_of_nonneg i (by omega)];exact q) (.inl (PyProof.noPylong_small (by omega)))
theorem G8:my X (binaryOp .Mod) (rI (fun _ j=>0 < j) fun i j=> .int (i % j)):=K5 fun i j _ _ _ _ _ hc q=>by
 have h1:(0:Int) < j:=hc;exact mod_int' (by omega) (by rw[Int.fmod_eq_emod_of_nonneg i (by omega)];exact q)
theorem IF:my X (binaryOp .Pow) (rI Nw fun i j=> .int (i ^ j.toNat)):=K5 fun _ _ _ _ _ _ _ hc q=>pow_int_small hc.1 hc.2.1 hc.2.2 q
theorem Jy:my X (binaryOp .RShift) (rI (fun _ j=>0<=j) fun i j=> .int (i / 2 ^ j.toNat)):=K5 fun i j _ _ _ _ _ hc q=>
 rshift_int hc (by rw[Int.fdiv_eq_ediv_of_nonneg i (xm _)];exact q)
theorem Te{f:Value->Sem Value}{g:Int->Int}
 (rule:∀(i:Int) (t:Tok) (s:Shared) (Q:V7) (E:V7),Q (.int (g i) s.toks) {s with toks:=s.toks+1}->wpAny (model X.prog X.w) X.A (f (.int i t)) Q E s) :
 Nu X f (rU fun i=> .int (g i)):=by
 intro pins s σ H x v Q I rx h;obtain⟨i,rfl,q⟩:=h;obtain⟨t,rfl⟩:=rx;exact rule i t s _ _ ⟨.int (g i),H,I.tok _,⟨_,rfl⟩,q⟩
theorem HC:Nu X (unaryOp .USub) (rU fun i=> .int (-i)):=Te fun _ _ _ _ _ q=>neg_int q
end
def LQ:V->V->Bool
 | .cH, .cH=>true | .cH, .int _=>true | .int _, .cH=>true | .cH, .bl _=>true | .bl _, .cH=>true | .cH, .str _=>true | .str _, .cH=>true
 | .int _, .int _=>true | .bl _, .bl _=>true | .str _, .str _=>true | .byt _, .byt _=>true
 | .int _, .str _=>true | .str _, .int _=>true | .bl _, .str _=>true | .str _, .bl _=>true
 | _,_=>false
def RW:R2:=fun x y H Q=>LQ x y=true/\Q (.bl (decide (x=y))) H
def RS:R2:=fun x y H Q=>LQ x y=true/\Q (.bl (!decide (x=y))) H
theorem yX{i j:Int}:decide (V.int i=V.int j)=(i==j):=by
 rw[Bool.eq_iff_iff];simp
theorem A1{i j:Bool}:decide (V.bl i=V.bl j)=(i==j):=by
 rw[Bool.eq_iff_iff];simp
theorem yt:decide (V.str i=V.str j)=(i==j):=by
 rw[Bool.eq_iff_iff];simp
theorem y9{i j:Array UInt8}:decide (V.byt i=V.byt j)=(i.toList==j.toList):=by
 rw[Bool.eq_iff_iff];cases i;cases j;simp
section
variable {X:Cx} {a b c:Expr} {ta tb tc:TE} {pos:Pos}
theorem bH{pins:V6}{s:Shared}{Q:VK}{k k':Bool}(I:Inv X pins σ H s)(q:Q (.bl k) H)(e:k=k'):EP X pins σ Q (.bool k') s:=by
 subst e;exact⟨.bl k,H,I,rfl,q⟩
theorem AZ:my X (compareOp .Eq) RW:=by
 intro pins s σ H x y v u Q I rx ry h;obtain⟨hs,q⟩:=h;cases x with
 | cH=>
   cases rx;cases y with
   | cH=>cases ry;exact PySem.EqNone.eq_none_none (bH I q (by simp))
   | bl j=>cases ry;exact PySem.EqNone.eq_none_bool (bH I q (by simp))
   | int j=>obtain⟨t',rfl⟩:=ry;exact PySem.EqNone.eq_none_int (bH I q (by simp))
   | str j=>obtain⟨t',rfl⟩:=ry;exact PySem.EqNone.eq_none_str (bH I q (by simp))
   | _=>exact absurd (show false=true from hs) Bool.false_ne_true
 | bl i=>
   cases rx;cases y with
   | cH=>cases ry;exact PySem.EqNone.eq_bool_none (bH I q (by simp))
   | bl j=>cases ry;exact eq_bool (bH I q A1)
   | str j=>obtain⟨t',rfl⟩:=ry;exact PySem.EqMixed.eq_bool_str (bH I q (by simp))
   | _=>exact absurd (show false=true from hs) Bool.false_ne_true
 | int i=>
   obtain⟨t,rfl⟩:=rx;cases y with
   | cH=>cases ry;exact PySem.EqNone.eq_int_none (bH I q (by simp))
   | int j=>obtain⟨t',rfl⟩:=ry;exact eq_int (bH I q yX)
   | str j=>obtain⟨t',rfl⟩:=ry;exact PySem.EqMixed.eq_int_str (bH I q (by simp))
   | _=>exact absurd (show false=true from hs) Bool.false_ne_true
 | str i=>
   obtain⟨t,rfl⟩:=rx;cases y with
   | cH=>cases ry;exact PySem.EqNone.eq_str_none (bH I q (by simp))
   | bl j=>cases ry;exact PySem.EqMixed.eq_str_bool (bH I q (by simp))
   | int j=>obtain⟨t',rfl⟩:=ry;exact PySem.EqMixed.eq_str_int (bH I q (by simp))
   | str j=>obtain⟨t',rfl⟩:=ry;exact eq_str (bH I q yt)
   | _=>exact absurd (show false=true from hs) Bool.false_ne_true
 | byt i=>
   obtain⟨t,rfl⟩:=rx;cases y with
   | byt j=>obtain⟨t',rfl⟩:=ry;exact PySem.W.eq_bytes (bH I q y9)
   | _=>exact absurd (show false=true from hs) Bool.false_ne_true
 | _=>cases y <;> exact absurd (show false=true from hs) Bool.false_ne_true
theorem Br:my X (compareOp .NotEq) RS:=by
 intro pins s σ H x y v u Q I rx ry h;obtain⟨hs,q⟩:=h;cases x with
 | cH=>
   cases rx;cases y with
   | cH=>cases ry;exact PySem.EqNone.ne_none_none (bH I q (by simp))
   | bl j=>cases ry;exact PySem.EqNone.ne_none_bool (bH I q (by simp))
   | int j=>obtain⟨t',rfl⟩:=ry;exact PySem.EqNone.ne_none_int (bH I q (by simp))
   | str j=>obtain⟨t',rfl⟩:=ry;exact PySem.EqNone.ne_none_str (bH I q (by simp))
   | _=>exact absurd (show false=true from hs) Bool.false_ne_true
 | bl i=>
   cases rx;cases y with
   | cH=>cases ry;exact PySem.EqNone.ne_bool_none (bH I q (by simp))
   | bl j=>cases ry;exact ne_bool (bH I q (congrArg not A1))
   | str j=>obtain⟨t',rfl⟩:=ry;exact PySem.EqMixed.ne_bool_str (bH I q (by simp))
   | _=>exact absurd (show false=true from hs) Bool.false_ne_true
 | int i=>
   obtain⟨t,rfl⟩:=rx;cases y with
   | cH=>cases ry;exact PySem.EqNone.ne_int_none (bH I q (by simp))
   | int j=>obtain⟨t',rfl⟩:=ry;exact ne_int (bH I q (congrArg not yX))
   | str j=>obtain⟨t',rfl⟩:=ry;exact PySem.EqMixed.ne_int_str (bH I q (by simp))
   | _=>exact absurd (show false=true from hs) Bool.false_ne_true
 | str i=>
   obtain⟨t,rfl⟩:=rx;cases y with
   | cH=>cases ry;exact PySem.EqNone.ne_str_none (bH I q (by simp))
   | bl j=>cases ry;exact PySem.EqMixed.ne_str_bool (bH I q (by simp))
   | int j=>obtain⟨t',rfl⟩:=ry;exact PySem.EqMixed.ne_str_int (bH I q (by simp))
   | str j=>obtain⟨t',rfl⟩:=ry;exact ne_str (bH I q (congrArg not yt))
   | _=>exact absurd (show false=true from hs) Bool.false_ne_true
 | byt i=>
   obtain⟨t,rfl⟩:=rx;cases y with
   | byt j=>obtain⟨t',rfl⟩:=ry;exact PySem.W.ne_bytes (bH I q (congrArg not y9))
   | _=>exact absurd (show false=true from hs) Bool.false_ne_true
 | _=>cases y <;> exact absurd (show false=true from hs) Bool.false_ne_true
theorem Kt:my X (compareOp .Lt) (DJ fun i j=> .bl (decide (i < j))):=Fo fun _ _ _ _ _ _ _ q=>lt_int q
theorem KD:my X (compareOp .LtE) (DJ fun i j=> .bl (decide (i<=j))):=Fo fun _ _ _ _ _ _ _ q=>le_int q
theorem KQ:my X (compareOp .Gt) (DJ fun i j=> .bl (decide (j < i))):=Fo fun _ _ _ _ _ _ _ q=>gt_int q
theorem K9:my X (compareOp .GtE) (DJ fun i j=> .bl (decide (j<=i))):=Fo fun _ _ _ _ _ _ _ q=>ge_int q
theorem zW:my X (compareOp .In) (fun x y H Q=>∃i j,x= .str i/\y= .str j/\Q (.bl (!(Builtin.Str.occurrences j i 0 j.length 1).isEmpty)) H):=by
 intro pins s σ H x y v u Q I rx ry h;obtain⟨i,j,rfl,rfl,q⟩:=h;obtain⟨t,rfl⟩:=rx;obtain⟨t',rfl⟩:=ry;exact in_str (bH I q rfl)
theorem sN:my X (compareOp .NotIn) (fun x y H Q=>∃i j,x= .str i/\y= .str j/\Q (.bl (!(!(Builtin.Str.occurrences j i 0 j.length 1).isEmpty))) H):=by
 intro pins s σ H x y v u Q I rx ry h;obtain⟨i,j,rfl,rfl,q⟩:=h;obtain⟨t,rfl⟩:=rx;obtain⟨t',rfl⟩:=ry;exact notIn_str (bH I q rfl)
def isObj:HO->Bool
 | .lst _=>true
 | .ins _ _ _=>true
 | _=>false
theorem bV(b:Expr){op:CmpOp}(h:op≠ .In:=by decide)(h2:op≠ .NotIn:=by decide):behindInMarks op b=false:=by
 have e1:(op==CmpOp.In)=false:=by cases op <;> first | rfl | exact absurd rfl h
 have e2:(op==CmpOp.NotIn)=false:=by cases op <;> first | rfl | exact absurd rfl h2
 cases b <;> simp [behindInMarks,e1,e2]
theorem Es{op:CmpOp}{r:R2}(ho:my X (compareOp op) r)(ha:PE X a ta)(hb:PE X b tb)(hm:behindInMarks op b=false):PE X (.Compare a [op] [b] pos) (J8 r ta tb):=by
 intro pins s σ H Q I h;exact wpAny_Compare1 (Ip ha hb I h fun v u s2 x y H2 I2 rx ry q=>ho pins s2 σ H2 x y v u Q I2 rx ry q) hm
def Kh(t:TE):TT:=fun σ H Q=>t σ H fun x H'=>∃k,x= .bl k/\Q k H'
theorem y4{op:CmpOp}{r:R2}(ho:my X (compareOp op) r)(ha:PE X a ta)(hb:PE X b tb)(hm:behindInMarks op b=false):PT X (.Compare a [op] [b] pos) (Kh (J8 r ta tb)):=by
 intro pins s σ H Q I h;refine wpAny_isTrue_Compare1 (cO (ha pins s σ H _ I h) fun v s1 ⟨x,H1,I1,r1,q1⟩=>cO (hb pins s1 σ H1 _ I1 q1) fun u s2 ⟨y,H2,I2,r2,q2⟩=>
  cO (ho pins s2 σ H2 x y v u _ I2 r1 r2 q2) fun c s3 ⟨z,H3,I3,r3,k,e,q3⟩=>?_) hm
 subst e;cases r3;exact wpAny_truthy_bool ⟨H3,I3,q3⟩
def Nv(r r':R2)(ta tb tc:TE):TE:=fun σ H Q=>ta σ H fun x H1=>tb σ H1 fun y H2=>r x y H2 fun z H3=>∃k,z= .bl k/\
 (if k=true then tc σ H3 fun w' H4=>r' y w' H4 Q else Q (.bl false) H3)
def Jx(K:W.Frag)(x:V)(H:Hp)(k:Bool):Prop:=
 match x with
 | .cH=>k=false
 | .bl b=>k=b
 | .int i=>k=(i !=0)
 | .str y=>y.length<=sizeLine/\k=((y.length:Int) !=0)
 | .byt y=>y.size<=sizeLine/\k=((y.size:Int) !=0)
 | .ref p=>(∃xs,me K H p xs/\k=!xs.isEmpty)\/(∃xs,oz K H p xs/\k=!xs.isEmpty)\/∃aA,H p=some (.dK aA)/\k=!aA.isEmpty
 | _=>False
theorem wR{κ:Type}{aA:List (κ × V)}{vs:List (κ × Value)}(r:KV aA vs):(!vs.isEmpty)=!aA.isEmpty:=by
 cases r <;> rfl
theorem qp{xs:List V}{its:List Value}(r:Vals xs its):(!its.toArray.isEmpty)=!xs.isEmpty:=by
 cases r <;> simp
theorem oI:(sizeLine:Nat) < 2 ^ 63:=by rw[sizeLine_eq];decide
theorem Je:N_ X (fun x H Q=>∃k,Jx X.K x H k/\Q k H):=by
 intro pins s σ H x v Q I rx h;obtain⟨k,e,q⟩:=h;have hl:=oI;have hs:sizeLine=16777216:=sizeLine_eq;cases x with
 | cH=>
   cases rx;have e':k=false:=e;subst e';exact truthy_none ⟨H,I,q⟩
 | bl b=>
   cases rx;have e':k=b:=e;subst e';exact wpAny_truthy_bool ⟨H,I,q⟩
 | int i=>
   obtain⟨t,rfl⟩:=rx;have e':k=(i !=0):=e;subst e';exact PySem.P.truthy_int ⟨H,I,q⟩
 | str y=>
   obtain⟨t,rfl⟩:=rx;obtain⟨hy,e'⟩:y.length<=sizeLine/\k=((y.length:Int) !=0):=e;subst e';exact PySem.P.truthy_str (by omega) ⟨H,I.tok _,q⟩
 | byt y=>
   obtain⟨t,rfl⟩:=rx;obtain⟨hy,e'⟩:y.size<=sizeLine/\k=((y.size:Int) !=0):=e;subst e';exact PySem.W.truthy_bytes (by omega) ⟨H,I.tok _,q⟩
 | ref p=>
   cases rx;have e':(∃xs,me X.K H p xs/\k=!xs.isEmpty)\/(∃xs,oz X.K H p xs/\k=!xs.isEmpty)\/∃aA,H p=some (.dK aA)/\k=!aA.isEmpty:=e;rcases e' with⟨xs,hx,e'⟩ | ⟨xs,hx,e'⟩ | ⟨aA,hx,e'⟩
   .subst e';obtain⟨its,r,pl,hz⟩:=I.list hx;have hlen:=r.length;exact wpAny_truthy_list pl.isList (by simp only[List.size_toArray];omega) ⟨H,I.tok _,by rw[qp r];exact q⟩
   .subst e';obtain⟨its,r,pl,hz⟩:=I.tuple hx;have hlen:=r.length;exact truthy_tuple pl (by simp only[List.size_toArray];omega) ⟨H,I.tok _,by rw[qp r];exact q⟩
   .subst e';obtain⟨hz,hS,vs,r,m⟩:aA.length<=sizeLine/\(p==sysModules)=false/\∃vs,KV aA vs/\s.heap.DictOf (cL X.prog X.w) p vs:=I.hok p _ hx;have hlen:aA.length=vs.length:=Paired.length r;exact wpAny_truthy_dict hS m (by omega) ⟨H,I.tok _,by rw[wR r];exact q⟩
 | _=>exact(show False from e).elim
theorem uP(ha:PE X a ta)(he:∀whole,isTrue a X.env whole=(do let v <-whole;standAt a.pos;holding [v] (truthy v))) :
 PT X a (fun σ H Q=>ta σ H fun x H'=>∃k,Jx X.K x H' k/\Q k H'):=by
 intro pins s σ H Q I h;exact isTrue_plain (cO (ha pins s σ H _ I h) fun v s1 ⟨x,H1,I1,r1,q1⟩=>Je pins s1 σ H1 x v Q I1 r1 q1) (he _)
theorem xD:my X (binaryOp .Add) (fun x y H Q=>∃i j,x= .str i/\y= .str j/\i.length+j.length<=sizeLine/\Q (.str (i++j)) H):=by
 intro pins s σ H x y v u Q I rx ry h;obtain⟨i,j,rfl,rfl,hz,q⟩:=h;obtain⟨t,rfl⟩:=rx;obtain⟨t',rfl⟩:=ry;exact add_str (fun t' tk=>⟨.str (i++j),H,I.tok _,⟨_,rfl⟩,q⟩) hz
def KN(b:Expr):Prop:=∀o i,subscripted b false o i=operate [o,i] (getItem o i)
theorem vals1{x:V}{us:List Value}(r:Vals [x] us):∃u,us=[u]/\RelV x u:=by
 cases r with
 | cons r1 r2=>cases r2;exact⟨_,rfl,r1⟩
theorem vals2{x y:V}{us:List Value}(r:Vals [x,y] us):∃u w',us=[u,w']/\RelV x u/\RelV y w':=by
 cases r with
 | cons r1 r2=>
   cases r2 with
   | cons r3 r4=>cases r4;exact⟨_,_,rfl,r1,r3⟩
theorem zA(hc:X.calm=true):j7 X (.builtin "min") (fun xs H Q=>∃i j,xs=[.int i, .int j]/\Q (.int (if j < i then j else i)) H):=by
 intro pins s σ H xs us Q I r h;obtain⟨i,j,rfl,q⟩:=h;obtain⟨u,w',rfl,⟨t,rfl⟩,⟨t',rfl⟩⟩:=vals2 r;refine min_two_ints (I.ok.hd hc) fun h' tk k=>⟨_,H,I.kept k,?_,q⟩
 by_cases hj:j < i
 .rw [if_pos hj,if_pos hj];exact⟨_,rfl⟩
 .rw [if_neg hj,if_neg hj];exact⟨_,rfl⟩
theorem Av:j7 X (.type "int") (fun xs H Q=>(∃i,xs=[.int i]/\Q (.int i) H)\/∃k,xs=[.bl k]/\Q (.int (if k then 1 else 0)) H):=by
 intro pins s σ H xs us Q I r h;rcases h with⟨i,rfl,q⟩ | ⟨k,rfl,q⟩
 .obtain⟨u,rfl,t,rfl⟩:=vals1 r;exact call_int_int ⟨.int i,H,I,⟨_,rfl⟩,q⟩
 .obtain⟨u,rfl,r1⟩:=vals1 r;cases r1;exact call_int_bool ⟨.int (if k then 1 else 0),H,I.tok _,⟨_,rfl⟩,q⟩
theorem ue:j7 X (.type "str") (fun xs H Q=>∃i,xs=[.int i]/\i.natAbs.log2 < 1920/\Q (.str (toString i)) H):=by
 intro pins s σ H xs us Q I r h;obtain⟨i,rfl,hz,q⟩:=h;obtain⟨u,rfl,t,rfl⟩:=vals1 r;exact PySem.P.str_of_int hz ⟨.str _,H,I.tok _,⟨_,rfl⟩,q⟩
def M5(K:W.Frag)(x:V)(H:Hp)(n:Nat):Prop:=
 match x with
 | .str y=>y.length<=sizeLine/\n=y.length
 | .byt y=>y.size<=sizeLine/\n=y.size
 | .ref p=>(∃xs,me K H p xs/\n=xs.length)\/∃xs,oz K H p xs/\n=xs.length
 | _=>False
theorem AY:j7 X (.builtin "len") (fun xs H Q=>∃x n,xs=[x]/\M5 X.K x H n/\Q (.int n) H):=by
 intro pins s σ H xs us Q I r h;obtain⟨x,n,rfl,e,q⟩:=h;obtain⟨u,rfl,rx⟩:=vals1 r;have hl:=oI;have hs:sizeLine=16777216:=sizeLine_eq;cases x with
 | str y=>
   obtain⟨t,rfl⟩:=rx;obtain⟨hy,e'⟩:y.length<=sizeLine/\n=y.length:=e;subst e';exact len_str (by omega) ⟨.int _,H,I.tok _,⟨_,rfl⟩,q⟩
 | byt y=>
   obtain⟨t,rfl⟩:=rx;obtain⟨hy,e'⟩:y.size<=sizeLine/\n=y.size:=e;subst e';exact PySem.W.len_bytes (by omega) ⟨.int _,H,I.tok _,⟨_,rfl⟩,q⟩
 | ref p=>
   cases rx;have e':(∃xs,me X.K H p xs/\n=xs.length)\/∃xs,oz X.K H p xs/\n=xs.length:=e;rcases e' with⟨xs,hx,e'⟩ | ⟨xs,hx,e'⟩
   .subst e';obtain⟨its,r',pl,hz⟩:=I.list hx;have hlen:=r'.length;exact Calls.call_len_list pl.isList (by simp only[List.size_toArray];omega) ⟨.int xs.length,H,I.tok _,⟨_,by simp only[List.size_toArray];rw [hlen]⟩,q⟩
   .subst e';obtain⟨its,r',pl,hz⟩:=I.tuple hx;have hlen:=r'.length;exact len_tuple pl (by simp only[List.size_toArray];omega) ⟨.int xs.length,H,I.tok _,⟨_,by simp only[List.size_toArray];rw [hlen]⟩,q⟩
 | _=>exact(show False from e).elim
end
structure wu (h:Heap) (x dx C:Addr) (mA:Wa):Prop where
 obj:h.get? x=some (PySem.W.instObj C dx)
 ns:h.Ns1 dx mA
 ne:dx≠x
theorem zx{h:Heap}{dx:Addr}{mA:Wa}(n:h.Ns1 dx mA):∃od,h.get? dx=some od/\∀name,PySem.W.lookIn name od=some (mA name):=by
 obtain⟨o,es,ep,ho,hd,hk,_,hm⟩:=n;refine⟨o,ho,fun name=>?_⟩
 have e:=hm name;unfold nsFind findBy at e;rw[<-Array.find?_toList] at e;unfold PySem.W.lookIn;rw[hd];dsimp only;split
 .rename_i y q;rw[q] at e;exact congrArg some e
 .rename_i q;rw[q] at e;have a:es.toList.any (·.refKey)=false:=by
   rw[List.any_eq_false];intro y hy;obtain⟨z,t,hkey⟩:=hk y (Array.mem_toList_iff.mp hy);simp [DictEntry.refKey,hkey]
  have a':¬es.toList.any (·.refKey)=true:=by rw[a];exact Bool.false_ne_true
  rw[if_neg a'];exact congrArg some e
theorem wu.look{x dx C:Addr}{mA:Wa}(I:wu h x dx C mA):∃od,PySem.W.InstAt h x (PySem.W.instObj C dx) C (some od)/\∀name,PySem.W.lookIn name od=some (mA name):=
 let⟨od,ho,hl⟩:=zx I.ns
 ⟨od,⟨I.obj,rfl,rfl,ho⟩,hl⟩
section
variable {prog:Program} {w:World} {A:Around} {E:V7} {s:Shared} {K:W.Frag} {x dx C f:Addr} {mA:Wa} {name:Str} {v:Value}
theorem get_map{expr:Bool}{Q:V7}(X:K.In s.heap)(I:wu s.heap x dx C mA)(hg:PySem.W.plainGet K C name=true)(hh:PySem.W.hasDictIn K C=true)
 (ha:PySem.W.findIn K (.ref C) name=some none) (hv:mA name=some v) (UG:PySem.W.handedIn v=true) (h:Q v {s with toks:=s.toks+1}) :
 wpAny (model prog w) A (getAttr (.ref x) name expr) Q E s:=by
 obtain⟨od,J,hl⟩:=I.look;exact PySem.W.get_value X J (PySem.W.plainGet_of hg).1 (PySem.W.findObj_own hh ha rfl (by rw[hl,hv])) UG h
theorem B5{pl:Sem Bool}{Q:Value × List Value->Shared->Prop}(X:K.In s.heap)(I:wu s.heap x dx C mA)(hg:PySem.W.plainGet K C name=true)
 (hf:PySem.W.findIn K (.ref C) name=some (some (.ref f))) (ht:PySem.W.isFn K (.ref f)=true) (hv:mA name=none) (h:Q (.ref f,[.ref x]) s) :
 wpAny (model prog w) A (getMethod (.ref x) name pl) Q E s:=by
 obtain⟨od,J,hl⟩:=I.look;exact PySem.W.method_fn X J (PySem.W.plainGet_of hg).1 (PySem.W.plainGet_of hg).2 hf (beq_iff_eq.mp ht) (by show(PySem.W.lookIn name od).map (·.isSome)=some false;rw [hl,hv];rfl) h
theorem Fy{ns:List Str}{Q:Unit->Shared->Prop}(X:K.In s.heap)(I:wu s.heap x dx C mA)
 (hs:PySem.W.findIn K (.ref C) "__setattr__"=some (some (.builtin "object.__setattr__"))) (hp:PySem.W.plainOver K C=true) (ht:PySem.W.takerIn K C name=some none) (hh:PySem.W.hasDictIn K C=true)
 (hw:PySem.Within mA ns) (hsz:ns.length<=sizeLine)
 (h:∀h',wu h' x dx C (fun y=>if y=name then some v else mA y)->Heap.SameBut dx s.heap h'->Q () {s with heap:=h',toks:=s.toks+2}) :
 wpAny (model prog w) A (setAttr (.ref x) name v) Q E s:=by
 obtain⟨od,J,hl⟩:=I.look;refine PySem.W.set_plain X J hs (PySem.W.osa_open (s:={s with toks:=s.toks+1}) (r:=none) X J hp ht fun b=>?_)
 obtain⟨cd,hc,F8⟩:=PySem.W.any_some hh;have hx:s.heap.get? x=some ⟨.ref C,some dx, .plain,#[]⟩:=I.obj;refine wpAny_bind (wpAny_pure (wpAny_bind (wpAny_bind (wpAny_loadPart hx (wpAny_bind (PySem.W.Looks.here (s:={s with toks:=s.toks+1}) (PySem.W.looks_clsIn X hc) ?_))))))
 rw[F8];refine wpAny_pure (a:=some dx) (wpAny_bind (wpAny_pure (wpAny_bind ?_)));refine wpAny_nsSet1 (s:={s with toks:=s.toks+1}) I.ns fun h' MK Ry=>?_
 obtain⟨oD,esD,epD,hoD,hdD,hcD⟩:=MK.count (PySem.Within.cons name v hw);refine wpAny_bind (wpAny_lookBehind hoD (by rw[hdD];exact pastItsLine_dict (Nat.le_trans hcD (by rw[List.length_cons];omega))) ?_)
 exact wpAny_pure (h _ ⟨(Ry.2 _ (Ne.symm I.ne)).trans I.obj,MK,I.ne⟩ Ry)
theorem Bl{R:Result->Shared->Prop}{vs:List Value}{kw:List (Str × Value)}(X:K.In s.heap)(hm:PySem.W.makesIn K C=true)
 (hi:PySem.W.findIn K (.ref C) "__init__"=some (some (.ref f))) (hf:PySem.W.typeIn K (.ref f)=some (.type "function"))
 (h:codeAny (model prog w) (A.under (.builtin "type.__call__" ⟨.ref C ::vs,kw⟩)) (.call (.ref f) ⟨.ref (s.heap.objs.size+1) ::vs,kw⟩) (PySem.W.InitBack (s.heap.objs.size+1) R)
   {s with heap:=(s.heap.push PySem.W.emptyDict).push (PySem.W.instObj C s.heap.objs.size)}) :
 codeAny (model prog w) A (.call (.ref C) ⟨vs,kw⟩) R s:=by
 obtain⟨hh,g,d,t,os⟩:=s;exact PySem.W.make_core (PySem.W.makes_of X hm) (PySem.W.looks_findIn X hi) (fun self=>PySem.W.bind_fn X self hf) (.inl rfl) h
end
def jz(f:Str)(v:V):List (Str × V)->List (Str × V)
 | []=>[(f,v)]
 | (g,x) ::r=>if g=f then(g,v) ::r else(g,x) ::jz f v r
theorem pk(f g:Str)(v:V):∀fs:List (Str × V),(jz f v fs).lookup g=if g=f then some v else fs.lookup g
 | []=>by
   show List.lookup g [(f,v)]=_;by_cases h:g=f
   .have hb:(g==f)=true:=beq_iff_eq.mpr h;simp only[List.lookup,hb,if_pos h]
   .have hb:(g==f)=false:=beq_eq_false_iff_ne.mpr h;simp only[List.lookup,hb,if_neg h]
 | (k,x) ::r=>by
   have ih:=pk f g v r;rw[show jz f v ((k,x) ::r)=(if k=f then(k,v) ::r else(k,x) ::jz f v r) from rfl]
   by_cases hk:k=f
   .rw [if_pos hk];by_cases h:g=k
    .have hb:(g==k)=true:=beq_iff_eq.mpr h;simp only[List.lookup,hb,if_pos (h.trans hk)]
    .have hb:(g==k)=false:=beq_eq_false_iff_ne.mpr h;simp only[List.lookup,hb,if_neg (fun e:g=f=>h (e.trans hk.symm))]
   .rw [if_neg hk];by_cases h:g=k
    .have hb:(g==k)=true:=beq_iff_eq.mpr h;simp only[List.lookup,hb,if_neg (fun e:g=f=>hk (h.symm.trans e))]
    .have hb:(g==k)=false:=beq_eq_false_iff_ne.mpr h;simp only[List.lookup,hb];exact ih
theorem oB(f:Str)(v:V):∀fs:List (Str × V),f∈(jz f v fs).map (·.1)/\∀g,g∈fs.map (·.1)->g∈(jz f v fs).map (·.1)
 | []=>⟨by simp [jz],fun g h=>by simp at h⟩
 | (k,x) ::r=>by
   obtain⟨i1,i2⟩:=oB f v r;rw[show jz f v ((k,x) ::r)=(if k=f then(k,v) ::r else(k,x) ::jz f v r) from rfl]
   by_cases hk:k=f
   .rw [if_pos hk];subst hk;exact⟨by simp,fun g h=>by simpa using h⟩
   .rw [if_neg hk];refine⟨?_,fun g h=>?_⟩
    .rw [List.map_cons];exact List.mem_cons_of_mem _ i1
    .rw [List.map_cons] at h ⊢;rcases List.mem_cons.mp h with e | e
     .exact List.mem_cons.mpr (.inl e)
     .exact List.mem_cons_of_mem _ (i2 g e)
theorem o_(f:Str)(v:V):∀fs:List (Str × V),(jz f v fs).length<=fs.length+1
 | []=>by simp [jz]
 | (k,x) ::r=>by
   have ih:=o_ f v r;rw[show jz f v ((k,x) ::r)=(if k=f then(k,v) ::r else(k,x) ::jz f v r) from rfl]
   by_cases hk:k=f
   .rw [if_pos hk,List.length_cons,List.length_cons];omega
   .rw [if_neg hk,List.length_cons,List.length_cons];omega
theorem ka.some_of{v:V}{o:Option Value}(r:ka (some v) o):∃u,o=some u/\RelV v u:=by
 cases o with
 | none=>exact(show False from r).elim
 | some u=>exact⟨u,rfl,r⟩
theorem ka.none_of{o:Option Value}(r:ka none o):o=none:=by
 cases o with
 | none=>rfl
 | some u=>exact(show False from r).elim
theorem Ai{v:V}{u:Value}(r:RelV v u):PySem.W.handedIn u=true:=by
 cases v with
 | cH=>cases(show u=Value.none from r);rfl
 | bl b=>cases(show u=Value.bool b from r);rfl
 | int i=>obtain⟨t,e⟩:=(show ∃t,u=Value.int i t from r);cases e;rfl
 | str x=>obtain⟨t,e⟩:=(show ∃t,u=Value.str x t from r);cases e;rfl
 | byt b=>obtain⟨t,e⟩:=(show ∃t,u=Value.bytes b t from r);cases e;rfl
 | flt b=>obtain⟨t,e⟩:=(show ∃t,u=Value.float b t from r);cases e;rfl
 | ref a=>cases(show u=Value.ref a from r);rfl
 | ty n=>cases(show u=Value.type n from r);rfl
section
variable {P:Program} {w:World} {H H':Hp} {h h':Heap} {a C dx:Addr} {fs Kb:List (Str × V)}
theorem sS(hok:l6 P w H h)(e:H a=some (.ins C dx fs)):∃mA,wu h a dx C mA/\(∀f,ka (fs.lookup f) (mA f))/\PySem.Within mA (fs.map (·.1))/\fs.length<=1000/\H dx=some (.own a):=by
 obtain⟨d,z,ne,ob,mA,n,r,q⟩:=(show d8 P w H h a (.ins C dx fs) from hok a _ e)
 exact⟨mA,⟨ob,n,ne⟩,r,q,z,d⟩
end
structure uV (K:W.Frag) (C:Addr):Prop where
 pg:PySem.W.plainGet K C Str.empty=true
 hd:PySem.W.hasDictIn K C=true
 po:PySem.W.plainOver K C=true
 sa:PySem.W.findIn K (.ref C) "__setattr__"=some (some (.builtin "object.__setattr__"))
theorem uV.get{K:W.Frag}{C:Addr}(c:uV K C)(f:Str):PySem.W.plainGet K C f=true:=c.pg
def c8(K:W.Frag)(C:Addr)(f:Str):Prop:=PySem.W.findIn K (.ref C) f=some none
theorem c8.Ky{K:W.Frag}{C:Addr}(n:c8 K C f):PySem.W.takerIn K C f=some none:=by
 unfold PySem.W.takerIn;rw[show PySem.W.findIn K (.ref C) f=some none from n]
 rfl
structure Tb (K:W.Frag) (C:Addr) (f:Str) (v:V) (u:Value):Prop where
 at_:PySem.W.findIn K (.ref C) f=some (some u)
 rel:RelV v u
 get:PySem.W.specialIn K u "__get__"=some none
 cp:PySem.W.copiedNames.contains f=false
structure Meth (K:W.Frag) (C:Addr) (m:Str) (f:Addr):Prop where
 at_:PySem.W.findIn K (.ref C) m=some (some (.ref f))
 fn:PySem.W.isFn K (.ref f)=true
 kp:PySem.W.keepIn K (.ref f)=true
section
variable {X:Cx} {pins:V6} {σ:St} {H:Hp} {s:Shared} {a C dx:Addr} {fs:List (Str × V)} {f:Str} {v:V} {A:Around} {E:V7}
theorem wC{b:Bool}{Q:V7}(I:Inv X pins σ H s)(e:H a=some (.ins C dx fs))(c:uV X.K C)(n:c8 X.K C f)(l:fs.lookup f=some v)
 (h:∀u s',Inv X pins σ H s'->RelV v u->Q u s'):wpAny (model X.prog X.w) A (getAttr (.ref a) f b) Q E s:=by
 obtain⟨mA,O,r,_,_,_⟩:=sS I.hok e;obtain⟨u,hu,ru⟩:=ka.some_of (v:=v) (o:=mA f) (by rw[<-l];exact r f)
 exact get_map I.vq O (c.get f) c.hd n hu (Ai ru) (h u _ (I.tok _) ru)
theorem xb{m:Str}{g:Addr}{pl:Sem Bool}{Q:Value × List Value->Shared->Prop}(I:Inv X pins σ H s)(e:H a=some (.ins C dx fs))(c:uV X.K C)(k:Meth X.K C m g)(l:fs.lookup m=none)
 (h:Q (.ref g,[.ref a]) s):wpAny (model X.prog X.w) A (getMethod (.ref a) m pl) Q E s:=by
 obtain⟨mA,O,r,_,_,_⟩:=sS I.hok e;have hn:mA m=none:=ka.none_of (by rw[<-l];exact r m)
 exact B5 I.vq O (c.get m) k.at_ k.fn hn h
theorem xR{y:V}{u:Value}{Q:Unit->Shared->Prop}(I:Inv X pins σ H s)(e:H a=some (.ins C dx fs))(c:uV X.K C)(n:c8 X.K C f)(hl:fs.length < 1000)(ry:RelV y u)
 (h:∀s',Inv X pins σ (upd H a (.ins C dx (jz f y fs))) s'->Q () s'):wpAny (model X.prog X.w) A (setAttr (.ref a) f u) Q E s:=by
 obtain⟨mA,O,r,wi,_,ho⟩:=sS I.hok e;have hz:(fs.map (·.1)).length<=sizeLine:=by rw[List.length_map,sizeLine_eq];omega
 refine Fy I.vq O c.sa c.po n.Ky c.hd wi hz fun h' O' sb=>h _ ?_
 have hd:∃o,h'.get? dx=some o:=let⟨o,_,_,e',_⟩:=O'.ns;⟨o,e'⟩
 refine I.write (x:=a) (e:=dx) (by rw[e];exact True.intro) (.inr ho) (fun b q hb z=>(sb.2 b hb).trans z) hd ?_
 refine⟨by rw[a_ O.ne];exact ho,?_,O.ne,O'.obj,_,O'.ns,fun g=>?_,fun g hg=>?_⟩
 .have:=o_ f y fs;omega
 .show ka ((jz f y fs).lookup g) (if g=f then some u else mA g)
  rw[pk];by_cases q:g=f
  .rw [if_pos q,if_pos q];exact ry
  .rw [if_neg q,if_neg q];exact r g
 .by_cases q:g=f
  .rw [q];exact(oB f y fs).1
  .refine(oB f y fs).2 g (wi g fun z=>hg ?_)
   show(if g=f then some u else mA g)=none
   rw[if_neg q];exact z
theorem Inv.made(I:Inv X pins σ H s):Inv X pins σ (upd (upd H s.heap.objs.size (.own (s.heap.objs.size+1))) (s.heap.objs.size+1) (.ins C s.heap.objs.size []))
 {s with heap:=(s.heap.push PySem.W.emptyDict).push (PySem.W.instObj C s.heap.objs.size)}:=by
 have e1:(s.heap.push PySem.W.emptyDict).get? s.heap.objs.size=some PySem.W.emptyDict:=Heap.get?_push_size s.heap rfl;have e2:((s.heap.push PySem.W.emptyDict).push (PySem.W.instObj C s.heap.objs.size)).get? (s.heap.objs.size+1)=some (PySem.W.instObj C s.heap.objs.size):=by
  have:=Heap.get?_push_size (s.heap.push PySem.W.emptyDict) (o:=PySem.W.instObj C s.heap.objs.size) rfl
  rwa [Heap.size_push] at this
 have e3:(s.heap.push PySem.W.emptyDict).Ns s.heap.objs.size (fun _=>none):=⟨PySem.W.emptyDict,#[],_,e1,rfl,(fun e he=>absurd he (by simp)),fun _=>rfl⟩
 have I1:=I.laid (a:=s.heap.objs.size) (o:= .own (s.heap.objs.size+1)) (h':=s.heap.push PySem.W.emptyDict) (t':=s.toks) (fun b u q=>Heap.get?_push_of_some _ q) (Nat.le_refl _) ⟨_,e1⟩
 refine I1.laid (a:=s.heap.objs.size+1) (o:= .ins C s.heap.objs.size []) (t':=s.toks) (fun b u q=>Heap.get?_push_of_some _ q) (Nat.le_of_eq (Heap.size_push _ _)) ?_
 have ne:s.heap.objs.size≠s.heap.objs.size+1:=Nat.ne_of_lt (Nat.lt_succ_self _);refine⟨by rw[a_ ne,aY],Nat.zero_le _,ne,e2,fun _=>none,(Heap.Ns1.of_empty e3).at fun o q=>Heap.get?_push_of_some _ q,fun _=>True.intro,fun y hy=>absurd rfl hy⟩
theorem EE{prog:Program}{w:World}{env:Env}{e:Expr}{f:Str}{pos:Pos}{s:Shared}{Q:V7}(hb:attributeBase e f env (eval e env)=eval e env)
 (h:wpAny (model prog w) A (eval e env) (fun o s₁=>wpAny (model prog w) A (getAttr o f true) Q E s₁) E s):wpAny (model prog w) A (eval (.Attribute e f pos) env) Q E s:=
 Attribute_any_ h (by rw[arm_eval_Attribute,hb])
end
def M0(K:W.Frag)(ta:TE)(f:Str):TE:=fun σ H Q=>ta σ H fun x H1=>∃a C dx fs v,x= .ref a/\H1 a=some (.ins C dx fs)/\uV K C/\c8 K C f/\fs.lookup f=some v/\Q v H1
def Tc(K:W.Frag)(ta:TE)(f:Str):TE:=fun σ H Q=>ta σ H fun x H1=>∃a C dx fs v u,x= .ref a/\H1 a=some (.ins C dx fs)/\uV K C/\Tb K C f v u/\fs.lookup f=none/\Q v H1
def Nr(K:W.Frag)(ta tv:TE)(f:Str):TS:=fun D σ H=>tv σ H fun y H1=>ta σ H1 fun x H2=>∃a C dx fs,x= .ref a/\H2 a=some (.ins C dx fs)/\uV K C/\c8 K C f/\fs.length < 1000/\
 D.nx σ (upd H2 a (.ins C dx (jz f y fs)))
def Sj(X:Cx)(op:Operator)(rd:V->V->Hp->VK->Prop):Prop:=
 ∀(pins:V6) (s:Shared) (σ:St) (H:Hp) (x y:V) (u v:Value) (Q:VK),Inv X pins σ H s->RelV x u->RelV y v->rd x y H Q->wpAny (model X.prog X.w) X.A (inplaceOp op u v) (EP X pins σ Q) X.xe s
def Mj(K:W.Frag)(ta tv:TE)(rd:V->V->Hp->VK->Prop)(f:Str):TS:=fun D σ H=>ta σ H fun x H1=>∃a C dx fs v,x= .ref a/\H1 a=some (.ins C dx fs)/\uV K C/\c8 K C f/\fs.lookup f=some v/\
 tv σ H1 fun y H2=>rd v y H2 fun z H3=>∃dx' Kb,H3 a=some (.ins C dx' Kb)/\Kb.length < 1000/\D.nx σ (upd H3 a (.ins C dx' (jz f z Kb)))
section
variable {X:Cx} {o e value:Expr} {f:Str} {pos pos' Dw:Pos} {ta tv:TE}
theorem Ia(he:PE X e ta)(hb:attributeBase e f X.env (eval e X.env)=eval e X.env):PE X (.Attribute e f pos) (M0 X.K ta f):=by
 intro pins s σ H Q I h;refine EE hb (cO (he pins s σ H _ I h) fun u s1 ⟨x,H1,I1,rx,a,C,dx,fs,v,ex,ea,c,n,l,q⟩=>?_)
 subst ex;obtain rfl:u=Value.ref a:=rx;exact wC I1 ea c n l fun u' s2 I2 ru=>⟨v,H1,I2,ru,q⟩
theorem JB(ha:PE X o ta)(hv:PE X value tv)(hs:swapsWith value (some (.Attribute o f pos')) pos.line X.env=pure false):PS X (.Assign [.Attribute o f pos'] value pos) (Nr X.K ta tv f):=by
 intro pins s σ H D I h;refine plainObj_wpAny_Assign_Attribute (cO (hv pins s σ H _ I h) fun u s1 ⟨y,H1,I1,ry,q⟩=>cO (ha pins s1 σ H1 _ I1 q) fun ov s2 ⟨x,H2,I2,rx,a,C,dx,fs,ex,ea,c,n,l,q2⟩=>?_) hs
 subst ex;obtain rfl:ov=Value.ref a:=rx;exact xR I2 ea c n l ry fun s3 I3=>⟨σ,_,I3,q2⟩
def TU:V->V->Hp->VK->Prop:=fun x y H Q=>∃i j,x= .int i/\y= .int j/\Q (.int (i+j)) H
def Sv:V->V->Hp->VK->Prop:=fun x y H Q=>∃i j,x= .int i/\y= .int j/\Q (.int (i - j)) H
end
section
variable {X:Cx} {pins:V6} {σ:St} {H:Hp} {s:Shared} {A:Around} {E:V7} {Q:V7} {c:Value} {b:Bool}
inductive qY (K:W.Frag) (H:Hp):V->Value->Prop where
 | cH:qY K H .cH (.type "NoneType")
 | bl (x:Bool):qY K H (.bl x) (.type "bool")
 | int (i:Int):qY K H (.int i) (.type "int")
 | str (x:Str):qY K H (.str x) (.type "str")
 | flt (x:UInt64):qY K H (.flt x) (.type "float")
 | lst {a:Addr} {xs:List V} (e:H a=some (.lst xs)):qY K H (.ref a) (.type "list")
 | kT {a:Addr} {o:Obj} {xs:List V} (e:H a=some (.kT o (.lst xs))):qY K H (.ref a) (.type "list")
 | tup {a:Addr} {xs:List V} (e:H a=some (.tup xs)):qY K H (.ref a) (.type "tuple")
 | dK {a:Addr} {aA:List (Key × V)} (e:H a=some (.dK aA)):qY K H (.ref a) (.type "dict")
 | dT {a:Addr} {aA:List (List Key × V)} (e:H a=some (.dT aA)):qY K H (.ref a) (.type "dict")
 | ins {a C dx:Addr} {fs:List (Str × V)} (e:H a=some (.ins C dx fs)) (cl:uV K C) (ha:PySem.W.findIn K (.ref C) "__class__"=some (some (.builtin "object.__class__")))
    (hn:PySem.W.specialIn K (.builtin "object.__class__") "__get__"=some (some (.builtin "getset_descriptor.__get__"))) (Kc:PySem.W.takesIn K (.builtin "object.__class__")=some true)
    (hm:PySem.W.mroIn K C (.type "object")=some true):qY K H (.ref a) (.ref C)
end
structure dS (k:Nat) (A:Around):Prop where
 hd:A.handled=none
 dp:A.depth+3*k+5 < recursionLimit
 un:A.units+16*k+200 < cLine
theorem dS.mono{j k:Nat}(r:dS k A)(h:j<=k):dS j A:=⟨r.hd,by have:=r.dp;omega,by have:=r.un;omega⟩
theorem dS.deeper{k:Nat}{A:Around}(r:dS (k+1) A)(env:Env):dS k (A.deeper env):=
 ⟨r.hd,by have:=r.dp;show A.depth+1+3*k+5 < _;omega,by have:=r.un;show A.units+3+16*k+200 < _;omega⟩
theorem xO{A:Around}{C:Addr}{us:List Value}{kw:List (Str × Value)}:(A.under (.builtin "type.__call__" ⟨.ref C ::us,kw⟩)).depth=A.depth+1:=by
 first | rfl | simp [Around.under,Code.weight,Code.isCreation,Code.isGuard,Code.isCaller,Code.frames,Code.isFrame,guardIds]
theorem wj{A:Around}{C:Addr}{us:List Value}{kw:List (Str × Value)}:(A.under (.builtin "type.__call__" ⟨.ref C ::us,kw⟩)).units=A.units+1:=by
 first | rfl | simp [Around.under,Code.cUnits,Code.frames,Code.isFrame]
theorem dS.make{k:Nat}{A:Around}(r:dS (k+1) A)(C:Addr)(us:List Value)(kw:List (Str × Value)):dS k (A.under (.builtin "type.__call__" ⟨.ref C ::us,kw⟩)):=
 ⟨r.hd,by have:=r.dp;rw [xO];omega,by have:=r.un;rw [wj];omega⟩
theorem dS.depth{k:Nat}{A:Around}(r:dS k A):A.depth < recursionLimit:=by have:=r.dp;omega
theorem dS.units{k:Nat}{A:Around}(r:dS k A):A.units+64 < cLine:=by have:=r.un;omega
def Lx:TA:=fun _ H Q=>Q [] H
def Lv(ta:TE)(tr:TA):TA:=fun σ H Q=>ta σ H fun x H1=>tr σ H1 fun xs H2=>Q (x ::xs) H2
section
variable {X:Cx} {e:Expr} {es:List Expr} {te:TE} {t:TA} {pos:Pos}
theorem kl:PA X [] Lx:=fun _ _ _ _ H Q I h=>Calls.spliced_nil ⟨[],H,I, .nil,h⟩
theorem ik(ha:PE X e te)(hr:PA X es t)(hs:starEach (e ::es) X.env=(false,eval e X.env) ::starEach es X.env:=by rfl):PA X (e ::es) (Lv te t):=by
 intro pos pins s σ H Q I h;rw[hs];show wpAny _ _ (spliced ((false,eval e X.env) ::backTo pos (starEach es X.env))) _ _ s;refine Calls.spliced_cons (cO (ha pins s σ H _ I h) fun u s1 ⟨x,H1,I1,r1,q1⟩=>?_)
 exact cO (hr pos pins s1 σ H1 _ I1 q1) fun us s2 ⟨xs,H2,I2,r2,q2⟩=>⟨x ::xs,H2,I2, .cons r1 r2,q2⟩
def Nb(t:TA):TE:=fun σ H Q=>t σ H fun xs H1=>xs.length<=sizeLine/\∀p,H1 p=none->Q (.ref p) (upd H1 p (.tup xs))
def M6(t:TA):TE:=fun σ H Q=>t σ H fun xs H1=>xs.length<=sizeLine/\∀p,H1 p=none->Q (.ref p) (upd H1 p (.lst xs))
theorem wV{x1}(h:PA X es t):PE X (.Tuple es x1 pos) (Nb t):=by
 intro pins s σ H Q I hq;refine wpAny_Tuple_spliced (cO (h pos pins s σ H _ I hq) fun us s1 ⟨xs,H1,I1,r,z,q⟩=>⟨by rw[<-r.length];exact z,?_⟩)
 have hf:H1 s1.heap.objs.size=none:=I1.hok.fresh (Nat.le_refl _);refine⟨.ref s1.heap.objs.size,upd H1 s1.heap.objs.size (.tup xs),I1.laid (t':=s1.toks) (fun b u e=>Heap.get?_push_of_some _ e) (Nat.le_refl _) ?_,rfl,q _ hf⟩
 exact⟨z,us,r,⟨_,Heap.get?_push_size _ rfl,rfl,_,rfl⟩⟩
theorem Ib(h:PA X es t):PE X (.List es pos) (M6 t):=by
 intro pins s σ H Q I hq;refine wpAny_List_spliced (cO (h pos pins s σ H _ I hq) fun us s1 ⟨xs,H1,I1,r,z,q⟩=>⟨by rw[<-r.length];exact z,?_⟩)
 have hf:H1 s1.heap.objs.size=none:=I1.hok.fresh (Nat.le_refl _);refine⟨.ref s1.heap.objs.size,upd H1 s1.heap.objs.size (.lst xs),I1.laid (t':=s1.toks) (fun b u e=>Heap.get?_push_of_some _ e) (Nat.le_refl _) ?_,rfl,q _ hf⟩
 exact⟨z,us,0,r,Heap.get?_push_size _ rfl⟩
end
abbrev Sp:=List V->Hp->VK->XK->Prop
abbrev AG:=List Env->Hp->Shared->XK->Value->Shared->Prop
structure w_ (P:Program) (w:World) (K:W.Frag) (mg:Wa) (base:Heap) (A:Around) (outer:List Env) (s:Shared) (H:Hp):Prop where
 frames:A.frames=some outer
 mod:Mod K mg base
 bs:∀b o,base.get? b=some o->s.heap.get? b=some o/\H b=none
 bsz:base.objs.size<=s.heap.objs.size
 oG:s.heap.FunFrames base outer
 frf:∀b∈pH outer,H b=none
 hok:l6 P w H s.heap
 bare:AllBare s.gens
def CE(outer:List Env)(P:Program)(w:World)(H:Hp)(s:Shared)(Q:VK)(u:Value)(s':Shared):Prop:=
 ∃v H',s'.os=s.os/\AllBare s'.gens/\Un (pH outer) [] H H' s.heap s'.heap/\l6 P w H' s'.heap/\RelV v u/\Q v H'
def CR(CX:AG)(outer:List Env)(P:Program)(w:World)(H:Hp)(s:Shared)(Q:VK)(E:XK)(r:Result)(s':Shared):Prop:=
 match r with
 | .ok (.ret u)=>CE outer P w H s Q u s'
 | .ok _=>False
 | .error e=>CX outer H s E e s'
structure gQ (P:Program) (w:World) (K:W.Frag) (mg:Wa) (base:Heap) (CX:AG) (k:Nat) (f:Addr) (fd:FuncData) (ps:List Str) (sp:Sp):Prop where
 len:∀vs H Q E,sp vs H Q E->vs.length=ps.length
 run:∀(A:Around) (outer:List Env) (s:Shared) (H:Hp) (args:Args) (us:List Value) (vs:List V) (Q:VK) (E:XK),dS k A->w_ P w K mg base A outer s H->BindsTo s fd args (ps.zip us)->Vals vs us->sp vs H Q E->
  codeAny (model P w) A (.call (.ref f) args) (CR CX outer P w H s Q E) s
theorem gQ.imp{P:Program}{w:World}{K:W.Frag}{mg:Wa}{base:Heap}{CX:AG}{k:Nat}{f:Addr}{fd:FuncData}{ps:List Str}{sp Rz:Sp}(F:gQ P w K mg base CX k f fd ps sp)
 (h:∀vs H Q E,Rz vs H Q E->sp vs H Q E):gQ P w K mg base CX k f fd ps Rz:=
 ⟨fun vs H Q E q=>F.len vs H Q E (h _ _ _ _ q),fun A outer s H args us vs Q E hr he hb hv hs=>F.run A outer s H args us vs Q E hr he hb hv (h _ _ _ _ hs)⟩
theorem w_.make{K:W.Frag}{mg:Wa}{outer:List Env}{s:Shared}(e:w_ P w K mg base A outer s H)(C:Addr)(us:List Value)(kw:List (Str × Value)) :
 w_ P w K mg base (A.under (.builtin "type.__call__" ⟨.ref C ::us,kw⟩)) outer s H:=⟨by first | exact e.frames | (simpa [Around.under,Code.envs,Code.isFrame,pushEnvs] using e.frames),e.mod,e.bs,e.bsz,e.oG,e.frf,e.hok,e.bare⟩
section
variable {X:Cx} {pins:V6} {σ:St} {H:Hp} {s s':Shared}
theorem Inv.LB(I:Inv X pins σ H s):w_ X.prog X.w X.K X.mg X.base X.A X.stack s H:=
 ⟨I.ok.frames,I.ok.mod,I.bs,Nat.le_trans I.ok.bsz I.sz,I.stack,I.pR,I.hok,I.bare⟩
theorem Inv.after{Q:VK}{u:Value}(I:Inv X pins σ H s)(h:CE X.stack X.prog X.w H s Q u s'):EP X pins σ Q u s':=by
 obtain⟨v,H',os,bare,un,hok,r,q⟩:=h;obtain⟨hh,g,d,t,UC⟩:=s';obtain rfl:UC=s.os:=os;exact⟨v,H',I.call (h':=hh) (g':=g) (d':=d) (t':=t) (ch:=[]) un hok bare (fun b z=>absurd z (by simp)),r,q⟩
end
def K6(sp:Sp)(uw:List V)(E:XK)(t:TA):TE:=fun σ H Q=>t σ H fun vs H1=>sp (vs++uw) H1 Q E
def KS(C:Addr)(m:Str)(sp:Sp)(uw:List V)(E:XK)(ta:TE)(t:TA):TE:=fun σ H Q=>ta σ H fun x H1=>∃a dx fs,x= .ref a/\H1 a=some (.ins C dx fs)/\fs.lookup m=none/\
 t σ H1 fun vs H2=>sp (x ::(vs++uw)) H2 Q E
def Lc(C:Addr)(sp:Sp)(uw:List V)(E:XK)(t:TA):TE:=fun σ H Q=>t σ H fun vs H1=>∀x dx,H1 x=none->H1 dx=none->dx≠x->
 sp (.ref x ::(vs++uw)) (upd (upd H1 dx (.own x)) x (.ins C dx [])) (fun v H2=>v= .cH/\Q (.ref x) H2) E
def Binds(K:W.Frag)(fd:FuncData)(ps:List Str)(ds:List Value):Prop:=
 ∀(s:Shared) (us:List Value),K.In s.heap->(us++ds).length=ps.length->BindsTo s fd ⟨us,[]⟩ (ps.zip (us++ds))
theorem Binds.all{K:W.Frag}{fd:FuncData}{ps:List Str}(h:∀us:List Value,us.length=ps.length->bindArgs fd ⟨us,[]⟩=pure (ps.zip us)):Binds K fd ps []:=fun s us _ hl=>by
 rw[List.append_nil] at hl ⊢;exact .of_eq (h us hl)
def Passes(CX:AG)(X:Cx)(E:XK):Prop:=∀(pins:V6) (σ:St) (H:Hp) (s:Shared) (e:Value) (s':Shared),Inv X pins σ H s->CX X.stack H s E e s'->X.xe e s'
section
variable {X:Cx} {CX:AG} {k:Nat} {f C:Addr} {fd:FuncData} {ps:List Str} {sp:Sp} {uw:List V} {ds:List Value} {E:XK} {x m:Str} {p pos apos:Pos} {e o:Expr} {es:List Expr} {ta:TE} {t:TA}
theorem Bd{pins:V6}{σ:St}{H:Hp}{s:Shared}{Q:VK}{us:List Value}{vs:List V}(F:gQ X.prog X.w X.K X.mg X.base CX k f fd ps sp)(hr:dS k X.A)(hb:Binds X.K fd ps ds)(hd:Vals uw ds)(hx:Passes CX X E)
 (I:Inv X pins σ H s) (r:Vals vs us) (h:sp (vs++uw) H Q E):wpAny (model X.prog X.w) X.A (call (.ref f) us) (EP X pins σ Q) X.xe s:=by
 have r2:Vals (vs++uw) (us++ds):=r.append hd;have hl:(us++ds).length=ps.length:=by rw[<-r2.length];exact F.len _ _ _ _ h
 refine wpAny_call (codeAny_mono (F.run X.A X.stack s H ⟨us,[]⟩ (us++ds) (vs++uw) Q E hr I.LB (hb s us I.vq hl) r2 h) fun r s' hq=>?_)
 cases r with
 | error e=>exact hx pins σ H s e s' I hq
 | ok fl=>
   cases fl with
   | ret u=>exact I.after hq
   | next=>exact False.elim hq
   | brk=>exact False.elim hq
   | cont=>exact False.elim hq
theorem zh(F:gQ X.prog X.w X.K X.mg X.base CX k f fd ps sp)(hr:dS k X.A)(hg:Gl X x)(hm:X.mg x=some (.ref f))(hk:PySem.W.keepIn X.K (.ref f)=true)(hb:Binds X.K fd ps ds)(hd:Vals uw ds)(hx:Passes CX X E)
 (ha:PA X (e ::es) t) (jE:(x==("__debug__":Str))=false:=by decide) (he:starEach (e ::es) X.env=(false,eval e X.env) ::starEach es X.env:=by rfl) (mj:(backTo pos (starEach es X.env)).any (·.1)=false:=by rfl) :
 PE X (.Call (.Name x p) (e ::es) [] pos) (K6 sp uw E t):=by
 intro pins s σ H Q I h;refine wpAny_Call_Name_kw (p9 I hg hm ?_ jE);refine PySem.W.callWith_K (h₀:=X.base) I.ok.mod.kin hk (cO (ha pos pins s σ H _ I h) fun us s1 ⟨vs,H1,I1,r,q⟩=>⟨I1.vq,?_⟩) he mj
 exact Bd F hr hb hd hx I1 r q
theorem FN{pl:Sem Bool}(he:PE X o ta)(c:uV X.K C)(hm:Meth X.K C m f)(F:gQ X.prog X.w X.K X.mg X.base CX k f fd ps sp)(hr:dS k X.A)(hb:Binds X.K fd ps ds)(hd:Vals uw ds)(hx:Passes CX X E)(ha:PA X (e ::es) t)
 (Ay:starEach (e ::es) X.env=(false,eval e X.env) ::starEach es X.env:=by rfl) (mj:(backTo pos (starEach es X.env)).any (·.1)=false:=by rfl)
 (ht:eval (.Call (.Attribute o m apos) (e ::es) [] pos) X.env=(do
   let ov <-eval o X.env
   standAt apos.atName
   let(f,first) <-holding [ov] (getMethod ov m pl)
   callWith pos f first (backTo pos (starEach (e ::es) X.env)) (backToKw pos (keywordEach [] X.env))):=by rfl) :
 PE X (.Call (.Attribute o m apos) (e ::es) [] pos) (KS C m sp uw E ta t):=by
 intro pins s σ H Q I h;refine PySem.W.methodCall_KW (pl:=pl) (cO (he pins s σ H _ I h) fun u s1 ⟨x,H1,I1,rx,a,dx,fs,ex,ea,l,q⟩=>?_) ht
 subst ex;obtain rfl:u=Value.ref a:=rx;refine xb I1 ea c hm l ?_;refine PySem.W.callWith_K (first:=[.ref a]) (h₀:=X.base) I.ok.mod.kin hm.kp (cO (ha pos pins s1 σ H1 _ I1 q) fun us s2 ⟨vs,H2,I2,r,q2⟩=>⟨I2.vq,?_⟩) Ay mj
 exact Bd (us:= .ref a ::us) (vs:= .ref a ::vs) F hr hb hd hx I2 (.cons rfl r) q2
structure Mk (K:W.Frag) (C f:Addr):Prop where
 makes:PySem.W.makesIn K C=true
 init:PySem.W.findIn K (.ref C) "__init__"=some (some (.ref f))
 fn:PySem.W.isFn K (.ref f)=true
 kp:PySem.W.keepIn K (.ref C)=true
theorem Cy{pins:V6}{σ:St}{H:Hp}{s:Shared}{Q:VK}{us:List Value}{vs:List V}(M:Mk X.K C f)(F:gQ X.prog X.w X.K X.mg X.base CX k f fd ps sp)(hr:dS (k+1) X.A)(hb:Binds X.K fd ps ds)(hd:Vals uw ds)
 (hx:Passes CX X E) (I:Inv X pins σ H s) (r:Vals vs us)
 (h:∀x dx,H x=none->H dx=none->dx≠x->sp (.ref x ::(vs++uw)) (upd (upd H dx (.own x)) x (.ins C dx [])) (fun v H2=>v= .cH/\Q (.ref x) H2) E) :
 wpAny (model X.prog X.w) X.A (call (.ref C) us) (EP X pins σ Q) X.xe s:=by
 have hq:=h (s.heap.objs.size+1) s.heap.objs.size (I.hok.fresh (Nat.le_succ _)) (I.hok.fresh (Nat.le_refl _)) (Nat.ne_of_lt (Nat.lt_succ_self _));have I2:=Inv.made (C:=C) I;have r2:Vals (V.ref (s.heap.objs.size+1) ::(vs++uw)) (Value.ref (s.heap.objs.size+1) ::(us++ds)):= .cons rfl (r.append hd);have hl:(Value.ref (s.heap.objs.size+1) ::us++ds).length=ps.length:=by
  have e:=r2.length;rw[F.len _ _ _ _ hq] at e;exact e.symm
 refine wpAny_call (Bl (f:=f) I.vq M.makes M.init (beq_iff_eq.mp M.fn) (codeAny_mono (F.run _ X.stack _ _ ⟨Value.ref (s.heap.objs.size+1) ::us,[]⟩ (Value.ref (s.heap.objs.size+1) ::(us++ds)) _ _ E (hr.make C us [])
  (I2.LB.make C us []) (hb _ (Value.ref (s.heap.objs.size+1) ::us) I2.vq hl) r2 hq) fun r s' Ma=>?_))
 cases r with
 | error e=>exact hx pins σ _ _ e s' I2 Ma
 | ok fl=>
   cases fl with
   | ret u=>
     obtain⟨v,H',I3,rv,ev,q3⟩:=I2.after Ma;subst ev;exact⟨rv,⟨V.ref (s.heap.objs.size+1),H',I3,rfl,q3⟩⟩
   | next=>exact False.elim Ma
   | brk=>exact False.elim Ma
   | cont=>exact False.elim Ma
theorem Bq(M:Mk X.K C f)(F:gQ X.prog X.w X.K X.mg X.base CX k f fd ps sp)(hr:dS (k+1) X.A)(hg:Gl X x)(hm:X.mg x=some (.ref C))(hb:Binds X.K fd ps ds)(hd:Vals uw ds)(hx:Passes CX X E)
 (jE:(x==("__debug__":Str))=false:=by decide):PE X (.Call (.Name x p) [] [] pos) (Lc C sp uw E Lx):=by
 intro pins s σ H Q I h;refine wpAny_Call_Name_kw (p9 I hg hm ?_ jE);exact PySem.W.callWith_K0 I.vq M.kp (Cy (us:=[]) M F hr hb hd hx I .nil h)
end
def PK(X:Cx)(RA:List Keyword)(t:TA):Prop:=
 ∀(pos:Pos) (pins:V6) (s:Shared) (σ:St) (H:Hp) (Q:List V->Hp->Prop),Inv X pins σ H s->t σ H Q->wpAny (model X.prog X.w) X.A (evalAll ((backToKw pos (keywordEach RA X.env)).map (·.2))) (AP X pins σ Q) X.xe s
section
variable {X:Cx} {CX:AG} {k:Nat} {f C:Addr} {fd:FuncData} {ps ks:List Str} {sp:Sp} {E:XK} {x m:Str} {p pos apos UT:Pos} {e o:Expr} {es:List Expr} {RA:List Keyword} {te ta:TE} {t tk:TA} {nm:Option Str}
structure M3 (K:W.Frag) (fd:FuncData) (ps ks:List Str) (g:List Value->List Value->List Value) (gV:List V->List V->List V):Prop where
 to:∀(s:Shared) (us ws:List Value),K.In s.heap->(g us ws).length=ps.length->BindsTo s fd ⟨us,ks.zip ws⟩ (ps.zip (g us ws))
 rel:∀{vs:List V} {us:List Value} {zs:List V} {ws:List Value},Vals vs us->Vals zs ws->Vals (gV vs zs) (g us ws)
def Na(sp:Sp)(gV:List V->List V->List V)(E:XK)(t tk:TA):TE:=fun σ H Q=>t σ H fun vs H1=>tk σ H1 fun zs H2=>sp (gV vs zs) H2 Q E
variable {g:List Value->List Value->List Value} {gV:List V->List V->List V}
end
structure bf (N P:List Str) (sc:Scope):Prop where
 kind:sc.kind= .function
 co:sc.isCoroutine=false
 gen:sc.isGenerator=false
 nd:N.Nodup
 pre:N.take P.length=P
 par:∀x∈P,sc.names.lookup x=some .local\/sc.names.lookup x=some .cell
 nofree:∀y∈sc.names,y.2≠ .free
theorem sk{kindOf:Str->Option NameKind}:∀{binds:List (Str × Value)} {m:Wa},(∀v,(x,v) ∉ binds)->bindL kindOf binds m x=m x
 | [],_,_=>rfl
 | (n,v) ::r,m,h=>by
   unfold bindL;rw[sk fun w hw=>h w (List.mem_cons_of_mem _ hw)]
   split
   .have:x≠n:=by rintro rfl;exact h v List.mem_cons_self
    simp [this]
   .rfl
theorem rW{kindOf:Str->Option NameKind}:∀{binds:List (Str × Value)} {m:Wa},(∀v,(x,v) ∉ binds)->bindC kindOf binds m x=m x
 | [],_,_=>rfl
 | (n,v) ::r,m,h=>by
   unfold bindC;rw[rW fun w hw=>h w (List.mem_cons_of_mem _ hw)]
   split
   .rfl
   .have:x≠n:=by rintro rfl;exact h v List.mem_cons_self
    simp [this]
theorem se{kindOf:Str->Option NameKind}{v:Value}:∀{P:List Str} {vs:List Value} {i:Nat} {m:Wa},P.Nodup->P[i]? =some x->vs[i]? =some v->kindOf x=some .local->
 bindL kindOf (P.zip vs) m x=some v
 | [],_,_,_,_,h,_,_=>by simp at h
 | _ ::_,[],_,_,_,_,h,_=>by simp at h
 | p ::P,w ::vs,0,m,nd,h1,h2,hk=>by
   simp at h1 h2;subst h1;subst h2;show bindL kindOf ((p,w) ::P.zip vs) m p=_;unfold bindL;rw[sk fun v hv=>(List.nodup_cons.mp nd).1 (List.of_mem_zip hv).1,if_pos hk]
   simp
 | p ::P,w ::vs,i+1,m,nd,h1,h2,hk=>by
   show bindL kindOf ((p,w) ::P.zip vs) m x=_;unfold bindL;exact se (i:=i) (List.nodup_cons.mp nd).2 (by simpa using h1) (by simpa using h2) hk
theorem sE{kindOf:Str->Option NameKind}{v:Value}:∀{P:List Str} {vs:List Value} {i:Nat} {m:Wa},P.Nodup->P[i]? =some x->vs[i]? =some v->kindOf x≠some .local->
 bindC kindOf (P.zip vs) m x=some v
 | [],_,_,_,_,h,_,_=>by simp at h
 | _ ::_,[],_,_,_,_,h,_=>by simp at h
 | p ::P,w ::vs,0,m,nd,h1,h2,hk=>by
   simp at h1 h2;subst h1;subst h2;show bindC kindOf ((p,w) ::P.zip vs) m p=_;unfold bindC;rw[rW fun v hv=>(List.nodup_cons.mp nd).1 (List.of_mem_zip hv).1,if_neg hk]
   simp
 | p ::P,w ::vs,i+1,m,nd,h1,h2,hk=>by
   show bindC kindOf ((p,w) ::P.zip vs) m x=_;unfold bindC;exact sE (i:=i) (List.nodup_cons.mp nd).2 (by simpa using h1) (by simpa using h2) hk
def start(N:List Str)(vs:List V):St:=vs.map some++List.replicate (N.length - vs.length) none
def j8(CX:AG)(P:Program)(w:World)(K:W.Frag)(mg:Wa)(base:Heap)(N:List Str)(qual:Str)(scope:Scope)(f:Addr)(cd:Value)(A:Around)(outer:List Env)(s:Shared)(H:Hp)(E:XK):Cx where
 prog:=P
 w:=w
 K:=K
 mg:=mg
 base:=base
 A:=A.deeper (envOfC qual scope s.heap.objs.size f cd)
 N:=N
 s₀:=s
 H₀:=H
 env:=envOfC qual scope s.heap.objs.size f cd
 outer:=outer
 stack:=envOfC qual scope s.heap.objs.size f cd ::outer
 ex:=[]
 calm:=true
 fn:=fun _=>true
 pn:=[]
 xe:=fun e s'=>wpAny (model P w) (A.deeper (envOfC qual scope s.heap.objs.size f cd)) (leaving (envOfC qual scope s.heap.objs.size f cd) e) (fun _ Pa=>CX outer H s E e Pa) (fun e' Pa=>CX outer H s E e' Pa) s'
theorem qZ{sc:Scope}{n:Nat}(h:sc.names.lookup x=some .cell):∃c,(cellsFrom n sc.names []).lookup x=some c:=by
 have q:=PySem.W.cellsFrom_some sc.names n [] (.inl h);exact Option.isSome_iff_exists.mp q
theorem Ao{CX:AG}{P:Program}{w:World}{K:W.Frag}{mg:Wa}{base:Heap}{N ps:List Str}{qual:Str}{scope:Scope}{f:Addr}{cd:Value}{A:Around}{outer:List Env}{s s1:Shared}{H:Hp}{E:XK}{us:List Value}{vs:List V}
 (S:bf N ps scope) (hd:A.handled=none) (e0:w_ P w K mg base A outer s H) (hl:vs.length=ps.length) (r:Vals vs us)
 (x:InCallC s s.heap.objs.size (bindL (envOfC qual scope s.heap.objs.size f cd).kindOf (ps.zip us) fun _=>none) (cellsFrom (s.heap.objs.size+1) scope.names []) (bindC (envOfC qual scope s.heap.objs.size f cd).kindOf (ps.zip us) fun _=>none) s1) :
 Inv (j8 CX P w K mg base N qual scope f cd A outer s H E) [] (start N vs) H s1:=by
 have mj:ps.length<=N.length:=by have:=congrArg List.length S.pre;rw [List.length_take] at this;omega
 obtain⟨h1,tk,rfl,hk⟩:=x.done;have noA:∀b:Addr,b ∉ (j8 CX P w K mg base N qual scope f cd A outer s H E).ex:=fun b z=>absurd (show b∈([]:List Addr) from z) (by simp)
 refine⟨⟨e0.mod,S.kind,rfl,rfl,Nat.le_refl _,fun y z c h1 h2=>?_,fun y hy=>?_,fun y c _ h=>?_,fun _=>hd,Around.frames_deeper e0.frames, .inr ⟨rfl,rfl⟩,fun b z=>absurd z (noA b),e0.bs,e0.bsz,fun b _ _=>noA b,fun b z=>absurd z (noA b),e0.oG,e0.frf⟩,
  rfl,e0.bare,Un.kept hk,⟨_,x.toInCall.ns,fun i y v h1 h2 h3=>?_⟩,fun y c h=>⟨_,x.cell y c h⟩,e0.hok.fresh (Nat.le_refl _),fun y c h=>?_,fun p hp=>absurd (show p∈([]:V6) from hp) (by simp),e0.hok.kept hk,?_⟩
 .exact name_of_addr x.apart (PySem.mem_of_lookup h1) (PySem.mem_of_lookup h2)
 .have hy:scope.names.lookup y=some .cell\/scope.names.lookup y=some .free:=hy;rcases hy with hy | hy
  .exact qZ hy
  .exact absurd rfl (S.nofree _ (PySem.mem_of_lookup hy))
 .exact Nat.le_of_lt (x.above y c (PySem.mem_of_lookup h))
 .have hi:i < vs.length:=by
   unfold start at h2;by_cases hi:i < vs.length
   .exact hi
   .rw [List.getElem?_append_right (by simpa using hi)] at h2
    rw[List.getElem?_replicate] at h2;split at h2 <;> cases h2
  have ha:vs[i]? =some v:=by
   unfold start at h2;rw[List.getElem?_append_left (by simpa using hi),List.getElem?_map] at h2
   cases e:vs[i]? with
   | none=>rw [e] at h2;cases h2
   | some a=>rw [e] at h2;cases h2;rfl
  obtain⟨u,hu,rv⟩:=r.get ha;have hp:ps[i]? =some y:=by
   rw[<-S.pre,List.getElem?_take_of_lt (by omega)];exact h1
  have ndP:ps.Nodup:=by rw[<-S.pre];exact S.nd.sublist (List.take_sublist _ _)
  refine⟨u,rv,?_⟩;rcases S.par y (List.mem_of_getElem? hp) with k | k
  .exact .inl ⟨k,se ndP hp hu k⟩
  .obtain⟨c,e⟩:=qZ (n:=s.heap.objs.size+1) k;refine .inr ⟨.inl k,c,e,?_⟩;have q:=x.cell y c e;rw[sE ndP hp hu (by show scope.names.lookup y≠_;rw [k];decide)] at q
   exact q
 .exact e0.hok.fresh (Nat.le_of_lt (x.above y c (PySem.mem_of_lookup h)))
 .unfold start;show _=N.length;rw[List.length_append,List.length_map,List.length_replicate];omega
theorem GV{CX:AG}{P:Program}{w:World}{K:W.Frag}{mg:Wa}{base:Heap}{k:Nat}{f:Addr}{name qual:Str}{params:Arguments}{body:List Stmt}{scope:Scope}{dV kV doc pm dI ct oc:Value}{an od:Option Addr}
 {DC:Array (Option Value)} {N ps:List Str} {sp:Sp} (lk:K.lookup f=some ⟨oc,od, .func (PySem.W.fnOf name qual params body scope dV kV doc pm an dI ct),DC⟩) (rM:PySem.W.codeIn K dI qual=true) (S:bf N ps scope)
 (len:∀vs H Q E,sp vs H Q E->vs.length=ps.length)
 (i_:∀(A:Around) (outer:List Env) (s:Shared) (H:Hp) (vs:List V) (Q:VK) (E:XK),dS k (A.deeper (envOfC qual scope s.heap.objs.size f dI))->sp vs H Q E->
   ∃t,sQ (j8 CX P w K mg base N qual scope f dI A outer s H E) body t/\t {nx:=fun _ H'=>Q .cH H',rt:=Q} (start N vs) H) :
 gQ P w K mg base CX (k+1) f (PySem.W.fnOf name qual params body scope dV kV doc pm an dI ct) ps sp:=by
 refine⟨len,fun A outer s H args us vs Q E hr e0 hb r G1=>?_⟩
 have hl:=len _ _ _ _ G1;have KX:K.In s.heap:=e0.mod.kin.keeps fun b o e=>(e0.bs b o e).1
 have lim:s.heap.NoLimit:=e0.mod.nolimit.keeps fun b o e=>(e0.bs b o e).1
 have hkind:∀y∈ps.zip us,scope.names.lookup y.1=some .local\/(scope.names.lookup y.1=some .cell/\((cellsFrom (s.heap.objs.size+1) scope.names []).lookup y.1).isSome=true):=fun⟨n,v⟩ hy=>by
  rcases S.par n (List.of_mem_zip hy).1 with q | q
  .exact .inl q
  .exact .inr ⟨q,PySem.W.cellsFrom_some _ _ _ (.inl q)⟩
 refine codeAny_call_function hr.depth (KX _ _ lk) rfl S.co S.gen rfl (PySem.W.codeRec_of KX rM) (hb _ _ _ _ ?_);refine wpAny_newFunctionEnv_cells S.kind hkind fun env he s1 x=>?_
 subst he;refine⟨lim.keeps x.toInCall.keep,codeAny_func ?_⟩;obtain⟨t,ht,hq⟩:=i_ A outer s H vs Q E (hr.deeper _) G1;have I:Inv (j8 CX P w K mg base N qual scope f dI A outer s H E) [] (start N vs) H s1:=Ao S hr.hd e0 hl r x;refine wpAny_mono (ht [] s1 (start N vs) H _ I hq) (fun fl s' hs=>?_) fun e s' hs=>hs
 have fin:∀{cB:St} {H':Hp} {v:V} {u:Value},Inv (j8 CX P w K mg base N qual scope f dI A outer s H E) [] cB H' s'->RelV v u->Q v H'->CE outer P w H s Q u s':=
  fun {cB H' v u} J rv q=>⟨v,H',J.os,J.bare,J.base,J.hok,rv,q⟩
 cases fl with
 | ret u=>
   obtain⟨v,cB,H',J,rv,q⟩:=hs;exact fin J rv q
 | next=>
   obtain⟨cB,H',J,q⟩:=hs;exact fin (v:=V.cH) (u:=Value.none) J rfl q
 | brk=>
   obtain⟨_,_,_,q⟩:=hs;exact False.elim q
 | cont=>
   obtain⟨_,_,_,q⟩:=hs;exact False.elim q
section
variable {X:Cx} {x:Str} {p pos:Pos} {e:Expr} {es:List Expr} {t:TA} {id T:String} {r:List V->Hp->VK->Prop}
def QR(r:List V->Hp->VK->Prop)(t:TA):TE:=fun σ H Q=>t σ H fun vs H1=>r vs H1 Q
theorem vL(hc:j7 X (.builtin id) r)(hg:Gl X x)(hm:X.mg x=none)(hv:bootBuiltins x=some (.builtin id))(ha:PA X (e ::es) t)(hn:x≠"__name__":=by decide)(jE:(x==("__debug__":Str))=false:=by decide)
 (he:starEach (e ::es) X.env=(false,eval e X.env) ::starEach es X.env:=by rfl) (mj:(backTo pos (starEach es X.env)).any (·.1)=false:=by rfl):PE X (.Call (.Name x p) (e ::es) [] pos) (QR r t):=by
 intro pins s σ H Q I h;refine wpAny_Call_Name_kw (sV I hg hm hv ?_ hn jE);exact PyProof.Rows.callWith_builtin1 (cO (ha pos pins s σ H _ I h) fun us s1 ⟨vs,H1,I1,r1,q1⟩=>hc pins s1 σ H1 vs us Q I1 r1 q1) he mj
theorem rP(hc:j7 X (.type T) r)(hg:Gl X x)(hm:X.mg x=none)(hv:bootBuiltins x=some (.type T))(ha:PA X (e ::es) t)(hn:x≠"__name__":=by decide)(jE:(x==("__debug__":Str))=false:=by decide)
 (he:starEach (e ::es) X.env=(false,eval e X.env) ::starEach es X.env:=by rfl) (mj:(backTo pos (starEach es X.env)).any (·.1)=false:=by rfl):PE X (.Call (.Name x p) (e ::es) [] pos) (QR r t):=by
 intro pins s σ H Q I h;refine wpAny_Call_Name_kw (sV I hg hm hv ?_ hn jE);exact PyProof.Rows.callWith_type1 (cO (ha pos pins s σ H _ I h) fun us s1 ⟨vs,H1,I1,r1,q1⟩=>hc pins s1 σ H1 vs us Q I1 r1 q1) he mj
end
section
variable {κ:Type} [DecidableEq κ]
def iJ(aA:List (κ × V))(k:κ):Option V:=(aA.find? fun kv=>decide (kv.1=k)).map (·.2)
def putK(aA:List (κ × V))(k:κ)(v:V):List (κ × V):=
 if(aA.any fun kv=>decide (kv.1=k))=true then aA.map (fun kv=>if kv.1=k then(kv.1,v) else kv) else aA++[(k,v)]
def BR(aA:List (κ × V))(k:κ):List (κ × V):=aA.filter fun kv=>decide (kv.1≠k)
theorem qw{p:κ × V}{r:List (κ × V)}{k:κ}(e:p.1=k):iJ (p ::r) k=some p.2:=by simp [iJ,List.find?_cons,e]
theorem qg{p:κ × V}{r:List (κ × V)}{k:κ}(e:¬p.1=k):iJ (p ::r) k=iJ r k:=by simp [iJ,List.find?_cons,e]
theorem uL(k:κ):∀aA:List (κ × V),(aA.any fun kv=>decide (kv.1=k))=(iJ aA k).isSome
 | []=>rfl
 | p ::r=>by
   rw[List.any_cons];by_cases e:p.1=k
   .simp only[qw e,decide_eq_true e,Bool.true_or,Option.isSome_some]
   .rw [qg e,decide_eq_false e,Bool.false_or];exact uL k r
theorem lC(aA:List (κ × V))(k:κ)(v:V):(putK aA k v).length<=aA.length+1:=by
 unfold putK;split
 .rw [List.length_map];omega
 .rw [List.length_append,List.length_cons,List.length_nil];omega
theorem ka.gf{o:Option V}{u:Option Value}(r:ka o u):o.isSome=u.isSome:=by
 cases o with
 | none=>cases u with
   | none=>rfl
   | some _=>exact(show False from r).elim
 | some _=>cases u with
   | none=>exact(show False from r).elim
   | some _=>rfl
theorem ka.getD{o:Option V}{u:Option Value}{d:V}{d':Value}(r:ka o u)(rd:RelV d d'):RelV (o.getD d) (u.getD d'):=by
 cases o with
 | none=>cases u with
   | none=>exact rd
   | some _=>exact(show False from r).elim
 | some _=>cases u with
   | none=>exact(show False from r).elim
   | some _=>exact r
theorem KV.val{aA:List (κ × V)}{vs:List (κ × Value)}(r:KV aA vs)(k:κ):ka (iJ aA k) (valueAt vs k):=by
 unfold KV at r
 induction r with
 | nil=>exact True.intro
 | @cons p q ps qs h t ih=>
   obtain⟨h1,h2⟩:=h;by_cases e:p.1=k
   .have e':q.1=k:=h1.symm.trans e;have b:valueAt (q ::qs) k=some q.2:=by simp [valueAt,List.find?_cons,e']
    rw[qw e,b];exact h2
   .have e':¬q.1=k:=fun z=>e (h1.trans z)
    have b:valueAt (q ::qs) k=valueAt qs k:=by simp [valueAt,List.find?_cons,e']
    rw[qg e,b];exact ih
theorem KV.any{aA:List (κ × V)}{vs:List (κ × Value)}(r:KV aA vs)(k:κ):(aA.any fun kv=>decide (kv.1=k))=vs.any fun kv=>decide (kv.1=k):=by
 unfold KV at r
 induction r with
 | nil=>rfl
 | cons h t ih=>rw [List.any_cons,List.any_cons,ih,h.1]
theorem KV.HJ{aA:List (κ × V)}{vs:List (κ × Value)}(r:KV aA vs)(k:κ){y:V}{u:Value}(ry:RelV y u) :
 KV (aA.map fun kv=>if kv.1=k then(kv.1,y) else kv) (vs.map fun kv=>if kv.1=k then(kv.1,u) else kv):=by
 unfold KV at r ⊢
 induction r with
 | nil=>exact .nil
 | @cons p q ps qs h t ih=>
   rw[List.map_cons,List.map_cons];refine .cons ?_ ih;obtain⟨h1,h2⟩:=h;by_cases e:p.1=k
   .rw [if_pos e,if_pos (h1.symm.trans e)];exact⟨h1,ry⟩
   .rw [if_neg e,if_neg (fun z=>e (h1.trans z))];exact⟨h1,h2⟩
theorem KV.put{aA:List (κ × V)}{vs:List (κ × Value)}(r:KV aA vs)(k:κ){y:V}{u:Value}(ry:RelV y u):KV (putK aA k y) (stored vs k u):=by
 unfold putK stored;rw[r.any k];by_cases e:(vs.any fun kv=>decide (kv.1=k))=true
 .rw [if_pos e,if_pos e];exact r.HJ k ry
 .rw [if_neg e,if_neg e];exact Paired.snoc r ⟨rfl,ry⟩
theorem KV.length{aA:List (κ × V)}{vs:List (κ × Value)}(r:KV aA vs):aA.length=vs.length:=Paired.length r
end
theorem mM{k:Key}{u:Value}(r:RelV (kV k) u):(cL P w).is k u=true:=by
 cases k with
 | inl i=>obtain⟨t,e⟩:=(show ∃t,u=Value.int i t from r);subst e;exact vx P w i t
 | inr x=>obtain⟨t,e⟩:=(show ∃t,u=Value.str x t from r);subst e;exact ll P w x t
theorem sF:∀{ks:List Key} {us:List Value},Vals (ks.map kV) us->ItemsAre (cL P w) ks us
 | [],_,r=>by rw[List.map_nil] at r;cases r;exact .nil
 | k ::ks,_,r=>by
   rw[List.map_cons] at r;cases r with
   | cons h t=>exact .cons (mM h) (sF t)
abbrev KT(H:Hp):List (List Key × V)->List (List Key × Addr × Value)->Prop:=Paired fun p q=>p.1=q.1/\H q.2.1=some (.tup (p.1.map kV))/\RelV p.2 q.2.2
theorem KT.val{aA:List (List Key × V)}{xs:List (List Key × Addr × Value)}(r:KT H aA xs)(k:List Key):ka (iJ aA k) ((atKey xs k).map (·.2)):=by
 induction r with
 | nil=>exact True.intro
 | @cons p q ps qs h t ih=>
   obtain⟨h1,_,h2⟩:=h;by_cases e:p.1=k
   .have e':q.1=k:=h1.symm.trans e;have b:atKey (q ::qs) k=some q.2:=by simp [atKey,List.find?_cons,e']
    rw[qw e,b];exact h2
   .have e':¬q.1=k:=fun z=>e (h1.trans z)
    have b:atKey (q ::qs) k=atKey qs k:=by simp [atKey,List.find?_cons,e']
    rw[qg e,b];exact ih
theorem KT.HJ{aA:List (List Key × V)}{xs:List (List Key × Addr × Value)}(r:KT H aA xs)(k:List Key){y:V}{u:Value}(ry:RelV y u) :
 KT H (aA.map fun kv=>if kv.1=k then(kv.1,y) else kv) (xs.map (putAt k u)):=by
 induction r with
 | nil=>exact .nil
 | @cons p q ps qs h t ih=>
   rw[List.map_cons,List.map_cons];refine .cons ?_ ih;obtain⟨h1,h2,h3⟩:=h;unfold putAt;by_cases e:p.1=k
   .rw [if_pos e,if_pos (h1.symm.trans e)];exact⟨h1,h2,ry⟩
   .rw [if_neg e,if_neg (fun z=>e (h1.trans z))];exact⟨h1,h2,h3⟩
theorem KT.put{H:Hp}{aA:List (List Key × V)}{xs:List (List Key × Addr × Value)}(r:KT H aA xs)(k:List Key){b:Addr}{y:V}{u:Value}(hb:H b=some (.tup (k.map kV)))(ry:RelV y u) :
 KT H (putK aA k y) (storedH xs k b u):=by
 have e:(aA.any fun kv=>decide (kv.1=k))=(atKey xs k).isSome:=by
  rw[uL,(r.val k).gf,Option.isSome_map]
 unfold putK storedH;rw[e];by_cases q:(atKey xs k).isSome=true
 .rw [if_pos q,if_pos q];exact r.HJ k ry
 .rw [if_neg q,if_neg q];exact Paired.snoc r ⟨rfl,hb,ry⟩
theorem KT.keeps{H H':Hp}{aA:List (List Key × V)}{xs:List (List Key × Addr × Value)}(r:KT H aA xs)(ht:∀b ys,H b=some (.tup ys)->H' b=some (.tup ys)):KT H' aA xs:=
 Paired.Ha r fun _ _ z=>⟨z.1,ht _ _ z.2.1,z.2.2⟩
section
variable {P:Program} {w:World} {H:Hp} {h:Heap} {a:Addr}
theorem GO{u:HO}(ok:l6 P w H h)(e:Rd H a u):d8 P w H h a u:=e.ok ok
theorem o5{aA:List (Key × V)}(ok:l6 P w H h)(e:Rd H a (.dK aA)):aA.length<=sizeLine/\(a==sysModules)=false/\∃vs,KV aA vs/\h.DictOf (cL P w) a vs:=
 show d8 P w H h a (.dK aA) from GO ok e
theorem Gr{aA:List (Key × V)}(ok:l6 P w H h)(e:H a=some (.dK aA)):aA.length<=sizeLine/\(a==sysModules)=false/\∃vs,KV aA vs/\h.DictOf (cL P w) a vs:=o5 ok (.inl e)
theorem oO{ks:List Key}(ok:l6 P w H h)(e:H a=some (.tup (ks.map kV))):(tupleKind (cL P w)).is h ks a:=by
 obtain⟨_,its,r,o,h1,h2,n,h3⟩:=(show d8 P w H h a (.tup (ks.map kV)) from ok a _ e)
 exact⟨o,its.toArray,n,h1,h2,h3,by simpa using sF r⟩
theorem q8{aA:List (List Key × V)}(ok:l6 P w H h)(e:Rd H a (.dT aA)):aA.length<=sizeLine/\(a==sysModules)=false/\
 ∃xs,KT H aA xs/\h.DictOfH (tupleKind (cL P w)) a xs:=by
 obtain⟨z,y,xs,r,o,es,ep,h1,h2,h3,h4,h5⟩:=(show d8 P w H h a (.dT aA) from GO ok e)
 refine⟨z,y,xs,r,o,es,ep,h1,h2,h3,h4,fun x hx=>?_,h5⟩
 have all:∀{l:List (List Key × V)} {m:List (List Key × Addr × Value)},KT H l m->∀x∈m,(tupleKind (cL P w)).is h x.1 x.2.1:=by
  intro l m q
  induction q with
  | nil=>intro x hx;exact nomatch hx
  | @cons p q ps qs hq t ih=>
    intro x hx;rcases List.mem_cons.mp hx with e | hx
    .subst e;exact oO ok (by rw[<-hq.1];exact hq.2.1)
    .exact ih x hx
 exact all r x hx
theorem KR{aA:List (List Key × V)}(ok:l6 P w H h)(e:H a=some (.dT aA)):aA.length<=sizeLine/\(a==sysModules)=false/\
 ∃xs,KT H aA xs/\h.DictOfH (tupleKind (cL P w)) a xs:=q8 ok (.inl e)
end
def mz(H:Hp)(a:Addr)(y:V)(r:Option V):Prop:=
 (∃aA k,Rd H a (.dK aA)/\y=kV k/\r=iJ aA k)\/∃aA k b,Rd H a (.dT aA)/\y= .ref b/\H b=some (.tup (k.map kV))/\r=iJ aA k
def z8(H:Hp)(a:Addr)(y v:V)(H':Hp):Prop:=
 (∃aA k,H a=some (.dK aA)/\y=kV k/\aA.length < sizeLine/\H'=upd H a (.dK (putK aA k v)))\/
 ∃aA k b,H a=some (.dT aA)/\y= .ref b/\H b=some (.tup (k.map kV))/\aA.length < sizeLine/\H'=upd H a (.dT (putK aA k v))
theorem mz.k{H:Hp}{a:Addr}{aA:List (Key × V)}{k:Key}(e:H a=some (.dK aA)):mz H a (kV k) (iJ aA k):= .inl ⟨aA,k, .inl e,rfl,rfl⟩
theorem z8.k{H:Hp}{a:Addr}{aA:List (Key × V)}{k:Key}{v:V}(e:H a=some (.dK aA))(hl:aA.length < sizeLine):z8 H a (kV k) v (upd H a (.dK (putK aA k v))):= .inl ⟨aA,k,e,rfl,hl,rfl⟩
section
variable {X:Cx} {pins:V6} {σ:St} {H:Hp} {s:Shared} {a:Addr} {y v:V} {u r:Value} {o:Option V} {A:Around} {E:V7}
theorem Inv.big(I:Inv X pins σ H s):sysModules < s.heap.objs.size:=by
 have h:mainGlobals < s.heap.objs.size:=(I.mod.glob.keeps I.bk).lt;exact Nat.lt_trans (by decide) h
theorem zS{Q:V7}(hu:A.units+1 < cLine)(I:Inv X pins σ H s)(g:mz H a y (some v))(ry:RelV y u)(h:∀w' s',Inv X pins σ H s'->RelV v w'->Q w' s') :
 wpAny (model X.prog X.w) A (getItem (.ref a) u) Q E s:=by
 rcases g with⟨aA,k,e,ey,l⟩ | ⟨aA,k,b,e,ey,eb,l⟩
 .subst ey;obtain⟨z,hd,vs,rel,dd⟩:=o5 I.hok e;obtain⟨w',hw,AB⟩:=ka.some_of (v:=v) (o:=valueAt vs k) (by rw[l];exact rel.val k)
  exact wpAny_getItem_of (mM ry) dd.mapOf hw (h w' _ (I.tok _) AB)
 .subst ey;cases(show u=Value.ref b from ry)
  obtain⟨z,hd,xs,rel,dd⟩:=q8 I.hok e;obtain⟨w',hw,AB⟩:=ka.some_of (v:=v) (o:=(atKey xs k).map (·.2)) (by rw[l];exact rel.val k)
  obtain⟨p,hp,Uw⟩:=Option.map_eq_some_iff.mp hw;refine wpAny_getItem_heap (tupleKind_room_in1 hu) (oO I.hok eb) dd hp ?_;rw[Uw];exact h w' _ (I.tok _) AB
theorem Ng{Q:V7}(hu:A.units+1 < cLine)(I:Inv X pins σ H s)(g:mz H a y o)(ry:RelV y u)(h:∀s',Inv X pins σ H s'->Q (.bool o.isSome) s') :
 wpAny (model X.prog X.w) A (compareOp .In u (.ref a)) Q E s:=by
 rcases g with⟨aA,k,e,ey,l⟩ | ⟨aA,k,b,e,ey,eb,l⟩
 .subst ey;obtain⟨z,hd,vs,rel,dd⟩:=o5 I.hok e;refine wpAny_in_of (mM ry) hd dd.mapOf ?_;rw[<-(rel.val k).gf,<-l];exact h _ (I.tok _)
 .subst ey;cases(show u=Value.ref b from ry)
  obtain⟨z,hd,xs,rel,dd⟩:=q8 I.hok e;refine wpAny_in_heap (tupleKind_room_in1 hu) (oO I.hok eb) hd dd ?_;have q:=(rel.val k).gf;rw[Option.isSome_map] at q;rw[<-q,<-l];exact h _ (I.tok _)
theorem E9{Q:V7}(hu:A.units+1 < cLine)(I:Inv X pins σ H s)(g:mz H a y o)(ry:RelV y u)(h:∀s',Inv X pins σ H s'->Q (.bool (!o.isSome)) s') :
 wpAny (model X.prog X.w) A (compareOp .NotIn u (.ref a)) Q E s:=by
 rcases g with⟨aA,k,e,ey,l⟩ | ⟨aA,k,b,e,ey,eb,l⟩
 .subst ey;obtain⟨z,hd,vs,rel,dd⟩:=o5 I.hok e;refine wpAny_notIn_of (mM ry) hd dd.mapOf ?_;rw[<-(rel.val k).gf,<-l];exact h _ (I.tok _)
 .subst ey;cases(show u=Value.ref b from ry)
  obtain⟨z,hd,xs,rel,dd⟩:=q8 I.hok e;refine wpAny_notIn_heap (tupleKind_room_in1 hu) (oO I.hok eb) hd dd ?_;have q:=(rel.val k).gf;rw[Option.isSome_map] at q;rw[<-q,<-l];exact h _ (I.tok _)
theorem tH{h':Heap}{t':Nat}{ob:HO}(I:Inv X pins σ H s)(mu:Lg (H a))(hs:Heap.SameBut a s.heap h')(he:∃q,h'.get? a=some q)(new:d8 X.prog X.w (upd H a ob) h' a ob) :
 Inv X pins σ (upd H a ob) {s with heap:=h',toks:=t'}:=
 I.write (x:=a) (e:=a) mu (.inl rfl) (fun b q hb z=>(hs.2 b hb).trans z) he new
theorem Cg{H':Hp}{h':Heap}{aA:List (Key × V)}{vs:List (Key × Value)}(z:aA.length<=sizeLine)(hd:(a==sysModules)=false)(rel:KV aA vs)(dd:h'.DictOf (cL P w) a vs) :
 d8 P w H' h' a (.dK aA):=⟨z,hd,vs,rel,dd⟩
theorem Ar{Q:Unit->Shared->Prop}(hu:A.units+1 < cLine)(I:Inv X pins σ H s)(g:z8 H a y v H')(ry:RelV y u)(rv:RelV v r)(h:∀s',Inv X pins σ H' s'->Q () s') :
 wpAny (model X.prog X.w) A (setItem (.ref a) u r) Q E s:=by
 rcases g with⟨aA,k,e,ey,l,eH⟩ | ⟨aA,k,b,e,ey,eb,l,eH⟩
 .subst ey eH;obtain⟨z,hd,vs,rel,dd⟩:=Gr I.hok e;have hz:vs.length<=sizeLine:=by rw[<-rel.length];exact z
  have hl:(putK aA k v).length<=sizeLine:=by have:=lC aA k v;omega
  refine wpAny_setItem_pairs (hsz:=hz) (mM ry) dd fun h' JL hs=>h _ ?_
  have he:∃q,h'.get? a=some q:=let⟨q,_,_,hq,_⟩:=JL;⟨q,hq⟩
  exact tH I (by rw[e];exact True.intro) hs he (Cg hl hd (rel.put k rv) JL)
 .subst ey eH;cases(show u=Value.ref b from ry)
  obtain⟨z,hd,xs,rel,dd⟩:=KR I.hok e;have hz:xs.length<=sizeLine:=by rw[<-Paired.length rel];exact z
  have hl:(putK aA k v).length<=sizeLine:=by have:=lC aA k v;omega
  refine wpAny_setItem_heap (hsz:=hz) (tupleKind_room_in1 hu) (oO I.hok eb) dd fun h' JL hs=>h _ ?_
  obtain⟨q,es,ep,hq,h2,h3,h4,_,h5⟩:=JL;refine tH I (by rw[e];exact True.intro) hs ⟨q,hq⟩ ⟨hl,hd,_,(rel.put k eb rv).keeps fun c ys ec=>?_,q,es,ep,hq,h2,h3,h4,h5⟩
  rw[a_ (Km ec e (fun z=>nomatch z))]
  exact ec
end
section
variable {X:Cx} {pins:V6} {σ:St} {H:Hp} {s:Shared} {a:Addr} {aA:List (Key × V)} {k:Key} {u:Value} {A:Around} {E:V7}
theorem Lo{Q:V7}(I:Inv X pins σ H s)(e:Rd H a (.dK aA))(h:∀t s',Inv X pins σ H s'->Q (.int aA.length t) s'):wpAny (model X.prog X.w) A (call (.builtin "len") [.ref a]) Q E s:=by
 obtain⟨z,hd,vs,rel,dd⟩:=o5 I.hok e;refine call_len_dict hd dd (by rw[<-rel.length];rw [sizeLine_eq] at z;omega) ?_
 rw[<-rel.length];exact h _ _ (I.tok _)
end
def EW(i:Expr):Prop:=∀ov iv,subscripted i false ov iv=operate [ov,iv] (getItem ov iv)
theorem yb{prog:Program}{w:World}{A:Around}{E:V7}{s:Shared}{env:Env}{value slice:Expr}{pos:Pos}{T id:String}{Q:V7}
 (hl:typeLookup (.type T) "__getitem__"=pure (some (.builtin id))) (hs:EW slice)
 (h:wpAny (model prog w) A (eval value env) (fun o s₁=>wpAny (model prog w) A (eval slice env) (fun i v8=>v8.TypeIs o T/\wpAny (model prog w) A (getItem o i) Q E v8) E s₁) E s) :
 wpAny (model prog w) A (eval (.Subscript value slice pos) env) Q E s:=by
 refine Subscript_ (wpAny_mono h (fun o s₁ kR=>wpAny_mono kR (fun i v8 ux=>?_) fun _ _ x=>x) fun _ _ x=>x)
 obtain⟨hT,ux⟩:=ux;unfold subscriptTail;refine wpAny_bind ?_;rw[getitemInPython_of_ne hT.not_modules];refine wpAny_bind (wpAny_specialOf hT hl ?_);have fin:wpAny (model prog w) A (subscripted slice false o i) (fun r Mc=>wpAny (model prog w) A (letTemporaryGo value o r >>=fun _=>pure r) Q E Mc) E v8:=by
  rw[hs o i];exact wpAny_operating (wpAny_mono ux (fun r Mc Pd=>wpAny_bind (wpAny_letTemporaryGo (wpAny_pure Pd))) fun _ _ x=>x)
 first
  | exact wpAny_pure (wpAny_bind fin)
  | exact wpAny_bind (wpAny_pure (wpAny_bind fin))
  | exact wpAny_bind fin
theorem vw{X:Cx}{pins:V6}{s:Shared}{a:Addr}{y:V}{o:Option V}(I:Inv X pins σ H s)(g:mz H a y o):s.TypeIs (.ref a) "dict":=by
 rcases g with⟨aA,k,e,_,_⟩ | ⟨aA,k,b,e,_,_,_⟩
 .obtain⟨_,_,vs,_,dd⟩:=o5 I.hok e;exact dd.typeIs
 .obtain⟨_,_,xs,_,dd⟩:=q8 I.hok e;exact dd.typeIs
def Kp(td ty:TE):TE:=fun σ H Q=>td σ H fun x H1=>ty σ H1 fun y H2=>∃a v,x= .ref a/\mz H2 a y (some v)/\Q v H2
def N4(ty td:TE):TE:=fun σ H Q=>ty σ H fun y H1=>td σ H1 fun x H2=>∃a o,x= .ref a/\mz H2 a y o/\Q (.bl o.isSome) H2
def F5(ty td:TE):TE:=fun σ H Q=>ty σ H fun y H1=>td σ H1 fun x H2=>∃a o,x= .ref a/\mz H2 a y o/\Q (.bl (!o.isSome)) H2
def K1(td ty tv:TE):TS:=fun D σ H=>tv σ H fun v H1=>td σ H1 fun x H2=>ty σ H2 fun y H3=>∃a H4,x= .ref a/\z8 H3 a y v H4/\D.nx σ H4
def Qo(td ty tv:TE)(rd:V->V->Hp->VK->Prop):TS:=fun D σ H=>td σ H fun x H1=>ty σ H1 fun y H2=>∃a v,x= .ref a/\mz H2 a y (some v)/\
 tv σ H2 fun y2 H3=>rd v y2 H3 fun z H4=>∃H5,z8 H4 a y z H5/\D.nx σ H5
def QL(td ty:TE):TS:=fun D σ H=>td σ H fun x H1=>ty σ H1 fun y H2=>∃a aA k,x= .ref a/\H2 a=some (.dK aA)/\y=kV k/\(iJ aA k).isSome=true/\D.nx σ (upd H2 a (.dK (BR aA k)))
section
variable {X:Cx} {o i e value:Expr} {pos pos' Dw:Pos} {td ty tv:TE}
theorem Eh(hu:X.A.units+1 < cLine)(ho:PE X o td)(hi:PE X i ty)(hs:EW i):PE X (.Subscript o i pos) (Kp td ty):=by
 intro pins s σ H Q I h;refine yb PySem.F.slot_dict_getitem.lookup hs (cO (ho pins s σ H _ I h) fun u s1 ⟨x,H1,I1,rx,q1⟩=>cO (hi pins s1 σ H1 _ I1 q1) fun iv s2 ⟨y,H2,I2,ry,a,v,ex,g,q2⟩=>?_)
 subst ex;obtain rfl:u=Value.ref a:=rx;exact⟨vw I2 g,zS hu I2 g ry fun w' s3 I3 AB=>⟨v,H2,I3,AB,q2⟩⟩
theorem Io(hu:X.A.units+1 < cLine)(hi:PE X i ty)(ho:PE X o td):PC X .In i o (N4 ty td):=by
 intro pins s σ H Q I h;refine cO (hi pins s σ H _ I h) fun iv s1 ⟨y,H1,I1,ry,q1⟩=>cO (ho pins s1 σ H1 _ I1 q1) fun u s2 ⟨x,H2,I2,rx,a,ov,ex,g,q2⟩=>?_
 subst ex;obtain rfl:u=Value.ref a:=rx;exact Ng hu I2 g ry fun s3 I3=>⟨.bl ov.isSome,H2,I3,rfl,q2⟩
theorem zH(hu:X.A.units+1 < cLine)(hi:PE X i ty)(ho:PE X o td):PC X .NotIn i o (F5 ty td):=by
 intro pins s σ H Q I h;refine cO (hi pins s σ H _ I h) fun iv s1 ⟨y,H1,I1,ry,q1⟩=>cO (ho pins s1 σ H1 _ I1 q1) fun u s2 ⟨x,H2,I2,rx,a,ov,ex,g,q2⟩=>?_
 subst ex;obtain rfl:u=Value.ref a:=rx;exact E9 hu I2 g ry fun s3 I3=>⟨.bl (!ov.isSome),H2,I3,rfl,q2⟩
theorem EK(hu:X.A.units+1 < cLine)(ho:PE X o td)(hi:PE X i ty)(hv:PE X value tv)(hs:swapsWith value (some (.Subscript o i pos')) pos.line X.env=pure false) :
 PS X (.Assign [.Subscript o i pos'] value pos) (K1 td ty tv):=by
 intro pins s σ H D I h;refine wpAny_Assign_Subscript (cO (hv pins s σ H _ I h) fun r s1 ⟨v,H1,I1,rv,q1⟩=>cO (ho pins s1 σ H1 _ I1 q1) fun u s2 ⟨x,H2,I2,rx,q2⟩=>cO (hi pins s2 σ H2 _ I2 q2) fun iv s3 ⟨y,H3,I3,ry,a,H4,ex,g,q3⟩=>?_) hs
 subst ex;obtain rfl:u=Value.ref a:=rx;exact Ar hu I3 g ry rv fun s4 I4=>⟨σ,H4,I4,q3⟩
end
theorem uM(h:Heap)(hb:sysModules < h.objs.size):d8 P w H (h.push {cls:= .type "dict",data:= .dict #[]}) h.objs.size (.dK []):=
 ⟨Nat.zero_le _,beq_eq_false_iff_ne.mpr (Ne.symm (Nat.ne_of_lt hb)),[], .nil,Heap.DictOf.new h⟩
def HP:TE:=fun _ H Q=>∀p,H p=none->Q (.ref p) (upd H p (.dK []))
def NZ:TE:=fun _ H Q=>∀p,H p=none->Q (.ref p) (upd H p (.dT []))
section
variable {X:Cx} {pos:Pos}
theorem CQ:PE X (.Dict [] [] pos) HP:=fun pins s σ H Q I h=>
 wpAny_Dict_empty ⟨.ref s.heap.objs.size,_,I.laid (a:=s.heap.objs.size) (o:= .dK []) (t':=s.toks) (fun _ _ q=>Heap.get?_push_of_some _ q) (Nat.le_refl _) (uM s.heap I.big),rfl,h _ (I.hok.fresh (Nat.le_refl _))⟩
end
def oQ:List (TE × TE)->St->Hp->(List (V × V)->Hp->Prop)->Prop
 | [],_,H,Q=>Q [] H
 | (tk,tv) ::r,σ,H,Q=>tk σ H fun x H1=>tv σ H1 fun y H2=>oQ r σ H2 fun ps H3=>Q ((x,y) ::ps) H3
abbrev VV:List (V × V)->List (Value × Value)->Prop:=Paired fun p q=>RelV p.1 q.1/\RelV p.2 q.2
def G7(X:Cx)(pos:Pos)(keys:List (Option Expr))(values:List Expr)(sL:List (TE × TE)):Prop:=
 ∀(pins:V6) (s:Shared) (σ:St) (H:Hp) (Q:List (V × V)->Hp->Prop),Inv X pins σ H s->oQ sL σ H Q->
  wpAny (model X.prog X.w) X.A (evalPairs (pairTrees keys values X.env pos)) (fun vs s'=>∃ps H',Inv X pins σ H' s'/\VV ps vs/\Q ps H') X.xe s
theorem yU{X:Cx}:G7 X pos [] [] []:=fun pins s σ H Q I h=>pairTrees_nil_walk ⟨[],H,I, .nil,h⟩
theorem n3{X:Cx}{ks:List (Option Expr)}{tk tv:TE}{sL:List (TE × TE)}(hk:PE X k tk)(hv:PE X v tv)(hr:G7 X pos ks vs sL) :
 G7 X pos (some k ::ks) (v ::vs) ((tk,tv) ::sL):=fun pins s σ H Q I h=>
 pairTrees_cons_walk (cO (hk pins s σ H _ I h) fun u s1 ⟨x,H1,I1,rx,q1⟩=>cO (hv pins s1 σ H1 _ I1 q1) fun w2 s2 ⟨y,H2,I2,ry,q2⟩=>
  cO (hr pins s2 σ H2 _ I2 q2) fun ws s3 ⟨ps,H3,I3,rel,q3⟩=>⟨(x,y) ::ps,H3,I3, .cons ⟨rx,ry⟩ rel,q3⟩)
def kx(aA more:List (Key × V)):List (Key × V):=more.foldl (fun acc kv=>putK acc kv.1 kv.2) aA
theorem KV.merge:∀{more:List (Key × V)} {rs:List (Key × Value)} {aA:List (Key × V)} {vs:List (Key × Value)},KV more rs->KV aA vs->KV (kx aA more) (merged vs rs):=by
 intro more rs aA vs r;unfold KV at r
 induction r generalizing aA vs with
 | nil=>intro q;exact q
 | @cons p q ps qs h t ih=>
   intro r0;have e:KV (putK aA p.1 p.2) (stored vs q.1 q.2):=by
    have:=r0.put p.1 h.2;rw[<-h.1];exact this
   exact ih e
theorem mD:∀(more aA:List (Key × V)),(kx aA more).length<=aA.length+more.length
 | [],aA=>by show aA.length<=aA.length+0;omega
 | p ::r,aA=>by
   have h1:=mD r (putK aA p.1 p.2);have h2:=lC aA p.1 p.2;show(kx (putK aA p.1 p.2) r).length<=_;rw[List.length_cons];omega
theorem qS:∀{aA:List (Key × V)} {ws:List (Value × Value)},VV (aA.map fun kv=>(kV kv.1,kv.2)) ws->∃rs,Carries (cL P w) ws rs/\KV aA rs
 | [],_,r=>by rw[List.map_nil] at r;cases r;exact⟨[],True.intro, .nil⟩
 | p ::aA,_,r=>by
   rw[List.map_cons] at r;cases r with
   | @cons a b as bs h t=>
     obtain⟨rs,c,q⟩:=qS (P:=P) (w:=w) t;obtain⟨b1,b2⟩:=b;exact⟨(p.1,b2) ::rs,⟨mM h.1,rfl,c⟩, .cons ⟨rfl,h.2⟩ q⟩
def Df(sL:List (TE × TE)):TE:=fun σ H Q=>∀p,H p=none->oQ sL σ (upd H p (.dK [])) fun ps H2=>H2 p=some (.dK [])/\∃aA:List (Key × V),ps=aA.map (fun kv=>(kV kv.1,kv.2))/\aA.length<=15/\Q (.ref p) (upd H2 p (.dK (kx [] aA)))
theorem Er{X:Cx}{pos:Pos}{keys:List (Option Expr)}{values:List Expr}{sL:List (TE × TE)}(h:G7 X pos keys values sL)(AA:keys.all (·.isSome)=true)(hl:keys.length=values.length)(h0:keys≠[])
 (Uc:keys.length<=15):PE X (.Dict keys values pos) (Df sL):=by
 intro pins s σ H Q I q;have hn:=I.hok.fresh (Nat.le_refl s.heap.objs.size);have I1:=I.laid (a:=s.heap.objs.size) (o:= .dK []) (h':=s.heap.push {cls:= .type "dict",data:= .dict #[]}) (t':=s.toks) (fun _ _ q=>Heap.get?_push_of_some _ q) (Nat.le_refl _) (uM s.heap I.big)
 refine wpAny_Dict_walk (knd:=cL X.prog X.w) AA hl h0 Uc (cO (h pins _ σ _ _ I1 (q _ hn)) fun ws s2 ⟨ps,H2,I2,rel,e,aA,ep,lk,q2⟩=>?_)
 subst ep;obtain⟨rs,c,rk⟩:=qS (P:=X.prog) (w:=X.w) rel;obtain⟨z,hd,VU,r0,dd⟩:=Gr I2.hok e;cases r0;refine⟨rs,c,dd,fun h' JL hs=>⟨.ref s.heap.objs.size,_,?_,rfl,q2⟩⟩
 have hz:(kx [] aA).length<=sizeLine:=by
  have h1:=mD aA [];rw[List.length_nil] at h1;rw[sizeLine_eq];omega
 have he:∃q,h'.get? s.heap.objs.size=some q:=let⟨q,_,_,hq,_⟩:=JL;⟨q,hq⟩
 exact tH I2 (by rw[e];exact True.intro) hs he (Cg hz hd (rk.merge .nil) JL)
structure M1 (X:Cx) (o:Expr) (m:Str) (apos:Pos) (e:Expr) (bg:Pos):Prop where
 base:attributeBase o m X.env (eval o X.env)=eval o X.env
 few:((backTo bg (starEach [e] X.env)).all (fun x=>!x.1) && (backToKw bg (keywordEach [] X.env)).all (fun x=>x.1.isSome)
  && decide (([e]:List Expr).length+([]:List Keyword).length+(if([]:List Keyword).isEmpty then 0 else 1) < 30))=true
 line:(apos.endLine==bg.line)=true
 trees:backTo bg (starEach [e] X.env)=[(false,eval e X.env)]
structure M2 (X:Cx) (o:Expr) (m:Str) (apos:Pos) (e f:Expr) (bg:Pos):Prop where
 base:attributeBase o m X.env (eval o X.env)=eval o X.env
 few:((backTo bg (starEach [e,f] X.env)).all (fun x=>!x.1) && (backToKw bg (keywordEach [] X.env)).all (fun x=>x.1.isSome)
  && decide (([e,f]:List Expr).length+([]:List Keyword).length+(if([]:List Keyword).isEmpty then 0 else 1) < 30))=true
 line:(apos.endLine==bg.line)=true
 trees:backTo bg (starEach [e,f] X.env)=[(false,eval e X.env),(false,eval f X.env)]
def KO(H:Hp)(a:Addr):Prop:=(∃aA,Rd H a (.dK aA))\/∃aA,Rd H a (.dT aA)
theorem IQ{X:Cx}{pins:V6}{s:Shared}{a:Addr}(I:Inv X pins σ H s)(d:KO H a) :
 s.TypeIs (.ref a) "dict"/\(∀b,Value.ref a= .ref b->∃ob,s.heap.get? b=some ob/\ob.dict=none)/\(a==sysModules)=false:=by
 rcases d with⟨aA,e⟩ | ⟨aA,e⟩
 .obtain⟨_,hd,vs,_,dd⟩:=o5 I.hok e;refine⟨dd.typeIs,fun b q=>?_,hd⟩
  cases q;obtain⟨ob,_,_,h1,h2,_⟩:=dd;exact⟨ob,h1,h2.2.1⟩
 .obtain⟨_,hd,xs,_,dd⟩:=q8 I.hok e;refine⟨dd.typeIs,fun b q=>?_,hd⟩
  cases q;obtain⟨ob,_,_,h1,h2,_⟩:=dd;exact⟨ob,h1,h2.2.1⟩
section
variable {X:Cx} {pins:V6} {σ:St} {H:Hp} {s:Shared} {a:Addr} {y d:V} {u r:Value} {o:Option V} {A:Around} {E:V7}
theorem IY{Q:V7}(hu:A.units+1 < cLine)(I:Inv X pins σ H s)(g:mz H a y o)(ry:RelV y u)(rd:RelV d r)(h:∀w' s',Inv X pins σ H s'->RelV (o.getD d) w'->Q w' s') :
 wpAny (model X.prog X.w) A (call (.builtin "dict.get") [.ref a,u,r]) Q E s:=by
 rcases g with⟨aA,k,e,ey,l⟩ | ⟨aA,k,b,e,ey,eb,l⟩
 .subst ey;obtain⟨z,hd,vs,rel,dd⟩:=o5 I.hok e;refine call_meetsIn PySem.F.slot_dict_get dd.typeIs PySem.F.entry_dict_get (PySem.F.args_dict_get_3 _ _ _) (meets_dict_get_default (cL X.prog X.w) a (mM ry) hd r) ⟨_,dd.mapOf,h _ _ (I.tok _) ?_⟩;rw[l];exact(rel.val k).getD rd
 .subst ey;cases(show u=Value.ref b from ry)
  obtain⟨z,hd,xs,rel,dd⟩:=q8 I.hok e;refine call_meetsIn PySem.F.slot_dict_get dd.typeIs PySem.F.entry_dict_get (PySem.F.args_dict_get_3 _ _ _) (meetsH_dict_get_default (tupleKind (cL X.prog X.w)) a b hd r) ⟨tupleKind_room_in1 hu,k,xs,oO I.hok eb,dd,h _ _ (I.tok _) ?_⟩;rw[l];exact(rel.val k).getD rd
end
def N7(td ty:TE):TE:=fun σ H Q=>td σ H fun x H1=>∃a,x= .ref a/\KO H1 a/\ty σ H1 fun y H2=>∃o,mz H2 a y o/\Q (o.getD .cH) H2
def Hq(td ty tx:TE):TE:=fun σ H Q=>td σ H fun x H1=>∃a,x= .ref a/\KO H1 a/\ty σ H1 fun y H2=>tx σ H2 fun z H3=>∃o,mz H3 a y o/\Q (o.getD z) H3
def MS(td ty:TE):TE:=fun σ H Q=>td σ H fun x H1=>∃a,x= .ref a/\KO H1 a/\ty σ H1 fun y H2=>∃aA k v,H2 a=some (.dK aA)/\y=kV k/\iJ aA k=some v/\Q v (upd H2 a (.dK (BR aA k)))
def M4(td ty tx:TE):TE:=fun σ H Q=>td σ H fun x H1=>∃a,x= .ref a/\KO H1 a/\ty σ H1 fun y H2=>tx σ H2 fun z H3=>∃aA k,H3 a=some (.dK aA)/\y=kV k/\
 (∀v,iJ aA k=some v->Q v (upd H3 a (.dK (BR aA k))))/\(iJ aA k=none->Q z H3)
section
variable {X:Cx} {o e f:Expr} {apos bg:Pos} {td ty tx:TE}
theorem Bz(hu:X.A.units+1 < cLine)(ho:PE X o td)(he:PE X e ty)(hf:PE X f tx)(m:M2 X o "get" apos e f bg):PE X (.Call (.Attribute o "get" apos) [e,f] [] bg) (Hq td ty tx):=by
 intro pins s σ H Q I h;refine wpAny_Call_method m.base m.few m.line PySem.F.plainAttrs_dict PySem.F.slot_dict_get PySem.F.type_dict_get (cO (ho pins s σ H _ I h) fun u s1 ⟨x,H1,I1,rx,a,ex,d,q1⟩=>?_)
 subst ex;obtain rfl:u=Value.ref a:=rx;obtain⟨t1,t2,_⟩:=IQ I1 d;refine⟨t1,t2,?_⟩;rw[m.trees];refine Calls.callWith_builtin rfl (Calls.evalArgs_plain (Calls.spliced_cons (cO (he pins s1 σ H1 _ I1 q1) fun iv s2 ⟨y,H2,I2,ry,q2⟩=>
  Calls.spliced_cons (cO (hf pins s2 σ H2 _ I2 q2) fun fv s3 ⟨z,H3,I3,rz,ov,g,q3⟩=>Calls.spliced_nil ?_))))
 exact IY hu I3 g ry rz fun w' s4 I4 AB=>⟨_,H3,I4,AB,q3⟩
end
section
variable {X:Cx} {pins:V6} {σ:St} {H:Hp} {s:Shared} {a:Addr} {aA:List (Key × V)} {A:Around} {E:V7}
end
section
variable {X:Cx} {pins:V6} {σ:St} {H:Hp} {s:Shared} {a:Addr} {y:V} {u:Value} {A:Around} {E:V7}
end
end L2
namespace HT
open PySem PyProof.Rows
def lexLt:List Int->List Int->Bool
 | [],[]=>false
 | [],_ ::_=>true
 | _ ::_,[]=>false
 | x ::xs,y ::ys=>if x=y then lexLt xs ys else decide (x < y)
section
open PySem.SeqAt
open PySem.AutoSeq1 (wpAny_loadPart')
open PySem.MeetsSeq PySem.MeetsSeq2 PySem.MeetsSeq3
end
section
variable {prog:Program} {w:World} {A:Around} {E:V7} {s:Shared}
def pK(n d:Nat):Option Int->Nat
 | none=>d
 | some v=>if v < 0 then(v+(n:Int)).toNat else min v.toNat n
theorem qi(n d:Nat):pK n d none=d:=rfl
theorem pQ(n d k:Nat):pK n d (some (k:Int))=min k n:=by
 show(if(k:Int) < 0 then((k:Int)+(n:Int)).toNat else min (k:Int).toNat n)=min k n
 rw[if_neg (by omega),Int.toNat_natCast]
end
end HT
namespace L2
open PySem PySem.Spec PyProof.Rows
abbrev TO:=St->Hp->(Option Int->Hp->Prop)->Prop
def PO(X:Cx)(e:Option Expr)(t:TO):Prop:=
 ∀(pins:V6) (s:Shared) (σ:St) (H:Hp) (Q:Option Int->Hp->Prop),Inv X pins σ H s->t σ H Q->
  wpAny (model X.prog X.w) X.A (evalPart e X.env) (fun u s'=>∃o H',Inv X pins σ H' s'/\IsPart u o/\Q o H') X.xe s
def Ep:TO:=fun _ H Q=>Q none H
def Kd(t:TE):TO:=fun σ H Q=>t σ H fun x H1=>∃i,x= .int i/\Q (some i) H1
section
variable {X:Cx} {e:Expr} {te:TE} {lo hi:Option Expr} {tl th:TO} {pos p2:Pos}
theorem Ei:PO X none Ep:=by
 intro pins s σ H Q I h;rw[evalPart_none];exact wpAny_pure ⟨none,H,I, .none,h⟩
theorem E7(h:PE X e te):PO X (some e) (Kd te):=by
 intro pins s σ H Q I hw;rw[evalPart_some];refine cO (h pins s σ H _ I hw) fun u s1 ⟨x,H1,I1,r1,q1⟩=>?_
 obtain⟨i,rfl,q⟩:=q1;obtain⟨t,rfl⟩:=r1;exact⟨some i,H1,I1, .int i t,q⟩
def Jf(X:Cx)(r:V->Option Int->Option Int->Hp->VK->Prop):Prop:=
 ∀(pins:V6) (s:Shared) (σ:St) (H:Hp) (x:V) (v vl vu:Value) (lo hi:Option Int) (sl:Addr) (Q:VK),Inv X pins σ H s->RelV x v->s.heap.IsSliceOf sl vl vu .none->IsPart vl lo->IsPart vu hi->r x lo hi H Q->
  ∃T id,typeLookup (.type T) "__getitem__"=pure (some (.builtin id))/\s.TypeIs v T/\wpAny (model X.prog X.w) X.A (getItem v (.ref sl)) (EP X pins σ Q) X.xe s
theorem Jf.or{r r':V->Option Int->Option Int->Hp->VK->Prop}(h:Jf X r)(h':Jf X r'):Jf X (fun x lo hi H Q=>r x lo hi H Q\/r' x lo hi H Q):=by
 intro pins s σ H x v vl vu lo hi sl Q I rx hs pl pu q;rcases q with q | q
 .exact h pins s σ H x v vl vu lo hi sl Q I rx hs pl pu q
 .exact h' pins s σ H x v vl vu lo hi sl Q I rx hs pl pu q
def SV(r:V->Option Int->Option Int->Hp->VK->Prop)(te:TE)(tl th:TO):TE:=fun σ H Q=>te σ H fun x H1=>tl σ H1 fun l H2=>th σ H2 fun u H3=>r x l u H3 Q
theorem A0{r:V->Option Int->Option Int->Hp->VK->Prop}(hr:Jf X r)(he:PE X e te)(hl:PO X lo tl)(hu:PO X hi th):PE X (.Subscript e (.Slice lo hi none p2) pos) (SV r te tl th):=by
 intro pins s σ H Q I h;refine Subscript_ (cO (he pins s σ H _ I h) fun v s1 ⟨x,H1,I1,r1,q1⟩=>?_)
 refine wpAny_Slice (cO (hl pins s1 σ H1 _ I1 q1) fun vl s2 ⟨l,H2,I2,pl,q2⟩=>cO (hu pins s2 σ H2 _ I2 q2) fun vu s3 ⟨u,H3,I3,pu,q3⟩=>?_)
 rw[evalPart_none];refine wpAny_pure ?_;have I4:Inv X pins σ H3 {s3 with heap:=s3.heap.push {cls:= .type "slice",data:= .fields #[vl,vu, .none]}}:=I3.kept (t':=s3.toks) fun b ob q=>Heap.get?_push_of_some _ q
 obtain⟨T,id,hT,ht,hg⟩:=hr pins {s3 with heap:=s3.heap.push {cls:= .type "slice",data:= .fields #[vl,vu, .none]}} σ H3 x v vl vu l u s3.heap.objs.size Q I4 r1 (Heap.IsSliceOf.new ..) pl pu q3
 show wpAny (model X.prog X.w) X.A (subscriptTail e (.Slice lo hi none p2) v (.ref s3.heap.objs.size)) (EP X pins σ Q) X.xe {s3 with heap:=s3.heap.push {cls:= .type "slice",data:= .fields #[vl,vu, .none]}}
 exact tail_any (ops:=[.ref s3.heap.objs.size,v]) ht hT hg (by with_unfolding_all rfl)
def xu(xs:List V)(lo hi:Option Int):List V:=(xs.drop (HT.pK xs.length 0 lo)).take (HT.pK xs.length xs.length hi - HT.pK xs.length 0 lo)
theorem uI(xs:List V)(lo hi:Option Int):(xu xs lo hi).length<=xs.length:=by
 unfold xu;rw[List.length_take,List.length_drop];omega
def TF(K:W.Frag):V->Option Int->Option Int->Hp->VK->Prop:=fun x lo hi H Q=>∃a xs,x= .ref a/\oz K H a xs/\
 ¬(HT.pK xs.length 0 lo=0/\HT.pK xs.length xs.length hi=xs.length)/\∀p,H p=none->Q (.ref p) (upd H p (.tup (xu xs lo hi)))
def Tn(K:W.Frag):R2:=fun x y H Q=>∃a b ns ms,x= .ref a/\y= .ref b/\oz K H a (ns.map V.int)/\oz K H b (ms.map V.int)/\Q (.bl (HT.lexLt ns ms)) H
def QH(K:W.Frag):R2:=fun x y H Q=>∃a b xs ys,x= .ref a/\y= .ref b/\oz K H a xs/\oz K H b ys/\xs≠[]/\xs.length+ys.length<=sizeLine/\
 (ys=[]->Q (.ref a) H)/\(ys≠[]->∀p,H p=none->Q (.ref p) (upd H p (.tup (xs++ys))))
end
def CY(n:Nat)(i:Int):Option Nat:=if 0<=i then(if i < n then some i.toNat else none) else if -(n:Int)<=i then some (i+n).toNat else none
def um{α:Type}(xs:List α)(i:Int):Option α:=(CY xs.length i).bind fun j=>xs[j]?
theorem Fz{n:Nat}{i:Int}{j:Nat}(h:CY n i=some j):seqIndex? i n=some j/\j < n/\ -(n:Int)<=i/\i < n:=by
 unfold CY at h;by_cases h0:0<=i
 .rw [if_pos h0] at h;by_cases h1:i < n
  .rw [if_pos h1] at h;have e:i.toNat=j:=Option.some.inj h;exact⟨by rw[seqIndex_of h0 h1,e],by omega,by omega,h1⟩
  .rw [if_neg h1] at h;cases h
 .rw [if_neg h0] at h;by_cases h1: -(n:Int)<=i
  .rw [if_pos h1] at h;have e:(i+n).toNat=j:=Option.some.inj h;exact⟨by rw[seqIndex_neg (by omega) h1,e],by omega,h1,by omega⟩
  .rw [if_neg h1] at h;cases h
theorem sT{α:Type}{xs:List α}{i:Int}{v:α}(h:um xs i=some v):∃j,seqIndex? i xs.length=some j/\xs[j]? =some v/\j < xs.length/\ -(xs.length:Int)<=i/\i < xs.length:=by
 unfold um at h;cases e:CY xs.length i with
 | none=>rw [e] at h;cases h
 | some j=>
   rw[e] at h;obtain⟨h1,h2,h3,h4⟩:=Fz e;exact⟨j,h1,h,h2,h3,h4⟩
def s_(b:Expr):Prop:=∀o i,subscripted b false o i=operate [o,i] (getItem o i)
def DT(X:Cx)(r:R2):Prop:=
 ∀(value slice:Expr) (pins:V6) (s:Shared) (σ:St) (H:Hp) (x y:V) (v u:Value) (Q:VK),Inv X pins σ H s->RelV x v->RelV y u->r x y H Q->
  subscripted slice false v u=operate [v,u] (getItem v u)->wpAny (model X.prog X.w) X.A (subscriptTail value slice v u) (EP X pins σ Q) X.xe s
def Rf(X:Cx)(id:String)(r:V->List V->Hp->VK->Prop):Prop:=
 ∀(pins:V6) (s:Shared) (σ:St) (H:Hp) (x:V) (xs:List V) (v:Value) (us:List Value) (Q:VK),Inv X pins σ H s->RelV x v->Vals xs us->r x xs H Q->
  wpAny (model X.prog X.w) X.A (call (.builtin id) (v ::us)) (EP X pins σ Q) X.xe s
section
variable {X:Cx} {a b:Expr} {ta tb:TE} {pos:Pos}
theorem DT.or{r r':R2}(h:DT X r)(h':DT X r'):DT X (fun x y H Q=>r x y H Q\/r' x y H Q):=by
 intro value slice pins s σ H x y v u Q I rx ry q hs;rcases q with q | q
 .exact h value slice pins s σ H x y v u Q I rx ry q hs
 .exact h' value slice pins s σ H x y v u Q I rx ry q hs
theorem Lp{r:R2}(hr:DT X r)(ha:PE X a ta)(hb:PE X b tb)(hs:s_ b):PE X (.Subscript a b pos) (J8 r ta tb):=by
 intro pins s σ H Q I h;exact Subscript_ (Ip ha hb I h fun v u s2 x y H2 I2 rx ry q=>hr a b pins s2 σ H2 x y v u Q I2 rx ry q (hs _ _))
def Ko(K:W.Frag):R2:=fun x y H Q=>∃p xs i v,x= .ref p/\y= .int i/\me K H p xs/\um xs i=some v/\Q v H
def Lj(K:W.Frag):R2:=fun x y H Q=>∃p xs i v,x= .ref p/\y= .int i/\oz K H p xs/\um xs i=some v/\Q v H
def LI:R2:=fun x y H Q=>∃z i c,x= .str z/\y= .int i/\z.length<=sizeLine/\um z.cps.toList i=some c/\Q (.str ⟨#[c]⟩) H
theorem FU:DT X (Ko X.K):=by
 intro value slice pins s σ H x y v u Q I rx ry h hs;obtain⟨p,xs,i,z,rfl,rfl,hq,he,q⟩:=h;cases rx;obtain⟨t,rfl⟩:=ry;obtain⟨its,r,pl,hz⟩:=I.list hq;obtain⟨j,h1,h2,h3,h4,h5⟩:=sT he;obtain⟨w,ew,AB⟩:=r.get h2;have hl:=r.length;have hn:=oI;have fin:EP X pins σ Q w s:=⟨z,H,I,AB,q⟩;by_cases h0:0<=i
 .have hj:i.toNat=j:=by
   rw[seqIndex_of h0 h5] at h1;exact Option.some.inj h1
  exact item_listR pl.isList h0 (by omega) (by rw[hj];simpa using ew) fin hs
 .have hj:(i+(its.toArray.size:Int)).toNat=j:=by
   rw[seqIndex_neg (by omega) h4] at h1
   rw[List.size_toArray,<-hl];exact Option.some.inj h1
  exact subscriptTail_builtinR (x:=w) pl.isList.typeIs slot_list_getitem.lookup
   (wpAny_getItem_list_neg (Q:=fun r s'=>r=w/\EP X pins σ Q r s') pl.isList (by omega) (by rw[List.size_toArray] <;> omega) (by omega) (by rw[hj];simpa using ew) ⟨rfl,fin⟩) hs
theorem IP:DT X (Lj X.K):=by
 intro value slice pins s σ H x y v u Q I rx ry h hs;obtain⟨p,xs,i,z,rfl,rfl,hq,he,q⟩:=h;cases rx;obtain⟨t,rfl⟩:=ry;obtain⟨its,r,pl,hz⟩:=I.tuple hq;obtain⟨j,h1,h2,h3,h4,h5⟩:=sT he;obtain⟨w,ew,AB⟩:=r.get h2;have hl:=r.length;have hn:=oI;have fin:EP X pins σ Q w s:=⟨z,H,I,AB,q⟩;exact subscriptTail_builtinR (x:=w) pl.typeIs slot_tuple_getitem.lookup
  (getItem_tuple (j:=j) (Q:=fun r s'=>r=w/\EP X pins σ Q r s') pl (by omega) (by omega) (by rw[List.size_toArray,<-hl];exact h1) (by simpa using ew) ⟨rfl,fin⟩) hs
theorem Jd:DT X LI:=by
 intro value slice pins s σ H x y v u Q I rx ry h hs;obtain⟨z,i,c,rfl,rfl,hz,he,q⟩:=h;obtain⟨t,rfl⟩:=rx;obtain⟨t',rfl⟩:=ry;obtain⟨j,h1,h2,h3,h4,h5⟩:=sT he;have hl:z.cps.toList.length=z.length:=by simp [Str.length]
 rw[hl] at h1 h4 h5;have hn:=oI;exact tail_any (typeIs_str s z t) slot_str_getitem.lookup (getItem_str (c:=c) (by
  have e1:decide (i < -(2 ^ 63:Int))=false:=decide_eq_false (by omega)
  have e2:decide (i>=2 ^ 63)=false:=decide_eq_false (by omega)
  rw[e1,e2,Bool.or_false]) (by rw[h1];simpa using h2) ⟨.str ⟨#[c]⟩,H,I.tok _,⟨_,rfl⟩,q⟩) hs
def Rg(K:W.Frag):R2:=fun x y H Q=>Ko K x y H Q\/Lj K x y H Q\/LI x y H Q
theorem Jw:DT X (Rg X.K):=FU.or (IP.or Jd)
def QQ:V->V->V->Hp->(Hp->Prop)->Prop:=fun o i v H Q=>∃p xs k j,o= .ref p/\i= .int k/\H p=some (.lst xs)/\CY xs.length k=some j/\Q (upd H p (.lst (xs.set j v)))
theorem sM(lo hi:Option Int)(n:Nat):(sliceBounds lo hi none n).1=((HT.pK n 0 lo:Nat):Int)/\(sliceBounds lo hi none n).2.1=((HT.pK n n hi:Nat):Int)/\(sliceBounds lo hi none n).2.2=1:=by
 refine⟨?_,?_,rfl⟩
 .cases lo with
  | none=>simp [sliceBounds,HT.pK]
  | some i=>
    simp only[sliceBounds,HT.pK,Option.getD_none,show(1:Int) > 0 by decide,if_true]
    by_cases h:i < 0
    .simp only[h,if_true] <;> omega
    .simp only[h,if_false] <;> omega
 .cases hi with
  | none=>simp [sliceBounds,HT.pK]
  | some i=>
    simp only[sliceBounds,HT.pK,Option.getD_none,show(1:Int) > 0 by decide,if_true]
    by_cases h:i < 0
    .simp only[h,if_true] <;> omega
    .simp only[h,if_false] <;> omega
theorem rA(its:List Value)(lo hi:Option Int):slicePick its.toArray lo hi none=((its.drop (HT.pK its.length 0 lo)).take (HT.pK its.length its.length hi - HT.pK its.length 0 lo)).toArray:=by
 obtain⟨h1,h2,h3⟩:=sM lo hi its.toArray.size;unfold slicePick;rw[h1,h2,h3];simp only[sliceRange_one,pick_run,List.size_toArray] <;> rfl
def NY(K:W.Frag):V->Option Int->Option Int->Hp->VK->Prop:=fun x lo hi H Q=>∃a xs,x= .ref a/\me K H a xs/\∀p,H p=none->Q (.ref p) (upd H p (.lst (xu xs lo hi)))
theorem Fx:Jf X (NY X.K):=by
 intro pins s σ H x v vl vu lo hi sl Q I rx hs pl pu h;obtain⟨a,xs,rfl,hx,q⟩:=h;cases rx;obtain⟨its,r,ht,hz⟩:=I.list hx;have hlen:=r.length;refine⟨"list",_,slot_list_getitem.lookup,ht.isList.typeIs,?_⟩;refine wpAny_getItem_list_slice ht.isList hs pl pu .none (by simp) ?_ (by rw[List.size_toArray] <;> omega)
 rw[rA,<-hlen];refine⟨.ref s.heap.objs.size,_,I.laid (t':=s.toks) (o:= .lst (xu xs lo hi)) (fun b ob q=>Heap.get?_push_of_some _ q) (Nat.le_refl _) ?_,rfl,q _ (I.hok.fresh (Nat.le_refl _))⟩
 exact⟨Nat.le_trans (uI xs lo hi) hz,_,0,(r.drop (HT.pK xs.length 0 lo)).take (HT.pK xs.length xs.length hi - HT.pK xs.length 0 lo),Heap.get?_push_size _ rfl⟩
def kM:V->Bool
 | .cH=>true
 | .bl _=>true
 | .int _=>true
 | .str _=>true
 | _=>false
def GF:V->V->Bool
 | .cH, .cH=>true
 | .bl a, .bl b=>a==b
 | .bl a, .int b=>(if a then 1 else 0)==b
 | .int a, .bl b=>a==(if b then 1 else 0)
 | .int a, .int b=>a==b
 | .str a, .str b=>a==b
 | _,_=>false
theorem Ik{s:Shared}{y x:V}{u v:Value}(ry:RelV y u)(rx:RelV x v)(fy:kM y=true)(fx:kM x=true):SeqAt.EqAt A s u v (GF y x):=by
 cases y with
 | cH=>
   cases ry;cases x with
   | cH=>cases rx;exact SeqAt.EqAt.same _
   | bl b=>cases rx;exact SeqAt.EqAt.none_bool b
   | int b=>obtain⟨t,rfl⟩:=rx;exact SeqAt.EqAt.none_int b t
   | str b=>obtain⟨t,rfl⟩:=rx;exact SeqAt.EqAt.none_str b t
   | _=>exact absurd (show false=true from fx) Bool.false_ne_true
 | bl a=>
   cases ry;cases x with
   | cH=>cases rx;exact SeqAt.EqAt.bool_none a
   | bl b=>cases rx;exact SeqAt.EqAt.bool_bool a b
   | int b=>obtain⟨t,rfl⟩:=rx;exact SeqAt.EqAt.bool_int a b t
   | str b=>obtain⟨t,rfl⟩:=rx;exact SeqAt.EqAt.bool_str a b t
   | _=>exact absurd (show false=true from fx) Bool.false_ne_true
 | int a=>
   obtain⟨t',rfl⟩:=ry;cases x with
   | cH=>cases rx;exact SeqAt.EqAt.int_none a t'
   | bl b=>cases rx;exact SeqAt.EqAt.int_bool a t' b
   | int b=>obtain⟨t,rfl⟩:=rx;exact SeqAt.EqAt.int_int a t' b t
   | str b=>obtain⟨t,rfl⟩:=rx;exact SeqAt.EqAt.int_str a t' b t
   | _=>exact absurd (show false=true from fx) Bool.false_ne_true
 | str a=>
   obtain⟨t',rfl⟩:=ry;cases x with
   | cH=>cases rx;exact SeqAt.EqAt.str_none a t'
   | bl b=>cases rx;exact SeqAt.EqAt.str_bool a t' b
   | int b=>obtain⟨t,rfl⟩:=rx;exact SeqAt.EqAt.str_int a t' b t
   | str b=>obtain⟨t,rfl⟩:=rx;exact SeqAt.EqAt.str_str a t' b t
   | _=>exact absurd (show false=true from fx) Bool.false_ne_true
 | _=>exact absurd (show false=true from fy) Bool.false_ne_true
def wJ(x:V)(u:Value):Bool:=match u with
 | .none=>GF .cH x
 | .bool b=>GF (.bl b) x
 | .int i _=>GF (.int i) x
 | .str z _=>GF (.str z) x
 | _=>false
theorem BQ{x y:V}{u:Value}(r:RelV y u)(f:kM y=true):wJ x u=GF y x:=by
 cases y with
 | cH=>cases r;rfl
 | bl b=>cases r;rfl
 | int i=>obtain⟨t,rfl⟩:=r;rfl
 | str z=>obtain⟨t,rfl⟩:=r;rfl
 | _=>exact absurd (show false=true from f) Bool.false_ne_true
theorem nW{x:V}:∀{xs:List V} {us:List Value},Vals xs us->xs.all kM=true->us.any (wJ x)=xs.any fun y=>GF y x
 | _,_, .nil,_=>rfl
 | y ::xs,u ::us, .cons r t,f=>by
   rw[List.all_cons,Bool.and_eq_true] at f;rw[List.any_cons,List.any_cons,BQ r f.1,nW t f.2]
theorem lB{s:Shared}{x:V}{v:Value}(rx:RelV x v)(fx:kM x=true):∀{xs:List V} {us:List Value},Vals xs us->xs.all kM=true->∀u∈us,SeqAt.EqAt A s u v (wJ x u)
 | _,_, .nil,_=>fun u hu=>by cases hu
 | y ::xs,u ::us, .cons r t,f=>fun u' hu=>by
   rw[List.all_cons,Bool.and_eq_true] at f;rcases List.mem_cons.mp hu with rfl | hu
   .rw [BQ r f.1];exact Ik r rx f.1 fx
   .exact lB rx fx t f.2 u' hu
def Gu(x:V)(xs:List V):Bool:=xs.any fun y=>GF y x
def Ob(K:W.Frag)(neg:Bool):R2:=fun x y H Q=>∃p xs,y= .ref p/\(me K H p xs\/oz K H p xs)/\kM x=true/\xs.all kM=true/\Q (.bl (if neg then !Gu x xs else Gu x xs)) H
theorem Ah:my X (compareOp .In) (Ob X.K false):=by
 intro pins s σ H x y v u Q I rx ry h;obtain⟨p,xs,rfl,hq,fx,fs,q⟩:=h;cases ry;rcases hq with hq | hq
 .obtain⟨its,r,pl,hz⟩:=I.list hq;refine SeqAt.in_listAt (wJ x) pl.isList (fun w hw=>lB rx fx r fs w (by simpa using hw)) ⟨.bl _,H,I,rfl,?_⟩
  rw[show its.toArray.any (wJ x)=its.any (wJ x) by simp,nW r fs]
  exact q
 .obtain⟨its,r,pl,hz⟩:=I.tuple hq;refine SeqAt.in_tupleAt (wJ x) pl (fun w hw=>lB rx fx r fs w (by simpa using hw)) ⟨.bl _,H,I,rfl,?_⟩
  rw[show its.toArray.any (wJ x)=its.any (wJ x) by simp,nW r fs]
  exact q
theorem tR:my X (compareOp .NotIn) (Ob X.K true):=by
 intro pins s σ H x y v u Q I rx ry h;obtain⟨p,xs,rfl,hq,fx,fs,q⟩:=h;cases ry;rcases hq with hq | hq
 .obtain⟨its,r,pl,hz⟩:=I.list hq;refine SeqAt.notIn_listAt (wJ x) pl.isList (fun w hw=>lB rx fx r fs w (by simpa using hw)) ⟨.bl _,H,I,rfl,?_⟩
  rw[show its.toArray.any (wJ x)=its.any (wJ x) by simp,nW r fs]
  exact q
 .obtain⟨its,r,pl,hz⟩:=I.tuple hq;refine SeqAt.notIn_tupleAt (wJ x) pl (fun w hw=>lB rx fx r fs w (by simpa using hw)) ⟨.bl _,H,I,rfl,?_⟩
  rw[show its.toArray.any (wJ x)=its.any (wJ x) by simp,nW r fs]
  exact q
theorem sY:j7 X (.builtin "len") (fun xs H Q=>∃p ys,xs=[.ref p]/\(me X.K H p ys\/oz X.K H p ys)/\Q (.int ys.length) H):=by
 intro pins s σ H xs us Q I r h;obtain⟨p,ys,rfl,hq,q⟩:=h;obtain⟨u,rfl,rx⟩:=vals1 r;cases rx;have hn:=oI;rcases hq with hq | hq
 .obtain⟨its,r',pl,hz⟩:=I.list hq;have hlen:=r'.length;exact Calls.call_len_list pl.isList (by simp only[List.size_toArray] <;> omega) ⟨.int ys.length,H,I.tok _,⟨s.toks+1,by rw[List.size_toArray,hlen]⟩,q⟩
 .obtain⟨its,r',pl,hz⟩:=I.tuple hq;have hlen:=r'.length;exact len_tuple pl (by simp only[List.size_toArray] <;> omega) ⟨.int ys.length,H,I.tok _,⟨s.toks+1,by rw[List.size_toArray,hlen]⟩,q⟩
theorem rH:j7 X (.type "tuple") (fun xs H Q=>∃p ys,xs=[.ref p]/\((me X.K H p ys/\∀l,H l=none->Q (.ref l) (upd H l (.tup ys)))\/(oz X.K H p ys/\Q (.ref p) H))):=by
 intro pins s σ H xs us Q I r h;obtain⟨p,ys,rfl,h⟩:=h;obtain⟨u,rfl,rx⟩:=vals1 r;cases rx;rcases h with⟨hq,q⟩ | ⟨hq,q⟩
 .obtain⟨its,r',pl,hz⟩:=I.list hq;have hlen:=r'.length;refine call_tuple_list pl.isList (fun h' kp=>?_) (by simp only[List.size_toArray] <;> omega)
  have I1:Inv X pins σ H {s with heap:=h'}:=I.kept (t':=s.toks) kp
  have I2:Inv X pins σ (upd H h'.objs.size (.tup ys)) {s with heap:=h'.push {cls:= .type "tuple",data:= .seq its.toArray}}:=
   I1.laid (t':=s.toks) (fun b o e=>Heap.get?_push_of_some _ e) (Nat.le_refl _) (show d8 X.prog X.w _ _ _ (.tup ys) from⟨hz,its,r',IsTup.new _ _⟩)
  exact⟨.ref h'.objs.size,_,I2,rfl,q _ (I1.hok.fresh (Nat.le_refl _))⟩
 .obtain⟨its,r',pl,hz⟩:=I.tuple hq;exact call_tuple_same pl ⟨.ref p,H,I,rfl,q⟩
def N5(K:W.Frag)(T:String)(x:V)(H:Hp):Prop:=match x with
 | .str _=>T="str"
 | .int _=>T="int"
 | .ref p=>(T="list"/\∃xs,me K H p xs)\/(T="tuple"/\∃o,K.lookup p=some o/\o.cls= .type "tuple"/\o.dict=none)\/
    (T="dict"/\((∃aA,H p=some (.dK aA))\/∃aA,H p=some (.dT aA)))\/(T="set"/\∃S n,H p=some (.set S n))
 | _=>False
theorem HI{pins:V6}{s:Shared}{T:String}{x:V}{v:Value}(I:Inv X pins σ H s)(r:RelV x v)(ty:N5 X.K T x H) :
 s.TypeIs v T/\∀a,v= .ref a->∃ob,s.heap.get? a=some ob/\ob.dict=none:=by
 cases x with
 | str z=>
   obtain⟨t,rfl⟩:=r;cases(show T="str" from ty)
   exact⟨typeIs_str s z t,fun _ e=>nomatch e⟩
 | int i=>
   obtain⟨t,rfl⟩:=r;cases(show T="int" from ty)
   exact⟨typeIs_int s i t,fun _ e=>nomatch e⟩
 | ref p=>
   cases r;rcases ty with⟨rfl,xs,hq⟩ | ⟨rfl,o,hk,hc,hd⟩ | ⟨rfl,hk⟩ | ⟨rfl,S,n,hk⟩
   .obtain⟨its,_,pl,_⟩:=I.list hq;refine⟨pl.isList.typeIs,fun a e=>?_⟩
    cases e;obtain⟨o,n,e,c,hd,_⟩:=pl;exact⟨o,e,hd⟩
   .refine⟨⟨o,I.vq p o hk,hc⟩,fun a e=>?_⟩
    cases e;exact⟨o,I.vq _ o hk,hd⟩
   .have z:∃o,s.heap.get? p=some o/\o.ExactDict:=by
     rcases hk with⟨aA,hk⟩ | ⟨aA,hk⟩
     .obtain⟨_,_,_,_,o,_,_,e,ex,_⟩:=I.hok p _ hk;exact⟨o,e,ex⟩
     .obtain⟨_,_,_,_,o,_,_,e,ex,_⟩:=I.hok p _ hk;exact⟨o,e,ex⟩
    obtain⟨o,e,ex⟩:=z;refine⟨⟨o,e,ex.1⟩,fun a e2=>?_⟩
    cases e2;exact⟨o,e,ex.2.1⟩
   .obtain⟨o,_,_,_,e,ex,_⟩:=I.hok p _ hk;refine⟨⟨o,e,ex.1⟩,fun a e2=>?_⟩
    cases e2;exact⟨o,e,ex.2.1⟩
 | _=>exact False.elim ty
def Sq(K:W.Frag)(T:String)(r:V->List V->Hp->VK->Prop)(to:TE):TE:=fun σ H Q=>to σ H fun x H1=>N5 K T x H1/\r x [] H1 Q
def SG(K:W.Frag)(T:String)(r:V->List V->Hp->VK->Prop)(to:TE)(t:TA):TE:=fun σ H Q=>to σ H fun x H1=>N5 K T x H1/\t σ H1 fun xs H2=>r x xs H2 Q
variable {o e:Expr} {es:List Expr} {to:TE} {t:TA} {name:Str} {apos bg:Pos} {T id:String} {r:V->List V->Hp->VK->Prop}
theorem zg(pa:PlainAttrs T)(slot:Slot T name id)(DN:typeOf (.builtin id)=pure (.type "method_descriptor"))(hm:Rf X id r)(ho:PE X o to)(ha:PA X (e ::es) t)
 (fU:attributeBase o name X.env (eval o X.env)=eval o X.env:=by rfl)
 (kz:((backTo bg (starEach (e ::es) X.env)).all (fun x=>!x.1) && (backToKw bg (keywordEach [] X.env)).all (fun x=>x.1.isSome)
   && decide ((e ::es).length+([]:List Keyword).length+(if([]:List Keyword).isEmpty then 0 else 1) < 30))=true:=by rfl)
 (fS:(apos.endLine==bg.line)=true:=by rfl) (hs:starEach (e ::es) X.env=(false,eval e X.env) ::starEach es X.env:=by rfl) (xY:(backTo bg (starEach es X.env)).any (·.1)=false:=by rfl) :
 PE X (.Call (.Attribute o name apos) (e ::es) [] bg) (SG X.K T r to t):=by
 intro pins s σ H Q I h;refine wpAny_Call_method_late fU kz fS rfl (cO (ho pins s σ H _ I h) fun v s1 ⟨x,H1,I1,r1,ty,q1⟩=>?_)
 obtain⟨h1,h2⟩:=HI I1 r1 ty;refine⟨T,id,pa,slot,DN,h1,h2,?_⟩;have hA:=ha bg pins s1 σ H1 _ I1 q1;rw[hs] at hA ⊢;refine Calls.callWith_builtin (by show(false || (backTo bg (starEach es X.env)).any (·.1))=false;rw [xY] <;> rfl) (Calls.evalArgs_plain ?_)
 exact cO hA fun us s2 ⟨vs,H2,I2,r2,q2⟩=>hm pins s2 σ H2 x vs v us Q I2 r1 r2 q2
end
def Sk(X:Cx)(id:String)(r:V->List V->Hp->VK->Prop):Prop:=
 ∀(pins:V6) (s:Shared) (σ:St) (H:Hp) (x:V) (xs:List V) (v:Value) (us:List Value) (Q:VK),Inv X pins σ H s->RelV x v->Vals xs us->r x xs H Q->
  wpAny (model X.prog X.w) X.A (call (.builtin id) (v ::us)) (EP X pins σ Q) X.xe s
theorem Vals.one:∀{x:V} {us:List Value},Vals [x] us->∃u,us=[u]/\RelV x u
 | _,_, .cons r .nil=>⟨_,rfl,r⟩
section
variable {X:Cx} {pins:V6} {σ:St} {H:Hp} {s:Shared} {l b:Addr} {xs ys zs:List V}
theorem Inv.MV{its its':List Value}{n:Nat}{f:Array Value->Array Value}{t':Nat}(I:Inv X pins σ H s)(hH:H l=some (.lst xs))
 (e:s.heap.get? l=some {cls:= .type "list",data:= .seq its.toArray n}) (hf:f its.toArray=its'.toArray) (hv:Vals ys its') (hz:ys.length<=sizeLine) :
 Inv X pins σ (upd H l (.lst ys)) {s with heap:=s.heap.update l (Obj.mapSeq f),toks:=t'}:=by
 have q:=PySem.IsL.update e f;rw[hf] at q;refine I.write (x:=l) (e:=l) (by rw[hH];exact trivial) (.inl rfl) (fun b' u hb hu=>(Heap.get?_update_other s.heap (Obj.mapSeq f) (Ne.symm hb)).trans hu) ⟨_,q⟩ ?_
 exact⟨hz,its',_,hv,q⟩
theorem Inv.II{its:List Value}{t':Nat}(I:Inv X pins σ H s)(hv:Vals ys its)(hz:ys.length<=sizeLine) :
 Inv X pins σ (upd H s.heap.objs.size (.lst ys)) {s with heap:=s.heap.push {cls:= .type "list",data:= .seq its.toArray},toks:=t'}:=
 I.laid (fun _ _ q=>Heap.get?_push_of_some _ q) (Nat.le_refl _) ⟨hz,its,0,hv,Heap.get?_push_size _ rfl⟩
theorem Inv.fresh(I:Inv X pins σ H s):H s.heap.objs.size=none:=I.hok.fresh (Nat.le_refl _)
theorem Inv.NS(I:Inv X pins σ H s)(hH:H l=some (.lst xs)):xs.length<=sizeLine/\∃(its:List Value) (n:Nat),Vals xs its/\xs.length=its.length/\s.heap.get? l=some {cls:= .type "list",data:= .seq its.toArray n}:=by
 obtain⟨z,its,n,r,e⟩:=I.hok l _ hH;exact⟨z,its,n,r,r.length,e⟩
end
section
variable {X:Cx}
def FW:V->List V->Hp->VK->Prop:=fun x vs H Q=>∃l xs y,x= .ref l/\vs=[y]/\H l=some (.lst xs)/\xs.length < sizeLine/\Q .cH (upd H l (.lst (xs++[y])))
theorem mi:Sk X "list.append" FW:=by
 intro pins s σ H x vs v us Q I rx rv h;obtain⟨l,xs,y,rfl,rfl,hH,hz,q⟩:=h;cases rx;obtain⟨u,rfl,ru⟩:=rv.one;obtain⟨z,its,n,r,hl,e⟩:=I.NS hH;refine call_meets F.slot_list_append ⟨_,e,rfl⟩ F.entry_list_append (F.args_list_append_2 _ _) (PySem.list_append l its.toArray n u (by rw[List.size_toArray];omega)) ⟨e,?_⟩
 refine⟨.cH,_,I.MV (its':=its++[u]) hH e (by simp) (r.append (.cons ru .nil)) ?_,rfl,q⟩
 rw[List.length_append,List.length_singleton];omega
def Mt:V->List V->Hp->VK->Prop:=fun x vs H Q=>∃l b xs zs,x= .ref l/\vs=[.ref b]/\H l=some (.lst xs)/\H b=some (.lst zs)/\xs.length+zs.length<=sizeLine/\Q .cH (upd H l (.lst (xs++zs)))
def S8:V->List V->Hp->VK->Prop:=fun x vs H Q=>∃l xs y,x= .ref l/\vs=[]/\H l=some (.lst xs)/\xs[xs.length - 1]? =some y/\Q y (upd H l (.lst xs.dropLast))
def Nt:V->List V->Hp->VK->Prop:=fun x vs H Q=>∃l xs i k y,x= .ref l/\vs=[.int i]/\H l=some (.lst xs)/\ -(2 ^ 63)<=i/\i < 2 ^ 63/\seqIndex? i xs.length=some k/\xs[k]? =some y/\Q y (upd H l (.lst (xs.eraseIdx k)))
def Ls:V->List V->Hp->VK->Prop:=fun x vs H Q=>∃l xs,x= .ref l/\vs=[]/\H l=some (.lst xs)/\Q .cH (upd H l (.lst xs.reverse))
def MX:V->List V->Hp->VK->Prop:=fun x vs H Q=>∃l xs,x= .ref l/\vs=[]/\H l=some (.lst xs)/\Q .cH (upd H l (.lst []))
def Tj:R2:=fun x y H Q=>∃l b xs zs,x= .ref l/\y= .ref b/\H l=some (.lst xs)/\H b=some (.lst zs)/\xs.length+zs.length<=sizeLine/\∀p,H p=none->Q (.ref p) (upd H p (.lst (xs++zs)))
def So:R2:=fun x y H Q=>∃l k xs,x= .ref l/\y= .int k/\H l=some (.lst xs)/\ -(2 ^ 63)<=k/\k < 2 ^ 63/\xs.length*k.toNat<=sizeLine/\
 ∀p,H p=none->Q (.ref p) (upd H p (.lst (List.replicate k.toNat xs).flatten))
end
section
variable {prog:Program} {w:World} {A:Around} {E:V7} {s:Shared}
set_option maxRecDepth 100000 in
end
section
variable {X:Cx}
end
end L2
namespace Att
open PySem PySem.W PySem.Calls PyProof.Rows
theorem pM{P:Params}:∀(ns:List Int) (vs:List Value),WellAll P h vs (ns.map WData.int)->IntsAre vs ns:=by
 intro ns
 induction ns with
 | nil=>
   intro vs w;rw[List.map_nil] at w;cases w;exact .nil
 | cons n ns ih=>
   intro vs w;rw[List.map_cons] at w;cases w with
   | cons a b=>
     cases a;exact .cons _ _ (ih _ b)
theorem zT{l:OpenLaw}{n:Nat}(hn:l.most=some n){P:Params}{h:Heap}{args:List WData}{vals:List Value}
 (Ge:l.row.toRowW.claim.pre args=true) (sJ:WellAll P h vals args) :
 ∃a vs ns,vals=[Value.ref a]/\args=[WData.list (ns.map WData.int)]/\h.get? a=some {cls:= .type "list",data:= .seq vs.toArray}/\IntsAre vs ns/\ns.length<=n:=by
 have hsh:WShape.hasAll [] args [.list .int]=true:=(pre_splitW Ge).1;have hc:l.pre.holds [] {args:=args}=true:=(pre_splitW Ge).2;obtain⟨d,r,rfl,h1,h2⟩:=hasAllW_cons hsh;obtain rfl:=hasAllW_nil h2;obtain⟨xs,rfl,h3⟩:=hasW_list h1;obtain⟨ns,rfl⟩:=items_int h3;have hlen:ns.length<=n:=by
  unfold OpenLaw.pre at hc;have h4:(WTm.not (.lt (.lit (.int (n:Int))) (.len (.arg 0)))).holds [] {args:=[.list (ns.map .int)]}=true:=by
   have h4:=(holds_andW hc).1;rw[hn] at h4;exact h4
  have h5:=condW_of h4 (w_not (w_lt w_lit (w_len_list (w_arg rfl))));rw[List.length_map] at h5;refine Nat.le_of_not_lt fun q=>?_
  have q':(n:Int) < ((ns.length:Nat):Int):=by omega
  first
   | (rw [decide_eq_true q'] at h5;exact absurd h5 (by decide))
   | (simp at h5;omega)
 cases sJ with
 | cons w1 w2=>
   cases w2;cases w1 with
   | list ho AA=>exact⟨_,_,ns,rfl,rfl,ho,pM ns _ AA,hlen⟩
theorem Ab(l:OpenLaw)(args:List WData):l.row.toRowW.claim.post args (.bool true) args=true:=
 postW_of (r:=l.row.toRowW) (X:=(true==true))
  (show WShape.has [] (.bool true) .bool=true by first | rfl | decide | simp [WShape.has,WShape.arms,WShape.armsAll])
  (show(WTm.eq .res (.lit (.bool true))).value [] {args:=args,res:=some (.bool true),after:=args}=some (.bool (true==true)) from w_eq_bool (w_res rfl) w_lit) rfl
theorem uJ{l:OpenLaw}{n:Nat}{q:Program}{loose:List Str}{XP:(Str->Option Value)->Heap->Prop}{YP:World->Heap->Prop}{d:DefRec}
 (hn:l.most=some n) (OH:d.params.defaults=[])
 (call:∀(w:World) (s₀ s₁:Shared) (mg mb:Wa) (fa:Addr) (o:Obj) (pm cd doc:Value) (a:Addr) (vs:List Value) (ns:List Int),
   Ground q loose [] XP w s₀ mg mb s₁.heap->YP w s₁.heap->
   s₁.heap.get? fa=some o->o.data= .func (docDef d.name d.params d.body d.scope pm cd doc)->s₁.heap.CodeRec cd d.name->mg d.name=some (.ref fa)->
   s₁.heap.get? a=some {cls:= .type "list",data:= .seq vs.toArray}->IntsAre vs ns->ns.length<=n->s₁.gens=#[]->
   codeAny (model l.prog w) callerA (.call (.ref fa) ⟨[.ref a],[]⟩) (fun r s'=>r= .ok (.ret (.bool true))/\OldK s₁.heap s'.heap/\s'.os=s₁.os/\AllBare s'.gens) s₁) :
 WalkO q loose XP YP l.row.toRowW d [] (fun f vs=>PySem.call f vs):=by
 intro w s₀ s₁ mg mb G Y fa o pm cd doc dV kV ho hd rM hD Mg hg args vals as Ge hlay hrd sJ hlo;obtain rfl:dV= .none:=Dflts.none hD OH;obtain rfl:kV= .none:=Dflts.noKw hD;obtain⟨a,vs,ns,rfl,rfl,JU,hints,hlen⟩:=zT hn Ge sJ;refine enter_call (codeAny_mono (call w s₀ s₁ mg mb fa o pm cd doc a vs ns G Y ho (fd_plain hd) rM Mg JU hints hlen hg) fun r s' hq=>?_)
 obtain⟨rfl,h2,h3,h4⟩:=hq;exact⟨.inl ⟨.bool true, .bool true,[],rfl,fun _=>rfl, .bool true,Ab l _,fun _=>⟨List.Pairwise.nil,fun _ hm=>(nomatch hm)⟩⟩,h2,h3,h4⟩
section
variable {prog:Program} {w:World} {A:Around} {E:V7} {s:Shared} {K:Frag}
def NO(h:Heap):Heap:={h with objs:=#[]}
def ledger(h:Heap)(L d:Addr):V6:=(List.range h.objs.size).filterMap fun a=>if a=L\/a=d then none else(h.get? a).map fun o=>(a,o)
end
end Att
namespace L2
open PySem PySem.Spec PyProof.Rows
theorem su:∀{vs:List Value} {ns:List Int},IntsAre vs ns->Vals (ns.map V.int) vs
 | _,_, .nil=> .nil
 | _,_, .cons n t h=> .cons ⟨t,rfl⟩ (su h)
def Lz(H:Hp):Prop:=∀b,H b=none\/∃o xs,H b=some (.kT o (.lst xs))
abbrev eX{K:W.Frag}{h:Heap}(_:K.In h):W.Frag:=K
def inClass(s:Stmt)(j:Nat):Stmt:=match s with
 | .ClassDef _ _ _ body _ _ _ _ _ _ _=>body.getD j (.Pass ⟨0,0,0,0⟩)
 | _=> .Pass ⟨0,0,0,0⟩
def gG(s:Stmt):Arguments:=match s with
 | .FunctionDef _ a _ _ _ _ _ _ _ _=>a
 | _=>{posonlyargs:=[],args:=[],vararg:=none,kwonlyargs:=[],kw_defaults:=[],kwarg:=none,defaults:=[]}
def aR(s:Stmt):List Stmt:=match s with
 | .FunctionDef _ _ b _ _ _ _ _ _ _=>b
 | _=>[]
def aF(s:Stmt):Scope:=match s with
 | .FunctionDef _ _ _ _ _ _ sc _ _ _=>sc
 | _=>{kind:= .function,names:=[],isGenerator:=false,isCoroutine:=false}
abbrev r_:AG:=fun _ _ _ _ _ _=>False
abbrev E0:XK:=fun _ _ _=>False
theorem Gp{X:Cx}:Passes r_ X E0:=fun _ _ _ _ _ _ _ h=>h.elim
structure xy (K:W.Frag) (x qual:Str) (st:Stmt) (f:Addr) (fd:FuncData):Prop where
 ex:∃(oc:Value) (od:Option Addr) (kV doc pm:Value) (an:Option Addr) (dI ct:Value) (DC:Array (Option Value)),
  fd=PySem.W.fnOf x qual (gG st) (aR st) (aF st) .none kV doc pm an dI ct/\K.lookup f=some ⟨oc,od, .func fd,DC⟩/\PySem.W.codeIn K dI qual=true
 kp:PySem.W.keepIn K (.ref f)=true
section
variable {P:Program} {w:World} {K:W.Frag} {mg:Wa} {base:Heap}
theorem xy.ok{x qual:Str}{st:Stmt}{f:Addr}{fd:FuncData}{N ps:List Str}{k:Nat}{sp:Sp}(F:xy K x qual st f fd)(S:bf N ps (aF st))(len:∀vs H Q E,sp vs H Q E->vs.length=ps.length)
 (i_:∀(dI:Value) (A:Around) (outer:List Env) (s:Shared) (H:Hp) (vs:List V) (Q:VK) (E:XK),dS k (A.deeper (envOfC qual (aF st) s.heap.objs.size f dI))->sp vs H Q E->
   ∃t,sQ (j8 r_ P w K mg base N qual (aF st) f dI A outer s H E).D2 (aR st) t/\t {nx:=fun _ H'=>Q .cH H',rt:=Q} (start N vs) H):gQ P w K mg base r_ (k+1) f fd ps sp:=by
 obtain⟨oc,od,kV,doc,pm,an,dI,ct,DC,rfl,lk,rM⟩:=F.ex;refine GV lk rM S len fun A outer s H vs Q E hr G1=>?_
 obtain⟨t,h,q⟩:=i_ dI A outer s H vs Q E hr G1;exact⟨t,h.D2,q⟩
theorem xy.binds{x qual:Str}{st:Stmt}{f:Addr}{fd:FuncData}{ps:List Str}(F:xy K x qual st f fd)
 (h:∀(kV doc pm:Value) (an:Option Addr) (dI ct:Value) (us:List Value),us.length=ps.length->bindArgs (PySem.W.fnOf x qual (gG st) (aR st) (aF st) .none kV doc pm an dI ct) ⟨us,[]⟩=pure (ps.zip us)):Binds K fd ps []:=by
 obtain⟨oc,od,kV,doc,pm,an,dI,ct,DC,rfl,lk,rM⟩:=F.ex;exact .all (h kV doc pm an dI ct)
theorem oK{x qual:Str}{st:Stmt}{f:Addr}{oc:Value}{od an:Option Addr}{DC:Array (Option Value)}{kV doc pm dI ct:Value}(l:K.lookup f=some ⟨oc,od, .func (PySem.W.fnOf x qual (gG st) (aR st) (aF st) .none kV doc pm an dI ct),DC⟩)
 (c:PySem.W.codeIn K dI qual=true) (k:PySem.W.keepIn K (.ref f)=true):xy K x qual st f (PySem.W.fnOf x qual (gG st) (aR st) (aF st) .none kV doc pm an dI ct):=⟨⟨oc,od,kV,doc,pm,an,dI,ct,DC,rfl,l,c⟩,k⟩
end
theorem jT{A:Around}{k:Nat}(hr:dS k A):A.units+1 < cLine:=Nat.lt_of_le_of_lt (Nat.add_le_add_left (by decide:1<=64) _) hr.units
section
variable {X:Cx}
theorem zC:j7 X (.builtin "len") (fun xs H Q=>∃a aA,xs=[V.ref a]/\H a=some (.dK aA)/\Q (.int aA.length) H):=by
 intro pins s σ H xs us Q I r h;obtain⟨a,aA,rfl,ha,q⟩:=h;obtain⟨u,rfl,ru⟩:=vals1 r;cases ru;exact Lo I (.inl ha) fun t s' I'=>⟨.int aA.length,H,I',⟨t,rfl⟩,q⟩
end
theorem De{A B:Prop}(h:B):if false=true then A else B:=by
 rw[if_neg Bool.false_ne_true];exact h
theorem Bp{A B:Prop}(h:A):if true=true then A else B:=by
 rw[if_pos rfl];exact h
def aM(H H':Hp):Prop:=∀b o,H b=some o->H' b=some o
theorem aM.refl(H:Hp):aM H H:=fun _ _ h=>h
theorem aM.trans(a:aM H H1)(b:aM H1 H2):aM H H2:=fun c o h=>b c o (a c o h)
theorem aM.free{H H':Hp}(e:aM H H'){l:Addr}(h:H' l=Option.none):H l=Option.none:=by
 cases q:H l with
 | none=>rfl
 | some o=>
   rw[e l o q] at h;cases h
section
variable {κ:Type} [DecidableEq κ]
end
end L2
end
section
namespace L2
open PySem PySem.Spec PyProof.Rows
def mw(cells:List (Str × Addr)):List (Str × NameKind)->List (Str × Addr)->List (Str × Addr)
 | [],acc=>acc
 | (n,k) ::r,acc=>mw cells r (if k==NameKind.free then(n,(cells.lookup n).getD 0) ::acc else acc)
theorem kq{env:Env}:∀(names:List (Str × NameKind)) (acc:List (Str × Addr)),(∀y∈names,y.2= .free->∃c,env.cells.lookup y.1=some c)->
 (forIn names acc fun(x:Str × NameKind) (cs:List (Str × Addr))=>(match x with
   | (name,kind)=>if kind== .free then do let a <-cellOf env name;pure (ForInStep.yield ((name,a) ::cs)) else pure (ForInStep.yield cs):Sem (ForInStep (List (Str × Addr)))))=pure (mw env.cells names acc)
 | [],acc,_=>by simp [mw]
 | (n,k) ::r,acc,h=>by
   rw[List.forIn_cons];by_cases hk:k=NameKind.free
   .subst hk;obtain⟨c,hc⟩:=h (n, .free) List.mem_cons_self rfl;have e:cellOf env n=pure c:=by unfold cellOf;rw [hc]
    simp only[beq_self_eq_true,if_true,e,pure_bind,mw,hc,Option.getD_some];exact kq r _ fun y hy=>h y (List.mem_cons_of_mem _ hy)
   .have hb:(k==NameKind.free)=false:=by simpa using hk
    simp only[hb,Bool.false_eq_true,if_false,pure_bind,mw];exact kq r _ fun y hy=>h y (List.mem_cons_of_mem _ hy)
theorem kN{env:Env}{scope:Scope}(h:∀y∈scope.names,y.2= .free->∃c,env.cells.lookup y.1=some c):closureFor scope env=pure (mw env.cells scope.names []):=by
 unfold closureFor;have:=kq (env:=env) scope.names [] h;simp only[bind_pure];exact this
theorem ju{cells:List (Str × Addr)}:∀(names:List (Str × NameKind)) (acc:List (Str × Addr)) {x:Str} {c:Addr},(mw cells names acc).lookup x=some c->
 acc.lookup x=some c\/((x,NameKind.free)∈names/\c=(cells.lookup x).getD 0)
 | [],acc,x,c,h=> .inl h
 | (n,k) ::r,acc,x,c,h=>by
   rcases ju r _ h with q | ⟨q1,q2⟩
   .by_cases hk:k=NameKind.free
    .subst hk;simp only[beq_self_eq_true,if_true] at q;cases hx:x==n with
     | true=>
       have e:x=n:=by simpa using hx
       subst e;rw[List.lookup_cons,hx] at q;exact .inr ⟨List.mem_cons_self,(Option.some.inj q).symm⟩
     | false=>
       rw[List.lookup_cons,hx] at q;exact .inl q
    .have hb:(k==NameKind.free)=false:=by simpa using hk
     simp only[hb,Bool.false_eq_true,if_false] at q;exact .inl q
   .exact .inr ⟨List.mem_cons_of_mem _ q1,q2⟩
theorem va{cells:List (Str × Addr)}:∀(names:List (Str × NameKind)) (acc:List (Str × Addr)) {x:Str},((x,NameKind.free)∈names\/∃c,acc.lookup x=some c)->∃c,(mw cells names acc).lookup x=some c
 | [],acc,x,h=>by
   rcases h with h | h
   .simp at h
   .exact h
 | (n,k) ::r,acc,x,h=>by
   refine va r _ ?_;rcases h with h | ⟨c,h⟩
   .rcases List.mem_cons.mp h with e | e
    .cases e;exact .inr ⟨(cells.lookup n).getD 0,by simp [List.lookup_cons]⟩
    .exact .inl e
   .by_cases hk:k=NameKind.free
    .subst hk;simp only[beq_self_eq_true,if_true];cases hx:x==n with
     | true=>exact .inr ⟨(cells.lookup n).getD 0,by rw[List.lookup_cons,hx]⟩
     | false=>exact .inr ⟨c,by rw[List.lookup_cons,hx];exact h⟩
    .have hb:(k==NameKind.free)=false:=by simpa using hk
     simp only[hb,Bool.false_eq_true,if_false];exact .inr ⟨c,h⟩
theorem tQ:∀(names:List (Str × NameKind)) (n:Nat) (acc:List (Str × Addr)) {x:Str},(x,NameKind.cell) ∉ names->(cellsFrom n names acc).lookup x=acc.lookup x
 | [],_,_,_,_=>rfl
 | (y,k) ::r,n,acc,x,h=>by
   unfold cellsFrom;split
   .rename_i hk;have hk:k= .cell:=by simpa using hk
    subst hk;rw[tQ r _ _ fun z=>h (List.mem_cons_of_mem _ z),List.lookup_cons]
    cases hx:x==y with
    | true=>
      have e:x=y:=by simpa using hx
      subst e;exact absurd List.mem_cons_self h
    | false=>rfl
   .exact tQ r _ _ fun z=>h (List.mem_cons_of_mem _ z)
theorem mU:∀(names:List (Str × NameKind)) (n:Nat) (acc:List (Str × Addr)),cellsFrom n names acc=cellsFrom n names []++acc
 | [],_,_=>rfl
 | (y,k) ::r,n,acc=>by
   unfold cellsFrom;split
   .rw [mU r (n+1) ((y,n) ::acc),mU r (n+1) [(y,n)],List.append_assoc];rfl
   .exact mU r n acc
theorem w6{a b:List (Str × Addr)}{c:Addr}(h:(a++b).lookup x=some c):(x,c)∈a\/b.lookup x=some c:=by
 induction a with
 | nil=>exact .inr h
 | cons y r ih=>
   obtain⟨n,v⟩:=y;rw[List.cons_append,List.lookup_cons] at h;cases hx:x==n with
   | true=>
     rw[hx] at h;have e:x=n:=by simpa using hx
     subst e;cases h;exact .inl List.mem_cons_self
   | false=>
     rw[hx] at h;exact(ih h).imp (List.mem_cons_of_mem _) id
theorem lE{a b:List (Str × Addr)}(h:∃c,b.lookup x=some c):∃c,(a++b).lookup x=some c:=by
 induction a with
 | nil=>exact h
 | cons y r ih=>
   rw[List.cons_append,List.lookup_cons];cases x==y.1 with
   | true=>exact⟨_,rfl⟩
   | false=>exact ih
theorem sO{a b:List (Str × Addr)}{c:Addr}(h:a.lookup x=some c):∃c,(a++b).lookup x=some c:=by
 induction a with
 | nil=>cases h
 | cons y r ih=>
   rw[List.cons_append,List.lookup_cons];rw[List.lookup_cons] at h;cases hx:x==y.1 with
   | true=>exact⟨_,rfl⟩
   | false=>rw [hx] at h;exact ih h
theorem so{M:Model}{A:Around}{E:V7}{s:Shared}{scope:Scope}{cl:List (Str × Addr)}{qual:Str}{env:Env}{Q:Env->Shared->Prop}(hQ:∀h',h'.Ns s.heap.objs.size (fun _=>none)->(∀b o,s.heap.get? b=some o->h'.get? b=some o)->CellsOk h' (s.heap.objs.size+1) (cellsFrom (s.heap.objs.size+1) scope.names [])->
 Q (newEnv scope s.heap.objs.size env.globals (cellsFrom (s.heap.objs.size+1) scope.names cl) qual none .none (some env) builtinsNs) {s with heap:=h'}) :
 wpAny M A (newFunctionEnv scope env.globals cl [] qual none .none (some env)) Q E s:=by
 simp only[newFunctionEnv,Option.isSome_some,if_true];refine wpAny_bind (wpAny_alloc ?_);refine wpAny_bind (wpAny_layCells _ (fun name kind cells=>by cases hkc:kind==NameKind.cell <;> simp [hkc]) _ _ _ _ ?_)
 have ok:=cellsFrom_ok scope.names (s.heap.push {cls:= .type "dict",data:= .dict #[]}) (s.heap.objs.size+1) [] ⟨fun _ _ hm=>(nomatch hm),List.Pairwise.nil⟩ (by rw[Heap.size_push];exact Nat.le_refl _)
 rw[Heap.size_push] at ok;rw[show({s with heap:=s.heap.push {cls:= .type "dict",data:= .dict #[]}}:Shared).heap.objs.size=s.heap.objs.size+1 from Heap.size_push ..]
 rw[List.forIn_nil];refine wpAny_bind (wpAny_pure (wpAny_pure ?_));exact hQ _ ((Heap.Ns.new s.heap (.type "dict")).keeps (pushCells_keeps _ _)) (fun b o e=>pushCells_keeps _ _ b o (Heap.get?_push_of_some _ e)) ok
def aV(X:Cx)(scope:Scope)(N':List Str)(fp:List Addr)(s:Shared)(H:Hp):Cx where
 prog:=X.prog
 w:=X.w
 K:=X.K
 mg:=X.mg
 base:=X.base
 A:=X.A
 N:=N'
 s₀:=s
 H₀:=H
 env:=compEnvC scope (cellsFrom (s.heap.objs.size+1) scope.names (mw X.env.cells scope.names [])) s.heap.objs.size X.env
 outer:=X.stack
 stack:=X.stack
 ex:=fp
 fn:=fun x=>scope.names.lookup x==some .cell
 calm:=X.calm
 pn:=[]
 xe:=fun _ _=>False
structure bN (X:Cx) (scope:Scope) (own:List Str) (kp:List Nat) (kn:List Str):Prop where
 kind:scope.kind= .function
 cel:∀y∈scope.names,y.2= .cell->scope.names.lookup y.1=some .cell
 nd:∀y∈scope.names,y.2= .local->scope.names.lookup y.1=some .local
 free:∀y∈scope.names,y.2= .free->X.env.kindOf y.1=some .cell\/X.env.kindOf y.1=some .free
 frl:∀y∈scope.names,y.2= .free->scope.names.lookup y.1=some .free
 names:kn.length=kp.length
 at_:∀(j i:Nat) (x:Str),kp[j]? =some i->kn[j]? =some x->X.N[i]? =some x
 isfree:∀x∈kn,scope.names.lookup x=some .free
def c9(own:List Str)(kp:List Nat)(σ:St):St:=List.replicate own.length none++kp.map fun i=>(σ[i]?).getD none
section
variable {X:Cx} {scope:Scope} {own:List Str} {kp:List Nat} {kn:List Str}
theorem d7{env:Env}:∀{names:List (Str × NameKind)} {x:Str} {k:NameKind},
 (names.map fun(n,k)=>if(k==NameKind.free && env.scope.kind== .function && env.kindOf n==some .cell) then(n,NameKind.cell) else(n,k)).lookup x=some k->
 names.lookup x=some k\/(k= .cell/\names.lookup x=some .free)
 | [],_,_,h=>by simp at h
 | (n,k) ::r,x,k',h=>by
   have ih:=@d7 env r x k';have h:List.lookup x ((if(k==NameKind.free && env.scope.kind== .function && env.kindOf n==some .cell)=true then(n,NameKind.cell) else(n,k)) ::_)=some k':=h
   by_cases hc:(k==NameKind.free && env.scope.kind== .function && env.kindOf n==some .cell)=true
   .rw [if_pos hc] at h;have hkf:k= .free:=by
     simp only[Bool.and_eq_true,beq_iff_eq] at hc;exact hc.1.1
    cases hx:x==n with
    | true=>
      rw[List.lookup_cons,hx] at h;cases h;exact .inr ⟨rfl,by rw[List.lookup_cons,hx,hkf]⟩
    | false=>
      rw[List.lookup_cons,hx] at h;rw[List.lookup_cons,hx];exact ih h
   .rw [if_neg hc] at h;cases hx:x==n with
    | true=>
      rw[List.lookup_cons,hx] at h;rw[List.lookup_cons,hx];exact .inl h
    | false=>
      rw[List.lookup_cons,hx] at h;rw[List.lookup_cons,hx];exact ih h
theorem m3{pins:V6}{s:Shared}(C:bN X scope own kp kn)(I:Inv X pins σ H s):∀y∈scope.names,y.2= .free->∃c,X.env.cells.lookup y.1=some c:=fun y hy hf=>
 I.ok.has y.1 (C.free y hy hf)
theorem B0{pins:V6}{σ:St}{H:Hp}{s:Shared}{fp:List Addr}{kR:Heap}{tk:Nat}(C:bN X scope own kp kn)(I:Inv X pins σ H s)(hf:∀b∈fp,pF X pins H b)(hb:∀b∈fp,b < s.heap.objs.size)
 (hn:kR.Ns s.heap.objs.size (fun _=>none)) (hk:∀b o,s.heap.get? b=some o->kR.get? b=some o) (hC:CellsOk kR (s.heap.objs.size+1) (cellsFrom (s.heap.objs.size+1) scope.names [])):Inv (aV X scope (own++kn) fp s H) [] (c9 own kp σ) H {s with heap:=kR,toks:=tk}:=by
 have cl:∀x c,(mw X.env.cells scope.names []).lookup x=some c->X.env.cells.lookup x=some c:=fun x c e=>by
  rcases ju scope.names [] e with q | ⟨q1,q2⟩
  .simp at q
  .obtain⟨c',AM⟩:=m3 C I (x, .free) q1 rfl;have AM:X.env.cells.lookup x=some c':=AM;rw[AM] at q2;rw[AM,q2];rfl
 have clA:∀x c,(cellsFrom (s.heap.objs.size+1) scope.names (mw X.env.cells scope.names [])).lookup x=some c->(x,c)∈cellsFrom (s.heap.objs.size+1) scope.names []\/(mw X.env.cells scope.names []).lookup x=some c:=fun x c e=>by
  rw[mU] at e;exact w6 e
 have old:∀x c,(mw X.env.cells scope.names []).lookup x=some c->c < s.heap.objs.size:=fun x c e=>by
  obtain⟨v,h⟩:=I.cell x c (cl x c e);exact h.lt
 have new:∀x c,(x,c)∈cellsFrom (s.heap.objs.size+1) scope.names []->s.heap.objs.size<=c:=fun x c e=>Nat.le_of_lt (hC.empty x c e).2
 have clh:∀x,scope.names.lookup x=some .free->∃c,(mw X.env.cells scope.names []).lookup x=some c:=fun x hx=>va scope.names [] (.inl (PySem.mem_of_lookup hx))
 refine⟨⟨I.ok.mod,C.kind,I.ok.glob,I.ok.blt,Nat.le_refl _,fun x y c h1 h2=>?inj,fun x hx=>?_,fun x c hn h=>?cab,I.ok.hd,I.ok.frames, .inl rfl,fun b qa=>⟨Nat.ne_of_lt (hb b qa),fun x c e z=>?exf⟩,
  fun b o e=>I.bs b o e,Nat.le_trans I.ok.bsz I.sz,fun b o e qa=>?_,fun b qa hs=>?_,I.stack,I.pR⟩,
  rfl,I.bare,Un.kept hk,⟨_,hn,fun i x v h1 h2 h3=>?_⟩,fun x c e=>?_,I.hok.fresh (Nat.le_refl _),fun x c e=>?frc,fun p hp=>(by cases hp),I.hok.kept hk,?_⟩
 case inj=>
  rcases clA x c h1 with a | a <;> rcases clA y c h2 with b | b
  .exact name_of_addr hC.apart a b
  .exact absurd (Nat.lt_of_lt_of_le (old y c b) (new x c a)) (Nat.lt_irrefl _)
  .exact absurd (Nat.lt_of_lt_of_le (old x c a) (new y c b)) (Nat.lt_irrefl _)
  .exact I.ok.inj x y c (cl x c a) (cl y c b)
 case cab=>
  have hn:(scope.names.lookup x==some .cell)=true:=hn;rcases clA x c h with a | a
  .exact new x c a
  .rcases ju scope.names [] a with q | ⟨q1,q2⟩
   .simp at q
   .have hx:scope.names.lookup x=some .cell:=by simpa using hn
    have h7:scope.names.lookup x=some .free:=C.frl _ q1 rfl;rw[hx] at h7;cases h7
 case exf=>
  rcases clA x c e with a | a
  .subst z;exact absurd (Nat.lt_of_lt_of_le (hb _ qa) (new x _ a)) (Nat.lt_irrefl _)
  .exact(hf b qa).2.2.2.2.1 x c (cl x c a) z
 case frc=>
  rcases clA x c e with a | a
  .exact I.hok.fresh (new x c a)
  .exact I.freeC x c (cl x c a)
 .have hx:(relabel scope X.env).names.lookup x=some .cell\/(relabel scope X.env).names.lookup x=some .free:=hx;show ∃c,(cellsFrom (s.heap.objs.size+1) scope.names (mw X.env.cells scope.names [])).lookup x=some c;rcases hx with hx | hx
  .rcases d7 hx with q | ⟨_,q⟩
   .rw [mU];obtain⟨c,hc⟩:=qZ (n:=s.heap.objs.size+1) q;exact sO hc
   .rw [mU];exact lE (clh x q)
  .rcases d7 hx with q | ⟨q,_⟩
   .rw [mU];exact lE (clh x q)
   .cases q
 .rcases(hf b qa).2.2.2.1 with z | z
  .exact I.ok.noex b o e z
  .exact absurd (Nat.lt_of_lt_of_le (Heap.lt_size (I.ok.bs b o e).1) z) (Nat.lt_irrefl _)
 .rcases List.mem_cons.mp (I.w9 b hs) with z | z
  .exact(hf b qa).2.1 z
  .exact(hf b qa).2.2.1 z
 .-- a kept name
  have h1:(own++kn)[i]? =some x:=h1;have h2:(c9 own kp σ)[i]? =some (some v):=h2;unfold c9 at h2;by_cases hi:i < own.length
  .rw [List.getElem?_append_left (by simpa using hi),List.getElem?_replicate] at h2
   split at h2 <;> cases h2
  .rw [List.getElem?_append_right (by simpa using hi),List.length_replicate,List.getElem?_map] at h2
   rw[List.getElem?_append_right (by simpa using hi)] at h1
   cases e:kp[i - own.length]? with
   | none=>rw [e] at h2;cases h2
   | some j=>
     rw[e] at h2;have h2:(σ[j]?).getD none=some v:=Option.some.inj h2;have hj:X.N[j]? =some x:=C.at_ _ j x e h1;have F7:σ[j]? =some (some v):=by
      cases q:σ[j]? with
      | none=>rw [q] at h2;cases h2
      | some y=>rw [q] at h2;exact congrArg some h2
     have hfree:scope.names.lookup x=some .free:=C.isfree x (List.mem_of_getElem? h1);have hkind:=C.free (x, .free) (PySem.mem_of_lookup hfree) rfl;obtain⟨m,hm,hl⟩:=I.loc;obtain⟨u,r,l⟩:=hl j x v hj F7 (hkind.elim (fun q=>Or.inr (Or.inl q)) fun q=>Or.inr (Or.inr q))
     refine⟨u,r, .inr ⟨?_,?_⟩⟩
     .have h3:(relabel scope X.env).names.lookup x=some .local\/(relabel scope X.env).names.lookup x=some .cell\/(relabel scope X.env).names.lookup x=some .free:=h3;rcases h3 with q | q | q
      .rcases d7 q with z | ⟨z,_⟩
       .rw [hfree] at z;cases z
       .cases z
      .exact .inl q
      .exact .inr q
     .rcases l with⟨k,_⟩ | ⟨_,c,hc,hcell⟩
      .rcases hkind with q | q
       .rw [show X.env.kindOf x=some .cell from q] at k;cases k
       .rw [show X.env.kindOf x=some .free from q] at k;cases k
      .obtain⟨c',AM⟩:=clh x hfree;have:=cl x c' AM;rw[hc] at this;cases this;obtain⟨o,ho,hd⟩:=hcell;exact⟨c,(tQ _ _ _ fun z=>by have:=C.cel _ z rfl;rw [hfree] at this;cases this).trans AM,o,hk c o ho,hd⟩
 .rcases clA x c e with a | a
  .exact⟨_,(hC.empty x c a).1⟩
  obtain⟨v,o,ho,hd⟩:=I.cell x c (cl x c a);exact⟨v,o,hk c o ho,hd⟩
 .show(c9 own kp σ).length=(own++kn).length;unfold c9;rw[List.length_append,List.length_replicate,List.length_map,List.length_append,C.names]
theorem qm{pins:V6}{s s':Shared}{fp:List Addr}{N':List Str}(I:Inv X pins σ H s)(hf:∀b∈fp,pF X pins H b)(J:Inv (aV X scope N' fp s H) [] cB H' s'):Inv X pins σ H' s':=
 I.Ln (ch:=fp) J.os J.base J.hok J.bare fun b hb=>⟨(hf b hb).2.2.2.1,(hf b hb).2.1,(hf b hb).2.2.2.2.1,(hf b hb).2.2.2.2.2⟩
end
def nM(X:Cx)(ifs:List Expr)(t:TT):Prop:=
 ∀(pins:V6) (s:Shared) (σ:St) (H:Hp) (Q:Bool->Hp->Prop),Inv X pins σ H s->t σ H Q->
  wpAny (model X.prog X.w) X.A (forIn ifs true fun c r=>if r=true then do let ok <-isTrue c X.env (eval c X.env);pure (ForInStep.yield ok) else pure (ForInStep.yield r)) (TP X pins σ Q) X.xe s
def Nj:TT:=fun _ H Q=>Q true H
theorem uW{X:Cx}:nM X [] Nj:=fun _ _ _ H _ I h=>wpAny_tests_nil ⟨H,I,h⟩
theorem Bm{X:Cx}{t:TT}(h:PT X c t):nM X [c] t:=fun pins s σ H Q I hq=>wpAny_tests_one (h pins s σ H Q I hq)
def zc(wi:TI)(g:TG)(tc:TT)(te:TE)(own:List Str)(kp:List Nat):TE:=fun σ H Q=>wi σ H fun J H1=>∀D,H1 D=none->
 ∃W:Nat->Nat->List V->Hp->Prop,(∃m,W 0 m [] (upd H1 D (.lst [])))/\∀i m ys H,W i m ys H->
  (J.stop i H/\Q (.ref D) H)\/(J.go i H/\∀x H',J.yld i H x H'->g x (c9 own kp σ) H' fun rf H2=>tc rf H2 fun c H3=>
    if c=true then te rf H3 fun y H4=>H4 D=some (.lst ys)/\ys.length < sizeLine/\∃m',m' < m/\W (i+1) m' (ys++[y]) (upd H4 D (.lst (ys++[y])))
    else ∃m',m' < m/\W (i+1) m' ys H3)
section
variable {X:Cx} {scope:Scope} {own:List Str} {kp:List Nat} {kn:List Str} {tg iter elt:Expr} {ifs:List Expr} {wi:TI} {g:TG} {tc:TT} {te:TE} {pos:Pos}
theorem vp{pins:V6}{σ:St}{H:Hp}{s:Shared}{fp:List Addr}{it D:Addr}{tn:Nat->Heap->Prop}{J:It}{Q:VK}{kR:Heap}{tk:Nat}{R:Result->Shared->Prop}
 (hc:X.calm=true) (C:bN X scope own kp kn) (I:Inv X pins σ H s) (hf:∀b∈fp,pF X pins H b) (hb:∀b∈fp,b < s.heap.objs.size) (T:Turn X.prog X.w X.K tg J fp it tn)
 (hg:PG (aV X scope (own++kn) fp s H) tg g) (hi:nM (aV X scope (own++kn) fp s H) ifs tc) (he:PE (aV X scope (own++kn) fp s H) elt te)
 (hn:kR.Ns s.heap.objs.size (fun _=>none)) (hk:∀b o,s.heap.get? b=some o->kR.get? b=some o) (hC:CellsOk kR (s.heap.objs.size+1) (cellsFrom (s.heap.objs.size+1) scope.names [])) (st:tn 0 s.heap)
 (W:Nat->Nat->List V->Hp->Prop) (w0:∃m,W 0 m [] H)
 (turn:∀i m ys H,W i m ys H->
   (J.stop i H/\Q (.ref D) H)\/(J.go i H/\∀x H',J.yld i H x H'->g x (c9 own kp σ) H' fun rf H2=>tc rf H2 fun c H3=>
     if c=true then te rf H3 fun y H4=>H4 D=some (.lst ys)/\ys.length < sizeLine/\∃m',m' < m/\W (i+1) m' (ys++[y]) (upd H4 D (.lst (ys++[y])))
     else ∃m',m' < m/\W (i+1) m' ys H3))
 (hR:∀H' s' cB,Inv (aV X scope (own++kn) fp s H) [] cB H' s'->Q (.ref D) H'->R (.ok .next) s') :
 codeAny (model X.prog X.w) X.A (.compStart (.ListComp elt [⟨tg,iter,ifs,0⟩] scope pos) 0 (.ref it) (.ref D) (aV X scope (own++kn) fp s H).env) R {s with heap:=kR,toks:=tk}:=by
 have I1:Inv (aV X scope (own++kn) fp s H) [] (c9 own kp σ) H {s with heap:=kR,toks:=tk}:=B0 C I hf hb hn hk hC
 have Rl:tn 0 kR:=T.keep _ _ _ st fun b _ o e=>hk b o e
 have fp1:∀{H':Hp} {p:V6},(∀b∈fp,H' b=none)->(∀b∈fp,∀q∈p,q.1≠b)->∀b∈fp,pF (aV X scope (own++kn) fp s H) p H' b:=fun {H' p} hn hp b qa=>
  ⟨hn b qa,(I1.ok.exf b qa).1,I1.ok.exfs b qa, .inl qa,fun x c e=>(I1.ok.exf b qa).2 x c e,fun q hq=>hp b qa q hq⟩
 obtain⟨m0,w0⟩:=w0;have loop:codeAny (model X.prog X.w) X.A (.compLoop (.ListComp elt [⟨tg,iter,ifs,0⟩] scope pos) 0 (.ref it) (.ref D) (aV X scope (own++kn) fp s H).env) R {s with heap:=kR,toks:=tk}:=by
  refine codeAny_loop rfl (fun n s'=>∃i ys H',Inv (aV X scope (own++kn) fp s H) [] (c9 own kp σ) H' s'/\tn i s'.heap/\(∀b∈fp,H' b=none)/\W i n ys H') (fun n s' hI=>?_) m0 ⟨0,[],H,I1,Rl,fun b qa=>(hf b qa).1,w0⟩
  obtain⟨i,ys,H3,I3,F6,Me,w3⟩:=hI;show wpAny _ _ ((compTurn (.ListComp elt [⟨tg,iter,ifs,0⟩] scope pos) 0 (.ref it) (.ref D) (aV X scope (own++kn) fp s H).env).onRaise (fun x=>do noteFrame x (aV X scope (own++kn) fp s H).env;theTreesLotGoes x)) _ _ s'
  refine wpAny_noted (wpAny_noRaise ?_);rw[compTurn_list];refine wpAny_bind (wpAny_standAt (wpAny_bind ?_));rcases turn i n ys H3 w3 with⟨stop,q⟩ | ⟨go,step⟩
  .refine cO (T.done (aV X scope (own++kn) fp s H) rfl rfl rfl hc i [] s' _ H3 _ I3 (fp1 Me (fun _ _ q hq=>by cases hq)) F6 stop) fun r s4 ⟨hr,I4⟩=>?_
   subst hr;exact wpAny_pure (hR H3 s4 _ I4 q)
  .refine cO (T.item (aV X scope (own++kn) fp s H) rfl rfl rfl hc i [] s' _ H3 _ I3 (fp1 Me (fun _ _ q hq=>by cases hq)) F6 go) fun r s4 ⟨u,hr,h4⟩=>?_
   subst hr;refine wpAny_bind (cO h4 fun _ s5 ⟨x,H5,I5,r5,y5,JM,PR⟩=>?_)
   have I5':=I5.pinned (fp1 PR (fun _ _ q hq=>by cases hq)) (T.obj _ _ JM)
   have keepIt:∀{wa:St} {H7:Hp} {s7:Shared},Inv (aV X scope (own++kn) fp s H) ([]++m_ fp s5.heap) wa H7 s7->tn (i+1) s7.heap/\∀b∈fp,H7 b=none:=fun {wa H7 s7} I7=>by
    refine⟨T.keep _ _ _ JM fun b hb o e=>(I7.pin (b,o) (List.mem_append_right _ (List.mem_append_right _ (kg hb e)))).1,fun b hb=>?_⟩
    obtain⟨o,e,d⟩:=T.obj _ _ JM b hb;exact(I7.pin (b,o) (List.mem_append_right _ (List.mem_append_right _ (kg hb e)))).2.1
   have reset:∀{wa:St} {H7:Hp} {s7:Shared},Inv (aV X scope (own++kn) fp s H) ([]++m_ fp s5.heap) wa H7 s7->Inv (aV X scope (own++kn) fp s H) [] (c9 own kp σ) H7 s7:=fun {wa H7 s7} I7=>by
    have I8:=I7.oe;have hun:Un (pH X.stack) fp H H7 s.heap s7.heap:=I8.base;have I9:Inv X pins σ H7 s7:=qm I hf I8;refine⟨I8.ok,I8.os,I8.bare,I8.base,?_,I8.cell,I8.free,I8.freeC,I8.pin,I8.hok,I1.len⟩;obtain⟨m,hm,_⟩:=I8.loc;refine⟨m,hm,fun i x v h1 h2 h3=>?_⟩
    obtain⟨m1,V0,LX⟩:=I1.loc;obtain⟨u1,r1,l1⟩:=LX i x v h1 h2 h3;have h1:(own++kn)[i]? =some x:=h1;have h2:(c9 own kp σ)[i]? =some (some v):=h2;unfold c9 at h2;by_cases hi:i < own.length
    .rw [List.getElem?_append_left (by simpa using hi),List.getElem?_replicate] at h2
     split at h2 <;> cases h2
    .rw [List.getElem?_append_right (by simpa using hi),List.length_replicate,List.getElem?_map] at h2
     rw[List.getElem?_append_right (by simpa using hi)] at h1
     cases e:kp[i - own.length]? with
     | none=>rw [e] at h2;cases h2
     | some j=>
       rw[e] at h2;have h2:(σ[j]?).getD none=some v:=Option.some.inj h2;have hj:X.N[j]? =some x:=C.at_ _ j x e h1;have F7:σ[j]? =some (some v):=by
        cases q:σ[j]? with
        | none=>rw [q] at h2;cases h2
        | some y=>rw [q] at h2;exact congrArg some h2
       have hfree:scope.names.lookup x=some .free:=C.isfree x (List.mem_of_getElem? h1);have hkind:=C.free (x, .free) (PySem.mem_of_lookup hfree) rfl;obtain⟨m9,VW,U1⟩:=I9.loc;obtain⟨u,r,l⟩:=U1 j x v hj F7 (hkind.elim (fun q=>Or.inr (Or.inl q)) fun q=>Or.inr (Or.inr q))
       refine⟨u,r, .inr ?_⟩;rcases l1 with⟨k,k2⟩ | ⟨k,c,hc,hcell⟩
       .have k:(relabel scope X.env).names.lookup x=some .local:=k;rcases d7 k with z | ⟨z,_⟩
        .rw [hfree] at z;cases z
        .cases z
       .refine⟨k,c,hc,?_⟩;rcases l with⟨k',_⟩ | ⟨_,c',AM,JW⟩
        .rcases hkind with q | q
         .rw [show X.env.kindOf x=some .cell from q] at k';cases k'
         .rw [show X.env.kindOf x=some .free from q] at k';cases k'
        .have hcl:(mw X.env.cells scope.names []).lookup x=some c:=(tQ _ _ _ fun z=>by have:=C.cel _ z rfl;rw [hfree] at this;cases this).symm.trans hc
         rcases ju scope.names [] hcl with q | ⟨q1,q2⟩
         .simp at q
         .rw [AM] at q2;have q2:c=c':=q2;rw[q2];exact JW
   have hmm:=hg ([]++m_ fp s5.heap) s5 (c9 own kp σ) H5 x u _ I5' r5 (step x H5 y5);refine wpAny_bind (cO hmm fun _ s6 ⟨Mb,H6,I6,q6⟩=>?_)
   refine wpAny_bind (cO (hi _ s6 Mb H6 _ I6 q6) fun ok s7 ⟨H7,I7,q7⟩=>?_)
   cases ok with
   | false=>
     simp only[Bool.false_eq_true,if_false] at q7 ⊢;obtain⟨m',JR,w7⟩:=q7;obtain⟨a1,a2⟩:=keepIt I7;exact wpAny_pure ⟨rfl,m',JR,i+1,ys,H7,reset I7,a1,a2,w7⟩
   | true=>
     simp only[if_true] at q7 ⊢;refine wpAny_bind (wpAny_bind (cO (he _ s7 Mb H7 _ I7 q7) fun yv s8 ⟨y,H8,I8,r8,hD,hlt,m',JR,w8⟩=>wpAny_bind ?_))
     obtain⟨a1,a2⟩:=keepIt I8;refine cO (mi _ s8 Mb H8 (.ref D) [y] (.ref D) [yv] (fun v H9=>v= .cH/\H9=upd H8 D (.lst (ys++[y]))) I8 rfl (.cons r8 .nil) ⟨D,ys,y,rfl,rfl,hD,hlt,rfl,rfl⟩) fun _ s9 ⟨v9,H9,I9,_,_,e9⟩=>?_
     subst e9;obtain⟨b1,b2⟩:=keepIt I9;exact wpAny_pure (wpAny_pure ⟨rfl,m',JR,i+1,ys++[y],_,reset I9,b1,b2,w8⟩)
 exact codeAny_compStart_list loop (T.self _ _ _ _ _ Rl loop)
theorem yR(hc:X.calm=true)(C:bN X scope own kp kn)(hi:PI X tg iter wi)(hg:∀fp s H,PG (aV X scope (own++kn) fp s H) tg g)(ur:∀fp s H,nM (aV X scope (own++kn) fp s H) ifs tc)
 (he:∀fp s H,PE (aV X scope (own++kn) fp s H) elt te) (hs:∀x,foldedSetIterable iter X.env x=pure x:=by intro _;rfl):PE X (.ListComp elt [⟨tg,iter,ifs,0⟩] scope pos) (zc wi g tc te own kp):=by
 intro pins s σ H Q I h;rw[eval_ListComp];refine wpAny_comprehension_free (use:=none) rfl hs (kN (m3 C I)) C.kind C.nd (cO (hi pins s σ H _ I h) fun v s1 h1=>cO h1 fun ME s2 h2=>?_)
 obtain⟨it,fp,tn,J,H2,e,I2,T,JV,f2,q⟩:=h2;subst e;refine wpAny_newObj_type ?_;have I3:Inv X pins σ (upd H2 s2.heap.objs.size (.lst [])) {s2 with heap:=s2.heap.push {cls:= .type "list",dict:=none,data:= .seq ([]:List Value).toArray}}:=I2.II (its:=[]) (t':=s2.toks) .nil (Nat.zero_le _)
 obtain⟨W,w0,turn⟩:=q s2.heap.objs.size I2.fresh;have fne:∀b∈fp,b < s2.heap.objs.size:=fun b hb=>let⟨o,e,_⟩:=T.obj _ _ JV b hb;Heap.lt_size e
 have f3:∀b∈fp,pF X pins (upd H2 s2.heap.objs.size (.lst [])) b:=fun b hb=>⟨by rw[a_ (Nat.ne_of_lt (fne b hb))];exact(f2 b hb).1,(f2 b hb).2⟩
 generalize hs3:({s2 with heap:=s2.heap.push {cls:= .type "list",dict:=none,data:= .seq ([]:List Value).toArray}}:Shared)=s3 at I3 ⊢
 have F6:tn 0 s3.heap:=by rw[<-hs3];exact T.keep _ _ _ JV fun b _ o e=>Heap.get?_push_of_some _ e
 have fne3:∀b∈fp,b < s3.heap.objs.size:=fun b hb=>by rw[<-hs3];exact Nat.lt_of_lt_of_le (fne b hb) (by rw[Heap.size_push];exact Nat.le_succ _)
 refine so fun kR x9 hk hC=>?_
 refine vp (D:=s2.heap.objs.size) hc C I3 f3 fne3 T (hg fp s3 _) (ur fp s3 _) (he fp s3 _) x9 hk hC F6 W w0 turn fun H' s' cB J' hq=>?_
 have B:=qm I3 f3 J';obtain⟨m',JR,_⟩:=J'.loc;refine⟨m',JR,fun h' sb=>⟨.ref s2.heap.objs.size,H',?_,rfl,hq⟩⟩
 have fC:=I3.wX (H':=H') (b:=s3.heap.objs.size) (Nat.le_refl _) J'.free;exact B.turned (it:=s3.heap.objs.size) (t':=s'.toks) (fun b o hb e=>(sb.2 b hb).trans e) fC.1 fC.2.1 fC.2.2.2.1 fC.2.2.2.2.1 fC.2.2.2.2.2
theorem mP{i:Nat}{x:Str}{pos' lW:Pos}(hc:X.calm=true)(hN:X.N.Nodup)(hx:X.N[i]? =some x)(uu:X.env.scope.names.lookup x=some .local)(C:bN X scope own kp kn)(hi:PI X tg iter wi)
 (hg:∀fp s H,PG (aV X scope (own++kn) fp s H) tg g) (ur:∀fp s H,nM (aV X scope (own++kn) fp s H) ifs tc)
 (he:∀fp s H,PE (aV X scope (own++kn) fp s H) elt te)
 (rO:swapsWith (.ListComp elt [⟨tg,iter,ifs,0⟩] scope pos) (some (.Name x pos')) lW.line X.env=pure true:=by rfl)
 (hs:∀x,foldedSetIterable iter X.env x=pure x:=by intro _;rfl) :
 PS X (.Assign [.Name x pos'] (.ListComp elt [⟨tg,iter,ifs,0⟩] scope pos) lW) (zy (zc wi g tc te own kp) (qO i)):=by
 intro pins s σ H D I h;rw[exec_Assign_Name_used _ _ _ _ rO];refine wpAny_bind (wpAny_standAt (wpAny_bind ?_));show wpAny _ X.A (do let _ <-comprehension (.ListComp elt [⟨tg,iter,ifs,0⟩] scope pos) scope X.env _ (newList []) false (eval iter X.env) (some (assign (.Name x pos') X.env))) _ _ s
 refine wpAny_bind (wpAny_mono (wpAny_comprehension_free (use:=some (assign (.Name x pos') X.env)) (Q:=fun _ s'=>SP X pins D .next s') rfl hs (kN (m3 C I)) C.kind C.nd
  (cO (hi pins s σ H _ I h) fun v s1 h1=>cO h1 fun ME s2 h2=>?_)) (fun _ s' hq=>wpAny_pure (wpAny_pure hq)) fun _ _ e=>e)
 obtain⟨it,fp,tn,J,H2,e,I2,T,JV,f2,q⟩:=h2;subst e;refine wpAny_newObj_type ?_;have I3:Inv X pins σ (upd H2 s2.heap.objs.size (.lst [])) {s2 with heap:=s2.heap.push {cls:= .type "list",dict:=none,data:= .seq ([]:List Value).toArray}}:=I2.II (its:=[]) (t':=s2.toks) .nil (Nat.zero_le _)
 obtain⟨W,w0,turn⟩:=q s2.heap.objs.size I2.fresh;have fne:∀b∈fp,b < s2.heap.objs.size:=fun b hb=>let⟨o,e,_⟩:=T.obj _ _ JV b hb;Heap.lt_size e
 have f3:∀b∈fp,pF X pins (upd H2 s2.heap.objs.size (.lst [])) b:=fun b hb=>⟨by rw[a_ (Nat.ne_of_lt (fne b hb))];exact(f2 b hb).1,(f2 b hb).2⟩
 generalize hs3:({s2 with heap:=s2.heap.push {cls:= .type "list",dict:=none,data:= .seq ([]:List Value).toArray}}:Shared)=s3 at I3 ⊢
 have F6:tn 0 s3.heap:=by rw[<-hs3];exact T.keep _ _ _ JV fun b _ o e=>Heap.get?_push_of_some _ e
 have fne3:∀b∈fp,b < s3.heap.objs.size:=fun b hb=>by rw[<-hs3];exact Nat.lt_of_lt_of_le (fne b hb) (by rw[Heap.size_push];exact Nat.le_succ _)
 refine so fun kR x9 hk hC=>?_
 refine vp (Q:=fun x H1=>qO i x σ H1 D.nx) (D:=s2.heap.objs.size) hc C I3 f3 fne3 T (hg fp s3 _) (ur fp s3 _) (he fp s3 _) x9 hk hC F6 W w0 turn fun H' s' cB J' hq=>?_
 have B:=qm I3 f3 J';obtain⟨m',JR,_⟩:=J'.loc;have fC:=I3.wX (H':=H') (b:=s3.heap.objs.size) (Nat.le_refl _) J'.free;show wpAny _ X.A (assign (.Name x pos') X.env (.ref s2.heap.objs.size)) _ _ s';refine wpAny_assign_Name (rQ B hN hx (.inl uu) (v:= .ref s2.heap.objs.size) rfl (fun s4 I4 ⟨a,sb,ha⟩=>?_) (.inr uu))
 have ha':s3.heap.objs.size≠a:=by
  rcases ha with rfl | z
  .exact fC.2.1
  .exact fun e=>fC.2.2.2.2.1 x a z e.symm
 refine⟨m',JR.sameBut sb ha',fun h' Ul=>⟨_,H',?_,hq⟩⟩
 exact I4.turned (it:=s3.heap.objs.size) (t':=s4.toks) (fun b o hb e=>(Ul.2 b hb).trans e) fC.1 fC.2.1 fC.2.2.2.1 fC.2.2.2.2.1 fC.2.2.2.2.2
end
end L2
end
section
namespace L2
open PySem PySem.Spec PyProof.Rows
inductive D where
 | cH | bl (b:Bool) | int (i:Int) | str (x:Str) | lst (ds:List D) | tup (ds:List D) | dct (ks:List Key) (ds:List D)
inductive R (α:Type) where
 | ok (a:α) | ex (c:Nat) | no
def R.bind{α β:Type}:R α->(α->R β)->R β
 | .ok a,f=>f a
 | .ex c,_=> .ex c
 | .no,_=> .no
theorem R.ah{α β:Type}{r:R α}{f:α->R β}{b:β}(h:r.bind f= .ok b):∃a,r= .ok a/\f a= .ok b:=by
 cases r with
 | ok a=>exact⟨a,rfl,h⟩
 | ex c=>cases h
 | no=>cases h
@[simp] theorem R.aI{α β:Type}(a:α)(f:α->R β):(R.ok a).bind f=f a:=rfl
def R.aS{α:Type}(c:Bool)(r:R α):R α:=if c then r else .no
theorem R.aO{α:Type}{c:Bool}{r:R α}{a:α}(h:R.aS c r= .ok a):c=true/\r= .ok a:=by
 cases c with
 | true=>exact⟨rfl,h⟩
 | false=>cases h
@[simp] theorem R.J3{α:Type}(r:R α):R.aS true r=r:=rfl
def uD(K:W.Frag)(B:List Addr)(H:Hp)(a:Addr)(xs:List V):Prop:=
 (a ∉ B/\Rd H a (.lst xs))\/∃(its:List Value) (n:Nat),K.lookup a=some {cls:= .type "list",data:= .seq its.toArray n}/\xs.length<=sizeLine/\Vals xs its
def wM(K:W.Frag)(B:List Addr)(H:Hp)(a:Addr)(xs:List V):Prop:=
 (a ∉ B/\Rd H a (.tup xs))\/∃(o:Obj) (its:Array Value) (n:Nat),K.lookup a=some o/\o.cls= .type "tuple"/\o.data= .seq its n/\its.size<=sizeLine/\Vals xs its.toList
theorem uD.sq{K:W.Frag}{B:List Addr}{a:Addr}{xs:List V}(h:uD K B H a xs):me K H a xs:=by
 rcases h with z | ⟨its,n,hk,hz,r⟩
 .exact .inl z.2
 .exact .inr ⟨_,its.toArray,n,hk,rfl,rfl,rfl,by rw[List.size_toArray,<-r.length];exact hz,by simpa using r⟩
theorem wM.sq{K:W.Frag}{B:List Addr}{a:Addr}{xs:List V}(h:wM K B H a xs):oz K H a xs:=h.elim (fun z=> .inl z.2) .inr
mutual
def Rep(K:W.Frag)(B:List Addr)(H:Hp):D->V->Prop
 | .cH,v=>v= .cH
 | .bl b,v=>v= .bl b
 | .int i,v=>v= .int i
 | .str x,v=>v= .str x
 | .lst ds,v=>∃a xs,v= .ref a/\uD K B H a xs/\aD K B H ds xs
 | .tup ds,v=>∃a xs,v= .ref a/\wM K B H a xs/\aD K B H ds xs
 | .dct ks ds,v=>∃(a:Addr) (aA:List (Key × V)),v= .ref a/\(a ∉ B/\H a=some (.dK aA))/\aA.map (·.1)=ks/\aD K B H ds (aA.map (·.2))
def aD(K:W.Frag)(B:List Addr)(H:Hp):List D->List V->Prop
 | [],xs=>xs=[]
 | d ::ds,xs=>∃x r,xs=x ::r/\Rep K B H d x/\aD K B H ds r
end
def dt(B:List Addr)(H:Hp)(B':List Addr)(H':Hp):Prop:=∀b o,H b=some o->b ∉ B->H' b=some o/\b ∉ B'
theorem dt.rd{B B':List Addr}(p:dt B H B' H'){a:Addr}{u:HO}(h:Rd H a u)(n:a ∉ B):Rd H' a u/\a ∉ B':=by
 rcases h with e | ⟨o,e⟩
 .exact⟨.inl (p a _ e n).1,(p a _ e n).2⟩
 .exact⟨.inr ⟨o,(p a _ e n).1⟩,(p a _ e n).2⟩
theorem dt.trans{B B' LW:List Addr}(p:dt B H B' H')(q:dt B' H' LW mO):dt B H LW mO:=fun b o e n=>
 let⟨e1,n1⟩:=p b o e n;q b o e1 n1
theorem dt.same{B:List Addr}(s:aM H H'):dt B H B H':=fun b o e n=>⟨s b o e,n⟩
theorem dt.refl(B:List Addr)(H:Hp):dt B H B H:=dt.same (aM.refl H)
theorem uD.ba{K:W.Frag}{B B':List Addr}(p:dt B H B' H'){a:Addr}{xs:List V}(l:uD K B H a xs):uD K B' H' a xs:=
 l.elim (fun z=> .inl ⟨(p.rd z.2 z.1).2,(p.rd z.2 z.1).1⟩) .inr
mutual
theorem Rep.ba{K:W.Frag}{B B':List Addr}(p:dt B H B' H'):∀{d:D} {v:V},Rep K B H d v->Rep K B' H' d v
 | .cH,_,h=>h
 | .bl _,_,h=>h
 | .int _,_,h=>h
 | .str _,_,h=>h
 | .lst ds,v,h=>by
   unfold Rep at h ⊢;obtain⟨a,xs,e,l,r⟩:=h;exact⟨a,xs,e,l.ba p,aD.ba p r⟩
 | .tup ds,v,h=>by
   unfold Rep at h ⊢;obtain⟨a,xs,e,l,r⟩:=h;exact⟨a,xs,e,l.elim (fun z=> .inl ⟨(p.rd z.2 z.1).2,(p.rd z.2 z.1).1⟩) .inr,aD.ba p r⟩
 | .dct ks ds,v,h=>by
   unfold Rep at h ⊢;obtain⟨a,aA,e,⟨n,l⟩,k,r⟩:=h;exact⟨a,aA,e,⟨(p a _ l n).2,(p a _ l n).1⟩,k,aD.ba p r⟩
theorem aD.ba{K:W.Frag}{B B':List Addr}(p:dt B H B' H'):∀{ds:List D} {xs:List V},aD K B H ds xs->aD K B' H' ds xs
 | [],_,h=>h
 | d ::ds,xs,h=>by
   unfold aD at h ⊢;obtain⟨x,r,e,h1,h2⟩:=h;exact⟨x,r,e,Rep.ba p h1,aD.ba p h2⟩
end
theorem Rep.same{K:W.Frag}{B:List Addr}{d:D}{v:V}(h:Rep K B H d v)(s:aM H H'):Rep K B H' d v:=h.ba (dt.same s)
theorem aD.same{K:W.Frag}{B:List Addr}{d:List D}{v:List V}(h:aD K B H d v)(s:aM H H'):aD K B H' d v:=h.ba (dt.same s)
theorem aD.nil{K:W.Frag}{B:List Addr}:aD K B H [] []:=by unfold aD;rfl
theorem aD.cons{K:W.Frag}{B:List Addr}{d:D}{ds:List D}{x:V}{xs:List V}(h:Rep K B H d x)(t:aD K B H ds xs):aD K B H (d ::ds) (x ::xs):=by
 unfold aD;exact⟨x,xs,rfl,h,t⟩
theorem aD.b5{K:W.Frag}{B:List Addr}{d:D}{ds:List D}{xs:List V}(h:aD K B H (d ::ds) xs):∃x r,xs=x ::r/\Rep K B H d x/\aD K B H ds r:=by
 unfold aD at h;exact h
theorem aD.length{K:W.Frag}{B:List Addr}:∀{ds:List D} {xs:List V},aD K B H ds xs->ds.length=xs.length
 | [],_,h=>by unfold aD at h;rw [h];rfl
 | d ::ds,xs,h=>by
   obtain⟨x,r,rfl,_,h2⟩:=h.b5;simp [h2.length]
theorem aD.get{K:W.Frag}{B:List Addr}:∀{ds:List D} {xs:List V} {i:Nat} {d:D},aD K B H ds xs->ds[i]? =some d->∃x,xs[i]? =some x/\Rep K B H d x
 | [],_,_,_,_,e=>by simp at e
 | d ::ds,xs,0,d',h,e=>by
   obtain⟨x,r,rfl,h1,h2⟩:=h.b5;simp at e;subst e;exact⟨x,rfl,h1⟩
 | d ::ds,xs,i+1,d',h,e=>by
   obtain⟨x,r,rfl,h1,h2⟩:=h.b5;obtain⟨y,e1,e2⟩:=aD.get (i:=i) h2 (by simpa using e)
   exact⟨y,by simpa using e1,e2⟩
theorem aD.append{K:W.Frag}{B:List Addr}:∀{ds es:List D} {xs ys:List V},aD K B H ds xs->aD K B H es ys->aD K B H (ds++es) (xs++ys)
 | [],_,_,_,h,t=>by unfold aD at h;subst h;exact t
 | d ::ds,es,xs,ys,h,t=>by
   obtain⟨x,r,rfl,h1,h2⟩:=h.b5;exact aD.cons h1 (aD.append h2 t)
theorem aD.drop{K:W.Frag}{B:List Addr}:∀{ds:List D} {xs:List V} (n:Nat),aD K B H ds xs->aD K B H (ds.drop n) (xs.drop n)
 | _,_,0,h=>h
 | [],_,n+1,h=>by unfold aD at h;subst h;exact aD.nil
 | d ::ds,xs,n+1,h=>by
   obtain⟨x,r,rfl,h1,h2⟩:=h.b5;exact aD.drop n h2
theorem aD.take{K:W.Frag}{B:List Addr}:∀{ds:List D} {xs:List V} (n:Nat),aD K B H ds xs->aD K B H (ds.take n) (xs.take n)
 | _,_,0,h=>aD.nil
 | [],_,n+1,h=>by unfold aD at h;subst h;exact aD.nil
 | d ::ds,xs,n+1,h=>by
   obtain⟨x,r,rfl,h1,h2⟩:=h.b5;exact aD.cons h1 (aD.take n h2)
def D.atom:D->Bool
 | .cH=>true | .bl _=>true | .int _=>true | .str _=>true | _=>false
theorem Rep.atom{K:W.Frag}{B B':List Addr}{d:D}{v:V}(a:d.atom=true)(h:Rep K B H d v):Rep K B' H' d v:=by
 cases d <;> first | exact h | cases a
inductive Sl where
 | un | val (d:D) | bld (ds:List D)
abbrev ao:=List Sl
structure dr (K:W.Frag) (Z B:List Addr) (H:Hp) (σ:St) (δ:ao):Prop where
 len:δ.length=σ.length
 bs:∀a∈B,∃o,H a=some o
 zb:∀a∈Z,a∈B
 val:∀(i:Nat) (d:D),δ[i]? =some (.val d)->∃v,σ[i]? =some (some v)/\Rep K B H d v
 bld:∀(i:Nat) (ds:List D),δ[i]? =some (.bld ds)->∃a xs,σ[i]? =some (some (.ref a))/\a∈B/\a ∉ Z/\H a=some (.lst xs)/\aD K B H ds xs
 dis:∀(i j:Nat) (a:Addr) (ds es:List D),δ[i]? =some (.bld ds)->δ[j]? =some (.bld es)->σ[i]? =some (some (.ref a))->σ[j]? =some (some (.ref a))->i=j
theorem dr.same{K:W.Frag}{Z B:List Addr}{δ:ao}(E:dr K Z B H σ δ)(s:aM H H'):dr K Z B H' σ δ where
 len:=E.len
 bs:=fun a ha=>let⟨o,e⟩:=E.bs a ha;⟨o,s a o e⟩
 zb:=E.zb
 val:=fun i d e=>let⟨v,h1,h2⟩:=E.val i d e;⟨v,h1,h2.same s⟩
 bld:=fun i ds e=>let⟨a,xs,h1,h2,h3,h4,h5⟩:=E.bld i ds e;⟨a,xs,h1,h2,h3,s a _ h4,h5.same s⟩
 dis:=E.dis
def mr(δ:ao):ao:=δ.map fun x=>match x with | .bld ds=> .val (.lst ds) | y=>y
theorem dr.mr{K:W.Frag}{Z B:List Addr}{δ:ao}(E:dr K Z B H σ δ):dr K [] [] H σ (mr δ) where
 len:=by unfold L2.mr;rw [List.length_map];exact E.len
 bs:=fun a ha=>by cases ha
 zb:=fun a ha=>by cases ha
 val:=fun i d e=>by
  unfold L2.mr at e;rw[List.getElem?_map] at e;have p:dt B H [] H:=fun b o e _=>⟨e,by simp⟩
  cases q:δ[i]? with
  | none=>rw [q] at e;cases e
  | some x=>
    rw[q] at e;cases x with
    | un=>cases e
    | val d'=>cases e;obtain⟨v,h1,h2⟩:=E.val i d q;exact⟨v,h1,h2.ba p⟩
    | bld ds=>
      cases e;obtain⟨a,xs,h1,_,_,h4,h5⟩:=E.bld i ds q;refine⟨.ref a,h1,?_⟩;unfold Rep;exact⟨a,xs,rfl, .inl ⟨by simp, .inl h4⟩,h5.ba p⟩
 bld:=fun i ds e=>by
  unfold L2.mr at e;rw[List.getElem?_map] at e;cases q:δ[i]? with
  | none=>rw [q] at e;cases e
  | some x=>rw [q] at e;cases x <;> cases e
 dis:=fun i j a ds es e=>by
  unfold L2.mr at e;rw[List.getElem?_map] at e;cases q:δ[i]? with
  | none=>rw [q] at e;cases e
  | some x=>rw [q] at e;cases x <;> cases e
theorem PE.imp{X:Cx}{t t':TE}(h:PE X e t)(w:∀σ H Q,t' σ H Q->t σ H Q):PE X e t':=fun pins s σ H Q I hq=>h pins s σ H Q I (w σ H Q hq)
theorem PT.imp{X:Cx}{t t':TT}(h:PT X e t)(w:∀σ H Q,t' σ H Q->t σ H Q):PT X e t':=fun pins s σ H Q I hq=>h pins s σ H Q I (w σ H Q hq)
theorem PA.imp{X:Cx}{t t':TA}(h:PA X e t)(w:∀σ H Q,t' σ H Q->t σ H Q):PA X e t':=fun pos pins s σ H Q I hq=>h pos pins s σ H Q I (w σ H Q hq)
theorem PS.imp{X:Cx}{t t':TS}(h:PS X e t)(w:∀D σ H,t' D σ H->t D σ H):PS X e t':=fun pins s σ H D I hq=>h pins s σ H D I (w D σ H hq)
theorem sQ.imp{X:Cx}{t t':TS}(h:sQ X e t)(w:∀D σ H,t' D σ H->t D σ H):sQ X e t':=fun pins s σ H D I hq=>h pins s σ H D I (w D σ H hq)
theorem PG.imp{X:Cx}{t t':TG}(h:PG X e t)(w:∀v σ H Q,t' v σ H Q->t v σ H Q):PG X e t':=fun pins s σ H v u Q I r hq=>h pins s σ H v u Q I r (w v σ H Q hq)
theorem PI.imp{X:Cx}{t t':TI}(h:PI X tg e t)(w:∀σ H Q,t' σ H Q->t σ H Q):PI X tg e t':=fun pins s σ H Q I hq=>h pins s σ H Q I (w σ H Q hq)
abbrev FD:=ao->R D
def tD(K:W.Frag)(f:FD):TE:=fun σ H Q=>∃Z B δ d,dr K Z B H σ δ/\f δ= .ok d/\∀v H',aM H H'->Rep K B H' d v->Q v H'
def tN(K:W.Frag)(f:ao->R (List D)):TE:=fun σ H Q=>∃Z B δ ds,dr K Z B H σ δ/\f δ= .ok ds/\∀a xs H',aM H H'->H a=none->H' a=some (.lst xs)->aD K (a ::B) H' ds xs->Q (.ref a) H'
def DX(K:W.Frag)(f:ao->R Bool):TT:=fun σ H Q=>∃Z B δ b,dr K Z B H σ δ/\f δ= .ok b/\∀H',aM H H'->Q b H'
def QI(K:W.Frag)(f:ao->R (List D)):TA:=fun σ H Q=>∃Z B δ ds,dr K Z B H σ δ/\f δ= .ok ds/\∀vs H',aM H H'->aD K B H' ds vs->Q vs H'
abbrev PD(X:Cx)(e:Expr)(f:FD):Prop:=PE X e (tD X.K f)
abbrev PN(X:Cx)(e:Expr)(f:ao->R (List D)):Prop:=PE X e (tN X.K f)
abbrev PB(X:Cx)(e:Expr)(f:ao->R Bool):Prop:=PT X e (DX X.K f)
abbrev AK(X:Cx)(es:List Expr)(f:ao->R (List D)):Prop:=PA X es (QI X.K f)
section
variable {X:Cx}
def eNew(f:ao->R (List D)):FD:=fun δ=>(f δ).bind fun ds=> .ok (.lst ds)
theorem Ht{f:ao->R (List D)}(h:PN X e f):PD X e (eNew f):=h.imp fun σ H Q ⟨Z,B,δ,d,E,hf,q⟩=>by
 obtain⟨ds,h1,h2⟩:=R.ah hf;cases h2;refine⟨Z,B,δ,ds,E,h1,fun a xs H' s n e r=>q _ H' s ?_⟩
 unfold Rep;refine⟨a,xs,rfl, .inl ⟨fun ha=>?_, .inl e⟩,r.ba fun b o e nb=>⟨e,fun hb=>nb (List.mem_cons_of_mem _ hb)⟩⟩
 obtain⟨o,ho⟩:=E.bs a ha;rw[n] at ho;cases ho
theorem vt{B:List Addr}{H:Hp}{p:Addr}{o:HO}(h:H p=none):dt B H (p ::B) (upd H p o):=fun b u e nb=>
 ⟨by rw[a_ (b8 e h)];exact e,fun hb=>by
   rcases List.mem_cons.mp hb with z | z
   .exact b8 e h z
   .exact nb z⟩
def lr(f:FD):FD:=fun δ=>(f (mr δ)).bind fun d=>R.aS d.atom (.ok d)
theorem Eb(h:PD X e f):PD X e (lr f):=h.imp fun σ H Q ⟨Z,B,δ,d,E,hf,q⟩=>by
 obtain⟨d',h1,h2⟩:=R.ah hf;obtain⟨ha,h3⟩:=R.aO h2;cases h3;exact⟨[],[],L2.mr δ,d,E.mr,h1,fun v H' s r=>q v H' s (r.atom ha)⟩
def mG(f:ao->R Bool):ao->R Bool:=fun δ=>f (mr δ)
theorem ER{f:ao->R Bool}(h:PB X e f):PB X e (mG f):=h.imp fun σ H Q ⟨Z,B,δ,d,E,hf,q⟩=>⟨[],[],L2.mr δ,d,E.mr,hf,q⟩
def af(i:Nat):FD:=fun δ=>match δ[i]? with | some (.val d)=> .ok d | _=> .no
def eC(d:D):FD:=fun _=> .ok d
theorem ID(i:Nat){x:Str}{pos:Pos}(hN:X.N[i]? =some x:=by rfl)(hv:HX X.env.scope x:=by first | exact Or.inl rfl | exact Or.inr (Or.inl rfl) | exact Or.inr (Or.inr rfl))(hd:(x==("__debug__":Str))=false:=by decide)
 (rM:(x==("__classdict__":Str))=false:=by decide):PD X (.Name x pos) (af i):=(xh hN hv hd rM).imp fun σ H Q ⟨Z,B,δ,d,E,hf,q⟩=>by
 unfold af at hf;split at hf
 .rename_i d' e;cases hf;obtain⟨v,h1,h2⟩:=E.val i d e;exact⟨v,h1,q v H (aM.refl H) h2⟩
 .cases hf
theorem n8{v:V}{d:D}(h:PE X e (tC v))(r:∀B H,Rep X.K B H d v):PD X e (eC d):=h.imp fun σ H Q ⟨Z,B,δ,d',E,hf,q⟩=>by
 cases hf;exact q v H (aM.refl H) (r B H)
theorem Hg{i j pos}:PD X (.Constant (.int i) j pos) (eC (.int i)):=n8 qM fun _ _=>by unfold Rep;rfl
theorem Lr{b j pos}:PD X (.Constant (.bool b) j pos) (eC (.bl b)):=n8 K8 fun _ _=>by unfold Rep;rfl
theorem IZ{x j pos}:PD X (.Constant (.str x) j pos) (eC (.str x)):=n8 qJ fun _ _=>by unfold Rep;rfl
def Glob(K:W.Frag)(mg:Wa)(x:Str)(d:D):Prop:=∃(u:Value) (v:V),mg x=some u/\RelV v u/\∀B H,Rep K B H d v
theorem EV{d:D}{pos:Pos}(g:Glob X.K X.mg x d)(hg:Gl X x)(hd:(x==("__debug__":Str))=false:=by decide):PD X (.Name x pos) (eC d):=by
 obtain⟨u,v,hm,r,h⟩:=g;exact n8 (y_ hg hm r hd) h
def aJ:ao->R (List D):=fun _=> .ok []
def ai(f:FD)(g:ao->R (List D)):ao->R (List D):=fun δ=>(f δ).bind fun d=>(g δ).bind fun ds=> .ok (d ::ds)
theorem El:AK X [] aJ:=kl.imp fun σ H Q ⟨Z,B,δ,d,E,hf,q⟩=>by
 cases hf;exact q [] H (aM.refl H) aD.nil
theorem CW{g:ao->R (List D)}(h:PD X e f)(t:AK X es g)(hs:starEach (e ::es) X.env=(false,eval e X.env) ::starEach es X.env:=by rfl):AK X (e ::es) (ai f g):=
 (ik h t hs).imp fun σ H Q ⟨Z,B,δ,d,E,hf,q⟩=>by
   obtain⟨d1,h1,h2⟩:=R.ah hf;obtain⟨ds,h3,h4⟩:=R.ah h2;cases h4;exact⟨Z,B,δ,d1,E,h1,fun v H1 s1 r1=>⟨Z,B,δ,ds,E.same s1,h3,fun vs H2 s2 r2=>q _ H2 (s1.trans s2) (aD.cons (r1.same s2) r2)⟩⟩
def jA(g:ao->R (List D)):FD:=fun δ=>(g δ).bind fun ds=>R.aS (decide (ds.length<=sizeLine)) (.ok (.tup ds))
def eO(g:ao->R (List D)):ao->R (List D):=fun δ=>(g δ).bind fun ds=>R.aS (decide (ds.length<=sizeLine)) (.ok ds)
theorem br{H:Hp}{p:Addr}{o:HO}(h:H p=none):aM H (upd H p o):=fun b u e=>by rw[a_ (b8 e h)];exact e
theorem IV{g:ao->R (List D)}{x1 pos}(h:AK X es g):PD X (.Tuple es x1 pos) (jA g):=(wV h).imp fun σ H Q ⟨Z,B,δ,d,E,hf,q⟩=>by
 obtain⟨ds,h1,h2⟩:=R.ah hf;obtain⟨hl,h3⟩:=R.aO h2;cases h3;refine⟨Z,B,δ,ds,E,h1,fun vs H1 s1 r1=>⟨by rw[<-r1.length];exact of_decide_eq_true hl,fun p hp=>q _ _ (s1.trans (br hp)) ?_⟩⟩
 unfold Rep;refine⟨p,vs,rfl, .inl ⟨fun ha=>?_, .inl aY⟩,r1.same (br hp)⟩
 obtain⟨o,ho⟩:=(E.same s1).bs p ha;rw[hp] at ho;cases ho
theorem Jo{g:ao->R (List D)}{pos}(h:AK X es g):PN X (.List es pos) (eO g):=(Ib h).imp fun σ H Q ⟨Z,B,δ,d,E,hf,q⟩=>by
 obtain⟨ds,h1,h2⟩:=R.ah hf;obtain⟨hl,h3⟩:=R.aO h2;cases h3;exact⟨Z,B,δ,_,E,h1,fun vs H1 s1 r1=>⟨by rw[<-r1.length];exact of_decide_eq_true hl,fun p hp=>q p vs _ (s1.trans (br hp)) (s1.free hp) aY (r1.ba (vt hp))⟩⟩
def mm(X:Cx)(f:Value->Value->Sem Value)(g:D->D->R D):Prop:=
 ∀(pins:V6) (s:Shared) (σ:St) (H:Hp) (B:List Addr) (da db d:D) (x y:V) (v u:Value),Inv X pins σ H s->(∀a∈B,∃o,H a=some o)->RelV x v->RelV y u->Rep X.K B H da x->Rep X.K B H db y->g da db= .ok d->
  wpAny (model X.prog X.w) X.A (f v u) (EP X pins σ fun z H'=>aM H H'/\Rep X.K B H' d z) X.xe s
def e2(g:D->D->R D)(fa fb:FD):FD:=fun δ=>(fa δ).bind fun a=>(fb δ).bind fun b=>g a b
theorem mm.r{f:Value->Value->Sem Value}{g:D->D->R D}(h:mm X f g):my X f (fun x y H Q=>∃B da db d,(∀a∈B,∃o,H a=some o)/\Rep X.K B H da x/\Rep X.K B H db y/\g da db= .ok d/\∀z H',aM H H'->Rep X.K B H' d z->Q z H'):=by
 intro pins s σ H x y v u Q I rx ry ⟨B,da,db,d,hb,ha,qa,hg,q⟩;exact cO (h pins s σ H B da db d x y v u I hb rx ry ha qa hg) fun z s' ⟨zv,H',I',r',s1,r1⟩=>⟨zv,H',I',r',q zv H' s1 r1⟩
theorem Ih{K:W.Frag}{g:D->D->R D}{Q:VK}(h:tD K (e2 g fa fb) σ H Q) :
 J8 (fun x y H Q=>∃B da db d,(∀a∈B,∃o,H a=some o)/\Rep K B H da x/\Rep K B H db y/\g da db= .ok d/\∀z H',aM H H'->Rep K B H' d z->Q z H') (tD K fa) (tD K fb) σ H Q:=by
 obtain⟨Z,B,δ,d,E,hf,q⟩:=h;obtain⟨d1,h1,h2⟩:=R.ah hf;obtain⟨d2,h3,h4⟩:=R.ah h2;exact⟨Z,B,δ,d1,E,h1,fun v1 H1 s1 r1=>⟨Z,B,δ,d2,E.same s1,h3,fun v2 H2 s2 r2=>⟨B,d1,d2,d,(E.same (s1.trans s2)).bs,r1.same s2,r2,h4,fun z H' s3 r3=>q z H' (s1.trans (s2.trans s3)) r3⟩⟩⟩
theorem KU{op:Operator}{g:D->D->R D}(ho:mm X (binaryOp op) g)(ha:PD X a fa)(hb:PD X b fb):PD X (.BinOp a op b pos) (e2 g fa fb):=
 (Ku ho.r ha hb).imp fun σ H Q h=>Ih h
theorem Jk{op:CmpOp}{g:D->D->R D}(ho:mm X (compareOp op) g)(ha:PD X a fa)(hb:PD X b fb)(hm:behindInMarks op b=false):PD X (.Compare a [op] [b] pos) (e2 g fa fb):=
 (Es ho.r ha hb hm).imp fun σ H Q h=>Ih h
def b2(g:D->D->R D)(fa fb:FD):ao->R Bool:=fun δ=>(e2 g fa fb δ).bind fun d=>match d with | .bl b=> .ok b | _=> .no
theorem Hl{op:CmpOp}{g:D->D->R D}(ho:mm X (compareOp op) g)(ha:PD X a fa)(hb:PD X b fb)(hm:behindInMarks op b=false):PB X (.Compare a [op] [b] pos) (b2 g fa fb):=
 (y4 ho.r ha hb hm).imp fun σ H Q ⟨Z,B,δ,b,E,hf,q⟩=>by
   obtain⟨d,h1,h2⟩:=R.ah hf;cases d with
   | bl k=>
     cases h2;exact Ih (g:=g) (Q:=fun x H'=>∃k,x= .bl k/\Q k H') ⟨Z,B,δ, .bl b,E,h1,fun v H' s r=>⟨b,by unfold Rep at r;exact r,q H' s⟩⟩
   | _=>cases h2
def Nd(g g':D->D->R D)(fa fb fc:FD):FD:=fun δ=>(fa δ).bind fun a=>(fb δ).bind fun b=>(g a b).bind fun r=>match r with
 | .bl true=>(fc δ).bind fun c=>g' b c
 | .bl false=> .ok (.bl false)
 | _=> .no
def I0:D->R Bool
 | .cH=> .ok false
 | .bl b=> .ok b
 | .int i=> .ok (i !=0)
 | .str x=>R.aS (decide (x.length<=sizeLine)) (.ok ((x.length:Int) !=0))
 | .lst ds=> .ok (!ds.isEmpty)
 | .tup ds=> .ok (!ds.isEmpty)
 | .dct _ _=> .no
def sW(f:FD):ao->R Bool:=fun δ=>(f δ).bind I0
theorem aD.isEmpty{K:W.Frag}{B:List Addr}{ds:List D}{xs:List V}(h:aD K B H ds xs):ds.isEmpty=xs.isEmpty:=by
 have:=h.length;cases ds <;> cases xs <;> simp_all
theorem HH{K:W.Frag}{B:List Addr}{d:D}{v:V}{b:Bool}(r:Rep K B H d v)(h:I0 d= .ok b):Jx K v H b:=by
 cases d with
 | cH=>unfold Rep at r;subst r;cases h;exact rfl
 | bl k=>unfold Rep at r;subst r;cases h;exact rfl
 | int i=>unfold Rep at r;subst r;cases h;exact rfl
 | str x=>unfold Rep at r;subst r;obtain⟨h1,h2⟩:=R.aO h;cases h2;exact⟨of_decide_eq_true h1,rfl⟩
 | lst ds=>unfold Rep at r;obtain⟨a,xs,rfl,l,r⟩:=r;cases h;exact .inl ⟨xs,l.sq,by rw[r.isEmpty]⟩
 | tup ds=>unfold Rep at r;obtain⟨a,xs,rfl,l,r⟩:=r;cases h;exact .inr (.inl ⟨xs,l.sq,by rw[r.isEmpty]⟩)
 | dct _ _=>cases h
theorem G4{a:Expr}(ha:PD X a f)(he:∀whole,isTrue a X.env whole=(do let v <-whole;standAt a.pos;holding [v] (truthy v)):=by intro _;rfl):PB X a (sW f):=
 (uP ha he).imp fun σ H Q ⟨Z,B,δ,b,E,hf,q⟩=>by
   obtain⟨d,h1,h2⟩:=R.ah hf;exact⟨Z,B,δ,d,E,h1,fun v H' s r=>⟨b,HH r h2,q H' s⟩⟩
def tf(f g:ao->R Bool):ao->R Bool:=fun δ=>(f δ).bind fun b=>if b then g δ else .ok false
def zp(f g:ao->R Bool):ao->R Bool:=fun δ=>(f δ).bind fun b=>if b then .ok true else g δ
def Ax(f:ao->R Bool):ao->R Bool:=fun δ=>(f δ).bind fun b=> .ok (!b)
def DL(X:Cx)(e:Expr)(f:ao->R Bool):Prop:=PW X e (DX X.K f)
theorem DL.pb{f:ao->R Bool}(h:DL X e f):PB X e f:=PW.pt h
theorem Bh{f:ao->R Bool}(h:PB X a f):DL X (.BoolOp .And [a] pos) f:=Et h
theorem DU{f:ao->R Bool}(h:PB X a f):DL X (.BoolOp .Or [a] pos) f:=AW h
theorem Ee{rest:List Expr}{f g:ao->R Bool}(ha:PB X a f)(hb:DL X (.BoolOp .And (b ::rest) pos) g):DL X (.BoolOp .And (a ::b ::rest) pos) (tf f g):=by
 intro wh pins s σ H Q I ⟨Z,B,δ,k,E,hf,q⟩;refine Ju ha hb wh pins s σ H Q I ?_;obtain⟨c,h1,h2⟩:=R.ah hf;refine⟨Z,B,δ,c,E,h1,fun H1 s1=>?_⟩
 cases c with
 | true=>rw [if_pos rfl] at h2 ⊢;exact⟨Z,B,δ,k,E.same s1,h2,fun H' s2=>q H' (s1.trans s2)⟩
 | false=>rw [if_neg (by decide)] at h2 ⊢;cases h2;exact q H1 s1
theorem HA{rest:List Expr}{f g:ao->R Bool}(ha:PB X a f)(hb:DL X (.BoolOp .Or (b ::rest) pos) g):DL X (.BoolOp .Or (a ::b ::rest) pos) (zp f g):=by
 intro wh pins s σ H Q I ⟨Z,B,δ,k,E,hf,q⟩;refine GK ha hb wh pins s σ H Q I ?_;obtain⟨c,h1,h2⟩:=R.ah hf;refine⟨Z,B,δ,c,E,h1,fun H1 s1=>?_⟩
 cases c with
 | true=>rw [if_pos rfl] at h2 ⊢;cases h2;exact q H1 s1
 | false=>rw [if_neg (by decide)] at h2 ⊢;exact⟨Z,B,δ,k,E.same s1,h2,fun H' s2=>q H' (s1.trans s2)⟩
theorem Hw{f:ao->R Bool}(ha:PB X a f):PB X (.UnaryOp .Not a pos) (Ax f):=(Dk ha).imp fun σ H Q ⟨Z,B,δ,k,E,hf,q⟩=>by
 obtain⟨c,h1,h2⟩:=R.ah hf;cases h2;exact⟨Z,B,δ,c,E,h1,fun H1 s1=>q H1 s1⟩
def J5(f:FD):ao->R Bool:=fun δ=>(f δ).bind fun d=>match d with | .bl b=> .ok b | _=> .no
def rJ(f g:FD):FD:=fun δ=>(J5 f δ).bind fun b=>if b then g δ else .ok (.bl false)
def KW(f g:FD):FD:=fun δ=>(J5 f δ).bind fun b=>if b then .ok (.bl true) else g δ
def HS(f:FD):FD:=fun δ=>(J5 f δ).bind fun b=> .ok (.bl (!b))
theorem xM{f:FD}{δ:ao}{b:Bool}(h:J5 f δ= .ok b):f δ= .ok (.bl b):=by
 obtain⟨d,h1,h2⟩:=R.ah h;cases d with
 | bl k=>cases h2;exact h1
 | _=>cases h2
theorem IX{op}(h:PD X a f):PD X (.BoolOp op [a] pos) f:=Iu h
theorem JC{rest:List Expr}(ha:PD X a f)(hb:PD X (.BoolOp .And (b ::rest) pos) g):PD X (.BoolOp .And (a ::b ::rest) pos) (rJ f g):=(IM ha hb).imp fun σ H Q ⟨Z,B,δ,k,E,hf,q⟩=>by
 obtain⟨c,h1,h2⟩:=R.ah hf;refine⟨Z,B,δ, .bl c,E,xM h1,fun v H1 s1 r1=>⟨c,by unfold Rep at r1;exact r1,?_⟩⟩
 cases c with
 | true=>rw [if_pos rfl] at h2 ⊢;exact⟨Z,B,δ,k,E.same s1,h2,fun v H' s2 r2=>q v H' (s1.trans s2) r2⟩
 | false=>rw [if_neg (by decide)] at h2 ⊢;cases h2;exact q _ H1 s1 (by unfold Rep;rfl)
theorem Kz{rest:List Expr}(ha:PD X a f)(hb:PD X (.BoolOp .Or (b ::rest) pos) g):PD X (.BoolOp .Or (a ::b ::rest) pos) (KW f g):=(Ld ha hb).imp fun σ H Q ⟨Z,B,δ,k,E,hf,q⟩=>by
 obtain⟨c,h1,h2⟩:=R.ah hf;refine⟨Z,B,δ, .bl c,E,xM h1,fun v H1 s1 r1=>⟨c,by unfold Rep at r1;exact r1,?_⟩⟩
 cases c with
 | true=>rw [if_pos rfl] at h2 ⊢;cases h2;exact q _ H1 s1 (by unfold Rep;rfl)
 | false=>rw [if_neg (by decide)] at h2 ⊢;exact⟨Z,B,δ,k,E.same s1,h2,fun v H' s2 r2=>q v H' (s1.trans s2) r2⟩
theorem Jp(ha:PD X a f):PD X (.UnaryOp .Not a pos) (HS f):=(IC ha).imp fun σ H Q ⟨Z,B,δ,k,E,hf,q⟩=>by
 obtain⟨c,h1,h2⟩:=R.ah hf;cases h2;exact⟨Z,B,δ, .bl c,E,xM h1,fun v H1 s1 r1=>⟨c,by unfold Rep at r1;exact r1,q _ H1 s1 (by unfold Rep;rfl)⟩⟩
def VS(c:ao->R Bool)(f g:FD):FD:=fun δ=>(c δ).bind fun b=>if b then f δ else g δ
def cI(X:Cx)(f:Value)(g:List D->R D):Prop:=
 ∀(pins:V6) (s:Shared) (σ:St) (H:Hp) (B:List Addr) (ds:List D) (d:D) (xs:List V) (us:List Value),Inv X pins σ H s->(∀a∈B,∃o,H a=some o)->Vals xs us->aD X.K B H ds xs->g ds= .ok d->
  wpAny (model X.prog X.w) X.A (call f us) (EP X pins σ fun z H'=>aM H H'/\Rep X.K B H' d z) X.xe s
def aL(g:List D->R D)(fs:ao->R (List D)):FD:=fun δ=>(fs δ).bind g
theorem cI.r{f:Value}{g:List D->R D}(h:cI X f g):j7 X f (fun xs H Q=>∃B ds d,(∀a∈B,∃o,H a=some o)/\aD X.K B H ds xs/\g ds= .ok d/\∀z H',aM H H'->Rep X.K B H' d z->Q z H'):=by
 intro pins s σ H xs us Q I rx ⟨B,ds,d,hb,hr,hg,q⟩;exact cO (h pins s σ H B ds d xs us I hb rx hr hg) fun z s' ⟨zv,H',I',r',s1,r1⟩=>⟨zv,H',I',r',q zv H' s1 r1⟩
theorem yI{K:W.Frag}{g:List D->R D}{fs:ao->R (List D)}{Q:VK}(h:tD K (aL g fs) σ H Q) :
 QI K fs σ H fun vs H1=>∃B ds d,(∀a∈B,∃o,H1 a=some o)/\aD K B H1 ds vs/\g ds= .ok d/\∀z H',aM H1 H'->Rep K B H' d z->Q z H':=by
 obtain⟨Z,B,δ,d,E,hf,q⟩:=h;obtain⟨ds,h1,h2⟩:=R.ah hf;exact⟨Z,B,δ,ds,E,h1,fun vs H1 s1 r1=>⟨B,ds,d,(E.same s1).bs,r1,h2,fun z H' s2 r2=>q z H' (s1.trans s2) r2⟩⟩
theorem Cj{g:List D->R D}{x:Str}{id:String}{p pos:Pos}{e:Expr}{es:List Expr}{fs:ao->R (List D)}(hc:cI X (.builtin id) g)(hg:Gl X x)(hm:X.mg x=none)(hv:bootBuiltins x=some (.builtin id))(ha:AK X (e ::es) fs)(hn:x≠"__name__":=by decide)(jE:(x==("__debug__":Str))=false:=by decide)
 (he:starEach (e ::es) X.env=(false,eval e X.env) ::starEach es X.env:=by rfl) (mj:(backTo pos (starEach es X.env)).any (·.1)=false:=by rfl):PD X (.Call (.Name x p) (e ::es) [] pos) (aL g fs):=
 (vL hc.r hg hm hv ha hn jE he mj).imp fun σ H Q h=>yI h
theorem zP{g:List D->R D}{x:Str}{T:String}{p pos:Pos}{e:Expr}{es:List Expr}{fs:ao->R (List D)}(hc:cI X (.type T) g)(hg:Gl X x)(hm:X.mg x=none)(hv:bootBuiltins x=some (.type T))(ha:AK X (e ::es) fs)(hn:x≠"__name__":=by decide)(jE:(x==("__debug__":Str))=false:=by decide)
 (he:starEach (e ::es) X.env=(false,eval e X.env) ::starEach es X.env:=by rfl) (mj:(backTo pos (starEach es X.env)).any (·.1)=false:=by rfl):PD X (.Call (.Name x p) (e ::es) [] pos) (aL g fs):=
 (rP hc.r hg hm hv ha hn jE he mj).imp fun σ H Q h=>yI h
def ES(K:W.Frag)(n:Nat)(g:List D->R D):Sp:=fun vs H Q _=>vs.length=n/\∃B ds d,(∀a∈B,∃o,H a=some o)/\aD K B H ds vs/\g ds= .ok d/\∀z H',aM H H'->Rep K B H' d z->Q z H'
theorem Ew{g:List D->R D}{k n:Nat}{f:Addr}{fd:FuncData}{ps:List Str}{x:Str}{p pos:Pos}{e:Expr}{es:List Expr}{fs:ao->R (List D)}
 (F:gQ X.prog X.w X.K X.mg X.base r_ k f fd ps (ES X.K n g)) (hr:dS k X.A) (hg:Gl X x) (hm:X.mg x=some (.ref f)) (hk:PySem.W.keepIn X.K (.ref f)=true) (hb:Binds X.K fd ps []) (ha:AK X (e ::es) fs)
 (hn:∀δ ds,fs δ= .ok ds->ds.length=n) (jE:(x==("__debug__":Str))=false:=by decide) (he:starEach (e ::es) X.env=(false,eval e X.env) ::starEach es X.env:=by rfl) (mj:(backTo pos (starEach es X.env)).any (·.1)=false:=by rfl) :
 PD X (.Call (.Name x p) (e ::es) [] pos) (aL g fs):=
 (zh F hr hg hm hk hb .nil Gp ha jE he mj).imp fun σ H Q ⟨Z,B,δ,d,E,hf,q⟩=>by
   obtain⟨ds,h1,h2⟩:=R.ah hf;refine⟨Z,B,δ,ds,E,h1,fun vs H1 s1 r1=>?_⟩
   show ES X.K n g (vs++[]) H1 Q E0;rw[List.append_nil];exact⟨by rw[<-r1.length];exact hn δ ds h1,B,ds,d,(E.same s1).bs,r1,h2,fun z H' s2 r2=>q z H' (s1.trans s2) r2⟩
end
end L2
end
section
namespace L2
open PySem PySem.Spec PyProof.Rows
inductive Out where
 | nx (δ:ao) | rt (d:D)
abbrev FS:=ao->R Out
structure Ev (Z B:List Addr) (H:Hp) (B':List Addr) (H':Hp):Prop where
 ba:dt B H B' H'
 zs:∀b o,H b=some o->b∈Z->H' b=some o/\b∈B'
theorem Ev.refl(Z B:List Addr)(H:Hp)(zb:∀a∈Z,a∈B):Ev Z B H B H:=⟨dt.refl B H,fun b o e z=>⟨e,zb b z⟩⟩
theorem Ev.trans{Z B B' LW:List Addr}(a:Ev Z B H B' H')(b:Ev Z B' H' LW mO):Ev Z B H LW mO:=
 ⟨a.ba.trans b.ba,fun c o e z=>let⟨e1,_⟩:=a.zs c o e z;b.zs c o e1 z⟩
theorem Ev.same{Z B:List Addr}(zb:∀a∈Z,a∈B)(s:aM H H'):Ev Z B H B H':=⟨dt.same s,fun b o e z=>⟨s b o e,zb b z⟩⟩
def yF(K:W.Frag)(Z B:List Addr)(H:Hp)(D:Ends):Out->Prop
 | .nx c5=>∀cB B' H',Ev Z B H B' H'->dr K Z B' H' cB c5->D.nx cB H'
 | .rt d=>∀v B' H',Ev Z B H B' H'->(∀a∈Z,a∈B')->Rep K B' H' d v->D.rt v H'
theorem yF.ev{K:W.Frag}{Z B B1:List Addr}{D:Ends}{o:Out}(q:yF K Z B H D o)(ev:Ev Z B H B1 H1):yF K Z B1 H1 D o:=by
 cases o with
 | nx c5=>exact fun cB B' H' DA E'=>q cB B' H' (ev.trans DA) E'
 | rt d=>exact fun v B' H' DA z r=>q v B' H' (ev.trans DA) z r
def sD(K:W.Frag)(F:FS):TS:=fun D σ H=>∃Z B δ o,dr K Z B H σ δ/\F δ= .ok o/\yF K Z B H D o
abbrev AL(X:Cx)(st:Stmt)(F:FS):Prop:=PS X st (sD X.K F)
abbrev pB(X:Cx)(st:List Stmt)(F:FS):Prop:=sQ X st (sD X.K F)
section
variable {X:Cx}
def mq:FS:=fun δ=> .ok (.nx δ)
def bK(F G:FS):FS:=fun δ=>(F δ).bind fun o=>match o with | .nx c5=>G c5 | .rt d=> .ok (.rt d)
theorem Fq:pB X [] mq:=tm.imp fun D σ H ⟨Z,B,δ,o,E,hf,q⟩=>by
 cases hf;exact q σ B H (Ev.refl Z B H E.zb) E
theorem Ii{K:W.Frag}{F G:FS}{D:Ends}(h:sD K (bK F G) D σ H):K4 (sD K F) (sD K G) D σ H:=by
 obtain⟨Z,B,δ,o,E,hf,q⟩:=h;obtain⟨o1,h1,h2⟩:=R.ah hf;refine⟨Z,B,δ,o1,E,h1,?_⟩;cases o1 with
 | nx δ1=>
   intro JQ B1 H1 ev E1;refine⟨Z,B1,δ1,o,E1,h2,?_⟩;cases o with
   | nx iE=>exact fun cB B' H' DA E'=>q cB B' H' (ev.trans DA) E'
   | rt d=>exact fun v B' H' DA z r=>q v B' H' (ev.trans DA) z r
 | rt d=>
   cases h2;exact q
theorem CU{st:Stmt}{rest:List Stmt}{F G:FS}(h1:AL X st F)(h2:pB X rest G):pB X (st ::rest) (bK F G):=(qk h1 h2).imp fun D σ H h=>Ii h
theorem FI{st:Stmt}{F:FS}(h1:AL X st F):pB X [st] F:=uo h1
theorem dr.set{K:W.Frag}{Z B:List Addr}{σ:St}{δ:ao}(E:dr K Z B H σ δ){i:Nat}{d:D}{v:V}(hi:i < σ.length)(r:Rep K B H d v):dr K Z B H (σ.set i (some v)) (δ.set i (.val d)) where
 len:=by rw[List.length_set,List.length_set];exact E.len
 bs:=E.bs
 zb:=E.zb
 val:=fun j d' e=>by
  by_cases h:i=j
  .subst h;rw[List.getElem?_set_self (by rw[E.len];exact hi)] at e
   cases e;exact⟨v,List.getElem?_set_self hi,r⟩
  .rw [List.getElem?_set_ne h] at e ⊢;exact E.val j d' e
 bld:=fun j ds e=>by
  by_cases h:i=j
  .subst h;rw[List.getElem?_set_self (by rw[E.len];exact hi)] at e
   cases e
  .rw [List.getElem?_set_ne h] at e ⊢;exact E.bld j ds e
 dis:=fun j k a ds es e1 e2 e3 e4=>by
  by_cases h:i=j
  .subst h;rw[List.getElem?_set_self (by rw[E.len];exact hi)] at e1
   cases e1
  .by_cases h':i=k
   .subst h';rw[List.getElem?_set_self (by rw[E.len];exact hi)] at e2
    cases e2
   .rw [List.getElem?_set_ne h] at e1 e3;rw[List.getElem?_set_ne h'] at e2 e4;exact E.dis j k a ds es e1 e2 e3 e4
theorem dr.setB{K:W.Frag}{Z B:List Addr}{H:Hp}{σ:St}{δ:ao}(E:dr K Z B H σ δ){i:Nat}{ds:List D}{a:Addr}{xs:List V}(hi:i < σ.length)(hB:a∈B)(hZ:a ∉ Z)(hH:H a=some (.lst xs))(r:aD K B H ds xs)
 (new:∀j es,j≠i->δ[j]? =some (.bld es)->σ[j]?≠some (some (.ref a))):dr K Z B H (σ.set i (some (.ref a))) (δ.set i (.bld ds)) where
 len:=by rw[List.length_set,List.length_set];exact E.len
 bs:=E.bs
 zb:=E.zb
 val:=fun j d' e=>by
  by_cases h:i=j
  .subst h;rw[List.getElem?_set_self (by rw[E.len];exact hi)] at e
   cases e
  .rw [List.getElem?_set_ne h] at e ⊢;exact E.val j d' e
 bld:=fun j es e=>by
  by_cases h:i=j
  .subst h;rw[List.getElem?_set_self (by rw[E.len];exact hi)] at e
   cases e;exact⟨a,xs,List.getElem?_set_self hi,hB,hZ,hH,r⟩
  .rw [List.getElem?_set_ne h] at e ⊢;exact E.bld j es e
 dis:=fun j k b LZ LS e1 e2 e3 e4=>by
  by_cases h:i=j
  .subst h;by_cases h':i=k
   .exact h'
   .rw [List.getElem?_set_self hi] at e3;cases e3;rw[List.getElem?_set_ne h'] at e2 e4;exact absurd e4 (new k LS (Ne.symm h') e2)
  .by_cases h':i=k
   .subst h';rw[List.getElem?_set_self hi] at e4;cases e4;rw[List.getElem?_set_ne h] at e1 e3;exact absurd e3 (new j LZ (Ne.symm h) e1)
   .rw [List.getElem?_set_ne h] at e1 e3;rw[List.getElem?_set_ne h'] at e2 e4;exact E.dis j k b LZ LS e1 e2 e3 e4
def cR(i:Nat)(f:FD):FS:=fun δ=>(f δ).bind fun d=>R.aS (decide (i < δ.length)) (.ok (.nx (δ.set i (.val d))))
theorem C9{K:W.Frag}{i:Nat}{D:Ends}(h:sD K (cR i f) D σ H):zy (tD K f) (qO i) D σ H:=by
 obtain⟨Z,B,δ,o,E,hf,q⟩:=h;obtain⟨d,h1,h2⟩:=R.ah hf;obtain⟨hi,h3⟩:=R.aO h2;cases h3;refine⟨Z,B,δ,d,E,h1,fun v H1 s1 r1=>?_⟩
 exact q _ B H1 (Ev.same E.zb s1) ((E.same s1).set (by rw[<-E.len];exact of_decide_eq_true hi) r1)
theorem FF{i:Nat}{pos pos':Pos}(hN:X.N.Nodup)(hi:X.N[i]? =some x)(hx:Loc X.env.scope x)(he:PD X e f)(hs:swapsWith e (some (.Name x pos')) pos.line X.env=pure false:=by rfl)(hf:X.fn x=true\/X.env.scope.names.lookup x=some .local:=by first | exact .inl rfl | exact .inr rfl | assumption) :
 AL X (.Assign [.Name x pos'] e pos) (cR i f):=(xV hN hi hx he hs hf).imp fun D σ H h=>C9 h
def mX(i:Nat)(f:ao->R (List D)):FS:=fun δ=>(f δ).bind fun ds=>R.aS (decide (i < δ.length)) (.ok (.nx (δ.set i (.bld ds))))
theorem A3{K:W.Frag}{i:Nat}{f:ao->R (List D)}{D:Ends}(h:sD K (mX i f) D σ H):zy (tN K f) (qO i) D σ H:=by
 obtain⟨Z,B,δ,o,E,hf,q⟩:=h;obtain⟨ds,h1,h2⟩:=R.ah hf;obtain⟨hi,h3⟩:=R.aO h2;cases h3;refine⟨Z,B,δ,ds,E,h1,fun a xs H1 s1 n e r=>?_⟩
 have E1:=E.same s1;have aB:a ∉ B:=fun ha=>by obtain⟨o,ho⟩:=E.bs a ha;rw [n] at ho;cases ho
 have nZ:a ∉ Z:=fun ha=>aB (E.zb a ha)
 have p0:dt B H (a ::B) H1:=fun b o e' nb=>⟨s1 b o e',fun hb=>by
  rcases List.mem_cons.mp hb with z | z
  .subst z;rw [n] at e';cases e'
  .exact nb z⟩
 have E2:dr K Z (a ::B) H1 σ δ:={
  len:=E.len
  bs:=fun b hb=>by
   rcases List.mem_cons.mp hb with z | z
   .subst z;exact⟨_,e⟩
   .exact E1.bs b z
  zb:=fun b hb=>List.mem_cons_of_mem _ (E.zb b hb)
  val:=fun j d e=>let⟨v,q1,q2⟩:=E.val j d e;⟨v,q1,q2.ba p0⟩
  bld:=fun j es e=>let⟨b,ys,q1,q2,q3,q4,q5⟩:=E.bld j es e;⟨b,ys,q1,List.mem_cons_of_mem _ q2,q3,s1 b _ q4,q5.ba p0⟩
  dis:=E.dis}
 refine q _ (a ::B) H1 ⟨p0,fun b o e' hb=>⟨s1 b o e',List.mem_cons_of_mem _ (E.zb b hb)⟩⟩ (E2.setB (by rw[<-E.len];exact of_decide_eq_true hi) List.mem_cons_self nZ e r fun j es hj ej F7=>?_)
 obtain⟨b,ys,q1,_,_,q4,_⟩:=E.bld j es ej;rw[F7] at q1;cases q1;rw[n] at q4;cases q4
theorem Fs{i:Nat}{f:ao->R (List D)}{pos pos':Pos}(hN:X.N.Nodup)(hi:X.N[i]? =some x)(hx:Loc X.env.scope x)(he:PN X e f)(hs:swapsWith e (some (.Name x pos')) pos.line X.env=pure false:=by rfl)(hf:X.fn x=true\/X.env.scope.names.lookup x=some .local:=by first | exact .inl rfl | exact .inr rfl | assumption) :
 AL X (.Assign [.Name x pos'] e pos) (mX i f):=(xV hN hi hx he hs hf).imp fun D σ H h=>A3 h
theorem dr.grow{K:W.Frag}{Z B:List Addr}{H:Hp}{σ:St}{δ:ao}(E:dr K Z B H σ δ){i:Nat}{ds es:List D}{a:Addr}{xs ys:List V}(hd:δ[i]? =some (.bld ds))(F7:σ[i]? =some (some (.ref a)))(hB:a∈B)(hH:H a=some (.lst xs))(r:aD K B H es ys) :
 dr K Z B (upd H a (.lst ys)) σ (δ.set i (.bld es))/\dt B H B (upd H a (.lst ys)):=by
 have p:dt B H B (upd H a (.lst ys)):=fun b o e nb=>⟨by rw[a_ (fun(z:b=a)=>nb (by rw[z];exact hB))];exact e,nb⟩
 have hi:i < δ.length:=(List.getElem?_eq_some_iff.mp hd).1;refine⟨{
  len:=by rw[List.length_set];exact E.len
  bs:=fun b hb=>by
   by_cases z:b=a
   .subst z;exact⟨_,aY⟩
   .rw [a_ z];exact E.bs b hb
  zb:=E.zb
  val:=fun j d e=>by
   by_cases h:i=j
   .subst h;rw [List.getElem?_set_self hi] at e;cases e
   .rw [List.getElem?_set_ne h] at e;obtain⟨v,q1,q2⟩:=E.val j d e;exact⟨v,q1,q2.ba p⟩
  bld:=fun j fs e=>by
   by_cases h:i=j
   .subst h;rw [List.getElem?_set_self hi] at e;cases e;obtain⟨b,zs,q1,q2,q3,_,_⟩:=E.bld i ds hd;rw[F7] at q1;cases q1;exact⟨a,ys,F7,hB,q3,aY,r.ba p⟩
   .rw [List.getElem?_set_ne h] at e;obtain⟨b,zs,q1,q2,q3,q4,q5⟩:=E.bld j fs e;have ne:b≠a:=fun z=>by subst z;exact h (E.dis i j b ds fs hd e F7 q1)
    exact⟨b,zs,q1,q2,q3,by rw[a_ ne];exact q4,q5.ba p⟩
  dis:=fun j k b LZ LS e1 e2 e3 e4=>by
   have f1:∃fs,δ[j]? =some (.bld fs):=by
    by_cases h:i=j
    .subst h;exact⟨ds,hd⟩
    .rw [List.getElem?_set_ne h] at e1;exact⟨_,e1⟩
   have f2:∃fs,δ[k]? =some (.bld fs):=by
    by_cases h:i=k
    .subst h;exact⟨ds,hd⟩
    .rw [List.getElem?_set_ne h] at e2;exact⟨_,e2⟩
   obtain⟨_,f1⟩:=f1;obtain⟨_,f2⟩:=f2;exact E.dis j k b _ _ f1 f2 e3 e4},p⟩
theorem Ev.grow{Z B:List Addr}{a:Addr}{o:HO}(zb:∀a∈Z,a∈B)(hZ:a ∉ Z)(p:dt B H B (upd H a o)):Ev Z B H B (upd H a o):=
 ⟨p,fun b u e hb=>⟨by rw[a_ (fun(z:b=a)=>hZ (by rw[<-z];exact hb))];exact e,zb b hb⟩⟩
def q0(δ:ao)(i:Nat):R (List D):=match δ[i]? with | some (.bld ds)=> .ok ds | _=> .no
theorem BP{δ:ao}{i:Nat}{ds:List D}(h:q0 δ i= .ok ds):δ[i]? =some (.bld ds):=by
 unfold q0 at h;split at h
 .rename_i q;cases h;exact q
 .cases h
def nK(i:Nat)(f:FD):FS:=fun δ=>(f δ).bind fun d=>(q0 δ i).bind fun ds=>R.aS (decide (ds.length < sizeLine)) (.ok (.nx (δ.set i (.bld (ds++[d])))))
theorem D9{i:Nat}{x:Str}{e:Expr}{f:FD}{ri apos bg pos:Pos}(hN:X.N[i]? =some x)(hv:HX X.env.scope x)(he:PD X e f)
 (hd:(x==("__debug__":Str))=false:=by decide) (rM:(x==("__classdict__":Str))=false:=by decide)
 (hs:starEach [e] X.env=(false,eval e X.env) ::starEach [] X.env:=by rfl) (fS:(apos.endLine==bg.line)=true:=by rfl)
 (kz:((backTo bg (starEach [e] X.env)).all (fun x=>!x.1) && (backToKw bg (keywordEach [] X.env)).all (fun x=>x.1.isSome)
   && decide (([e]:List Expr).length+([]:List Keyword).length+(if([]:List Keyword).isEmpty then 0 else 1) < 30))=true:=by rfl)
 (rO:swapsWith (.Call (.Attribute (.Name x ri) "append" apos) [e] [] bg) none pos.line X.env=pure false:=by rfl)
 (fU:attributeBase (.Name x ri) "append" X.env (eval (.Name x ri) X.env)=eval (.Name x ri) X.env:=by rfl) :
 AL X (.Expr (.Call (.Attribute (.Name x ri) "append" apos) [e] [] bg) pos) (nK i f):=by
 refine(pW (zg (X:=X) PySem.F.plainAttrs_list PySem.F.slot_list_append PySem.F.type_list_append mi (xh hN hv hd rM) (ik he kl hs) fU kz fS hs) rO).imp fun D σ H ⟨Z,B,δ,o,E,hf,q⟩=>?_
 obtain⟨d,h1,h2⟩:=R.ah hf;obtain⟨ds,h3,h4⟩:=R.ah h2;obtain⟨hl,h5⟩:=R.aO h4;cases h5;have hb:=BP h3;obtain⟨a,xs,q1,q2,q3,q4,q5⟩:=E.bld i ds hb;refine⟨.ref a,q1, .inl ⟨rfl,xs,me.of q4⟩,⟨Z,B,δ,d,E,h1,fun v H1 s1 r1=>?_⟩⟩
 have E1:=E.same s1;refine⟨a,xs,v,rfl,rfl,s1 a _ q4,by rw[<-q5.length];exact of_decide_eq_true hl,?_⟩
 obtain⟨E2,p2⟩:=E1.grow (es:=ds++[d]) (ys:=xs++[v]) hb q1 q2 (s1 a _ q4) ((q5.same s1).append (aD.cons r1 aD.nil));exact q σ B _ ((Ev.same E.zb s1).trans (Ev.grow E.zb q3 p2)) E2
def Th(i:Nat)(f:ao->R (List D)):FS:=fun δ=>(f δ).bind fun es=>(q0 δ i).bind fun ds=>R.aS (decide (ds.length+es.length<=sizeLine)) (.ok (.nx (δ.set i (.bld (ds++es)))))
def kT(i:Nat)(δ:ao):ao:=match δ[i]? with | some (.bld ds)=>δ.set i (.val (.lst ds)) | _=>δ
theorem dr.kT{K:W.Frag}{Z B:List Addr}{δ:ao}(E:dr K Z B H σ δ)(i:Nat):∃B',Ev Z B H B' H/\dr K Z B' H σ (kT i δ):=by
 unfold L2.kT;cases hd:δ[i]? with
 | none=>exact⟨B,Ev.refl Z B H E.zb,E⟩
 | some x=>
   cases x with
   | un=>exact⟨B,Ev.refl Z B H E.zb,E⟩
   | val d=>exact⟨B,Ev.refl Z B H E.zb,E⟩
   | bld ds=>
     obtain⟨a,xs,q1,q2,q3,q4,q5⟩:=E.bld i ds hd;have hi:i < δ.length:=(List.getElem?_eq_some_iff.mp hd).1;have p:dt B H (B.filter fun b=>decide (b≠a)) H:=fun b o e nb=>⟨e,fun hb=>nb (List.mem_filter.mp hb).1⟩
     have zb:∀b∈Z,b∈B.filter fun b=>decide (b≠a):=fun b hb=>List.mem_filter.mpr ⟨E.zb b hb,decide_eq_true fun z=>q3 (z▸hb)⟩
     refine⟨B.filter fun b=>decide (b≠a),⟨p,fun b o e hb=>⟨e,zb b hb⟩⟩,{
      len:=by rw[List.length_set];exact E.len
      bs:=fun b hb=>E.bs b (List.mem_filter.mp hb).1
      zb:=zb
      val:=fun j d e=>by
       by_cases h:i=j
       .subst h;rw [List.getElem?_set_self hi] at e;cases e;refine⟨.ref a,q1,?_⟩;unfold Rep;exact⟨a,xs,rfl, .inl ⟨fun hb=>by simpa using(List.mem_filter.mp hb).2, .inl q4⟩,q5.ba p⟩
       .rw [List.getElem?_set_ne h] at e;obtain⟨v,z1,z2⟩:=E.val j d e;exact⟨v,z1,z2.ba p⟩
      bld:=fun j fs e=>by
       by_cases h:i=j
       .subst h;rw [List.getElem?_set_self hi] at e;cases e
       .rw [List.getElem?_set_ne h] at e;obtain⟨b,zs,z1,z2,z3,z4,z5⟩:=E.bld j fs e;exact⟨b,zs,z1,List.mem_filter.mpr ⟨z2,decide_eq_true fun z=>by subst z;exact h (E.dis i j b ds fs hd e q1 z1)⟩,z3,z4,z5.ba p⟩
      dis:=fun j k b LZ LS e1 e2 e3 e4=>by
       by_cases h:i=j
       .subst h;rw [List.getElem?_set_self hi] at e1;cases e1
       .by_cases h':i=k
        .subst h';rw [List.getElem?_set_self hi] at e2;cases e2
        .rw [List.getElem?_set_ne h] at e1;rw[List.getElem?_set_ne h'] at e2;exact E.dis j k b LZ LS e1 e2 e3 e4}⟩
def pE(i:Nat)(F:FS):FS:=fun δ=>F (kT i δ)
theorem Ij{K:W.Frag}{i:Nat}{F:FS}{D:Ends}(h:sD K (pE i F) D σ H):sD K F D σ H:=by
 obtain⟨Z,B,δ,o,E,hf,q⟩:=h;obtain⟨B1,ev,E1⟩:=E.kT i;refine⟨Z,B1,L2.kT i δ,o,E1,hf,?_⟩;cases o with
 | nx c5=>exact fun cB B' H' DA E'=>q cB B' H' (ev.trans DA) E'
 | rt d=>exact fun v B' H' DA z r=>q v B' H' (ev.trans DA) z r
theorem FY(i:Nat){F:FS}(h:pB X LY F):pB X LY (pE i F):=h.imp fun D σ H h=>Ij h
def fX(f:FD):FS:=fun δ=>(f δ).bind fun d=> .ok (.rt d)
theorem EI(he:PD X e f):AL X (.Return (some e) pos) (fX f):=(Be he).imp fun D σ H ⟨Z,B,δ,o,E,hf,q⟩=>by
 obtain⟨d,h1,h2⟩:=R.ah hf;cases h2;exact⟨Z,B,δ,d,E,h1,fun v H1 s1 r1=>q v B H1 (Ev.same E.zb s1) E.zb r1⟩
def sv(c:ao->R Bool)(F G:FS):FS:=fun δ=>(c δ).bind fun b=>if b then F δ else G δ
theorem IE{fc:ao->R Bool}{F G:FS}(hc:PB X c fc)(ha:pB X a F)(hb:pB X b G):AL X (.If c a b pos) (sv fc F G):=(BL hc ha hb).imp fun D σ H ⟨Z,B,δ,o,E,hf,q⟩=>by
 obtain⟨k,h1,h2⟩:=R.ah hf;refine⟨Z,B,δ,k,E,h1,fun H1 s1=>?_⟩
 have q':=q.ev (Ev.same E.zb s1);cases k with
 | true=>rw [if_pos rfl] at h2;exact Bp ⟨Z,B,δ,o,E.same s1,h2,q'⟩
 | false=>rw [if_neg (by decide)] at h2;exact De ⟨Z,B,δ,o,E.same s1,h2,q'⟩
abbrev FT:=D->ao->R ao
def gD(K:W.Frag)(t:FT):TG:=fun v σ H Q=>∃Z B δ d c5,dr K Z B H σ δ/\Rep K B H d v/\t d δ= .ok c5/\∀cB H',aM H H'->dr K Z B H' cB c5->cB.length=σ.length->Q cB H'
abbrev EA(X:Cx)(tg:Expr)(t:FT):Prop:=PG X tg (gD X.K t)
def aH(i:Nat):FT:=fun d δ=>R.aS (decide (i < δ.length)) (.ok (δ.set i (.val d)))
theorem CM{i:Nat}{pos:Pos}(hN:X.N.Nodup)(hi:X.N[i]? =some x)(hx:Loc X.env.scope x)(hf:X.fn x=true\/X.env.scope.names.lookup x=some .local:=by first | exact .inl rfl | exact .inr rfl | assumption):EA X (.Name x pos) (aH i):=
 (yz hN hi hx hf).imp fun v σ H Q ⟨Z,B,δ,d,c5,E,r,ht,q⟩=>by
   obtain⟨hi,h⟩:=R.aO ht;cases h;exact q _ H (aM.refl H) (E.set (by rw[<-E.len];exact of_decide_eq_true hi) r) (List.length_set ..)
abbrev Dg:=List D->ao->R ao
def Ta(K:W.Frag)(t:Dg):AV:=fun vs σ H Q=>∃Z B δ ds c5,dr K Z B H σ δ/\aD K B H ds vs/\t ds δ= .ok c5/\∀cB H',aM H H'->dr K Z B H' cB c5->cB.length=σ.length->Q cB H'
abbrev B9(X:Cx)(ts:List Expr)(t:Dg):Prop:=DZ X ts (Ta X.K t)
theorem DZ.imp{X:Cx}{t t':AV}(h:DZ X e t)(w:∀v σ H Q,t' v σ H Q->t v σ H Q):DZ X e t':=fun pins s σ H v u Q I r hq=>h pins s σ H v u Q I r (w v σ H Q hq)
def fH:Dg:=fun ds δ=>match ds with | []=> .ok δ | _=> .no
def bh(t:FT)(u:Dg):Dg:=fun ds δ=>match ds with | d ::r=>(t d δ).bind fun c5=>u r c5 | []=> .no
theorem AX:B9 X [] fH:=yx.imp fun vs σ H Q ⟨Z,B,δ,ds,c5,E,r,ht,q⟩=>by
 cases ds with
 | nil=>unfold aD at r;cases ht;exact⟨r,q σ H (aM.refl H) E rfl⟩
 | cons=>cases ht
theorem zD{u:Dg}(h1:EA X e t)(h2:B9 X es u)(hs:(assignEach (e ::es) X.env).map (·.2)=assign e X.env ::(assignEach es X.env).map (·.2):=by rfl):B9 X (e ::es) (bh t u):=
 (vO h1 h2 hs).imp fun vs σ H Q ⟨Z,B,δ,ds,c5,E,r,ht,q⟩=>by
   cases ds with
   | nil=>cases ht
   | cons d ds=>
     obtain⟨x,xs,rfl,r1,r2⟩:=r.b5;obtain⟨δ1,h1,h2⟩:=R.ah ht;exact⟨x,xs,rfl,Z,B,δ,d,δ1,E,r1,h1,fun JQ H1 s1 E1 l1=>⟨Z,B,δ1,ds,c5,E1,r2.same s1,h2,fun rf H2 s2 E2 l2=>q rf H2 (s1.trans s2) E2 (l2.trans l1)⟩⟩
def fL(n:Nat)(t:Dg):FT:=fun d δ=>match d with | .tup ds=>R.aS (decide (ds.length=n)) (t ds δ) | _=> .no
theorem F0{k:Nat}{t:Dg}{n:Nat}{pos:Pos}(hc:X.calm=true)(h:B9 X es t)(hn:(assignEach es X.env).length=n:=by rfl)(Ay:(assignEach es X.env).findIdx? (·.1)=none:=by rfl):EA X (.Tuple es k pos) (fL n t):=
 (A7 hc h hn Ay).imp fun v σ H Q ⟨Z,B,δ,d,c5,E,r,ht,q⟩=>by
   cases d with
   | tup ds=>
     unfold Rep at r;obtain⟨a,xs,rfl,l,r⟩:=r;obtain⟨hl,h⟩:=R.aO ht;exact⟨a,xs,rfl,l.sq,by rw[<-r.length];exact of_decide_eq_true hl,Z,B,δ,ds,c5,E,r,h,q⟩
   | _=>cases ht
def Jn(f:FD)(t:FT):FS:=fun δ=>(f δ).bind fun d=>(t d δ).bind fun c5=> .ok (.nx c5)
theorem FC{tg e:Expr}{f:FD}{t:FT}{pos:Pos}(he:PD X e f)(hg:EA X tg t)(hs:swapsWithSole [tg] e pos.line X.env=pure false:=by rfl)(hw:swappedStores [tg] e X.env=pure none:=by rfl)
 (h1:(assignEach [tg] X.env).map (·.2)=[assign tg X.env]:=by rfl):AL X (.Assign [tg] e pos) (Jn f t):=(BH he hg hs hw h1).imp fun D σ H ⟨Z,B,δ,o,E,hf,q⟩=>by
 obtain⟨d,h1,h2⟩:=R.ah hf;obtain⟨δ1,h3,h4⟩:=R.ah h2;cases h4;exact⟨Z,B,δ,d,E,h1,fun v H1 s1 r1=>⟨Z,B,δ,d,δ1,E.same s1,r1,h3,fun cB H2 s2 E2 _=>q cB B H2 (Ev.same E.zb (s1.trans s2)) E2⟩⟩
def AQ(K:W.Frag)(B:List Addr)(H:Hp)(J:It)(ds:List D):Prop:=∀B' H',dt B H B' H'->(∀(i:Nat) (d:D),ds[i]? =some d->J.go i H'/\∀x mO,J.yld i H' x mO->(∀a∈B',∃o,H' a=some o)->aM H' mO/\Rep K B' mO d x)/\J.stop ds.length H'
def iD(K:W.Frag)(f:ao->R (List D)):TI:=fun σ H R=>∃Z B δ ds,dr K Z B H σ δ/\f δ= .ok ds/\∀J H1,aM H H1->AQ K B H1 J ds->R J H1
abbrev Fg(X:Cx)(tg e:Expr)(f:ao->R (List D)):Prop:=PI X tg e (iD X.K f)
def dk(f:FD):ao->R (List D):=fun δ=>(f δ).bind fun d=>match d with | .lst ds=> .ok ds | .tup ds=> .ok ds | _=> .no
theorem EH(h:PD X e f):Fg X tg e (dk f):=by
 intro pins s σ H RR I ⟨Z,B,δ,ds,E,hf,q⟩;obtain⟨d,h1,h2⟩:=R.ah hf;refine cO (h pins s σ H (fun v H1=>aM H H1/\Rep X.K B H1 d v) I ⟨Z,B,δ,d,E,h1,fun v H1 s1 r1=>⟨s1,r1⟩⟩) fun v s1 ⟨x,H1,I1,r1,ss,rr⟩=>?_
 cases d with
 | lst es=>
   cases h2;unfold Rep at rr;obtain⟨a,xs,rfl,l,rr⟩:=rr;cases r1;obtain⟨its,rv,p,hz⟩:=I1.list l.sq;refine wpAny_pyIter_list p.isList ?_;refine⟨s1.heap.objs.size,[s1.heap.objs.size],_,_,H1,rfl,I1.kept (t':=s1.toks) fun b o e=>Heap.get?_push_of_some _ e,zM a _,⟨_,Heap.get?_push_size _ rfl,rfl,rfl⟩,fun b hb=>?_,q _ H1 ss fun B' H' pr=>?_⟩
   .have e:b=s1.heap.objs.size:=by simpa using hb
    subst e;exact I1.wX (Nat.le_refl _) (I1.hok.fresh (Nat.le_refl _))
   .have l':uD X.K B' H' a xs:=l.ba pr;have rr':=rr.ba pr;refine⟨fun i d hd=>?_,⟨xs,l'.sq,by rw[rr.length];exact Nat.le_refl _⟩⟩
    obtain⟨x,hx,rx⟩:=rr'.get hd;exact⟨⟨xs,x,l'.sq,hx⟩,fun y mO ⟨e1,e2⟩ _=>by
     subst e1;have:=e2 xs l'.sq;rw[hx] at this;cases this;exact⟨aM.refl _,rx⟩⟩
 | tup es=>
   cases h2;unfold Rep at rr;obtain⟨a,xs,rfl,l,rr⟩:=rr;cases r1;obtain⟨its,rv,p,hz⟩:=I1.tuple l.sq;refine wpAny_pyIter_tuple (show s1.heap.IsTuple a its.toArray from p) ?_
   refine⟨s1.heap.objs.size,[s1.heap.objs.size],_,_,H1,rfl,I1.kept (t':=s1.toks) fun b o e=>Heap.get?_push_of_some _ e,xp a _,⟨_,Heap.get?_push_size _ rfl,rfl,rfl⟩,fun b hb=>?_,q _ H1 ss fun B' H' pr=>?_⟩
   .have e:b=s1.heap.objs.size:=by simpa using hb
    subst e;exact I1.wX (Nat.le_refl _) (I1.hok.fresh (Nat.le_refl _))
   .have l':wM X.K B' H' a xs:=l.elim (fun z=> .inl ⟨(pr.rd z.2 z.1).2,(pr.rd z.2 z.1).1⟩) .inr
    have rr':=rr.ba pr;refine⟨fun i d hd=>?_,⟨xs,l'.sq,by rw[rr.length];exact Nat.le_refl _⟩⟩
    obtain⟨x,hx,rx⟩:=rr'.get hd;exact⟨⟨xs,x,l'.sq,hx⟩,fun y mO ⟨e1,e2⟩ _=>by
     subst e1;have:=e2 xs l'.sq;rw[hx] at this;cases this;exact⟨aM.refl _,rx⟩⟩
 | _=>cases h2
def pJ(lo:Int)(n:Nat):List D:=(List.range n).map fun(i:Nat)=>D.int (lo+i)
theorem JA{K:W.Frag}{B:List Addr}(lo:Int)(n:Nat):AQ K B H (LA lo n) (pJ lo n):=fun B' H' _=>by
 refine⟨fun i d hd=>?_,?_⟩
 .unfold pJ at hd;rw[List.getElem?_map] at hd;cases e:(List.range n)[i]? with
  | none=>rw [e] at hd;cases hd
  | some j=>
    rw[e] at hd;cases hd;obtain⟨hi,ej⟩:=List.getElem?_eq_some_iff.mp e;rw[List.getElem_range] at ej;subst ej;rw[List.length_range] at hi;exact⟨hi,fun x mO ⟨e1,e2⟩ _=>by subst e1 e2;exact⟨aM.refl _,by unfold Rep;rfl⟩⟩
 .show n<=(pJ lo n).length;unfold pJ;rw[List.length_map,List.length_range];exact Nat.le_refl _
def fu(f:FD):ao->R (List D):=fun δ=>(f δ).bind fun d=>match d with | .int j=>R.aS (decide (-(2 ^ 62)<=j/\j < 2 ^ 62)) (.ok (pJ 0 j.toNat)) | _=> .no
theorem wK{tg a:Expr}{p pos:Pos}(h:PD X a f)(hg:Gl X "range")(hm:X.mg "range"=none)(hs:starEach [a] X.env=[(false,eval a X.env)]:=by rfl):Fg X tg (.Call (.Name "range" p) [a] [] pos) (fu f):=
 (zK hg hm (ik h kl hs) hs).imp fun σ H RR ⟨Z,B,δ,ds,E,hf,q⟩=>by
   obtain⟨d,h1,h2⟩:=R.ah hf;cases d with
   | int j=>
     obtain⟨hb,h3⟩:=R.aO h2;cases h3;have hb:=of_decide_eq_true hb;refine⟨Z,B,δ, .int j,E,h1,fun v H1 s1 r1=>⟨j,?_,hb.1,hb.2,q _ H1 s1 (JA 0 _)⟩⟩
     unfold Rep at r1;rw[r1]
   | _=>cases h2
def Ny(f g:FD):ao->R (List D):=fun δ=>(f δ).bind fun d=>(g δ).bind fun e=>match d,e with
 | .int i, .int j=>R.aS (decide (-(2 ^ 62)<=i/\i < 2 ^ 62/\ -(2 ^ 62)<=j/\j < 2 ^ 62)) (.ok (pJ i (j - i).toNat)) | _,_=> .no
def px(t:FT)(body:FS):List D->FS
 | [],δ=> .ok (.nx δ)
 | d ::ds,δ=>(t d δ).bind fun δ1=>(body δ1).bind fun o=>match o with | .nx iE=>px t body ds iE | .rt r=> .ok (.rt r)
def oT(it:ao->R (List D))(t:FT)(body:FS):FS:=fun δ=>(it δ).bind fun ds=>px t body ds δ
theorem Fj{tg iter:Expr}{body:List Stmt}{it:ao->R (List D)}{t:FT}{F:FS}{pos:Pos}(hp:PassesOwn (model X.prog X.w) X.A X.env X.xe)(hc:X.calm=true)(hi:Fg X tg iter it)(hg:EA X tg t)(hb:pB X body F)
 (hs:∀x,foldedSetIterable iter X.env x=pure x:=by intro _;rfl):AL X (.For tg iter body [] pos) (oT it t F):=(wG hp hc hi hg hb hs).imp fun D σ H ⟨Z,B,δ,o,E,hf,q⟩=>by
 obtain⟨ds,h1,h2⟩:=R.ah hf;refine⟨Z,B,δ,ds,E,h1,fun J H1 s1 ir=>?_⟩
 refine⟨fun i m cB H'=>m=ds.length - i/\i<=ds.length/\∃B' c5,Ev Z B H1 B' H'/\dr X.K Z B' H' cB c5/\px t F (ds.drop i) c5= .ok o,⟨ds.length,rfl,Nat.zero_le _,B,δ,Ev.refl Z B H1 E.zb,E.same s1,by simpa using h2⟩,?_⟩
 rintro i m cB H' ⟨rfl,hi,B',c5,ev,E',hl⟩;obtain⟨go,stop⟩:=ir B' H' ev.ba;by_cases hlt:i < ds.length
 .have hd:ds[i]? =some ds[i]:=List.getElem?_eq_getElem hlt;have hdrop:ds.drop i=ds[i] ::ds.drop (i+1):=List.drop_eq_getElem_cons hlt;rw[hdrop] at hl;obtain⟨δ1,h3,h4⟩:=R.ah hl;obtain⟨o1,h5,h6⟩:=R.ah h4;obtain⟨g1,g2⟩:=go i _ hd;refine .inr ⟨g1,fun rf H2=>∃B2 iE,Ev Z B H1 B2 H2/\dr X.K Z B2 H2 rf iE/\px t F (ds.drop (i+1)) iE= .ok o,fun rf H2 n=>⟨ds.length - (i+1),by omega,rfl,hlt,n⟩,fun x mO y=>?_⟩
  obtain⟨ss,rr⟩:=g2 x mO y E'.bs;refine⟨Z,B',c5,ds[i],δ1,E'.same ss,rr,h3,fun rf H2 s2 E2 l2=>⟨Z,B',δ1,o1,E2,h5,?_⟩⟩
  have ev2:Ev Z B H1 B' H2:=ev.trans (Ev.same E'.zb (ss.trans s2));cases o1 with
  | nx iE=>exact fun DO B3 H3 Pj E3=>⟨B3,iE,ev2.trans Pj,E3,h6⟩
  | rt d=>
    cases h6;exact fun v B3 H3 Pj z r=>q v B3 H3 ((Ev.same E.zb s1).trans (ev2.trans Pj)) z r
 .have e:i=ds.length:=by omega
  subst e;rw[List.drop_length] at hl;cases hl;exact .inl ⟨stop,q cB B' H' ((Ev.same E.zb s1).trans ev) E'⟩
def Dp(c:ao->R Bool)(body:FS):Nat->FS
 | 0,_=> .no
 | n+1,δ=>(c δ).bind fun b=>if b then(body δ).bind fun o=>match o with | .nx iE=>Dp c body n iE | .rt r=> .ok (.rt r) else .ok (.nx δ)
def MY(n:Nat)(c:ao->R Bool)(body:FS):FS:=fun δ=>Dp c body n δ
def qe(δ:ao)(i:Nat):Sl:=match δ[i]? with | some (.val d)=> .val d | _=> .un
def oR(own:List Str)(kp:List Nat)(δ:ao):ao:=List.replicate own.length .un++kp.map (qe δ)
def nG(t:FT)(c:ao->R Bool)(f:FD)(δ:ao):List D->R (List D)
 | []=> .ok []
 | d ::ds=>(t d δ).bind fun δ1=>(c δ1).bind fun b=>if b then(f δ1).bind fun y=>(nG t c f δ ds).bind fun ys=> .ok (y ::ys) else nG t c f δ ds
def di(it:ao->R (List D))(t:FT)(c:ao->R Bool)(f:FD)(own:List Str)(kp:List Nat):ao->R (List D):=fun δ=>(it δ).bind fun ds=>R.aS (decide (ds.length<=sizeLine)) (nG t c f (oR own kp δ) ds)
theorem Jl{K:W.Frag}{Z B B':List Addr}{H H':Hp}{δ:ao}{own:List Str}{kp:List Nat}(E:dr K Z B H σ δ)(p:dt B H B' H')(hB:∀a∈B',∃o,H' a=some o):dr K [] B' H' (c9 own kp σ) (oR own kp δ) where
 len:=by unfold c9 oR;simp
 bs:=hB
 zb:=fun a ha=>by cases ha
 val:=fun i d e=>by
  unfold oR at e;unfold c9;by_cases hi:i < own.length
  .rw [List.getElem?_append_left (by simpa using hi),List.getElem?_replicate] at e
   split at e <;> cases e
  .rw [List.getElem?_append_right (by simpa using hi),List.length_replicate,List.getElem?_map] at e ⊢
   cases q:kp[i - own.length]? with
   | none=>rw [q] at e;cases e
   | some j=>
     rw[q] at e;have e:qe δ j= .val d:=Option.some.inj e;unfold qe at e;split at e
     .rename_i d' ed;cases e;obtain⟨v,h1,h2⟩:=E.val j d ed;exact⟨v,by simp [h1],h2.ba p⟩
     .cases e
 bld:=fun i ds e=>by
  unfold oR at e;by_cases hi:i < own.length
  .rw [List.getElem?_append_left (by simpa using hi),List.getElem?_replicate] at e
   split at e <;> cases e
  .rw [List.getElem?_append_right (by simpa using hi),List.length_replicate,List.getElem?_map] at e
   cases q:kp[i - own.length]? with
   | none=>rw [q] at e;cases e
   | some j=>
     rw[q] at e;have e:qe δ j= .bld ds:=Option.some.inj e;unfold qe at e;split at e <;> cases e
 dis:=fun i j a ds es e=>by
  unfold oR at e;by_cases hi:i < own.length
  .rw [List.getElem?_append_left (by simpa using hi),List.getElem?_replicate] at e
   split at e <;> cases e
  .rw [List.getElem?_append_right (by simpa using hi),List.length_replicate,List.getElem?_map] at e
   cases q:kp[i - own.length]? with
   | none=>rw [q] at e;cases e
   | some j=>
     rw[q] at e;have e:qe δ j= .bld ds:=Option.some.inj e;unfold qe at e;split at e <;> cases e
theorem tY{K:W.Frag}{it:ao->R (List D)}{c:ao->R Bool}{own:List Str}{kp:List Nat}{Q:VK}(h:tN K (di it t c f own kp) σ H Q) :
 zc (iD K it) (gD K t) (DX K c) (tD K f) own kp σ H Q:=by
 obtain⟨Z,B,δ,ds,E,hf,q⟩:=h;obtain⟨es,h1,h2⟩:=R.ah hf;obtain⟨hl,h3⟩:=R.aO h2;have hl:=of_decide_eq_true hl;refine⟨Z,B,δ,es,E,h1,fun J H1 s1 ir Dd hD=>?_⟩
 have E1:=E.same s1;have pD:dt B H1 (Dd ::B) (upd H1 Dd (.lst [])):=vt hD;refine⟨fun i m ys H'=>m=es.length - i/\i<=es.length/\ys.length<=i/\H' Dd=some (.lst ys)/\aM H1 H'/\∃done rest,ds=done++rest/\aD K (Dd ::B) H' done ys/\nG t c f (oR own kp δ) (es.drop i)= .ok rest,
  ⟨es.length,rfl,Nat.zero_le _,Nat.le_refl _,aY,br hD,[],ds,rfl,aD.nil,by simpa using h3⟩,?_⟩
 rintro i m ys H' ⟨rfl,hi,hy,hDl,ss,done,rest,rfl,rd,hc⟩;have dB:Dd ∉ B:=fun hb=>by obtain⟨o,ho⟩:=E1.bs Dd hb;rw [hD] at ho;cases ho
 have p':dt B H1 (Dd ::B) H':=fun b o e nb=>⟨ss b o e,fun hb=>by
  rcases List.mem_cons.mp hb with z | z
  .exact b8 e hD z
  .exact nb z⟩
 have MD:∀a∈Dd ::B,∃o,H' a=some o:=fun a ha=>by
  rcases List.mem_cons.mp ha with z | z
  .subst z;exact⟨_,hDl⟩
  .obtain⟨o,ho⟩:=E1.bs a z;exact⟨o,ss a o ho⟩
 obtain⟨go,stop⟩:=ir (Dd ::B) H' p';by_cases hlt:i < es.length
 .have hd:es[i]? =some es[i]:=List.getElem?_eq_getElem hlt;have hdrop:es.drop i=es[i] ::es.drop (i+1):=List.drop_eq_getElem_cons hlt;rw[hdrop] at hc;obtain⟨δ1,h4,h5⟩:=R.ah hc;obtain⟨b,h6,h7⟩:=R.ah h5;obtain⟨g1,g2⟩:=go i _ hd;refine .inr ⟨g1,fun x H2 y=>?_⟩
  obtain⟨sy,ry⟩:=g2 x H2 y MD;have Ec:dr K [] (Dd ::B) H2 (c9 own kp σ) (oR own kp δ):=Jl E1 (p'.trans (dt.same sy)) fun a ha=>let⟨o,ho⟩:=MD a ha;⟨o,sy a o ho⟩
  refine⟨[],Dd ::B,oR own kp δ,es[i],δ1,Ec,ry,h4,fun DO H3 s3 E3 _=>⟨[],Dd ::B,δ1,b,E3,h6,fun H4 s4=>?_⟩⟩
  have sAll:aM H' H4:=sy.trans (s3.trans s4);cases b with
  | true=>
    rw[if_pos rfl] at h7;refine Bp ?_;obtain⟨yv,h8,h9⟩:=R.ah h7;obtain⟨rs,Oi,P5⟩:=R.ah h9;cases P5;refine⟨[],Dd ::B,δ1,yv,E3.same s4,h8,fun v H5 s5 r5=>?_⟩
    have s':aM H' H5:=sAll.trans s5;have PV:H5 Dd=some (.lst ys):=s' Dd _ hDl;have pu:dt (Dd ::B) H5 (Dd ::B) (upd H5 Dd (.lst (ys++[v]))):=fun b o e nb=>⟨by rw[a_ (fun(z:b=Dd)=>nb (by rw[z];exact List.mem_cons_self))];exact e,nb⟩
    refine⟨PV,by omega,es.length - (i+1),by omega,rfl,hlt,by rw[List.length_append,List.length_singleton];omega,aY,fun b o e=>?_,done++[yv],rs,by simp,((rd.same s').append (aD.cons r5 aD.nil)).ba pu,Oi⟩
    rw[a_ (b8 e hD)];exact s' b o (ss b o e)
  | false=>
    rw[if_neg (by decide)] at h7
    refine De ?_;exact⟨es.length - (i+1),by omega,rfl,hlt,by omega,sAll Dd _ hDl,ss.trans sAll,done,rest,rfl,rd.same sAll,h7⟩
 .have e:i=es.length:=by omega
  subst e;rw[List.drop_length] at hc;cases hc;rw[List.append_nil] at q;exact .inl ⟨stop,q Dd ys H' (s1.trans ss) (s1.free hD) hDl rd⟩
theorem EX{scope:Scope}{own:List Str}{kp:List Nat}{kn:List Str}{tg iter elt:Expr}{ifs:List Expr}{it:ao->R (List D)}{t:FT}{c:ao->R Bool}{f:FD}{pos:Pos}(hc:X.calm=true)(C:bN X scope own kp kn)(hi:Fg X tg iter it)
 (hg:∀fp s H,EA (aV X scope (own++kn) fp s H) tg t) (ur:∀fp s H,nM (aV X scope (own++kn) fp s H) ifs (DX X.K c)) (he:∀fp s H,PD (aV X scope (own++kn) fp s H) elt f)
 (hs:∀x,foldedSetIterable iter X.env x=pure x:=by intro _;rfl):PN X (.ListComp elt [⟨tg,iter,ifs,0⟩] scope pos) (di it t c f own kp):=
 (yR hc C hi hg ur he hs).imp fun σ H Q h=>tY h
def mn:ao->R Bool:=fun _=> .ok true
theorem AN:nM X [] (DX X.K mn):=fun pins s σ H Q I ⟨Z,B,δ,b,E,hf,q⟩=>uW pins s σ H Q I (by cases hf;exact q H (aM.refl H))
theorem Fu{c:ao->R Bool}(h:PB X e c):nM X [e] (DX X.K c):=Bm h
theorem vR{i:Nat}{x:Str}{pos' lW:Pos}{scope:Scope}{own:List Str}{kp:List Nat}{kn:List Str}{tg iter elt:Expr}{ifs:List Expr}{it:ao->R (List D)}{t:FT}{c:ao->R Bool}{f:FD}{pos:Pos}(hc:X.calm=true)
 (hN:X.N.Nodup) (hx:X.N[i]? =some x) (uu:X.env.scope.names.lookup x=some .local) (C:bN X scope own kp kn) (hi:Fg X tg iter it)
 (hg:∀fp s H,EA (aV X scope (own++kn) fp s H) tg t) (ur:∀fp s H,nM (aV X scope (own++kn) fp s H) ifs (DX X.K c)) (he:∀fp s H,PD (aV X scope (own++kn) fp s H) elt f)
 (rO:swapsWith (.ListComp elt [⟨tg,iter,ifs,0⟩] scope pos) (some (.Name x pos')) lW.line X.env=pure true:=by rfl)
 (hs:∀x,foldedSetIterable iter X.env x=pure x:=by intro _;rfl):AL X (.Assign [.Name x pos'] (.ListComp elt [⟨tg,iter,ifs,0⟩] scope pos) lW) (cR i (eNew (di it t c f own kp))):=
 (mP hc hN hx uu C hi hg ur he rO hs).imp fun D σ H h=>by
   have h1:=C9 h;obtain⟨Z,B,δ,d,E,hf,q⟩:=h1;obtain⟨ds,h2,h3⟩:=R.ah hf;cases h3;refine tY ⟨Z,B,δ,ds,E,h2,fun a xs H' s n e r=>q _ H' s ?_⟩
   unfold Rep;refine⟨a,xs,rfl, .inl ⟨fun ha=>?_, .inl e⟩,r.ba fun b o e nb=>⟨e,fun hb=>nb (List.mem_cons_of_mem _ hb)⟩⟩
   obtain⟨o,ho⟩:=E.bs a ha;rw[n] at ho;cases ho
theorem vd{i:Nat}{x:Str}{pos' lW:Pos}{scope:Scope}{own:List Str}{kp:List Nat}{kn:List Str}{tg iter elt:Expr}{ifs:List Expr}{it:ao->R (List D)}{t:FT}{c:ao->R Bool}{f:FD}{pos:Pos}(hc:X.calm=true)
 (hN:X.N.Nodup) (hx:X.N[i]? =some x) (uu:X.env.scope.names.lookup x=some .local) (C:bN X scope own kp kn) (hi:Fg X tg iter it)
 (hg:∀fp s H,EA (aV X scope (own++kn) fp s H) tg t) (ur:∀fp s H,nM (aV X scope (own++kn) fp s H) ifs (DX X.K c)) (he:∀fp s H,PD (aV X scope (own++kn) fp s H) elt f)
 (rO:swapsWith (.ListComp elt [⟨tg,iter,ifs,0⟩] scope pos) (some (.Name x pos')) lW.line X.env=pure true:=by rfl)
 (hs:∀x,foldedSetIterable iter X.env x=pure x:=by intro _;rfl):AL X (.Assign [.Name x pos'] (.ListComp elt [⟨tg,iter,ifs,0⟩] scope pos) lW) (mX i (di it t c f own kp)):=
 (mP hc hN hx uu C hi hg ur he rO hs).imp fun D σ H h=>tY (A3 h)
end
def bZ(N:List Str)(ds:List D):ao:=ds.map .val++List.replicate (N.length - ds.length) .un
def rD(N:List Str)(F:FS):List D->R D:=fun ds=>(F (bZ N ds)).bind fun o=>match o with | .rt d=> .ok d | .nx _=> .ok .cH
theorem Eu{K:W.Frag}{B:List Addr}{H:Hp}{N:List Str}{ds:List D}{vs:List V}(hB:∀a∈B,∃o,H a=some o)(r:aD K B H ds vs):dr K B B H (start N vs) (bZ N ds) where
 len:=by unfold start bZ;simp [r.length]
 bs:=hB
 zb:=fun a ha=>ha
 val:=fun i d e=>by
  unfold bZ at e;unfold start;by_cases hi:i < ds.length
  .rw [List.getElem?_append_left (by simpa using hi),List.getElem?_map] at e
   cases q:ds[i]? with
   | none=>rw [q] at e;cases e
   | some d'=>
     rw[q] at e;cases e;obtain⟨x,h1,h2⟩:=r.get q;exact⟨x,by rw[List.getElem?_append_left (by rw[List.length_map,<-r.length];exact hi),List.getElem?_map,h1];rfl,h2⟩
  .rw [List.getElem?_append_right (by simpa using hi),List.getElem?_replicate] at e
   split at e <;> cases e
 bld:=fun i es e=>by
  unfold bZ at e;by_cases hi:i < ds.length
  .rw [List.getElem?_append_left (by simpa using hi),List.getElem?_map] at e
   cases q:ds[i]? with
   | none=>rw [q] at e;cases e
   | some d'=>rw [q] at e;cases e
  .rw [List.getElem?_append_right (by simpa using hi),List.getElem?_replicate] at e
   split at e <;> cases e
 dis:=fun i j a es fs e=>by
  unfold bZ at e;by_cases hi:i < ds.length
  .rw [List.getElem?_append_left (by simpa using hi),List.getElem?_map] at e
   cases q:ds[i]? with
   | none=>rw [q] at e;cases e
   | some d'=>rw [q] at e;cases e
  .rw [List.getElem?_append_right (by simpa using hi),List.getElem?_replicate] at e
   split at e <;> cases e
theorem Fi{P:Program}{w:World}{K:W.Frag}{mg:Wa}{base:Heap}{x qual:Str}{st:Stmt}{f:Addr}{fd:FuncData}{N ps:List Str}{k:Nat}{F:FS}(Fn:xy K x qual st f fd)(S:bf N ps (aF st))
 (i_:∀(dI:Value) (A:Around) (outer:List Env) (s:Shared) (H:Hp) (E:XK),dS k (A.deeper (envOfC qual (aF st) s.heap.objs.size f dI))->
   pB (j8 r_ P w K mg base N qual (aF st) f dI A outer s H E).D2 (aR st) F):gQ P w K mg base r_ (k+1) f fd ps (ES K ps.length (rD N F)):=by
 refine Fn.ok S (fun vs H Q E h=>h.1) (fun dI A outer s H vs Q E hr h=>⟨_,i_ dI A outer s H E hr,?_⟩)
 obtain⟨_,B,ds,d,hB,r,hg,q⟩:=h;obtain⟨o,h1,h2⟩:=R.ah hg;refine⟨B,B,bZ N ds,o,Eu hB r,h1,?_⟩;have sm:∀{B':List Addr} {H':Hp},Ev B B H B' H'->aM H H':=fun {B' H'} ev b u e=>by
  by_cases hb:b∈B
  .exact(ev.zs b u e hb).1
  .exact(ev.ba b u e hb).1
 cases o with
 | nx c5=>
   cases h2;exact fun cB B' H' ev _=>q _ H' (sm ev) (by unfold Rep;rfl)
 | rt d'=>
   cases h2;exact fun v B' H' ev z rr=>q v H' (sm ev) (rr.ba fun b o e nb=>⟨e,fun hb=>nb (z b hb)⟩)
end L2
end
section
namespace L2
open PySem PySem.Spec PyProof.Rows
theorem Rep.int{K:W.Frag}{B:List Addr}{i:Int}{v:V}:Rep K B H (.int i) v↔v= .int i:=by unfold Rep;exact Iff.rfl
theorem Rep.bl{K:W.Frag}{B:List Addr}{i:Bool}{v:V}:Rep K B H (.bl i) v↔v= .bl i:=by unfold Rep;exact Iff.rfl
theorem Rep.str{K:W.Frag}{B:List Addr}{v:V}:Rep K B H (.str i) v↔v= .str i:=by unfold Rep;exact Iff.rfl
theorem Rep.cH{K:W.Frag}{B:List Addr}{v:V}:Rep K B H .cH v↔v= .cH:=by unfold Rep;exact Iff.rfl
theorem Rep.lst{K:W.Frag}{B:List Addr}{ds:List D}{v:V}:Rep K B H (.lst ds) v↔∃a xs,v= .ref a/\uD K B H a xs/\aD K B H ds xs:=by rw[Rep]
theorem Rep.tup{K:W.Frag}{B:List Addr}{ds:List D}{v:V}:Rep K B H (.tup ds) v↔∃a xs,v= .ref a/\wM K B H a xs/\aD K B H ds xs:=by rw[Rep]
section
variable {X:Cx}
theorem mm.of{f:Value->Value->Sem Value}{r:R2}{g:D->D->R D}(h:my X f r)
 (w:∀(B:List Addr) (H:Hp) (da db d:D) (x y:V) (Q:VK),(∀a∈B,∃o,H a=some o)->Rep X.K B H da x->Rep X.K B H db y->g da db= .ok d->(∀z H',aM H H'->Rep X.K B H' d z->Q z H')->r x y H Q):mm X f g:=by
 intro pins s σ H B da db d x y v u I hb rx ry ra rb hg;exact h pins s σ H x y v u _ I rx ry (w B H da db d x y _ hb ra rb hg fun z H' s1 r1=>⟨s1,r1⟩)
theorem cI.of{f:Value}{r:List V->Hp->VK->Prop}{g:List D->R D}(h:j7 X f r)
 (w:∀(B:List Addr) (H:Hp) (ds:List D) (d:D) (xs:List V) (Q:VK),(∀a∈B,∃o,H a=some o)->aD X.K B H ds xs->g ds= .ok d->(∀z H',aM H H'->Rep X.K B H' d z->Q z H')->r xs H Q):cI X f g:=by
 intro pins s σ H B ds d xs us I hb rx rs hg;exact h pins s σ H xs us _ I rx (w B H ds d xs _ hb rs hg fun z H' s1 r1=>⟨s1,r1⟩)
theorem cI.or{f:Value}{g g1 g2:List D->R D}(h1:cI X f g1)(h2:cI X f g2)(e:∀a d,g a= .ok d->g1 a= .ok d\/g2 a= .ok d):cI X f g:=by
 intro pins s σ H B ds d xs us I hb rx rs hg;rcases e ds d hg with q | q
 .exact h1 pins s σ H B ds d xs us I hb rx rs q
 .exact h2 pins s σ H B ds d xs us I hb rx rs q
def DM(C:Int->Int->Bool)(g:Int->Int->Int):D->D->R D
 | .int i, .int j=>R.aS (C i j) (.ok (.int (g i j)))
 | _,_=> .no
theorem y6{f:Value->Value->Sem Value}{C:Int->Int->Bool}{Cp:Int->Int->Prop}{g:Int->Int->Int}(h:my X f (rI Cp fun i j=> .int (g i j)))(hc:∀i j,C i j=true->Cp i j):mm X f (DM C g):=
 mm.of h fun B H da db d x y Q _ ra rb hg q=>by
  unfold DM at hg;split at hg
  .obtain⟨h1,h2⟩:=R.aO hg;cases h2;exact⟨_,_,Rep.int.mp ra,Rep.int.mp rb,hc _ _ h1,q _ H (aM.refl H) (Rep.int.mpr rfl)⟩
  .cases hg
def Aw(g:Int->Int->Int):D->D->R D
 | .int i, .int j=> .ok (.int (g i j))
 | _,_=> .no
theorem Hc{f:Value->Value->Sem Value}{g:Int->Int->Int}(h:my X f (DJ fun i j=> .int (g i j))):mm X f (Aw g):=
 mm.of h fun B H da db d x y Q _ ra rb hg q=>by
  unfold Aw at hg;split at hg
  .cases hg;exact⟨_,_,Rep.int.mp ra,Rep.int.mp rb,q _ H (aM.refl H) (Rep.int.mpr rfl)⟩
  .cases hg
def J7(g:Int->Int->Bool):D->D->R D
 | .int i, .int j=> .ok (.bl (g i j))
 | _,_=> .no
theorem x_{f:Value->Value->Sem Value}{g:Int->Int->Bool}(h:my X f (DJ fun i j=> .bl (g i j))):mm X f (J7 g):=
 mm.of h fun B H da db d x y Q _ ra rb hg q=>by
  unfold J7 at hg;split at hg
  .cases hg;exact⟨_,_,Rep.int.mp ra,Rep.int.mp rb,q _ H (aM.refl H) (Rep.bl.mpr rfl)⟩
  .cases hg
abbrev z_:D->D->R D:=Aw fun i j=>i - j
theorem yr:mm X (binaryOp .Sub) z_:=Hc Jm
abbrev dF:D->D->R D:=DM (fun _ j=>decide (0 < j/\j < 1073741824)) fun i j=>i / j
theorem i8:mm X (binaryOp .FloorDiv) dF:=y6 ET fun i j h=>(of_decide_eq_true h:0 < j/\j < 1073741824)
abbrev dO:D->D->R D:=DM (fun _ j=>decide (0 < j)) fun i j=>i % j
theorem eF:mm X (binaryOp .Mod) dO:=y6 G8 fun i j h=>of_decide_eq_true h
abbrev zJ:D->D->R D:=DM (fun i j=>decide (0<=j/\j<=1000000/\i.natAbs < 2 ^ 64)) fun i j=>i ^ j.toNat
theorem Bo:mm X (binaryOp .Pow) zJ:=y6 IF fun i j h=>(of_decide_eq_true h:0<=j/\j<=1000000/\i.natAbs < 2 ^ 64)
abbrev Kg:D->D->R D:=DM (fun _ j=>decide (0<=j)) fun i j=>i / 2 ^ j.toNat
theorem KZ:mm X (binaryOp .RShift) Kg:=y6 Jy fun i j h=>of_decide_eq_true h
abbrev VG:D->D->R D:=Aw fun i j=>Builtin.bitAnd i j
abbrev VA:D->D->R D:=Aw fun i j=>Builtin.bitOr i j
abbrev Vw:D->D->R D:=Aw fun i j=>Builtin.bitXor i j
abbrev J2:D->D->R D:=J7 fun i j=>decide (i < j)
theorem DY:mm X (compareOp .Lt) J2:=x_ Kt
abbrev NJ:D->D->R D:=J7 fun i j=>decide (i<=j)
theorem Oa:mm X (compareOp .LtE) NJ:=x_ KD
abbrev J9:D->D->R D:=J7 fun i j=>decide (j < i)
theorem D3:mm X (compareOp .Gt) J9:=x_ KQ
abbrev JF:D->D->R D:=J7 fun i j=>decide (j<=i)
theorem Eg:mm X (compareOp .GtE) JF:=x_ K9
theorem uD.CT{K:W.Frag}{B:List Addr}{H:Hp}{a:Addr}{xs:List V}(h:H a=some (.lst xs))(n:a ∉ B):uD K B H a xs:= .inl ⟨n, .inl h⟩
theorem Inv.Il{pins:V6}{s:Shared}{a:Addr}{xs:List V}{B:List Addr}(I:Inv X pins σ H s)(h:uD X.K B H a xs):∃(its:List Value) (n:Nat),Vals xs its/\s.heap.get? a=some {cls:= .type "list",data:= .seq its.toArray n}/\xs.length<=sizeLine:=by
 rcases h with⟨_,h⟩ | ⟨its,n,hk,hz,r⟩
 .obtain⟨z,its,n,r,e⟩:=h.ok I.hok;exact⟨its,n,r,e,z⟩
 .exact⟨its,n,r,I.vq a _ hk,hz⟩
theorem FP:my X (binaryOp .Add) (fun x y H Q=>∃B l b xs zs,x= .ref l/\y= .ref b/\uD X.K B H l xs/\uD X.K B H b zs/\xs.length+zs.length<=sizeLine/\∀p,H p=none->Q (.ref p) (upd H p (.lst (xs++zs)))):=by
 intro pins s σ H x y v u Q I rx ry h;obtain⟨B,l,b,xs,zs,rfl,rfl,hH,hB,hz,q⟩:=h;cases rx;cases ry;obtain⟨its,n,r,e,_⟩:=I.Il hH;obtain⟨L8,n2,r2,e2,_⟩:=I.Il hB;have l1:=r.length;have l2:=r2.length;refine PySem.P.add_list e e2 ?_ (by rw[List.size_toArray,List.size_toArray];omega)
 have ea:its.toArray++L8.toArray=(its++L8).toArray:=by simp
 rw[ea];exact⟨.ref _,_,I.II (t':=s.toks) (r.append r2) (by rw[List.length_append];omega),rfl,q _ I.fresh⟩
def cj:D->D->R D
 | .int i, .int j=> .ok (.int (i+j))
 | .str a, .str b=>R.aS (decide (a.length+b.length<=sizeLine)) (.ok (.str (a++b)))
 | .lst a, .lst b=>R.aS (decide (a.length+b.length<=sizeLine)) (.ok (.lst (a++b)))
 | _,_=> .no
theorem cx:mm X (binaryOp .Add) cj:=by
 intro pins s σ H B da db d x y v u I hb rx ry ra rb hg;unfold cj at hg;split at hg
 .cases hg;exact Hv pins s σ H x y v u _ I rx ry ⟨_,_,Rep.int.mp ra,Rep.int.mp rb,aM.refl H,Rep.int.mpr rfl⟩
 .obtain⟨h1,h2⟩:=R.aO hg;cases h2;exact xD pins s σ H x y v u _ I rx ry ⟨_,_,Rep.str.mp ra,Rep.str.mp rb,of_decide_eq_true h1,aM.refl H,Rep.str.mpr rfl⟩
 .obtain⟨h1,h2⟩:=R.aO hg;cases h2;obtain⟨a1,UQ,rfl,l1,r1⟩:=Rep.lst.mp ra;obtain⟨a2,U6,rfl,l2,r2⟩:=Rep.lst.mp rb;refine FP pins s σ H _ _ v u _ I rx ry ⟨B,a1,a2,UQ,U6,rfl,rfl,l1,l2,by rw[<-r1.length,<-r2.length];exact of_decide_eq_true h1,fun p hp=>⟨br hp,Rep.lst.mpr ⟨p,_,rfl, .CT aY fun ha=>?_,(r1.append r2).same (br hp)⟩⟩⟩
  obtain⟨o,ho⟩:=hb p ha;rw[hp] at ho;cases ho
 .cases hg
theorem EO:my X (binaryOp .Mult) (fun x y H Q=>∃z n,x= .str z/\y= .int n/\MulOk z n/\Q (.str (Txt.mul z n)) H):=by
 intro pins s σ H x y v u Q I rx ry h;obtain⟨z,n,rfl,rfl,hm,q⟩:=h;obtain⟨t,rfl⟩:=rx;obtain⟨t',rfl⟩:=ry;exact SB.mul hm fun t2 k=>⟨.str _,H,I.tok _,⟨_,rfl⟩,q⟩
end
end L2
end
section
namespace L2
open PySem PySem.Spec PyProof.Rows
section
variable {X:Cx}
theorem mulOk_of{x:Str}{n:Int}(h1: -(2 ^ 63)<=n)(h2:n < 2 ^ 63)(h3:x.length*n.toNat<=sizeLine):MulOk x n:=by
 refine⟨by simp only[Bool.or_eq_false_iff,decide_eq_false_iff_not];omega,fun hn _=>?_,fun hn _=>?_⟩
 .have hz:sizeLine=16777216:=sizeLine_eq;have e:(n.toNat:Int)=n:=by omega
  have h4:(x.length:Int)*n<=16777216:=by
   have:((x.length*n.toNat:Nat):Int)<=((16777216:Nat):Int):=Int.ofNat_le.mpr (by omega)
   rw[Int.natCast_mul,e] at this;exact this
  have:(x.length:Int)<=(2 ^ 63 - 1) / n:=(Int.le_ediv_iff_mul_le (by omega)).mpr (by omega)
  omega
 .unfold Builtin.Str.tooLong;exact decide_eq_false (by omega)
def mv:D->D->R D
 | .int i, .int j=>R.aS (decide ((-(2 ^ 64) < i/\i < 2 ^ 64)\/(-(2 ^ 64) < j/\j < 2 ^ 64))) (.ok (.int (i*j)))
 | .str x, .int n=>R.aS (decide (-(2 ^ 63)<=n/\n < 2 ^ 63/\x.length*n.toNat<=sizeLine)) (.ok (.str (Txt.mul x n)))
 | _,_=> .no
theorem qI:mm X (binaryOp .Mult) mv:=by
 intro pins s σ H B da db d x y v u I hb rx ry ra rb hg;unfold mv at hg;split at hg
 .obtain⟨h1,h2⟩:=R.aO hg;cases h2;have h1:=of_decide_eq_true h1;exact HZ pins s σ H x y v u _ I rx ry ⟨_,_,Rep.int.mp ra,Rep.int.mp rb,h1,aM.refl H,Rep.int.mpr rfl⟩
 .obtain⟨h1,h2⟩:=R.aO hg;cases h2;have h1:=of_decide_eq_true h1;exact EO pins s σ H x y v u _ I rx ry ⟨_,_,Rep.str.mp ra,Rep.int.mp rb,mulOk_of h1.1 h1.2.1 h1.2.2,aM.refl H,Rep.str.mpr rfl⟩
 .cases hg
mutual
def toPy:D->PyData
 | .cH=> .none
 | .bl b=> .bool b
 | .int i=> .int i
 | .str x=> .str x
 | .lst ds=> .list (i3 ds)
 | .tup ds=> .tuple (i3 ds)
 | .dct _ _=> .dict []
def i3:List D->List PyData
 | []=>[]
 | d ::ds=>toPy d ::i3 ds
end
mutual
def cP:D->Bool
 | .dct _ _=>false
 | .lst ds=>ft ds
 | .tup ds=>ft ds
 | _=>true
def ft:List D->Bool
 | []=>true
 | d ::ds=>cP d && ft ds
end
mutual
theorem Rep.reads{pins:V6}{s:Shared}{B:List Addr}(I:Inv X pins σ H s):∀{d:D} {v:V} {u:Value},cP d=true->Rep X.K B H d v->RelV v u->∃as,Reads s.heap u (toPy d) as
 | .cH,v,u,_,r,q=>by rw[Rep.cH.mp r] at q;cases q;unfold toPy;exact⟨_, .none⟩
 | .bl b,v,u,_,r,q=>by rw[Rep.bl.mp r] at q;cases q;unfold toPy;exact⟨_, .bool b⟩
 | .int i,v,u,_,r,q=>by rw[Rep.int.mp r] at q;obtain⟨t,rfl⟩:=q;unfold toPy;exact⟨_, .int i t⟩
 | .str x,v,u,_,r,q=>by rw[Rep.str.mp r] at q;obtain⟨t,rfl⟩:=q;unfold toPy;exact⟨_, .str x t⟩
 | .lst ds,v,u,hp,r,q=>by
   obtain⟨a,xs,rfl,l,rs⟩:=Rep.lst.mp r;cases q;obtain⟨its,rv,⟨o,n,e,hc,hd,he⟩,_⟩:=I.list l.sq;obtain⟨as,ra⟩:=aD.reads I (by unfold cP at hp;exact hp) rs rv
   unfold toPy;exact⟨_, .list e hc he (by simpa using ra)⟩
 | .tup ds,v,u,hp,r,q=>by
   obtain⟨a,xs,rfl,l,rs⟩:=Rep.tup.mp r;cases q;obtain⟨its,rv,⟨o,e,hc,n,hd⟩,_⟩:=I.tuple l.sq;obtain⟨as,ra⟩:=aD.reads I (by unfold cP at hp;exact hp) rs rv
   unfold toPy;exact⟨_, .tuple e hc hd (by simpa using ra)⟩
 | .dct _ _,v,u,hp,r,q=>by unfold cP at hp;cases hp
theorem aD.reads{pins:V6}{s:Shared}{B:List Addr}(I:Inv X pins σ H s):∀{ds:List D} {vs:List V} {us:List Value},ft ds=true->aD X.K B H ds vs->Vals vs us->∃as,ReadsAll s.heap us (i3 ds) as
 | [],vs,us,_,r,q=>by unfold aD at r;subst r;cases q;unfold i3;exact⟨_, .nil⟩
 | d ::ds,vs,us,hp,r,q=>by
   obtain⟨x,xs,rfl,r1,r2⟩:=r.b5;cases q with
   | cons q1 q2=>
     unfold ft at hp;obtain⟨h1,h2⟩:=Bool.and_eq_true_iff.mp hp;obtain⟨as,a1⟩:=Rep.reads I h1 r1 q1;obtain⟨bs,a2⟩:=aD.reads I h2 r2 q2;unfold i3;exact⟨_, .cons a1 a2⟩
end
def GL:D->D->R Bool
 | .int i, .int j=> .ok (decide (i=j))
 | .str x, .str y=> .ok (decide (x=y))
 | .bl a, .bl b=> .ok (decide (a=b))
 | d,e=>R.aS (cP d && cP e && SeqAt.shaped (toPy d) && SeqAt.shaped (toPy e)) (.ok (PyData.eqv (toPy d) (toPy e)))
def rL(d e:D):R D:=(GL d e).bind fun b=> .ok (.bl b)
def zO(d e:D):R D:=(GL d e).bind fun b=> .ok (.bl (!b))
theorem pO(hu:X.A.units+64 < cLine):mm X (compareOp .Eq) rL:=by
 intro pins s σ H B da db d x y v u I hb rx ry ra rb hg;obtain⟨b,h1,h2⟩:=R.ah hg;cases h2;unfold GL at h1;split at h1
 .cases h1;rename_i i j;have:=AZ pins s σ H x y v u (fun z H'=>aM H H'/\Rep X.K B H' (.bl (decide (i=j))) z) I rx ry
  rw[Rep.int.mp ra,Rep.int.mp rb] at this;refine this ⟨rfl,aM.refl H,Rep.bl.mpr ?_⟩;simp [V.int.injEq]
 .cases h1;rename_i i j;have:=AZ pins s σ H x y v u (fun z H'=>aM H H'/\Rep X.K B H' (.bl (decide (i=j))) z) I rx ry
  rw[Rep.str.mp ra,Rep.str.mp rb] at this;refine this ⟨rfl,aM.refl H,Rep.bl.mpr ?_⟩;simp [V.str.injEq]
 .cases h1;rename_i i j;have:=AZ pins s σ H x y v u (fun z H'=>aM H H'/\Rep X.K B H' (.bl (decide (i=j))) z) I rx ry
  rw[Rep.bl.mp ra,Rep.bl.mp rb] at this;refine this ⟨rfl,aM.refl H,Rep.bl.mpr ?_⟩;simp [V.bl.injEq]
 .obtain⟨h3,h4⟩:=R.aO h1;cases h4;simp only[Bool.and_eq_true] at h3;obtain⟨⟨⟨p1,p2⟩,s1⟩,s2⟩:=h3;obtain⟨as,r1⟩:=ra.reads I p1 rx;obtain⟨bs,r2⟩:=rb.reads I p2 ry;exact eq_dataH r1 r2 s1 s2 hu ⟨.bl _,H,I,rfl,aM.refl H,Rep.bl.mpr rfl⟩
theorem Cw(hu:X.A.units+64 < cLine):mm X (compareOp .NotEq) zO:=by
 intro pins s σ H B da db d x y v u I hb rx ry ra rb hg;obtain⟨b,h1,h2⟩:=R.ah hg;cases h2;unfold GL at h1;split at h1
 .cases h1;rename_i i j;have:=Br pins s σ H x y v u (fun z H'=>aM H H'/\Rep X.K B H' (.bl (!decide (i=j))) z) I rx ry
  rw[Rep.int.mp ra,Rep.int.mp rb] at this;refine this ⟨rfl,aM.refl H,Rep.bl.mpr ?_⟩;simp [V.int.injEq]
 .cases h1;rename_i i j;have:=Br pins s σ H x y v u (fun z H'=>aM H H'/\Rep X.K B H' (.bl (!decide (i=j))) z) I rx ry
  rw[Rep.str.mp ra,Rep.str.mp rb] at this;refine this ⟨rfl,aM.refl H,Rep.bl.mpr ?_⟩;simp [V.str.injEq]
 .cases h1;rename_i i j;have:=Br pins s σ H x y v u (fun z H'=>aM H H'/\Rep X.K B H' (.bl (!decide (i=j))) z) I rx ry
  rw[Rep.bl.mp ra,Rep.bl.mp rb] at this;refine this ⟨rfl,aM.refl H,Rep.bl.mpr ?_⟩;simp [V.bl.injEq]
 .obtain⟨h3,h4⟩:=R.aO h1;cases h4;simp only[Bool.and_eq_true] at h3;obtain⟨⟨⟨p1,p2⟩,s1⟩,s2⟩:=h3;obtain⟨as,r1⟩:=ra.reads I p1 rx;obtain⟨bs,r2⟩:=rb.reads I p2 ry;exact ne_dataH r1 r2 s1 s2 hu ⟨.bl _,H,I,rfl,aM.refl H,Rep.bl.mpr rfl⟩
def strs?:List D->Option (List Str)
 | []=>some []
 | .str x ::ds=>(strs? ds).map (x ::·)
 | _ ::_=>none
theorem iC{K:W.Frag}{B:List Addr}:∀{ds:List D} {xs:List V} {ss:List Str},aD K B H ds xs->strs? ds=some ss->xs=ss.map V.str
 | [],xs,ss,r,h=>by unfold aD at r;subst r;cases h;rfl
 | d ::ds,xs,ss,r,h=>by
   obtain⟨x,r',rfl,r1,r2⟩:=r.b5;cases d with
   | str z=>
     unfold strs? at h;cases e:strs? ds with
     | none=>rw [e] at h;cases h
     | some tt=>
       rw[e] at h;cases h;rw[Rep.str.mp r1,iC r2 e];rfl
   | _=>cases h
def ints?:List D->Option (List Int)
 | []=>some []
 | .int x ::ds=>(ints? ds).map (x ::·)
 | _ ::_=>none
theorem e_{K:W.Frag}{B:List Addr}:∀{ds:List D} {xs:List V} {ss:List Int},aD K B H ds xs->ints? ds=some ss->xs=ss.map V.int
 | [],xs,ss,r,h=>by unfold aD at r;subst r;cases h;rfl
 | d ::ds,xs,ss,r,h=>by
   obtain⟨x,r',rfl,r1,r2⟩:=r.b5;cases d with
   | int z=>
     unfold ints? at h;cases e:ints? ds with
     | none=>rw [e] at h;cases h
     | some tt=>
       rw[e] at h;cases h;rw[Rep.int.mp r1,e_ r2 e];rfl
   | _=>cases h
def inD(d e:D):R Bool:=match d,e with
 | .str x, .lst ds=>(match strs? ds with | some ss=> .ok (ss.contains x) | none=> .no)
 | .str x, .tup ds=>(match strs? ds with | some ss=> .ok (ss.contains x) | none=> .no)
 | .str x, .str y=> .ok (!(Builtin.Str.occurrences y x 0 y.length 1).isEmpty)
 | .int x, .lst ds=>(match ints? ds with | some ss=> .ok (ss.contains x) | none=> .no)
 | .int x, .tup ds=>(match ints? ds with | some ss=> .ok (ss.contains x) | none=> .no)
 | _,_=> .no
def yi(d e:D):R D:=(inD d e).bind fun b=> .ok (.bl b)
def jB(d e:D):R D:=(inD d e).bind fun b=> .ok (.bl (!b))
theorem qy(x:Str):∀ss:List Str,Gu (.str x) (ss.map V.str)=ss.contains x
 | []=>rfl
 | y ::ss=>by
   unfold Gu;rw[List.map_cons,List.any_cons];have ih:=qy x ss;unfold Gu at ih;rw[ih];show(y==x || ss.contains x)=_
   rw[List.contains_cons];congr 1;exact Bool.eq_iff_iff.mpr ⟨fun h=>by simpa using(beq_iff_eq.mp h).symm,fun h=>by simpa using(beq_iff_eq.mp h).symm⟩
theorem qq(x:Int):∀ss:List Int,Gu (.int x) (ss.map V.int)=ss.contains x
 | []=>rfl
 | y ::ss=>by
   unfold Gu;rw[List.map_cons,List.any_cons];have ih:=qq x ss;unfold Gu at ih;rw[ih];show(y==x || ss.contains x)=_
   rw[List.contains_cons];congr 1;exact Bool.eq_iff_iff.mpr ⟨fun h=>by simpa using(beq_iff_eq.mp h).symm,fun h=>by simpa using(beq_iff_eq.mp h).symm⟩
theorem r9(ss:List Int):(ss.map V.int).all kM=true:=by
 rw[List.all_map];simp [List.all_eq_true,kM]
theorem rX(ss:List Str):(ss.map V.str).all kM=true:=by
 rw[List.all_map];simp [List.all_eq_true,kM]
theorem BX{neg:Bool}{op:CmpOp}{g:D->D->R D}(h1:my X (compareOp op) (Ob X.K neg))(h2:my X (compareOp op) (fun x y H Q=>∃i j,x= .str i/\y= .str j/\Q (.bl (if neg then !(!(Builtin.Str.occurrences j i 0 j.length 1).isEmpty) else(!(Builtin.Str.occurrences j i 0 j.length 1).isEmpty))) H))
 (hg:∀d e r,g d e= .ok r->∃b,inD d e= .ok b/\r= .bl (if neg then !b else b)):mm X (compareOp op) g:=by
 intro pins s σ H B da db d x y v u I hb rx ry ra rb hg';obtain⟨b,hi,rfl⟩:=hg da db d hg';unfold inD at hi;split at hi
 .rename_i z ds;split at hi
  .rename_i ss e;cases hi;obtain⟨a,xs,rfl,l,rs⟩:=Rep.lst.mp rb;refine h1 pins s σ H x _ v u _ I rx ry ⟨a,xs,rfl, .inl l.sq,by rw[Rep.str.mp ra];rfl,by rw[iC rs e];exact rX _,aM.refl H,Rep.bl.mpr ?_⟩
   rw[iC rs e,Rep.str.mp ra,qy]
  .cases hi
 .rename_i z ds;split at hi
  .rename_i ss e;cases hi;obtain⟨a,xs,rfl,l,rs⟩:=Rep.tup.mp rb;refine h1 pins s σ H x _ v u _ I rx ry ⟨a,xs,rfl, .inr l.sq,by rw[Rep.str.mp ra];rfl,by rw[iC rs e];exact rX _,aM.refl H,Rep.bl.mpr ?_⟩
   rw[iC rs e,Rep.str.mp ra,qy]
  .cases hi
 .cases hi;exact h2 pins s σ H x y v u _ I rx ry ⟨_,_,Rep.str.mp ra,Rep.str.mp rb,aM.refl H,Rep.bl.mpr rfl⟩
 .rename_i z ds;split at hi
  .rename_i ss e;cases hi;obtain⟨a,xs,rfl,l,rs⟩:=Rep.lst.mp rb;refine h1 pins s σ H x _ v u _ I rx ry ⟨a,xs,rfl, .inl l.sq,by rw[Rep.int.mp ra];rfl,by rw[e_ rs e];exact r9 _,aM.refl H,Rep.bl.mpr ?_⟩
   rw[e_ rs e,Rep.int.mp ra,qq]
  .cases hi
 .rename_i z ds;split at hi
  .rename_i ss e;cases hi;obtain⟨a,xs,rfl,l,rs⟩:=Rep.tup.mp rb;refine h1 pins s σ H x _ v u _ I rx ry ⟨a,xs,rfl, .inr l.sq,by rw[Rep.int.mp ra];rfl,by rw[e_ rs e];exact r9 _,aM.refl H,Rep.bl.mpr ?_⟩
   rw[e_ rs e,Rep.int.mp ra,qq]
  .cases hi
 .cases hi
theorem zV:mm X (compareOp .In) yi:=BX (neg:=false) Ah zW fun d e r h=>by
 obtain⟨b,h1,h2⟩:=R.ah h;cases h2;exact⟨b,h1,rfl⟩
theorem p7:mm X (compareOp .NotIn) jB:=BX (neg:=true) tR sN fun d e r h=>by
 obtain⟨b,h1,h2⟩:=R.ah h;cases h2;exact⟨b,h1,rfl⟩
def dC(d e:D):R D:=match d,e with
 | .lst ds, .int i=>(match um ds i with | some x=> .ok x | none=> .no)
 | .tup ds, .int i=>(match um ds i with | some x=> .ok x | none=> .no)
 | .str x, .int i=>R.aS (decide (x.length<=sizeLine)) (match um x.cps.toList i with | some c=> .ok (.str ⟨#[c]⟩) | none=> .no)
 | _,_=> .no
theorem ve{K:W.Frag}{B:List Addr}{ds:List D}{xs:List V}{i:Int}{d:D}(r:aD K B H ds xs)(h:um ds i=some d):∃x,um xs i=some x/\Rep K B H d x:=by
 unfold um at h ⊢;rw[<-r.length];cases e:CY ds.length i with
 | none=>rw [e] at h;cases h
 | some j=>
   rw[e] at h;exact r.get h
theorem LJ(ha:PD X a fa)(hb:PD X b fb)(hs:s_ b):PD X (.Subscript a b pos) (e2 dC fa fb):=by
 refine(Lp (r:=Rg X.K) Jw ha hb hs).imp fun σ H Q ⟨Z,B,δ,d,E,hf,q⟩=>?_
 obtain⟨d1,h1,h2⟩:=R.ah hf;obtain⟨d2,h3,h4⟩:=R.ah h2;refine⟨Z,B,δ,d1,E,h1,fun v1 H1 s1 r1=>⟨Z,B,δ,d2,E.same s1,h3,fun v2 H2 s2 r2=>?_⟩⟩
 have zt:=r1.same s2;unfold dC at h4;split at h4
 .split at h4
  .rename_i e;cases h4;obtain⟨p,xs,rfl,l,rs⟩:=Rep.lst.mp zt;obtain⟨y,e1,e2⟩:=ve rs e;exact .inl ⟨p,xs,_,y,rfl,Rep.int.mp r2,l.sq,e1,q y H2 (s1.trans s2) e2⟩
  .cases h4
 .split at h4
  .rename_i e;cases h4;obtain⟨p,xs,rfl,l,rs⟩:=Rep.tup.mp zt;obtain⟨y,e1,e2⟩:=ve rs e;exact .inr (.inl ⟨p,xs,_,y,rfl,Rep.int.mp r2,l.sq,e1,q y H2 (s1.trans s2) e2⟩)
  .cases h4
 .obtain⟨hl,h5⟩:=R.aO h4;split at h5
  .rename_i e;cases h5;exact .inr (.inr ⟨_,_,_,Rep.str.mp zt,Rep.int.mp r2,of_decide_eq_true hl,e,q _ H2 (s1.trans s2) (Rep.str.mpr rfl)⟩)
  .cases h5
 .cases h4
abbrev FO:=ao->R (Option Int)
def RM(K:W.Frag)(f:FO):TO:=fun σ H Q=>∃Z B δ o,dr K Z B H σ δ/\f δ= .ok o/\∀H',aM H H'->Q o H'
theorem PO.imp{X:Cx}{e:Option Expr}{t t':TO}(h:PO X e t)(w:∀σ H Q,t' σ H Q->t σ H Q):PO X e t':=fun pins s σ H Q I hq=>h pins s σ H Q I (w σ H Q hq)
abbrev PP(X:Cx)(e:Option Expr)(f:FO):Prop:=PO X e (RM X.K f)
def jK:FO:=fun _=> .ok none
def g6(f:FD):FO:=fun δ=>(f δ).bind fun d=>match d with | .int i=> .ok (some i) | _=> .no
theorem Em:PP X none jK:=Ei.imp fun σ H Q ⟨Z,B,δ,o,E,hf,q⟩=>by cases hf;exact q H (aM.refl H)
theorem F4(h:PD X e f):PP X (some e) (g6 f):=(E7 h).imp fun σ H Q ⟨Z,B,δ,o,E,hf,q⟩=>by
 obtain⟨d,h1,h2⟩:=R.ah hf;cases d with
 | int i=>cases h2;exact⟨Z,B,δ, .int i,E,h1,fun v H1 s1 r1=>⟨i,Rep.int.mp r1,q H1 s1⟩⟩
 | _=>cases h2
theorem Jh:Jf X (fun x lo hi H Q=>∃z,x= .str z/\z.length<=sizeLine/\Q (.str (Txt.slice z lo hi)) H):=by
 intro pins s σ H x v vl vu lo hi sl Q I rx hs pl pu h;obtain⟨z,rfl,hz,q⟩:=h;obtain⟨t,rfl⟩:=rx;refine⟨"str",_,F.slot_str_getitem.lookup,typeIs_str _ _ _,?_⟩;have fin:∀t' k,EP X pins σ Q (.str (Txt.slice z lo hi) t') {s with toks:=k}:=fun t' k=>⟨.str _,H,I.tok _,⟨_,rfl⟩,q⟩
 obtain⟨o,ho,hc,hd⟩:=hs;cases pl with
 | none=>
   cases pu with
   | none=>exact wpAny_getItem_str_slice (l:=none) (u:=none) (st:=none) ⟨o,ho,hc,hd⟩ rfl (post_val_or_str ⟨Nat.le_trans (Txt.slice_le z _ _) hz,fin⟩)
   | int j u=>exact wpAny_getItem_str_slice (l:=none) (u:=some (j,u)) (st:=none) ⟨o,ho,hc,hd⟩ rfl (post_val_or_str ⟨Nat.le_trans (Txt.slice_le z _ _) hz,fin⟩)
 | int i t1=>
   cases pu with
   | none=>exact wpAny_getItem_str_slice (l:=some (i,t1)) (u:=none) (st:=none) ⟨o,ho,hc,hd⟩ rfl (post_val_or_str ⟨Nat.le_trans (Txt.slice_le z _ _) hz,fin⟩)
   | int j u=>exact wpAny_getItem_str_slice (l:=some (i,t1)) (u:=some (j,u)) (st:=none) ⟨o,ho,hc,hd⟩ rfl (post_val_or_str ⟨Nat.le_trans (Txt.slice_le z _ _) hz,fin⟩)
def cutD{α:Type}(xs:List α)(lo hi:Option Int):List α:=(xs.drop (HT.pK xs.length 0 lo)).take (HT.pK xs.length xs.length hi - HT.pK xs.length 0 lo)
def GA(d:D)(lo hi:Option Int):R D:=match d with
 | .str x=>R.aS (decide (x.length<=sizeLine)) (.ok (.str (Txt.slice x lo hi)))
 | .lst ds=> .ok (.lst (cutD ds lo hi))
 | _=> .no
theorem Bs{K:W.Frag}{B:List Addr}{ds:List D}{xs:List V}(r:aD K B H ds xs)(lo hi:Option Int):aD K B H (cutD ds lo hi) (xu xs lo hi):=by
 unfold cutD xu;rw[<-r.length];exact(r.drop _).take _
def wc(f:FD)(fl fh:FO):FD:=fun δ=>(f δ).bind fun d=>(fl δ).bind fun lo=>(fh δ).bind fun hi=>GA d lo hi
theorem Kj{lo hi:Option Expr}{fl fh:FO}(he:PD X e f)(hl:PP X lo fl)(hh:PP X hi fh):PD X (.Subscript e (.Slice lo hi none p2) pos) (wc f fl fh):=by
 refine(A0 (Jh.or Fx) he hl hh).imp fun σ H Q ⟨Z,B,δ,d,E,hf,q⟩=>?_
 obtain⟨d1,h1,h2⟩:=R.ah hf;obtain⟨l,h3,h4⟩:=R.ah h2;obtain⟨h,h5,h6⟩:=R.ah h4;refine⟨Z,B,δ,d1,E,h1,fun v1 H1 s1 r1=>⟨Z,B,δ,l,E.same s1,h3,fun H2 s2=>⟨Z,B,δ,h,(E.same s1).same s2,h5,fun H3 s3=>?_⟩⟩⟩
 have sA:aM H H3:=s1.trans (s2.trans s3);have zt:=r1.same (s2.trans s3);unfold GA at h6;split at h6
 .obtain⟨hz,h7⟩:=R.aO h6;cases h7;exact .inl ⟨_,Rep.str.mp zt,of_decide_eq_true hz,q _ H3 sA (Rep.str.mpr rfl)⟩
 .cases h6;obtain⟨a,xs,rfl,ls,rs⟩:=Rep.lst.mp zt;refine .inr ⟨a,xs,rfl,ls.sq,fun p hp=>q _ _ (sA.trans (br hp)) (Rep.lst.mpr ⟨p,_,rfl, .CT aY fun ha=>?_,(Bs rs l h).same (br hp)⟩)⟩
  obtain⟨o,ho⟩:=(E.same sA).bs p ha;rw[hp] at ho;cases ho
 .cases h6
end
end L2
end
section
namespace L2
open PySem PySem.Spec PyProof.Rows
section
variable {X:Cx}
theorem aD.one{K:W.Frag}{B:List Addr}{d:D}{xs:List V}(h:aD K B H [d] xs):∃x,xs=[x]/\Rep K B H d x:=by
 obtain⟨x,r,rfl,h1,h2⟩:=h.b5;unfold aD at h2;subst h2;exact⟨x,rfl,h1⟩
theorem aD.two{K:W.Frag}{B:List Addr}{d e:D}{xs:List V}(h:aD K B H [d,e] xs):∃x y,xs=[x,y]/\Rep K B H d x/\Rep K B H e y:=by
 obtain⟨x,r,rfl,h1,h2⟩:=h.b5;obtain⟨y,rfl,h3⟩:=h2.one;exact⟨x,y,rfl,h1,h3⟩
def jO:List D->R D
 | [.str x]=>R.aS (decide (x.length<=sizeLine)) (.ok (.int x.length))
 | [.lst ds]=> .ok (.int ds.length)
 | [.tup ds]=> .ok (.int ds.length)
 | _=> .no
theorem jj:cI X (.builtin "len") jO:=cI.of AY fun B H ds d xs Q _ rs hg q=>by
 unfold jO at hg;split at hg
 .obtain⟨h1,h2⟩:=R.aO hg;cases h2;obtain⟨x,rfl,r⟩:=rs.one;exact⟨x,_,rfl,by rw[Rep.str.mp r];exact⟨of_decide_eq_true h1,rfl⟩,q _ H (aM.refl H) (Rep.int.mpr rfl)⟩
 .cases hg;obtain⟨x,rfl,r⟩:=rs.one;obtain⟨a,ys,rfl,l,r⟩:=Rep.lst.mp r;exact⟨_,_,rfl, .inl ⟨ys,l.sq,rfl⟩,q _ H (aM.refl H) (Rep.int.mpr (by rw[r.length]))⟩
 .cases hg;obtain⟨x,rfl,r⟩:=rs.one;obtain⟨a,ys,rfl,l,r⟩:=Rep.tup.mp r;exact⟨_,_,rfl, .inr ⟨ys,l.sq,rfl⟩,q _ H (aM.refl H) (Rep.int.mpr (by rw[r.length]))⟩
 .cases hg
def cInt:List D->R D
 | [.int i]=> .ok (.int i)
 | [.bl b]=> .ok (.int (if b then 1 else 0))
 | _=> .no
theorem Ks:cI X (.type "int") cInt:=cI.of Av fun B H ds d xs Q _ rs hg q=>by
 unfold cInt at hg;split at hg
 .cases hg;obtain⟨x,rfl,r⟩:=rs.one;exact .inl ⟨_,by rw[Rep.int.mp r],q _ H (aM.refl H) (Rep.int.mpr rfl)⟩
 .cases hg;obtain⟨x,rfl,r⟩:=rs.one;exact .inr ⟨_,by rw[Rep.bl.mp r],q _ H (aM.refl H) (Rep.int.mpr rfl)⟩
 .cases hg
def cStr:List D->R D
 | [.int i]=>R.aS (decide (i.natAbs.log2 < 1920)) (.ok (.str (toString i)))
 | _=> .no
theorem K2:cI X (.type "str") cStr:=cI.of ue fun B H ds d xs Q _ rs hg q=>by
 unfold cStr at hg;split at hg
 .obtain⟨h1,h2⟩:=R.aO hg;cases h2;obtain⟨x,rfl,r⟩:=rs.one;exact⟨_,by rw[Rep.int.mp r],of_decide_eq_true h1,q _ H (aM.refl H) (Rep.str.mpr rfl)⟩
 .cases hg
def CB:List D->R D
 | [.int i, .int j]=> .ok (.int (if j < i then j else i))
 | _=> .no
theorem KL(hc:X.calm=true):cI X (.builtin "min") CB:=cI.of (zA hc) fun B H ds d xs Q _ rs hg q=>by
 unfold CB at hg;split at hg
 .cases hg;obtain⟨x,y,rfl,r1,r2⟩:=rs.two;exact⟨_,_,by rw[Rep.int.mp r1,Rep.int.mp r2],q _ H (aM.refl H) (Rep.int.mpr rfl)⟩
 .cases hg
def MW:List D->R D
 | [.int i, .int j]=> .ok (.int (if j > i then j else i))
 | _=> .no
def uf:List D->R D
 | [.lst ds]=> .ok (.tup ds)
 | [.tup ds]=> .ok (.tup ds)
 | _=> .no
theorem yH:cI X (.type "tuple") uf:=cI.of rH fun B H ds d xs Q hb rs hg q=>by
 unfold uf at hg;split at hg
 .cases hg;obtain⟨x,rfl,r⟩:=rs.one;obtain⟨a,ys,rfl,l,r⟩:=Rep.lst.mp r;refine⟨a,ys,rfl, .inl ⟨l.sq,fun p hp=>q _ _ (br hp) (Rep.tup.mpr ⟨p,ys,rfl, .inl ⟨fun ha=>?_, .inl aY⟩,r.same (br hp)⟩)⟩⟩
  obtain⟨o,ho⟩:=hb p ha;rw[hp] at ho;cases ho
 .cases hg;obtain⟨x,rfl,r⟩:=rs.one;have r0:=r;obtain⟨a,ys,rfl,l,r⟩:=Rep.tup.mp r;exact⟨a,ys,rfl, .inr ⟨l.sq,q _ H (aM.refl H) r0⟩⟩
 .cases hg
def Rh:List D->R D
 | [.lst ds]=> .ok (.lst ds)
 | [.tup ds]=> .ok (.lst ds)
 | _=> .no
def cAbs:List D->R D
 | [.int i]=> .ok (.int (if i < 0 then -i else i))
 | _=> .no
def H_:List D->R D
 | [.lst ds]=>(match ints? ds with | some ns=> .ok (.int ns.sum) | none=> .no)
 | _=> .no
theorem gI:∀{ns:List Int} {us:List Value},Vals (ns.map V.int) us->∃l:List (Int × Tok),us=l.map (fun p=>Value.int p.1 p.2)/\l.map (·.1)=ns
 | [],_, .nil=>⟨[],rfl,rfl⟩
 | n ::ns,_, .cons r t=>by
   obtain⟨l,rfl,e⟩:=gI t;obtain⟨tk,rfl⟩:=r;exact⟨(n,tk) ::l,rfl,by rw[List.map_cons,e]⟩
theorem Kf(hc:X.calm=true):cI X (.builtin "sum") H_:=by
 intro pins s σ H B ds d xs us I hb rx rs hg;unfold H_ at hg;split at hg
 .split at hg
  .rename_i es ns e;cases hg;obtain⟨x,rfl,r⟩:=rs.one;obtain⟨a,ys,rfl,l,r⟩:=Rep.lst.mp r;obtain⟨u,rfl,ru⟩:=vals1 rx;cases ru;obtain⟨its,n,rv,e1,hz⟩:=I.Il l;rw[e_ r e] at rv;obtain⟨ps,rfl,rfl⟩:=gI rv;have hl:s.heap.IsList a (intItems ps.toArray):=⟨_,e1,rfl,n,by simp [intItems]⟩
   refine sum_intListG (I.ok.hd hc) hl fun h' tk t' k=>⟨.int _,H,I.kept k,⟨t',rfl⟩,aM.refl H,Rep.int.mpr ?_⟩
   rw[preSum_eq,List.take_of_length_le (by simp)]
  .cases hg
 .cases hg
def tyName:D->String
 | .cH=>"NoneType" | .bl _=>"bool" | .int _=>"int" | .str _=>"str" | .lst _=>"list" | .tup _=>"tuple" | .dct _ _=>"dict"
def SD(T:String)(f:FD):FD:=fun δ=>(f δ).bind fun d=>R.aS (tyName d==T && d.atom) (.ok (.bl true))
def JX(X:Cx)(id:String)(g:D->List D->R D):Prop:=
 ∀(pins:V6) (s:Shared) (σ:St) (H:Hp) (B:List Addr) (da d:D) (ds:List D) (x:V) (xs:List V) (v:Value) (us:List Value),Inv X pins σ H s->(∀a∈B,∃o,H a=some o)->RelV x v->Vals xs us->Rep X.K B H da x->aD X.K B H ds xs->g da ds= .ok d->
  wpAny (model X.prog X.w) X.A (call (.builtin id) (v ::us)) (EP X pins σ fun z H'=>aM H H'/\Rep X.K B H' d z) X.xe s
def rq(T:String)(g:D->List D->R D)(f:FD)(fs:ao->R (List D)):FD:=fun δ=>(f δ).bind fun d=>R.aS (tyName d==T && (d.atom || T=="list")) ((fs δ).bind fun ds=>g d ds)
theorem JX.r{id:String}{g:D->List D->R D}(h:JX X id g):Rf X id (fun x xs H Q=>∃B da ds d,(∀a∈B,∃o,H a=some o)/\Rep X.K B H da x/\aD X.K B H ds xs/\g da ds= .ok d/\∀z H',aM H H'->Rep X.K B H' d z->Q z H'):=by
 intro pins s σ H x xs v us Q I rx rxs ⟨B,da,ds,d,hb,ra,rs,hg,q⟩;exact cO (h pins s σ H B da d ds x xs v us I hb rx rxs ra rs hg) fun z s' ⟨zv,H',I',r',s1,r1⟩=>⟨zv,H',I',r',q zv H' s1 r1⟩
theorem Cc{T id:String}{name:Str}{g:D->List D->R D}{o e:Expr}{es:List Expr}{f:FD}{fs:ao->R (List D)}{apos bg:Pos}(pa:PlainAttrs T)(slot:Slot T name id)(DN:typeOf (.builtin id)=pure (.type "method_descriptor"))(hm:JX X id g)(ho:PD X o f)(ha:AK X (e ::es) fs)
 (hT:T="str"\/T="int"\/T="list")
 (fU:attributeBase o name X.env (eval o X.env)=eval o X.env:=by rfl)
 (kz:((backTo bg (starEach (e ::es) X.env)).all (fun x=>!x.1) && (backToKw bg (keywordEach [] X.env)).all (fun x=>x.1.isSome)
   && decide ((e ::es).length+([]:List Keyword).length+(if([]:List Keyword).isEmpty then 0 else 1) < 30))=true:=by rfl)
 (fS:(apos.endLine==bg.line)=true:=by rfl) (hs:starEach (e ::es) X.env=(false,eval e X.env) ::starEach es X.env:=by rfl) (xY:(backTo bg (starEach es X.env)).any (·.1)=false:=by rfl) :
 PD X (.Call (.Attribute o name apos) (e ::es) [] bg) (rq T g f fs):=by
 refine(zg pa slot DN hm.r ho ha fU kz fS hs xY).imp fun σ H Q ⟨Z,B,δ,d,E,hf,q⟩=>?_
 obtain⟨d1,h1,h2⟩:=R.ah hf;obtain⟨h3,h4⟩:=R.aO h2;obtain⟨ds,h5,h6⟩:=R.ah h4;obtain⟨h7,h8⟩:=Bool.and_eq_true_iff.mp h3;have h7:tyName d1=T:=by simpa using h7
 refine⟨Z,B,δ,d1,E,h1,fun v1 H1 s1 r1=>⟨?_,Z,B,δ,ds,E.same s1,h5,fun vs H2 s2 r2=>⟨B,d1,ds,d,(E.same (s1.trans s2)).bs,r1.same s2,r2,h6,fun z H' s3 r3=>q z H' (s1.trans (s2.trans s3)) r3⟩⟩⟩
 cases d1 with
 | str z=>rw [Rep.str.mp r1];exact h7.symm
 | int i=>rw [Rep.int.mp r1];exact h7.symm
 | lst es=>obtain⟨a,xs,rfl,l,_⟩:=Rep.lst.mp r1;exact .inl ⟨h7.symm,xs,l.sq⟩
 | cH=>rcases hT with z | z | z <;> (rw [z] at h7;exact absurd (show("NoneType":String)=_ from h7) (by decide))
 | bl _=>rcases hT with z | z | z <;> (rw [z] at h7;exact absurd (show("bool":String)=_ from h7) (by decide))
 | tup _=>rcases hT with z | z | z <;> (rw [z] at h7;exact absurd (show("tuple":String)=_ from h7) (by decide))
 | dct _ _=>rcases hT with z | z | z <;> (rw [z] at h7;exact absurd (show("dict":String)=_ from h7) (by decide))
theorem sf:∀{ss:List Str} {us:List Value},Vals (ss.map V.str) us->∃l:List (Str × Tok),us=strValues l/\l.map (·.1)=ss
 | [],_, .nil=>⟨[],rfl,rfl⟩
 | n ::ns,_, .cons r t=>by
   obtain⟨l,rfl,e⟩:=sf t;obtain⟨tk,rfl⟩:=r;exact⟨(n,tk) ::l,rfl,by rw[List.map_cons,e]⟩
def eR(d:D)(ds:List D):R D:=match d,ds with
 | .str sep,[.lst es]=>(match strs? es with | some ss=>R.aS (JoinOk sep ss) (.ok (.str (Str.join sep ss))) | none=> .no)
 | _,_=> .no
theorem Hf:JX X "str.join" eR:=by
 intro pins s σ H B da d ds x xs v us I hb rx rxs ra rs hg;unfold eR at hg;split at hg
 .split at hg
  .rename_i sep es ss e;obtain⟨h1,h2⟩:=R.aO hg;cases h2;rw[Rep.str.mp ra] at rx;obtain⟨t,rfl⟩:=rx;obtain⟨y,rfl,r⟩:=rs.one;obtain⟨a,ys,rfl,l,r⟩:=Rep.lst.mp r;obtain⟨u,rfl,ru⟩:=vals1 rxs;cases ru;obtain⟨its,n,rv,e1,hz⟩:=I.Il l;rw[iC r e] at rv;obtain⟨ps,rfl,rfl⟩:=sf rv;refine SC.join (D:=a) (l:=ps) ⟨_,e1,rfl,n,rfl⟩ rfl h1 fun t' k=>⟨.str _,H,I.tok _,⟨t',rfl⟩,aM.refl H,Rep.str.mpr ?_⟩
   rw[<-StrLaws.glued_eq_join];rfl
  .cases hg
 .cases hg
theorem D7{o e:Expr}{f:FD}{fs:ao->R (List D)}{apos bg:Pos}(ho:PD X o f)(ha:AK X [e] fs)
 (fU:attributeBase o "join" X.env (eval o X.env)=eval o X.env:=by rfl)
 (kz:((backTo bg (starEach [e] X.env)).all (fun x=>!x.1) && (backToKw bg (keywordEach [] X.env)).all (fun x=>x.1.isSome)
   && decide (([e]:List Expr).length+([]:List Keyword).length+(if([]:List Keyword).isEmpty then 0 else 1) < 30))=true:=by rfl)
 (fS:(apos.endLine==bg.line)=true:=by rfl) (hs:starEach [e] X.env=(false,eval e X.env) ::starEach [] X.env:=by rfl) :
 PD X (.Call (.Attribute o "join" apos) [e] [] bg) (rq "str" eR f fs):=Cc F.plainAttrs_str F.slot_str_join F.type_str_join Hf ho ha (.inl rfl) fU kz fS hs
abbrev PJ(X:Cx)(es:List Expr)(f:ao->R (List Str)):Prop:=
 ∀(pins:V6) (s:Shared) (σ:St) (H:Hp) (Z B:List Addr) (δ:ao) (acc:Str) (ss:List Str) (Q:VK),Inv X pins σ H s->dr X.K Z B H σ δ->f δ= .ok ss->(ss.foldl (·++·) acc).length<=sizeLine->(∀H',aM H H'->Q (.str (ss.foldl (·++·) acc)) H')->
  wpAny (model X.prog X.w) X.A (joinParts acc (evalEach es X.env)) (EP X pins σ Q) X.xe s
theorem sG:∀(ss:List Str) (acc:Str),acc.length<=(ss.foldl (·++·) acc).length
 | [],acc=>Nat.le_refl _
 | s ::ss,acc=>Nat.le_trans (by rw[Str.length_append];exact Nat.le_add_right _ _) (sG ss (acc++s))
def mT:ao->R (List Str):=fun _=> .ok []
def bM(f:FD)(g:ao->R (List Str)):ao->R (List Str):=fun δ=>(f δ).bind fun d=>match d with | .str x=>(g δ).bind fun ss=> .ok (x ::ss) | _=> .no
theorem IB:PJ X [] mT:=by
 intro pins s σ H Z B δ acc ss Q I E hf hl q;cases hf;exact joinParts_nil ⟨.str _,H,I.tok _,⟨_,rfl⟩,q H (aM.refl H)⟩ hl
theorem D6{g:ao->R (List Str)}(he:PD X e f)(hr:PJ X es g)(OC:evalEach (e ::es) X.env=eval e X.env ::evalEach es X.env:=by rfl):PJ X (e ::es) (bM f g):=by
 intro pins s σ H Z B δ acc ss Q I E hf hl q;rw[OC];obtain⟨d,h1,h2⟩:=R.ah hf;cases d with
 | str x=>
   obtain⟨Rp,h3,h4⟩:=R.ah h2;cases h4;refine joinParts_cons (cO (he pins s σ H (fun v H'=>aM H H'/\v= .str x) I ⟨Z,B,δ, .str x,E,h1,fun v H' s1 r1=>⟨s1,Rep.str.mp r1⟩⟩) fun v s1 ⟨xv,H1,I1,r1,JO,e1⟩=>?_)
   subst e1;obtain⟨t,rfl⟩:=r1;exact⟨Nat.le_trans (sG Rp (acc++x)) hl,hr pins s1 σ H1 Z B δ (acc++x) Rp Q I1 (E.same JO) h3 hl fun H' s2=>q H' (JO.trans s2)⟩
 | _=>cases h2
def cZ(g:ao->R (List Str)):FD:=fun δ=>(g δ).bind fun ss=>R.aS (decide ((ss.foldl (·++·) Str.empty).length<=sizeLine)) (.ok (.str (ss.foldl (·++·) Str.empty)))
theorem zN{rest:List Expr}{g:ao->R (List Str)}(h:PJ X (Dt ::Du ::rest) g):PD X (.JoinedStr (Dt ::Du ::rest) pos) (cZ g):=by
 intro pins s σ H Q I ⟨Z,B,δ,d,E,hf,q⟩;obtain⟨ss,h1,h2⟩:=R.ah hf;obtain⟨h3,h4⟩:=R.aO h2;cases h4;rw[arm_eval_JoinedStr];exact h pins s σ H Z B δ Str.empty ss Q I E h1 (of_decide_eq_true h3) fun H' s1=>q _ H' s1 (Rep.str.mpr rfl)
def Ey:D->R D
 | .str x=>R.aS (decide (x.length<=sizeLine)) (.ok (.str x))
 | .int i=>R.aS (decide (i.natAbs.log2 < 1920)) (.ok (.str (toString i)))
 | _=> .no
def jS(f:FD):FD:=fun δ=>(f δ).bind Ey
theorem JG(h:PD X e f):PD X (.FormattedValue e (-1) none pos) (jS f):=by
 intro pins s σ H Q I ⟨Z,B,δ,d,E,hf,q⟩;obtain⟨d1,h1,h2⟩:=R.ah hf;refine FormattedValue_plain (cO (h pins s σ H (fun v H'=>aM H H'/\Rep X.K B H' d1 v) I ⟨Z,B,δ,d1,E,h1,fun v H' s1 r1=>⟨s1,r1⟩⟩) fun v s1 ⟨xv,H1,I1,r1,JO,e1⟩=>?_)
 unfold Ey at h2;split at h2
 .obtain⟨h3,h4⟩:=R.aO h2;cases h4;rw[Rep.str.mp e1] at r1;obtain⟨t,rfl⟩:=r1;exact formatField_str (fun t' tk=>⟨.str _,H1,I1.tok _,⟨_,rfl⟩,q _ H1 JO (Rep.str.mpr rfl)⟩) (of_decide_eq_true h3)
 .obtain⟨h3,h4⟩:=R.aO h2;cases h4;rw[Rep.int.mp e1] at r1;obtain⟨t,rfl⟩:=r1;exact formatField_int_small (of_decide_eq_true h3) ⟨.str _,H1,I1.tok _,⟨_,rfl⟩,q _ H1 JO (Rep.str.mpr rfl)⟩
 .cases h2
def Kk:List (D × D)->Str->R (Option D)
 | [],_=> .ok none
 | (.str y,d) ::r,x=>(Kk r x).bind fun o=> .ok (match o with | some e=>some e | none=>if y=x then some d else none)
 | _ ::_,_=> .no
def zi(x:Str):List D:=x.cps.toList.map fun c=> .str ⟨#[c]⟩
def R_(x:Str):It:=⟨fun i _=>i < x.cps.size,fun i H v H'=>H'=H/\∃c,x.cps[i]? =some c/\v= .str ⟨#[c]⟩,fun i _=>x.cps.size<=i⟩
theorem Bg{K:W.Frag}(it:Addr)(x:Str)(t:Tok)(ty:String)(DN:ty="str_ascii_iterator"\/ty="str_iterator"):Turn P w K tg (R_ x) [it] it (fun i h=>h.IsStrIter it ty x t i/\i<=x.cps.size) where
 mem:=by simp
 obj:=fun i h st b hb=>by
  have e:b=it:=by simpa using hb
  subst e;obtain⟨o,e,c,d⟩:=st.1;exact⟨o,e,fun v z=>by rw[d] at z;cases z⟩
 keep:=fun i h h' st k=>⟨let⟨o,ho,r⟩:=st.1;⟨o,k it (by simp) o ho,r⟩,st.2⟩
 item:=by
  intro X hP hw hK hc i pins s σ H E I hf st hg;subst hP hw hK;obtain⟨f0,f1,f2,f3,f4,f5⟩:=hf it (by simp)
  have W:Walks X.prog X.w X.A it [it] [it] x.cps.size (SignAt x) (fun i h=>h.IsStrIter it ty x t i):=by
   rcases DN with rfl | rfl
   .exact Walks.strAscii (I.ok.hd hc) it x t
   .exact Walks.strWide (I.ok.hd hc) it x t
  refine W.item i s _ _ hg st.1 fun v h' tk hv Dz kk=>?_
  obtain⟨c,u,e1,rfl⟩:=hv;have I1:Inv X pins σ H {s with heap:=h',toks:=tk}:=I.turned (fun b o hb e=>kk b o (by simpa using hb) e) f0 f1 f3 f4 f5
  obtain⟨o,e,cl,d⟩:=id Dz;refine⟨_,rfl,yj (s:={s with heap:=h',toks:=tk}) (n:=ty) e cl d ?_ ⟨.str ⟨#[c]⟩,H,I1,⟨u,rfl⟩,⟨rfl,c,e1,rfl⟩,⟨Dz,hg⟩,fun b hb=>(hf b hb).1⟩⟩
  rcases DN with rfl | rfl <;> decide
 done:=by
  intro X hP hw hK hc i pins s σ H E I hf st hg;subst hP hw hK;obtain⟨f0,f1,f2,f3,f4,f5⟩:=hf it (by simp)
  have W:Walks X.prog X.w X.A it [it] [it] x.cps.size (SignAt x) (fun i h=>h.IsStrIter it ty x t i):=by
   rcases DN with rfl | rfl
   .exact Walks.strAscii (I.ok.hd hc) it x t
   .exact Walks.strWide (I.ok.hd hc) it x t
  have e:i=x.cps.size:=Nat.le_antisymm st.2 hg;exact W.done s _ _ (e▸st.1) fun h' tk kk=>⟨rfl,I.turned (fun b o hb e=>kk b o (by simpa using hb) e) f0 f1 f3 f4 f5⟩
 self:=fun A i s Q E st h=>by
  rcases DN with rfl | rfl
  .exact wpAny_pyIter_striter_ascii st.1 h
  .exact wpAny_pyIter_striter_wide st.1 h
def Ck(f:FD):ao->R (List D):=fun δ=>(f δ).bind fun d=>match d with | .str x=> .ok (zi x) | _=> .no
theorem ED(h:PD X e f):Fg X tg e (Ck f):=by
 intro pins s σ H RR I ⟨Z,B,δ,ds,E,hf,q⟩;obtain⟨d,h1,h2⟩:=R.ah hf;refine cO (h pins s σ H (fun v H1=>aM H H1/\Rep X.K B H1 d v) I ⟨Z,B,δ,d,E,h1,fun v H1 s1 r1=>⟨s1,r1⟩⟩) fun v s1 ⟨x,H1,I1,r1,ss,rr⟩=>?_
 cases d with
 | str z=>
   cases h2;rw[Rep.str.mp rr] at r1;obtain⟨t,rfl⟩:=r1;refine wpAny_pyIter_strU ?_;have DN:strIterType z="str_ascii_iterator"\/strIterType z="str_iterator":=by
    unfold strIterType;split
    .exact .inl rfl
    .exact .inr rfl
   refine⟨s1.heap.objs.size,[s1.heap.objs.size],_,_,H1,rfl,I1.kept (t':=s1.toks) fun b o e=>Heap.get?_push_of_some _ e,Bg _ z t (strIterType z) DN,⟨⟨_,Heap.get?_push_size _ rfl,rfl,rfl⟩,Nat.zero_le _⟩,fun b hb=>?_,q _ H1 ss fun B' H' pr=>?_⟩
   .have e:b=s1.heap.objs.size:=by simpa using hb
    subst e;exact I1.wX (Nat.le_refl _) (I1.hok.fresh (Nat.le_refl _))
   .refine⟨fun i d hd=>?_,?_⟩
    .unfold zi at hd;rw[List.getElem?_map] at hd;cases e:z.cps.toList[i]? with
     | none=>rw [e] at hd;cases hd
     | some c=>
       rw[e] at hd;cases hd;have e':z.cps[i]? =some c:=by simpa using e
       exact⟨(Array.getElem?_eq_some_iff.mp e').1,fun x mO ⟨e1,c',e2,e3⟩ _=>by
        subst e1;rw[e'] at e2;cases e2;exact⟨aM.refl _,Rep.str.mpr e3⟩⟩
    .show z.cps.size<=(zi z).length;unfold zi;simp
 | _=>cases h2
def R5(K:W.Frag)(a:Addr):It:=
 ⟨fun i H=>∃xs x,me K H a xs/\xs[i]? =some x,fun i H v H'=>∃p x,H p=none/\v= .ref p/\(∀xs,me K H a xs->xs[i]? =some x)/\H'=upd H p (.tup [.int i,x]),fun i H=>∃xs,me K H a xs/\xs.length<=i⟩
theorem As{K:W.Frag}{k:Nat}(a e it:Addr)(Rq:e≠it):Turn P w K (.Tuple elts k pos) (R5 K a) [e,it] e (fun i h=>(∃old,IsEnum h e it ((i:Nat):Int) old)/\h.IsListIter it a i) where
 mem:=by simp
 obj:=fun i h st b hb=>by
  obtain⟨⟨old,he⟩,o,ho,c,d⟩:=st;rcases List.mem_cons.mp hb with rfl | hb
  .exact⟨_,he,fun v z=>by cases z⟩
  .have e:b=it:=by simpa using hb
   subst e;exact⟨o,ho,fun v z=>by rw[d] at z;cases z⟩
 keep:=fun i h h' st k=>by
  obtain⟨⟨old,he⟩,hi⟩:=st;exact⟨⟨old,k e (by simp) _ he⟩,hi.at fun o x=>k it (by simp) o x⟩
 item:=by
  intro X hP hw hK hc i pins s σ H E I hf st hg;subst hP hw hK;obtain⟨xs,x,hq,hx⟩:=hg;obtain⟨its,rv,p,hz⟩:=I.list hq;obtain⟨u,hu,ru⟩:=rv.get hx;obtain⟨⟨old,he⟩,hit⟩:=st;obtain⟨f0,f1,f2,f3,f4,f5⟩:=hf e (by simp)
  obtain⟨g0,g1,g2,g3,g4,g5⟩:=hf it (by simp)
  refine wpAny_pyNext_enum_item he hit p.isList (x:=u) (by simpa using hu) Rq fun kR G0 JN LU RC LV=>⟨_,rfl,?_⟩
  refine wpAny_letOwnedTupleGo_enum G0 fun ux L9 v7=>?_
  replace v7:Heap.SameBut e kR ux:=v7
  have hel:e < s.heap.objs.size:=Heap.lt_size he;have Mh:ux.get? s.heap.objs.size=some {cls:= .type "tuple",data:= .seq #[.int i s.toks,u]}:=(v7.2 _ (Nat.ne_of_gt hel)).trans LU;have kk:∀b o,b≠e->b≠it->s.heap.get? b=some o->ux.get? b=some o:=fun b o h1 h2 q=>(v7.2 b h1).trans (LV b o h1 h2 q)
  have hn:H s.heap.objs.size=none:=I.fresh;have sm:aM H (upd H s.heap.objs.size (.tup [.int i,x])):=br hn;have nit:∀b o,H b=some o->b≠e/\b≠it:=fun b o q=>⟨fun z=>(by rw[z,f0] at q;cases q),fun z=>(by rw[z,g0] at q;cases q)⟩
  have hok:l6 X.prog X.w (upd H s.heap.objs.size (.tup [.int i,x])) ux:=fun b ob q=>by
   by_cases hb:b=s.heap.objs.size
   .subst hb;rw[aY] at q;cases q;exact⟨by show 2<=sizeLine;decide,[.int i s.toks,u], .cons ⟨_,rfl⟩ (.cons ru .nil),⟨_,Mh,rfl,_,rfl⟩⟩
   .rw [a_ hb] at q;refine(I.hok b ob q).wH (fun c v hc z=>?_) (fun c z=>sm c _ z) fun c ys z=>sm c _ z
    rcases hc with rfl | hc
    .exact kk c v (nit c _ q).1 (nit c _ q).2 z
    .exact kk c v (nit c _ hc).1 (nit c _ hc).2 z
  have nch:∀b,b ∉ [e,it]->b≠e/\b≠it:=fun b hb=>⟨fun z=>hb (by simp [z]),fun z=>hb (by simp [z])⟩
  have I2:Inv X pins σ (upd H s.heap.objs.size (.tup [.int i,x])) {s with heap:=ux,toks:=s.toks+1}:=by
   refine I.step (g':=s.gens) (d':=s.drawn) (ch:=[e,it]) (fun b hb=>?_) (fun b o _ _ hb q _=>kk b o (nch b hb).1 (nch b hb).2 q) (fun b o _ _ hb q _=>⟨o.slots,kk b o (nch b hb).1 (nch b hb).2 q⟩)
    (fun b o hb q n=>by rw[a_ (Nat.ne_of_lt (Heap.lt_size q))];exact n) (fun b o hb q=>⟨o,kk b o (nch b hb).1 (nch b hb).2 q⟩) (fun b ys z=>sm b _ z) (fun b o u z=>sm b _ z) (fun b ps z=>⟨#[],by rw[sm b _ z];simp⟩) (fun m hm=>?_) hok I.bare
   .rcases List.mem_cons.mp hb with rfl | hb
    .exact⟨f3,f1,f4,f5⟩
    .have z:b=it:=by simpa using hb
     subst z;exact⟨g3,g1,g4,g5⟩
   .obtain⟨o,es,ep,ho,r⟩:=hm;exact⟨o,es,ep,kk _ o (Ne.symm f1) (Ne.symm g1) ho,r⟩
  refine⟨.ref s.heap.objs.size,_,I2,rfl,⟨s.heap.objs.size,x,hn,rfl,fun ys hy=>(by rw[I.uX hy hq];exact hx),rfl⟩,⟨⟨_,by simpa using L9⟩,JN.at fun o q=>(v7.2 it (Ne.symm Rq)).trans q⟩,fun b hb=>?_⟩
  rcases List.mem_cons.mp hb with rfl | hb
  .rw [a_ (Nat.ne_of_lt hel)];exact f0
  .have z:b=it:=by simpa using hb
   subst z;obtain⟨o,ho,_⟩:=hit;rw[a_ (Nat.ne_of_lt (Heap.lt_size ho))];exact g0
 done:=by
  intro X hP hw hK hc i pins s σ H E I hf st hg;subst hP hw hK;obtain⟨xs,hq,hx⟩:=hg;obtain⟨its,rv,p,hz⟩:=I.list hq;obtain⟨⟨old,he⟩,hit⟩:=st;obtain⟨g0,g1,g2,g3,g4,g5⟩:=hf it (by simp)
  have hl:=rv.length;exact wpAny_pyNext_enum_end (I.ok.hd hc) he hit p.isList (by simp;omega) fun h' eb=>⟨rfl,I.turned (t':=s.toks) (fun b o hb q=>eb b o hb q) g0 g1 g3 g4 g5⟩
 self:=fun A i s Q E st h=>let⟨⟨_,he⟩,_⟩:=st;wpAny_pyIter_enum he h
def kL(ds:List D):List D:=ds.zipIdx.map fun p=> .tup [.int p.2,p.1]
def mS(f:FD):ao->R (List D):=fun δ=>(f δ).bind fun d=>match d with | .lst ds=> .ok (kL ds) | _=> .no
theorem Bw{elts:List Expr}{k:Nat}{Dw:Pos}{p pos:Pos}(h:PD X a f)(hg:Gl X "enumerate")(hm:X.mg "enumerate"=none)(hs:starEach [a] X.env=[(false,eval a X.env)]:=by rfl):Fg X (.Tuple elts k Dw) (.Call (.Name "enumerate" p) [a] [] pos) (mS f):=by
 intro pins s σ H RR I ⟨Z,B,δ,ds,E,hf,q⟩;obtain⟨d,h1,h2⟩:=R.ah hf;have hA:=ik h kl hs pos pins s σ H (fun vs H1=>aM H H1/\∃v,vs=[v]/\Rep X.K B H1 d v) I ⟨Z,B,δ,d,E,h1,fun v H1 s1 r1=>⟨s1,v,rfl,r1⟩⟩
 refine Call_ (sV I hg hm boot_enumerate (PyProof.Rows.callWith_type1 (cO hA fun us s1 ⟨vs,H1,I1,r1,ss,v,ev,rr⟩=>?_) hs rfl))
 subst ev;obtain⟨u,rfl,ru⟩:=vals1 r1;cases d with
 | lst es=>
   cases h2;obtain⟨b,xs,rfl,l,rs⟩:=Rep.lst.mp rr;cases ru;obtain⟨its,n,rv,e1,hz⟩:=I1.Il l;refine call_enumerate_list (items:=its.toArray) ⟨_,e1,rfl,n,rfl⟩ fun h' he hit hsz kk=>wpAny_pyIter_enum he ?_
   have I2:Inv X pins σ H1 {s1 with heap:=h'}:=I1.kept (t':=s1.toks) kk
   refine⟨s1.heap.objs.size+1,[s1.heap.objs.size+1,s1.heap.objs.size],_,_,H1,rfl,I2,As b (s1.heap.objs.size+1) s1.heap.objs.size (Nat.succ_ne_self _),⟨⟨_,he⟩,hit⟩,fun c hc=>?_,q _ H1 ss fun B' H' pr=>?_⟩
   .have hle:s1.heap.objs.size<=c:=by
     rcases List.mem_cons.mp hc with z | hc
     .rw [z];exact Nat.le_succ _
     .have z:c=s1.heap.objs.size:=by simpa using hc
      rw[z];exact Nat.le_refl _
    exact I1.wX hle (I1.hok.fresh hle)
   .have l':uD X.K B' H' b xs:=l.ba pr;have rs':=rs.ba pr;refine⟨fun i d hd=>?_,⟨xs,l'.sq,by rw[<-rs.length];unfold kL;simp⟩⟩
    unfold kL at hd;rw[List.getElem?_map,List.getElem?_zipIdx] at hd;cases e:es[i]? with
    | none=>rw [e] at hd;cases hd
    | some d0=>
      rw[e] at hd;have hd:D.tup [.int ((0+i:Nat):Int),d0]=d:=Option.some.inj hd;rw[Nat.zero_add] at hd;obtain⟨x,hx,rx⟩:=rs'.get e;refine⟨⟨xs,x,l'.sq,hx⟩,fun v mO y MD=>?_⟩
      obtain⟨p,y,hp,rfl,hy,rfl⟩:=y;refine⟨br hp,?_⟩;subst hd;have hy2:=hy xs l'.sq;rw[hx] at hy2;cases hy2;refine Rep.tup.mpr ⟨p,_,rfl, .inl ⟨fun ha=>?_, .inl aY⟩,aD.cons (Rep.int.mpr rfl) (aD.cons (rx.same (br hp)) aD.nil)⟩
      obtain⟨o,ho⟩:=MD p ha;rw[hp] at ho;cases ho
 | _=>cases h2
end
end L2
end
section
namespace L2
open PySem PySem.Spec PyProof.Rows
def Def(K:W.Frag)(mg:Wa)(x:Str)(st:Stmt):Prop:=∃f fd,xy K x x st f fd/\mg x=some (.ref f)
def Callee(P:Program)(w:World)(K:W.Frag)(mg:Wa)(base:Heap)(k:Nat)(x:Str)(n:Nat)(g:List D->R D):Prop:=
 ∃f fd ps,gQ P w K mg base r_ k f fd ps (ES K n g)/\mg x=some (.ref f)/\PySem.W.keepIn K (.ref f)=true/\Binds K fd ps []
theorem aK:∀(δ:ao) (ds:List D),aJ δ= .ok ds->ds.length=0:=fun δ ds h=>by cases h;rfl
theorem ak{g:ao->R (List D)}{n:Nat}(h:∀(δ:ao) (ds:List D),g δ= .ok ds->ds.length=n):∀(δ:ao) (ds:List D),ai f g δ= .ok ds->ds.length=n+1:=fun δ ds e=>by
 obtain⟨d,h1,h2⟩:=R.ah e;obtain⟨es,h3,h4⟩:=R.ah h2;cases h4;rw[List.length_cons,h δ es h3]
theorem Dc{P:Program}{w:World}{K:W.Frag}{mg:Wa}{base:Heap}{x qual:Str}{st:Stmt}{f:Addr}{fd:FuncData}{N ps:List Str}{k:Nat}{F:FS}{b:List Stmt}{sc:Scope}(hb:aR st=b)(hs:aF st=sc)(Fn:xy K x qual st f fd)(S:bf N ps sc)
 (i_:∀(dI:Value) (A:Around) (outer:List Env) (s:Shared) (H:Hp) (E:XK),dS k (A.deeper (envOfC qual sc s.heap.objs.size f dI))->
   pB (j8 r_ P w K mg base N qual sc f dI A outer s H E).D2 b F):gQ P w K mg base r_ (k+1) f fd ps (ES K ps.length (rD N F)):=by
 subst hb hs;exact Fi Fn S i_
section
variable {X:Cx}
theorem AO{g:List D->R D}{k j n:Nat}{x:Str}{p pos:Pos}{e:Expr}{es:List Expr}{fs:ao->R (List D)}(C:Callee X.prog X.w X.K X.mg X.base k x n g)(hr:dS j X.A)(F_:k<=j)(hg:Gl X x)(ha:AK X (e ::es) fs)
 (hn:∀δ ds,fs δ= .ok ds->ds.length=n) (jE:(x==("__debug__":Str))=false:=by decide) (he:starEach (e ::es) X.env=(false,eval e X.env) ::starEach es X.env:=by rfl) (mj:(backTo pos (starEach es X.env)).any (·.1)=false:=by rfl) :
 PD X (.Call (.Name x p) (e ::es) [] pos) (aL g fs):=by
 obtain⟨f,fd,ps,F,hm,hk,hb⟩:=C;exact Ew F (hr.mono F_) hg hm hk hb ha hn jE he mj
def KJ(sc:Scope)(N:List Str)(scope:Scope)(kp:List Nat)(kn:List Str):Bool:=
 decide (scope.kind= .function) && scope.names.all (fun y=>decide (y.2= .cell->scope.names.lookup y.1=some .cell)) && scope.names.all (fun y=>decide (y.2= .local->scope.names.lookup y.1=some .local))
  && scope.names.all (fun y=>decide (y.2= .free->(sc.names.lookup y.1=some .cell\/sc.names.lookup y.1=some .free))) && scope.names.all (fun y=>decide (y.2= .free->scope.names.lookup y.1=some .free)) && decide (kn.length=kp.length)
  && (List.range kp.length).all (fun j=>decide ((kp[j]?).bind (N[·]?)=kn[j]?)) && kn.all (fun x=>decide (scope.names.lookup x=some .free))
theorem bN.of{own:List Str}{kp:List Nat}{kn:List Str}{N:List Str}(h1:X.env.scope=sc)(h2:X.N=N)(h:KJ sc N scope kp kn=true):bN X scope own kp kn:=by
 unfold KJ at h;simp only[Bool.and_eq_true,decide_eq_true_eq,List.all_eq_true] at h;obtain⟨⟨⟨⟨⟨⟨⟨a1,a2⟩,a3⟩,a4⟩,a8⟩,a5⟩,a6⟩,a7⟩:=h;refine⟨a1,a2,a3,fun y hy hf=>?_,a8,a5,fun j i x hj hx=>?_,a7⟩
 .have:=a4 y hy hf;unfold Env.kindOf;rw[h1];exact this
 .have hlt:j < kp.length:=(List.getElem?_eq_some_iff.mp hj).1;have:=a6 j (List.mem_range.mpr hlt);rw[hj] at this;rw[h2];exact this.trans hx
def Ct(aA:List (Key × V))(f g:FD):FD:=fun δ=>(f δ).bind fun k=>(g δ).bind fun d=>match k with
 | .str x=>(match iJ (kx [] aA) (Sum.inr x) with | some (.int i)=> .ok (.int i) | none=> .ok d | _=> .no)
 | _=> .no
theorem Hb{keys:List (Option Expr)}{values:List Expr}{sL:List (TE × TE)}{uz apos bg:Pos}{e f:Expr}{fe ff:FD}{aA:List (Key × V)}(hu:X.A.units+1 < cLine)(h:G7 X uz keys values sL)(AA:keys.all (·.isSome)=true)(hl:keys.length=values.length)(h0:keys≠[])
 (hc:∀σ H Q,Q (aA.map fun kv=>(kV kv.1,kv.2)) H->oQ sL σ H Q) (hlen:aA.length<=15) (he:PD X e fe) (hf:PD X f ff) (m:M2 X (.Dict keys values uz) "get" apos e f bg)
 (hd:PE X (.Dict keys values uz) (Df sL)):PD X (.Call (.Attribute (.Dict keys values uz) "get" apos) [e,f] [] bg) (Ct aA fe ff):=by
 refine(Bz hu hd he hf m).imp fun σ H Q ⟨Z,B,δ,d,E,hfd,q⟩=>?_
 obtain⟨k,h1,h2⟩:=R.ah hfd;obtain⟨dd,h3,h4⟩:=R.ah h2;intro p hp;refine hc σ _ _ ⟨aY,aA,rfl,hlen,p,rfl, .inl ⟨_, .inl aY⟩,?_⟩;rw[FE];have s0:aM H (upd H p (.dK (kx [] aA))):=br hp;refine⟨Z,B,δ,k,E.same s0,h1,fun v1 H1 s1 r1=>⟨Z,B,δ,dd,(E.same s0).same s1,h3,fun v2 H2 s2 r2=>?_⟩⟩
 have hH2:H2 p=some (.dK (kx [] aA)):=s2 p _ (s1 p _ aY);have sA:aM H H2:=s0.trans (s1.trans s2);split at h4
 .rename_i x;refine⟨iJ (kx [] aA) (Sum.inr x),?_,?_⟩
  .rw [Rep.str.mp r1];exact mz.k (k:=Sum.inr x) hH2
  .split at h4
   .rename_i i e1;cases h4;rw[e1];exact q _ H2 sA (Rep.int.mpr rfl)
   .rename_i e1;cases h4;rw[e1];exact q _ H2 sA r2
   .cases h4
 .cases h4
def QF(i:Nat)(f:FD):FS:=fun δ=>(f δ).bind fun d=>match d with
 | .lst es=>(q0 δ i).bind fun ds=>R.aS (decide (ds.length+es.length<=sizeLine)) (.ok (.nx (δ.set i (.bld (ds++es)))))
 | _=> .no
end
end L2
end
section
namespace L2
open PySem PySem.Spec PyProof.Rows
structure QD (X:Cx) (e:Expr) (f:FD):Prop where
 h:PD X e f
structure QN (X:Cx) (e:Expr) (f:ao->R (List D)):Prop where
 h:PN X e f
structure QB (X:Cx) (e:Expr) (f:ao->R Bool):Prop where
 h:PB X e f
structure Hz (X:Cx) (e:Expr) (f:ao->R Bool):Prop where
 h:DL X e f
structure Bc (X:Cx) (e:List Expr) (f:ao->R (List D)):Prop where
 h:AK X e f
structure B8 (X:Cx) (e:Stmt) (f:FS):Prop where
 h:AL X e f
structure rE (X:Cx) (e:List Stmt) (f:FS):Prop where
 h:pB X e f
structure GJ (X:Cx) (e:Expr) (f:FT):Prop where
 h:EA X e f
structure FR (X:Cx) (e:List Expr) (f:Dg):Prop where
 h:B9 X e f
structure EY (X:Cx) (tg e:Expr) (f:ao->R (List D)):Prop where
 h:Fg X tg e f
structure QP (X:Cx) (e:Option Expr) (f:FO):Prop where
 h:PP X e f
structure QJ (X:Cx) (e:List Expr) (f:ao->R (List Str)):Prop where
 h:PJ X e f
structure Dn (X:Cx) (e:List Expr) (c:ao->R Bool):Prop where
 h:nM X e (DX X.K c)
section
variable {X:Cx}
theorem bW{f:ao->R (List D)}(h:QN X e f):QD X e (eNew f):=⟨Ht h.1⟩
theorem nS(h:QD X e f):QD X e (lr f):=⟨Eb h.1⟩
theorem qT{f:ao->R Bool}(h:QB X e f):QB X e (mG f):=⟨ER h.1⟩
theorem ae(i:Nat){pos:Pos}(hN:X.N[i]? =some x:=by rfl)(hv:HX X.env.scope x:=by first | exact Or.inl rfl | exact Or.inr (Or.inl rfl) | exact Or.inr (Or.inr rfl))(hd:(x==("__debug__":Str))=false:=by decide)(rM:(x==("__classdict__":Str))=false:=by decide):QD X (.Name x pos) (af i):=⟨ID i hN hv hd rM⟩
theorem aj{i j pos}:QD X (.Constant (.int i) j pos) (eC (.int i)):=⟨Hg⟩
theorem hV{b j pos}:QD X (.Constant (.bool b) j pos) (eC (.bl b)):=⟨Lr⟩
theorem av{x j pos}:QD X (.Constant (.str x) j pos) (eC (.str x)):=⟨IZ⟩
theorem fM{d:D}{pos:Pos}(g:Glob X.K X.mg x d)(hg:Gl X x)(hd:(x==("__debug__":Str))=false:=by decide):QD X (.Name x pos) (eC d):=⟨EV g hg hd⟩
theorem ag:Bc X [] aJ:=⟨El⟩
theorem aa{g:ao->R (List D)}(h:QD X e f)(t:Bc X es g)(hs:starEach (e ::es) X.env=(false,eval e X.env) ::starEach es X.env:=by rfl):Bc X (e ::es) (ai f g):=⟨CW h.1 t.1 hs⟩
theorem c3{g:ao->R (List D)}{x1 pos}(h:Bc X es g):QD X (.Tuple es x1 pos) (jA g):=⟨IV h.1⟩
theorem bU{g:ao->R (List D)}{pos}(h:Bc X es g):QN X (.List es pos) (eO g):=⟨Jo h.1⟩
theorem az{op:Operator}{g:D->D->R D}(ho:mm X (binaryOp op) g)(ha:QD X a fa)(hb:QD X b fb):QD X (.BinOp a op b pos) (e2 g fa fb):=⟨KU ho ha.1 hb.1⟩
theorem eU{op:CmpOp}{g:D->D->R D}(ho:mm X (compareOp op) g)(ha:QD X a fa)(hb:QD X b fb)(hm:behindInMarks op b=false):QD X (.Compare a [op] [b] pos) (e2 g fa fb):=⟨Jk ho ha.1 hb.1 hm⟩
theorem b7{op:CmpOp}{g:D->D->R D}(ho:mm X (compareOp op) g)(ha:QD X a fa)(hb:QD X b fb)(hm:behindInMarks op b=false):QB X (.Compare a [op] [b] pos) (b2 g fa fb):=⟨Hl ho ha.1 hb.1 hm⟩
theorem nV{a:Expr}(ha:QD X a f)(he:∀whole,isTrue a X.env whole=(do let v <-whole;standAt a.pos;holding [v] (truthy v)):=by intro _;rfl):QB X a (sW f):=⟨G4 ha.1 he⟩
theorem kr{f:ao->R Bool}(h:Hz X e f):QB X e f:=⟨DL.pb h.1⟩
theorem r6{f:ao->R Bool}(h:QB X a f):Hz X (.BoolOp .And [a] pos) f:=⟨Bh h.1⟩
theorem kW{f:ao->R Bool}(h:QB X a f):Hz X (.BoolOp .Or [a] pos) f:=⟨DU h.1⟩
theorem uZ{rest:List Expr}{f g:ao->R Bool}(ha:QB X a f)(hb:Hz X (.BoolOp .And (b ::rest) pos) g):Hz X (.BoolOp .And (a ::b ::rest) pos) (tf f g):=⟨Ee ha.1 hb.1⟩
theorem js{rest:List Expr}{f g:ao->R Bool}(ha:QB X a f)(hb:Hz X (.BoolOp .Or (b ::rest) pos) g):Hz X (.BoolOp .Or (a ::b ::rest) pos) (zp f g):=⟨HA ha.1 hb.1⟩
theorem yG{f:ao->R Bool}(ha:QB X a f):QB X (.UnaryOp .Not a pos) (Ax f):=⟨Hw ha.1⟩
theorem oa{op}(h:QD X a f):QD X (.BoolOp op [a] pos) f:=⟨IX h.1⟩
theorem l5{rest:List Expr}(ha:QD X a f)(hb:QD X (.BoolOp .And (b ::rest) pos) g):QD X (.BoolOp .And (a ::b ::rest) pos) (rJ f g):=⟨JC ha.1 hb.1⟩
theorem IJ{rest:List Expr}(ha:QD X a f)(hb:QD X (.BoolOp .Or (b ::rest) pos) g):QD X (.BoolOp .Or (a ::b ::rest) pos) (KW f g):=⟨Kz ha.1 hb.1⟩
theorem Ej(ha:QD X a f):QD X (.UnaryOp .Not a pos) (HS f):=⟨Jp ha.1⟩
theorem bF{g:List D->R D}{id:String}{p pos:Pos}{fs:ao->R (List D)}(hc:cI X (.builtin id) g)(hg:Gl X x)(hm:X.mg x=none)(hv:bootBuiltins x=some (.builtin id))(ha:Bc X (e ::es) fs)(hn:x≠"__name__":=by decide)(jE:(x==("__debug__":Str))=false:=by decide)(he:starEach (e ::es) X.env=(false,eval e X.env) ::starEach es X.env:=by rfl)(mj:(backTo pos (starEach es X.env)).any (·.1)=false:=by rfl):QD X (.Call (.Name x p) (e ::es) [] pos) (aL g fs):=⟨Cj hc hg hm hv ha.1 hn jE he mj⟩
theorem iU{g:List D->R D}{T:String}{p pos:Pos}{fs:ao->R (List D)}(hc:cI X (.type T) g)(hg:Gl X x)(hm:X.mg x=none)(hv:bootBuiltins x=some (.type T))(ha:Bc X (e ::es) fs)(hn:x≠"__name__":=by decide)(jE:(x==("__debug__":Str))=false:=by decide)(he:starEach (e ::es) X.env=(false,eval e X.env) ::starEach es X.env:=by rfl)(mj:(backTo pos (starEach es X.env)).any (·.1)=false:=by rfl):QD X (.Call (.Name x p) (e ::es) [] pos) (aL g fs):=⟨zP hc hg hm hv ha.1 hn jE he mj⟩
theorem d5:rE X [] mq:=⟨Fq⟩
theorem au{st:Stmt}{rest:List Stmt}{F G:FS}(h1:B8 X st F)(h2:rE X rest G):rE X (st ::rest) (bK F G):=⟨CU h1.1 h2.1⟩
theorem aP{st:Stmt}{F:FS}(h1:B8 X st F):rE X [st] F:=⟨FI h1.1⟩
theorem bb{i:Nat}{pos pos':Pos}(hN:X.N.Nodup)(hi:X.N[i]? =some x)(hx:Loc X.env.scope x)(he:QD X e f)(hs:swapsWith e (some (.Name x pos')) pos.line X.env=pure false:=by rfl)(hf:X.fn x=true\/X.env.scope.names.lookup x=some .local:=by first | exact .inl rfl | exact .inr rfl | assumption):B8 X (.Assign [.Name x pos'] e pos) (cR i f):=⟨FF hN hi hx he.1 hs hf⟩
theorem iV{i:Nat}{f:ao->R (List D)}{pos pos':Pos}(hN:X.N.Nodup)(hi:X.N[i]? =some x)(hx:Loc X.env.scope x)(he:QN X e f)(hs:swapsWith e (some (.Name x pos')) pos.line X.env=pure false:=by rfl)(hf:X.fn x=true\/X.env.scope.names.lookup x=some .local:=by first | exact .inl rfl | exact .inr rfl | assumption):B8 X (.Assign [.Name x pos'] e pos) (mX i f):=⟨Fs hN hi hx he.1 hs hf⟩
theorem fJ{i:Nat}{x:Str}{e:Expr}{f:FD}{ri apos bg pos:Pos}(hN:X.N[i]? =some x)(hv:HX X.env.scope x)(he:QD X e f)(hd:(x==("__debug__":Str))=false:=by decide)(rM:(x==("__classdict__":Str))=false:=by decide)(hs:starEach [e] X.env=(false,eval e X.env) ::starEach [] X.env:=by rfl)(fS:(apos.endLine==bg.line)=true:=by rfl)(kz:((backTo bg (starEach [e] X.env)).all (fun x=>!x.1) && (backToKw bg (keywordEach [] X.env)).all (fun x=>x.1.isSome)
 && decide (([e]:List Expr).length+([]:List Keyword).length+(if([]:List Keyword).isEmpty then 0 else 1) < 30))=true:=by rfl) (rO:swapsWith (.Call (.Attribute (.Name x ri) "append" apos) [e] [] bg) none pos.line X.env=pure false:=by rfl) (fU:attributeBase (.Name x ri) "append" X.env (eval (.Name x ri) X.env)=eval (.Name x ri) X.env:=by rfl):B8 X (.Expr (.Call (.Attribute (.Name x ri) "append" apos) [e] [] bg) pos) (nK i f):=⟨D9 hN hv he.1 hd rM hs fS kz rO fU⟩
theorem g7(i:Nat){F:FS}(h:rE X LY F):rE X LY (pE i F):=⟨FY i h.1⟩
theorem bw(he:QD X e f):B8 X (.Return (some e) pos) (fX f):=⟨EI he.1⟩
theorem fN{fc:ao->R Bool}{F G:FS}(hc:QB X c fc)(ha:rE X a F)(hb:rE X b G):B8 X (.If c a b pos) (sv fc F G):=⟨IE hc.1 ha.1 hb.1⟩
theorem aN{i:Nat}{pos:Pos}(hN:X.N.Nodup)(hi:X.N[i]? =some x)(hx:Loc X.env.scope x)(hf:X.fn x=true\/X.env.scope.names.lookup x=some .local:=by first | exact .inl rfl | exact .inr rfl | assumption):GJ X (.Name x pos) (aH i):=⟨CM hN hi hx hf⟩
theorem fm:FR X [] fH:=⟨AX⟩
theorem bq{u:Dg}(h1:GJ X e t)(h2:FR X es u)(hs:(assignEach (e ::es) X.env).map (·.2)=assign e X.env ::(assignEach es X.env).map (·.2):=by rfl):FR X (e ::es) (bh t u):=⟨zD h1.1 h2.1 hs⟩
theorem gS{k:Nat}{t:Dg}{n:Nat}{pos:Pos}(hc:X.calm=true)(h:FR X es t)(hn:(assignEach es X.env).length=n:=by rfl)(Ay:(assignEach es X.env).findIdx? (·.1)=none:=by rfl):GJ X (.Tuple es k pos) (fL n t):=⟨F0 hc h.1 hn Ay⟩
theorem B7{pos:Pos}(he:QD X e f)(hg:GJ X tg t)(hs:swapsWithSole [tg] e pos.line X.env=pure false:=by rfl)(hw:swappedStores [tg] e X.env=pure none:=by rfl)(h1:(assignEach [tg] X.env).map (·.2)=[assign tg X.env]:=by rfl):B8 X (.Assign [tg] e pos) (Jn f t):=⟨FC he.1 hg.1 hs hw h1⟩
theorem ck(h:QD X e f):EY X tg e (dk f):=⟨EH h.1⟩
theorem d_{tg a:Expr}{p pos:Pos}(h:QD X a f)(hg:Gl X "range")(hm:X.mg "range"=none)(hs:starEach [a] X.env=[(false,eval a X.env)]:=by rfl):EY X tg (.Call (.Name "range" p) [a] [] pos) (fu f):=⟨wK h.1 hg hm hs⟩
theorem fK{it:ao->R (List D)}{F:FS}{pos:Pos}(hp:PassesOwn (model X.prog X.w) X.A X.env X.xe)(hc:X.calm=true)(hi:EY X tg iter it)(hg:GJ X tg t)(hb:rE X body F)(hs:∀x,foldedSetIterable iter X.env x=pure x:=by intro _;rfl):B8 X (.For tg iter body [] pos) (oT it t F):=⟨Fj hp hc hi.1 hg.1 hb.1 hs⟩
theorem fO{own:List Str}{kp:List Nat}{kn:List Str}{it:ao->R (List D)}{c:ao->R Bool}{pos:Pos}(hc:X.calm=true)(C:bN X scope own kp kn)(hi:EY X tg iter it)(hg:∀fp s H,GJ (aV X scope (own++kn) fp s H) tg t)(ur:∀fp s H,Dn (aV X scope (own++kn) fp s H) ifs c)(he:∀fp s H,QD (aV X scope (own++kn) fp s H) elt f)(hs:∀x,foldedSetIterable iter X.env x=pure x:=by intro _;rfl):QN X (.ListComp elt [⟨tg,iter,ifs,0⟩] scope pos) (di it t c f own kp):=⟨EX hc C hi.1 (fun fp s H=>(hg fp s H).1) (fun fp s H=>(ur fp s H).1) (fun fp s H=>(he fp s H).1) hs⟩
theorem dM:Dn X [] mn:=⟨AN⟩
theorem vK{c:ao->R Bool}(h:QB X e c):Dn X [e] c:=⟨Fu h.1⟩
theorem n_{i:Nat}{pos' lW:Pos}{own:List Str}{kp:List Nat}{kn:List Str}{it:ao->R (List D)}{c:ao->R Bool}(hc:X.calm=true)(hN:X.N.Nodup)(hx:X.N[i]? =some x)(uu:X.env.scope.names.lookup x=some .local)(C:bN X scope own kp kn)(hi:EY X tg iter it)(hg:∀fp s H,GJ (aV X scope (own++kn) fp s H) tg t)(ur:∀fp s H,Dn (aV X scope (own++kn) fp s H) ifs c)(he:∀fp s H,QD (aV X scope (own++kn) fp s H) elt f)(rO:swapsWith (.ListComp elt [⟨tg,iter,ifs,0⟩] scope pos) (some (.Name x pos')) lW.line X.env=pure true:=by rfl)(hs:∀x,foldedSetIterable iter X.env x=pure x:=by intro _;rfl):B8 X (.Assign [.Name x pos'] (.ListComp elt [⟨tg,iter,ifs,0⟩] scope pos) lW) (cR i (eNew (di it t c f own kp))):=⟨vR hc hN hx uu C hi.1 (fun fp s H=>(hg fp s H).1) (fun fp s H=>(ur fp s H).1) (fun fp s H=>(he fp s H).1) rO hs⟩
theorem t6{i:Nat}{pos' lW:Pos}{own:List Str}{kp:List Nat}{kn:List Str}{it:ao->R (List D)}{c:ao->R Bool}(hc:X.calm=true)(hN:X.N.Nodup)(hx:X.N[i]? =some x)(uu:X.env.scope.names.lookup x=some .local)(C:bN X scope own kp kn)(hi:EY X tg iter it)(hg:∀fp s H,GJ (aV X scope (own++kn) fp s H) tg t)(ur:∀fp s H,Dn (aV X scope (own++kn) fp s H) ifs c)(he:∀fp s H,QD (aV X scope (own++kn) fp s H) elt f)(rO:swapsWith (.ListComp elt [⟨tg,iter,ifs,0⟩] scope pos) (some (.Name x pos')) lW.line X.env=pure true:=by rfl)(hs:∀x,foldedSetIterable iter X.env x=pure x:=by intro _;rfl):B8 X (.Assign [.Name x pos'] (.ListComp elt [⟨tg,iter,ifs,0⟩] scope pos) lW) (mX i (di it t c f own kp)):=⟨vd hc hN hx uu C hi.1 (fun fp s H=>(hg fp s H).1) (fun fp s H=>(ur fp s H).1) (fun fp s H=>(he fp s H).1) rO hs⟩
theorem aW(ha:QD X a fa)(hb:QD X b fb)(hs:s_ b):QD X (.Subscript a b pos) (e2 dC fa fb):=⟨LJ ha.1 hb.1 hs⟩
theorem hJ:QP X none jK:=⟨Em⟩
theorem eM(h:QD X e f):QP X (some e) (g6 f):=⟨F4 h.1⟩
theorem km{lo hi:Option Expr}{fl fh:FO}(he:QD X e f)(hl:QP X lo fl)(hh:QP X hi fh):QD X (.Subscript e (.Slice lo hi none p2) pos) (wc f fl fh):=⟨Kj he.1 hl.1 hh.1⟩
theorem fI{o e:Expr}{f:FD}{fs:ao->R (List D)}{apos bg:Pos}(ho:QD X o f)(ha:Bc X [e] fs)(fU:attributeBase o "join" X.env (eval o X.env)=eval o X.env:=by rfl)(kz:((backTo bg (starEach [e] X.env)).all (fun x=>!x.1) && (backToKw bg (keywordEach [] X.env)).all (fun x=>x.1.isSome)
 && decide (([e]:List Expr).length+([]:List Keyword).length+(if([]:List Keyword).isEmpty then 0 else 1) < 30))=true:=by rfl) (fS:(apos.endLine==bg.line)=true:=by rfl) (hs:starEach [e] X.env=(false,eval e X.env) ::starEach [] X.env:=by rfl):QD X (.Call (.Attribute o "join" apos) [e] [] bg) (rq "str" eR f fs):=⟨D7 ho.1 ha.1 fU kz fS hs⟩
theorem fF:QJ X [] mT:=⟨IB⟩
theorem aU{g:ao->R (List Str)}(he:QD X e f)(hr:QJ X es g)(OC:evalEach (e ::es) X.env=eval e X.env ::evalEach es X.env:=by rfl):QJ X (e ::es) (bM f g):=⟨D6 he.1 hr.1 OC⟩
theorem cF{rest:List Expr}{g:ao->R (List Str)}(h:QJ X (Dt ::Du ::rest) g):QD X (.JoinedStr (Dt ::Du ::rest) pos) (cZ g):=⟨zN h.1⟩
theorem fQ(h:QD X e f):QD X (.FormattedValue e (-1) none pos) (jS f):=⟨JG h.1⟩
theorem BK(h:QD X e f):EY X tg e (Ck f):=⟨ED h.1⟩
theorem oV{elts:List Expr}{k:Nat}{Dw:Pos}{p pos:Pos}(h:QD X a f)(hg:Gl X "enumerate")(hm:X.mg "enumerate"=none)(hs:starEach [a] X.env=[(false,eval a X.env)]:=by rfl):EY X (.Tuple elts k Dw) (.Call (.Name "enumerate" p) [a] [] pos) (mS f):=⟨Bw h.1 hg hm hs⟩
theorem b0{P:Program}{w:World}{K:W.Frag}{mg:Wa}{base:Heap}{x qual:Str}{st:Stmt}{f:Addr}{fd:FuncData}{N ps:List Str}{k:Nat}{F:FS}{b:List Stmt}{sc:Scope}(hb:aR st=b)(hs:aF st=sc)(Fn:xy K x qual st f fd)(S:bf N ps sc)(i_:∀(dI:Value) (A:Around) (outer:List Env) (s:Shared) (H:Hp) (E:XK),dS k (A.deeper (envOfC qual sc s.heap.objs.size f dI))->
 rE (j8 r_ P w K mg base N qual sc f dI A outer s H E).D2 b F):gQ P w K mg base r_ (k+1) f fd ps (ES K ps.length (rD N F)):=Dc hb hs Fn S (fun dI A outer s H E hr=>(i_ dI A outer s H E hr).1)
theorem aG{g:List D->R D}{k j n:Nat}{p pos:Pos}{fs:ao->R (List D)}(C:Callee X.prog X.w X.K X.mg X.base k x n g)(hr:dS j X.A)(F_:k<=j)(hg:Gl X x)(ha:Bc X (e ::es) fs)(hn:∀δ ds,fs δ= .ok ds->ds.length=n)(jE:(x==("__debug__":Str))=false:=by decide)(he:starEach (e ::es) X.env=(false,eval e X.env) ::starEach es X.env:=by rfl)(mj:(backTo pos (starEach es X.env)).any (·.1)=false:=by rfl):QD X (.Call (.Name x p) (e ::es) [] pos) (aL g fs):=⟨AO C hr F_ hg ha.1 hn jE he mj⟩
theorem EN{keys:List (Option Expr)}{values:List Expr}{sL:List (TE × TE)}{aA:List (Key × V)}(hu:X.A.units+1 < cLine)(h:G7 X uz keys values sL)(AA:keys.all (·.isSome)=true)(hl:keys.length=values.length)(h0:keys≠[])(hc:∀σ H Q,Q (aA.map fun kv=>(kV kv.1,kv.2)) H->oQ sL σ H Q)(hlen:aA.length<=15)(he:QD X e fe)(hf:QD X f ff)(m:M2 X (.Dict keys values uz) "get" apos e f bg)(hd:PE X (.Dict keys values uz) (Df sL)):QD X (.Call (.Attribute (.Dict keys values uz) "get" apos) [e,f] [] bg) (Ct aA fe ff):=⟨Hb hu h AA hl h0 hc hlen he.1 hf.1 m hd⟩
end
end L2
end
section
namespace L2
open PySem PySem.Spec PyProof.Rows
theorem An{P:Program}{w:World}{K:W.Frag}{mg mb:Wa}{CX:AG}{k:Nat}{fa a:Addr}{fd:FuncData}{x:Str}{sp:Sp}{s₁:Shared}{vs:List Value}{ns:List Int}
 (KX:K.In s₁.heap) (Ru:s₁.heap.Ns mainGlobals mg) (hb:s₁.heap.Ns builtinsNs mb) (UJ:∀x:Str,x≠"__name__"->mb x=bootBuiltins x) (Pf:s₁.heap.NoLimit) (hg:s₁.gens=#[])
 (ha:s₁.heap.get? a=some {cls:= .type "list",data:= .seq vs.toArray}) (hi:IntsAre vs ns) (hl:ns.length<=sizeLine) (hr:dS k callerA)
 (F:∀base:Heap,K.In base->base.Ns mainGlobals mg->gQ P w K mg base CX k fa fd [x] sp) (Mf:∀(s:Shared) (u:Value),BindsTo s fd ⟨[u],[]⟩ [(x,u)])
 (G1:∀H:Hp,Lz H->uD K [] H a (ns.map V.int)->sp [.ref a] H (fun v _=>v= .bl true) fun _ _ _=>False)
 (Uj:∀H e s',CX [] H s₁ (fun _ _ _=>False) e s'->False) :
 codeAny (model P w) callerA (.call (.ref fa) ⟨[.ref a],[]⟩) (fun r s'=>r= .ok (.ret (.bool true))/\OldK s₁.heap s'.heap/\s'.os=s₁.os/\AllBare s'.gens) s₁:=by
 have rv:=su hi;have lenV:=hi.length;have core:∀H:Hp,Lz H->uD K [] H a (ns.map V.int)->l6 P w H s₁.heap->(∀b,H b≠none->b=a)->(H a≠none->K.lookup a=none)->
  codeAny (model P w) callerA (.call (.ref fa) ⟨[.ref a],[]⟩) (fun r s'=>r= .ok (.ret (.bool true))/\OldK s₁.heap s'.heap/\s'.os=s₁.os/\AllBare s'.gens) s₁:=by
  intro H hO hS hok hA hK;have zr:∀{b:Addr} {o:Obj},s₁.heap.get? b=some o->H b=none->(sU s₁.heap H).get? b=some o:=fun e n=>BV e n
  have noA:∀{b:Addr} {o:Obj} {es:Array DictEntry} {ep:Nat},s₁.heap.get? b=some o->o.data= .dict es ep->H b=none:=fun {b o es ep} e d=>by
   cases q:H b with
   | none=>rfl
   | some u=>
     have e':b=a:=hA b (by rw[q];simp)
     subst e';rw[ha] at e;cases e;have d':Data.seq vs.toArray _=Data.dict es ep:=d;cases d'
  have nsK:∀{b:Addr} {m:Wa},s₁.heap.Ns b m->(sU s₁.heap H).Ns b m:=fun {b m} ⟨o,es,ep,e,d,r⟩=>⟨o,es,ep,zr e (noA e d),d,r⟩
  have hKb:K.In (sU s₁.heap H):=fun b o e=>zr (KX b o e) (by
   cases q:H b with
   | none=>rfl
   | some u=>
     have e':b=a:=hA b (by rw[q];simp)
     subst e';rw[hK (by rw[q];simp)] at e;cases e)
  have hM:Mod K mg (sU s₁.heap H):=⟨hKb,nsK Ru,⟨mb,nsK hb,UJ⟩,let⟨mc,h1,h2⟩:=Pf;⟨mc,nsK h1,h2⟩⟩
  have e0:w_ P w K mg (sU s₁.heap H) callerA [] s₁ H:=⟨rfl,hM,fun b o e=>Eo e,Nat.le_of_eq (zX _ _),trivial,fun b hb=>absurd (show b∈([]:List Addr) from hb) (by simp),hok, .of_eq hg⟩
  refine codeAny_mono ((F _ hKb (nsK Ru)).run callerA [] s₁ H ⟨[.ref a],[]⟩ [.ref a] [.ref a] _ _ hr e0 (Mf s₁ (.ref a)) (.cons rfl .nil) (G1 H hO hS)) fun r s' h=>?_
  cases r with
  | error e=>exact(Uj H e s' h).elim
  | ok fl=>
    cases fl with
    | next=>exact False.elim h
    | brk=>exact False.elim h
    | cont=>exact False.elim h
    | ret u=>
      obtain⟨v,H',os,bare,un,Pn,r',q⟩:=h;have q':v= .bl true:=q;subst q';obtain rfl:u=Value.bool true:=r';refine⟨rfl,OldK.of_keep fun b o e=>?_,os,bare⟩
      cases q:H b with
      | none=>exact un.keep b o e q (by intro z;exact absurd (show b∈([]:List Addr) from z) (by simp)) (by simp)
      | some u=>
        rcases hO b with z | ⟨ob,xs,z⟩
        .rw [q] at z;cases z
        .have z2:=un.frzs b ob _ z;obtain⟨e1,_⟩:=hok b _ z;obtain⟨e2,_⟩:=Pn b _ z2;rw[e] at e1;cases e1;exact e2
 cases hk:K.lookup a with
 | some o=>
   have e:=KX a o hk;rw[ha] at e;cases e;refine core (fun _=>none) (fun _=> .inl rfl) (.inr ⟨vs,_,hk,by rw[List.length_map];exact hl,rv⟩) (fun b u z=>by have z':(none:Option HO)=some u:=z;cases z') (fun b z=>absurd rfl z) fun z=>absurd rfl z
 | none=>
   refine core (fun b=>if b=a then some (.kT {cls:= .type "list",data:= .seq vs.toArray} (.lst (ns.map V.int))) else none) (fun b=>?_) (.inl ⟨by simp, .inr ⟨{cls:= .type "list",data:= .seq vs.toArray},if_pos rfl⟩⟩) (fun b u z=>?_) (fun b z=>?_) fun _=>hk
   .by_cases hb:b=a
    .exact .inr ⟨_,_,if_pos hb⟩
    .exact .inl (if_neg hb)
   .by_cases hb:b=a
    .have z':=(if_pos hb).symm.trans z;cases z';subst hb;exact⟨ha,by rw[List.length_map];exact hl,vs,_,rv,ha⟩
    .have z':=(if_neg hb).symm.trans z;cases z'
   .by_cases hb:b=a
    .exact hb
    .exact absurd (if_neg hb) z
theorem ints_rep{K:W.Frag}{B:List Addr}:∀ns:List Int,aD K B H (ns.map D.int) (ns.map V.int)
 | []=>aD.nil
 | n ::ns=>aD.cons (Rep.int.mpr rfl) (ints_rep ns)
theorem Lm{l:PySem.W.OpenLaw}{n k:Nat}{q:Program}{loose:List Str}{XP:(Str->Option Value)->Heap->Prop}{YP:World->Heap->Prop}{d:DefRec}{K:Params->W.Frag}{x:Str}{g:List D->R D}
 (hn:l.most=some n) (MK:n<=sizeLine) (OH:d.params.defaults=[]) (hr:dS k callerA) (hY:∀(w:World) (h:Heap),YP w h->(K w.params).In h)
 (F:∀(w:World) (mg:Wa) (fa:Addr) (h:Heap),(K w.params).In h->h.Ns mainGlobals mg->mg d.name=some (.ref fa)->
   ∃fd:FuncData,(∀(s:Shared) (u:Value),BindsTo s fd ⟨[u],[]⟩ [(x,u)])/\∀base:Heap,(K w.params).In base->base.Ns mainGlobals mg->gQ l.prog w (K w.params) mg base r_ k fa fd [x] (ES (K w.params) 1 g))
 (hg:∀ns:List Int,ns.length<=n->g [.lst (ns.map D.int)]= .ok (.bl true)):PySem.W.WalkO q loose XP YP l.row.toRowW d [] (fun f vs=>PySem.call f vs):=by
 refine Att.uJ hn OH fun w s₀ s₁ mg mb fa o pm cd doc a vs ns G Y ho hd rM Mg JU hints hlen Ph=>?_
 have KX:=hY w _ Y;obtain⟨fd,hb,hF⟩:=F w mg fa _ KX G.T.g Mg;refine An KX G.T.g G.T.b G.T.builtins G.T.nolimit Ph JU hints (Nat.le_trans hlen MK) hr hF hb (fun H hO hS=>?_) fun H e s' h=>h
 refine⟨rfl,[],[.lst (ns.map D.int)], .bl true,fun b hb=>(by cases hb),aD.cons (Rep.lst.mpr ⟨_,_,rfl,hS,ints_rep ns⟩) aD.nil,hg ns hlen,fun z H' _ r=>Rep.bl.mp r⟩
theorem dA{K:W.Frag}{h:Heap}{mg:Wa}{x:Str}{st:Stmt}{f:Addr}{oc:Value}{od an:Option Addr}{DC:Array (Option Value)}{kV doc pm dI ct:Value}(X:K.In h)(G:h.Ns mainGlobals mg)(a:PySem.W.nsIn K mainGlobals x=some (some (.ref f)))
 (l:K.lookup f=some ⟨oc,od, .func (PySem.W.fnOf x x (gG st) (aR st) (aF st) .none kV doc pm an dI ct),DC⟩) (c:PySem.W.codeIn K dI x=true) (k:PySem.W.keepIn K (.ref f)=true):Def K mg x st:=
 ⟨f,_,oK l c k,PySem.W.mg_of X G a⟩
theorem AU{K:W.Frag}{h:Heap}{mg:Wa}(X:K.In h)(G:h.Ns mainGlobals mg){t:Tok}(a:PySem.W.nsIn K mainGlobals x=some (some (.str y t))):Glob K mg x (.str y):=
 ⟨_, .str y,PySem.W.mg_of X G a,⟨t,rfl⟩,fun _ _=>Rep.str.mpr rfl⟩
theorem jM{K:W.Frag}{h:Heap}{mg:Wa}(X:K.In h)(G:h.Ns mainGlobals mg){i:Int}{t:Tok}(a:PySem.W.nsIn K mainGlobals x=some (some (.int i t))):Glob K mg x (.int i):=
 ⟨_, .int i,PySem.W.mg_of X G a,⟨t,rfl⟩,fun _ _=>Rep.int.mpr rfl⟩
theorem oh{K:W.Frag}{B:List Addr}:∀ss:List Str,aD K B H (ss.map D.str) (ss.map V.str)
 | []=>aD.nil
 | n ::ns=>aD.cons (Rep.str.mpr rfl) (oh ns)
theorem vA{K:W.Frag}{h:Heap}{mg:Wa}(X:K.In h)(G:h.Ns mainGlobals mg){x:Str}{a:Addr}{o:Obj}{its:Array Value}{n:Nat}(ss:List Str)(e:PySem.W.nsIn K mainGlobals x=some (some (.ref a)))(l:K.lookup a=some o)(hc:o.cls= .type "tuple")(hd:o.data= .seq its n)
 (hz:its.size<=sizeLine) (r:Vals (ss.map V.str) its.toList):Glob K mg x (.tup (ss.map D.str)):=
 ⟨_, .ref a,PySem.W.mg_of X G e,rfl,fun B H=>Rep.tup.mpr ⟨a,_,rfl, .inr ⟨o,its,n,l,hc,hd,hz,r⟩,oh ss⟩⟩
end L2
end
section
namespace L2
open PySem PySem.Spec PyProof.Rows
theorem qQ{t:FT}{body:FS}:∀(ds:List D) (n:Nat) (P:Nat->ao->Prop) {δ:ao},P n δ->
 (∀i d δ,ds[i]? =some d->P (n+i) δ->∃c5,((t d δ).bind body)= .ok (.nx c5)/\P (n+i+1) c5)->∃c5,px t body ds δ= .ok (.nx c5)/\P (n+ds.length) c5
 | [],n,P,δ,h0,_=>⟨δ,rfl,h0⟩
 | d ::ds,n,P,δ,h0,hs=>by
   obtain⟨δ1,e1,p1⟩:=hs 0 d δ rfl h0;obtain⟨iE,e2,p2⟩:=qQ ds (n+1) P p1 (fun i d' c5 hi hp=>by
    have:=hs (i+1) d' c5 (by simpa using hi) (by rw[show n+(i+1)=n+1+i by omega];exact hp)
    rw[show n+(i+1)+1=n+1+i+1 by omega] at this
    exact this)
   refine⟨iE,?_,by rw[List.length_cons,show n+(ds.length+1)=n+1+ds.length by omega];exact p2⟩
   obtain⟨VY,h1,h2⟩:=R.ah e1;show(t d δ).bind (fun δ1=>(body δ1).bind fun o=>match o with | .nx iE=>px t body ds iE | .rt r=> .ok (.rt r))=_
   rw[h1,R.aI,h2,R.aI];exact e2
theorem eB{t:FT}{body:FS}{ds:List D}(P:Nat->ao->Prop){δ:ao}(h0:P 0 δ)
 (hs:∀i d δ,ds[i]? =some d->P i δ->∃c5,((t d δ).bind body)= .ok (.nx c5)/\P (i+1) c5):∃c5,px t body ds δ= .ok (.nx c5)/\P ds.length c5:=by
 have:=qQ (t:=t) (body:=body) ds 0 P h0 (fun i d δ hi hp=>by simpa using hs i d δ hi (by simpa using hp))
 simpa using this
theorem By{α:Type} [DecidableEq α]:∀(L F:List α),L.Nodup->(∀x∈L,x∈F)->L.length<=F.length
 | [],_,_,_=>Nat.zero_le _
 | x ::L,F,hn,hs=>by
   obtain⟨h1,h2⟩:=List.nodup_cons.mp hn;have hx:x∈F:=hs x List.mem_cons_self;have ih:=By L (F.erase x) h2 (fun y hy=>(List.mem_erase_of_ne (fun(e:y=x)=>h1 (by rw[<-e];exact hy))).mpr (hs y (List.mem_cons_of_mem _ hy)))
   rw[List.length_erase_of_mem hx] at ih;have:0 < F.length:=List.length_pos_of_mem hx;rw[List.length_cons];omega
theorem xq{α:Type}{xs:List α}{i:Int}(h0:0<=i)(h:i.toNat < xs.length):um xs i=some xs[i.toNat]:=by
 unfold um CY;rw[if_pos h0,if_pos (by omega)]
 simp [h]
theorem strs_map:∀ss:List Str,strs? (ss.map D.str)=some ss
 | []=>rfl
 | s ::ss=>by show(strs? (ss.map D.str)).map (s ::·)=_;rw [strs_map ss];rfl
theorem ints_map:∀ss:List Int,ints? (ss.map D.int)=some ss
 | []=>rfl
 | s ::ss=>by show(ints? (ss.map D.int)).map (s ::·)=_;rw [ints_map ss];rfl
theorem iz{a b:Str}(h:a.cps.toList=b.cps.toList):a=b:=by
 obtain⟨a⟩:=a;obtain⟨b⟩:=b;congr 1;exact Array.toList_inj.mp h
theorem cW(a b:Str):(a++b).cps.toList=a.cps.toList++b.cps.toList:=by
 show(a.cps++b.cps).toList=_;simp
theorem Al(a b c:Str):a++b++c=a++(b++c):=iz (by rw[cW,cW,cW,cW,List.append_assoc])
theorem empty_app(a:Str):Str.empty++a=a:=iz (by rw[cW];rfl)
theorem aE{F G:FS}{δ δ1:ao}{r:R Out}(h:F δ= .ok (.nx δ1))(h2:G δ1=r):bK F G δ=r:=by unfold bK;rw [h,R.aI];exact h2
theorem b6{f:ao->R (List D)}{δ:ao}{ds:List D}(h:f δ= .ok ds):eNew f δ= .ok (.lst ds):=by unfold eNew;rw [h];rfl
theorem pz{c:ao->R Bool}{F G:FS}{δ:ao}{r:R Out}(h:c δ= .ok true)(h2:F δ=r):sv c F G δ=r:=by unfold sv;rw [h,R.aI,if_pos rfl];exact h2
theorem pq{c:ao->R Bool}{F G:FS}{δ:ao}{r:R Out}(h:c δ= .ok false)(h2:G δ=r):sv c F G δ=r:=by unfold sv;rw [h,R.aI,if_neg (by decide)];exact h2
theorem iy{it:ao->R (List D)}{F:FS}{δ:ao}{ds:List D}{r:R Out}(h:it δ= .ok ds)(h2:px t F ds δ=r):oT it t F δ=r:=by unfold oT;rw [h,R.aI];exact h2
theorem cJ{f:FD}{δ:ao}{d:D}(h:f δ= .ok d):fX f δ= .ok (.rt d):=by unfold fX;rw [h];rfl
theorem dz{N:List Str}{F:FS}{ds:List D}{d:D}(h:F (bZ N ds)= .ok (.rt d)):rD N F ds= .ok d:=by unfold rD;rw [h];rfl
theorem bD{α:Type}{p:Prop} [Decidable p](r:R α)(h:p):R.aS (decide p) r=r:=by rw[decide_eq_true h];rfl
theorem bp{i:Nat}{f:FD}{δ:ao}{d:D}(h:f δ= .ok d)(hi:i < δ.length):cR i f δ= .ok (.nx (δ.set i (.val d))):=by unfold cR;rw [h,R.aI,bD _ hi]
theorem jr{i:Nat}{f:ao->R (List D)}{δ:ao}{ds:List D}(h:f δ= .ok ds)(hi:i < δ.length):mX i f δ= .ok (.nx (δ.set i (.bld ds))):=by unfold mX;rw [h,R.aI,bD _ hi]
theorem iq{i:Nat}{f:FD}{δ:ao}{d:D}{ds:List D}(h:f δ= .ok d)(hb:δ[i]? =some (.bld ds))(hl:ds.length < sizeLine):nK i f δ= .ok (.nx (δ.set i (.bld (ds++[d])))):=by unfold nK q0;rw [h,R.aI,hb];show R.aS _ _=_;rw [bD _ hl]
theorem ee{it:ao->R (List D)}{c:ao->R Bool}{own:List Str}{kp:List Nat}{δ:ao}{ds ys:List D}(h1:it δ= .ok ds)(h2:ds.length<=sizeLine)(h3:nG t c f (oR own kp δ) ds= .ok ys):di it t c f own kp δ= .ok ys:=by unfold di;rw [h1,R.aI,bD _ h2,h3]
theorem G6{ds:List D}{i:Int}{d:D}(h:um ds i=some d):dC (.lst ds) (.int i)= .ok d:=by unfold dC;simp only[h]
theorem xW{x:Str}{i:Int}{c:Nat}(hz:x.length<=sizeLine)(h:um x.cps.toList i=some c):dC (.str x) (.int i)= .ok (.str ⟨#[c]⟩):=by unfold dC;simp only[h,bD _ hz]
end L2
end
section
namespace L2
open PySem PySem.Spec PyProof.Rows
theorem aw{g:D->D->R D}{fa fb:FD}{δ:ao}{a b:D}{r:R D}(ha:fa δ= .ok a)(hb:fb δ= .ok b)(h:g a b=r):e2 g fa fb δ=r:=by unfold e2;rw [ha,R.aI,hb,R.aI];exact h
theorem du{g:D->D->R D}{fa fb:FD}{δ:ao}{a b:D}{k:Bool}(ha:fa δ= .ok a)(hb:fb δ= .ok b)(h:g a b= .ok (.bl k)):b2 g fa fb δ= .ok k:=by unfold b2;rw [aw ha hb h];rfl
theorem aq{f:FD}{g:ao->R (List D)}{δ:ao}{d:D}{ds:List D}(h:f δ= .ok d)(h2:g δ= .ok ds):ai f g δ= .ok (d ::ds):=by unfold ai;rw [h,R.aI,h2];rfl
theorem ax{g:List D->R D}{fs:ao->R (List D)}{δ:ao}{ds:List D}{r:R D}(h:fs δ= .ok ds)(h2:g ds=r):aL g fs δ=r:=by unfold aL;rw [h,R.aI];exact h2
theorem n6{f:FD}{δ:ao}{d:D}(h:f (mr δ)= .ok d)(ha:d.atom=true):lr f δ= .ok d:=by unfold lr;rw [h,R.aI,ha];rfl
theorem dc{g:ao->R (List D)}{δ:ao}{ds:List D}(h:g δ= .ok ds)(hl:ds.length<=sizeLine):jA g δ= .ok (.tup ds):=by unfold jA;rw [h,R.aI,bD _ hl]
theorem cN{g:ao->R (List D)}{δ:ao}{ds:List D}(h:g δ= .ok ds)(hl:ds.length<=sizeLine):eO g δ= .ok ds:=by unfold eO;rw [h,R.aI,bD _ hl]
theorem jq{g:D->List D->R D}{f:FD}{fs:ao->R (List D)}{δ:ao}{ds:List D}{r:R D}(h:f δ= .ok (.str x))(h2:fs δ= .ok ds)(h3:g (.str x) ds=r):rq "str" g f fs δ=r:=by
 unfold rq;rw [h,R.aI,h2,R.aI];exact h3
theorem kc{f:FD}{fl fh:FO}{δ:ao}{d:D}{lo hi:Option Int}{r:R D}(h:f δ= .ok d)(h1:fl δ= .ok lo)(h2:fh δ= .ok hi)(h3:GA d lo hi=r):wc f fl fh δ=r:=by unfold wc;rw [h,R.aI,h1,R.aI,h2,R.aI];exact h3
theorem eL{f:FD}{δ:ao}{i:Int}(h:f δ= .ok (.int i)):g6 f δ= .ok (some i):=by unfold g6;rw [h];rfl
theorem CN{x:Str}{lo hi:Option Int}(h:x.length<=sizeLine):GA (.str x) lo hi= .ok (.str (Txt.slice x lo hi)):=by unfold GA;exact bD _ h
theorem l7{a b:Str}(h:a.length+b.length<=sizeLine):cj (.str a) (.str b)= .ok (.str (a++b)):=by unfold cj;exact bD _ h
theorem mh{a b:List D}(h:a.length+b.length<=sizeLine):cj (.lst a) (.lst b)= .ok (.lst (a++b)):=by unfold cj;exact bD _ h
theorem qW{a b:Int}(h:0 < b):dO (.int a) (.int b)= .ok (.int (a % b)):=by unfold dO DM;exact bD _ h
theorem yE{a b:Int}(h:0 < b)(h2:b < 1073741824):dF (.int a) (.int b)= .ok (.int (a / b)):=by unfold dF DM;exact bD _ ⟨h,h2⟩
theorem F3{a:Str}{n:Int}(h0:0<=n)(h1:n < 1000)(hl:a.length*n.toNat<=sizeLine):mv (.str a) (.int n)= .ok (.str (Txt.mul a n)):=by unfold mv;exact bD _ ⟨by omega,by omega,hl⟩
theorem D8{f:FD}{δ:ao}{n:Nat}(h:f δ= .ok (.int n))(hn:n < 1000000):fu f δ= .ok (pJ 0 n):=by
 unfold fu;rw [h,R.aI];show R.aS (decide (-(2 ^ 62)<=(n:Int)/\(n:Int) < 2 ^ 62)) _=_;rw[bD _ ⟨by omega,by omega⟩,Int.toNat_natCast]
theorem eZ{f:FD}{δ:ao}{ds:List D}(h:f δ= .ok (.lst ds)):dk f δ= .ok ds:=by unfold dk;rw [h];rfl
theorem Hi{f:FD}{δ:ao}{ds:List D}(h:f δ= .ok (.tup ds)):dk f δ= .ok ds:=by unfold dk;rw [h];rfl
theorem wW{f:FD}{δ:ao}{ds:List D}(h:f δ= .ok (.lst ds)):mS f δ= .ok (kL ds):=by unfold mS;rw [h];rfl
theorem A8{f:FD}{δ:ao}{b:Bool}(h:f δ= .ok (.bl b)):J5 f δ= .ok b:=by unfold J5;rw [h];rfl
theorem g_{f:FD}{g:ao->R (List Str)}{δ:ao}{ss:List Str}(h:f δ= .ok (.str x))(h2:g δ= .ok ss):bM f g δ= .ok (x ::ss):=by unfold bM;rw [h,R.aI];show(g δ).bind _=_;rw [h2];rfl
theorem uY{f:FD}{δ:ao}{x:Str}(h:f δ= .ok (.str x))(hl:x.length<=sizeLine):jS f δ= .ok (.str x):=by unfold jS;rw [h,R.aI];unfold Ey;exact bD _ hl
theorem qx{f:FD}{δ:ao}{i:Int}(h:f δ= .ok (.int i))(hl:i.natAbs.log2 < 1920):jS f δ= .ok (.str (toString i)):=by unfold jS;rw [h,R.aI];unfold Ey;exact bD _ hl
theorem ng{g:ao->R (List Str)}{δ:ao}{ss:List Str}(h:g δ= .ok ss)(hl:(ss.foldl (·++·) Str.empty).length<=sizeLine):cZ g δ= .ok (.str (ss.foldl (·++·) Str.empty)):=by unfold cZ;rw [h,R.aI,bD _ hl]
theorem LN(ds:List D):jO [.lst ds]= .ok (.int ds.length):=rfl
theorem sZ{i:Int}(h:i.natAbs.log2 < 1920):cStr [.int i]= .ok (.str (toString i)):=by unfold cStr;exact bD _ h
end L2
end
section
namespace L3
open PySem PySem.Spec PyProof.Rows L2
inductive V3 where
 | d (x:D) | loc (k:Nat) | lst (vs:List V3) | tup (vs:List V3) | fn (x:Str)
inductive SO where
 | lst (ds:List D) | dct (aA:List (Key × D)) | ins (c:Nat) (fs:List (Str × V3)) | kT | exc (c:Nat)
abbrev aQ:=List SO
inductive R3 (α:Type) where
 | ok (a:α) (S:aQ) | ex (c:Nat) (S:aQ) | no
def R3.bind{α β:Type}:R3 α->(α->aQ->R3 β)->R3 β
 | .ok a S,f=>f a S
 | .ex c S,_=> .ex c S
 | .no,_=> .no
theorem R3.ah{α β:Type}{r:R3 α}{f:α->aQ->R3 β}{b:β}{S':aQ}(h:r.bind f= .ok b S'):∃a S,r= .ok a S/\f a S= .ok b S':=by
 cases r with
 | ok a S=>exact⟨a,S,rfl,h⟩
 | ex c S=>cases h
 | no=>cases h
@[simp] theorem R3.aI{α β:Type}(a:α)(S:aQ)(f:α->aQ->R3 β):(R3.ok a S).bind f=f a S:=rfl
def R3.aS{α:Type}(c:Bool)(r:R3 α):R3 α:=if c then r else .no
theorem R3.aO{α:Type}{c:Bool}{r:R3 α}{a:α}{S:aQ}(h:R3.aS c r= .ok a S):c=true/\r= .ok a S:=by
 cases c with
 | true=>exact⟨rfl,h⟩
 | false=>cases h
def R3.of{α:Type}(r:R α)(S:aQ):R3 α:=match r with | .ok a=> .ok a S | _=> .no
theorem R3.of_ok{α:Type}{r:R α}{S S':aQ}{a:α}(h:R3.of r S= .ok a S'):r= .ok a/\S'=S:=by
 cases r with
 | ok b=>cases h;exact⟨rfl,rfl⟩
 | ex c=>cases h
 | no=>cases h
structure P3 where
 r:List Addr
 z:List Addr
 f:List Addr
def P3.b(ρ:P3):List Addr:=ρ.r.filter (fun a=>!ρ.f.contains a)++ρ.z
theorem P3.eG{ρ:P3}{a:Addr}:a∈ρ.b↔(a∈ρ.r/\a ∉ ρ.f)\/a∈ρ.z:=by
 unfold P3.b;rw[List.mem_append,List.mem_filter];simp
def P3.push(ρ:P3)(a:Addr):P3:=⟨ρ.r++[a],ρ.z,ρ.f⟩
def P3.cut(ρ:P3)(n:Nat):P3:=⟨ρ.r.take n,ρ.z,ρ.f⟩
mutual
def aX(K:W.Frag)(ρ:P3)(H:Hp):V3->V->Prop
 | .d x,v=>Rep K ρ.b H x v
 | .loc k,v=>∃a,ρ.r[k]? =some a/\v= .ref a
 | .lst vs,v=>∃a xs,v= .ref a/\uD K ρ.b H a xs/\aC K ρ H vs xs
 | .tup vs,v=>∃a xs,v= .ref a/\wM K ρ.b H a xs/\aC K ρ H vs xs
 | .fn x,v=>∃a,PySem.W.nsIn K mainGlobals x=some (some (.ref a))/\v= .ref a
def aC(K:W.Frag)(ρ:P3)(H:Hp):List V3->List V->Prop
 | [],xs=>xs=[]
 | d ::ds,xs=>∃x r,xs=x ::r/\aX K ρ H d x/\aC K ρ H ds r
end
structure Pre (ρ:P3) (H:Hp) (bB:P3) (H':Hp):Prop where
 ba:dt ρ.b H bB.b H'
 zz:bB.z=ρ.z
 zs:∀(b:Addr) (o:HO),b∈ρ.z->H b=some o->H' b=some o
 ext:∀(k:Nat) (a:Addr),ρ.r[k]? =some a->bB.r[k]? =some a
theorem Pre.refl(ρ:P3)(H:Hp):Pre ρ H ρ H:=⟨dt.refl ρ.b H,rfl,fun _ _ _ h=>h,fun _ _ h=>h⟩
theorem Pre.trans(a:Pre ρ H bB H')(b:Pre bB H' Dv mO):Pre ρ H Dv mO:=⟨a.ba.trans b.ba,b.zz.trans a.zz,fun c o hc h=>b.zs c o (by rw[a.zz];exact hc) (a.zs c o hc h),fun k x h=>b.ext k x (a.ext k x h)⟩
theorem Pre.same(s:aM H H'):Pre ρ H ρ H':=⟨dt.same s,rfl,fun b o _ h=>s b o h,fun _ _ h=>h⟩
theorem wM.ba{K:W.Frag}{B B':List Addr}(p:dt B H B' H'){a:Addr}{xs:List V}(l:wM K B H a xs):wM K B' H' a xs:=
 l.elim (fun z=> .inl ⟨(p.rd z.2 z.1).2,(p.rd z.2 z.1).1⟩) .inr
mutual
theorem aX.pre{K:W.Frag}(p:Pre ρ H bB H'):∀{d:V3} {v:V},aX K ρ H d v->aX K bB H' d v
 | .d x,v,h=>by unfold aX at h ⊢;exact h.ba p.ba
 | .loc k,v,h=>by unfold aX at h ⊢;obtain⟨a,h1,h2⟩:=h;exact⟨a,p.ext k a h1,h2⟩
 | .lst vs,v,h=>by unfold aX at h ⊢;obtain⟨a,xs,e,l,r⟩:=h;exact⟨a,xs,e,l.ba p.ba,aC.pre p r⟩
 | .tup vs,v,h=>by unfold aX at h ⊢;obtain⟨a,xs,e,l,r⟩:=h;exact⟨a,xs,e,wM.ba p.ba l,aC.pre p r⟩
 | .fn x,v,h=>by unfold aX at h ⊢;exact h
theorem aC.pre{K:W.Frag}(p:Pre ρ H bB H'):∀{ds:List V3} {xs:List V},aC K ρ H ds xs->aC K bB H' ds xs
 | [],_,h=>by unfold aC at h ⊢;exact h
 | d ::ds,xs,h=>by
   unfold aC at h ⊢;obtain⟨x,r,e,h1,h2⟩:=h;exact⟨x,r,e,aX.pre p h1,aC.pre p h2⟩
end
structure PW (ρ:P3) (H:Hp) (bB:P3) (H':Hp):Prop where
 ba:dt ρ.b H bB.b H'
 ext:∀(k:Nat) (a:Addr),ρ.r[k]? =some a->bB.r[k]? =some a
theorem Pre.pw(p:Pre ρ H bB H'):PW ρ H bB H':=⟨p.ba,p.ext⟩
theorem PW.trans(a:PW ρ H bB H')(b:PW bB H' Dv mO):PW ρ H Dv mO:=⟨a.ba.trans b.ba,fun k x h=>b.ext k x (a.ext k x h)⟩
mutual
theorem aX.pw{K:W.Frag}(p:PW ρ H bB H'):∀{d:V3} {v:V},aX K ρ H d v->aX K bB H' d v
 | .d x,v,h=>by unfold aX at h ⊢;exact h.ba p.ba
 | .loc k,v,h=>by unfold aX at h ⊢;obtain⟨a,h1,h2⟩:=h;exact⟨a,p.ext k a h1,h2⟩
 | .lst vs,v,h=>by unfold aX at h ⊢;obtain⟨a,xs,e,l,r⟩:=h;exact⟨a,xs,e,l.ba p.ba,aC.pw p r⟩
 | .tup vs,v,h=>by unfold aX at h ⊢;obtain⟨a,xs,e,l,r⟩:=h;exact⟨a,xs,e,wM.ba p.ba l,aC.pw p r⟩
 | .fn x,v,h=>by unfold aX at h ⊢;exact h
theorem aC.pw{K:W.Frag}(p:PW ρ H bB H'):∀{ds:List V3} {xs:List V},aC K ρ H ds xs->aC K bB H' ds xs
 | [],_,h=>by unfold aC at h ⊢;exact h
 | d ::ds,xs,h=>by
   unfold aC at h ⊢;obtain⟨x,r,e,h1,h2⟩:=h;exact⟨x,r,e,aX.pw p h1,aC.pw p h2⟩
end
theorem aC.nil{K:W.Frag}:aC K ρ H [] []:=by unfold aC;rfl
theorem aC.cons{K:W.Frag}{d:V3}{ds:List V3}{x:V}{xs:List V}(h:aX K ρ H d x)(t:aC K ρ H ds xs):aC K ρ H (d ::ds) (x ::xs):=by
 unfold aC;exact⟨x,xs,rfl,h,t⟩
theorem aC.b5{K:W.Frag}{d:V3}{ds:List V3}{xs:List V}(h:aC K ρ H (d ::ds) xs):∃x r,xs=x ::r/\aX K ρ H d x/\aC K ρ H ds r:=by
 unfold aC at h;exact h
theorem aC.length{K:W.Frag}:∀{ds:List V3} {xs:List V},aC K ρ H ds xs->ds.length=xs.length
 | [],_,h=>by unfold aC at h;rw [h];rfl
 | d ::ds,xs,h=>by
   obtain⟨x,r,rfl,_,h2⟩:=h.b5;simp [h2.length]
theorem aC.of{K:W.Frag}{ρ:P3}:∀{ds:List D} {xs:List V},aD K ρ.b H ds xs->aC K ρ H (ds.map .d) xs
 | [],_,h=>by unfold aD at h;subst h;exact aC.nil
 | d ::ds,xs,h=>by
   obtain⟨x,r,rfl,h1,h2⟩:=h.b5;exact aC.cons (by unfold aX;exact h1) (aC.of h2)
theorem aC.to{K:W.Frag}{ρ:P3}:∀{ds:List D} {xs:List V},aC K ρ H (ds.map .d) xs->aD K ρ.b H ds xs
 | [],_,h=>by unfold aC at h;subst h;exact aD.nil
 | d ::ds,xs,h=>by
   obtain⟨x,r,rfl,h1,h2⟩:=aC.b5 h;unfold aX at h1;exact aD.cons h1 (aC.to h2)
def isExc(C b:Addr):Heap->Prop:=fun h=>∃o,h.get? b=some o/\o.cls= .ref C
def Dq(K:W.Frag)(cl:Wb)(ρ:P3)(H:Hp):SO->Option HO->Prop
 | .lst ds,h=>∃xs,h=some (.lst xs)/\aD K ρ.b H ds xs
 | .dct aA,h=>∃ys,h=some (.dK ys)/\ys.map (·.1)=aA.map (·.1)/\aD K ρ.b H (aA.map (·.2)) (ys.map (·.2))
 | .ins c fs,h=>∃dx ys,h=some (.ins (cl c) dx ys)/\ys.map (·.1)=fs.map (·.1)/\aC K ρ H (fs.map (·.2)) (ys.map (·.2))
 | .kT,h=>∃u,h=some u
 | .exc c,h=>∃b,h=some (.ext (isExc (cl c) b))
theorem Dq.pre{K:W.Frag}{cl:Wb}(p:Pre ρ H bB H'){o:SO}{h:Option HO}(r:Dq K cl ρ H o h):Dq K cl bB H' o h:=by
 cases o with
 | lst ds=>obtain⟨xs,e,q⟩:=r;exact⟨xs,e,q.ba p.ba⟩
 | dct aA=>obtain⟨ys,e,e2,q⟩:=r;exact⟨ys,e,e2,q.ba p.ba⟩
 | ins c fs=>obtain⟨dx,ys,e,e2,q⟩:=r;exact⟨dx,ys,e,e2,q.pre p⟩
 | kT=>exact r
 | exc c=>exact r
theorem Dq.pw{K:W.Frag}{cl:Wb}(p:PW ρ H bB H'){o:SO}{h:Option HO}(r:Dq K cl ρ H o h):Dq K cl bB H' o h:=by
 cases o with
 | lst ds=>obtain⟨xs,e,q⟩:=r;exact⟨xs,e,q.ba p.ba⟩
 | dct aA=>obtain⟨ys,e,e2,q⟩:=r;exact⟨ys,e,e2,q.ba p.ba⟩
 | ins c fs=>obtain⟨dx,ys,e,e2,q⟩:=r;exact⟨dx,ys,e,e2,q.pw p⟩
 | kT=>exact r
 | exc c=>exact r
theorem Dq.some{K:W.Frag}{cl:Wb}{o:SO}{h:Option HO}(r:Dq K cl ρ H o h):∃u,h=some u:=by
 cases o with
 | lst ds=>obtain⟨xs,e,q⟩:=r;exact⟨_,e⟩
 | dct aA=>obtain⟨ys,e,e2,q⟩:=r;exact⟨_,e⟩
 | ins c fs=>obtain⟨dx,ys,e,e2,q⟩:=r;exact⟨_,e⟩
 | kT=>exact r
 | exc c=>obtain⟨b,e⟩:=r;exact⟨_,e⟩
structure SW (K:W.Frag) (cl:Wb) (ρ:P3) (H:Hp) (S:aQ):Prop where
 len:ρ.r.length=S.length
 nd:∀(i j:Nat) (a:Addr),ρ.r[i]? =some a->ρ.r[j]? =some a->i=j
 ob:∀(k:Nat) (a:Addr) (o:SO),ρ.r[k]? =some a->S[k]? =some o->Dq K cl ρ H o (H a)
 zb:∀b∈ρ.z,(∃xs,H b=some (.lst xs))/\b ∉ ρ.r
 fz:∀(k:Nat) (a:Addr),ρ.r[k]? =some a->S[k]?≠some .kT->a ∉ ρ.f
 ff:∀a∈ρ.f,∃o,H a=some o
 fi:∀(k:Nat) (a:Addr),ρ.r[k]? =some a->S[k]? =some .kT->a∈ρ.f
theorem SW.rs{K:W.Frag}{cl:Wb}{ρ:P3}{H:Hp}{S:aQ}(w:SW K cl ρ H S):∀a∈ρ.r,∃o,H a=some o:=fun a z=>by
 obtain⟨k,hk⟩:=List.getElem?_of_mem z;have hl:=(List.getElem?_eq_some_iff.mp hk).1;exact(w.ob k a _ hk (List.getElem?_eq_getElem (by rw[<-w.len];exact hl))).some
theorem SW.bs{K:W.Frag}{cl:Wb}{ρ:P3}{H:Hp}{S:aQ}(w:SW K cl ρ H S):∀a∈ρ.b,∃o,H a=some o:=fun a ha=>by
 rcases P3.eG.mp ha with z | z
 .exact w.rs a z.1
 .obtain⟨xs,h⟩:=(w.zb a z).1;exact⟨_,h⟩
theorem SW.same{K:W.Frag}{cl:Wb}{S:aQ}(w:SW K cl ρ H S)(s:aM H H'):SW K cl ρ H' S:=
 ⟨w.len,w.nd,fun k a o h1 h2=>by
   have r:=w.ob k a o h1 h2;obtain⟨u,hu⟩:=r.some;rw[s a u hu,<-hu];exact r.pre (Pre.same s),fun b hb=>let⟨⟨o,ho⟩,n⟩:=w.zb b hb;⟨⟨o,s b _ ho⟩,n⟩,w.fz,fun a ha=>let⟨o,ho⟩:=w.ff a ha;⟨o,s a o ho⟩,w.fi⟩
theorem P3.mem_push{ρ:P3}{a b:Addr}(h:b∈(ρ.push a).b):b∈ρ.b\/b=a:=by
 rcases P3.eG.mp h with⟨z,n⟩ | z
 .rcases List.mem_append.mp z with y | y
  .exact .inl (P3.eG.mpr (.inl ⟨y,n⟩))
  .exact .inr (List.mem_singleton.mp y)
 .exact .inl (P3.eG.mpr (.inr z))
theorem SW.new{K:W.Frag}{cl:Wb}{ρ:P3}{H H':Hp}{S:aQ}(w:SW K cl ρ H S){a:Addr}{o:SO}(s:aM H H')(n:H a=none)(r:Dq K cl (ρ.push a) H' o (H' a))(p_:o≠SO.kT:=by intro h;cases h) :
 SW K cl (ρ.push a) H' (S++[o])/\Pre ρ H (ρ.push a) H':=by
 have na:a ∉ ρ.b:=fun ha=>by obtain⟨o,ho⟩:=w.bs a ha;rw [n] at ho;cases ho
 have nr:a ∉ ρ.r:=fun ha=>by obtain⟨o,ho⟩:=w.rs a ha;rw [n] at ho;cases ho
 have nf:a ∉ ρ.f:=fun ha=>by obtain⟨o,ho⟩:=w.ff a ha;rw [n] at ho;cases ho
 have p:Pre ρ H (ρ.push a) H':=⟨fun b u e nb=>⟨s b u e,fun hb=>by
  rcases P3.mem_push hb with z | z
  .exact nb z
  .subst z;rw [n] at e;cases e⟩,rfl,fun b o _ h=>s b o h,fun k x hx=>by
   show(ρ.r++[a])[k]? =_;rw[List.getElem?_append_left (List.getElem?_eq_some_iff.mp hx).1];exact hx⟩
 have last:∀(i:Nat) (b:Addr),(ρ.push a).r[i]? =some b->(i < ρ.r.length/\ρ.r[i]? =some b)\/(i=ρ.r.length/\b=a):=fun i b h=>by
  have h:(ρ.r++[a])[i]? =some b:=h;by_cases q:i < ρ.r.length
  .rw [List.getElem?_append_left q] at h;exact .inl ⟨q,h⟩
  .rw [List.getElem?_append_right (by omega)] at h
   have h0:i - ρ.r.length=0:=by
    have:=(List.getElem?_eq_some_iff.mp h).1;simp at this;omega
   rw[h0] at h;cases h;exact .inr ⟨by omega,rfl⟩
 refine⟨⟨by show(ρ.r++[a]).length=_;rw [List.length_append,List.length_append,w.len];rfl,fun i j b hi hj=>?_,fun k b u hk hu=>?_,fun b hb=>?_,fun k b hk hu=>?_,fun b hb=>?_,fun k b hk hu=>?_⟩,p⟩
 .rcases last i b hi with⟨q1,q2⟩ | ⟨q1,rfl⟩
  .rcases last j b hj with⟨z1,z2⟩ | ⟨z1,rfl⟩
   .exact w.nd i j b q2 z2
   .exact absurd (List.mem_of_getElem? q2) nr
  .rcases last j b hj with⟨z1,z2⟩ | ⟨z1,z3⟩
   .exact absurd (List.mem_of_getElem? z2) nr
   .omega
 .rcases last k b hk with⟨q1,q2⟩ | ⟨q1,rfl⟩
  .rw [List.getElem?_append_left (by rw[<-w.len];exact q1)] at hu
   have r0:=w.ob k b u q2 hu;obtain⟨x,hx⟩:=r0.some;rw[s b x hx,<-hx];exact r0.pre p
  .rw [List.getElem?_append_right (by rw[<-w.len];omega),q1,w.len,Nat.sub_self] at hu
   cases hu;exact r
 .obtain⟨⟨o,ho⟩,nb⟩:=w.zb b hb;refine⟨⟨o,s b _ ho⟩,fun h=>?_⟩
  rcases List.mem_append.mp h with y | y
  .exact nb y
  .rw [List.mem_singleton] at y;subst y;rw [n] at ho;cases ho
 .rcases last k b hk with⟨q1,q2⟩ | ⟨q1,rfl⟩
  .rw [List.getElem?_append_left (by rw[<-w.len];exact q1)] at hu
   exact w.fz k b q2 hu
  .exact nf
 .obtain⟨o,ho⟩:=w.ff b hb;exact⟨o,s b o ho⟩
 .rcases last k b hk with⟨q1,q2⟩ | ⟨q1,rfl⟩
  .rw [List.getElem?_append_left (by rw[<-w.len];exact q1)] at hu
   exact w.fi k b q2 hu
  .rw [List.getElem?_append_right (by rw[<-w.len];omega),q1,w.len,Nat.sub_self] at hu
   cases hu;exact absurd rfl p_
theorem SW.put{K:W.Frag}{cl:Wb}{ρ:P3}{S:aQ}(w:SW K cl ρ H S){k:Nat}{a:Addr}{o:SO}{u:HO}(hk:ρ.r[k]? =some a)(hf:a ∉ ρ.f)(r:Dq K cl ρ H o (some u))(p_:o≠SO.kT:=by intro h;cases h) :
 SW K cl ρ (upd H a u) (S.set k o)/\Pre ρ H ρ (upd H a u):=by
 have ha:a∈ρ.r:=List.mem_of_getElem? hk;have hb:a∈ρ.b:=P3.eG.mpr (.inl ⟨ha,hf⟩);have nz:∀b∈ρ.z,b≠a:=fun b hb z=>(w.zb b hb).2 (by rw[z];exact ha)
 have p:Pre ρ H ρ (upd H a u):=⟨fun b x e nb=>⟨by rw[a_ (fun(z:b=a)=>nb (by rw[z];exact hb))];exact e,nb⟩,rfl,fun b o hb h=>by rw[a_ (nz b hb)];exact h,fun _ _ h=>h⟩
 have hl:k < S.length:=by rw[<-w.len];exact(List.getElem?_eq_some_iff.mp hk).1
 refine⟨⟨by rw[List.length_set];exact w.len,w.nd,fun j b x hj hx=>?_,fun b hb=>?_,fun j b hj hx=>?_,fun b hb=>?_,fun j b hj hx=>?_⟩,p⟩
 .by_cases q:k=j
  .subst q;rw[hk] at hj;cases hj;rw[List.getElem?_set_self hl] at hx;cases hx;rw[aY];exact r.pre p
  .rw [List.getElem?_set_ne q] at hx;have ne:b≠a:=fun z=>by subst z;exact q (w.nd k j b hk hj)
   rw[a_ ne];exact(w.ob j b x hj hx).pre p
 .obtain⟨⟨o,ho⟩,nb⟩:=w.zb b hb;exact⟨⟨o,by rw[a_ (nz b hb)];exact ho⟩,nb⟩
 .by_cases q:k=j
  .subst q;rw[hk] at hj;cases hj;exact hf
  .rw [List.getElem?_set_ne q] at hx;exact w.fz j b hj hx
 .obtain⟨o,ho⟩:=w.ff b hb;exact⟨o,by rw[a_ (fun z=>hf (by rw[<-z];exact hb))];exact ho⟩
 .by_cases q:k=j
  .subst q;rw[List.getElem?_set_self hl] at hx;cases hx;exact absurd rfl p_
  .rw [List.getElem?_set_ne q] at hx;exact w.fi j b hj hx
mutual
def xG:D->Bool
 | .lst _=>false
 | .dct _ _=>false
 | .tup ds=>u7 ds
 | _=>true
def u7:List D->Bool
 | []=>true
 | d ::ds=>xG d && u7 ds
end
mutual
theorem Rep.yD{K:W.Frag}{B:List Addr}(hB:∀b∈B,∀xs,¬Rd H b (.tup xs)):∀{d:D} {v:V},xG d=true->Rep K [] H d v->Rep K B H d v
 | .cH,v,_,r=>Rep.cH.mpr (Rep.cH.mp r)
 | .bl _,v,_,r=>Rep.bl.mpr (Rep.bl.mp r)
 | .int _,v,_,r=>Rep.int.mpr (Rep.int.mp r)
 | .str _,v,_,r=>Rep.str.mpr (Rep.str.mp r)
 | .lst _,v,h,_=>by unfold xG at h;cases h
 | .dct _ _,v,h,_=>by unfold xG at h;cases h
 | .tup ds,v,h,r=>by
   unfold xG at h;obtain⟨a,xs,rfl,l,rs⟩:=Rep.tup.mp r;exact Rep.tup.mpr ⟨a,xs,rfl,l.elim (fun z=> .inl ⟨fun hb=>hB a hb xs z.2,z.2⟩) .inr,aD.yD hB h rs⟩
theorem aD.yD{K:W.Frag}{B:List Addr}(hB:∀b∈B,∀xs,¬Rd H b (.tup xs)):∀{ds:List D} {vs:List V},u7 ds=true->aD K [] H ds vs->aD K B H ds vs
 | [],_,_,r=>by unfold aD at r;subst r;exact aD.nil
 | d ::ds,vs,h,r=>by
   unfold u7 at h;obtain⟨h1,h2⟩:=Bool.and_eq_true_iff.mp h;obtain⟨x,xs,rfl,r1,r2⟩:=r.b5;exact aD.cons (Rep.yD hB h1 r1) (aD.yD hB h2 r2)
end
abbrev DE:=List (Option V3)
structure eJ (K:W.Frag) (cl:Wb) (ρ:P3) (H:Hp) (S:aQ) (σ:L2.St) (δ:DE):Prop where
 len:δ.length=σ.length
 sw:SW K cl ρ H S
 val:∀(i:Nat) (d:V3),δ[i]? =some (some d)->∃v,σ[i]? =some (some v)/\aX K ρ H d v
theorem eJ.to{K:W.Frag}{cl:Wb}{S S':aQ}{σ:L2.St}{δ:DE}(E:eJ K cl ρ H S σ δ)(p:Pre ρ H bB H')(w:SW K cl bB H' S'):eJ K cl bB H' S' σ δ:=
 ⟨E.len,w,fun i d e=>let⟨v,h1,h2⟩:=E.val i d e;⟨v,h1,h2.pre p⟩⟩
theorem eJ.set{K:W.Frag}{cl:Wb}{S:aQ}{σ:L2.St}{δ:DE}(E:eJ K cl ρ H S σ δ){i:Nat}{d:V3}{v:V}(hi:i < σ.length)(r:aX K ρ H d v):eJ K cl ρ H S (σ.set i (some v)) (δ.set i (some d)):=
 ⟨by rw[List.length_set,List.length_set];exact E.len,E.sw,fun j d' e=>by
   by_cases h:i=j
   .subst h;rw[List.getElem?_set_self (by rw[E.len];exact hi)] at e
    cases e;exact⟨v,List.getElem?_set_self hi,r⟩
   .rw [List.getElem?_set_ne h] at e ⊢;exact E.val j d' e⟩
def down(δ:DE):ao:=δ.map fun x=>match x with | some (.d d)=> .val d | _=> .un
theorem eJ.down{K:W.Frag}{cl:Wb}{ρ:P3}{S:aQ}{σ:L2.St}{δ:DE}(E:eJ K cl ρ H S σ δ):dr K [] ρ.b H σ (down δ) where
 len:=by unfold L3.down;rw [List.length_map];exact E.len
 bs:=E.sw.bs
 zb:=fun a ha=>by cases ha
 val:=fun i d e=>by
  unfold L3.down at e;rw[List.getElem?_map] at e;cases q:δ[i]? with
  | none=>rw [q] at e;cases e
  | some x=>
    rw[q] at e
    match x,e,q with
    | some (.d y),e,q=>
      cases e;obtain⟨v,h1,h2⟩:=E.val i _ q;unfold aX at h2;exact⟨v,h1,h2⟩
    | some (.loc k),e,q=>cases e
    | some (.lst k),e,q=>cases e
    | some (.tup k),e,q=>cases e
    | none,e,q=>cases e
 bld:=fun i ds e=>by
  unfold L3.down at e;rw[List.getElem?_map] at e;cases q:δ[i]? with
  | none=>rw [q] at e;cases e
  | some x=>
    rw[q] at e
    match x,e with
    | some (.d y),e=>cases e
    | some (.loc k),e=>cases e
    | some (.lst k),e=>cases e
    | some (.tup k),e=>cases e
    | none,e=>cases e
 dis:=fun i j a ds es e=>by
  unfold L3.down at e;rw[List.getElem?_map] at e;cases q:δ[i]? with
  | none=>rw [q] at e;cases e
  | some x=>
    rw[q] at e
    match x,e with
    | some (.d y),e=>cases e
    | some (.loc k),e=>cases e
    | some (.lst k),e=>cases e
    | some (.tup k),e=>cases e
    | none,e=>cases e
mutual
def res(S:aQ):V3->Option D
 | .d x=>some x
 | .loc k=>(match S[k]? with | some (.lst ds)=>some (.lst ds) | some (.dct aA)=>some (.dct (aA.map (·.1)) (aA.map (·.2))) | _=>none)
 | .lst vs=>(u6 S vs).map D.lst
 | .tup vs=>(u6 S vs).map D.tup
 | .fn _=>none
def u6(S:aQ):List V3->Option (List D)
 | []=>some []
 | v ::vs=>(res S v).bind fun d=>(u6 S vs).map (d ::·)
end
def CI(S:aQ)(δ:DE):ao:=δ.map fun x=>match x with | some v=>(match res S v with | some d=> .val d | none=> .un) | none=> .un
theorem oA{α β:Type}{o:Option α}{f:α->β}{b:β}(h:o.map f=some b):∃a,o=some a/\f a=b:=by
 cases o with
 | none=>cases h
 | some a=>cases h;exact⟨a,rfl,rfl⟩
theorem wg{α β:Type}{o:Option α}{f:α->Option β}{b:β}(h:o.bind f=some b):∃a,o=some a/\f a=some b:=by
 cases o with
 | none=>cases h
 | some a=>exact⟨a,rfl,h⟩
mutual
def kY(n:Nat):V3->Bool
 | .d _=>true
 | .loc k=>decide (n<=k)
 | .lst vs=>nE n vs
 | .tup vs=>nE n vs
 | .fn _=>true
def nE(n:Nat):List V3->Bool
 | []=>true
 | v ::vs=>kY n v && nE n vs
end
mutual
theorem aX.resB{K:W.Frag}{cl:Wb}{ρ:P3}{S:aQ}{B':List Addr}{n:Nat}(w:SW K cl ρ H S)(p:dt ρ.b H B' H)(hn:∀(k:Nat) (a:Addr),n<=k->ρ.r[k]? =some a->a ∉ B'):∀{v:V3} {d:D} {x:V},kY n v=true->res S v=some d->aX K ρ H v x->Rep K B' H d x
 | .d y,d,x,_,h,r=>by unfold L3.res at h;cases h;unfold aX at r;exact r.ba p
 | .fn y,d,x,_,h,r=>by unfold L3.res at h;cases h
 | .loc k,d,x,g,h,r=>by
   unfold L3.res at h;unfold aX at r;unfold kY at g;obtain⟨a,h1,rfl⟩:=r;split at h
   .rename_i ds e;cases h;obtain⟨xs,e2,q⟩:=w.ob k a _ h1 e;unfold Rep;exact⟨a,xs,rfl, .inl ⟨hn k a (of_decide_eq_true g) h1, .inl e2⟩,q.ba p⟩
   .rename_i aA e;cases h;obtain⟨ys,e2,e3,q⟩:=w.ob k a _ h1 e;unfold Rep;exact⟨a,ys,rfl,⟨hn k a (of_decide_eq_true g) h1,e2⟩,e3,q.ba p⟩
   .cases h
 | .lst vs,d,x,g,h,r=>by
   unfold L3.res at h;unfold kY at g;obtain⟨ds,e,rfl⟩:=oA h;unfold aX at r;obtain⟨a,xs,rfl,l,r⟩:=r;unfold Rep;exact⟨a,xs,rfl,l.ba p,aC.resB w p hn g e r⟩
 | .tup vs,d,x,g,h,r=>by
   unfold L3.res at h;unfold kY at g;obtain⟨ds,e,rfl⟩:=oA h;unfold aX at r;obtain⟨a,xs,rfl,l,r⟩:=r;unfold Rep;exact⟨a,xs,rfl,wM.ba p l,aC.resB w p hn g e r⟩
theorem aC.resB{K:W.Frag}{cl:Wb}{ρ:P3}{S:aQ}{B':List Addr}{n:Nat}(w:SW K cl ρ H S)(p:dt ρ.b H B' H)(hn:∀(k:Nat) (a:Addr),n<=k->ρ.r[k]? =some a->a ∉ B'):∀{vs:List V3} {ds:List D} {xs:List V},nE n vs=true->u6 S vs=some ds->aC K ρ H vs xs->aD K B' H ds xs
 | [],ds,xs,_,h,r=>by unfold u6 at h;cases h;unfold aC at r;subst r;exact aD.nil
 | v ::vs,ds,xs,g,h,r=>by
   unfold u6 at h;unfold nE at g;obtain⟨g1,g2⟩:=Bool.and_eq_true_iff.mp g;obtain⟨d,e1,h2⟩:=wg h;obtain⟨es,e2,rfl⟩:=oA h2;obtain⟨y,ys,rfl,r1,r2⟩:=r.b5;exact aD.cons (aX.resB w p hn g1 e1 r1) (aC.resB w p hn g2 e2 r2)
end
mutual
theorem zu:∀v:V3,kY 0 v=true
 | .d _=>by unfold kY;rfl
 | .loc k=>by unfold kY;exact decide_eq_true (Nat.zero_le _)
 | .lst vs=>by unfold kY;exact nc vs
 | .tup vs=>by unfold kY;exact nc vs
 | .fn _=>by unfold kY;rfl
theorem nc:∀vs:List V3,nE 0 vs=true
 | []=>by unfold nE;rfl
 | v ::vs=>by unfold nE;rw [zu v,nc vs];rfl
end
abbrev FX:=DE->aQ->R3 V3
abbrev FB:=DE->aQ->R3 Bool
abbrev FA:=DE->aQ->R3 (List V3)
def tX(K:W.Frag)(cl:Wb)(f:FX):TE:=fun σ H Q=>∃ρ S δ v S',eJ K cl ρ H S σ δ/\f δ S= .ok v S'/\∀u bB H',Pre ρ H bB H'->SW K cl bB H' S'->aX K bB H' v u->Q u H'
def IL(K:W.Frag)(cl:Wb)(f:FB):TT:=fun σ H Q=>∃ρ S δ b S',eJ K cl ρ H S σ δ/\f δ S= .ok b S'/\∀bB H',Pre ρ H bB H'->SW K cl bB H' S'->Q b H'
def Qj(K:W.Frag)(cl:Wb)(f:FA):TA:=fun σ H Q=>∃ρ S δ vs S',eJ K cl ρ H S σ δ/\f δ S= .ok vs S'/\∀us bB H',Pre ρ H bB H'->SW K cl bB H' S'->aC K bB H' vs us->Q us H'
structure PX (X:Cx) (cl:Wb) (e:Expr) (f:FX):Prop where
 go:PE X e (tX X.K cl f)
structure AH (X:Cx) (cl:Wb) (e:Expr) (f:FB):Prop where
 go:PT X e (IL X.K cl f)
structure Ja (X:Cx) (cl:Wb) (es:List Expr) (f:FA):Prop where
 go:PA X es (Qj X.K cl f)
section
variable {X:Cx} {cl:Wb}
def xP(f:FD):FX:=fun δ S=>(R3.of (f (down δ)) S).bind fun d S=> .ok (.d d) S
theorem ay(h:QD X e f):PX X cl e (xP f):=⟨h.1.imp fun σ H Q ⟨ρ,S,δ,v,S',E,hf,q⟩=>by
 obtain⟨d,S1,h1,h2⟩:=R3.ah hf;obtain⟨h3,e3⟩:=R3.of_ok h1;cases h2;subst e3;exact⟨[],ρ.b,down δ,d,E.down,h3,fun v H' s r=>q v ρ H' (Pre.same s) (E.sw.same s) (by unfold aX;exact r)⟩⟩
def xT(f:FD):FX:=fun δ S=>(R3.of (f (CI S δ)) S).bind fun d S=>R3.aS (xG d) (.ok (.d d) S)
def bP(f:ao->R Bool):FB:=fun δ S=>R3.of (f (down δ)) S
theorem lK{f:ao->R Bool}(h:QB X e f):AH X cl e (bP f):=⟨h.1.imp fun σ H Q ⟨ρ,S,δ,v,S',E,hf,q⟩=>by
 obtain⟨h1,e3⟩:=R3.of_ok hf;subst e3;exact⟨[],ρ.b,down δ,v,E.down,h1,fun H' s=>q ρ H' (Pre.same s) (E.sw.same s)⟩⟩
def bT(f:ao->R Bool):FB:=fun δ S=>R3.of (f (CI S δ)) S
def cG(i:Nat):FX:=fun δ S=>match δ[i]? with | some (some v)=> .ok v S | _=> .no
theorem bo(i:Nat){x:Str}{pos:Pos}(hN:X.N[i]? =some x:=by rfl)(hv:HX X.env.scope x:=by first | exact Or.inl rfl | exact Or.inr (Or.inl rfl) | exact Or.inr (Or.inr rfl))(hd:(x==("__debug__":Str))=false:=by decide)
 (rM:(x==("__classdict__":Str))=false:=by decide):PX X cl (.Name x pos) (cG i):=⟨(xh hN hv hd rM).imp fun σ H Q ⟨ρ,S,δ,v,S',E,hf,q⟩=>by
 unfold cG at hf;split at hf
 .rename_i d' e;cases hf;obtain⟨u,h1,h2⟩:=E.val i _ e;exact⟨u,h1,q u ρ H (Pre.refl ρ H) E.sw h2⟩
 .cases hf⟩
def Bf(f:ao->R (List D)):FX:=fun δ S=>(R3.of (f (down δ)) S).bind fun ds S=> .ok (.loc S.length) (S++[.lst ds])
theorem xI{f:ao->R (List D)}(h:QN X e f):PX X cl e (Bf f):=⟨h.1.imp fun σ H Q ⟨ρ,S,δ,v,S',E,hf,q⟩=>by
 obtain⟨ds,S1,h1,h2⟩:=R3.ah hf;obtain⟨h3,e3⟩:=R3.of_ok h1;cases h2;subst e3;refine⟨[],ρ.b,down δ,ds,E.down,h3,fun a xs H' s n e r=>?_⟩
 have r':aD X.K (ρ.push a).b H' ds xs:=r.ba fun b o e nb=>⟨e,fun hb=>nb (by
  rcases P3.mem_push hb with z | z
  .exact List.mem_cons_of_mem _ z
  .subst z;exact List.mem_cons_self)⟩
 obtain⟨w,p⟩:=E.sw.new (o:= .lst ds) s n ⟨xs,e,r'⟩;exact q _ _ H' p w (by unfold aX;exact⟨a,by show(ρ.r++[a])[_]? =_;rw [<-E.sw.len,List.getElem?_append_right (by omega),Nat.sub_self];rfl,rfl⟩)⟩
end
end L3
end
section
namespace L3
open PySem PySem.Spec PyProof.Rows L2
section
variable {X:Cx} {cl:Wb}
def dE:FA:=fun _ S=> .ok [] S
def bu(f:FX)(g:FA):FA:=fun δ S=>(f δ S).bind fun v S1=>(g δ S1).bind fun vs S2=> .ok (v ::vs) S2
theorem bJ:Ja X cl [] dE:=⟨kl.imp fun σ H Q ⟨ρ,S,δ,v,S',E,hf,q⟩=>by
 cases hf;exact q [] ρ H (Pre.refl ρ H) E.sw aC.nil⟩
theorem aT(h:PX X cl e f)(t:Ja X cl es g)(hs:starEach (e ::es) X.env=(false,eval e X.env) ::starEach es X.env:=by rfl):Ja X cl (e ::es) (bu f g):=
 ⟨(ik h.1 t.1 hs).imp fun σ H Q ⟨ρ,S,δ,v,S',E,hf,q⟩=>by
   obtain⟨v1,S1,h1,h2⟩:=R3.ah hf;obtain⟨vs,S2,h3,h4⟩:=R3.ah h2;cases h4;exact⟨ρ,S,δ,v1,S1,E,h1,fun u bE H1 p1 w1 r1=>⟨bE,S1,δ,vs,_,E.to p1 w1,h3,fun us oq H2 p2 w2 r2=>q _ oq H2 (p1.trans p2) w2 (aC.cons (r1.pre p2) r2)⟩⟩⟩
def oJ:List V3->Option (List D)
 | []=>some []
 | .d x ::r=>(oJ r).map (x ::·)
 | _ ::_=>none
theorem lX:∀{vs:List V3} {ds:List D},oJ vs=some ds->vs=ds.map .d
 | [],ds,h=>by cases h;rfl
 | .d x ::r,ds,h=>by
   cases e:oJ r with
   | none=>have h:(oJ r).map (x ::·)=some ds:=h;rw [e] at h;cases h
   | some es=>
     have h:(oJ r).map (x ::·)=some ds:=h
     rw[e] at h;cases h;rw[lX e];rfl
 | .loc _ ::_,_,h=>by cases h
 | .lst _ ::_,_,h=>by cases h
 | .tup _ ::_,_,h=>by cases h
 | .fn _ ::_,_,h=>by cases h
theorem nP:∀ds:List D,oJ (ds.map .d)=some ds
 | []=>rfl
 | d ::ds=>by show(oJ (ds.map .d)).map (d ::·)=_;rw [nP ds];rfl
def vy(vs:List V3):V3:=match oJ vs with | some ds=> .d (.tup ds) | none=> .tup vs
def pd(vs:List V3):V3:=match oJ vs with | some ds=> .d (.lst ds) | none=> .lst vs
def xw(g:FA):FX:=fun δ S=>(g δ S).bind fun vs S=>R3.aS (decide (vs.length<=sizeLine)) (.ok (vy vs) S)
theorem pV{H:Hp}{p:Addr}{o:HO}(hp:H p=none):Pre ρ H ρ (upd H p o):=Pre.same (br hp)
theorem si{K:W.Frag}{ρ:P3}{vs:List V3}{xs:List V}{a:Addr}(l:wM K ρ.b H a xs)(r:aC K ρ H vs xs):aX K ρ H (vy vs) (.ref a):=by
 unfold vy;split
 .rename_i ds e;rw[lX e] at r;unfold aX Rep;exact⟨a,xs,rfl,l,r.to⟩
 .unfold aX;exact⟨a,xs,rfl,l,r⟩
theorem zw{K:W.Frag}{ρ:P3}{vs:List V3}{xs:List V}{a:Addr}(l:uD K ρ.b H a xs)(r:aC K ρ H vs xs):aX K ρ H (pd vs) (.ref a):=by
 unfold pd;split
 .rename_i ds e;rw[lX e] at r;unfold aX Rep;exact⟨a,xs,rfl,l,r.to⟩
 .unfold aX;exact⟨a,xs,rfl,l,r⟩
theorem Jt{x1 pos}(h:Ja X cl es g):PX X cl (.Tuple es x1 pos) (xw g):=⟨(wV h.1).imp fun σ H Q ⟨ρ,S,δ,v,S',E,hf,q⟩=>by
 obtain⟨vs,S1,h1,h2⟩:=R3.ah hf;obtain⟨hl,h3⟩:=R3.aO h2;cases h3;refine⟨ρ,S,δ,vs,_,E,h1,fun us bE H1 p1 w1 r1=>⟨by rw[<-r1.length];exact of_decide_eq_true hl,fun p hp=>q _ bE _ (p1.trans (pV hp)) (w1.same (br hp)) ?_⟩⟩
 refine si (.inl ⟨fun ha=>?_, .inl aY⟩) (r1.pre (pV hp))
 obtain⟨o,ho⟩:=w1.bs p ha;rw[hp] at ho;cases ho⟩
def RK(g:FA):FX:=fun δ S=>(g δ S).bind fun vs S=>R3.aS (decide (vs.length<=sizeLine)) (.ok (pd vs) S)
def x2(g:D->D->R D)(fa fb:FX):FX:=fun δ S=>(fa δ S).bind fun a S1=>(fb δ S1).bind fun b S2=>match a,b with
 | .d x, .d y=>(R3.of (g x y) S2).bind fun d S=> .ok (.d d) S
 | _,_=> .no
theorem Nf{K:W.Frag}{g:D->D->R D}{σ:L2.St}{Q:VK}(h:tX K cl (x2 g fa fb) σ H Q) :
 J8 (fun x y H Q=>∃B da db d,(∀a∈B,∃o,H a=some o)/\Rep K B H da x/\Rep K B H db y/\g da db= .ok d/\∀z H',aM H H'->Rep K B H' d z->Q z H') (tX K cl fa) (tX K cl fb) σ H Q:=by
 obtain⟨ρ,S,δ,v,S',E,hf,q⟩:=h;obtain⟨a,S1,h1,h2⟩:=R3.ah hf;obtain⟨b,S2,h3,h4⟩:=R3.ah h2
 match a,b,h1,h3,h4 with
 | .d x, .d y,h1,h3,h4=>
   obtain⟨d,S3,h5,h6⟩:=R3.ah h4;obtain⟨h7,e⟩:=R3.of_ok h5;cases h6;subst e;refine⟨ρ,S,δ, .d x,S1,E,h1,fun u1 bE H1 p1 w1 r1=>⟨bE,S1,δ, .d y,_,E.to p1 w1,h3,fun u2 oq H2 p2 w2 r2=>?_⟩⟩
   have zt:=r1.pre p2;unfold aX at zt r2;exact⟨oq.b,x,y,d,w2.bs,zt,r2,h7,fun z H' s r=>q z oq H' (p1.trans (p2.trans (Pre.same s))) (w2.same s) (by unfold aX;exact r)⟩
 | .d x, .loc _,_,_,h4=>cases h4
 | .d x, .lst _,_,_,h4=>cases h4
 | .d x, .tup _,_,_,h4=>cases h4
 | .d x, .fn _,_,_,h4=>cases h4
 | .loc _,_,_,_,h4=>cases h4
 | .lst _,_,_,_,h4=>cases h4
 | .tup _,_,_,_,h4=>cases h4
 | .fn _,_,_,_,h4=>cases h4
def Gy(g:D->D->R D)(fa fb:FX):FB:=fun δ S=>(x2 g fa fb δ S).bind fun v S=>match v with | .d (.bl b)=> .ok b S | _=> .no
theorem l9{op:CmpOp}{g:D->D->R D}(ho:mm X (compareOp op) g)(ha:PX X cl a fa)(hb:PX X cl b fb)(hm:behindInMarks op b=false):AH X cl (.Compare a [op] [b] pos) (Gy g fa fb):=
 ⟨(y4 ho.r ha.1 hb.1 hm).imp fun σ H Q ⟨ρ,S,δ,b,S',E,hf,q⟩=>by
   obtain⟨v,S1,h1,h2⟩:=R3.ah hf;have hv:v= .d (.bl b)/\S1=S':=by
    match v,h2 with
    | .d (.bl k),h2=>cases h2;exact⟨rfl,rfl⟩
    | .d .cH,h2=>cases h2
    | .d (.int _),h2=>cases h2
    | .d (.str _),h2=>cases h2
    | .d (.lst _),h2=>cases h2
    | .d (.tup _),h2=>cases h2
    | .d (.dct _ _),h2=>cases h2
    | .loc _,h2=>cases h2
    | .lst _,h2=>cases h2
    | .tup _,h2=>cases h2
    | .fn _,h2=>cases h2
   obtain⟨rfl,rfl⟩:=hv;exact Nf (g:=g) (Q:=fun x H'=>∃k,x= .bl k/\Q k H') ⟨ρ,S,δ,_,_,E,h1,fun u bB H' p w r=>⟨b,by unfold aX Rep at r;exact r,q bB H' p w⟩⟩⟩
inductive Ou where
 | nx (δ:DE) | rt (v:V3)
abbrev FZ:=DE->aQ->R3 Ou
def uK(K:W.Frag)(cl:Wb)(ρ:P3)(H:Hp)(D:Ends)(S':aQ):Ou->Prop
 | .nx c5=>∀cB bB H',Pre ρ H bB H'->eJ K cl bB H' S' cB c5->D.nx cB H'
 | .rt v=>∀u bB H',Pre ρ H bB H'->SW K cl bB H' S'->aX K bB H' v u->D.rt u H'
theorem uK.pre{K:W.Frag}{D:Ends}{S':aQ}{o:Ou}(q:uK K cl ρ H D S' o)(p:Pre ρ H bE H1):uK K cl bE H1 D S' o:=by
 cases o with
 | nx c5=>exact fun cB bB H' p' E'=>q cB bB H' (p.trans p') E'
 | rt d=>exact fun v bB H' p' w r=>q v bB H' (p.trans p') w r
def sX(K:W.Frag)(cl:Wb)(F:FZ):TS:=fun D σ H=>∃ρ S δ o S',eJ K cl ρ H S σ δ/\F δ S= .ok o S'/\uK K cl ρ H D S' o
structure PZ (X:Cx) (cl:Wb) (st:Stmt) (F:FZ):Prop where
 go:PS X st (sX X.K cl F)
structure DG (X:Cx) (cl:Wb) (st:List Stmt) (F:FZ):Prop where
 go:sQ X st (sX X.K cl F)
def ke:FZ:=fun δ S=> .ok (.nx δ) S
def cA(F G:FZ):FZ:=fun δ S=>(F δ S).bind fun o S1=>match o with | .nx c5=>G c5 S1 | .rt d=> .ok (.rt d) S1
theorem pU:DG X cl [] ke:=⟨tm.imp fun D σ H ⟨ρ,S,δ,o,S',E,hf,q⟩=>by
 cases hf;exact q σ ρ H (Pre.refl ρ H) E⟩
theorem bt{st:Stmt}{rest:List Stmt}(h1:PZ X cl st F)(h2:DG X cl rest G):DG X cl (st ::rest) (cA F G):=⟨(qk h1.1 h2.1).imp fun D σ H ⟨ρ,S,δ,o,S',E,hf,q⟩=>by
 obtain⟨o1,S1,h1,h2⟩:=R3.ah hf;refine⟨ρ,S,δ,o1,S1,E,h1,?_⟩;cases o1 with
 | nx δ1=>
   intro JQ bE H1 p1 E1;exact⟨bE,S1,δ1,o,S',E1,h2,q.pre p1⟩
 | rt d=>
   cases h2;exact q⟩
theorem eT{st:Stmt}(h1:PZ X cl st F):DG X cl [st] F:=⟨uo h1.1⟩
def kO(i:Nat)(f:FX):FZ:=fun δ S=>(f δ S).bind fun v S=>R3.aS (decide (i < δ.length)) (.ok (.nx (δ.set i (some v))) S)
theorem iZ{i:Nat}{pos pos':Pos}(hN:X.N.Nodup)(hi:X.N[i]? =some x)(hx:Loc X.env.scope x)(he:PX X cl e f)(hs:swapsWith e (some (.Name x pos')) pos.line X.env=pure false:=by rfl)(hf:X.fn x=true\/X.env.scope.names.lookup x=some .local:=by first | exact .inl rfl | exact .inr rfl | assumption) :
 PZ X cl (.Assign [.Name x pos'] e pos) (kO i f):=⟨(xV hN hi hx he.1 hs hf).imp fun D σ H ⟨ρ,S,δ,o,S',E,hf,q⟩=>by
 obtain⟨v,S1,h1,h2⟩:=R3.ah hf;obtain⟨hi,h3⟩:=R3.aO h2;cases h3;refine⟨ρ,S,δ,v,_,E,h1,fun u bE H1 p1 w1 r1=>?_⟩
 exact q _ bE H1 p1 ((E.to p1 w1).set (by rw[<-E.len];exact of_decide_eq_true hi) r1)⟩
def tL(f:FX):FZ:=fun δ S=>(f δ S).bind fun v S=> .ok (.rt v) S
theorem mY(he:PX X cl e f):PZ X cl (.Return (some e) pos) (tL f):=⟨(Be he.1).imp fun D σ H ⟨ρ,S,δ,o,S',E,hf,q⟩=>by
 obtain⟨v,S1,h1,h2⟩:=R3.ah hf;cases h2;exact⟨ρ,S,δ,v,_,E,h1,fun u bE H1 p1 w1 r1=>q u bE H1 p1 w1 r1⟩⟩
def rj(c:FB)(F G:FZ):FZ:=fun δ S=>(c δ S).bind fun b S=>if b then F δ S else G δ S
theorem y0(hc:AH X cl c fc)(ha:DG X cl a F)(hb:DG X cl b G):PZ X cl (.If c a b pos) (rj fc F G):=⟨(BL hc.1 ha.1 hb.1).imp fun D σ H ⟨ρ,S,δ,o,S',E,hf,q⟩=>by
 obtain⟨k,S1,h1,h2⟩:=R3.ah hf;refine⟨ρ,S,δ,k,S1,E,h1,fun bE H1 p1 w1=>?_⟩
 cases k with
 | true=>rw [if_pos rfl] at h2;exact Bp ⟨bE,S1,δ,o,S',E.to p1 w1,h2,q.pre p1⟩
 | false=>rw [if_neg (by decide)] at h2;exact De ⟨bE,S1,δ,o,S',E.to p1 w1,h2,q.pre p1⟩⟩
def sH(f:FX):FZ:=fun δ S=>(f δ S).bind fun _ S=> .ok (.nx δ) S
def yT(c:FB)(body:FZ):Nat->FZ
 | 0,_,_=> .no
 | n+1,δ,S=>(c δ S).bind fun b S=>if b then(body δ S).bind fun o S=>match o with | .nx iE=>yT c body n iE S | .rt r=> .ok (.rt r) S else .ok (.nx δ) S
def Od(n:Nat)(c:FB)(body:FZ):FZ:=fun δ S=>yT c body n δ S
end
end L3
end
section
namespace L3
open PySem PySem.Spec PyProof.Rows L2
theorem aC.get{K:W.Frag}:∀{ds:List V3} {xs:List V} {i:Nat} {d:V3},aC K ρ H ds xs->ds[i]? =some d->∃x,xs[i]? =some x/\aX K ρ H d x
 | [],_,_,_,_,e=>by simp at e
 | d ::ds,xs,0,d',h,e=>by
   obtain⟨x,r,rfl,h1,h2⟩:=h.b5;simp at e;subst e;exact⟨x,rfl,h1⟩
 | d ::ds,xs,i+1,d',h,e=>by
   obtain⟨x,r,rfl,h1,h2⟩:=h.b5;obtain⟨y,e1,e2⟩:=aC.get (i:=i) h2 (by simpa using e)
   exact⟨y,by simpa using e1,e2⟩
def Ml(K:W.Frag)(ρ:P3)(H:Hp)(J:It)(vs:List V3):Prop:=∀bB H',PW ρ H bB H'->(∀a∈bB.b,∃o,H' a=some o)->(∀(i:Nat) (d:V3),vs[i]? =some d->J.go i H'/\∀x mO,J.yld i H' x mO->aM H' mO/\aX K bB mO d x)/\J.stop vs.length H'
theorem Ml.of{K:W.Frag}{ρ:P3}{J:It}{ds:List D}(h:AQ K ρ.b H J ds):Ml K ρ H J (ds.map .d):=fun bB H' p bs=>by
 obtain⟨h1,h2⟩:=h bB.b H' p.ba;refine⟨fun i v hv=>?_,by rw[List.length_map];exact h2⟩
 rw[List.getElem?_map] at hv;cases e:ds[i]? with
 | none=>rw [e] at hv;cases hv
 | some d=>
   rw[e] at hv;cases hv;obtain⟨g1,g2⟩:=h1 i d e;exact⟨g1,fun x mO y=>let⟨s,r⟩:=g2 x mO y bs;⟨s,by unfold aX;exact r⟩⟩
def QT(K:W.Frag)(cl:Wb)(f:FA):TI:=fun σ H R=>∃ρ S δ vs S',eJ K cl ρ H S σ δ/\f δ S= .ok vs S'/\∀J bE H1,Pre ρ H bE H1->SW K cl bE H1 S'->Ml K bE H1 J vs->R J H1
structure La (X:Cx) (cl:Wb) (tg e:Expr) (f:FA):Prop where
 go:PI X tg e (QT X.K cl f)
section
variable {X:Cx} {cl:Wb}
def iP(f:ao->R (List D)):FA:=fun δ S=>(R3.of (f (down δ)) S).bind fun ds S=> .ok (ds.map .d) S
theorem iT{f:ao->R (List D)}(h:EY X tg e f):La X cl tg e (iP f):=⟨h.1.imp fun σ H Q ⟨ρ,S,δ,vs,S',E,hf,q⟩=>by
 obtain⟨ds,S1,h1,h2⟩:=R3.ah hf;obtain⟨h3,e3⟩:=R3.of_ok h1;cases h2;subst e3;exact⟨[],ρ.b,down δ,ds,E.down,h3,fun J H1 s r=>q J ρ H1 (Pre.same s) (E.sw.same s) (Ml.of r)⟩⟩
def GP(f:FX):FA:=fun δ S=>(f δ S).bind fun v S=>match v with | .d (.int j)=>R3.aS (decide (-(2 ^ 62)<=j/\j < 2 ^ 62)) (.ok ((pJ 0 j.toNat).map .d) S) | _=> .no
def RE(f:FX):FA:=fun δ S=>(f δ S).bind fun v S=>match v with | .d (.lst ds)=> .ok (ds.map .d) S | .lst vs=> .ok vs S | _=> .no
abbrev FG:=V3->DE->Option DE
abbrev DR:=List V3->DE->Option DE
def gX(K:W.Frag)(cl:Wb)(t:FG):TG:=fun v σ H Q=>∃ρ S δ x c5,eJ K cl ρ H S σ δ/\aX K ρ H x v/\t x δ=some c5/\∀cB H',aM H H'->eJ K cl ρ H' S cB c5->Q cB H'
def SS(K:W.Frag)(cl:Wb)(t:DR):AV:=fun v σ H Q=>∃ρ S δ x c5,eJ K cl ρ H S σ δ/\aC K ρ H x v/\t x δ=some c5/\∀cB H',aM H H'->eJ K cl ρ H' S cB c5->Q cB H'
structure Gx (X:Cx) (cl:Wb) (tg:Expr) (t:FG):Prop where
 go:PG X tg (gX X.K cl t)
structure E8 (X:Cx) (cl:Wb) (tg:List Expr) (t:DR):Prop where
 go:DZ X tg (SS X.K cl t)
theorem eJ.same{K:W.Frag}{S:aQ}{σ:L2.St}{δ:DE}(E:eJ K cl ρ H S σ δ)(s:aM H H'):eJ K cl ρ H' S σ δ:=E.to (Pre.same s) (E.sw.same s)
def tV(i:Nat):FG:=fun d δ=>if i < δ.length then some (δ.set i (some d)) else none
theorem cz{i:Nat}{pos:Pos}(hN:X.N.Nodup)(hi:X.N[i]? =some x)(hx:Loc X.env.scope x)(hf:X.fn x=true\/X.env.scope.names.lookup x=some .local:=by first | exact .inl rfl | exact .inr rfl | assumption):Gx X cl (.Name x pos) (tV i):=
 ⟨(yz hN hi hx hf).imp fun v σ H Q ⟨ρ,S,δ,d,c5,E,r,ht,q⟩=>by
   unfold tV at ht;split at ht
   .rename_i hi;cases ht;exact q _ H (aM.refl H) (E.set (by rw[<-E.len];exact hi) r)
   .cases ht⟩
def Ir:DR:=fun ds δ=>match ds with | []=>some δ | _=>none
def xi(t:FG)(u:DR):DR:=fun ds δ=>match ds with | d ::r=>(t d δ).bind fun c5=>u r c5 | []=>none
theorem jL:E8 X cl [] Ir:=⟨yx.imp fun vs σ H Q ⟨ρ,S,δ,ds,c5,E,r,ht,q⟩=>by
 cases ds with
 | nil=>unfold aC at r;cases ht;exact⟨r,q σ H (aM.refl H) E⟩
 | cons=>cases ht⟩
theorem cy{u:DR}(h1:Gx X cl e t)(h2:E8 X cl es u)(hs:(assignEach (e ::es) X.env).map (·.2)=assign e X.env ::(assignEach es X.env).map (·.2):=by rfl):E8 X cl (e ::es) (xi t u):=
 ⟨(vO h1.1 h2.1 hs).imp fun vs σ H Q ⟨ρ,S,δ,ds,c5,E,r,ht,q⟩=>by
   cases ds with
   | nil=>cases ht
   | cons d ds=>
     obtain⟨x,xs,rfl,r1,r2⟩:=r.b5;have ht:(t d δ).bind (fun c5=>u ds c5)=some c5:=ht
     cases e1:t d δ with
     | none=>rw [e1] at ht;cases ht
     | some δ1=>
       rw[e1] at ht;exact⟨x,xs,rfl,ρ,S,δ,d,δ1,E,r1,e1,fun JQ H1 s1 E1=>⟨ρ,S,δ1,ds,c5,E1,r2.pre (Pre.same s1),ht,fun rf H2 s2 E2=>q rf H2 (s1.trans s2) E2⟩⟩⟩
def GB(n:Nat)(t:DR):FG:=fun d δ=>match d with
 | .d (.tup ds)=>if ds.length=n then t (ds.map .d) δ else none
 | .tup vs=>if vs.length=n then t vs δ else none
 | _=>none
theorem mf{k:Nat}{t:DR}{n:Nat}{pos:Pos}(hc:X.calm=true)(h:E8 X cl es t)(hn:(assignEach es X.env).length=n:=by rfl)(Ay:(assignEach es X.env).findIdx? (·.1)=none:=by rfl):Gx X cl (.Tuple es k pos) (GB n t):=
 ⟨(A7 hc h.1 hn Ay).imp fun v σ H Q ⟨ρ,S,δ,d,c5,E,r,ht,q⟩=>by
   have key:∃vs a xs,v= .ref a/\wM X.K ρ.b H a xs/\aC X.K ρ H vs xs/\vs.length=n/\t vs δ=some c5:=by
    unfold GB at ht;split at ht
    .rename_i ds;split at ht
     .rename_i hl;unfold aX Rep at r;obtain⟨a,xs,e,l,r⟩:=r;exact⟨ds.map .d,a,xs,e,l,aC.of r,by rw[List.length_map];exact hl,ht⟩
     .cases ht
    .rename_i vs;split at ht
     .rename_i hl;unfold aX at r;obtain⟨a,xs,e,l,r⟩:=r;exact⟨vs,a,xs,e,l,r,hl,ht⟩
     .cases ht
    .cases ht
   obtain⟨vs,a,xs,rfl,l,r,hl,ht⟩:=key;exact⟨a,xs,rfl,l.sq,by rw[<-r.length];exact hl,ρ,S,δ,vs,c5,E,r,ht,q⟩⟩
def IU(f:FX)(t:FG):FZ:=fun δ S=>(f δ S).bind fun d S=>match t d δ with | some c5=> .ok (.nx c5) S | none=> .no
theorem IA{tg e:Expr}{f:FX}{t:FG}{pos:Pos}(he:PX X cl e f)(hg:Gx X cl tg t)(hs:swapsWithSole [tg] e pos.line X.env=pure false:=by rfl)(hw:swappedStores [tg] e X.env=pure none:=by rfl)
 (h1:(assignEach [tg] X.env).map (·.2)=[assign tg X.env]:=by rfl):PZ X cl (.Assign [tg] e pos) (IU f t):=⟨(BH he.1 hg.1 hs hw h1).imp fun D σ H ⟨ρ,S,δ,o,S',E,hf,q⟩=>by
 obtain⟨d,S1,h1,h2⟩:=R3.ah hf;split at h2
 .rename_i δ1 e1;cases h2;exact⟨ρ,S,δ,d,_,E,h1,fun v bE H1 p1 w1 r1=>⟨bE,_,δ,d,δ1,E.to p1 w1,r1,e1,fun cB H2 s2 E2=>q cB bE H2 (p1.trans (Pre.same s2)) E2⟩⟩
 .cases h2⟩
def fY(t:FG)(body:FZ):List V3->FZ
 | [],δ,S=> .ok (.nx δ) S
 | d ::ds,δ,S=>match t d δ with
   | none=> .no
   | some δ1=>(body δ1 S).bind fun o S=>match o with | .nx iE=>fY t body ds iE S | .rt r=> .ok (.rt r) S
def xF(it:FA)(t:FG)(body:FZ):FZ:=fun δ S=>(it δ S).bind fun vs S=>fY t body vs δ S
theorem Jr{tg iter:Expr}{body:List Stmt}{it:FA}{t:FG}{F:FZ}{pos:Pos}(hp:PassesOwn (model X.prog X.w) X.A X.env X.xe)(hc:X.calm=true)(hi:La X cl tg iter it)(hg:Gx X cl tg t)(hb:DG X cl body F)
 (hs:∀x,foldedSetIterable iter X.env x=pure x:=by intro _;rfl):PZ X cl (.For tg iter body [] pos) (xF it t F):=⟨(wG hp hc hi.1 hg.1 hb.1 hs).imp fun D σ H ⟨ρ,S,δ,o,S',E,hf,q⟩=>by
 obtain⟨ds,S0,h1,h2⟩:=R3.ah hf;refine⟨ρ,S,δ,ds,S0,E,h1,fun J bE H1 p1 w1 ir=>?_⟩
 refine⟨fun i m cB H'=>m=ds.length - i/\i<=ds.length/\∃bB S1 c5,Pre bE H1 bB H'/\eJ X.K cl bB H' S1 cB c5/\fY t F (ds.drop i) c5 S1= .ok o S',⟨ds.length,rfl,Nat.zero_le _,bE,S0,δ,Pre.refl bE H1,E.to p1 w1,by simpa using h2⟩,?_⟩
 rintro i m cB H' ⟨rfl,hi,bB,S1,c5,pv,E',hl⟩;obtain⟨go,stop⟩:=ir bB H' pv.pw E'.sw.bs;by_cases hlt:i < ds.length
 .have hd:ds[i]? =some ds[i]:=List.getElem?_eq_getElem hlt;have hdrop:ds.drop i=ds[i] ::ds.drop (i+1):=List.drop_eq_getElem_cons hlt;rw[hdrop] at hl;unfold fY at hl;split at hl
  .cases hl
  .rename_i δ1 h3;obtain⟨o1,S2,h5,h6⟩:=R3.ah hl;obtain⟨g1,g2⟩:=go i _ hd;refine .inr ⟨g1,fun rf H2=>∃oq S2 iE,Pre bE H1 oq H2/\eJ X.K cl oq H2 S2 rf iE/\fY t F (ds.drop (i+1)) iE S2= .ok o S',fun rf H2 n=>⟨ds.length - (i+1),by omega,rfl,hlt,n⟩,fun x mO y=>?_⟩
   obtain⟨ss,rr⟩:=g2 x mO y;refine⟨bB,S1,c5,ds[i],δ1,E'.same ss,rr,h3,fun rf H2 s2 E2=>⟨bB,S1,δ1,o1,S2,E2,h5,?_⟩⟩
   have pv2:Pre bE H1 bB H2:=pv.trans (Pre.same (ss.trans s2));cases o1 with
   | nx iE=>exact fun DO AE H3 p3 E3=>⟨AE,S2,iE,pv2.trans p3,E3,h6⟩
   | rt d=>
     cases h6;exact fun v AE H3 p3 w r=>q v AE H3 (p1.trans (pv2.trans p3)) w r
 .have e:i=ds.length:=by omega
  subst e;rw[List.drop_length] at hl;cases hl;exact .inl ⟨stop,q cB bB H' (p1.trans pv) E'⟩⟩
end
end L3
end
section
namespace L3
open PySem PySem.Spec PyProof.Rows L2
mutual
def vv(n:Nat):V3->Bool
 | .d _=>true
 | .loc k=>decide (k < n)
 | .lst vs=>oF n vs
 | .tup vs=>oF n vs
 | .fn _=>true
def oF(n:Nat):List V3->Bool
 | []=>true
 | v ::vs=>vv n v && oF n vs
end
def vQ(n:Nat):SO->Bool
 | .ins _ fs=>oF n (fs.map (·.2))
 | _=>true
theorem DS{ρ:P3}{n:Nat}{b:Addr}(h:b∈(ρ.cut n).b):b∈ρ.b:=by
 rcases P3.eG.mp h with z | z
 .exact P3.eG.mpr (.inl ⟨List.mem_of_mem_take z.1,z.2⟩)
 .exact P3.eG.mpr (.inr z)
theorem gR{ρ:P3}(n:Nat):dt ρ.b H (ρ.cut n).b H:=fun b o e nb=>⟨e,fun hb=>nb (DS hb)⟩
mutual
theorem aX.cut{K:W.Frag}{ρ:P3}{n:Nat}:∀{v:V3} {x:V},vv n v=true->aX K ρ H v x->aX K (ρ.cut n) H v x
 | .fn y,x,_,h=>by unfold aX at h ⊢;exact h
 | .d y,x,_,h=>by unfold aX at h ⊢;exact h.ba (gR n)
 | .loc k,x,o,h=>by
   unfold aX at h ⊢;unfold vv at o;obtain⟨a,h1,h2⟩:=h;exact⟨a,by show(ρ.r.take n)[k]? =_;rw [List.getElem?_take_of_lt (of_decide_eq_true o)];exact h1,h2⟩
 | .lst vs,x,o,h=>by
   unfold aX at h ⊢;unfold vv at o;obtain⟨a,xs,e,l,r⟩:=h;exact⟨a,xs,e,l.ba (gR n),aC.cut o r⟩
 | .tup vs,x,o,h=>by
   unfold aX at h ⊢;unfold vv at o;obtain⟨a,xs,e,l,r⟩:=h;exact⟨a,xs,e,wM.ba (gR n) l,aC.cut o r⟩
theorem aC.cut{K:W.Frag}{ρ:P3}{n:Nat}:∀{vs:List V3} {xs:List V},oF n vs=true->aC K ρ H vs xs->aC K (ρ.cut n) H vs xs
 | [],_,_,h=>by unfold aC at h ⊢;exact h
 | v ::vs,xs,o,h=>by
   unfold oF at o;obtain⟨o1,o2⟩:=Bool.and_eq_true_iff.mp o;obtain⟨x,r,rfl,h1,h2⟩:=h.b5;exact aC.cons (aX.cut o1 h1) (aC.cut o2 h2)
end
theorem SW.cut{K:W.Frag}{cl:Wb}{ρ:P3}{S:aQ}(w:SW K cl ρ H S){n:Nat}(ok:(S.take n).all (vQ n)=true):SW K cl (ρ.cut n) H (S.take n):=
 ⟨by show(ρ.r.take n).length=_;rw [List.length_take,List.length_take,w.len],fun i j a hi hj=>by
   have hi:(ρ.r.take n)[i]? =some a:=hi;have hj:(ρ.r.take n)[j]? =some a:=hj;have gi:ρ.r[i]? =some a:=by
    rw[List.getElem?_take] at hi;split at hi
    .exact hi
    .cases hi
   have gj:ρ.r[j]? =some a:=by
    rw[List.getElem?_take] at hj;split at hj
    .exact hj
    .cases hj
   exact w.nd i j a gi gj,fun k a o hk ho=>by
   have hk:(ρ.r.take n)[k]? =some a:=hk;have gk:ρ.r[k]? =some a:=by
    rw[List.getElem?_take] at hk;split at hk
    .exact hk
    .cases hk
   have go:S[k]? =some o:=by
    rw[List.getElem?_take] at ho;split at ho
    .exact ho
    .cases ho
   have r:=w.ob k a o gk go;have oo:vQ n o=true:=List.all_eq_true.mp ok o (List.mem_of_getElem? ho);cases o with
   | lst ds=>obtain⟨xs,e,q⟩:=r;exact⟨xs,e,q.ba (gR n)⟩
   | dct aA=>obtain⟨ys,e,e2,q⟩:=r;exact⟨ys,e,e2,q.ba (gR n)⟩
   | ins c fs=>obtain⟨dx,ys,e,e2,q⟩:=r;exact⟨dx,ys,e,e2,q.cut oo⟩
   | exc c=>exact r
   | kT=>exact r,fun b hb=>let⟨h1,h2⟩:=w.zb b hb;⟨h1,fun h=>h2 (List.mem_of_mem_take h)⟩,(fun k a hk ho=>by
   have hk:(ρ.r.take n)[k]? =some a:=hk;rw[List.getElem?_take] at hk;split at hk
   .rename_i hlt;rw[List.getElem?_take_of_lt hlt] at ho;exact w.fz k a hk ho
   .cases hk),w.ff,(fun k a hk ho=>by
   have hk:(ρ.r.take n)[k]? =some a:=hk;rw[List.getElem?_take] at hk;split at hk
   .rename_i hlt;rw[List.getElem?_take_of_lt hlt] at ho;exact w.fi k a hk ho
   .cases hk)⟩
theorem SW.B_{K:W.Frag}{cl:Wb}{ρ bB:P3}{n:Nat}(hn:ρ.r.length<=n)(p:Pre ρ H bB H'):Pre ρ H (bB.cut n) H':=
 ⟨p.ba.trans (gR n),p.zz,p.zs,fun k a h=>by show(bB.r.take n)[k]? =_;rw [List.getElem?_take_of_lt (Nat.lt_of_lt_of_le (List.getElem?_eq_some_iff.mp h).1 hn)];exact p.ext k a h⟩
section
variable {X:Cx} {cl:Wb}
def c_(S:aQ)(k:Nat):Option (List D):=match S[k]? with | some (.lst ds)=>some ds | _=>none
theorem f_{S:aQ}{k:Nat}{ds:List D}(h:c_ S k=some ds):S[k]? =some (.lst ds):=by
 unfold c_ at h;split at h
 .rename_i e;cases h;exact e
 .cases h
def og(δ:DE)(i:Nat):Option Nat:=match δ[i]? with | some (some (.loc k))=>some k | _=>none
def Tx(i:Nat)(f:FX):FZ:=fun δ S=>match og δ i with
 | none=> .no
 | some k=>match c_ S k with
   | none=> .no
   | some _=>(f δ S).bind fun v S1=>match v with
     | .d d=>(match c_ S1 k with | some ds=>R3.aS (decide (ds.length < sizeLine)) (.ok (.nx δ) (S1.set k (.lst (ds++[d])))) | none=> .no)
     | _=> .no
def TZ(fo fi fe:FX):FZ:=fun δ S=>(fe δ S).bind fun v S1=>(fo δ S1).bind fun o S2=>(fi δ S2).bind fun j S3=>match v,o,j with
 | .d d, .loc k, .d (.int n)=>(match c_ S3 k with
   | some ds=>(match CY ds.length n with | some m=> .ok (.nx δ) (S3.set k (.lst (ds.set m d))) | none=> .no)
   | none=> .no)
 | _,_,_=> .no
def Gi(K:W.Frag)(cl:Wb)(n:Nat)(g:List V3->aQ->R3 V3):Sp:=fun vs H Q _=>vs.length=n/\∃ρ S xs v S',SW K cl ρ H S/\aC K ρ H xs vs/\g xs S= .ok v S'/\∀u bB H',Pre ρ H bB H'->SW K cl bB H' S'->aX K bB H' v u->Q u H'
def mJ(g:List V3->aQ->R3 V3)(fs:FA):FX:=fun δ S=>(fs δ S).bind g
def Mv(P:Program)(w:World)(K:W.Frag)(mg:Wa)(base:Heap)(cl:Wb)(k:Nat)(x:Str)(n:Nat)(g:List V3->aQ->R3 V3):Prop:=
 ∃(f:Addr) (fd:FuncData) (ps:List Str),gQ P w K mg base r_ k f fd ps (Gi K cl n g)/\mg x=some (.ref f)/\PySem.W.keepIn K (.ref f)=true/\Binds K fd ps []
end
def d4(N:List Str)(vs:List V3):DE:=vs.map some++List.replicate (N.length - vs.length) none
theorem vM{K:W.Frag}{cl:Wb}{S:aQ}{N:List Str}{ds:List V3}{vs:List V}(w:SW K cl ρ H S)(r:aC K ρ H ds vs):eJ K cl ρ H S (L2.start N vs) (d4 N ds) where
 len:=by unfold L2.start d4;simp [r.length]
 sw:=w
 val:=fun i d e=>by
  unfold d4 at e;unfold L2.start;by_cases hi:i < ds.length
  .rw [List.getElem?_append_left (by simpa using hi),List.getElem?_map] at e
   cases q:ds[i]? with
   | none=>rw [q] at e;cases e
   | some d'=>
     rw[q] at e;cases e;obtain⟨x,h1,h2⟩:=r.get q;exact⟨x,by rw[List.getElem?_append_left (by rw[List.length_map,<-r.length];exact hi),List.getElem?_map,h1];rfl,h2⟩
  .rw [List.getElem?_append_right (by simpa using hi),List.getElem?_replicate] at e
   split at e <;> cases e
def sg(N:List Str)(F:FZ):List V3->aQ->R3 V3:=fun vs S=>(F (d4 N vs) S).bind fun o S'=>match o with | .rt v=> .ok v S' | .nx _=> .ok (.d .cH) S'
def yd(N:List Str)(F:FZ):List V3->aQ->R3 V3:=fun vs S=>(sg N F vs S).bind fun v S'=>match res S' v with
 | some d=>R3.aS ((S'.take S.length).all (vQ S.length) && kY S.length v) (.ok (.d d) (S'.take S.length))
 | none=> .no
theorem Fd{P:Program}{w:World}{K:W.Frag}{mg:Wa}{base:Heap}{cl:Wb}{x qual:Str}{st:Stmt}{f:Addr}{fd:FuncData}{N ps:List Str}{k:Nat}{F:FZ}(Fn:xy K x qual st f fd)(S:bf N ps (aF st))
 (i_:∀(dI:Value) (A:Around) (outer:List Env) (s:Shared) (H:Hp) (E:XK),dS k (A.deeper (envOfC qual (aF st) s.heap.objs.size f dI))->
   DG (j8 r_ P w K mg base N qual (aF st) f dI A outer s H E).D2 cl (aR st) F):gQ P w K mg base r_ (k+1) f fd ps (Gi K cl ps.length (sg N F)):=by
 refine Fn.ok S (fun vs H Q E h=>h.1) (fun dI A outer s H vs Q E hr h=>⟨_,(i_ dI A outer s H E hr).1,?_⟩)
 obtain⟨_,ρ,S,ds,v,S',w,r,hg,q⟩:=h;obtain⟨o,S1,h1,h2⟩:=R3.ah hg;refine⟨ρ,S,d4 N ds,o,S1,vM w r,h1,?_⟩;cases o with
 | nx c5=>
   cases h2;exact fun cB bB H' p' E'=>q _ bB H' p' E'.sw (by unfold aX Rep;rfl)
 | rt d'=>
   cases h2;exact fun u bB H' p' w' r'=>q u bB H' p' w' r'
theorem HB{K:W.Frag}{cl:Wb}{N:List Str}{n:Nat}{vs:List V}{Q:VK}{E:XK}(h:Gi K cl n (yd N F) vs H Q E):Gi K cl n (sg N F) vs H Q E:=by
 obtain⟨hl,ρ,S,xs,v,S',w,r,hg,q⟩:=h;obtain⟨v1,S1,h1,h2⟩:=R3.ah hg;refine⟨hl,ρ,S,xs,v1,S1,w,r,h1,fun u bE H1 p1 w1 r1=>?_⟩
 have pc:Pre ρ H (bE.cut S.length) H1:=SW.B_ (K:=K) (cl:=cl) (by rw[w.len];exact Nat.le_refl _) p1
 split at h2
 .rename_i d e;obtain⟨ok,h3⟩:=R3.aO h2;obtain⟨ok,hk⟩:=Bool.and_eq_true_iff.mp ok;cases h3;refine q u _ H1 pc (w1.cut ok) ?_;unfold aX;refine r1.resB w1 (gR _) (fun k a hk a1 ha=>?_) hk e
  rcases P3.eG.mp ha with⟨z,_⟩ | z
  .obtain⟨j,hj⟩:=List.getElem?_of_mem z;have hj:(bE.r.take S.length)[j]? =some a:=hj;rw[List.getElem?_take] at hj;split at hj
   .rename_i hjl;have:=w1.nd j k a hj a1;omega
   .cases hj
  .exact(w1.zb a z).2 (List.mem_of_getElem? a1)
 .cases h2
end L3
end
section
namespace L3
open PySem PySem.Spec PyProof.Rows L2
section
variable {X:Cx} {cl:Wb}
def kX(δ:DE)(i:Nat):Option V3:=match δ[i]? with | some (some v)=>some v | _=>none
def k8(own:List Str)(kp:List Nat)(δ:DE):DE:=List.replicate own.length none++kp.map (kX δ)
theorem D4{K:W.Frag}{S S':aQ}{σ:L2.St}{δ:DE}{own:List Str}{kp:List Nat}(E:eJ K cl ρ H S σ δ)(p:PW ρ H bB H')(w:SW K cl bB H' S'):eJ K cl bB H' S' (c9 own kp σ) (k8 own kp δ) where
 len:=by unfold c9 k8;simp
 sw:=w
 val:=fun i d e=>by
  unfold k8 at e;unfold c9;by_cases hi:i < own.length
  .rw [List.getElem?_append_left (by simpa using hi),List.getElem?_replicate] at e
   split at e <;> cases e
  .rw [List.getElem?_append_right (by simpa using hi),List.length_replicate,List.getElem?_map] at e ⊢
   cases q:kp[i - own.length]? with
   | none=>rw [q] at e;cases e
   | some j=>
     rw[q] at e;have e:kX δ j=some d:=Option.some.inj e;unfold kX at e;split at e
     .rename_i d' ed;cases e;obtain⟨v,h1,h2⟩:=E.val j d ed;exact⟨v,by simp [h1],h2.pw p⟩
     .cases e
def jY(t:FG)(c:FB)(f:FX)(δ:DE):List V3->aQ->R3 (List V3)
 | [],S=> .ok [] S
 | v ::vs,S=>match t v δ with
   | none=> .no
   | some δ1=>(c δ1 S).bind fun b S1=>if b then(f δ1 S1).bind fun y S2=>(jY t c f δ vs S2).bind fun ys S3=> .ok (y ::ys) S3 else jY t c f δ vs S1
def mF(it:FA)(t:FG)(c:FB)(f:FX)(own:List Str)(kp:List Nat):FX:=fun δ S=>(it δ S).bind fun vs S1=>R3.aS (decide (vs.length<=sizeLine)) ((jY t c f (k8 own kp δ) vs S1).bind fun ys S2=> .ok (pd ys) S2)
theorem aC.append{K:W.Frag}:∀{ds es:List V3} {xs ys:List V},aC K ρ H ds xs->aC K ρ H es ys->aC K ρ H (ds++es) (xs++ys)
 | [],_,_,_,h,t=>by unfold aC at h;subst h;exact t
 | d ::ds,es,xs,ys,h,t=>by
   obtain⟨x,r,rfl,h1,h2⟩:=h.b5;exact aC.cons h1 (aC.append h2 t)
theorem yo{K:W.Frag}{own:List Str}{kp:List Nat}{σ:L2.St}{Q:VK}(h:tX K cl (mF it t c f own kp) σ H Q) :
 zc (QT K cl it) (gX K cl t) (IL K cl c) (tX K cl f) own kp σ H Q:=by
 obtain⟨ρ,S,δ,v,SF,E,hf,q⟩:=h;obtain⟨es,S1,h1,h2⟩:=R3.ah hf;obtain⟨hl,h3⟩:=R3.aO h2;have hl:=of_decide_eq_true hl;obtain⟨vs,S2,h4,h5⟩:=R3.ah h3;cases h5;refine⟨ρ,S,δ,es,S1,E,h1,fun J bE H1 p1 w1 ir Dd hD=>?_⟩
 have nDz:Dd ∉ bE.b:=fun hb=>by obtain⟨o,ho⟩:=w1.bs Dd hb;rw [hD] at ho;cases ho
 have nDr:Dd ∉ bE.r:=fun hb=>by obtain⟨o,ho⟩:=w1.rs Dd hb;rw [hD] at ho;cases ho
 have toZ:∀{r' f':List Addr} {H':Hp},Pre bE H1 ⟨r',bE.z,f'⟩ H'->PW bE H1 ⟨r',Dd ::bE.z,f'⟩ H':=fun {r' f' H'} p=>⟨fun b o e nb=>⟨(p.ba b o e nb).1,fun hb=>by
  rcases P3.eG.mp hb with z | z
  .exact(p.ba b o e nb).2 (P3.eG.mpr (.inl z))
  .rcases List.mem_cons.mp z with y | y
   .exact b8 e hD y
   .exact(p.ba b o e nb).2 (P3.eG.mpr (.inr y))⟩,p.ext⟩
 have w0:SW K cl ⟨bE.r,Dd ::bE.z,bE.f⟩ (upd H1 Dd (.lst [])) S1:=by
  have s0:aM H1 (upd H1 Dd (.lst [])):=br hD;have ws:=w1.same s0;refine⟨ws.len,ws.nd,fun k a o hk ho=>?_,fun b hb=>?_,ws.fz,ws.ff,ws.fi⟩
  .have r:=w1.ob k a o hk ho;obtain⟨u,hu⟩:=r.some;rw[s0 a u hu,<-hu];exact r.pw (toZ (Pre.same s0))
  .rcases List.mem_cons.mp hb with y | y
   .subst y;exact⟨⟨_,aY⟩,nDr⟩
   .exact ws.zb b y
 refine⟨fun i m ys H'=>m=es.length - i/\i<=es.length/\ys.length<=i/\H' Dd=some (.lst ys)/\∃r' f' S' done rest,Pre bE H1 ⟨r',bE.z,f'⟩ H'/\SW K cl ⟨r',Dd ::bE.z,f'⟩ H' S'/\vs=done++rest/\aC K ⟨r',Dd ::bE.z,f'⟩ H' done ys/\jY t c f (k8 own kp δ) (es.drop i) S'= .ok rest SF,
  ⟨es.length,rfl,Nat.zero_le _,Nat.le_refl _,aY,bE.r,bE.f,S1,[],vs,Pre.same (br hD),w0,rfl,aC.nil,by simpa using h4⟩,?_⟩
 rintro i m ys H' ⟨rfl,hi,hy,hDl,r',f',S',done,rest,pv,w',rfl,rd,hc⟩;obtain⟨go,stop⟩:=ir ⟨r',Dd ::bE.z,f'⟩ H' (toZ pv) w'.bs;have unZ:∀{GZ:P3} {H4:Hp},Pre ⟨r',Dd ::bE.z,f'⟩ H' GZ H4->Pre bE H1 ⟨GZ.r,bE.z,GZ.f⟩ H4:=fun {GZ H4} p4=>⟨fun b o e nb=>by
  obtain⟨e1,n1⟩:=(toZ pv).ba b o e nb;obtain⟨pA,n2⟩:=p4.ba b o e1 n1;refine⟨pA,fun hb=>n2 ?_⟩
  rcases P3.eG.mp hb with z | z
  .exact P3.eG.mpr (.inl z)
  .exact P3.eG.mpr (.inr (by rw[p4.zz];exact List.mem_cons_of_mem _ z)),rfl,fun b o hb h=>p4.zs b o (List.mem_cons_of_mem _ hb) (pv.zs b o hb h),fun k a h=>p4.ext k a (pv.ext k a h)⟩
 by_cases hlt:i < es.length
 .have hd:es[i]? =some es[i]:=List.getElem?_eq_getElem hlt;have hdrop:es.drop i=es[i] ::es.drop (i+1):=List.drop_eq_getElem_cons hlt;rw[hdrop] at hc;unfold jY at hc;split at hc
  .cases hc
  .rename_i δ1 h6;obtain⟨b,T1,h7,h8⟩:=R3.ah hc;obtain⟨g1,g2⟩:=go i _ hd;refine .inr ⟨g1,fun x H2 y=>?_⟩
   obtain⟨sy,ry⟩:=g2 x H2 y;have Ec:eJ K cl ⟨r',Dd ::bE.z,f'⟩ H2 S' (c9 own kp σ) (k8 own kp δ):=D4 E (p1.pw.trans ((toZ pv).trans (Pre.same sy).pw)) (w'.same sy);refine⟨⟨r',Dd ::bE.z,f'⟩,S',k8 own kp δ,es[i],δ1,Ec,ry,h6,fun DO H3 s3 E3=>⟨⟨r',Dd ::bE.z,f'⟩,S',δ1,b,T1,E3,h7,fun GZ H4 p4 w4=>?_⟩⟩
   have L_:Pre ⟨r',Dd ::bE.z,f'⟩ H' GZ H4:=(Pre.same (sy.trans s3)).trans p4;cases b with
   | true=>
     rw[if_pos rfl] at h8;refine Bp ?_;obtain⟨yv,T2,h9,Oi⟩:=R3.ah h8;obtain⟨rs,T3,P5,UD⟩:=R3.ah Oi;cases UD;refine⟨GZ,T1,δ1,yv,T2,E3.to p4 w4,h9,fun v5 Rr H5 p5 w5 r5=>?_⟩
     have pv5:Pre ⟨r',Dd ::bE.z,f'⟩ H' Rr H5:=L_.trans p5;have PV:H5 Dd=some (.lst ys):=pv5.zs Dd _ List.mem_cons_self hDl;have u5:=unZ pv5;obtain⟨MO,z5,f5⟩:=Rr;have ez:z5=Dd ::bE.z:=pv5.zz;subst ez;have nr:Dd ∉ MO:=(w5.zb Dd List.mem_cons_self).2;have pw:PW ⟨MO,Dd ::bE.z,f5⟩ H5 ⟨MO,Dd ::bE.z,f5⟩ (upd H5 Dd (.lst (ys++[v5]))):=⟨fun b o e nb=>⟨by rw[a_ (fun(z:b=Dd)=>nb (by rw[z];exact P3.eG.mpr (.inr List.mem_cons_self)))];exact e,nb⟩,fun _ _ h=>h⟩
     refine⟨PV,by omega,es.length - (i+1),by omega,rfl,hlt,by rw[List.length_append,List.length_singleton];omega,aY,MO,f5,T2,done++[yv],rs,?_,?_,by simp,aC.append ((rd.pre pv5).pw pw) (aC.cons (r5.pw pw) aC.nil),P5⟩
     .refine⟨fun b o e nb=>⟨by rw[a_ (b8 e hD)];exact(u5.ba b o e nb).1,(u5.ba b o e nb).2⟩,rfl,fun b o hb h=>?_,u5.ext⟩
      rw[a_ (b8 h hD)];exact u5.zs b o hb h
     .refine⟨w5.len,w5.nd,fun k a o hk ho=>?_,fun b hb=>?_,w5.fz,fun b hb=>?_,w5.fi⟩
      .have ne:a≠Dd:=fun z=>nr (by rw[<-z];exact List.mem_of_getElem? hk)
       rw[a_ ne];exact(w5.ob k a o hk ho).pw pw
      .obtain⟨⟨o,ho⟩,n⟩:=w5.zb b hb;refine⟨?_,n⟩;by_cases z:b=Dd
       .subst z;exact⟨_,aY⟩
       .rw [a_ z];exact⟨o,ho⟩
      .obtain⟨o,ho⟩:=w5.ff b hb;by_cases z:b=Dd
       .subst z;exact⟨_,aY⟩
       .rw [a_ z];exact⟨o,ho⟩
   | false=>
     rw[if_neg (by decide)] at h8
     refine De ?_;have Uq:H4 Dd=some (.lst ys):=L_.zs Dd _ List.mem_cons_self hDl;have u4:=unZ L_;obtain⟨UW,z4,f4⟩:=GZ;have ez:z4=Dd ::bE.z:=L_.zz;subst ez;exact⟨es.length - (i+1),by omega,rfl,hlt,by omega,Uq,UW,f4,T1,done,rest,u4,w4,rfl,rd.pre L_,h8⟩
 .have e:i=es.length:=by omega
  subst e;rw[List.drop_length] at hc;cases hc;rw[List.append_nil] at q;refine .inl ⟨stop,?_⟩;have back:PW ⟨r',Dd ::bE.z,f'⟩ H' ⟨r',bE.z,f'⟩ H':=⟨fun b o e nb=>⟨e,fun hb=>nb (by
   rcases P3.eG.mp hb with z | z
   .exact P3.eG.mpr (.inl z)
   .exact P3.eG.mpr (.inr (List.mem_cons_of_mem _ z)))⟩,fun _ _ h=>h⟩
  have wB:SW K cl ⟨r',bE.z,f'⟩ H' _:=⟨w'.len,w'.nd,fun k a o hk ho=>(w'.ob k a o hk ho).pw back,fun b hb=>w'.zb b (List.mem_cons_of_mem _ hb),w'.fz,w'.ff,w'.fi⟩
  refine q _ ⟨r',bE.z,f'⟩ H' (p1.trans pv) wB (zw (.inl ⟨fun hb=>?_, .inl hDl⟩) (rd.pw back))
  rcases P3.eG.mp hb with z | z
  .exact(w'.zb Dd List.mem_cons_self).2 z.1
  .exact nDz (P3.eG.mpr (.inr z))
end
end L3
end
section
namespace L3
open PySem PySem.Spec PyProof.Rows L2
section
variable {X:Cx} {cl:Wb}
theorem EC{scope:Scope}{own:List Str}{kp:List Nat}{kn:List Str}{tg iter elt:Expr}{ifs:List Expr}{it:FA}{t:FG}{c:FB}{f:FX}{pos:Pos}(hc:X.calm=true)(C:bN X scope own kp kn)(hi:La X cl tg iter it)
 (hg:∀fp s H,Gx (aV X scope (own++kn) fp s H) cl tg t) (ur:∀fp s H,nM (aV X scope (own++kn) fp s H) ifs (IL X.K cl c)) (he:∀fp s H,PX (aV X scope (own++kn) fp s H) cl elt f)
 (hs:∀x,foldedSetIterable iter X.env x=pure x:=by intro _;rfl):PX X cl (.ListComp elt [⟨tg,iter,ifs,0⟩] scope pos) (mF it t c f own kp):=
 ⟨(yR hc C hi.1 (fun fp s H=>(hg fp s H).1) ur (fun fp s H=>(he fp s H).1) hs).imp fun σ H Q h=>yo h⟩
def zI:FB:=fun _ S=> .ok true S
theorem l8:nM X [] (IL X.K cl zI):=fun pins s σ H Q I ⟨ρ,S,δ,b,S',E,hf,q⟩=>uW pins s σ H Q I (by cases hf;exact q ρ H (Pre.refl ρ H) E.sw)
theorem Hu{K:W.Frag}{i:Nat}{D:Ends}{σ:L2.St}(h:sX K cl (kO i f) D σ H):zy (tX K cl f) (qO i) D σ H:=by
 obtain⟨ρ,S,δ,o,S',E,hf,q⟩:=h;obtain⟨v,S1,h1,h2⟩:=R3.ah hf;obtain⟨hi,h3⟩:=R3.aO h2;cases h3;refine⟨ρ,S,δ,v,_,E,h1,fun u bE H1 p1 w1 r1=>?_⟩
 exact q _ bE H1 p1 ((E.to p1 w1).set (by rw[<-E.len];exact of_decide_eq_true hi) r1)
theorem m7{i:Nat}{x:Str}{pos' lW:Pos}{scope:Scope}{own:List Str}{kp:List Nat}{kn:List Str}{tg iter elt:Expr}{ifs:List Expr}{it:FA}{t:FG}{c:FB}{f:FX}{pos:Pos}(hc:X.calm=true)
 (hN:X.N.Nodup) (hx:X.N[i]? =some x) (uu:X.env.scope.names.lookup x=some .local) (C:bN X scope own kp kn) (hi:La X cl tg iter it)
 (hg:∀fp s H,Gx (aV X scope (own++kn) fp s H) cl tg t) (ur:∀fp s H,nM (aV X scope (own++kn) fp s H) ifs (IL X.K cl c)) (he:∀fp s H,PX (aV X scope (own++kn) fp s H) cl elt f)
 (rO:swapsWith (.ListComp elt [⟨tg,iter,ifs,0⟩] scope pos) (some (.Name x pos')) lW.line X.env=pure true:=by rfl)
 (hs:∀x,foldedSetIterable iter X.env x=pure x:=by intro _;rfl):PZ X cl (.Assign [.Name x pos'] (.ListComp elt [⟨tg,iter,ifs,0⟩] scope pos) lW) (kO i (mF it t c f own kp)):=
 ⟨(mP hc hN hx uu C hi.1 (fun fp s H=>(hg fp s H).1) ur (fun fp s H=>(he fp s H).1) rO hs).imp fun D σ H h=>yo (Hu h)⟩
def VO(g:FA):FX:=fun δ S=>(g δ S).bind fun vs S1=>match oJ vs with
 | some ds=>R3.aS (decide (ds.length<=sizeLine)) (.ok (.loc S1.length) (S1++[.lst ds]))
 | none=> .no
end
end L3
end
section
namespace L3
open PySem PySem.Spec PyProof.Rows L2
section
variable {X:Cx} {cl:Wb}
def uj(g:List D->R D)(fs:FA):FX:=fun δ S=>(fs δ S).bind fun vs S1=>match oJ vs with
 | some ds=>(R3.of (g ds) S1).bind fun d S=> .ok (.d d) S
 | none=> .no
theorem BY{K:W.Frag}{g:List D->R D}{σ:L2.St}{Q:VK}(h:tX K cl (uj g fs) σ H Q) :
 Qj K cl fs σ H fun vs H1=>∃B ds d,(∀a∈B,∃o,H1 a=some o)/\aD K B H1 ds vs/\g ds= .ok d/\∀z H',aM H1 H'->Rep K B H' d z->Q z H':=by
 obtain⟨ρ,S,δ,v,S',E,hf,q⟩:=h;obtain⟨vs,S1,h1,h2⟩:=R3.ah hf;split at h2
 .rename_i ds e;obtain⟨d,S2,h3,h4⟩:=R3.ah h2;obtain⟨h5,e5⟩:=R3.of_ok h3;cases h4;subst e5;refine⟨ρ,S,δ,vs,_,E,h1,fun us bE H1 p1 w1 r1=>?_⟩
  rw[lX e] at r1;exact⟨bE.b,ds,d,w1.bs,r1.to,h5,fun z H' s r=>q z bE H' (p1.trans (Pre.same s)) (w1.same s) (by unfold aX;exact r)⟩
 .cases h2
theorem Ad{g:List D->R D}{x:Str}{T:String}{p pos:Pos}{e:Expr}{es:List Expr}{fs:FA}(hc:cI X (.type T) g)(hg:Gl X x)(hm:X.mg x=none)(hv:bootBuiltins x=some (.type T))(ha:Ja X cl (e ::es) fs)(hn:x≠"__name__":=by decide)(jE:(x==("__debug__":Str))=false:=by decide)
 (he:starEach (e ::es) X.env=(false,eval e X.env) ::starEach es X.env:=by rfl) (mj:(backTo pos (starEach es X.env)).any (·.1)=false:=by rfl):PX X cl (.Call (.Name x p) (e ::es) [] pos) (uj g fs):=
 ⟨(rP hc.r hg hm hv ha.1 hn jE he mj).imp fun σ H Q h=>BY h⟩
def VH(c:FB)(f g:FX):FX:=fun δ S=>(c δ S).bind fun b S=>if b then f δ S else g δ S
theorem dY:∀(δ:DE) (S:aQ) (ds:List V3) (S':aQ),dE δ S= .ok ds S'->ds.length=0:=fun δ S ds S' h=>by cases h;rfl
theorem bO{g:FA}{n:Nat}(h:∀(δ:DE) (S:aQ) (ds:List V3) (S':aQ),g δ S= .ok ds S'->ds.length=n):∀(δ:DE) (S:aQ) (ds:List V3) (S':aQ),bu f g δ S= .ok ds S'->ds.length=n+1:=fun δ S ds S' e=>by
 obtain⟨v,S1,h1,h2⟩:=R3.ah e;obtain⟨vs,S2,h3,h4⟩:=R3.ah h2;cases h4;rw[List.length_cons,h δ S1 vs _ h3]
end
end L3
end
section
namespace L3
open PySem PySem.Spec PyProof.Rows L2
section
variable {X:Cx} {cl:Wb}
def Vp(fa fb:FX):FX:=fun δ S=>(fa δ S).bind fun a S1=>(fb δ S1).bind fun b S2=>match a,b with
 | .d x, .d y=>(R3.of (dC x y) S2).bind fun d S=> .ok (.d d) S
 | .lst vs, .d (.int i)=>(match um vs i with | some v=> .ok v S2 | none=> .no)
 | .tup vs, .d (.int i)=>(match um vs i with | some v=> .ok v S2 | none=> .no)
 | _,_=> .no
end
end L3
end
section
namespace L3
open PySem PySem.Spec PyProof.Rows L2
section
variable {X:Cx} {cl:Wb}
structure I_ (X:Cx) (cl:Wb) (e:Expr) (f:FB):Prop where
 go:L2.PW X e (IL X.K cl f)
theorem I_.pb(h:I_ X cl e f):AH X cl e f:=⟨L2.PW.pt h.1⟩
def SH(f g:FB):FB:=fun δ S=>(f δ S).bind fun b S=>if b then g δ S else .ok false S
def LF(f g:FB):FB:=fun δ S=>(f δ S).bind fun b S=>if b then .ok true S else g δ S
def CC(f:FB):FB:=fun δ S=>(f δ S).bind fun b S=> .ok (!b) S
theorem yn(h:AH X cl a f):I_ X cl (.BoolOp .Or [a] pos) f:=⟨AW h.1⟩
theorem Cd{rest:List Expr}(ha:AH X cl a f)(hb:I_ X cl (.BoolOp .Or (b ::rest) pos) g):I_ X cl (.BoolOp .Or (a ::b ::rest) pos) (LF f g):=⟨by
 intro wh pins s σ H Q I ⟨ρ,S,δ,k,S',E,hf,q⟩;refine GK ha.1 hb.1 wh pins s σ H Q I ?_;obtain⟨c,S1,h1,h2⟩:=R3.ah hf;refine⟨ρ,S,δ,c,S1,E,h1,fun bE H1 p1 w1=>?_⟩
 cases c with
 | true=>rw [if_pos rfl] at h2 ⊢;cases h2;exact q bE H1 p1 w1
 | false=>rw [if_neg (by decide)] at h2 ⊢;exact⟨bE,S1,δ,k,S',E.to p1 w1,h2,fun oq H' p2 w2=>q oq H' (p1.trans p2) w2⟩⟩
theorem ye(ha:AH X cl a f):AH X cl (.UnaryOp .Not a pos) (CC f):=⟨(Dk ha.1).imp fun σ H Q ⟨ρ,S,δ,k,S',E,hf,q⟩=>by
 obtain⟨c,S1,h1,h2⟩:=R3.ah hf;cases h2;exact⟨ρ,S,δ,c,_,E,h1,fun bE H1 p1 w1=>q bE H1 p1 w1⟩⟩
def S9(f:FX):FB:=fun δ S=>(f δ S).bind fun v S=>match v with | .d d=>R3.of (I0 d) S | _=> .no
abbrev J1:=DE->aQ->R3 (Option Int)
def RJ(K:W.Frag)(cl:Wb)(f:J1):TO:=fun σ H Q=>∃ρ S δ o S',eJ K cl ρ H S σ δ/\f δ S= .ok o S'/\∀bB H',Pre ρ H bB H'->SW K cl bB H' S'->Q o H'
structure Vu (X:Cx) (cl:Wb) (e:Option Expr) (f:J1):Prop where
 go:PO X e (RJ X.K cl f)
def M_:J1:=fun _ S=> .ok none S
def NI(f:FX):J1:=fun δ S=>(f δ S).bind fun v S=>match v with | .d (.int i)=> .ok (some i) S | _=> .no
def Vo(f:FX)(fl fh:J1):FX:=fun δ S=>(f δ S).bind fun v S1=>(fl δ S1).bind fun lo S2=>(fh δ S2).bind fun hi S3=>match v with
 | .d d=>(R3.of (GA d lo hi) S3).bind fun r S=> .ok (.d r) S
 | _=> .no
end
end L3
end
section
namespace L2
open PySem PySem.Spec PyProof.Rows
section
variable {X:Cx}
def Ig(t T:String):Bool:=t==T || (t=="bool" && T=="int")
def Sy(T:String)(f:FD):FD:=fun δ=>(f δ).bind fun d=>match d with | .dct _ _=> .no | _=> .ok (.bl (Ig (tyName d) T))
def nList(f:FD):ao->R (List D):=fun δ=>(f δ).bind fun d=>match d with | .lst ds=> .ok ds | .tup ds=> .ok ds | _=> .no
end
end L2
namespace L3
open PySem PySem.Spec PyProof.Rows L2
theorem vj{P:Program}{w:World}{K:W.Frag}{mg:Wa}{base:Heap}{cl:Wb}{x qual:Str}{st:Stmt}{f:Addr}{fd:FuncData}{N ps:List Str}{k:Nat}{F:FZ}{b:List Stmt}{sc:Scope}(hb:aR st=b)(hs:aF st=sc)(Fn:xy K x qual st f fd)(S:bf N ps sc)
 (i_:∀(dI:Value) (A:Around) (outer:List Env) (s:Shared) (H:Hp) (E:XK),dS k (A.deeper (envOfC qual sc s.heap.objs.size f dI))->
   DG (j8 r_ P w K mg base N qual sc f dI A outer s H E).D2 cl b F):gQ P w K mg base r_ (k+1) f fd ps (Gi K cl ps.length (sg N F)):=by
 subst hb hs;exact Fd Fn S i_
def Mu(N:List Str)(F:FZ):List D->R D:=fun ds=>match yd N F (ds.map .d) [] with
 | .ok (.d d) []=>R.aS d.atom (.ok d)
 | _=> .no
theorem JI{K:W.Frag}{cl:Wb}{N:List Str}{n:Nat}{vs:List V}{Q:VK}{E:XK}(h:ES K n (Mu N F) vs H Q E):Gi K cl n (sg N F) vs H Q E:=by
 obtain⟨hl,B,ds,d,hb,r,hg,q⟩:=h;unfold Mu at hg;split at hg
 .rename_i d' e;obtain⟨ha,h2⟩:=R.aO hg;cases h2;have r0:aD K (⟨[],[],[]⟩:P3).b H ds vs:=r.ba fun b o e _=>⟨e,by simp [P3.b]⟩
  refine HB ⟨hl,⟨[],[],[]⟩,[],ds.map .d, .d d,[],⟨rfl,fun i j a hi=>by simp at hi,fun k a o hk=>by simp at hk,fun b hb=>by simp at hb,fun k a hk=>by simp at hk,fun b hb=>by simp at hb,fun k a hk=>by simp at hk⟩,aC.of r0,e,fun u bB H' p w' r'=>q u H' (fun b o eb=>?_) ?_⟩
  .exact(p.ba b o eb (by simp [P3.b])).1
  .unfold aX at r';exact r'.atom ha
 .cases hg
section
variable {X:Cx} {cl:Wb}
def MQ(f:FX):FA:=fun δ S=>(f δ S).bind fun v S=>match v with | .d (.tup ds)=> .ok (ds.map .d) S | .tup vs=> .ok vs S | _=> .no
end
end L3
end
section
namespace L3
open PySem PySem.Spec PyProof.Rows L2
def W3{α:Type}(r:R3 α)(Q:α->aQ->Prop):Prop:=∃a S,r= .ok a S/\Q a S
section
variable {α β:Type} {Q Q':α->aQ->Prop} {S:aQ} {δ:DE}
theorem W3.ok{a:α}(h:Q a S):W3 (.ok a S) Q:=⟨a,S,rfl,h⟩
theorem W3.bind{Q:β->aQ->Prop}{r:R3 α}{f:α->aQ->R3 β}(h:W3 r fun a S=>W3 (f a S) Q):W3 (r.bind f) Q:=by
 obtain⟨a,S1,e1,b,S2,h2,q⟩:=h;exact⟨b,S2,by rw[e1];exact h2,q⟩
theorem W3.mono{r:R3 α}(h:W3 r Q)(m:∀a S,Q a S->Q' a S):W3 r Q':=let⟨a,S,e,q⟩:=h;⟨a,S,e,m a S q⟩
theorem W3.wh{c:Bool}{r:R3 α}(hc:c=true)(h:W3 r Q):W3 (R3.aS c r) Q:=by rw[hc];exact h
theorem W3.of{r:R α}{a:α}(e:r= .ok a)(h:Q a S):W3 (R3.of r S) Q:=by rw[e];exact⟨a,S,rfl,h⟩
end
section
variable {S:aQ} {δ:DE} {QV:V3->aQ->Prop} {QB:Bool->aQ->Prop} {QA:List V3->aQ->Prop} {QO:Ou->aQ->Prop}
theorem g9{f:FD}{d:D}(e:f (down δ)= .ok d)(h:QV (.d d) S):W3 (xP f δ S) QV:=W3.bind (W3.of e (W3.ok h))
theorem Ag{f:ao->R Bool}{b:Bool}(e:f (down δ)= .ok b)(h:QB b S):W3 (bP f δ S) QB:=W3.of e h
theorem w_var{i:Nat}{v:V3}(e:δ[i]? =some (some v))(h:QV v S):W3 (cG i δ S) QV:=by unfold cG;rw [e];exact W3.ok h
theorem B6{f:ao->R (List D)}{ds:List D}(e:f (down δ)= .ok ds)(h:QV (.loc S.length) (S++[.lst ds])):W3 (Bf f δ S) QV:=W3.bind (W3.of e (W3.ok h))
theorem jv(h:QA [] S):W3 (dE δ S) QA:=W3.ok h
theorem c7{f:FX}{g:FA}(h:W3 (f δ S) fun v S1=>W3 (g δ S1) fun vs S2=>QA (v ::vs) S2):W3 (bu f g δ S) QA:=W3.bind (h.mono fun _ _ h=>W3.bind (h.mono fun _ _ h=>W3.ok h))
theorem LR{g:FA}(h:W3 (g δ S) fun vs S1=>vs.length<=sizeLine/\QV (vy vs) S1):W3 (xw g δ S) QV:=W3.bind (h.mono fun _ _ h=>W3.wh (decide_eq_true h.1) (W3.ok h.2))
theorem T7{g:D->D->R D}{fa fb:FX}(h:W3 (fa δ S) fun a S1=>W3 (fb δ S1) fun b S2=>∃x y d,a= .d x/\b= .d y/\g x y= .ok d/\QV (.d d) S2):W3 (x2 g fa fb δ S) QV:=
 W3.bind (h.mono fun _ _ h=>W3.bind (h.mono fun _ _ ⟨_,_,_,e1,e2,e3,q⟩=>by subst e1 e2;exact W3.bind (W3.of e3 (W3.ok q))))
theorem zB{g:D->D->R D}{fa fb:FX}(h:W3 (fa δ S) fun a S1=>W3 (fb δ S1) fun b S2=>∃x y k,a= .d x/\b= .d y/\g x y= .ok (.bl k)/\QB k S2):W3 (Gy g fa fb δ S) QB:=
 W3.bind (T7 (h.mono fun _ _ h=>h.mono fun _ _ ⟨x,y,k,e1,e2,e3,q⟩=>⟨x,y, .bl k,e1,e2,e3,W3.ok q⟩))
theorem Jj{g:List V3->aQ->R3 V3}{fs:FA}(h:W3 (fs δ S) fun vs S1=>W3 (g vs S1) QV):W3 (mJ g fs δ S) QV:=W3.bind h
theorem EJ{g:List D->R D}{fs:FA}(h:W3 (fs δ S) fun vs S1=>∃ds d,vs=ds.map .d/\g ds= .ok d/\QV (.d d) S1):W3 (uj g fs δ S) QV:=
 W3.bind (h.mono fun _ _ ⟨ds,_,e1,e2,q⟩=>by subst e1;rw [nP];exact W3.bind (W3.of e2 (W3.ok q)))
theorem BM{it:FA}{own:List Str}{kp:List Nat}(h:W3 (it δ S) fun vs S1=>vs.length<=sizeLine/\W3 (jY t c f (k8 own kp δ) vs S1) fun ys S2=>QV (pd ys) S2):W3 (mF it t c f own kp δ S) QV:=
 W3.bind (h.mono fun _ _ h=>W3.wh (decide_eq_true h.1) (W3.bind (h.2.mono fun _ _ h=>W3.ok h)))
theorem dP{F G:FZ}(h:W3 (F δ S) fun o S1=>∃δ1,o= .nx δ1/\W3 (G δ1 S1) QO):W3 (cA F G δ S) QO:=W3.bind (h.mono fun _ _ ⟨_,e,h⟩=>by subst e;exact h)
theorem Im{F G:FZ}(h:W3 (F δ S) fun o S1=>∃v,o= .rt v/\QO (.rt v) S1):W3 (cA F G δ S) QO:=W3.bind (h.mono fun _ _ ⟨_,e,h⟩=>by subst e;exact W3.ok h)
theorem jl{i:Nat}{f:FX}(hi:i < δ.length)(h:W3 (f δ S) fun v S1=>QO (.nx (δ.set i (some v))) S1):W3 (kO i f δ S) QO:=W3.bind (h.mono fun _ _ h=>W3.wh (decide_eq_true hi) (W3.ok h))
theorem yJ{f:FX}(h:W3 (f δ S) fun v S1=>QO (.rt v) S1):W3 (tL f δ S) QO:=W3.bind (h.mono fun _ _ h=>W3.ok h)
theorem BZ{c:FB}{F G:FZ}(h:W3 (c δ S) fun b S1=>if b then W3 (F δ S1) QO else W3 (G δ S1) QO):W3 (rj c F G δ S) QO:=W3.bind (h.mono fun b _ h=>by cases b <;> exact h)
theorem Ll{f:FX}{t:FG}(h:W3 (f δ S) fun v S1=>∃δ1,t v δ=some δ1/\QO (.nx δ1) S1):W3 (IU f t δ S) QO:=W3.bind (h.mono fun _ _ ⟨_,e,q⟩=>by rw[e];exact W3.ok q)
theorem tK(h:QO (.nx δ) S):W3 (ke δ S) QO:=W3.ok h
theorem xS{f:ao->R (List D)}{ds:List D}(e:f (down δ)= .ok ds)(h:QA (ds.map .d) S):W3 (iP f δ S) QA:=W3.bind (W3.of e (W3.ok h))
theorem Lb{it:FA}(h:W3 (it δ S) fun vs S1=>W3 (fY t F vs δ S1) QO):W3 (xF it t F δ S) QO:=W3.bind h
theorem qX{t:FG}{body:FZ}:∀(vs:List V3) (n:Nat) (P:Nat->DE->aQ->Prop) {δ:DE} {S:aQ},P n δ S->
 (∀i v δ S,vs[i]? =some v->P (n+i) δ S->∃δ1,t v δ=some δ1/\W3 (body δ1 S) fun o S1=>∃iE,o= .nx iE/\P (n+i+1) iE S1)->W3 (fY t body vs δ S) fun o S1=>∃iE,o= .nx iE/\P (n+vs.length) iE S1
 | [],n,P,δ,S,h0,_=>W3.ok ⟨δ,rfl,h0⟩
 | v ::vs,n,P,δ,S,h0,hs=>by
   obtain⟨δ1,e1,o,S1,e2,iE,rfl,p2⟩:=hs 0 v δ S rfl h0;have ih:=qX vs (n+1) P p2 (fun i v' c5 S' hi hp=>by
    have:=hs (i+1) v' c5 S' (by simpa using hi) (by rw[show n+(i+1)=n+1+i by omega];exact hp)
    rw[show n+(i+1)+1=n+1+i+1 by omega] at this
    exact this)
   rw[show n+1+vs.length=n+(v ::vs).length by rw[List.length_cons];omega] at ih
   unfold fY;rw[e1];refine W3.bind ⟨_,_,e2,?_⟩;exact ih
theorem zE{t:FG}{body:FZ}{vs:List V3}(P:Nat->DE->aQ->Prop){δ:DE}{S:aQ}(h0:P 0 δ S)
 (hs:∀i v δ S,vs[i]? =some v->P i δ S->∃δ1,t v δ=some δ1/\W3 (body δ1 S) fun o S1=>∃iE,o= .nx iE/\P (i+1) iE S1):W3 (fY t body vs δ S) fun o S1=>∃iE,o= .nx iE/\P vs.length iE S1:=by
 have:=qX (t:=t) (body:=body) vs 0 P h0 (fun i v δ S hi hp=>by simpa using hs i v δ S hi (by simpa using hp))
 simpa using this
theorem qL{t:FG}{c:FB}{f:FX}{δ:DE}:∀(vs:List V3) (n:Nat) (P:Nat->List V3->aQ->Prop) {ys:List V3} {S:aQ},P n ys S->
 (∀i v ys S,vs[i]? =some v->P (n+i) ys S->∃δ1,t v δ=some δ1/\W3 (c δ1 S) fun b S1=>if b then W3 (f δ1 S1) fun y S2=>P (n+i+1) (ys++[y]) S2 else P (n+i+1) ys S1)->W3 (jY t c f δ vs S) fun zs S1=>P (n+vs.length) (ys++zs) S1
 | [],n,P,ys,S,h0,_=>W3.ok (by rw[List.append_nil];exact h0)
 | v ::vs,n,P,ys,S,h0,hs=>by
   obtain⟨δ1,e1,b,S1,e2,h2⟩:=hs 0 v ys S rfl h0;have ih:∀{Md S'},P (n+1) Md S'->W3 (jY t c f δ vs S') fun zs S1=>P (n+(v ::vs).length) (Md++zs) S1:=fun {Md S'} p=>by
    have:=qL (t:=t) (c:=c) (f:=f) (δ:=δ) vs (n+1) P p (fun i v' Md S' hi hp=>by
     have:=hs (i+1) v' Md S' (by simpa using hi) (by rw[show n+(i+1)=n+1+i by omega];exact hp)
     rw[show n+(i+1)+1=n+1+i+1 by omega] at this
     exact this)
    rw[show n+1+vs.length=n+(v ::vs).length by rw[List.length_cons];omega] at this
    exact this
   unfold jY;rw[e1];refine W3.bind ⟨b,S1,e2,?_⟩;cases b with
   | true=>
     rw[if_pos rfl] at h2 ⊢;exact W3.bind (h2.mono fun y S2 p=>W3.bind ((ih p).mono fun zs S3 q=>W3.ok (by rw[List.append_assoc] at q;exact q)))
   | false=>rw [if_neg (by decide)] at h2 ⊢;exact ih h2
theorem Am{t:FG}{c:FB}{f:FX}{δ:DE}{vs:List V3}(P:Nat->List V3->aQ->Prop){S:aQ}(h0:P 0 [] S)
 (hs:∀i v ys S,vs[i]? =some v->P i ys S->∃δ1,t v δ=some δ1/\W3 (c δ1 S) fun b S1=>if b then W3 (f δ1 S1) fun y S2=>P (i+1) (ys++[y]) S2 else P (i+1) ys S1):W3 (jY t c f δ vs S) fun zs S1=>P vs.length zs S1:=by
 have:=qL (t:=t) (c:=c) (f:=f) (δ:=δ) vs 0 P h0 (fun i v ys S hi hp=>by simpa using hs i v ys S hi (by simpa using hp))
 simpa using this
theorem zj{QB:Bool->aQ->Prop}(h:QB true S):W3 (zI δ S) QB:=W3.ok h
theorem SX{N:List Str}{F:FZ}{vs:List V3}{δ:DE}(e:d4 N vs=δ)(h:W3 (F δ S) fun o S1=>∃v,o= .rt v/\QV v S1):W3 (sg N F vs S) QV:=by
 subst e;exact W3.bind (h.mono fun _ _ ⟨_,e,q⟩=>by subst e;exact W3.ok q)
def Qi(S:aQ):Prop:=∀o∈S,∃ds,o=SO.lst ds
end
section
variable {S:aQ} {δ:DE} {QV:V3->aQ->Prop}
theorem Fm{it:FA}{t:FG}{c:FB}{f:FX}{own:List Str}{kp:List Nat}(P:Nat->List D->aQ->Prop)(h:W3 (it δ S) fun vs S1=>vs.length<=sizeLine/\P 0 [] S1/\
 (∀i v ds S2,vs[i]? =some v->P i ds S2->∃δ1,t v (k8 own kp δ)=some δ1/\W3 (c δ1 S2) fun b S3=>if b then W3 (f δ1 S3) fun y S4=>∃d,y= .d d/\P (i+1) (ds++[d]) S4 else P (i+1) ds S3)/\
 ∀ds S2,P vs.length ds S2->QV (.d (.lst ds)) S2):W3 (mF it t c f own kp δ S) QV:=by
 refine BM (h.mono fun vs S1 ⟨hl,h0,hs,hq⟩=>⟨hl,?_⟩)
 refine(Am (fun i ys S=>∃ds,ys=ds.map V3.d/\P i ds S) ⟨[],rfl,h0⟩ ?_).mono fun zs S2 ⟨ds,e,p⟩=>?_
 .rintro i v ys S2 hv ⟨ds,rfl,p⟩;obtain⟨δ1,e1,h1⟩:=hs i v ds S2 hv p;refine⟨δ1,e1,h1.mono fun b S3 h3=>?_⟩
  cases b with
  | true=>
    rw[if_pos rfl] at h3 ⊢;exact h3.mono fun y S4 ⟨d,e,p⟩=>by subst e;exact⟨ds++[d],by simp,p⟩
  | false=>rw [if_neg (by decide)] at h3 ⊢;exact⟨ds,rfl,h3⟩
 .subst e;unfold pd;rw[nP];exact hq ds S2 p
structure jg (n:Nat) (d:D):Prop where
 pl:cP d=true
 ly:(toPy d).canLay0=true
 dp:(toPy d).depth<=n
theorem jg.int(i:Int):jg 0 (.int i):=⟨by unfold cP;rfl,by unfold toPy PyData.canLay0;rfl,by unfold toPy PyData.depth;omega⟩
theorem jg.bl(b:Bool):jg 0 (.bl b):=⟨by unfold cP;rfl,by unfold toPy PyData.canLay0;rfl,by unfold toPy PyData.depth;omega⟩
theorem jg.str(h:(PyData.str s).canLay0=true):jg 0 (.str s):=⟨by unfold cP;rfl,by unfold toPy;exact h,by unfold toPy PyData.depth;omega⟩
theorem jg.mono{n m:Nat}{d:D}(h:jg n d)(hm:n<=m):jg m d:=⟨h.pl,h.ly,Nat.le_trans h.dp hm⟩
theorem jg.all{n:Nat}:∀{ds:List D},(∀d∈ds,jg n d)->ft ds=true/\PyData.canLayAll0 (i3 ds)=true/\PyData.depthAll (i3 ds)<=n
 | [],_=>⟨by unfold ft;rfl,by unfold i3 PyData.canLayAll0;rfl,by unfold i3 PyData.depthAll;omega⟩
 | d ::ds,h=>by
   obtain⟨h1,h2,h3⟩:=jg.all (ds:=ds) fun x hx=>h x (List.mem_cons_of_mem _ hx)
   have f:=h d List.mem_cons_self;refine⟨by unfold ft;rw [f.pl,h1];rfl,by unfold i3 PyData.canLayAll0;rw [f.ly,h2];rfl,?_⟩
   unfold i3 PyData.depthAll;have:=f.dp;omega
theorem jg.lst{n:Nat}{ds:List D}(h:∀d∈ds,jg n d):jg (n+1) (.lst ds):=by
 obtain⟨h1,h2,h3⟩:=jg.all h;exact⟨by unfold cP;exact h1,by unfold toPy PyData.canLay0;exact h2,by unfold toPy PyData.depth;omega⟩
theorem jg.tup{n:Nat}{ds:List D}(h:∀d∈ds,jg n d):jg (n+1) (.tup ds):=by
 obtain⟨h1,h2,h3⟩:=jg.all h;exact⟨by unfold cP;exact h1,by unfold toPy PyData.canLay0;exact h2,by unfold toPy PyData.depth;omega⟩
theorem jg.sh{n:Nat}{d:D}(h:jg n d)(hn:n<=64):SeqAt.shaped (toPy d)=true:=by
 unfold SeqAt.shaped;rw[h.ly,decide_eq_true (Nat.le_trans h.dp hn)];rfl
theorem G3{d e:List D}:GL (.tup d) (.tup e)=R.aS (cP (.tup d) && cP (.tup e) && SeqAt.shaped (toPy (.tup d)) && SeqAt.shaped (toPy (.tup e))) (.ok (PyData.eqv (toPy (.tup d)) (toPy (.tup e)))):=rfl
theorem jg.eqT{n:Nat}{ds:List D}(h:jg n (.tup ds))(hn:n<=64):GL (.tup ds) (.tup ds)= .ok true:=by
 rw[G3,h.pl,h.sh hn,SeqAt.eqv_refl _ h.ly];rfl
end
end L3
end
section
namespace L2
open PySem PySem.Spec PyProof.Rows
section
variable {X:Cx}
def GW:D->Bool | .cH=>true | _=>false
def VP(d e:D):R D:=match e with | .cH=> .ok (.bl (GW d)) | _=> .no
def Sw(d e:D):R D:=match e with | .cH=> .ok (.bl (!GW d)) | _=> .no
theorem zY:j7 X (.type "int") (fun xs H Q=>∃x n,xs=[.str x]/\PySem.intText? x=some n/\x.length<=640/\Q (.int n) H):=by
 intro pins s σ H xs us Q I r h;obtain⟨x,n,rfl,h1,h2,q⟩:=h;obtain⟨u,rfl,ru⟩:=vals1 r;obtain⟨t,rfl⟩:=ru;exact PySem.W.KIN.call_text h1 h2 ⟨.int n,H,I.tok _,⟨_,rfl⟩,q⟩
def BJ:List D->R D
 | [.str x]=>R.aS (decide (x.length<=640)) (match PySem.intText? x with | some n=> .ok (.int n) | none=> .no)
 | _=> .no
theorem JH:cI X (.type "int") BJ:=cI.of zY fun B H ds d xs Q _ rs hg q=>by
 unfold BJ at hg;split at hg
 .obtain⟨h1,h2⟩:=R.aO hg;split at h2
  .rename_i e;cases h2;obtain⟨x,rfl,r⟩:=rs.one;exact⟨_,_,by rw[Rep.str.mp r],e,of_decide_eq_true h1,q _ H (aM.refl H) (Rep.int.mpr rfl)⟩
  .cases h2
 .cases hg
def uH(ds:List D):R D:=match ds with | [.str _]=>BJ ds | _=>cInt ds
theorem wy:cI X (.type "int") uH:=cI.or JH Ks fun a d h=>by
 unfold uH at h;split at h
 .exact .inl h
 .exact .inr h
def KC(f:FD):FD:=fun δ=>(f δ).bind fun d=>match d with | .int i=> .ok (.int (-i)) | _=> .no
theorem Fw(h:QD X a f):QD X (.UnaryOp .USub a pos) (KC f):=⟨(Ke HC h.1).imp fun σ H Q ⟨Z,B,δ,d,E,hf,q⟩=>by
 obtain⟨d1,h1,h2⟩:=R.ah hf;split at h2
 .cases h2;exact⟨Z,B,δ,_,E,h1,fun v H1 s1 r1=>⟨_,Rep.int.mp r1,q _ H1 s1 (Rep.int.mpr rfl)⟩⟩
 .cases h2⟩
def QK(d:D)(ds:List D):R D:=match d,ds with
 | .str x,[.str y]=> .ok (.int (Txt.find x y))
 | _,_=> .no
def Tg(aA:List (Str × Str)):D:= .dct (aA.map fun p=>Sum.inr p.1) (aA.map fun p=> .str p.2)
def VM(aA:List (Str × Str)):List (Key × V):=aA.map fun p=>((Sum.inr p.1:Key),V.str p.2)
def RY(d k:D):R D:=match d,k with
 | .dct ks ds, .str x=>(match (ks.zip ds).find? fun p=>decide (p.1=Sum.inr x) with | some p=> .ok p.2 | none=> .no)
 | _,_=> .no
end
end L2
namespace L3
open PySem PySem.Spec PyProof.Rows L2
section
variable {X:Cx} {cl:Wb}
def Qb(f:FX):FB:=fun δ S=>(f δ S).bind fun v S=>match v with | .d (.bl b)=> .ok b S | _=> .no
def TR(f g:FX):FX:=fun δ S=>(Qb f δ S).bind fun b S=>if b then g δ S else .ok (.d (.bl false)) S
def Vj(f g:FX):FX:=fun δ S=>(Qb f δ S).bind fun b S=>if b then .ok (.d (.bl true)) S else g δ S
def Tt(i:Nat)(F:FZ):FZ:=fun δ S=>match og δ i with
 | some k=>(match c_ S k with | some ds=>F (δ.set i (some (.d (.lst ds)))) (S.set k .kT) | none=> .no)
 | none=> .no
end
def Flat(S:aQ):Prop:=∀o∈S,∀n,vQ n o=true
theorem Flat.nil:Flat []:=fun o ho=>by cases ho
end L3
end
section
namespace PySem
open Sem (wp)
open AutoSeq1 (wpAny_loadPart')
section
variable {prog:Program} {w:World} {A:Around} {E:V7} {s:Shared}
end
end PySem
namespace L2
open PySem PySem.Spec PyProof.Rows
section
variable {X:Cx}
def Mo(f:FD):FD:=fun δ=>(f δ).bind fun d=>match d with
 | .int j=>R.aS (decide (-(2 ^ 62)<=j/\j < 16777216)) (.ok (.tup (pJ 0 j.toNat)))
 | _=> .no
end
end L2
end
section
namespace PySem
open Sem (wp)
open AutoSeq1 (wpAny_loadPart')
section
variable {prog:Program} {w:World} {A:Around} {E:V7} {s:Shared}
end
end PySem
namespace L2
open PySem PySem.Spec PyProof.Rows
def R7(K:W.Frag)(a:Addr):It:=
 ⟨fun i H=>∃xs x,oz K H a xs/\xs[i]? =some x,fun i H v H'=>∃p x,H p=none/\v= .ref p/\(∀xs,oz K H a xs->xs[i]? =some x)/\H'=upd H p (.tup [.int i,x]),fun i H=>∃xs,oz K H a xs/\xs.length<=i⟩
section
variable {X:Cx}
def Mr(f:FD):ao->R (List D):=fun δ=>(f δ).bind fun d=>match d with | .tup ds=> .ok (kL ds) | _=> .no
end
end L2
end
section
namespace L2
open PySem PySem.Spec PyProof.Rows
section
variable {X:Cx}
abbrev Qg:D->D->R D:=DM (fun _ j=>decide (0 < j/\j.natAbs.log2 < 9000)) fun i j=>i / j
def RT(f:ao->R (List D))(g:FD):ao->R (List D):=fun δ=>(f δ).bind fun ds=>(g δ).bind fun d=>match d with
 | .int k=>R.aS (decide (0<=k/\k < 1000000/\ds.length*k.toNat<=sizeLine)) (.ok (List.replicate k.toNat ds).flatten)
 | _=> .no
def A4(ns:List Int):List Int:=ns.mergeSort fun a b=>decide (a<=b)
def Ms:List D->R D
 | [.lst ds]=>(match ints? ds with | some ns=>R.aS (decide (ns.length < 64)) (.ok (.lst ((A4 ns).map .int))) | none=> .no)
 | _=> .no
theorem getD_in{l:List Int}{i:Nat}(h:i < l.length):l.getD i 0∈l:=by
 have e:l.getD i 0=l[i]:=by simp [h]
 rw[e];exact List.getElem_mem h
theorem fold_min:∀(ns:List Int) (n:Int),ns.foldl min n∈n ::ns/\∀a∈n ::ns,ns.foldl min n<=a
 | [],n=>⟨by simp,fun a ha=>by simp at ha;subst ha;exact Int.le_refl _⟩
 | x ::ns,n=>by
   obtain⟨h1,h2⟩:=fold_min ns (min n x);rw[List.foldl_cons];refine⟨?_,fun a ha=>?_⟩
   .rcases List.mem_cons.mp h1 with z | z
    .rw [z];by_cases hc:n<=x
     .rw [Int.min_eq_left hc];simp
     .rw [Int.min_eq_right (by omega)];simp
    .exact List.mem_cons_of_mem _ (List.mem_cons_of_mem _ z)
   .have hm:=h2 _ List.mem_cons_self;rcases List.mem_cons.mp ha with z | z
    .subst z;omega
    .rcases List.mem_cons.mp z with z | z
     .subst z;omega
     .exact h2 a (List.mem_cons_of_mem _ z)
def zo:List D->R D
 | [.lst ds]=>(match ints? ds with | some (n ::ns)=> .ok (.int (ns.foldl min n)) | _=> .no)
 | ds=>CB ds
def Ql:List D->R D
 | [.lst ds]=>(match ints? ds with | some (n ::ns)=> .ok (.int (ns.foldl max n)) | _=> .no)
 | ds=>MW ds
theorem HR(hc:X.calm=true):cI X (.builtin "min") zo:=by
 intro pins s σ H B ds d xs us I hb rx rs hg;unfold zo at hg;split at hg
 .split at hg
  .rename_i es n ns e;cases hg;obtain⟨x,rfl,r⟩:=rs.one;obtain⟨a,ys,rfl,l,r⟩:=Rep.lst.mp r;obtain⟨u,rfl,ru⟩:=vals1 rx;cases ru;obtain⟨its,k,rv,e1,hz⟩:=I.Il l;rw[e_ r e] at rv;obtain⟨ps,rfl,hps⟩:=gI rv;have hl:s.heap.IsList a (intItems ps.toArray):=⟨_,e1,rfl,k,by simp [intItems]⟩
   have hlp:ps.length=ns.length+1:=by have:=congrArg List.length hps;simpa using this
   refine min_intList (I.ok.hd hc) hl (by simp;omega) fun v h' tk hv hk=>?_
   obtain⟨t,rfl⟩:=intItems_at hv;obtain⟨b1,b2⟩:=argBest_lt (numAt ps.toArray) (ps.toArray.size - 1);refine⟨.int _,H,I.kept hk,⟨t,rfl⟩,aM.refl H,Rep.int.mpr ?_⟩;obtain⟨m1,m2⟩:=fold_min ns n;have hge:∀j,j < ps.length->numAt ps.toArray j=(n ::ns).getD j 0:=fun j hj=>by rw[numAt_eq,<-hps]
   have hin:numAt ps.toArray (argBest (fun i j=>decide (numAt ps.toArray i < numAt ps.toArray j)) (ps.toArray.size - 1))∈n ::ns:=by
    rw[hge _ (by simp at b1 ⊢;omega)];exact getD_in (by simp at b1 ⊢;omega)
   have hle:=m2 _ hin;obtain⟨j,hj,ej⟩:=List.getElem_of_mem m1;have hj':j < ns.length+1:=by simpa using hj
   have h3:=b2 j (by simp;omega)
   rw[hge j (by omega)] at h3
   have h4:(n ::ns).getD j 0=ns.foldl min n:=by rw[<-ej,List.getD_eq_getElem?_getD,List.getElem?_eq_getElem hj];rfl
   rw[h4] at h3;congr 1;omega
  .cases hg
 .exact KL hc pins s σ H B _ d xs us I hb rx rs hg
end
end L2
namespace L3
open PySem PySem.Spec PyProof.Rows L2
def LH(S:aQ):V3->Option (List D)
 | .d (.lst ds)=>some ds
 | .loc k=>c_ S k
 | _=>none
section
variable {X:Cx} {cl:Wb}
def SR(fa fb:FX):FX:=fun δ S=>(fa δ S).bind fun a S1=>(fb δ S1).bind fun b S2=>match LH S2 a,LH S2 b with
 | some ds,some es=>R3.aS (decide (ds.length+es.length<=sizeLine)) (.ok (.loc S2.length) (S2++[.lst (ds++es)]))
 | _,_=> .no
def TH(i:Nat):FZ:=fun δ S=>match og δ i with
 | none=> .no
 | some k=>(match c_ S k with | some _=> .ok (.nx δ) (S.set k (.lst [])) | none=> .no)
end
end L3
end
section
namespace L3
open PySem PySem.Spec PyProof.Rows L2
def jN(S:aQ)(c k:Nat):Option (List (Str × V3)):=match S[k]? with | some (.ins c' fs)=>(if c'=c then some fs else none) | _=>none
theorem kh{S:aQ}{c k:Nat}{fs:List (Str × V3)}(h:jN S c k=some fs):S[k]? =some (.ins c fs):=by
 unfold jN at h;split at h
 .rename_i c' Kb e;split at h
  .rename_i hc;cases h;rw [e,hc]
  .cases h
 .cases h
theorem yW{K:W.Frag}{v:V3}:∀{fs:List (Str × V3)} {ys:List (Str × V)},ys.map (·.1)=fs.map (·.1)->aC K ρ H (fs.map (·.2)) (ys.map (·.2))->fs.lookup f=some v->∃x,ys.lookup f=some x/\aX K ρ H v x
 | [],ys,_,_,h=>by simp at h
 | (g,w) ::fs,[],e,_,_=>by simp at e
 | (g,w) ::fs,(g',y) ::ys,e,r,h=>by
   obtain⟨e1,pA⟩:=List.cons.inj e;have e1:g'=g:=e1;subst e1;obtain⟨x,xs,ex,r1,r2⟩:=r.b5;cases ex;rw[List.lookup_cons] at h ⊢;cases hq:f==g' with
   | true=>rw [hq] at h;cases h;exact⟨y,rfl,r1⟩
   | false=>rw [hq] at h;exact yW pA r2 h
theorem vN:∀{fs:List (Str × V3)} {ys:List (Str × V)},ys.map (·.1)=fs.map (·.1)->fs.lookup f=none->ys.lookup f=none
 | [],[],_,_=>rfl
 | [],_ ::_,e,_=>by simp at e
 | _ ::_,[],e,_=>by simp at e
 | (g,w) ::fs,(g',y) ::ys,e,h=>by
   obtain⟨e1,pA⟩:=List.cons.inj e;have e1:g'=g:=e1;subst e1;rw[List.lookup_cons] at h ⊢;cases hq:f==g' with
   | true=>rw [hq] at h;cases h
   | false=>rw [hq] at h;exact vN pA h
def t9(f:Str)(v:V3):List (Str × V3)->List (Str × V3)
 | []=>[(f,v)]
 | (g,x) ::r=>if g=f then(g,v) ::r else(g,x) ::t9 f v r
theorem zm{K:W.Frag}{f:Str}{v:V3}{u:V}(rv:aX K ρ H v u):∀{fs:List (Str × V3)} {ys:List (Str × V)},ys.map (·.1)=fs.map (·.1)->aC K ρ H (fs.map (·.2)) (ys.map (·.2))->
 (jz f u ys).map (·.1)=(t9 f v fs).map (·.1)/\aC K ρ H ((t9 f v fs).map (·.2)) ((jz f u ys).map (·.2))
 | [],[],_,_=>⟨rfl,aC.cons rv aC.nil⟩
 | [],_ ::_,e,_=>by simp at e
 | _ ::_,[],e,_=>by simp at e
 | (g,w) ::fs,(g',y) ::ys,e,r=>by
   obtain⟨e1,pA⟩:=List.cons.inj e;have e1:g'=g:=e1;subst e1;obtain⟨x,xs,ex,r1,r2⟩:=r.b5;cases ex;unfold t9 jz;by_cases hg:g'=f
   .rw [if_pos hg,if_pos hg];exact⟨by rw[List.map_cons,List.map_cons,pA],aC.cons rv r2⟩
   .rw [if_neg hg,if_neg hg];obtain⟨h1,h2⟩:=zm rv pA r2;exact⟨by rw[List.map_cons,List.map_cons,h1],aC.cons r1 h2⟩
section
variable {X:Cx} {cl:Wb}
def eI(c:Nat)(f:Str)(g:FX):FX:=fun δ S=>(g δ S).bind fun v S1=>match v with
 | .loc k=>(match jN S1 c k with | some fs=>(match fs.lookup f with | some v=> .ok v S1 | none=> .no) | none=> .no)
 | _=> .no
theorem cf{c:Nat}{pos:Pos}(hC:uV X.K (cl c))(hn:c8 X.K (cl c) f)(he:PX X cl e g)(hb:attributeBase e f X.env (eval e X.env)=eval e X.env:=by rfl):PX X cl (.Attribute e f pos) (eI c f g):=⟨(Ia he.1 hb).imp fun σ H Q ⟨ρ,S,δ,v,S',E,hf,q⟩=>by
 obtain⟨o,S1,h1,h2⟩:=R3.ah hf;split at h2
 .rename_i k;split at h2
  .rename_i fs e1;split at h2
   .rename_i w pA;cases h2;refine⟨ρ,S,δ, .loc k,_,E,h1,fun u bE H1 p1 w1 r1=>?_⟩
    unfold aX at r1;obtain⟨a,a1,rfl⟩:=r1;obtain⟨dx,ys,ey,ek,rs⟩:=w1.ob k a _ a1 (kh e1);obtain⟨x,hx,rx⟩:=yW ek rs pA;exact⟨a,cl c,dx,ys,x,rfl,ey,hC,hn,hx,q x bE H1 p1 w1 rx⟩
   .cases h2
  .cases h2
 .cases h2⟩
theorem w_fld{c k:Nat}{g:FX}{δ:DE}{S:aQ}{Q:V3->aQ->Prop}(h:W3 (g δ S) fun v S1=>∃fs w,v= .loc k/\S1[k]? =some (.ins c fs)/\fs.lookup f=some w/\Q w S1):W3 (eI c f g δ S) Q:=
 W3.bind (h.mono fun v S1 ⟨fs,w,e1,pA,e3,q⟩=>by
  subst e1;have e4:jN S1 c k=some fs:=by unfold jN;simp only[pA,if_true]
  simp only[e4,e3];exact W3.ok q)
def Q7(P:Program)(w:World)(K:W.Frag)(mg:Wa)(base:Heap)(cl:Wb)(k c:Nat)(m:Str)(n:Nat)(g:List V3->aQ->R3 V3):Prop:=
 ∃(f:Addr) (fd:FuncData) (ps:List Str),uV K (cl c)/\Meth K (cl c) m f/\gQ P w K mg base r_ k f fd ps (Gi K cl (n+1) g)/\Binds K fd ps []
def nL(c:Nat)(m:Str)(g:List V3->aQ->R3 V3)(fo:FX)(fs:FA):FX:=fun δ S=>(fo δ S).bind fun o S1=>match o with
 | .loc k=>(match jN S1 c k with | some ys=>(match ys.lookup m with | none=>(fs δ S1).bind fun vs S2=>g (.loc k ::vs) S2 | some _=> .no) | none=> .no)
 | _=> .no
def A_(P:Program)(w:World)(K:W.Frag)(mg:Wa)(base:Heap)(cl:Wb)(k c:Nat)(x:Str)(n:Nat)(g:List V3->aQ->R3 V3):Prop:=
 ∃(f:Addr) (fd:FuncData) (ps:List Str),Mk K (cl c) f/\gQ P w K mg base r_ k f fd ps (Gi K cl (n+1) g)/\mg x=some (.ref (cl c))/\Binds K fd ps []
def Cr(c:Nat)(g:List V3->aQ->R3 V3)(fs:FA):FX:=fun δ S=>(fs δ S).bind fun vs S1=>(g (.loc S1.length ::vs) (S1++[.ins c []])).bind fun v S2=>match v with
 | .d .cH=> .ok (.loc S1.length) S2
 | _=> .no
def tP(c:Nat)(f:Str)(fo fe:FX):FZ:=fun δ S=>(fe δ S).bind fun v S1=>(fo δ S1).bind fun o S2=>match o with
 | .loc k=>(match jN S2 c k with | some fs=>R3.aS (decide (fs.length < 1000)) (.ok (.nx δ) (S2.set k (.ins c (t9 f v fs)))) | none=> .no)
 | _=> .no
theorem oC{c:Nat}{pos pos':Pos}(hC:uV X.K (cl c))(hn:c8 X.K (cl c) f)(ho:PX X cl o fo)(he:PX X cl value fe)(hs:swapsWith value (some (.Attribute o f pos')) pos.line X.env=pure false:=by rfl) :
 PZ X cl (.Assign [.Attribute o f pos'] value pos) (tP c f fo fe):=⟨(JB ho.1 he.1 hs).imp fun D σ H ⟨ρ,S,δ,ou,S',E,hf,q⟩=>by
 obtain⟨v,S1,h1,h2⟩:=R3.ah hf;obtain⟨vo,S2,h3,h4⟩:=R3.ah h2;split at h4
 .rename_i k;split at h4
  .rename_i fs e1;obtain⟨hl,h5⟩:=R3.aO h4;cases h5;refine⟨ρ,S,δ,v,S1,E,h1,fun u bE H1 p1 w1 r1=>⟨bE,S1,δ, .loc k,S2,E.to p1 w1,h3,fun u2 oq H2 p2 w2 r2=>?_⟩⟩
   unfold aX at r2;obtain⟨a,a1,rfl⟩:=r2;obtain⟨dx,ys,ey,ek,rs⟩:=w2.ob k a _ a1 (kh e1);have hlen:ys.length=fs.length:=by have:=congrArg List.length ek;simpa using this
   obtain⟨k1,k2⟩:=zm (f:=f) (r1.pre p2) ek rs;obtain⟨w3,p3⟩:=w2.put (o:= .ins c (t9 f v fs)) (u:= .ins (cl c) dx (jz f u ys)) a1 (w2.fz k a a1 (by rw[kh e1];intro h;cases h)) ⟨dx,_,rfl,k1,k2⟩
   exact⟨a,cl c,dx,ys,rfl,ey,hC,hn,by rw[hlen];exact of_decide_eq_true hl,q σ oq _ (p1.trans (p2.trans p3)) (E.to (p1.trans (p2.trans p3)) w3)⟩
  .cases h4
 .cases h4⟩
theorem jQ{c k:Nat}{fo fe:FX}{δ:DE}{S:aQ}{QO:Ou->aQ->Prop}(h:W3 (fe δ S) fun v S1=>W3 (fo δ S1) fun o S2=>∃fs,o= .loc k/\S2[k]? =some (.ins c fs)/\fs.length < 1000/\QO (.nx δ) (S2.set k (.ins c (t9 f v fs)))):W3 (tP c f fo fe δ S) QO:=
 W3.bind (h.mono fun v S1 h=>W3.bind (h.mono fun o S2 ⟨fs,e1,pA,hl,q⟩=>by
  subst e1;have e4:jN S2 c k=some fs:=by unfold jN;simp only[pA,if_true]
  simp only[e4];exact W3.wh (decide_eq_true hl) (W3.ok q)))
theorem JD{c:Nat}{g:List V3->aQ->R3 V3}{fs:FA}{δ:DE}{S:aQ}{Q:V3->aQ->Prop}(h:W3 (fs δ S) fun vs S1=>W3 (g (.loc S1.length ::vs) (S1++[.ins c []])) fun v S2=>v= .d .cH/\Q (.loc S1.length) S2):W3 (Cr c g fs δ S) Q:=
 W3.bind (h.mono fun vs S1 h=>W3.bind (h.mono fun v S2 ⟨e,q⟩=>by subst e;exact W3.ok q))
end
end L3
end
section
namespace PySem
open Sem (wp)
def R1(t:Bool)(h:Heap)(i l:Addr)(k:Nat):Prop:=cond t (h.IsTupleIter i l k) (h.IsListIter i l k)
def RZ(t:Bool)(h:Heap)(l:Addr)(xs:Array Value):Prop:=cond t (h.IsTuple l xs) (h.IsList l xs)
def Cq(t:Bool):String:=cond t "tuple_iterator" "list_iterator"
section
variable {prog:Program} {w:World} {A:Around} {E:V7} {s:Shared}
end
abbrev Qm(t:Bool)(h:Heap)(l1:Addr):Heap:=h.push {cls:= .type (Cq t),data:= .fields #[.ref l1, .int 0 0]}
abbrev Q3(t u:Bool)(h:Heap)(l1 l2:Addr):Heap:=(Qm t h l1).push {cls:= .type (Cq u),data:= .fields #[.ref l2, .int 0 0]}
abbrev Qy(t u:Bool)(h:Heap)(l1 l2:Addr):Heap:=(Q3 t u h l1 l2).push {cls:= .type "tuple",data:= .seq #[.ref h.objs.size, .ref (Qm t h l1).objs.size]}
abbrev R8(t u:Bool)(h:Heap)(l1 l2:Addr):Heap:=(Qy t u h l1 l2).push {cls:= .type "tuple",data:= .seq #[.none, .none]}
abbrev Vx(t u:Bool)(h:Heap)(l1 l2:Addr):Heap:=(R8 t u h l1 l2).push {cls:= .type "zip",data:= .fields #[.none, .bool false, .bool false, .ref (Q3 t u h l1 l2).objs.size, .ref (Qy t u h l1 l2).objs.size]}
end PySem
namespace L2
open PySem PySem.Spec PyProof.Rows
def J4(t:Bool)(K:W.Frag)(H:Hp)(a:Addr)(xs:List V):Prop:=cond t (oz K H a xs) (me K H a xs)
def VJ(K:W.Frag)(t u:Bool)(a b:Addr):It:=
 ⟨fun i H=>∃xs ys x y,J4 t K H a xs/\J4 u K H b ys/\xs[i]? =some x/\ys[i]? =some y,
  fun i H v H'=>∃p x y,H p=none/\v= .ref p/\(∀xs,J4 t K H a xs->xs[i]? =some x)/\(∀ys,J4 u K H b ys->ys[i]? =some y)/\H'=upd H p (.tup [x,y]),
  fun i H=>∃xs ys,J4 t K H a xs/\J4 u K H b ys/\(xs.length<=i\/ys.length<=i)⟩
section
variable {X:Cx}
def Kv(ds es:List D):List D:=(ds.zip es).map fun p=> .tup [p.1,p.2]
def seqD?:D->Option (List D)
 | .lst ds=>some ds
 | .tup ds=>some ds
 | _=>none
def Qr(f g:FD):ao->R (List D):=fun δ=>(f δ).bind fun d=>(g δ).bind fun e=>match seqD? d,seqD? e with | some ds,some es=> .ok (Kv ds es) | _,_=> .no
def QZ(T U:String)(f:FD):FD:=fun δ=>(f δ).bind fun d=>match d with | .dct _ _=> .no | _=> .ok (.bl (Ig (tyName d) T || Ig (tyName d) U))
def Vy(lo:Int)(n:Nat):It:=⟨fun i _=>i < n,fun i H x H'=>H'=H/\x= .int (lo - i),fun i _=>n<=i⟩
def M7(lo:Int)(n:Nat):List D:=(List.range n).map fun(i:Nat)=>D.int (lo - i)
def QC(f g h:FD):ao->R (List D):=fun δ=>(f δ).bind fun d=>(g δ).bind fun e=>(h δ).bind fun k=>match d,e,k with
 | .int i, .int j, .int m=>R.aS (decide (m= -1/\ -(2 ^ 60)<=i/\i < 2 ^ 60/\ -(2 ^ 60)<=j/\j < 2 ^ 60)) (.ok (M7 i (i - j).toNat)) | _,_,_=> .no
def bls?:List D->Option (List Bool)
 | []=>some []
 | .bl b ::ds=>(bls? ds).map (b ::·)
 | _ ::_=>none
theorem u9{K:W.Frag}{B:List Addr}:∀{ds:List D} {xs:List V} {bs:List Bool},aD K B H ds xs->bls? ds=some bs->xs=bs.map V.bl
 | [],xs,bs,r,h=>by unfold aD at r;subst r;cases h;rfl
 | d ::ds,xs,bs,r,h=>by
   obtain⟨x,q,rfl,r1,r2⟩:=r.b5;cases d with
   | bl b=>
     have h:(bls? ds).map (b ::·)=some bs:=h
     cases e:bls? ds with
     | none=>rw [e] at h;cases h
     | some cs=>
       rw[e] at h;cases h;rw[Rep.bl.mp r1,u9 r2 e];rfl
   | _=>cases h
theorem yO:∀bs:List Bool,bls? (bs.map D.bl)=some bs
 | []=>rfl
 | b ::bs=>by show(bls? (bs.map D.bl)).map (b ::·)=_;rw [yO bs];rfl
theorem qV:∀{bs:List Bool} {us:List Value},Vals (bs.map V.bl) us->us=bs.map Value.bool
 | [],us,h=>by cases h;rfl
 | b ::bs,us,h=>by
   cases h with
   | cons r t=>rw [qV t,show _=Value.bool b from r];rfl
theorem range_all(bs:List Bool):(List.range bs.length).all (fun i=>bs.getD i false)=bs.all id:=by
 rw[Bool.eq_iff_iff];simp only[List.all_eq_true,List.mem_range,id];constructor
 .intro h b hb;obtain⟨i,hi,rfl⟩:=List.getElem_of_mem hb;have:=h i hi;rw[List.getD_eq_getElem?_getD,List.getElem?_eq_getElem hi] at this;exact this
 .intro h i hi;rw[List.getD_eq_getElem?_getD,List.getElem?_eq_getElem hi];exact h _ (List.getElem_mem hi)
def Ce:List D->R D
 | [.lst ds]=>(match bls? ds with | some bs=> .ok (.bl (bs.all id)) | none=> .no)
 | _=> .no
def Sr:List D->R D
 | [.lst ds]=>(match bls? ds with | some bs=> .ok (.bl (bs.any id)) | none=> .no)
 | _=> .no
theorem Li{bs:List Bool}{i:Nat}{v:Value}(h:((bs.map Value.bool).toArray)[i]? =some v):v= .bool (bs.getD i false):=by
 rw[List.getElem?_toArray,List.getElem?_map] at h;rw[List.getD_eq_getElem?_getD];cases e:bs[i]? with
 | none=>rw [e] at h;cases h
 | some b=>rw [e] at h;cases h;rfl
theorem GS(hc:X.calm=true):cI X (.builtin "all") Ce:=by
 intro pins s σ H B ds d xs us I hb rx rs hg;unfold Ce at hg;split at hg
 .split at hg
  .rename_i es bs e;cases hg;obtain⟨x,rfl,r⟩:=rs.one;obtain⟨a,ys,rfl,l,r⟩:=Rep.lst.mp r;obtain⟨u,rfl,ru⟩:=vals1 rx;cases ru;obtain⟨its,n,rv,e1,hz⟩:=I.Il l;rw[u9 r e] at rv;obtain rfl:=qV rv;have hl:s.heap.IsList a (bs.map Value.bool).toArray:=⟨_,e1,rfl,n,rfl⟩;have hlt:a < s.heap.objs.size:=Heap.lt_size e1;refine call_all_walk (wpAny_pyIter_list hl ?_);refine⟨_,_,_,_,_,_,fun i=>bs.getD i false,rfl,Walks.list (A:=X.A.in1) (I.ok.hd hc) _ a (Nat.ne_of_lt hlt) _,⟨⟨_,Heap.get?_push_size _ rfl,rfl,rfl⟩,hl.push _⟩,?_,fun h' tk hk=>?_⟩
   .intro i v s Q E hP hQ;rw[Li hP];exact wpAny_truthy_bool hQ
   .refine⟨.bl (bs.all id),H,I.kept (old_kept hk),?_,aM.refl H,Rep.bl.mpr rfl⟩;show Value.bool _=Value.bool _;rw[<-range_all];simp
  .cases hg
 .cases hg
end
end L2
end
section
namespace L2
open PySem PySem.Spec PyProof.Rows
section
variable {X:Cx}
def Vm:FS:=fun _=> .no
def Qc(f:FD):FS:=fun δ=>(f δ).bind fun _=> .ok (.nx δ)
end
end L2
namespace L3
open PySem PySem.Spec PyProof.Rows L2
section
variable {X:Cx} {cl:Wb}
def VC:FZ:=fun _ _=> .no
def Qa(f:ao->R (List D)):FX:=fun δ S=>(R3.of (f (CI S δ)) S).bind fun ds S=>R3.aS (u7 ds) (.ok (.loc S.length) (S++[.lst ds]))
def Tu(i:Nat)(f:FX):FZ:=fun δ S=>match og δ i with
 | none=> .no
 | some k=>match c_ S k with
   | none=> .no
   | some _=>(f δ S).bind fun v S1=>match v with
     | .d (.lst es)=>(match c_ S1 k with
       | some ds=>R3.aS (decide (ds.length+es.length<=sizeLine)) (.ok (.nx δ) (S1.set k (.lst (ds++es))))
       | none=> .no)
     | _=> .no
end
end L3
end
section
namespace L2
open PySem PySem.Spec PyProof.Rows
section
variable {X:Cx}
def Q8(d e:D):R D:=match d,e with
 | .tup a, .tup b=>R.aS (decide (a.length+b.length<=sizeLine)) (.ok (.tup (a++b)))
 | d,e=>cj d e
def Mp(f:FD):ao->R (List D):=fun δ=>(f δ).bind fun d=>match d with | .lst ds=> .ok (kL ds) | .tup ds=> .ok (kL ds) | _=> .no
def VB(K:W.Frag)(a:Addr)(n:Nat):It:=
 ⟨fun i H=>∃xs x,me K H a xs/\xs.length=n/\i < n/\xs[n - 1 - i]? =some x,fun i H v H'=>H'=H/\∀xs,me K H a xs->xs[n - 1 - i]? =some v,fun i H=>(∃xs,me K H a xs)/\i=n⟩
def QG(f:FD):ao->R (List D):=fun δ=>(f δ).bind fun d=>match d with | .lst ds=> .ok ds.reverse | _=> .no
def pN(K:W.Frag)(C:Addr)(m qual:Str)(st:Stmt):Prop:=∃f fd,xy K m qual st f fd/\Meth K C m f
def HL(K:W.Frag)(C:Addr)(m qual:Str)(st:Stmt):Prop:=∃f fd,xy K m qual st f fd/\Mk K C f
end
end L2
namespace L3
open PySem PySem.Spec PyProof.Rows L2
section
variable {X:Cx} {cl:Wb}
end
end L3
end
section
namespace L2
open PySem PySem.Spec PyProof.Rows
section
variable {X:Cx}
def Td(f:FD):ao->R (List D):=fun δ=>(f δ).bind fun d=>match d with | .int j=>R.aS (decide (-(2 ^ 62)<=j/\j < 16777216)) (.ok (pJ 0 j.toNat)) | _=> .no
def Tf(f:FD):FD:=fun δ=>(f δ).bind fun d=>match d with | .lst ds=> .ok (.lst ds.reverse) | _=> .no
end
end L2
end
section
namespace L2
open PySem PySem.Spec PyProof.Rows
section
variable {X:Cx}
def R9(K:W.Frag)(n:Nat)(t:AV):TG:=fun v σ H Q=>∃a xs,v= .ref a/\me K H a xs/\xs.length=n/\t xs σ H Q
end
end L2
namespace L3
open PySem PySem.Spec PyProof.Rows L2
section
variable {X:Cx} {cl:Wb}
def VI(n:Nat)(t:DR):FG:=fun d δ=>match d with
 | .d (.lst ds)=>if ds.length=n then t (ds.map .d) δ else none
 | .lst vs=>if vs.length=n then t vs δ else none
 | _=>none
def SQ(f g:FX):FA:=fun δ S=>(bu f (bu g dE) δ S).bind fun vs S1=>match vs with
 | [.d d, .d e]=>(match seqD? d,seqD? e with | some ds,some es=> .ok ((Kv ds es).map .d) S1 | _,_=> .no)
 | _=> .no
def MA(S:aQ):Prop:=∀o∈S,vQ S.length o=true
theorem Flat.SI{S:aQ}(h:Flat S):MA S:=fun o ho=>h o ho _
theorem KA{N:List Str}{vs:List V3}{S:aQ}{QV:V3->aQ->Prop}(h:W3 (sg N F vs S) fun v S1=>(∀o∈S1.take S.length,vQ S.length o=true)/\kY S.length v=true/\∃d,res S1 v=some d/\QV (.d d) (S1.take S.length)):W3 (yd N F vs S) QV:=
 W3.bind (h.mono fun v S1 ⟨hl,hg,d,e,q⟩=>by
  rw[e];exact W3.wh (by rw[List.all_eq_true.mpr hl,hg];rfl) (W3.ok q))
theorem Kl{N:List Str}{vs:List V3}{S:aQ}{QV:V3->aQ->Prop}(hS:MA S)(h:W3 (sg N F vs S) fun v S1=>kY S.length v=true/\(∃T,S1=S++T)/\∃d,res S1 v=some d/\QV (.d d) S):W3 (yd N F vs S) QV:=
 KA (h.mono fun v S1 ⟨hg,⟨T,e1⟩,d,e,q⟩=>by
  subst e1;rw[List.take_append_of_le_length (Nat.le_refl _),List.take_length];exact⟨hS,hg,d,e,q⟩)
end
end L3
end
section
namespace L2
open PySem PySem.Spec PyProof.Rows
section
variable {X:Cx}
def ois?:List D->Option (List (Option Int))
 | []=>some []
 | .int i ::ds=>(ois? ds).map (some i ::·)
 | .cH ::ds=>(ois? ds).map (none ::·)
 | _ ::_=>none
def VN:Option Int->V | some i=> .int i | none=> .cH
def RL(d e:D):R Bool:=match d,e with
 | .cH, .lst ds=>(match ois? ds with | some ss=> .ok (ss.any (·.isNone)) | none=> .no)
 | _,_=> .no
def Sa(d e:D):R D:=(RL d e).bind fun b=> .ok (.bl b)
end
end L2
end
section
namespace L2
open PySem PySem.Spec PyProof.Rows
section
variable {X:Cx}
def NM(d:D)(ds:List D):R D:=match d,ds with
 | .lst es,[.int k]=>(match ints? es with | some ss=> .ok (.int (ss.count k:Nat)) | none=> .no)
 | _,_=> .no
end
end L2
end
section
namespace L2
open PySem PySem.Spec PyProof.Rows
section
variable {X:Cx}
abbrev RH:D->D->R D:=DM (fun i j=>decide (0<=j/\j < 1000/\ -1000 < i/\i < 1000)) fun i j=>i*2 ^ j.toNat
def QS(d e:D):R D:=match d,e with | .bl a, .bl b=> .ok (.bl (a !=b)) | _,_=> .no
end
end L2
namespace L3
open PySem PySem.Spec PyProof.Rows L2
section
variable {X:Cx} {cl:Wb}
def kG(fo f:FX):FZ:=fun δ S=>(fo δ S).bind fun o S0=>match o with
 | .loc k=>(match c_ S0 k with
   | none=> .no
   | some _=>(f δ S0).bind fun v S1=>match v with
     | .d d=>(match c_ S1 k with | some ds=>R3.aS (decide (ds.length < sizeLine)) (.ok (.nx δ) (S1.set k (.lst (ds++[d])))) | none=> .no)
     | _=> .no)
 | _=> .no
theorem Ez{o e:Expr}{fo f:FX}{apos bg pos:Pos}(ho:PX X cl o fo)(he:PX X cl e f)
 (hs:starEach [e] X.env=(false,eval e X.env) ::starEach [] X.env:=by rfl) (fS:(apos.endLine==bg.line)=true:=by rfl)
 (kz:((backTo bg (starEach [e] X.env)).all (fun x=>!x.1) && (backToKw bg (keywordEach [] X.env)).all (fun x=>x.1.isSome)
   && decide (([e]:List Expr).length+([]:List Keyword).length+(if([]:List Keyword).isEmpty then 0 else 1) < 30))=true:=by rfl)
 (rO:swapsWith (.Call (.Attribute o "append" apos) [e] [] bg) none pos.line X.env=pure false:=by rfl)
 (fU:attributeBase o "append" X.env (eval o X.env)=eval o X.env:=by rfl) :
 PZ X cl (.Expr (.Call (.Attribute o "append" apos) [e] [] bg) pos) (kG fo f):=by
 refine⟨(pW (zg (X:=X) PySem.F.plainAttrs_list PySem.F.slot_list_append PySem.F.type_list_append mi ho.1 (ik he.1 kl hs) fU kz fS hs) rO).imp fun D σ H ⟨ρ,S,δ,oo,S',E,hf,q⟩=>?_⟩
 unfold kG at hf;obtain⟨vo,S0,g1,g2⟩:=R3.ah hf;split at g2
 .rename_i k;split at g2
  .cases g2
  .rename_i Dx h0;obtain⟨v,S1,h1,h2⟩:=R3.ah g2;split at h2
   .rename_i d;split at h2
    .rename_i ds h3;obtain⟨hl,h4⟩:=R3.aO h2;cases h4;refine⟨ρ,S,δ, .loc k,S0,E,g1,fun u OE H0 p0 w0 r0=>?_⟩
     unfold aX at r0;obtain⟨a,a1,rfl⟩:=r0;obtain⟨OJ,x0,_⟩:=w0.ob k a _ a1 (f_ h0);refine⟨.inl ⟨rfl,OJ,me.of x0⟩,⟨OE,S0,δ, .d d,S1,E.to p0 w0,h1,fun y bE H1 p1 w1 r1=>?_⟩⟩
     have b1:=p1.ext k a a1;obtain⟨xs,x1,x2⟩:=w1.ob k a _ b1 (f_ h3);refine⟨a,xs,y,rfl,rfl,x1,by rw[<-x2.length];exact of_decide_eq_true hl,?_⟩
     unfold aX at r1;obtain⟨w2,p2⟩:=w1.put (o:= .lst (ds++[d])) (u:= .lst (xs++[y])) b1 (w1.fz k a b1 (by rw[f_ h3];intro h;cases h)) ⟨xs++[y],rfl,x2.append (aD.cons r1 aD.nil)⟩
     exact q σ bE _ (p0.trans (p1.trans p2)) (E.to (p0.trans (p1.trans p2)) w2)
    .cases h2
   .cases h2
 .cases g2
theorem HV{fo f:FX}{δ:DE}{S:aQ}{k:Nat}{QO:Ou->aQ->Prop}(h:W3 (fo δ S) fun o S0=>o= .loc k/\(∃ds,S0[k]? =some (.lst ds))/\W3 (f δ S0) fun v S1=>∃d ds,v= .d d/\S1[k]? =some (.lst ds)/\ds.length < sizeLine/\QO (.nx δ) (S1.set k (.lst (ds++[d])))):W3 (kG fo f δ S) QO:=by
 unfold kG;refine W3.bind (h.mono fun o S0 ⟨e,⟨Dx,h0⟩,h⟩=>?_)
 subst e;have e0:c_ S0 k=some Dx:=by unfold c_;rw [h0]
 simp only[e0];refine W3.bind (h.mono fun v S1 ⟨d,ds,e1,pA,hl,q⟩=>?_)
 subst e1;have e3:c_ S1 k=some ds:=by unfold c_;rw [pA]
 simp only[e3];exact W3.wh (decide_eq_true hl) (W3.ok q)
def Qw(f:FX):FA:=fun δ S=>(bu f dE δ S).bind fun vs S1=>match vs with
 | [.d (.lst ds)]=> .ok ((kL ds).map .d) S1
 | _=> .no
end
end L3
end
section
namespace L2
open PySem PySem.Spec PyProof.Rows
section
variable {X:Cx}
end
end L2
end
section
namespace L3
open PySem PySem.Spec PyProof.Rows L2
section
variable {cl:Wb}
def Nl(it:FA)(t:FG)(c:FB)(f:FX)(own:List Str)(kp:List Nat):FX:=fun δ S=>(it δ S).bind fun vs S1=>R3.aS (decide (vs.length<=sizeLine)) ((jY t c f (k8 own kp δ) vs S1).bind fun ys S2=>match oJ ys with | some ds=> .ok (.loc S2.length) (S2++[.lst ds]) | none=> .no)
end
section
variable {X:Cx} {cl:Wb}
end
end L3
end
section
namespace L3
open PySem PySem.Spec PyProof.Rows L2
section
variable {X:Cx} {cl:Wb}
def NB(g:List D->R D)(fs:FA):FX:=fun δ S=>(fs δ S).bind fun vs S1=>match u6 S1 vs with
 | some ds=>(R3.of (g ds) S1).bind fun d S=>R3.aS (xG d) (.ok (.d d) S)
 | none=> .no
end
end L3
end
section
namespace L2
open PySem PySem.Spec PyProof.Rows
section
variable {X:Cx}
def RX(f:FD):FD:=fun δ=>(f δ).bind fun d=>match d with | .int i=> .ok (.int (-i - 1)) | _=> .no
def T6(d:D)(lo hi:Option Int):R D:=match d with
 | .tup ds=>R.aS (decide (¬(HT.pK ds.length 0 lo=0/\HT.pK ds.length ds.length hi=ds.length))) (.ok (.tup (cutD ds lo hi)))
 | _=> .no
def RI(f:FD)(fl fh:FO):FD:=fun δ=>(f δ).bind fun d=>(fl δ).bind fun lo=>(fh δ).bind fun hi=>T6 d lo hi
end
end L2
namespace L3
open PySem PySem.Spec PyProof.Rows L2
section
variable {X:Cx} {cl:Wb}
structure Vq (X:Cx) (cl:Wb) (st:List Stmt) (F:FZ):Prop where
 go:sQ X st (fun D σ H=>D.ct=D.nx/\sX X.K cl F D σ H)
end
end L3
end
section
namespace L2
open PySem PySem.Spec PyProof.Rows
end L2
namespace L3
open PySem PySem.Spec PyProof.Rows L2
section
variable {X:Cx} {cl:Wb}
def T5(i:Nat)(f:FX):FX:=fun δ S=>match og δ i with
 | none=> .no
 | some k=>match c_ S k with
   | none=> .no
   | some _=>(f δ S).bind fun v S1=>match v with
     | .d (.int j)=>(match c_ S1 k with
       | some ds=>(match CY ds.length j with
         | some p=>(match ds[p]? with | some d=>R3.aS (decide (-(2 ^ 63)<=j/\j < 2 ^ 63)) (.ok (.d d) (S1.set k (.lst (ds.eraseIdx p)))) | none=> .no)
         | none=> .no)
       | none=> .no)
     | _=> .no
end
end L3
end
section
namespace L3
open PySem PySem.Spec PyProof.Rows L2
section
variable {X:Cx} {cl:Wb}
def Sg(f:FX)(fl fh:J1):FX:=fun δ S=>(f δ S).bind fun v S1=>(fl δ S1).bind fun lo S2=>(fh δ S2).bind fun hi S3=>match v with
 | .lst vs=> .ok (.lst (L2.cutD vs lo hi)) S3
 | _=> .no
end
end L3
end
section
namespace L2
open PySem PySem.Spec PyProof.Rows
section
variable {X:Cx}
def NN:List V->Hp->VK->Prop:=fun xs H Q=>∃a aA ns,xs=[V.ref a]/\H a=some (.dK aA)/\aA.map (·.1)=ns.map Sum.inl/\ns.length < 64/\∀p,H p=none->Q (.ref p) (upd H p (.lst ((A4 ns).map V.int)))
end
end L2
end
section
namespace L3
open PySem PySem.Spec PyProof.Rows L2
section
variable {X:Cx} {cl:Wb}
def mV(aA:List (Key × D))(k:Key)(d:D):List (Key × D):=if(aA.any fun kv=>decide (kv.1=k))=true then aA.map (fun kv=>if kv.1=k then(kv.1,d) else kv) else aA++[(k,d)]
def oj(S:aQ)(k:Nat):Option (List (Key × D)):=match S[k]? with | some (.dct aA)=>some aA | _=>none
theorem qK{S:aQ}{k:Nat}{aA:List (Key × D)}(h:oj S k=some aA):S[k]? =some (.dct aA):=by
 unfold oj at h;split at h
 .rename_i e;cases h;exact e
 .cases h
theorem yB{α β:Type}(k:Key):∀{a:List (Key × α)} {b:List (Key × β)},a.map (·.1)=b.map (·.1)->(a.any fun kv=>decide (kv.1=k))=b.any fun kv=>decide (kv.1=k)
 | [],[],_=>rfl
 | [],_ ::_,h=>by simp at h
 | _ ::_,[],h=>by simp at h
 | x ::a,y ::b,h=>by
   rw[List.map_cons,List.map_cons] at h;obtain⟨h1,h2⟩:=List.cons.inj h;rw[List.any_cons,List.any_cons,yB k h2,h1]
theorem yS{K:W.Frag}{B:List Addr}{k:Key}{d:D}{v:V}(rv:Rep K B H d v):∀{aA:List (Key × D)} {ys:List (Key × V)},ys.map (·.1)=aA.map (·.1)->aD K B H (aA.map (·.2)) (ys.map (·.2))->
 (ys.map fun kv=>if kv.1=k then(kv.1,v) else kv).map (·.1)=(aA.map fun kv=>if kv.1=k then(kv.1,d) else kv).map (·.1)/\aD K B H ((aA.map fun kv=>if kv.1=k then(kv.1,d) else kv).map (·.2)) ((ys.map fun kv=>if kv.1=k then(kv.1,v) else kv).map (·.2))
 | [],[],_,_=>⟨rfl,aD.nil⟩
 | [],_ ::_,h,_=>by simp at h
 | _ ::_,[],h,_=>by simp at h
 | (k1,d1) ::aA,(k2,v2) ::ys,h,r=>by
   obtain⟨h1,h2⟩:=List.cons.inj h;have h1:k2=k1:=h1;subst h1;obtain⟨x,r',e,q1,q2⟩:=aD.b5 r;cases e;obtain⟨i1,i2⟩:=yS rv h2 q2;simp only[List.map_cons];by_cases hk:k2=k
   .rw [if_pos hk,if_pos hk];exact⟨by rw[i1],aD.cons rv i2⟩
   .rw [if_neg hk,if_neg hk];exact⟨by rw[i1],aD.cons q1 i2⟩
theorem LD{K:W.Frag}{B:List Addr}{k:Key}{d:D}{v:V}(rv:Rep K B H d v){aA:List (Key × D)}{ys:List (Key × V)}(h:ys.map (·.1)=aA.map (·.1))(r:aD K B H (aA.map (·.2)) (ys.map (·.2))) :
 (putK ys k v).map (·.1)=(mV aA k d).map (·.1)/\aD K B H ((mV aA k d).map (·.2)) ((putK ys k v).map (·.2)):=by
 unfold putK mV;rw[yB k h];split
 .exact yS rv h r
 .rw [List.map_append,List.map_append,List.map_append,List.map_append,h];exact⟨rfl,r.append (aD.cons rv aD.nil)⟩
def vP:FX:=fun δ S=> .ok (.loc S.length) (S++[.dct []])
theorem tE:PX X cl (.Dict [] [] pos) vP:=⟨CQ.imp fun σ H Q ⟨ρ,S,δ,v,S',E,hf,q⟩=>by
 cases hf;intro p hp;obtain⟨w,pr⟩:=E.sw.new (a:=p) (o:= .dct []) (br (o:= .dK []) hp) hp ⟨[],aY,rfl,aD.nil⟩;exact q _ _ _ pr w (by unfold aX;exact⟨p,by show(ρ.r++[p])[_]? =_;rw [<-E.sw.len,List.getElem?_append_right (by omega),Nat.sub_self];rfl,rfl⟩)⟩
def QU(fo fi fe:FX):FZ:=fun δ S=>(fe δ S).bind fun v S1=>(fo δ S1).bind fun o S2=>(fi δ S2).bind fun j S3=>match v,o,j with
 | .d d, .loc k, .d (.int n)=>(match oj S3 k with | some aA=>R3.aS (decide (aA.length < sizeLine)) (.ok (.nx δ) (S3.set k (.dct (mV aA (Sum.inl n) d)))) | none=> .no)
 | _,_,_=> .no
def Sn(fa fo:FX):FX:=fun δ S=>(fa δ S).bind fun j S1=>(fo δ S1).bind fun o S2=>match j,o with
 | .d (.int n), .loc k=>(match oj S2 k with | some aA=> .ok (.d (.bl (aA.any fun kv=>decide (kv.1=Sum.inl n)))) S2 | none=> .no)
 | _,_=> .no
def intK?:List Key->Option (List Int)
 | []=>some []
 | .inl n ::ks=>(intK? ks).map (n ::·)
 | .inr _ ::_=>none
def N3(f:FX):FX:=fun δ S=>(f δ S).bind fun o S1=>match o with
 | .loc k=>(match oj S1 k with
   | some aA=>(match intK? (aA.map (·.1)) with | some ns=>R3.aS (decide (ns.length < 64)) (.ok (.d (.lst ((A4 ns).map .int))) S1) | none=> .no)
   | none=> .no)
 | _=> .no
theorem xC{δ:DE}{S:aQ}{QV:V3->aQ->Prop}(h:QV (.loc S.length) (S++[.dct []])):W3 (vP δ S) QV:=W3.ok h
end
end L3
end
section
namespace L2
open PySem PySem.Spec PyProof.Rows
section
variable {X:Cx}
def Mz:V->List V->Hp->VK->Prop:=fun x vs H Q=>∃(l:Addr) (xs:List V) (j:Int) (i:Nat) (y:V),x= .ref l/\vs=[.int j,y]/\H l=some (.lst xs)/\j=i/\i<=xs.length/\xs.length < sizeLine/\Q .cH (upd H l (.lst (xs.take i++y ::xs.drop i)))
end
end L2
namespace L3
open PySem PySem.Spec PyProof.Rows L2
section
variable {X:Cx} {cl:Wb}
def TK(i:Nat)(f g:FX):FZ:=fun δ S=>match og δ i with
 | none=> .no
 | some k=>match c_ S k with
   | none=> .no
   | some _=>(f δ S).bind fun v S1=>match v with
     | .d (.int j)=>(g δ S1).bind fun w S2=>(match w with
       | .d d=>(match c_ S2 k with
         | some ds=>R3.aS (decide (0<=j/\j.toNat<=ds.length/\ds.length < sizeLine)) (.ok (.nx δ) (S2.set k (.lst (ds.take j.toNat++d ::ds.drop j.toNat))))
         | none=> .no)
       | _=> .no)
     | _=> .no
end
end L3
end
section
namespace L3
open PySem PySem.Spec PyProof.Rows L2
section
variable {X:Cx} {cl:Wb}
structure Vs (X:Cx) (pos:Pos) (keys:List (Option Expr)) (values:List Expr) (ks:List Str) (g:ao->R (List D)):Prop where
 h:∃sL,G7 X pos keys values sL/\∀(σ:L2.St) (H:Hp) (Q:List (V × V)->Hp->Prop),(∃Z B δ ds,dr X.K Z B H σ δ/\g δ= .ok ds/\∀vs H',aM H H'->aD X.K B H' ds vs->Q ((ks.zip vs).map fun p=>(V.str p.1,p.2)) H')->oQ sL σ H Q
def JE(ks:List Str)(ns:List Int):List (Key × D):=(ks.zip ns).foldl (fun acc p=>mV acc (Sum.inr p.1) (.int p.2)) []
def Oc(ks:List Str)(g:ao->R (List D)):FX:=fun δ S=>(R3.of (g (down δ)) S).bind fun ds S=>match ints? ds with
 | some ns=>R3.aS (decide (ns.length=ks.length/\ks.length<=15)) (.ok (.loc S.length) (S++[.dct (JE ks ns)]))
 | none=> .no
def NK(aA:List (Key × D))(k:Key):Option D:=(aA.find? fun kv=>decide (kv.1=k)).map (·.2)
def Q5(i:Nat)(f g:FD):FX:=fun δ S=>match og δ i with
 | none=> .no
 | some k=>match oj S k with
   | none=> .no
   | some aA=>(R3.of (f (down δ)) S).bind fun kd S=>(R3.of (g (down δ)) S).bind fun d S=>match kd with
     | .str x=> .ok (.d ((NK aA (Sum.inr x)).getD d)) S
     | _=> .no
end
end L3
end
section
namespace L2
open PySem PySem.Spec PyProof.Rows
section
variable {X:Cx}
def vm:List D->R D
 | [.tup ds]=>(match ints? ds with | some ns=> .ok (.int ns.sum) | none=> .no)
 | ds=>H_ ds
theorem Hr(hc:X.calm=true):cI X (.builtin "sum") vm:=by
 intro pins s σ H B ds d xs us I hb rx rs hg;unfold vm at hg;split at hg
 .split at hg
  .rename_i es ns e;cases hg;obtain⟨x,rfl,r⟩:=rs.one;obtain⟨a,ys,rfl,l,r⟩:=Rep.tup.mp r;obtain⟨u,rfl,ru⟩:=vals1 rx;cases ru;obtain⟨its,rv,ht,hz⟩:=I.tuple l.sq;rw[e_ r e] at rv;obtain⟨ps,rfl,rfl⟩:=gI rv;have hl:s.heap.IsTuple a (intItems ps.toArray):=by
    have ht:s.heap.IsTuple a (ps.map fun p=>Value.int p.1 p.2).toArray:=ht
    simpa [intItems] using ht
   refine PySem.W.ktm_sumG (I.ok.hd hc) hl fun h' tk t' k=>⟨.int _,H,I.kept k,⟨t',rfl⟩,aM.refl H,Rep.int.mpr ?_⟩
   rw[preSum_eq,List.take_of_length_le (by simp)]
  .cases hg
 .exact Kf hc pins s σ H B ds d xs us I hb rx rs hg
end
end L2
end
section
namespace L2
open PySem PySem.Spec PyProof.Rows
section
variable {X:Cx}
def QM(d e:D):R D:=match d,e with
 | .tup a, .int k=>R.aS (decide (2<=k/\k < 1000/\a≠[]/\a.length*k.toNat<=sizeLine)) (.ok (.tup (List.replicate k.toNat a).flatten))
 | d,e=>mv d e
end
end L2
end
section
namespace L2
open PySem PySem.Spec PyProof.Rows
def uB(P:Program)(w:World):AG:=fun outer H s E e s'=>
 ∃(a:Addr) (B:Heap) (cls a0:Value) (H':Hp),e= .ref a/\s'.os=s.os/\AllBare s'.gens/\Un (pH outer) [] H H' s.heap s'.heap/\l6 P w H' s'.heap/\Heap.FlyingW B outer a cls a0 s'.heap/\
  (∀b o,s'.heap.get? b=some o->b ∉ pH outer->((∃u,s.heap.get? b=some u)\/∃u,H' b=some u)->B.get? b=some o)/\E cls none H'
section
variable {X:Cx} {pins:V6} {σ:St} {H1 H':Hp} {s1 s':Shared} {B Ka:Heap} {a:Addr} {cls a0:Value} {E:XK}
theorem A9{H:Hp}{h:Heap}{b:Addr}{o:HO}(k:l6 P w H h)(e:H b=some o):∃u,h.get? b=some u:=by
 have hx:=k b o e
 induction o with
 | lst xs=>obtain⟨_,_,_,_,e⟩:=hx;exact⟨_,e⟩
 | tup xs=>obtain⟨_,_,_,o,e,_⟩:=hx;exact⟨_,e⟩
 | dK aA=>obtain⟨_,_,_,_,o,_,_,e,_⟩:=hx;exact⟨_,e⟩
 | dT aA=>obtain⟨_,_,_,_,o,_,_,e,_⟩:=hx;exact⟨_,e⟩
 | set S n=>obtain⟨o,_,_,_,e,_⟩:=hx;exact⟨_,e⟩
 | ins C dx fs=>obtain⟨_,_,_,e,_⟩:=hx;exact⟨_,e⟩
 | own y=>exact hx
 | xd fs=>obtain⟨_,⟨o,_,_,e,_⟩,_⟩:=hx;exact⟨_,e⟩
 | rng lo hi=>obtain⟨_,_,_,e⟩:=hx;exact⟨_,e⟩
 | kT o u _=>exact⟨_,hx.1⟩
 | tbl ps=>exact⟨_,hx⟩
 | met f x=>exact⟨_,hx⟩
 | ext φ=>exact hx.2.1
theorem Bk(I:Inv X pins σ H1 s1)(Ay:X.stack=X.env ::X.outer)(hf:X.env.frame=some X.env.locals)(hex:X.ex=[])(os:s'.os=s1.os)(bare:AllBare s'.gens)(un:Un (pH X.stack) [] H1 H' s1.heap s'.heap)(hok:l6 X.prog X.w H' s'.heap)
 (FH:∀b o,s'.heap.get? b=some o->b ∉ pH X.stack->((∃u,s1.heap.get? b=some u)\/∃u,H' b=some u)->B.get? b=some o) (fl:Heap.FlyingW B X.outer a cls a0 Ka) (up:s'.heap.UpToSlots Ka) (e:E cls none H') :
 uB X.prog X.w X.outer X.H₀ X.s₀ E (.ref a) {s' with heap:=Ka}:=by
 have hfr:∀b,b∈pH X.stack↔b=X.env.locals\/b∈pH X.outer:=fun b=>by
  rw[Ay];unfold pH;rw [List.filterMap_cons,hf];exact List.mem_cons
 have hfree:∀b,b∈pH X.stack->H' b=none:=fun b hb=>by
  obtain⟨_,o,ho,_⟩:=I.stack.mem hb;exact un.free b o ho (I.pR b hb) (by simp)
 have old:∀b o,X.s₀.heap.get? b=some o->b≠X.env.locals:=fun b o q=>Nat.ne_of_lt (Nat.lt_of_lt_of_le (Heap.lt_size q) I.ok.above)
 have thr:∀b o,X.s₀.heap.get? b=some o->∃u,s1.heap.get? b=some u:=fun b o q=>I.base.there b o q (by rw[hex];simp)
 have thr2:∀b o,s1.heap.get? b=some o->∃u,s'.heap.get? b=some u:=fun b o q=>un.there b o q (by simp)
 have stB:∀b o,B.get? b=some o->Ka.get? b=some o:=fl.1;have Iw:∀b o,H' b=some o->∀u,s'.heap.get? b=some u->Ka.get? b=some u:=fun b o q u hu=>stB b u (FH b u hu (fun hb=>by rw[hfree b hb] at q;cases q) (.inr ⟨o,q⟩))
 refine⟨a,B,cls,a0,H',rfl,os.trans I.os,bare,⟨fun b o q n hb _=>?_,fun b o q n hb _=>?_,fun b o q n _=>?_,fun b o q _=>?_,fun b xs q=>un.tups b xs (I.base.tups b xs q),fun b o u q=>un.frzs b o u (I.base.frzs b o u q),fun b ps q=>?_⟩,fun b o q=>?_,fl,fun b o q hb MB=>?_,e⟩
 .have h1:=I.base.keep b o q n hb (by rw[hex];simp)
  have n1:=I.base.free b o q n (by rw[hex];simp)
  have qa:b ∉ pH X.stack:=fun z=>((hfr b).mp z).elim (old b o q) hb
  have h2:=un.keep b o h1 n1 qa (by simp)
  exact stB b o (FH b o h2 qa (.inl ⟨o,h1⟩))
 .obtain⟨sl,h1⟩:=I.base.slot b o q n hb (by rw[hex];simp)
  have n1:=I.base.free b o q n (by rw[hex];simp)
  obtain⟨RD,h2⟩:=un.slot b _ h1 n1 ((hfr b).mpr (.inr hb)) (by simp)
  obtain⟨_,o',we,hd⟩:=I.ok.oG.mem hb;rw[q] at we;cases we;obtain⟨MC,h3⟩:=up b _ h2 hd;exact⟨MC,h3⟩
 .obtain⟨u,h1⟩:=thr b o q;exact un.free b u h1 (I.base.free b o q n (by rw[hex];simp)) (by simp)
 .obtain⟨u,h1⟩:=thr b o q;obtain⟨u2,h2⟩:=thr2 b u h1;by_cases hb:b∈pH X.outer
  .obtain⟨_,o',we,hd⟩:=I.stack.mem ((hfr b).mpr (.inr hb));obtain⟨sl,h3⟩:=un.slot b o' we (I.pR b ((hfr b).mpr (.inr hb))) ((hfr b).mpr (.inr hb)) (by simp)
   obtain⟨MC,h4⟩:=up b _ h3 hd;exact⟨_,h4⟩
  .exact⟨u2,stB b u2 (FH b u2 h2 (fun z=>((hfr b).mp z).elim (old b o q) hb) (.inl ⟨u,h1⟩))⟩
 .obtain⟨m1,e1⟩:=I.base.tbls b ps q;obtain⟨m2,e2⟩:=un.tbls b _ e1;exact⟨m1++m2,by rw[e2,Array.append_assoc]⟩
 .refine(hok b o q).wH (fun c u hc hu=>?_) (fun c z=>z) (fun c xs z=>z)
  rcases hc with rfl | hc
  .exact Iw c o q u hu
  .exact Iw c _ hc u hu
 .have qa:b≠X.env.locals:=fun z=>by
   subst z;rcases MB with⟨u,hu⟩ | ⟨u,hu⟩
   .exact old _ u hu rfl
   .rw [hfree _ ((hfr _).mpr (.inl rfl))] at hu;cases hu
  have hb2:b ∉ pH X.stack:=fun z=>((hfr b).mp z).elim qa hb
  have:(∃u,s1.heap.get? b=some u)\/∃u,H' b=some u:=MB.imp (fun⟨u,hu⟩=>thr b u hu) id
  obtain⟨u,hu⟩:∃u,s'.heap.get? b=some u:=this.elim (fun⟨u,hu⟩=>thr2 b u hu) fun⟨u,hu⟩=>A9 hok hu
  have h3:=FH b u hu hb2 this;have h4:=stB b u h3;rw[q] at h4;cases h4;exact h3
end
section
variable {P:Program} {w:World} {K:W.Frag} {mg:Wa} {base:Heap} {N:List Str} {qual:Str} {scope:Scope} {f:Addr} {cd:Value} {A:Around} {outer:List Env} {s:Shared} {H:Hp} {E:XK}
theorem LC:Passes (uB P w) (j8 (uB P w) P w K mg base N qual scope f cd A outer s H E) E:=by
 intro pins σ H1 s1 e s' I hc;obtain⟨a,B,cls,a0,H',rfl,os,bare,un,hok,fl,FH,hE⟩:=hc;exact wpAny_leaves_onW (env:=envOfC qual scope s.heap.objs.size f cd) (outer:=outer) (L:=s.heap.objs.size) I.ok.frames rfl fl fun h' f1 up=>Bk I rfl rfl rfl os bare un hok FH f1 up hE
theorem Hs{pins:V6}{s1:Shared}{a:Addr}{cls:Value}{vs:List Value}(I:Inv (j8 (uB P w) P w K mg base N qual scope f cd A outer s H E) pins σ H1 s1)(hx:Heap.MadeExcOf s1.heap h' a cls vs)(hE:E cls none H1) :
 (j8 (uB P w) P w K mg base N qual scope f cd A outer s H E).xe (.ref a) {s1 with heap:=h'}:=by
 have hin:∀env∈(envOfC qual scope s.heap.objs.size f cd ::outer),∀b,env.frame=some b->b∈pH (envOfC qual scope s.heap.objs.size f cd ::outer):=fun env he b hb=>List.mem_filterMap.mpr ⟨env,he,hb⟩
 have ff:s1.heap.FunFrames base (envOfC qual scope s.heap.objs.size f cd ::outer):=I.stack;refine wpAny_leaves_madeW (env:=envOfC qual scope s.heap.objs.size f cd) (outer:=outer) (L:=s.heap.objs.size) (base:=PySem.W.hideAll s1.heap (pH (envOfC qual scope s.heap.objs.size f cd ::outer))) (h:=s1.heap) (s:={s1 with heap:=h'}) I.ok.frames rfl (fun b o q=>PySem.W.of_hideAll _ q) (PySem.W.funFrames_hide ff hin) hx fun Ka t x1 x2 x3 x4=>?_
 exact Bk (s':={s1 with heap:=h'}) I rfl rfl rfl rfl I.bare (Un.kept hx.keeps) (I.hok.kept hx.keeps) (fun b o q hb MB=>by
  obtain⟨u,hu⟩:∃u,s1.heap.get? b=some u:=MB.elim id fun⟨u,hu⟩=>A9 I.hok hu
  have h2:=hx.keeps b u hu;have q:h'.get? b=some o:=q;rw[q] at h2;cases h2;exact PySem.W.hideAll_get _ hu hb) x1 x4 hE
end
end L2
end
section
namespace L2
open PySem PySem.Spec PyProof.Rows
def BF:List Value:=[.type "ValueError", .type "Exception", .type "BaseException", .type "object"]
structure XC (K:W.Frag) (C:Addr):Prop where
 ex:PySem.W.excIn K C BF "ValueError.__new__"=true
 ga:PySem.W.findIn K (.ref C) "__getattribute__"=some (some (.builtin "BaseException.__getattribute__"))
 gt:PySem.W.findIn K (.ref C) "__getattr__"=some none
 co:PySem.W.findIn K (.ref C) "__class__"=some (some (.builtin "object.__class__"))
 gs:PySem.W.specialIn K (.builtin "object.__class__") "__get__"=some (some (.builtin "getset_descriptor.__get__"))
 tk:PySem.W.takesIn K (.builtin "object.__class__")=some true
 mo:PySem.W.mroIn K C (.type "object")=some true
 mb:PySem.W.mroIn K C (.type "BaseException")=some true
 ic:(PySem.W.clsIn K C).isSome=true
def RN(x C:Addr)(h:Heap):Prop:=∃o,h.get? x=some o/\o.cls= .ref C
section
variable {prog:Program} {w:World} {A:Around} {E:V7} {s:Shared} {K:W.Frag} {x C:Addr}
theorem D_(X:K.In h)(q:PySem.W.excIn K C BF "ValueError.__new__"=true):∃bm N nm qn bs hdct sn sub ab col dd k0 k1 k2 k3 k5 mN,
 h.get? C=some (excClassObj nm qn C N bs bm hdct sn sub ab col dd k0 k1 k2 k3 k5 "ValueError.__new__")/\h.Ns N mN/\mN "__init__"=none/\OwnTail h BF bm:=by
 unfold PySem.W.excIn at q;split at q
 .rename_i dd cd sl ho;split at q
  .rename_i C' bm k0 k1 k2 k3 n k5 hm hs;simp only[Bool.and_eq_true,beq_iff_eq,Bool.not_eq_true'] at q;obtain⟨⟨⟨⟨⟨q1,q2⟩,q3⟩,q4⟩,q5⟩,q6⟩:=q;subst q1 q2;obtain⟨nm,bs,mro,ns,qn,hd,sn,sub,ab,col,del⟩:=cd;obtain⟨l⟩:=sl;dsimp only at hm hs q3 q5 q6;subst hm hs q3;exact⟨bm,ns,nm,qn,bs,hd,sn,sub,ab,col,dd,k0,k1,k2,k3,k5,_,X _ _ ho,Heap.Ns.of_isNs (PySem.W.isNs_of_in X q5),PySem.W.nsMap_none_of_in X q5 q6,PySem.W.tail_of_in X q4⟩
  .cases q
 .cases q
end
end L2
end
section
namespace L3
open PySem PySem.Spec PyProof.Rows L2
theorem R3.eW{α β:Type}{r:R3 α}{f:α->aQ->R3 β}{c:Nat}{S':aQ}(h:r.bind f= .ex c S'):r= .ex c S'\/∃a S,r= .ok a S/\f a S= .ex c S':=by
 cases r with
 | ok a S=>exact .inr ⟨a,S,rfl,h⟩
 | ex c' S=>cases h;exact .inl rfl
 | no=>cases h
def DK{α:Type}(r:R3 α):R3 α:=match r with | .ex _ _=> .no | .ok a S=> .ok a S | .no=> .no
theorem i0{α:Type}{r:R3 α}{a:α}{S:aQ}(h:DK r= .ok a S):r= .ok a S:=by
 cases r with
 | ok b S=>exact h
 | ex c S=>cases h
 | no=>cases h
theorem m4{α:Type}{r:R3 α}{c:Nat}{S:aQ}(h:DK r= .ex c S):False:=by
 cases r <;> cases h
def yL(K:W.Frag)(cl:Wb)(E:XK)(ρ:P3)(H:Hp)(S':aQ)(c:Nat):Prop:=∀bB H',Pre ρ H bB H'->SW K cl bB H' S'->E (.ref (cl c)) none H'
theorem yL.pre{K:W.Frag}{cl:Wb}{E:XK}{S':aQ}{c:Nat}(q:yL K cl E ρ H S' c)(p:Pre ρ H bE H1):yL K cl E bE H1 S' c:=fun bB H' p' w=>q bB H' (p.trans p') w
def TJ(K:W.Frag)(cl:Wb)(E:XK)(f:FX):TE:=fun σ H Q=>∃ρ S δ,eJ K cl ρ H S σ δ/\((∃v S',f δ S= .ok v S'/\∀u bB H',Pre ρ H bB H'->SW K cl bB H' S'->aX K bB H' v u->Q u H')\/∃c S',f δ S= .ex c S'/\yL K cl E ρ H S' c)
def Oh(K:W.Frag)(cl:Wb)(E:XK)(f:FA):TA:=fun σ H Q=>∃ρ S δ,eJ K cl ρ H S σ δ/\((∃vs S',f δ S= .ok vs S'/\∀us bB H',Pre ρ H bB H'->SW K cl bB H' S'->aC K bB H' vs us->Q us H')\/∃c S',f δ S= .ex c S'/\yL K cl E ρ H S' c)
def Mq(K:W.Frag)(cl:Wb)(E:XK)(F:FZ):TS:=fun D σ H=>∃ρ S δ,eJ K cl ρ H S σ δ/\((∃o S',F δ S= .ok o S'/\uK K cl ρ H D S' o)\/∃c S',F δ S= .ex c S'/\yL K cl E ρ H S' c)
structure Gm (X:Cx) (cl:Wb) (E:XK) (e:Expr) (f:FX):Prop where
 go:PE X e (TJ X.K cl E f)
structure xr (X:Cx) (cl:Wb) (E:XK) (es:List Expr) (f:FA):Prop where
 go:PA X es (Oh X.K cl E f)
structure GI (X:Cx) (cl:Wb) (E:XK) (st:Stmt) (F:FZ):Prop where
 go:PS X st (Mq X.K cl E F)
structure tO (X:Cx) (cl:Wb) (E:XK) (st:List Stmt) (F:FZ):Prop where
 go:sQ X st (Mq X.K cl E F)
section
variable {X:Cx} {cl:Wb} {E:XK}
def rp(f:FX):FX:=fun δ S=>DK (f δ S)
def dR(f:FA):FA:=fun δ S=>DK (f δ S)
def AJ(f:FZ):FZ:=fun δ S=>DK (f δ S)
theorem xE(h:PX X cl e f):Gm X cl E e (rp f):=⟨h.1.imp fun σ H Q ⟨ρ,S,δ,En,z⟩=>by
 rcases z with⟨v,S',hf,q⟩ | ⟨c,S',hf,q⟩
 .exact⟨ρ,S,δ,v,S',En,i0 hf,q⟩
 .exact(m4 hf).elim⟩
theorem cM(h:Ja X cl es f):xr X cl E es (dR f):=⟨h.1.imp fun σ H Q ⟨ρ,S,δ,En,z⟩=>by
 rcases z with⟨v,S',hf,q⟩ | ⟨c,S',hf,q⟩
 .exact⟨ρ,S,δ,v,S',En,i0 hf,q⟩
 .exact(m4 hf).elim⟩
theorem xN{st:Stmt}(h:PZ X cl st F):GI X cl E st (AJ F):=⟨h.1.imp fun D σ H ⟨ρ,S,δ,En,z⟩=>by
 rcases z with⟨v,S',hf,q⟩ | ⟨c,S',hf,q⟩
 .exact⟨ρ,S,δ,v,S',En,i0 hf,q⟩
 .exact(m4 hf).elim⟩
theorem n4{st:List Stmt}(h:DG X cl st F):tO X cl E st (AJ F):=⟨h.1.imp fun D σ H ⟨ρ,S,δ,En,z⟩=>by
 rcases z with⟨v,S',hf,q⟩ | ⟨c,S',hf,q⟩
 .exact⟨ρ,S,δ,v,S',En,i0 hf,q⟩
 .exact(m4 hf).elim⟩
def vb(K:W.Frag)(cl:Wb)(n:Nat)(g:List V3->aQ->R3 V3):Sp:=fun vs H Q E=>vs.length=n/\∃ρ S xs,SW K cl ρ H S/\aC K ρ H xs vs/\
 ((∃v S',g xs S= .ok v S'/\∀u bB H',Pre ρ H bB H'->SW K cl bB H' S'->aX K bB H' v u->Q u H')\/∃c S',g xs S= .ex c S'/\yL K cl E ρ H S' c)
def dy(P:Program)(w:World)(K:W.Frag)(mg:Wa)(base:Heap)(cl:Wb)(k:Nat)(x:Str)(n:Nat)(g:List V3->aQ->R3 V3):Prop:=
 ∃(f:Addr) (fd:FuncData) (ps:List Str),gQ P w K mg base (uB P w) k f fd ps (vb K cl n g)/\mg x=some (.ref f)/\PySem.W.keepIn K (.ref f)=true/\Binds K fd ps []
theorem j6{g:List V3->aQ->R3 V3}{k j n:Nat}{x:Str}{p pos:Pos}{e:Expr}{es:List Expr}{fs:FA}(hp:Passes (uB X.prog X.w) X E)(C:dy X.prog X.w X.K X.mg X.base cl k x n g)(hr:dS j X.A)(F_:k<=j)(hg:Gl X x)(ha:xr X cl E (e ::es) fs)
 (hn:∀δ S ds S',fs δ S= .ok ds S'->ds.length=n) (jE:(x==("__debug__":Str))=false:=by decide) (he:starEach (e ::es) X.env=(false,eval e X.env) ::starEach es X.env:=by rfl) (mj:(backTo pos (starEach es X.env)).any (·.1)=false:=by rfl) :
 Gm X cl E (.Call (.Name x p) (e ::es) [] pos) (mJ g fs):=by
 obtain⟨f,fd,ps,F,hm,hk,hb⟩:=C;refine⟨(zh F (hr.mono F_) hg hm hk hb .nil hp ha.1 jE he mj).imp fun σ H Q ⟨ρ,S,δ,En,z⟩=>⟨ρ,S,δ,En,?_⟩⟩
 have go:∀vs S1,fs δ S= .ok vs S1->((∃v S',g vs S1= .ok v S'/\∀u bB H',Pre ρ H bB H'->SW X.K cl bB H' S'->aX X.K bB H' v u->Q u H')\/∃c S',g vs S1= .ex c S'/\yL X.K cl E ρ H S' c)->
  (∃vs S',fs δ S= .ok vs S'/\∀us bB H',Pre ρ H bB H'->SW X.K cl bB H' S'->aC X.K bB H' vs us->(fun vs H1=>vb X.K cl n g (vs++[]) H1 Q E) us H')\/∃c S',fs δ S= .ex c S'/\yL X.K cl E ρ H S' c:=fun vs S1 h1 h2=>by
  refine .inl ⟨vs,S1,h1,fun us bE H1 p1 w1 r1=>?_⟩
  show vb X.K cl n g (us++[]) H1 Q E;rw[List.append_nil];refine⟨by rw[<-r1.length];exact hn δ S vs S1 h1,bE,S1,vs,w1,r1,?_⟩
  rcases h2 with⟨v,S',h3,q⟩ | ⟨c,S',h3,q⟩
  .exact .inl ⟨v,S',h3,fun u oq H2 p2 w2 r2=>q u oq H2 (p1.trans p2) w2 r2⟩
  .exact .inr ⟨c,S',h3,q.pre p1⟩
 rcases z with⟨v,S',hf,q⟩ | ⟨c,S',hf,q⟩
 .obtain⟨vs,S1,h1,h2⟩:=R3.ah hf;exact go vs S1 h1 (.inl ⟨v,S',h2,q⟩)
 .rcases R3.eW hf with h1 | ⟨vs,S1,h1,h2⟩
  .exact .inr ⟨c,S',h1,q⟩
  .exact go vs S1 h1 (.inr ⟨c,S',h2,q⟩)
theorem nX{pos:Pos}(he:Gm X cl E e f)(rO:swapsWith e none pos.line X.env=pure false:=by rfl):GI X cl E (.Expr e pos) (sH f):=⟨(pW he.1 rO).imp fun D σ H ⟨ρ,S,δ,En,z⟩=>by
 refine⟨ρ,S,δ,En,?_⟩;rcases z with⟨o,S',hf,q⟩ | ⟨c,S',hf,q⟩
 .obtain⟨v,S1,h1,h2⟩:=R3.ah hf;cases h2;exact .inl ⟨v,_,h1,fun u bE H1 p1 w1 r1=>q _ bE H1 p1 (En.to p1 w1)⟩
 .rcases R3.eW hf with h1 | ⟨v,S1,h1,h2⟩
  .exact .inr ⟨c,S',h1,q⟩
  .cases h2⟩
def uT(f:FB):FB:=fun δ S=>DK (f δ S)
theorem fR(hc:AH X cl c fc)(ha:tO X cl E a F)(hb:tO X cl E b G):GI X cl E (.If c a b pos) (rj (uT fc) F G):=⟨(BL hc.1 ha.1 hb.1).imp fun D σ H ⟨ρ,S,δ,En,z⟩=>by
 have fin:∀k S1,fc δ S= .ok k S1->((∃o S',(if k then F δ S1 else G δ S1)= .ok o S'/\uK X.K cl ρ H D S' o)\/∃c S',(if k then F δ S1 else G δ S1)= .ex c S'/\yL X.K cl E ρ H S' c)->K0 (IL X.K cl fc) (Mq X.K cl E F) (Mq X.K cl E G) D σ H:=fun k S1 h1 h2=>by
  refine⟨ρ,S,δ,k,S1,En,h1,fun bE H1 p1 w1=>?_⟩
  cases k with
  | true=>
    refine Bp ⟨bE,S1,δ,En.to p1 w1,?_⟩;rcases h2 with⟨o,S',h3,q⟩ | ⟨c,S',h3,q⟩
    .rw [if_pos rfl] at h3;exact .inl ⟨o,S',h3,q.pre p1⟩
    .rw [if_pos rfl] at h3;exact .inr ⟨c,S',h3,q.pre p1⟩
  | false=>
    refine De ⟨bE,S1,δ,En.to p1 w1,?_⟩;rcases h2 with⟨o,S',h3,q⟩ | ⟨c,S',h3,q⟩
    .rw [if_neg (by decide)] at h3;exact .inl ⟨o,S',h3,q.pre p1⟩
    .rw [if_neg (by decide)] at h3;exact .inr ⟨c,S',h3,q.pre p1⟩
 rcases z with⟨o,S',hf,q⟩ | ⟨c,S',hf,q⟩
 .obtain⟨k,S1,h1,h2⟩:=R3.ah hf;exact fin k S1 (i0 h1) (.inl ⟨o,S',h2,q⟩)
 .rcases R3.eW hf with h1 | ⟨k,S1,h1,h2⟩
  .exact(m4 h1).elim
  .exact fin k S1 (i0 h1) (.inr ⟨c,S',h2,q⟩)⟩
theorem eh:tO X cl E [] ke:=⟨tm.imp fun D σ H ⟨ρ,S,δ,En,z⟩=>by
 rcases z with⟨o,S',hf,q⟩ | ⟨c,S',hf,q⟩
 .cases hf;exact q σ ρ H (Pre.refl ρ H) En
 .cases hf⟩
theorem bQ{st:Stmt}(h:GI X cl E st F):tO X cl E [st] F:=⟨uo h.1⟩
theorem bS{st:Stmt}{rest:List Stmt}(h1:GI X cl E st F)(h2:tO X cl E rest G):tO X cl E (st ::rest) (cA F G):=⟨(qk h1.1 h2.1).imp fun D σ H ⟨ρ,S,δ,En,z⟩=>by
 refine⟨ρ,S,δ,En,?_⟩;rcases z with⟨o,S',hf,q⟩ | ⟨c,S',hf,q⟩
 .obtain⟨o1,S1,h1,h2⟩:=R3.ah hf;refine .inl ⟨o1,S1,h1,?_⟩;cases o1 with
  | nx δ1=>exact fun JQ bE H1 p1 E1=>⟨bE,S1,δ1,E1, .inl ⟨o,S',h2,q.pre p1⟩⟩
  | rt d=>cases h2;exact q
 .rcases R3.eW hf with h1 | ⟨o1,S1,h1,h2⟩
  .exact .inr ⟨c,S',h1,q⟩
  .refine .inl ⟨o1,S1,h1,?_⟩;cases o1 with
   | nx δ1=>exact fun JQ bE H1 p1 E1=>⟨bE,S1,δ1,E1, .inr ⟨c,S',h2,q.pre p1⟩⟩
   | rt d=>cases h2⟩
def wm(X:Cx)(E:XK):Prop:=∀(pins:V6) (σ:L2.St) (H:Hp) (s:Shared) (h':Heap) (a:Addr) (cls:Value) (vs:List Value),Inv X pins σ H s->Heap.MadeExcOf s.heap h' a cls vs->E cls none H->X.xe (.ref a) {s with heap:=h'}
def e7(c:Nat)(fs:FA):FZ:=fun δ S=>(fs δ S).bind fun vs S=>R3.aS (decide (vs.length<=sizeLine)) (.ex c S)
theorem Bv{C:Addr}{t:TA}{x:Str}{e:Expr}{es:List Expr}{np bg pos:Pos}(hf:wm X E)(hc:X.calm=true)(T:XC X.K C)(hg:Gl X x)(hm:X.mg x=some (.ref C))(ha:PA X (e ::es) t)(jE:(x==("__debug__":Str))=false:=by decide)
 (he:starEach (e ::es) X.env=(false,eval e X.env) ::starEach es X.env:=by rfl) (mj:(backTo bg (starEach es X.env)).any (·.1)=false:=by rfl) :
 PS X (.Raise (some (.Call (.Name x np) (e ::es) [] bg)) none pos) (fun D σ H=>t σ H fun vs H1=>vs.length<=sizeLine/\E (.ref C) none H1):=by
 intro pins s σ H D I h;obtain⟨bm,N,nm,qn,bs,hdct,sn,sub,ab,col,dd,k0,k1,k2,k3,k5,mN,hC,hN,hni,OT⟩:=D_ (C:=C) I.mod.kin T.ex;refine wpAny_Raise_call_subT (C:=C) (nm:=nm) (q:=qn) (N:=N) (bs:=bs) (bm:=bm) (hdct:=hdct) (sn:=sn) (sub:=sub) (ab:=ab) (col:=col) (dd:=dd) (k0:=k0) (k1:=k1) (k2:=k2) (k3:=k3) (k5:=k5) (bmB:=BF) PySem.F.excBase_ValueError (mN:=mN) (OT.hasType PySem.F.excBase_ValueError.hasBase) (I.ok.hd hc)
  (by rw[he];show(false || (backTo bg (starEach es X.env)).any (·.1))=false;rw [mj];rfl) hni (p9 I hg hm ⟨rfl,?_⟩ jE)
 have hA:=ha bg pins s σ H _ I h;rw[he] at hA ⊢;refine Calls.evalArgs_plain (wpAny_mono hA (fun us s2 ⟨vs,H1,I1,r,hl,hE⟩=>⟨rfl,by rw[<-r.length];exact hl,I1.bk _ _ hC,hN.keeps I1.bk,OT.keeps I1.bk,fun h' a hx=>hf pins σ H1 s2 h' a _ _ I1 hx hE⟩) fun _ _ y=>y)
theorem cS{c:Nat}{fs:FA}{x:Str}{e:Expr}{es:List Expr}{np bg pos:Pos}(hf:wm X E)(hc:X.calm=true)(T:XC X.K (cl c))(hg:Gl X x)(hm:X.mg x=some (.ref (cl c)))(ha:xr X cl E (e ::es) fs)(jE:(x==("__debug__":Str))=false:=by decide)
 (he:starEach (e ::es) X.env=(false,eval e X.env) ::starEach es X.env:=by rfl) (mj:(backTo bg (starEach es X.env)).any (·.1)=false:=by rfl) :
 GI X cl E (.Raise (some (.Call (.Name x np) (e ::es) [] bg)) none pos) (e7 c fs):=⟨(Bv hf hc T hg hm ha.1 jE he mj).imp fun D σ H ⟨ρ,S,δ,En,z⟩=>by
 refine⟨ρ,S,δ,En,?_⟩;rcases z with⟨o,S',hf,q⟩ | ⟨c',S',hf,q⟩
 .obtain⟨vs,S1,h1,h2⟩:=R3.ah hf;unfold R3.aS at h2;split at h2 <;> cases h2
 .rcases R3.eW hf with h1 | ⟨vs,S1,h1,h2⟩
  .exact .inr ⟨c',S',h1,q⟩
  .unfold R3.aS at h2;split at h2
   .rename_i hl;cases h2;exact .inl ⟨vs,_,h1,fun us bE H1 p1 w1 r1=>⟨by rw[<-r1.length];exact of_decide_eq_true hl,q bE H1 p1 w1⟩⟩
   .cases h2⟩
end
theorem jX{P:Program}{w:World}{K:W.Frag}{mg:Wa}{base:Heap}{cl:Wb}{x qual:Str}{st:Stmt}{f:Addr}{fd:FuncData}{N ps:List Str}{k:Nat}{F:FZ}{b:List Stmt}{sc:Scope}(hb:aR st=b)(hs:aF st=sc)(Fn:xy K x qual st f fd)(S:bf N ps sc)
 (i_:∀(dI:Value) (A:Around) (outer:List Env) (s:Shared) (H:Hp) (E:XK),dS k (A.deeper (envOfC qual sc s.heap.objs.size f dI))->
   tO (j8 (uB P w) P w K mg base N qual sc f dI A outer s H E) cl E b F):gQ P w K mg base (uB P w) (k+1) f fd ps (vb K cl ps.length (sg N F)):=by
 subst hb hs;obtain⟨oc,od,kV,doc,pm,an,dI,ct,DC,rfl,lk,rM⟩:=Fn.ex;refine GV lk rM S (fun vs H Q E h=>h.1) fun A outer s H vs Q E hr G1=>⟨_,(i_ dI A outer s H E hr).1,?_⟩
 obtain⟨_,ρ,S,ds,w,r,z⟩:=G1;refine⟨ρ,S,d4 N ds,vM w r,?_⟩;rcases z with⟨v,S',hg,q⟩ | ⟨c,S',hg,q⟩
 .obtain⟨o,S1,h1,h2⟩:=R3.ah hg;refine .inl ⟨o,S1,h1,?_⟩;cases o with
  | nx c5=>
    cases h2;exact fun cB bB H' p' E'=>q _ bB H' p' E'.sw (by unfold aX Rep;rfl)
  | rt d'=>
    cases h2;exact fun u bB H' p' w' r'=>q u bB H' p' w' r'
 .rcases R3.eW hg with h1 | ⟨o,S1,h1,h2⟩
  .exact .inr ⟨c,S',h1,q⟩
  .cases o with
   | nx c5=>cases h2
   | rt d'=>cases h2
theorem iA{P:Program}{w:World}{K:W.Frag}{mg:Wa}{base:Heap}{N:List Str}{qual:Str}{scope:Scope}{f:Addr}{cd:Value}{A:Around}{outer:List Env}{s:Shared}{H:Hp}{E:XK} :
 Passes (uB P w) (j8 (uB P w) P w K mg base N qual scope f cd A outer s H E) E:=LC
theorem cT{P:Program}{w:World}{K:W.Frag}{mg:Wa}{base:Heap}{N:List Str}{qual:Str}{scope:Scope}{f:Addr}{cd:Value}{A:Around}{outer:List Env}{s:Shared}{H:Hp}{E:XK} :
 wm (j8 (uB P w) P w K mg base N qual scope f cd A outer s H E) E:=fun pins σ H1 s1 h' a cls vs I hx hE=>Hs I hx hE
end L3
end
section
namespace L2
open PySem PySem.Spec PyProof.Rows
abbrev Cx.alt(X:Cx)(A:Around)(calm:Bool)(pn:V6)(xe:V7):Cx:={X with A:=A,calm:=calm,pn:=pn,xe:=xe}
section
variable {X:Cx} {pins Dy:V6} {σ:St} {H H1 H':Hp} {s s1 s':Shared}
end
end L2
namespace L3
open PySem PySem.Spec PyProof.Rows L2
section
variable {X:Cx} {cl:Wb}
def Tw(F:FZ)(ok:Nat->Bool)(i:Nat)(G:FZ):FZ:=fun δ S=>match F δ S with
 | .ok o S'=> .ok o S'
 | .ex c S'=>R3.aS (ok c) ((DK (G ((List.replicate δ.length none).set i (some (.loc S'.length))) (S'++[.exc c]))).bind fun o S2=>match o with | .nx c5=> .ok (.nx (c5.set i none)) S2 | .rt v=> .ok (.rt v) S2)
 | .no=> .no
end
end L3
end
section
namespace L2
open PySem PySem.Spec PyProof.Rows
def wz:V->Bool | .ref _=>true | .ty _=>true | _=>false
def IH:V->Value | .ref a=> .ref a | .ty n=> .type n | _=> .none
section
variable {X:Cx}
def RQ(K:W.Frag):List V->Hp->VK->Prop:=fun xs H Q=>∃a b C cv k,xs=[V.ref a,cv]/\H a=some (.ext (L3.isExc C b))/\XC K C/\wz cv=true/\PySem.W.kitOne K (.ref C) (IH cv)=some k/\Q (.bl k) H
def Ti(K:W.Frag):List V->Hp->VK->Prop:=fun xs H Q=>∃cv k,xs=[V.cH,cv]/\wz cv=true/\PySem.W.kitOne K (.type "NoneType") (IH cv)=some k/\Q (.bl k) H
def Si(K:W.Frag):List V->Hp->VK->Prop:=fun xs H Q=>∃a b C tp L5 k,xs=[V.ref a,V.ref tp]/\H a=some (.ext (L3.isExc C b))/\XC K C/\H tp=some (.tup L5)/\L5.all wz=true/\PySem.W.kitAny K (.ref C) (L5.map IH)=some k/\Q (.bl k) H
end
end L2
namespace L3
open PySem PySem.Spec PyProof.Rows L2
section
variable {X:Cx} {cl:Wb} {E:XK}
def TV(f:FX)(tb:Nat->Option Bool):FX:=fun δ S=>(f δ S).bind fun v S1=>match v with
 | .loc k=>(match S1[k]? with | some (.exc c)=>(match tb c with | some b=> .ok (.d (.bl b)) S1 | none=> .no) | _=> .no)
 | .d .cH=> .ok (.d (.bl false)) S1
 | _=> .no
def T9(f:FX)(tb:Nat->Option Bool):FX:=fun δ S=>(f δ S).bind fun v S1=>match v with
 | .loc k=>(match S1[k]? with | some (.exc c)=>(match tb c with | some b=> .ok (.d (.bl b)) S1 | none=> .no) | _=> .no)
 | _=> .no
def VQ(L5:List V):TA:=fun _ H Q=>Q L5 H
theorem lY{fs:FA}{n:Nat}(h:∀δ S ds S',fs δ S= .ok ds S'->ds.length=n):∀δ S ds S',dR fs δ S= .ok ds S'->ds.length=n:=fun δ S ds S' e=>h δ S ds S' (i0 e)
end
end L3
end
section
namespace L3
open PySem PySem.Spec PyProof.Rows L2
section
variable {α β:Type} {S S':aQ} {δ:DE} {c:Nat}
theorem CZ{r:R3 α}{Q:α->aQ->Prop}(h:W3 r Q):W3 (DK r) Q:=by
 obtain⟨a,S,e,q⟩:=h;rw[e];exact⟨a,S,rfl,q⟩
theorem A2{f:FX}{Q:V3->aQ->Prop}(h:W3 (f δ S) Q):W3 (rp f δ S) Q:=CZ h
theorem uc{f:FA}{Q:List V3->aQ->Prop}(h:W3 (f δ S) Q):W3 (dR f δ S) Q:=CZ h
theorem LM{f:FZ}{Q:Ou->aQ->Prop}(h:W3 (f δ S) Q):W3 (AJ f δ S) Q:=CZ h
theorem Lu{f:FB}{Q:Bool->aQ->Prop}(h:W3 (f δ S) Q):W3 (uT f δ S) Q:=CZ h
end
end L3
end
section
namespace L3
open PySem PySem.Spec PyProof.Rows L2
def Vn(K:W.Frag)(mg:Wa)(x:Str):Prop:=∃f,PySem.W.nsIn K mainGlobals x=some (some (.ref f))/\mg x=some (.ref f)
section
variable {X:Cx} {cl:Wb} {E:XK}
def VE(x:Str):FX:=fun _ S=> .ok (.fn x) S
theorem qB:Passes (uB X.prog X.w) X E0:=fun _ _ _ _ _ _ _ ⟨_,_,_,_,_,_,_,_,_,_,_,_,z⟩=>z.elim
theorem qD(h:Gm X cl E e f):PX X cl e f:=⟨h.1.imp fun σ H Q ⟨ρ,S,δ,v,S',En,hf,q⟩=>⟨ρ,S,δ,En, .inl ⟨v,S',hf,q⟩⟩⟩
abbrev GT:=List (Str × (List V3->aQ->R3 V3))
def Ft(P:Program)(w:World)(K:W.Frag)(mg:Wa)(base:Heap)(cl:Wb)(j n:Nat)(l:GT):Prop:=∀x g,l.lookup x=some g->∃k,k<=j/\dy P w K mg base cl k x n g
def Oe(i:Nat)(l:GT)(fs:FA):FX:=fun δ S=>match δ[i]? with
 | some (some (.fn x))=>(match l.lookup x with | some g=>(fs δ S).bind g | none=> .no)
 | _=> .no
end
end L3
end
section
namespace HT
open PySem PySem.Spec PyProof.Rows
section
variable {prog:Program} {w:World} {A:Around} {E:V7} {s:Shared}
end
end HT
namespace L2
open PySem PySem.Spec PyProof.Rows
def qP:D->Option Key
 | .int n=>some (Sum.inl n)
 | .str x=>some (Sum.inr x)
 | _=>none
theorem vI{K:W.Frag}{B:List Addr}{d:D}{k:Key}{v:V}(h:qP d=some k)(r:Rep K B H d v):v=kV k:=by
 cases d with
 | int n=>cases h;exact Rep.int.mp r
 | str x=>cases h;exact Rep.str.mp r
 | cH=>cases h
 | bl b=>cases h
 | lst ds=>cases h
 | tup ds=>cases h
 | dct ks ds=>cases h
def LP(ks:List Key)(k:Key):Bool:=ks.any fun x=>decide (x=k)
def NU(ks:List Key)(ds:List D)(k:Key):Option D:=((ks.zip ds).find? fun p=>decide (p.1=k)).map (·.2)
def S_(a b:D):R D:=match b with
 | .dct ks _=>(match qP a with | some k=> .ok (.bl (LP ks k)) | none=> .no)
 | _=> .no
def S7(a b:D):R D:=match b with
 | .dct ks _=>(match qP a with | some k=> .ok (.bl (!LP ks k)) | none=> .no)
 | _=> .no
def Qk(d k:D):R D:=match d with
 | .dct ks ds=>(match qP k with | some k=>(match NU ks ds k with | some x=> .ok x | none=> .no) | none=> .no)
 | _=> .no
section
variable {X:Cx}
def Q4(f:FD):FD:=fun δ=>(f δ).bind fun d=>match d with | .tup ds=> .ok (.tup ds.reverse) | _=> .no
def Q1(i:Nat)(f:FD):FS:=fun δ=>(f δ).bind fun d=>match seqD? d with
 | some es=>(q0 δ i).bind fun ds=>R.aS (decide (ds.length+es.length<=sizeLine)) (.ok (.nx (δ.set i (.bld (ds++es)))))
 | none=> .no
def QX(f g:FD):ao->R (List D):=fun δ=>(f δ).bind fun d=>(g δ).bind fun e=>match d,e with
 | .int i, .int j=>R.aS (decide (-(2 ^ 62)<=i/\i < 2 ^ 62/\ -(2 ^ 62)<=j/\j < 2 ^ 62/\j - i < 16777216)) (.ok (pJ i (j - i).toNat))
 | _,_=> .no
end
end L2
namespace L3
open PySem PySem.Spec PyProof.Rows L2
section
variable {X:Cx} {cl:Wb}
def QY(i:Nat)(f:FX):FZ:=fun δ S=>match og δ i with
 | none=> .no
 | some k=>match c_ S k with
   | none=> .no
   | some _=>(f δ S).bind fun v S1=>match v with
     | .d d=>(match seqD? d with
       | some es=>(match c_ S1 k with
         | some ds=>R3.aS (decide (ds.length+es.length<=sizeLine)) (.ok (.nx δ) (S1.set k (.lst (ds++es))))
         | none=> .no)
       | none=> .no)
     | _=> .no
def m5(fo fi fe:FX):FZ:=fun δ S=>(fe δ S).bind fun v S1=>(fo δ S1).bind fun o S2=>(fi δ S2).bind fun j S3=>match v,o,j with
 | .d d, .loc k, .d n=>(match oj S3 k,qP n with | some aA,some key=>R3.aS (decide (aA.length < sizeLine)) (.ok (.nx δ) (S3.set k (.dct (mV aA key d)))) | _,_=> .no)
 | _,_,_=> .no
theorem k4{pos pos':Pos}(hu:X.A.units+1 < cLine)(hv:PX X cl value fe)(ho:PX X cl o fo)(hi:PX X cl i fi)(hs:swapsWith value (some (.Subscript o i pos')) pos.line X.env=pure false:=by rfl):PZ X cl (.Assign [.Subscript o i pos'] value pos) (m5 fo fi fe):=
 ⟨(EK hu ho.1 hi.1 hv.1 hs).imp fun D σ H ⟨ρ,S,δ,ou,S',E,hf,q⟩=>by
   obtain⟨v,S1,h1,h2⟩:=R3.ah hf;obtain⟨o,S2,h3,h4⟩:=R3.ah h2;obtain⟨j,S3,h5,h6⟩:=R3.ah h4;refine⟨ρ,S,δ,v,S1,E,h1,fun u1 bE H1 p1 w1 r1=>⟨bE,S1,δ,o,S2,E.to p1 w1,h3,fun u2 oq H2 p2 w2 r2=>⟨oq,S2,δ,j,S3,(E.to p1 w1).to p2 w2,h5,fun u3 AE H3 p3 w3 r3=>?_⟩⟩⟩
   split at h6
   .rename_i d k n;split at h6
    .rename_i aA key hd hn;obtain⟨hl,h7⟩:=R3.aO h6;cases h7;have r2':=r2.pre p3;unfold aX at r2';obtain⟨a,a1,rfl⟩:=r2';unfold aX at r3;have:=vI hn r3;subst this;obtain⟨ys,y1,y2,y3⟩:=w3.ob k a _ a1 (qK hd);have zt:=(r1.pre p2).pre p3;unfold aX at zt;obtain⟨e1,pA⟩:=LD (k:=key) zt y2 y3;have hll:ys.length=aA.length:=by have:=congrArg List.length y2;simpa using this
     refine⟨a,_,rfl,z8.k (k:=key) y1 (by rw[hll];exact of_decide_eq_true hl),?_⟩
     obtain⟨w4,p4⟩:=w3.put (o:= .dct (mV aA key d)) (u:= .dK (putK ys key u1)) a1 (w3.fz k a a1 (by rw[qK hd];intro h;cases h)) ⟨_,rfl,e1,pA⟩
     exact q σ AE _ (p1.trans (p2.trans (p3.trans p4))) (E.to (p1.trans (p2.trans (p3.trans p4))) w4)
    .cases h6
   .cases h6⟩
theorem n0{fo fi fe:FX}{δ:DE}{S:aQ}{QO:Ou->aQ->Prop}(h:W3 (fe δ S) fun v S1=>W3 (fo δ S1) fun o S2=>W3 (fi δ S2) fun j S3=>∃d k n key aA,v= .d d/\o= .loc k/\j= .d n/\qP n=some key/\S3[k]? =some (.dct aA)/\aA.length < sizeLine/\QO (.nx δ) (S3.set k (.dct (mV aA key d)))):W3 (m5 fo fi fe δ S) QO:=
 W3.bind (h.mono fun _ _ h=>W3.bind (h.mono fun _ _ h=>W3.bind (h.mono fun _ S3 ⟨d,k,n,key,aA,e1,e2,e3,e6,e4,hl,q⟩=>by
  subst e1 e2 e3;have e5:oj S3 k=some aA:=by unfold oj;simp only[e4]
  simp only[e5,e6];exact W3.wh (decide_eq_true hl) (W3.ok q))))
end
end L3
end
section
namespace PySem.W
open PySem PySem.Calls PyProof.Rows
def Gq{α:Type}(n:Nat)(lt:Nat->Nat->Bool):KasT α->Option α
 | .ret a=>some a
 | .ask i j k=>if i < n/\j < n then Gq n lt (k (lt i j)) else none
section
variable {prog:Program} {w:World} {A:Around} {E:V7} {s:Shared} {a:Addr} {vs:List Value} {κ:SortKind}
abbrev Ts(h:Heap)(a:Addr)(vs:List Value):Heap:=((h.update a (Obj.mapSeq fun _=>(#[]:Array Value))).push (seqObj "tuple" vs.toArray 0)).push (seqObj "list" #[] 0)
end
end PySem.W
namespace L2
open PySem PySem.Spec PyProof.Rows
def T4:D->Option (Int × List Int)
 | .tup [.int a, .tup zs]=>(ints? zs).map fun ns=>(a,ns)
 | _=>none
def Kn:List D->Option (List (Int × List Int))
 | []=>some []
 | d ::ds=>(T4 d).bind fun p=>(Kn ds).map (p ::·)
def SN(x y:Int × List Int):Bool:=if x.1=y.1 then(if x.2=y.2 then false else HT.lexLt x.2 y.2) else decide (x.1 < y.1)
def Nh(ps:List (Int × List Int)):Option (Array Nat):=PySem.W.Gq ps.length (fun i j=>SN (ps.getD i (0,[])) (ps.getD j (0,[]))) (PySem.W.kas_sort ps.length)
def M9:List D->R D
 | [.lst ds]=>(match Kn ds with
   | some ps=>R.aS (decide (2<=ps.length/\ps.length < 64)) (match Nh ps with | some p=>R.aS (p.toList.all (fun i=>decide (i < ps.length)) && decide (p.toList.length < 64)) (.ok (.lst (p.toList.map fun i=>ds.getD i .cH))) | none=> .no)
   | none=> .no)
 | _=> .no
def RF(h:Heap)(v:Value)(p:Int × List Int):Prop:=
 ∃(x b:Addr) (t:Tok) (n:Nat) (o:Obj) (its:Array Value),v= .ref x/\h.get? x=some o/\o.cls= .type "tuple"/\o.data= .seq #[.int p.1 t, .ref b] n/\IsTup h b its/\IntsAre its.toList p.2
section
variable {X:Cx}
end
end L2
end
section
namespace L2
open PySem PySem.Spec PyProof.Rows
def Lq(d a:D):Bool:=PyData.eqv (toPy d) (toPy a)
def Rb(d:D):Bool:=cP d && (toPy d).canLay0 && decide ((toPy d).depth<=8)
def QW(a b:D):R Bool:=match seqD? b with
 | some ds=>R.aS (Rb a && ds.all Rb) (.ok (ds.any fun d=>Lq d a))
 | none=> .no
def RU(a b:D):R D:=(QW a b).bind fun x=> .ok (.bl x)
def SU(a b:D):R D:=(QW a b).bind fun x=> .ok (.bl (!x))
section
variable {X:Cx}
open Classical in
def Qv(h:Heap)(a:D)(y:Value):Bool:=decide (∃d as,Reads h y (toPy d) as/\(toPy d).canLay0=true/\Lq d a=true)
open Classical in
theorem MZ{a d:D}{y:Value}{as:List Addr}(r:Reads h y (toPy d) as)(hl:(toPy d).canLay0=true):Qv h a y=Lq d a:=by
 unfold Qv;cases q:Lq d a with
 | true=>exact decide_eq_true ⟨d,as,r,hl,q⟩
 | false=>
   refine decide_eq_false fun⟨d',Ub,r',L0,q'⟩=>?_
   have:=SeqAt.Reads.unique _ _ y as Ub hl r r';unfold Lq at q q';rw[<-this,q] at q';cases q'
end
end L2
end
section
set_option maxHeartbeats 1000000
namespace L3
open PySem PySem.Spec PyProof.Rows L2
section
variable {X:Cx} {cl:Wb}
def Qf(i:Nat)(F:FZ):FZ:=fun δ S=>match og δ i with
 | some k=>(match S[k]? with | some (.dct aA)=>F (δ.set i (some (.d (.dct (aA.map (·.1)) (aA.map (·.2)))))) (S.set k .kT) | _=> .no)
 | none=> .no
end
end L3
end
section
set_option maxHeartbeats 3200000
namespace PySem.W
open PySem PySem.Calls PyProof.Rows
namespace F2
end F2
section
variable {prog:Program} {w:World} {A:Around} {E:V7} {s:Shared}
end
section
variable {prog:Program} {w:World} {K:Type} [DecidableEq K] {knd:KeyKind prog w K} {A:Around} {s:Shared}
def Nn(knd:KeyKind prog w K)(h:Heap)(v:Value)(q:K × Value):Prop:=
 ∃(x:Addr) (n:Nat) (o:Obj) (kv:Value),v= .ref x/\h.get? x=some o/\o.cls= .type "tuple"/\o.data= .seq #[kv,q.2] n/\knd.is q.1 kv=true
def fills(qs:List (K × Value))(aA:List (K × Value)):List (K × Value):=qs.foldl (fun acc q=>stored acc q.1 q.2) aA
end
end PySem.W
namespace L2
open PySem PySem.Spec PyProof.Rows
def Tr:D->Option (Key × D)
 | .tup [a,b]=>(qP a).map fun k=>(k,b)
 | _=>none
def Ki:List D->Option (List (Key × D))
 | []=>some []
 | d ::ds=>(Tr d).bind fun p=>(Ki ds).map (p ::·)
def Gg(qs:List (Key × D))(aA:List (Key × D)):List (Key × D):=qs.foldl (fun acc q=>L3.mV acc q.1 q.2) aA
def M8:List D->R D
 | [.lst ds]=>(match Ki ds with
   | some qs=>R.aS (decide (ds.length<=1000000)) (.ok (.dct ((Gg qs []).map (·.1)) ((Gg qs []).map (·.2))))
   | none=> .no)
 | _=> .no
section
variable {X:Cx}
end
end L2
end
section
set_option maxHeartbeats 1000000
namespace L3
open PySem PySem.Spec PyProof.Rows L2
def Ak(g:List V3->aQ->R3 V3):List V3->aQ->R3 V3:=fun vs S=>match g vs S with
 | .ok v S'=>(match res S' v with
   | some d=>R3.aS ((S'.take S.length).all (vQ S.length) && kY S.length v) (.ok (.d d) (S'.take S.length))
   | none=> .no)
 | .ex c S'=>R3.aS ((S'.take S.length).all (vQ S.length)) (.ex c (S'.take S.length))
 | .no=> .no
theorem Hn{K:W.Frag}{cl:Wb}{g:List V3->aQ->R3 V3}{n:Nat}{vs:List V}{Q:VK}{E:XK}(h:vb K cl n (Ak g) vs H Q E):vb K cl n g vs H Q E:=by
 obtain⟨hl,ρ,S,xs,w,r,z⟩:=h;refine⟨hl,ρ,S,xs,w,r,?_⟩;have pc:∀{bE H1},Pre ρ H bE H1->Pre ρ H (bE.cut S.length) H1:=fun p1=>SW.B_ (K:=K) (cl:=cl) (by rw[w.len];exact Nat.le_refl _) p1
 rcases z with⟨v,S',hg,q⟩ | ⟨c,S',hg,q⟩
 .unfold Ak at hg;split at hg
  .rename_i v1 S1 h1;split at hg
   .rename_i d e;obtain⟨ok,h3⟩:=R3.aO hg;obtain⟨ok,hk⟩:=Bool.and_eq_true_iff.mp ok;cases h3;refine .inl ⟨v1,S1,h1,fun u bE H1 p1 w1 r1=>q u _ H1 (pc p1) (w1.cut ok) ?_⟩
    unfold aX;refine r1.resB w1 (gR _) (fun k a hk a1 ha=>?_) hk e
    rcases P3.eG.mp ha with⟨z,_⟩ | z
    .obtain⟨j,hj⟩:=List.getElem?_of_mem z;have hj:(bE.r.take S.length)[j]? =some a:=hj;rw[List.getElem?_take] at hj;split at hj
     .rename_i hjl;have:=w1.nd j k a hj a1;omega
     .cases hj
    .exact(w1.zb a z).2 (List.mem_of_getElem? a1)
   .cases hg
  .rename_i c1 S1 h1;unfold R3.aS at hg;split at hg <;> cases hg
  .cases hg
 .unfold Ak at hg;split at hg
  .rename_i v1 S1 h1;split at hg
   .unfold R3.aS at hg;split at hg <;> cases hg
   .cases hg
  .rename_i c1 S1 h1;unfold R3.aS at hg;split at hg
   .rename_i ok;cases hg;exact .inr ⟨_,S1,h1,fun bE H1 p1 w1=>q _ H1 (pc p1) (w1.cut ok)⟩
   .cases hg
  .cases hg
theorem dy.q{K:W.Frag}{mg:Wa}{cl:Wb}{k:Nat}{n:Nat}{g:List V3->aQ->R3 V3}(C:dy P w K mg base cl k x n g):dy P w K mg base cl k x n (Ak g):=
 let⟨f,fd,ps,F,h⟩:=C;⟨f,fd,ps,F.imp fun _ _ _ _ h=>Hn h,h⟩
section
variable {X:Cx} {cl:Wb} {E:XK}
def SK(f:FX):FX:=fun δ S=>(f δ S).bind fun v S1=>match v with | .d (.bl b)=> .ok (.d (.bl (!b))) S1 | _=> .no
def ND(K:W.Frag)(cl:Wb)(E:XK)(ρ:P3)(H:Hp)(D:Ends)(r:R3 Ou):Prop:=match r with
 | .ok o S'=>uK K cl ρ H D S' o
 | .ex c S'=>yL K cl E ρ H S' c
 | .no=>False
def Mi(f:FA):FA:=fun δ S=>DK (f δ S)
theorem yA{tg iter:Expr}{body:List Stmt}{it:FA}{t:FG}{F:FZ}{pos:Pos}(hp:PassesOwn (model X.prog X.w) X.A X.env X.xe)(hc:X.calm=true)(hi:La X cl tg iter it)(hg:Gx X cl tg t)(hb:tO X cl E body F)
 (hs:∀x,foldedSetIterable iter X.env x=pure x:=by intro _;rfl):GI X cl E (.For tg iter body [] pos) (xF (Mi it) t F):=⟨(wG hp hc hi.1 hg.1 hb.1 hs).imp fun D σ H ⟨ρ,S,δ,En,z⟩=>by
 have key:∃ds S0,it δ S= .ok ds S0/\ND X.K cl E ρ H D (fY t F ds δ S0):=by
  rcases z with⟨o,S',hf,q⟩ | ⟨c,S',hf,q⟩
  .obtain⟨ds,S0,h1,h2⟩:=R3.ah hf;exact⟨ds,S0,i0 h1,by rw[h2];exact q⟩
  .rcases R3.eW hf with h1 | ⟨ds,S0,h1,h2⟩
   .exact(m4 h1).elim
   .exact⟨ds,S0,i0 h1,by rw[h2];exact q⟩
 obtain⟨ds,S0,h1,wi⟩:=key;obtain⟨r,hr⟩:∃r,fY t F ds δ S0=r:=⟨_,rfl⟩;rw[hr] at wi;refine⟨ρ,S,δ,ds,S0,En,h1,fun J bE H1 p1 w1 ir=>?_⟩
 refine⟨fun i m cB H'=>m=ds.length - i/\i<=ds.length/\∃bB S1 c5,Pre bE H1 bB H'/\eJ X.K cl bB H' S1 cB c5/\fY t F (ds.drop i) c5 S1=r,⟨ds.length,rfl,Nat.zero_le _,bE,S0,δ,Pre.refl bE H1,En.to p1 w1,by simpa using hr⟩,?_⟩
 rintro i m cB H' ⟨rfl,hi,bB,S1,c5,pv,E',hl⟩;obtain⟨go,stop⟩:=ir bB H' pv.pw E'.sw.bs;by_cases hlt:i < ds.length
 .have hd:ds[i]? =some ds[i]:=List.getElem?_eq_getElem hlt;have hdrop:ds.drop i=ds[i] ::ds.drop (i+1):=List.drop_eq_getElem_cons hlt;rw[hdrop] at hl;unfold fY at hl;split at hl
  .rw [<-hl] at wi;exact wi.elim
  .rename_i δ1 h3;obtain⟨g1,g2⟩:=go i _ hd;refine .inr ⟨g1,fun rf H2=>∃oq S2 iE,Pre bE H1 oq H2/\eJ X.K cl oq H2 S2 rf iE/\fY t F (ds.drop (i+1)) iE S2=r,fun rf H2 n=>⟨ds.length - (i+1),by omega,rfl,hlt,n⟩,fun x mO y=>?_⟩
   obtain⟨ss,rr⟩:=g2 x mO y;refine⟨bB,S1,c5,ds[i],δ1,E'.same ss,rr,h3,fun rf H2 s2 E2=>⟨bB,S1,δ1,E2,?_⟩⟩
   have pv2:Pre bE H1 bB H2:=pv.trans (Pre.same (ss.trans s2));cases hF:F δ1 S1 with
   | no=>rw [hF] at hl;rw [<-hl] at wi;exact wi.elim
   | ex c S2=>
     rw[hF] at hl;have hl:R3.ex c S2=r:=hl;rw[<-hl] at wi;exact .inr ⟨c,S2,rfl,yL.pre wi (p1.trans pv2)⟩
   | ok o1 S2=>
     rw[hF] at hl;refine .inl ⟨o1,S2,rfl,?_⟩;cases o1 with
     | nx iE=>exact fun DO AE H3 p3 E3=>⟨AE,S2,iE,pv2.trans p3,E3,hl⟩
     | rt d=>
       have hl:R3.ok (Ou.rt d) S2=r:=hl;rw[<-hl] at wi;exact fun v AE H3 p3 w r=>wi v AE H3 (p1.trans (pv2.trans p3)) w r
 .have e:i=ds.length:=by omega
  subst e;rw[List.drop_length] at hl;have hl:R3.ok (Ou.nx c5) S1=r:=hl;rw[<-hl] at wi;exact .inl ⟨stop,wi cB bB H' (p1.trans pv) E'⟩⟩
theorem xg{P:Program}{w:World}{K:W.Frag}{mg:Wa}{base:Heap}{N:List Str}{qual:Str}{scope:Scope}{f:Addr}{cd:Value}{A:Around}{outer:List Env}{s:Shared}{H:Hp}{E:XK} :
 PassesOwn (model P w) (j8 (uB P w) P w K mg base N qual scope f cd A outer s H E).A (j8 (uB P w) P w K mg base N qual scope f cd A outer s H E).env (j8 (uB P w) P w K mg base N qual scope f cd A outer s H E).xe:=PassesOwn.leaving
def jk(P:Program)(w:World)(K:W.Frag)(mg:Wa)(base:Heap)(cl:Wb)(k c:Nat)(m:Str)(n:Nat)(g:List V3->aQ->R3 V3):Prop:=
 ∃(f:Addr) (fd:FuncData) (ps:List Str),uV K (cl c)/\Meth K (cl c) m f/\gQ P w K mg base (uB P w) k f fd ps (vb K cl (n+1) g)/\Binds K fd ps []
theorem kZ{g:List V3->aQ->R3 V3}{k j n c:Nat}{m:Str}{o e:Expr}{es:List Expr}{fo:FX}{fs:FA}{apos pos:Pos}{pl:Sem Bool}(hp:Passes (uB X.prog X.w) X E)(M:jk X.prog X.w X.K X.mg X.base cl k c m n g)(hr:dS j X.A)(F_:k<=j)(ho:PX X cl o fo)(ha:Ja X cl (e ::es) fs)(hn:∀δ S ds S',fs δ S= .ok ds S'->ds.length=n)
 (Ay:starEach (e ::es) X.env=(false,eval e X.env) ::starEach es X.env:=by rfl) (mj:(backTo pos (starEach es X.env)).any (·.1)=false:=by rfl)
 (ht:eval (.Call (.Attribute o m apos) (e ::es) [] pos) X.env=(do
   let ov <-eval o X.env
   standAt apos.atName
   let(f,first) <-holding [ov] (getMethod ov m pl)
   callWith pos f first (backTo pos (starEach (e ::es) X.env)) (backToKw pos (keywordEach [] X.env))):=by rfl) :
 Gm X cl E (.Call (.Attribute o m apos) (e ::es) [] pos) (nL c m g (rp fo) (dR fs)):=by
 obtain⟨f,fd,ps,hC,hm,F,hb⟩:=M;refine⟨(FN ho.1 hC hm F (hr.mono F_) hb .nil hp ha.1 Ay mj ht).imp fun σ H Q ⟨ρ,S,δ,En,z⟩=>?_⟩
 have key:∃kk ys S1 vs S2,fo δ S= .ok (.loc kk) S1/\jN S1 c kk=some ys/\ys.lookup m=none/\fs δ S1= .ok vs S2/\((∃v S',g (.loc kk ::vs) S2= .ok v S'/\∀u bB H',Pre ρ H bB H'->SW X.K cl bB H' S'->aX X.K bB H' v u->Q u H')\/∃c S',g (.loc kk ::vs) S2= .ex c S'/\yL X.K cl E ρ H S' c):=by
  have go:∀{r:R3 V3},nL c m g (rp fo) (dR fs) δ S=r->r≠ .no->∃kk ys S1 vs S2,fo δ S= .ok (.loc kk) S1/\jN S1 c kk=some ys/\ys.lookup m=none/\fs δ S1= .ok vs S2/\g (.loc kk ::vs) S2=r:=fun {r} hr p_=>by
   unfold nL at hr;cases hfo:fo δ S with
   | no=>unfold rp at hr;rw [hfo] at hr;exact absurd hr.symm p_
   | ex c' S'=>unfold rp at hr;rw [hfo] at hr;exact absurd hr.symm p_
   | ok o S1=>
     unfold rp at hr;rw[hfo] at hr;simp only[DK,R3.aI] at hr;split at hr
     .rename_i kk;split at hr
      .rename_i ys e1;split at hr
       .rename_i pA;cases hfs:fs δ S1 with
        | no=>unfold dR at hr;rw [hfs] at hr;exact absurd hr.symm p_
        | ex c' S'=>unfold dR at hr;rw [hfs] at hr;exact absurd hr.symm p_
        | ok vs S2=>
          unfold dR at hr;rw[hfs] at hr;exact⟨kk,ys,S1,vs,S2,rfl,e1,pA,hfs,hr⟩
       .exact absurd hr.symm p_
      .exact absurd hr.symm p_
     .exact absurd hr.symm p_
  rcases z with⟨v,S',hf,q⟩ | ⟨c',S',hf,q⟩
  .obtain⟨kk,ys,S1,vs,S2,a1,a2,a3,a4,a5⟩:=go hf (fun h=>by cases h)
   exact⟨kk,ys,S1,vs,S2,a1,a2,a3,a4, .inl ⟨v,S',a5,q⟩⟩
  .obtain⟨kk,ys,S1,vs,S2,a1,a2,a3,a4,a5⟩:=go hf (fun h=>by cases h)
   exact⟨kk,ys,S1,vs,S2,a1,a2,a3,a4, .inr ⟨c',S',a5,q⟩⟩
 obtain⟨kk,ys,S1,vs,S2,h1,e1,pA,h3,z⟩:=key;refine⟨ρ,S,δ, .loc kk,S1,En,h1,fun u bE H1 p1 w1 r1=>?_⟩
 have zt:=r1;unfold aX at r1;obtain⟨a,a1,rfl⟩:=r1;obtain⟨dx,zs,ey,ek,rs⟩:=w1.ob kk a _ a1 (kh e1);refine⟨a,dx,zs,rfl,ey,vN ek pA,bE,S1,δ,vs,S2,En.to p1 w1,h3,fun us oq H2 p2 w2 r2=>?_⟩
 show vb X.K cl (n+1) g (V.ref a ::(us++[])) H2 Q E;rw[List.append_nil];refine⟨by rw[List.length_cons,<-r2.length,hn δ S1 vs S2 h3],oq,S2, .loc kk ::vs,w2,aC.cons (zt.pre p2) r2,?_⟩
 rcases z with⟨v,S',h4,q⟩ | ⟨c',S',h4,q⟩
 .exact .inl ⟨v,S',h4,fun z AE H3 p3 w3 r3=>q z AE H3 (p1.trans (p2.trans p3)) w3 r3⟩
 .exact .inr ⟨c',S',h4,q.pre (p1.trans p2)⟩
theorem Tv{g:List V3->aQ->R3 V3}{vs:List V3}{S:aQ}{QV:V3->aQ->Prop}(hS:MA S)(h:W3 (g vs S) fun v S1=>kY S.length v=true/\(∃T,S1=S++T)/\∃d,res S1 v=some d/\QV (.d d) S):W3 (Ak g vs S) QV:=by
 obtain⟨v,S1,e,hg,⟨T,rfl⟩,d,hd,q⟩:=h;unfold Ak;rw[e];simp only[hd];rw[List.take_append_of_le_length (Nat.le_refl _),List.take_length];exact W3.wh (by rw[List.all_eq_true.mpr hS,hg];rfl) (W3.ok q)
def WE{α:Type}(r:R3 α)(Q:α->aQ->Prop)(Y:Nat->aQ->Prop):Prop:=(∃a S,r= .ok a S/\Q a S)\/∃c S,r= .ex c S/\Y c S
section
variable {α β:Type} {S:aQ} {δ:DE} {Y:Nat->aQ->Prop}
theorem WE.bind{r:R3 α}{f:α->aQ->R3 β}{Q:β->aQ->Prop}(h:WE r (fun a S1=>WE (f a S1) Q Y) Y):WE (r.bind f) Q Y:=by
 rcases h with⟨a,S1,rfl,q⟩ | ⟨c,S1,rfl,q⟩
 .exact q
 .exact .inr ⟨c,S1,rfl,q⟩
theorem WE.mono{r:R3 α}{Q Q':α->aQ->Prop}{Y':Nat->aQ->Prop}(h:WE r Q Y)(m:∀a S,Q a S->Q' a S)(n:∀c S,Y c S->Y' c S):WE r Q' Y':=by
 rcases h with⟨a,S1,e,q⟩ | ⟨c,S1,e,q⟩
 .exact .inl ⟨a,S1,e,m _ _ q⟩
 .exact .inr ⟨c,S1,e,n _ _ q⟩
theorem WE.ok{a:α}{Q:α->aQ->Prop}(h:Q a S):WE (.ok a S) Q Y:= .inl ⟨a,S,rfl,h⟩
theorem gY{F G:FZ}{Q:Ou->aQ->Prop}(h:WE (F δ S) (fun o S1=>∃δ1,o= .nx δ1/\WE (G δ1 S1) Q Y) Y):WE (cA F G δ S) Q Y:=WE.bind (h.mono (fun o S1 ⟨δ1,e,q⟩=>by subst e;exact q) fun _ _ q=>q)
theorem vB{F:FZ}{Q:Ou->aQ->Prop}(h:W3 (F δ S) Q):WE (AJ F δ S) Q Y:= .inl (LM h)
theorem om{fc:FB}{F G:FZ}{Q:Ou->aQ->Prop}(h:W3 (fc δ S) fun b S1=>if b then WE (F δ S1) Q Y else WE (G δ S1) Q Y):WE (rj (uT fc) F G δ S) Q Y:=WE.bind (.inl (Lu (h.mono fun b S1 q=>by
 show WE (if b=true then F δ S1 else G δ S1) Q Y
 cases b with
 | true=>rw [if_pos rfl] at q ⊢;exact q
 | false=>rw [if_neg (by decide)] at q ⊢;exact q)))
theorem tS{f:FX}{Q:Ou->aQ->Prop}(h:WE (f δ S) (fun v S1=>Q (.nx δ) S1) Y):WE (sH f δ S) Q Y:=WE.bind (h.mono (fun v S1 q=>WE.ok q) fun _ _ q=>q)
theorem Dm{f:FX}{Q:V3->aQ->Prop}(h:W3 (f δ S) Q):WE (rp f δ S) Q Y:= .inl (A2 h)
theorem HE{g:List V3->aQ->R3 V3}{fs:FA}{Q:V3->aQ->Prop}(h:W3 (fs δ S) fun vs S1=>WE (g vs S1) Q Y):WE (mJ g (dR fs) δ S) Q Y:=WE.bind (.inl (uc h))
theorem qH{c k:Nat}{g:List V3->aQ->R3 V3}{fo:FX}{fs:FA}{Q:V3->aQ->Prop}(h:W3 (fo δ S) fun v S1=>∃ys,v= .loc k/\S1[k]? =some (.ins c ys)/\ys.lookup m=none/\W3 (fs δ S1) fun vs S2=>WE (g (.loc k ::vs) S2) Q Y):WE (nL c m g (rp fo) (dR fs) δ S) Q Y:=
 WE.bind (.inl (A2 (h.mono fun v S1 ⟨ys,e1,pA,e3,q⟩=>by
  subst e1;have e4:jN S1 c k=some ys:=by unfold jN;simp only[pA,if_true]
  simp only[e4,e3];exact WE.bind (.inl (uc q)))))
theorem p6{c:Nat}{fs:FA}{Q:Ou->aQ->Prop}(h:W3 (fs δ S) fun vs S1=>vs.length<=sizeLine/\Y c S1):WE (e7 c (dR fs) δ S) Q Y:=WE.bind (.inl (uc (h.mono fun vs S1 ⟨h1,h2⟩=>by
 unfold R3.aS;rw[decide_eq_true h1];exact .inr ⟨c,S1,rfl,h2⟩)))
theorem k6{Q:Ou->aQ->Prop}(h:Q (.nx δ) S):WE (ke δ S) Q Y:=WE.ok h
theorem JZ{N:List Str}{F:FZ}{vs:List V3}{Q:V3->aQ->Prop}(e:d4 N vs=δ)(h:WE (F δ S) (fun o S1=>match o with | .rt v=>Q v S1 | .nx _=>Q (.d .cH) S1) Y):WE (sg N F vs S) Q Y:=by
 unfold sg;rw[e];refine WE.bind (h.mono (fun o S1 q=>?_) fun _ _ q=>q)
 cases o with
 | nx δ1=>exact WE.ok q
 | rt v=>exact WE.ok q
theorem Hk{t:FG}{F:FZ}(I:Nat->DE->aQ->Prop){vs:List V3}(h0:I 0 δ S)(step:∀i v δ1 S1,vs[i]? =some v->I i δ1 S1->∃iE,t v δ1=some iE/\WE (F iE S1) (fun o S2=>∃MI,o= .nx MI/\I (i+1) MI S2) Y) :
 WE (fY t F vs δ S) (fun o S1=>∃δ1,o= .nx δ1/\I vs.length δ1 S1) Y:=by
 induction vs generalizing I δ S with
 | nil=>exact .inl ⟨_,_,rfl,δ,rfl,h0⟩
 | cons v vs ih=>
   obtain⟨iE,e,h⟩:=step 0 v δ S rfl h0;unfold fY;rw[e];refine WE.bind (h.mono (fun o S2 ⟨MI,e3,q⟩=>?_) fun _ _ q=>q)
   subst e3;exact ih (fun i=>I (i+1)) q fun i w δ1 S1 hw hi=>step (i+1) w δ1 S1 hw hi
theorem GQ{it:FA}{Q:Ou->aQ->Prop}(h:W3 (it δ S) fun vs S1=>WE (fY t F vs δ S1) Q Y):WE (xF (Mi it) t F δ S) Q Y:=WE.bind (.inl (CZ h))
end
end
end L3
end
section
namespace L2
open PySem PySem.Spec PyProof.Rows
def gK(ks:List (Str × Int)):List (Key × V):=ks.map fun p=>(Sum.inr p.1,V.int p.2)
def k9(P:Program)(w:World)(K:W.Frag)(mg:Wa)(x:Str)(ks:List (Str × Int)):Prop:=∃a,mg x=some (.ref a)/\∀(H:Hp) (h:Heap),K.In h->d8 P w H h a (.dK (gK ks))
theorem tw(x:Str):∀ks:List (Str × Int),iJ (gK ks) (Sum.inr x)=(ks.lookup x).map V.int
 | []=>rfl
 | (y,i) ::ks=>by
   have ih:=tw x ks;unfold iJ gK at ih ⊢;rw[List.map_cons,List.find?_cons,List.lookup_cons];by_cases h:x=y
   .subst h;simp
   .have h1:decide ((Sum.inr y:Key)=Sum.inr x)=false:=decide_eq_false fun q=>h (Sum.inr.inj q).symm
    have h2:(x==y)=false:=beq_eq_false_iff_ne.mpr h;simp only[h1,h2];exact ih
def Le(w:World)(es:List (Str × Tok × Int × Tok)):List DictEntry:=es.map fun e=>⟨hashStr w e.1, .str e.1 e.2.1, .int e.2.2.1 e.2.2.2⟩
theorem uS{P:Program}{w:World}{K:W.Frag}{h:Heap}{mg:Wa}(X:K.In h)(G:h.Ns mainGlobals mg){x:Str}{a:Addr}{es:Array DictEntry}{n:Nat}(ts:List (Str × Tok × Int × Tok)){ks:List (Str × Int)}
 (e:PySem.W.nsIn K mainGlobals x=some (some (.ref a))) (l:K.lookup a=some {cls:= .type "dict",data:= .dict es n}) (hs:es.toList=Le w ts) (hk:ks=ts.map fun e=>(e.1,e.2.2.1)) (hd:(ks.map (·.1)).Nodup) (hm:(a==sysModules)=false) (hz:ks.length<=1000):k9 P w K mg x ks:=by
 subst hk;refine⟨a,PySem.W.mg_of X G e,fun H h2 X2=>⟨?_,hm,ts.map fun e=>(Sum.inr e.1, .int e.2.2.1 e.2.2.2),?_,_,es,n,X2 a _ l,⟨rfl,rfl,?_⟩,rfl,fun q hq=>?_,?_,?_⟩⟩
 .unfold gK;rw [List.length_map,sizeLine_eq];omega
 .unfold gK;rw[List.map_map]
  clear hs hd hz
  induction ts with
  | nil=>exact .nil
  | cons t ts ih=>exact .cons ⟨rfl,⟨_,rfl⟩⟩ ih
 .rfl
 .have:q∈Le w ts:=by rw[<-hs];exact Array.mem_toList_iff.mpr hq
  obtain⟨t,_,rfl⟩:=List.mem_map.mp this;exact⟨Sum.inr t.1,ll P w _ _,rfl⟩
 .rw [hs]
  clear hs hd hz
  induction ts with
  | nil=>exact .nil
  | cons t ts ih=>exact .cons (ll P w _ _) rfl ih
 .rw [List.map_map] at hd ⊢;have:(ts.map ((fun x:Key × Value=>x.1) ∘ fun e:Str × Tok × Int × Tok=>(Sum.inr e.1, .int e.2.2.1 e.2.2.2)))=(ts.map ((fun x:Str × Int=>x.1) ∘ fun e:Str × Tok × Int × Tok=>(e.1,e.2.2.1))).map Sum.inr:=by
   rw[List.map_map];rfl
  rw[this];exact hd.map _ fun _ _ z q=>z (Sum.inr.inj q)
section
variable {X:Cx}
theorem tG{ks:List (Str × Int)}{p:Pos}(g:k9 X.prog X.w X.K X.mg x ks)(hg:Gl X x)(jE:(x==("__debug__":Str))=false:=by decide):∃a,PE X (.Name x p) (tC (.ref a))/\∀(H:Hp) (h:Heap),X.K.In h->d8 X.prog X.w H h a (.dK (gK ks)):=by
 obtain⟨a,hm,ok⟩:=g;exact⟨a,y_ (v:= .ref a) hg hm rfl jE,ok⟩
def J0(ks:List (Str × Int))(d:D):R Bool:=match d with | .str x=> .ok (ks.lookup x).isSome | _=> .no
def JK(ks:List (Str × Int))(f:FD):FD:=fun δ=>(f δ).bind fun d=>(J0 ks d).bind fun b=> .ok (.bl b)
def Tq(ks:List (Str × Int))(f:FD):FD:=fun δ=>(f δ).bind fun d=>(J0 ks d).bind fun b=> .ok (.bl (!b))
def S6(ks:List (Str × Int))(f:FD):ao->R Bool:=fun δ=>(f δ).bind fun d=>J0 ks d
def Hy(ks:List (Str × Int))(f:FD):ao->R Bool:=fun δ=>(f δ).bind fun d=>(J0 ks d).bind fun b=> .ok (!b)
def vk(ks:List (Str × Int))(f:FD):FD:=fun δ=>(f δ).bind fun d=>match d with | .str x=>(match ks.lookup x with | some i=> .ok (.int i) | none=> .no) | _=> .no
def Kw(ks:List (Str × Int))(neg:Bool)(t:TE):TE:=fun σ H Q=>t σ H fun y H1=>∃x,y= .str x/\Q (.bl (neg !=(ks.lookup x).isSome)) H1
theorem IW{ks:List (Str × Int)}{p:Pos}{t:TE}(hu:X.A.units+1 < cLine)(hi:PE X i t)(g:k9 X.prog X.w X.K X.mg x ks)(hg:Gl X x)(jE:(x==("__debug__":Str))=false:=by decide):PC X .In i (.Name x p) (Kw ks false t):=by
 obtain⟨a,ho,ok⟩:=tG (p:=p) g hg jE;intro pins s σ H Q I h;refine cO (hi pins s σ H _ I h) fun iv s1 ⟨y,H1,I1,ry,z,ey,q1⟩=>cO (ho pins s1 σ H1 (fun u H2=>u= .ref a/\H2=H1) I1 ⟨rfl,rfl⟩) fun u s2 ⟨uv,H2,I2,rx,e1,e2⟩=>?_
 subst ey e1 e2;obtain rfl:u=Value.ref a:=rx;obtain⟨hz,hd,vs,rel,dd⟩:=ok H2 s2.heap I2.vq;refine wpAny_in_of (mM (k:=Sum.inr z) ry) hd dd.mapOf ?_;rw[<-(rel.val (Sum.inr z)).gf,tw,Option.isSome_map];refine⟨.bl _,H2,I2.tok _,rfl,?_⟩;simpa using q1
theorem Ji{ks:List (Str × Int)}{p:Pos}{t:TE}(hu:X.A.units+1 < cLine)(hi:PE X i t)(g:k9 X.prog X.w X.K X.mg x ks)(hg:Gl X x)(jE:(x==("__debug__":Str))=false:=by decide):PC X .NotIn i (.Name x p) (Kw ks true t):=by
 obtain⟨a,ho,ok⟩:=tG (p:=p) g hg jE;intro pins s σ H Q I h;refine cO (hi pins s σ H _ I h) fun iv s1 ⟨y,H1,I1,ry,z,ey,q1⟩=>cO (ho pins s1 σ H1 (fun u H2=>u= .ref a/\H2=H1) I1 ⟨rfl,rfl⟩) fun u s2 ⟨uv,H2,I2,rx,e1,e2⟩=>?_
 subst ey e1 e2;obtain rfl:u=Value.ref a:=rx;obtain⟨hz,hd,vs,rel,dd⟩:=ok H2 s2.heap I2.vq;refine wpAny_notIn_of (mM (k:=Sum.inr z) ry) hd dd.mapOf ?_;rw[<-(rel.val (Sum.inr z)).gf,tw,Option.isSome_map];refine⟨.bl _,H2,I2.tok _,rfl,?_⟩;simpa using q1
theorem Cn{ks:List (Str × Int)}{d:D}{b:Bool}(h:J0 ks d= .ok b):∃x,d= .str x/\b=(ks.lookup x).isSome:=by
 unfold J0 at h;split at h
 .cases h;exact⟨_,rfl,rfl⟩
 .cases h
theorem Ed{ks:List (Str × Int)}{p pos:Pos}(hu:X.A.units+1 < cLine)(hi:QD X i f)(g:k9 X.prog X.w X.K X.mg x ks)(hg:Gl X x)(jE:(x==("__debug__":Str))=false:=by decide)(hm:behindInMarks .In (.Name x p)=false:=by with_unfolding_all rfl):QD X (.Compare i [.In] [.Name x p] pos) (JK ks f):=
 ⟨(Jq (IW hu hi.1 g hg jE) hm).imp fun σ H Q ⟨Z,B,δ,d,E,hf,q⟩=>by
   obtain⟨d1,h1,h2⟩:=R.ah hf;obtain⟨b,h3,h4⟩:=R.ah h2;cases h4;obtain⟨z,rfl,rfl⟩:=Cn h3;exact⟨Z,B,δ,_,E,h1,fun v H1 s1 r1=>⟨z,Rep.str.mp r1,q _ H1 s1 (by rw[Bool.false_bne];exact Rep.bl.mpr rfl)⟩⟩⟩
theorem FV{ks:List (Str × Int)}{p pos:Pos}(hu:X.A.units+1 < cLine)(hi:QD X i f)(g:k9 X.prog X.w X.K X.mg x ks)(hg:Gl X x)(jE:(x==("__debug__":Str))=false:=by decide)(hm:behindInMarks .NotIn (.Name x p)=false:=by with_unfolding_all rfl):QB X (.Compare i [.NotIn] [.Name x p] pos) (Hy ks f):=
 ⟨(wU (Ji hu hi.1 g hg jE) hm).imp fun σ H Q ⟨Z,B,δ,b,E,hf,q⟩=>by
   obtain⟨d1,h1,h2⟩:=R.ah hf;obtain⟨b,h3,h4⟩:=R.ah h2;cases h4;obtain⟨z,rfl,rfl⟩:=Cn h3;exact⟨Z,B,δ,_,E,h1,fun v H1 s1 r1=>⟨z,Rep.str.mp r1,_,rfl,by rw[Bool.true_bne];exact q H1 s1⟩⟩⟩
theorem vh{ks:List (Str × Int)}{p pos:Pos}(hi:QD X i f)(g:k9 X.prog X.w X.K X.mg x ks)(hg:Gl X x)(hs:EW i)(jE:(x==("__debug__":Str))=false:=by decide):QD X (.Subscript (.Name x p) i pos) (vk ks f):=⟨by
 obtain⟨a,ho,ok⟩:=tG (p:=p) g hg jE;intro pins s σ H Q I ⟨Z,B,δ,d,E,hf,q⟩;obtain⟨d1,h1,h2⟩:=R.ah hf;have key:∃z n,d1= .str z/\ks.lookup z=some n/\d= .int n:=by
  split at h2
  .split at h2
   .rename_i e;cases h2;exact⟨_,_,rfl,e,rfl⟩
   .cases h2
  .cases h2
 obtain⟨z,n,rfl,hl,rfl⟩:=key;refine yb PySem.F.slot_dict_getitem.lookup hs (cO (ho pins s σ H (fun u H2=>u= .ref a/\H2=H) I ⟨rfl,rfl⟩) fun u s1 ⟨uv,H1,I1,rx,e1,e2⟩=>?_)
 subst e1 e2;obtain rfl:u=Value.ref a:=rx;refine cO (hi.1 pins s1 σ H1 (fun v H'=>aM H1 H'/\Rep X.K B H' (.str z) v) I1 ⟨Z,B,δ,_,E,h1,fun v H' s1 r1=>⟨s1,r1⟩⟩) fun iv s2 ⟨y,H2,I2,ry,ss,r2⟩=>?_
 cases Rep.str.mp r2;obtain⟨hz,hd,vs,rel,dd⟩:=ok H2 s2.heap I2.vq;obtain⟨w',hw,AB⟩:=ka.some_of (v:= .int n) (o:=valueAt vs (Sum.inr z)) (by rw[show some (V.int n)=iJ (gK ks) (Sum.inr z) by rw[tw,hl];rfl];exact rel.val (Sum.inr z))
 refine⟨dd.typeIs,wpAny_getItem_of (mM (k:=Sum.inr z) ry) dd.mapOf hw ?_⟩;exact⟨.int n,H2,I2.tok _,AB,q _ H2 ss (Rep.int.mpr rfl)⟩⟩
end
end L2
namespace L3
open PySem PySem.Spec PyProof.Rows L2
section
variable {X:Cx} {cl:Wb} {E:XK}
def jw(S:aQ)(k:Nat):Option Nat:=match S[k]? with | some (.lst ds)=>some ds.length | some (.dct aA)=>some aA.length | _=>none
def wt(f:FX):FX:=fun δ S=>(f δ S).bind fun v S1=>match v with | .loc k=>(match jw S1 k with | some n=> .ok (.d (.int n)) S1 | none=> .no) | _=> .no
theorem Ci{K:W.Frag}{ρ:P3}{H:Hp}{S:aQ}(w:SW K cl ρ H S){k n:Nat}{a:Addr}(ha:ρ.r[k]? =some a)(h:jw S k=some n):(∃xs,H a=some (.lst xs)/\xs.length=n)\/∃ys,H a=some (.dK ys)/\ys.length=n:=by
 unfold jw at h;split at h
 .rename_i ds e;cases h;obtain⟨xs,e1,r⟩:=w.ob k a _ ha e;exact .inl ⟨xs,e1,r.length.symm⟩
 .rename_i aA e;cases h;obtain⟨ys,e1,e2,r⟩:=w.ob k a _ ha e;refine .inr ⟨ys,e1,?_⟩;have:=congrArg List.length e2
  rwa [List.length_map,List.length_map] at this
 .cases h
theorem n9{p pos:Pos}(he:PX X cl e f)(hg:Gl X "len")(hm:X.mg "len"=none)(hs:starEach [e] X.env=(false,eval e X.env) ::starEach [] X.env:=by rfl)(mj:(backTo pos (starEach [] X.env)).any (·.1)=false:=by rfl):PX X cl (.Call (.Name "len" p) [e] [] pos) (wt f):=⟨by
 have both:j7 X (.builtin "len") (fun xs H Q=>(∃p ys,xs=[.ref p]/\(me X.K H p ys\/oz X.K H p ys)/\Q (.int ys.length) H)\/(∃a aA,xs=[V.ref a]/\H a=some (.dK aA)/\Q (.int aA.length) H)):=fun pins s σ H xs us Q I r h=>h.elim (sY pins s σ H xs us Q I r) (zC pins s σ H xs us Q I r)
 refine(vL both hg hm boot_len (ik he.1 kl hs) (by decide) (by decide) hs mj).imp fun σ H Q ⟨ρ,S,δ,v,S',En,hf,q⟩=>?_
 obtain⟨v1,S1,h1,h2⟩:=R3.ah hf;refine⟨ρ,S,δ,v1,S1,En,h1,fun u bE H1 p1 w1 r1=>?_⟩
 split at h2
 .rename_i k;split at h2
  .rename_i n hn;cases h2;unfold aX at r1;obtain⟨a,ha,rfl⟩:=r1;rcases Ci w1 ha hn with⟨xs,e1,rfl⟩ | ⟨ys,e1,rfl⟩
   .exact .inl ⟨a,xs,rfl, .inl (me.of e1),q _ bE H1 p1 w1 (by unfold aX;exact Rep.int.mpr rfl)⟩
   .exact .inr ⟨a,ys,rfl,e1,q _ bE H1 p1 w1 (by unfold aX;exact Rep.int.mpr rfl)⟩
  .cases h2
 .cases h2⟩
theorem vU{f:FX}{δ:DE}{S:aQ}{Q:V3->aQ->Prop}(h:W3 (f δ S) fun v S1=>∃k n,v= .loc k/\jw S1 k=some n/\Q (.d (.int n)) S1):W3 (wt f δ S) Q:=W3.bind (h.mono fun v S1 ⟨k,n,e,e1,q⟩=>by subst e;simp only[e1];exact W3.ok q)
def lj(f:FX):FB:=fun δ S=>(f δ S).bind fun v S1=>match v with | .loc k=>(match jw S1 k with | some n=> .ok (decide (n≠0)) S1 | none=> .no) | _=> .no
theorem lO{a:Expr}(ha:PX X cl a f)(he:∀whole,isTrue a X.env whole=(do let v <-whole;standAt a.pos;holding [v] (truthy v)):=by intro _;rfl):AH X cl a (lj f):=⟨(uP ha.1 he).imp fun σ H Q ⟨ρ,S,δ,b,S',En,hf,q⟩=>by
 obtain⟨v1,S1,h1,h2⟩:=R3.ah hf;refine⟨ρ,S,δ,v1,S1,En,h1,fun u bE H1 p1 w1 r1=>?_⟩
 split at h2
 .rename_i k;split at h2
  .rename_i n hn;cases h2;unfold aX at r1;obtain⟨a,ha,rfl⟩:=r1;refine⟨_,?_,q bE H1 p1 w1⟩;rcases Ci w1 ha hn with⟨xs,e1,rfl⟩ | ⟨ys,e1,rfl⟩
   .exact .inl ⟨xs,me.of e1,by cases xs <;> simp⟩
   .exact .inr (.inr ⟨ys,e1,by cases ys <;> simp⟩)
  .cases h2
 .cases h2⟩
theorem qj{f:FX}{δ:DE}{S:aQ}{Q:Bool->aQ->Prop}(h:W3 (f δ S) fun v S1=>∃k n,v= .loc k/\jw S1 k=some n/\Q (decide (n≠0)) S1):W3 (lj f δ S) Q:=W3.bind (h.mono fun v S1 ⟨k,n,e,e1,q⟩=>by subst e;simp only[e1];exact W3.ok q)
def oM(v o:V3)(S:aQ):Option (Option D):=match v,o with
 | .d x, .loc k=>(match qP x,S[k]? with | some key,some (.dct aA)=>some ((aA.find? fun kv=>decide (kv.1=key)).map (·.2)) | _,_=>none)
 | _,_=>none
def TM(neg:Bool)(fa fb:FX):FX:=fun δ S=>(fa δ S).bind fun v S1=>(fb δ S1).bind fun o S2=>match oM v o S2 with | some r=> .ok (.d (.bl (neg !=r.isSome))) S2 | none=> .no
def xc(neg:Bool)(fa fb:FX):FB:=fun δ S=>(fa δ S).bind fun v S1=>(fb δ S1).bind fun o S2=>match oM v o S2 with | some r=> .ok (neg !=r.isSome) S2 | none=> .no
def C_(fo fi:FX):FX:=fun δ S=>(fo δ S).bind fun o S1=>(fi δ S1).bind fun v S2=>match oM v o S2 with | some (some d)=> .ok (.d d) S2 | _=> .no
theorem yk{K:W.Frag}{B:List Addr}(key:Key):∀{aA:List (Key × D)} {ys:List (Key × V)},ys.map (·.1)=aA.map (·.1)->aD K B H (aA.map (·.2)) (ys.map (·.2))->
 (iJ ys key=none/\aA.find? (fun kv=>decide (kv.1=key))=none)\/∃v kv,iJ ys key=some v/\aA.find? (fun kv=>decide (kv.1=key))=some kv/\Rep K B H kv.2 v
 | [],[],_,_=> .inl ⟨rfl,rfl⟩
 | [],_ ::_,e,_=>by simp at e
 | _ ::_,[],e,_=>by simp at e
 | (k1,d) ::aA,(k2,y) ::ys,e,r=>by
   obtain⟨e1,e2⟩:=List.cons.inj e;have e1:k2=k1:=e1;subst e1;obtain⟨z,zs,ez,r1,r2⟩:=r.b5;obtain⟨Um,Ut⟩:=List.cons.inj ez;subst Um Ut;unfold iJ;by_cases h:k2=key
   .refine .inr ⟨_,(k2,d),?_,?_,r1⟩
    .rw [List.find?_cons_of_pos (by simpa using h)];rfl
    .rw [List.find?_cons_of_pos (by simpa using h)]
   .rw [List.find?_cons_of_neg (by simpa using h),List.find?_cons_of_neg (by simpa using h)]
    exact yk key e2 r2
theorem wQ{K:W.Frag}{ρ:P3}{S:aQ}(w:SW K cl ρ H S){v o:V3}{r:Option D}{u y:V}(h:oM v o S=some r)(rv:aX K ρ H v y)(ro:aX K ρ H o u):∃a z,u= .ref a/\mz H a y z/\((z=none/\r=none)\/∃v d,z=some v/\r=some d/\Rep K ρ.b H d v):=by
 unfold oM at h;split at h
 .rename_i x k;split at h
  .rename_i key aA hk hS;cases h;unfold aX at ro rv;obtain⟨a,ha,rfl⟩:=ro;obtain⟨ys,e1,e2,q⟩:=w.ob k a _ ha hS;have:=vI hk rv;subst this;refine⟨a,_,rfl,mz.k (k:=key) e1,?_⟩;rcases yk key e2 q with⟨z1,z2⟩ | ⟨v,kv,z1,z2,z3⟩
   .rw [z1,z2];exact .inl ⟨rfl,rfl⟩
   .rw [z1,z2];exact .inr ⟨v,kv.2,rfl,rfl,z3⟩
  .cases h
 .cases h
theorem tq{pos:Pos}(hu:X.A.units+1 < cLine)(ha:PX X cl a fa)(hb:PX X cl b fb)(hm:behindInMarks .In b=false:=by with_unfolding_all rfl):AH X cl (.Compare a [.In] [b] pos) (xc false fa fb):=⟨(wU (Io hu ha.1 hb.1) hm).imp fun σ H Q ⟨ρ,S,δ,v,S',En,hf,q⟩=>by
 obtain⟨j,S1,h1,h2⟩:=R3.ah hf;obtain⟨o,S2,h3,h4⟩:=R3.ah h2;refine⟨ρ,S,δ,j,S1,En,h1,fun u1 bE H1 p1 w1 r1=>⟨bE,S1,δ,o,S2,En.to p1 w1,h3,fun u2 oq H2 p2 w2 r2=>?_⟩⟩
 split at h4
 .rename_i r hd;cases h4;obtain⟨ad,z,rfl,g,c⟩:=wQ w2 hd (r1.pre p2) r2;refine⟨ad,z,rfl,g,_,rfl,?_⟩;have:=q oq H2 (p1.trans p2) w2;rcases c with⟨rfl,rfl⟩ | ⟨v,d,rfl,rfl,_⟩ <;> exact this
 .cases h4⟩
theorem FK{pos:Pos}(hu:X.A.units+1 < cLine)(ha:PX X cl a fa)(hb:PX X cl b fb)(hm:behindInMarks .NotIn b=false:=by with_unfolding_all rfl):AH X cl (.Compare a [.NotIn] [b] pos) (xc true fa fb):=⟨(wU (zH hu ha.1 hb.1) hm).imp fun σ H Q ⟨ρ,S,δ,v,S',En,hf,q⟩=>by
 obtain⟨j,S1,h1,h2⟩:=R3.ah hf;obtain⟨o,S2,h3,h4⟩:=R3.ah h2;refine⟨ρ,S,δ,j,S1,En,h1,fun u1 bE H1 p1 w1 r1=>⟨bE,S1,δ,o,S2,En.to p1 w1,h3,fun u2 oq H2 p2 w2 r2=>?_⟩⟩
 split at h4
 .rename_i r hd;cases h4;obtain⟨ad,z,rfl,g,c⟩:=wQ w2 hd (r1.pre p2) r2;refine⟨ad,z,rfl,g,_,rfl,?_⟩;have:=q oq H2 (p1.trans p2) w2;rcases c with⟨rfl,rfl⟩ | ⟨v,d,rfl,rfl,_⟩ <;> exact this
 .cases h4⟩
theorem E_(hu:X.A.units+1 < cLine)(ho:PX X cl o fo)(hi:PX X cl i fi)(hs:EW i):PX X cl (.Subscript o i pos) (C_ fo fi):=⟨(Eh hu ho.1 hi.1 hs).imp fun σ H Q ⟨ρ,S,δ,v,S',En,hf,q⟩=>by
 obtain⟨o,S1,h1,h2⟩:=R3.ah hf;obtain⟨j,S2,h3,h4⟩:=R3.ah h2;refine⟨ρ,S,δ,o,S1,En,h1,fun u1 bE H1 p1 w1 r1=>⟨bE,S1,δ,j,S2,En.to p1 w1,h3,fun u2 oq H2 p2 w2 r2=>?_⟩⟩
 split at h4
 .rename_i d hd;cases h4;obtain⟨ad,z,rfl,g,c⟩:=wQ w2 hd r2 (r1.pre p2);rcases c with⟨_,e⟩ | ⟨v,d',rfl,e,r⟩
  .cases e
  .cases e;exact⟨ad,v,rfl,g,q _ oq H2 (p1.trans p2) w2 (by unfold aX;exact r)⟩
 .cases h4⟩
theorem uh{neg:Bool}{fa fb:FX}{δ:DE}{S:aQ}{Q:Bool->aQ->Prop}(h:W3 (fa δ S) fun v S1=>W3 (fb δ S1) fun o S2=>∃r,oM v o S2=some r/\Q (neg !=r.isSome) S2):W3 (xc neg fa fb δ S) Q:=W3.bind (h.mono fun v S1 h2=>W3.bind (h2.mono fun o S2 ⟨r,e,q⟩=>by simp only[e];exact W3.ok q))
theorem IT{fo fi:FX}{δ:DE}{S:aQ}{Q:V3->aQ->Prop}(h:W3 (fo δ S) fun o S1=>W3 (fi δ S1) fun v S2=>∃d,oM v o S2=some (some d)/\Q (.d d) S2):W3 (C_ fo fi δ S) Q:=W3.bind (h.mono fun v S1 h2=>W3.bind (h2.mono fun o S2 ⟨r,e,q⟩=>by simp only[e];exact W3.ok q))
theorem CD{g:List V3->aQ->R3 V3}{k j c:Nat}{p pos:Pos}(M:A_ X.prog X.w X.K X.mg X.base cl k c x 0 g)(hr:dS j X.A)(F_:k+1<=j)(hg:Gl X x)(jE:(x==("__debug__":Str))=false:=by decide):PX X cl (.Call (.Name x p) [] [] pos) (Cr c g dE):=by
 obtain⟨f,fd,ps,M,F,hm,hb⟩:=M;refine⟨(Bq M F (hr.mono F_) hg hm hb .nil Gp jE).imp fun σ H Q ⟨ρ,S,δ,v,S',En,hf,q⟩=>?_⟩
 obtain⟨vs,S1,h1,h2⟩:=R3.ah hf;cases h1;obtain⟨v0,S2,h3,h4⟩:=R3.ah h2;split at h4
 .cases h4;intro xa dx hx hdx p_;have L1:upd H dx (.own xa) xa=none:=by rw[a_ (fun z=>p_ z.symm)];exact hx
  have sm:aM H (upd (upd H dx (.own xa)) xa (.ins (cl c) dx [])):=(br hdx).trans (br L1);obtain⟨w2,p2⟩:=En.sw.new (a:=xa) (o:= .ins c []) sm hx ⟨dx,[],aY,rfl,aC.nil⟩;have rl:aX X.K (ρ.push xa) (upd (upd H dx (.own xa)) xa (.ins (cl c) dx [])) (.loc S.length) (.ref xa):=by
   unfold aX;exact⟨xa,by show(ρ.r++[xa])[_]? =_;rw [<-En.sw.len,List.getElem?_append_right (Nat.le_refl _),Nat.sub_self];rfl,rfl⟩
  exact⟨rfl,_,_,[.loc S.length], .d .cH,_,w2,aC.cons rl aC.nil,h3,fun z AE H3 p3 w3 r3=>⟨by unfold aX Rep at r3;exact r3,q _ AE H3 (p2.trans p3) w3 (rl.pre p3)⟩⟩
 .cases h4
end
end L3
end
section
namespace L2
open PySem PySem.Spec PyProof.Rows
section
variable {X:Cx}
def Gv(f:FD):FD:=fun δ=>(f δ).bind fun d=>match d with | .str x=>R.aS (decide ((reprText x).length<=sizeLine)) (.ok (.str (reprText x))) | _=> .no
theorem AS(h:QD X e f):QD X (.FormattedValue e 114 none pos) (Gv f):=⟨by
 intro pins s σ H Q I ⟨Z,B,δ,d,E,hf,q⟩;obtain⟨d1,h1,h2⟩:=R.ah hf;refine wpAny_FormattedValue_repr (cO (h.1 pins s σ H (fun v H'=>aM H H'/\Rep X.K B H' d1 v) I ⟨Z,B,δ,d1,E,h1,fun v H' s1 r1=>⟨s1,r1⟩⟩) fun v s1 ⟨xv,H1,I1,r1,JO,e1⟩=>?_)
 split at h2
 .obtain⟨h3,h4⟩:=R.aO h2;cases h4;rw[Rep.str.mp e1] at r1;obtain⟨t,rfl⟩:=r1;have h3:=of_decide_eq_true h3;exact pyReprObj_str (formatField_str (fun t' tk=>⟨.str _,H1,I1.tok _,⟨_,rfl⟩,q _ H1 JO (Rep.str.mpr rfl)⟩) h3) h3
 .cases h2⟩
end
end L2
end
section
namespace L3
open PySem PySem.Spec PyProof.Rows L2
section
variable {X:Cx} {cl:Wb} {E:XK}
theorem vX:xr X cl E [] dE:=⟨kl.imp fun σ H Q ⟨ρ,S,δ,En,z⟩=>by
 rcases z with⟨vs,S',hf,q⟩ | ⟨c,S',hf,q⟩
 .cases hf;exact q _ ρ H (Pre.refl ρ H) En.sw aC.nil
 .cases hf⟩
theorem jR(h:Gm X cl E e f)(t:xr X cl E es g)(hs:starEach (e ::es) X.env=(false,eval e X.env) ::starEach es X.env:=by rfl):xr X cl E (e ::es) (bu f g):=
 ⟨(ik h.1 t.1 hs).imp fun σ H Q ⟨ρ,S,δ,En,z⟩=>by
   refine⟨ρ,S,δ,En,?_⟩;rcases z with⟨v,S',hf,q⟩ | ⟨c,S',hf,q⟩
   .obtain⟨v1,S1,h1,h2⟩:=R3.ah hf;obtain⟨vs,S2,h3,h4⟩:=R3.ah h2;cases h4;exact .inl ⟨v1,S1,h1,fun u bE H1 p1 w1 r1=>⟨bE,S1,δ,En.to p1 w1, .inl ⟨vs,_,h3,fun us oq H2 p2 w2 r2=>q _ oq H2 (p1.trans p2) w2 (aC.cons (r1.pre p2) r2)⟩⟩⟩
   .rcases R3.eW hf with h1 | ⟨v1,S1,h1,h2⟩
    .exact .inr ⟨c,S',h1,q⟩
    .rcases R3.eW h2 with h3 | ⟨vs,S2,h3,h4⟩
     .exact .inl ⟨v1,S1,h1,fun u bE H1 p1 w1 r1=>⟨bE,S1,δ,En.to p1 w1, .inr ⟨c,S',h3,q.pre p1⟩⟩⟩
     .cases h4⟩
theorem zl{x1 pos}(h:xr X cl E es g):Gm X cl E (.Tuple es x1 pos) (xw g):=⟨(wV h.1).imp fun σ H Q ⟨ρ,S,δ,En,z⟩=>by
 refine⟨ρ,S,δ,En,?_⟩;rcases z with⟨v,S',hf,q⟩ | ⟨c,S',hf,q⟩
 .obtain⟨vs,S1,h1,h2⟩:=R3.ah hf;obtain⟨hl,h3⟩:=R3.aO h2;cases h3;refine .inl ⟨vs,_,h1,fun us bE H1 p1 w1 r1=>⟨by rw[<-r1.length];exact of_decide_eq_true hl,fun p hp=>q _ bE _ (p1.trans (pV hp)) (w1.same (br hp)) ?_⟩⟩
  refine si (.inl ⟨fun ha=>?_, .inl aY⟩) (r1.pre (pV hp))
  obtain⟨o,ho⟩:=w1.bs p ha;rw[hp] at ho;cases ho
 .rcases R3.eW hf with h1 | ⟨vs,S1,h1,h2⟩
  .exact .inr ⟨c,S',h1,q⟩
  .unfold R3.aS at h2;split at h2 <;> cases h2⟩
theorem vT{o e:Expr}{fo f:FX}{apos bg pos:Pos}(ho:PX X cl o fo)(he:Gm X cl E e f)
 (hs:starEach [e] X.env=(false,eval e X.env) ::starEach [] X.env:=by rfl) (fS:(apos.endLine==bg.line)=true:=by rfl)
 (kz:((backTo bg (starEach [e] X.env)).all (fun x=>!x.1) && (backToKw bg (keywordEach [] X.env)).all (fun x=>x.1.isSome)
   && decide (([e]:List Expr).length+([]:List Keyword).length+(if([]:List Keyword).isEmpty then 0 else 1) < 30))=true:=by rfl)
 (rO:swapsWith (.Call (.Attribute o "append" apos) [e] [] bg) none pos.line X.env=pure false:=by rfl)
 (fU:attributeBase o "append" X.env (eval o X.env)=eval o X.env:=by rfl) :
 GI X cl E (.Expr (.Call (.Attribute o "append" apos) [e] [] bg) pos) (kG (rp fo) f):=by
 refine⟨(pW (zg (X:=X) PySem.F.plainAttrs_list PySem.F.slot_list_append PySem.F.type_list_append mi ho.1 (ik he.1 kl hs) fU kz fS hs) rO).imp fun D σ H ⟨ρ,S,δ,En,z⟩=>?_⟩
 have key:∃k S0 Dx,fo δ S= .ok (.loc k) S0/\c_ S0 k=some Dx/\((∃v S1 ds,f δ S0= .ok (.d v) S1/\c_ S1 k=some ds/\ds.length < sizeLine/\uK X.K cl ρ H D (S1.set k (.lst (ds++[v]))) (.nx δ))\/∃c S',f δ S0= .ex c S'/\yL X.K cl E ρ H S' c):=by
  rcases z with⟨oo,S',hf,q⟩ | ⟨c,S',hf,q⟩
  .unfold kG at hf;obtain⟨vo,S0,g1,g2⟩:=R3.ah hf;split at g2
   .rename_i k;split at g2
    .cases g2
    .rename_i Dx h0;obtain⟨v,S1,h1,h2⟩:=R3.ah g2;split at h2
     .rename_i d;split at h2
      .rename_i ds h3;obtain⟨hl,h4⟩:=R3.aO h2;cases h4;exact⟨k,S0,Dx,i0 g1,h0, .inl ⟨d,S1,ds,h1,h3,of_decide_eq_true hl,q⟩⟩
      .cases h2
     .cases h2
   .cases g2
  .unfold kG at hf;rcases R3.eW hf with g1 | ⟨vo,S0,g1,g2⟩
   .exact(m4 g1).elim
   .split at g2
    .rename_i k;split at g2
     .cases g2
     .rename_i Dx h0;rcases R3.eW g2 with h1 | ⟨v,S1,h1,h2⟩
      .exact⟨k,S0,Dx,i0 g1,h0, .inr ⟨c,S',h1,q⟩⟩
      .split at h2
       .split at h2
        .unfold R3.aS at h2;split at h2 <;> cases h2
        .cases h2
       .cases h2
    .cases g2
 obtain⟨k,S0,Dx,g1,h0,z⟩:=key;refine⟨ρ,S,δ, .loc k,S0,En,g1,fun u OE H0 p0 w0 r0=>?_⟩
 unfold aX at r0;obtain⟨a,a1,rfl⟩:=r0;obtain⟨OJ,x0,_⟩:=w0.ob k a _ a1 (f_ h0);refine⟨.inl ⟨rfl,OJ,me.of x0⟩,⟨OE,S0,δ,En.to p0 w0,?_⟩⟩;rcases z with⟨d,S1,ds,h1,h3,hl,q⟩ | ⟨c,S',h1,q⟩
 .refine .inl ⟨.d d,S1,h1,fun y bE H1 p1 w1 r1=>?_⟩
  have b1:=p1.ext k a a1;obtain⟨xs,x1,x2⟩:=w1.ob k a _ b1 (f_ h3);refine⟨a,xs,y,rfl,rfl,x1,by rw[<-x2.length];exact hl,?_⟩
  unfold aX at r1;obtain⟨w2,p2⟩:=w1.put (o:= .lst (ds++[d])) (u:= .lst (xs++[y])) b1 (w1.fz k a b1 (by rw[f_ h3];intro h;cases h)) ⟨xs++[y],rfl,x2.append (aD.cons r1 aD.nil)⟩
  exact q σ bE _ (p0.trans (p1.trans p2)) (En.to (p0.trans (p1.trans p2)) w2)
 .exact .inr ⟨c,S',h1,q.pre p0⟩
section
variable {S:aQ} {δ:DE} {Y:Nat->aQ->Prop}
theorem qf{f:FX}{g:FA}{Q:List V3->aQ->Prop}(h:WE (f δ S) (fun v S1=>WE (g δ S1) (fun vs S2=>Q (v ::vs) S2) Y) Y):WE (bu f g δ S) Q Y:=WE.bind (h.mono (fun v S1 q=>WE.bind (q.mono (fun vs S2 q=>WE.ok q) fun _ _ q=>q)) fun _ _ q=>q)
theorem Bj{Q:List V3->aQ->Prop}(h:Q [] S):WE (dE δ S) Q Y:=WE.ok h
theorem GH{g:FA}{Q:V3->aQ->Prop}(h:WE (g δ S) (fun vs S1=>vs.length<=sizeLine/\Q (vy vs) S1) Y):WE (xw g δ S) Q Y:=WE.bind (h.mono (fun vs S1 ⟨hl,q⟩=>by
 unfold R3.aS;rw[decide_eq_true hl];exact WE.ok q) fun _ _ q=>q)
theorem Bu{fo f:FX}{k:Nat}{Q:Ou->aQ->Prop}(h:W3 (fo δ S) fun o S0=>o= .loc k/\(∃ds,S0[k]? =some (.lst ds))/\WE (f δ S0) (fun v S1=>∃d ds,v= .d d/\S1[k]? =some (.lst ds)/\ds.length < sizeLine/\Q (.nx δ) (S1.set k (.lst (ds++[d])))) Y):WE (kG (rp fo) f δ S) Q Y:=by
 unfold kG;refine WE.bind (.inl (A2 (h.mono fun o S0 ⟨e,⟨Dx,h0⟩,h⟩=>?_)))
 subst e;have e0:c_ S0 k=some Dx:=by unfold c_;rw [h0]
 simp only[e0];refine WE.bind (h.mono (fun v S1 ⟨d,ds,e1,e2,hl,q⟩=>?_) fun _ _ q=>q)
 subst e1;have e3:c_ S1 k=some ds:=by unfold c_;rw [e2]
 simp only[e3];unfold R3.aS;rw[decide_eq_true hl];exact WE.ok q
end
end
end L3
end
section
namespace L3
open PySem PySem.Spec PyProof.Rows L2
section
variable {X:Cx} {cl:Wb} {E:XK}
def TY(g:D->List D->R D)(fo:FX)(fs:FA):FX:=fun δ S=>(fo δ S).bind fun o S1=>match o with
 | .d (.str z)=>(fs δ S1).bind fun vs S2=>(match oJ vs with | some ds=>(R3.of (g (.str z) ds) S2).bind fun d S=> .ok (.d d) S | none=> .no)
 | _=> .no
end
end L3
end
section
namespace L2
open PySem PySem.Spec PyProof.Rows Builtin Builtin.Str
section
variable {prog:Program} {w:World} {A:Around} {E:V7} {s:Shared} {x:Str} {t:Tok} {Q:V7}
theorem Bi{y:Str}{u:Tok}(hy:(y.length==0)=false)
 (hq:∀l k,l.map (·.1)=Txt.split x y->Q (.ref s.heap.objs.size) {s with toks:=k,heap:=s.heap.push {cls:= .type "list",data:= .seq (strValues l).toArray}})
 (hsz:x.length<=sizeLine) (O9:(partsBetween x (occurrences x y 0 x.length (x.length+1)) y.length).length<=sizeLine) :
 wpAny (model prog w) A (call (.builtin "str.split") [.str x t, .str y u]) Q E s:=by
 cases h1:(decide (x.length < y.length) || decide (strKind x < strKind y))
 .cases hf:(occurrences x y 0 x.length (x.length+1)).isEmpty
  .refine call_meets F.slot_str_split (typeIs_str _ _ _) F.entry_str_split (F.args_str_split_2 _ _) (meets_str_split_sep x y t u h1 hy hf hsz O9) ?_;show wants Q E _ {s with toks:=_,heap:=s.heap.push {cls:= .type "list",data:= .seq (strsFrom s.toks (partsBetween x (occurrences x y 0 x.length (x.length+1)) y.length)).toArray}}
   rw[strsFrom_eq];exact hq (numbered s.toks _) _ ((numbered_texts _ _).trans ((if_neg (ne_true_of_eq_false h1)).trans (if_neg (ne_true_of_eq_false hf))).symm)
  .exact call_meets F.slot_str_split (typeIs_str _ _ _) F.entry_str_split (F.args_str_split_2 _ _) (meets_str_split_not_found x y t u h1 hy hf)
    (hq [(x,t)] s.toks ((if_neg (ne_true_of_eq_false h1)).trans (if_pos hf)).symm)
 .exact call_meets F.slot_str_split (typeIs_str _ _ _) F.entry_str_split (F.args_str_split_2 _ _) (meets_str_split_cannot_occur x y t u h1)
   (hq [(x,t)] s.toks (if_pos h1).symm)
def f6(x y:Str):List Str:=match occurrences x y 0 x.length 1 with
 | i ::_=>[strSub x 0 i,y,strSub x (i+y.length) x.length]
 | []=>[x,Str.empty,Str.empty]
theorem Fb{y:Str}{u:Tok}(hy:(y.length==0)=false)
 (hq:∀l k,l.map (·.1)=f6 x y->Q (.ref s.heap.objs.size) {s with toks:=k,heap:=s.heap.push {cls:= .type "tuple",data:= .seq (strValues l).toArray}}) (hsz:x.length<=sizeLine) :
 wpAny (model prog w) A (call (.builtin "str.partition") [.str x t, .str y u]) Q E s:=by
 refine call_meets F.slot_str_partition (typeIs_str _ _ _) F.entry_str_partition (F.args_str_partition_2 _ _) (meets_str_partition x y t u hy hsz) ?_;show wants Q E _ _;unfold f6 at hq;split
 .rename_i i r e;rw[e] at hq;exact hq [(strSub x 0 i,_),(y,u),(strSub x (i+y.length) x.length,_)] _ rfl
 .rename_i e;rw[e] at hq;exact hq [(x,t),(Str.empty,_),(Str.empty,_)] _ rfl
end
section
variable {X:Cx}
def nh(d:D)(ds:List D):R D:=match d,ds with
 | .str x,[.str y]=>R.aS (decide ((y.length==0)=false/\x.length<=sizeLine/\(Txt.split x y).length<=sizeLine/\(partsBetween x (occurrences x y 0 x.length (x.length+1)) y.length).length<=sizeLine)) (.ok (.lst ((Txt.split x y).map .str)))
 | _,_=> .no
def v3(d:D)(ds:List D):R D:=match d,ds with
 | .str x,[.str y]=>R.aS (decide ((y.length==0)=false/\x.length<=sizeLine)) (.ok (.tup ((f6 x y).map .str)))
 | _,_=> .no
theorem oy:∀(l:List (Str × Tok)),Vals ((l.map (·.1)).map V.str) (strValues l)
 | []=> .nil
 | p ::l=> .cons ⟨p.2,rfl⟩ (oy l)
theorem m_split:JX X "str.split" nh:=by
 intro pins s σ H B da d ds x xs v us I hb rx rxs ra rs hg;unfold nh at hg;split at hg
 .rename_i z y;obtain⟨h1,h2⟩:=R.aO hg;obtain⟨hy,hz,hn,hp⟩:=of_decide_eq_true h1;cases h2;rw[Rep.str.mp ra] at rx;obtain⟨t,rfl⟩:=rx;obtain⟨q,rfl,r⟩:=rs.one;rw[Rep.str.mp r] at rxs;obtain⟨u,rfl,ru⟩:=vals1 rxs;obtain⟨tu,rfl⟩:=ru;refine Bi hy (fun l k hl=>?_) hz hp
  have hf:H s.heap.objs.size=none:=I.hok.fresh (Nat.le_refl _);refine⟨.ref s.heap.objs.size,upd H s.heap.objs.size (.lst ((l.map (·.1)).map V.str)),I.laid (a:=s.heap.objs.size) (fun b o q=>Heap.get?_push_of_some _ q) (Nat.le_refl _) ⟨?_,strValues l,0,oy l,Heap.get?_push_size _ rfl⟩,rfl,br hf,?_⟩
  .rw [List.length_map,hl];exact hn
  .rw [hl];refine Rep.lst.mpr ⟨_,_,rfl, .inl ⟨fun ha=>?_, .inl aY⟩,oh _⟩
   obtain⟨o,ho⟩:=hb _ ha;rw[hf] at ho;cases ho
 .cases hg
theorem HF:JX X "str.partition" v3:=by
 intro pins s σ H B da d ds x xs v us I hb rx rxs ra rs hg;unfold v3 at hg;split at hg
 .rename_i z y;obtain⟨h1,h2⟩:=R.aO hg;obtain⟨hy,hz⟩:=of_decide_eq_true h1;cases h2;rw[Rep.str.mp ra] at rx;obtain⟨t,rfl⟩:=rx;obtain⟨q,rfl,r⟩:=rs.one;rw[Rep.str.mp r] at rxs;obtain⟨u,rfl,ru⟩:=vals1 rxs;obtain⟨tu,rfl⟩:=ru;refine Fb hy (fun l k hl=>?_) hz
  have hf:H s.heap.objs.size=none:=I.hok.fresh (Nat.le_refl _);refine⟨.ref s.heap.objs.size,upd H s.heap.objs.size (.tup ((l.map (·.1)).map V.str)),I.laid (a:=s.heap.objs.size) (fun b o q=>Heap.get?_push_of_some _ q) (Nat.le_refl _) ⟨?_,strValues l,oy l,_,Heap.get?_push_size _ rfl,rfl,0,rfl⟩,rfl,br hf,?_⟩
  .rw [List.length_map,hl];have:(f6 z y).length=3:=by unfold f6;split <;> rfl
   rw[this];decide
  .rw [hl];refine Rep.tup.mpr ⟨_,_,rfl, .inl ⟨fun ha=>?_, .inl aY⟩,oh _⟩
   obtain⟨o,ho⟩:=hb _ ha;rw[hf] at ho;cases ho
 .cases hg
theorem rZ{o e:Expr}{f:FD}{fs:ao->R (List D)}{apos bg:Pos}(ho:QD X o f)(ha:Bc X [e] fs)(fU:attributeBase o "split" X.env (eval o X.env)=eval o X.env:=by rfl)(kz:((backTo bg (starEach [e] X.env)).all (fun x=>!x.1) && (backToKw bg (keywordEach [] X.env)).all (fun x=>x.1.isSome)
 && decide (([e]:List Expr).length+([]:List Keyword).length+(if([]:List Keyword).isEmpty then 0 else 1) < 30))=true:=by rfl) (fS:(apos.endLine==bg.line)=true:=by rfl) (hs:starEach [e] X.env=(false,eval e X.env) ::starEach [] X.env:=by rfl):QD X (.Call (.Attribute o "split" apos) [e] [] bg) (rq "str" nh f fs):=⟨Cc F.plainAttrs_str F.slot_str_split F.type_str_split m_split ho.1 ha.1 (.inl rfl) fU kz fS hs⟩
theorem rF{o e:Expr}{f:FD}{fs:ao->R (List D)}{apos bg:Pos}(ho:QD X o f)(ha:Bc X [e] fs)(fU:attributeBase o "partition" X.env (eval o X.env)=eval o X.env:=by rfl)(kz:((backTo bg (starEach [e] X.env)).all (fun x=>!x.1) && (backToKw bg (keywordEach [] X.env)).all (fun x=>x.1.isSome)
 && decide (([e]:List Expr).length+([]:List Keyword).length+(if([]:List Keyword).isEmpty then 0 else 1) < 30))=true:=by rfl) (fS:(apos.endLine==bg.line)=true:=by rfl) (hs:starEach [e] X.env=(false,eval e X.env) ::starEach [] X.env:=by rfl):QD X (.Call (.Attribute o "partition" apos) [e] [] bg) (rq "str" v3 f fs):=⟨Cc F.plainAttrs_str F.slot_str_partition F.type_str_partition HF ho.1 ha.1 (.inl rfl) fU kz fS hs⟩
end
end L2
end
section
set_option maxHeartbeats 4000000
namespace NT
def mx(f:Nat->Nat)(w:List Nat):Nat:=(w.map f).foldl max 0
structure BA (f:Nat->Nat) (M:Nat) (bs:List Int):Prop where
 a:∀(z:Nat) (v:Int),bs[z]? =some v->v= -1\/(0<=v/\v+f z<=M)
def BB(f:Nat->Nat)(M:Nat)(bs:List Int)(n:Nat):Prop:=∃(z:Nat) (v:Int),z < n/\bs[z]? =some v/\0<=v/\(M:Int)<=v+f z
def Up(bs RB:List Int):Prop:=RB.length=bs.length/\∀(z:Nat) (v:Int),bs[z]? =some v->∃v',RB[z]? =some v'/\v<=v'
end NT
namespace NT
open PySem PySem.Spec PyProof.Rows L2 L3
structure Gt where
 k:Str
 w:List Nat
 s:Bool
def nN(z:Nat):D:= .int z
def wN(w:List Nat):D:= .tup (w.map nN)
def gN(g:Gt):D:= .tup [.str g.k,wN g.w, .bl g.s]
def iN(x:Str × Nat):D:= .tup [.str x.1, .int x.2]
def oN(x:Str × List Nat):D:= .tup [.str x.1,wN x.2]
structure Net where
 i:V8
 g:List Gt
 o:V9
def Net.d(n:Net):D:= .tup [.lst (n.i.map iN), .lst (n.g.map gN), .lst (n.o.map oN)]
def Net.first(n:Net):Nat:=(n.i.map (·.2)).sum
structure Qd (n:Nat) (w:List Nat):Prop where
 ne:w≠[]
 le:w.length<=3
 lt:∀z∈w,z < n
structure Net.Ok (n:Net):Prop where
 i1:1<=n.i.length
 i6:n.i.length<=6
 iw:∀x∈n.i,1<=x.2/\x.2<=3
 is:∀x∈n.i,jg 0 (.str x.1)
 g60:n.g.length<=60
 gw:∀(p:Nat) (g:Gt),n.g[p]? =some g->Qd (n.first+p) g.w
 gs:∀g∈n.g,jg 0 (.str g.k)
 o1:1<=n.o.length
 o6:n.o.length<=6
 ow:∀x∈n.o,Qd (n.first+n.g.length) x.2
 os:∀x∈n.o,jg 0 (.str x.1)
theorem uq:∀{l:V8},(∀x∈l,1<=x.2/\x.2<=3)->l.length<=(l.map (·.2)).sum/\(l.map (·.2)).sum<=3*l.length
 | [],_=>by simp
 | x ::l,h=>by
   have ih:=uq (l:=l) fun y hy=>h y (List.mem_cons_of_mem _ hy)
   have:=h x List.mem_cons_self;rw[List.map_cons,List.sum_cons,List.length_cons];omega
inductive Sm:Nat->D->Prop where
 | int (n:Nat) (i:Int):Sm n (.int i)
 | bl (n:Nat) (b:Bool):Sm n (.bl b)
 | str (n:Nat) (s:Str):Sm n (.str s)
 | lst {n:Nat} {ds:List D} (h:∀d∈ds,Sm n d) (hl:ds.length<=1000000):Sm (n+1) (.lst ds)
 | tup {n:Nat} {ds:List D} (h:∀d∈ds,Sm n d) (hl:ds.length<=1000000):Sm (n+1) (.tup ds)
theorem pY{F G:FS}{δ:ao}{d:D}(h:F δ= .ok (.rt d)):bK F G δ= .ok (.rt d):=by unfold bK;rw [h];rfl
theorem xo{α:Type}{l:List α}{f:α->D}{i:Nat}{v:V3}(h:((l.map f).map V3.d)[i]? =some v):∃x,l[i]? =some x/\v= .d (f x):=by
 rw[List.getElem?_map,List.getElem?_map] at h;cases q:l[i]? with
 | none=>rw [q] at h;cases h
 | some x=>rw [q] at h;cases h;exact⟨x,rfl,rfl⟩
theorem iu{α:Type}{l:List α}{f:α->D}{i:Nat}{v:D}(h:(l.map f)[i]? =some v):∃x,l[i]? =some x/\v=f x:=by
 rw[List.getElem?_map] at h;cases q:l[i]? with
 | none=>rw [q] at h;cases h
 | some x=>rw [q] at h;cases h;exact⟨x,rfl,rfl⟩
theorem c6{α:Type}{t:FT}{c:ao->R Bool}{f:FD}{δ:ao}(a b:α->D):∀{xs:List α},(∀x∈xs,∃δ1,t (a x) δ= .ok δ1/\c δ1= .ok true/\f δ1= .ok (b x))->nG t c f δ (xs.map a)= .ok (xs.map b)
 | [],_=>rfl
 | x ::xs,h=>by
   obtain⟨δ1,h1,h2,h3⟩:=h x List.mem_cons_self;have ih:=c6 (t:=t) (c:=c) (f:=f) (δ:=δ) a b (xs:=xs) fun y hy=>h y (List.mem_cons_of_mem _ hy)
   rw[List.map_cons];unfold nG;rw[h1,R.aI,h2,R.aI,if_pos rfl,h3,R.aI,ih];rfl
theorem m6{α:Type}{t:FT}{c:ao->R Bool}{f:FD}{δ:ao}(p:α->Bool)(a b:α->D):∀{xs:List α},(∀x∈xs,∃δ1,t (a x) δ= .ok δ1/\c δ1= .ok (p x)/\(p x=true->f δ1= .ok (b x)))->nG t c f δ (xs.map a)= .ok ((xs.filter p).map b)
 | [],_=>rfl
 | x ::xs,h=>by
   obtain⟨δ1,h1,h2,h3⟩:=h x List.mem_cons_self;have ih:=m6 (t:=t) (c:=c) (f:=f) (δ:=δ) p a b (xs:=xs) fun y hy=>h y (List.mem_cons_of_mem _ hy)
   rw[List.map_cons];unfold nG;rw[h1,R.aI,h2,R.aI];cases e:p x with
   | true=>rw [if_pos rfl,h3 e,R.aI,ih,List.filter_cons,if_pos e];rfl
   | false=>rw [if_neg (by decide),ih,List.filter_cons,if_neg (by rw[e];decide)]
theorem Fc{n z:Nat}(h:z < n):CY n (z:Int)=some z:=by
 unfold CY;rw[if_pos (by omega),if_pos (by omega)]
 simp
theorem CS{α:Type}{xs:List α}{z:Nat}{x:α}(h:xs[z]? =some x):um xs (z:Int)=some x:=by
 have hl:=(List.getElem?_eq_some_iff.mp h).1;unfold um;rw[Fc hl];exact h
theorem cK{ds:List D}{z:Nat}{x:D}(h:ds[z]? =some x):dC (.lst ds) (.int z)= .ok x:=G6 (CS h)
end NT
end
section
namespace MT
open PySem PySem.Spec PyProof.Rows L2 L3
abbrev M:=Nat->Bool
theorem NR{N:List Str}{F:FZ}{vs:List V3}{δ:DE}{S:aQ}{QV:V3->aQ->Prop}(e:d4 N vs=δ)(h:W3 (F δ S) fun o S1=>∃c5,o= .nx c5/\QV (.d .cH) S1):W3 (sg N F vs S) QV:=by
 subst e;exact W3.bind (h.mono fun _ _ ⟨_,e,q⟩=>by subst e;exact W3.ok q)
def Q0:Nat->M->Nat
 | 0,_=>0
 | N+1,f=>(if f 0 then 1 else 0)+2*Q0 N (fun i=>f (i+1))
def mI(N:Nat)(f:M):D:= .int (Q0 N f:Nat)
def one:M:=fun _=>true
def bI(b:Bool):D:= .int (if b then 1 else 0)
def R6:List Bool->Nat
 | []=>0
 | b ::bs=>(if b then 1 else 0)+2*R6 bs
def nI(n:Nat):D:= .int (n:Int)
def kS:Nat->Str | 0=>"not" | 1=>"and" | 2=>"or" | 3=>"xor" | _=>"vote"
def ar:Nat->Nat | 0=>1 | 4=>3 | _=>2
theorem yg(k:Nat):ar k<=3:=by unfold ar;split <;> omega
def gv:Nat->List Bool->Bool
 | 0,[a]=>!a
 | 1,[a,b]=>a && b
 | 2,[a,b]=>a || b
 | 3,[a,b]=>a !=b
 | 4,[a,b,c]=>(a && b) || (a && c) || (b && c)
 | _,_=>false
def Rc(ws:List M)(n:Nat):M:=ws.getD n fun _=>false
abbrev Gt:=Nat × List Nat × Bool
def eE(g:Gt):D:= .tup [.str (kS g.1), .tup (g.2.1.map nI), .bl g.2.2]
def Fv(n:Nat)(g:Gt):Prop:=g.1<=4/\g.2.1.length=ar g.1/\∀w∈g.2.1,w < n
def inD(x:Str × Nat):D:= .tup [.str x.1,nI x.2]
def kE(x:Str × List Nat):D:= .tup [.str x.1, .tup (x.2.map nI)]
def cQ(ins:V8)(gs:List Gt)(os:V9):D:= .tup [.lst (ins.map inD), .lst (gs.map eE), .lst (os.map kE)]
def ji(ins:V8):Nat:=(ins.map (·.2)).sum
def gF(g:Gt)(ws:List M):M:=fun p=>gv g.1 (g.2.1.map fun n=>Rc ws n p)
def CV(bad:List Int)(b:M):Nat->List M->List M
 | 0,ws=>ws
 | n+1,ws=>CV bad b n ws++[fun p=>b p !=bad.contains ((CV bad b n ws).length:Int)]
def Jb(ins:V8)(bits:List M)(bad:List Int):Nat->List M
 | 0=>[]
 | i+1=>match ins[i]?,bits[i]? with | some x,some b=>CV bad b x.2 (Jb ins bits bad i) | _,_=>Jb ins bits bad i
def Mx(gs:List Gt)(turned:List Int)(w0:List M):Nat->List M
 | 0=>w0
 | i+1=>match gs[i]? with | some g=>Mx gs turned w0 i++[fun p=>gF g (Mx gs turned w0 i) p !=turned.contains (i:Int)] | none=>Mx gs turned w0 i
structure Qu (ins:V8) (gs:List Gt) (os:V9):Prop where
 hi:ins.length < 100
 hw:∀x∈ins,x.2 < 100
 hg:gs.length < 1000
 g:∀(i:Nat) (x:Gt),gs[i]? =some x->Fv (ji ins+i) x
 ho:os.length < 1000
 o:∀x∈os,x.2.length < 1000/\∀w∈x.2,w < ji ins+gs.length
def Su(ins:V8)(gs:List Gt)(bits:List M)(turned bad:List Int):List M:=Mx gs turned (Jb ins bits bad ins.length) gs.length
def tell(ws:List M)(x:Str × List Nat):List M:=x.2.map (Rc ws)
def VD:List Bool->Bool × Bool
 | [a]=>(!a,a)
 | [a,b]=>(!(a || b),a && b)
 | [a,b,c]=>let v:=(a && b) || (a && c) || (b && c);(!v,v)
 | _=>(false,false)
def brk(safe:Bool)(x y:Bool × Bool):Bool:=if safe then(x.1 && y.2) || (x.2 && y.1) else(x.1 !=y.1) || (x.2 !=y.2)
def RV:List Nat->Nat->V_
 | _,0=>[[]]
 | ps,s+1=>(List.range ps.length).flatMap fun a=>(RV (ps.drop (a+1)) s).map (ps.getD a 0 ::·)
theorem ub:∀{l:List Nat} {m:Nat},(∀x∈l,x<=m)->l.sum<=l.length*m
 | [],_,_=>by simp
 | x ::l,m,h=>by
   have:=ub (l:=l) (m:=m) fun y hy=>h y (List.mem_cons_of_mem _ hy)
   have h0:=h x List.mem_cons_self;rw[List.sum_cons,List.length_cons,Nat.add_mul];omega
end MT
end
section
set_option maxHeartbeats 1000000
namespace JT
open PySem PySem.Spec PyProof.Rows L2 L3 MT
def gB(g:Gt)(ws:List Bool):Bool:=gv g.1 (g.2.1.map fun n=>ws.getD n false)
def t4:List Gt->(Nat->Bool)->List Bool->List Bool
 | [],_,ws=>ws
 | g ::gs,T,ws=>t4 gs (fun i=>T (i+1)) (ws++[gB g ws !=T 0])
def Lh(f:Nat->Nat)(g:Gt):Gt:=(g.1,g.2.1.map f,g.2.2)
def TQ(f:Nat->Nat)(x:Str × List Nat):Str × List Nat:=(x.1,x.2.map f)
def Sh(f:Nat->Nat)(v ws:List Bool):Prop:=∀w,w < v.length->f w < ws.length/\ws.getD (f w) false=v.getD w false
def VL(p:Nat)(ws:List M):List Bool:=ws.map (· p)
def FH:List (Str × Nat)->List Bool->List Bool
 | x ::ins,b ::bits=>List.replicate x.2 b++FH ins bits
 | _,_=>[]
def Bx(k:Nat)(bad:Nat->Bool):List Bool->List Bool
 | []=>[]
 | b ::bs=>(b !=bad k) ::Bx (k+1) bad bs
def Nq(ins:V8)(gs:List Gt)(bits:List Bool)(T bad:Nat->Bool):List Bool:=t4 gs T (Bx 0 bad (FH ins bits))
end JT
end
section
namespace JT
open PySem PySem.Spec PyProof.Rows L2 L3 MT
def uU(ws:List Bool)(ns:List Nat):List Bool:=ns.map fun n=>ws.getD n false
def Dh(f:Nat->List Bool):List (Option Nat × Nat)->List Bool->List Bool
 | [],_=>[]
 | (some o,_) ::r,l=>f o++Dh f r l
 | (none,w) ::r,l=>l.take w++Dh f r (l.drop w)
def EU(f1:Nat->Nat)(os:Nat->List Nat):List (Option Nat × Nat)->Nat->List Nat
 | [],_=>[]
 | (some o,_) ::r,free=>(os o).map f1++EU f1 os r free
 | (none,w) ::r,free=>List.range' free w++EU f1 os r (free+w)
def qA:List (Option Nat × Nat)->Nat
 | []=>0
 | (some _,_) ::r=>qA r
 | (none,w) ::r=>w+qA r
def N9(n1 l w:Nat):Nat:=if w < n1 then w else w+l
def Q6(L:List Nat)(top w:Nat):Nat:=if w < L.length then L.getD w 0 else top+(w - L.length)
section
variable {gs1 J_:List Gt} {φ:List (Option Nat × Nat)} {os:Nat->List Nat} {n1:Nat} {r1 rl:List Bool} {T:Nat->Bool}
def gJ(gs1 J_:List Gt)(φ:List (Option Nat × Nat))(os:Nat->List Nat)(n1:Nat):List Gt:=
 gs1.map (Lh (N9 n1 (qA φ)))++J_.map (Lh (Q6 (EU (N9 n1 (qA φ)) os φ n1) (n1+qA φ+gs1.length)))
end
def J6(bits:List Bool):List Bool:=bits.flatMap (List.replicate 3)
def Qp:List Bool->Bool
 | [a,b,c]=>(a && b) || (a && c) || (b && c)
 | _=>false
def Qq:List Bool->Bool
 | [a,b,c]=>(a !=b) || (a !=c)
 | _=>false
def SA(xs ys:List Bool):List Bool:=List.zipWith (· !=·) xs ys
def lst(xs ys:List Bool):Bool:=Qp (SA xs ys)
def KP:List Bool->List Bool->Prop
 | [],r=>r=[]
 | b ::bs,r=>∃x y z r',r=x ::y ::z ::r'/\Qp [b !=x,b !=y,b !=z]=false/\KP bs r'
def no:Nat->Bool:=fun _=>false
structure Se (c:Nat) (gs:List Gt) (os:V9):Prop where
 a:∀bits:List Bool,bits.length=c->∀x∈os,Qq (uU (t4 gs no (J6 bits)) x.2)=false
 b:∀bits:List Bool,bits.length=c->∀i g,gs[i]? =some g->g.2.2=false->∀x∈os,lst (uU (t4 gs no (J6 bits)) x.2) (uU (t4 gs (fun j=>j==i) (J6 bits)) x.2)=false
 c:∀bits row:List Bool,bits.length=c->KP bits row->∀x∈os,lst (uU (t4 gs no (J6 bits)) x.2) (uU (t4 gs no row) x.2)=false
def yV(v:Nat->Bool):List (Option Nat × Nat)->List Bool->List Bool
 | [],_=>[]
 | (some o,_) ::r,l=>v o ::yV v r l
 | (none,_) ::r,l=>l.headD false ::yV v r l.tail
def many:List (Option Nat × Nat)->Nat
 | []=>0
 | (some _,_) ::r=>many r
 | (none,_) ::r=>many r+1
end JT
end
section
namespace JT
open PySem PySem.Spec PyProof.Rows L2 L3 MT
structure Vi (c1:Nat) (gs1 J_:List Gt) (L6 MF:V9) (φ:List (Option Nat × Nat)) (os:Nat->List Nat):Prop where
 h3:∀x∈φ,x.2=3
 g1:∀i g,gs1[i]? =some g->∀w∈g.2.1,w < 3*c1+i
 g2:∀i g,J_[i]? =some g->∀w∈g.2.1,w < 3*φ.length+i
 o1:∀x∈L6,x.2.length=3/\∀n∈x.2,n < 3*c1+gs1.length
 o2:∀x∈MF,x.2.length=3/\∀n∈x.2,n < 3*φ.length+J_.length
 ho:∀o w,(some o,w)∈φ->∃x∈L6,x.2=os o
section
variable {c1:Nat} {gs1 J_:List Gt} {L6 MF Rv:V9} {φ:List (Option Nat × Nat)} {os:Nat->List Nat}
abbrev Q2(c1:Nat)(φ:List (Option Nat × Nat)):Nat->Nat:=N9 (3*c1) (qA φ)
abbrev SM(c1:Nat)(gs1:List Gt)(φ:List (Option Nat × Nat))(os:Nat->List Nat):Nat->Nat:=Q6 (EU (Q2 c1 φ) os φ (3*c1)) (3*c1+qA φ+gs1.length)
def Qe(c1:Nat)(gs1:List Gt)(L6 MF Rv:V9)(φ:List (Option Nat × Nat))(os:Nat->List Nat):Prop:=
 ∀x∈Rv,(∃y∈L6,x.2=y.2.map (Q2 c1 φ))\/∃y∈MF,x.2=y.2.map (SM c1 gs1 φ os)
end
end JT
end
section
namespace JT
open PySem PySem.Spec PyProof.Rows L2 L3 MT
def Bn:Nat->List (List Bool)
 | 0=>[[]]
 | c+1=>(Bn c).flatMap fun b=>[b++[false],b++[true]]
def TB(c j:Nat):M:=fun p=>((Bn c).getD p []).getD j false
def T8(c:Nat):List M:=(List.range c).map (TB c)
def GC(c p:Nat):List Bool:=(Bn c).getD p []
def Qt(f e:Nat):Nat->V_
 | 0=>[[]]
 | m+1=>(List.range' f (e - f)).flatMap fun w=>(Qt ((w / 3+1)*3) e m).map (w ::·)
def Sb(f e:Nat):List Nat->Prop
 | []=>True
 | w ::B=>f<=w/\w < e/\Sb ((w / 3+1)*3) e B
def NW(c:Nat)(gs:List Gt):List (List Nat × List Nat):=
 (gs.zipIdx.filter (fun x=>!x.1.2.2)).map (fun x=>(([]:List Nat),[x.2]))++(List.range' 1 c).flatMap fun m=>(Qt 0 (3*c) m).map fun B=>(B,([]:List Nat))
def CH(c:Nat)(gs:List Gt)(p:Nat):List Bool:=t4 gs no (J6 (GC c p))
def HN(c:Nat)(gs:List Gt)(f:List Nat × List Nat)(p:Nat):List Bool:=t4 gs (fun i=>f.2.contains i) (Bx 0 (fun n=>f.1.contains n) (J6 (GC c p)))
def N0(c:Nat)(gs:List Gt)(os:V9)(p:Nat):Bool:=os.any fun x=>Qq (uU (CH c gs p) x.2)
def Lf(c:Nat)(gs:List Gt)(os:V9)(f:List Nat × List Nat)(p:Nat):Bool:=os.any fun x=>lst (uU (CH c gs p) x.2) (uU (HN c gs f p) x.2)
def NX(c:Nat)(gs:List Gt)(os:V9):Option (List Nat × List Nat × Nat):=
 match (List.range (2 ^ c)).find? (N0 c gs os) with
 | some p=>some ([],[],p)
 | none=>(NW c gs).findSome? fun f=>((List.range (2 ^ c)).find? (Lf c gs os f)).map fun p=>(f.1,f.2,p)
end JT
end
section
namespace JT
open PySem PySem.Spec PyProof.Rows L2 L3 MT
theorem f7{a b:Nat}(h:0 < b):dO (nI a) (nI b)= .ok (nI (a % b)):=by
 show dO (.int a) (.int b)=_;rw[qW (by omega)];rfl
theorem nB{a b:Nat}(h:0 < b)(h2:b < 1073741824):dF (nI a) (nI b)= .ok (nI (a / b)):=by
 show dF (.int a) (.int b)=_;rw[yE (by omega) (by omega)];rfl
theorem kJ(a b:Nat):cj (nI a) (nI b)= .ok (nI (a+b)):=rfl
theorem Bt{a b:Nat}(h:b<=a):z_ (nI a) (nI b)= .ok (nI (a - b)):=by
 show R.ok (D.int ((a:Int) - b))=R.ok (D.int ((a - b:Nat):Int));rw[Int.ofNat_sub h]
theorem K3{a b:Nat}(h:b < 1000000\/a < 1000000):mv (nI a) (nI b)= .ok (nI (a*b)):=by
 show R.aS (decide _) (R.ok (D.int ((a:Int)*b)))=_;have hc:(-(2 ^ 64) < (a:Int)/\(a:Int) < 2 ^ 64)\/(-(2 ^ 64) < (b:Int)/\(b:Int) < 2 ^ 64):=by
  rcases h with h | h
  .exact .inr ⟨by omega,by omega⟩
  .exact .inl ⟨by omega,by omega⟩
 rw[bD _ hc];rfl
theorem vG(a b:Nat):rL (nI a) (nI b)= .ok (.bl (decide (a=b))):=by
 show R.ok (D.bl ((a:Int)==(b:Int)))=_;congr 2;by_cases h:a=b
 .rw [decide_eq_true h];exact beq_iff_eq.mpr (by omega)
 .rw [decide_eq_false h];exact beq_eq_false_iff_ne.mpr (by omega)
theorem EM(a b:Nat):J9 (nI a) (nI b)= .ok (.bl (decide (b < a))):=by
 show R.ok (D.bl (decide ((a:Int) > (b:Int))))=_;congr 2;by_cases h:b < a
 .rw [decide_eq_true h,decide_eq_true (by omega)]
 .rw [decide_eq_false h,decide_eq_false (by omega)]
theorem B4(a b:Nat):J2 (nI a) (nI b)= .ok (.bl (decide (a < b))):=by
 show R.ok (D.bl (decide ((a:Int) < (b:Int))))=_;congr 2;by_cases h:a < b
 .rw [decide_eq_true h,decide_eq_true (by omega)]
 .rw [decide_eq_false h,decide_eq_false (by omega)]
theorem G_(a b:Nat):JF (nI a) (nI b)= .ok (.bl (decide (b<=a))):=by
 show R.ok (D.bl (decide ((a:Int)>=(b:Int))))=_;congr 2;by_cases h:b<=a
 .rw [decide_eq_true h,decide_eq_true (by omega)]
 .rw [decide_eq_false h,decide_eq_false (by omega)]
theorem N8(a b:Nat):NJ (nI a) (nI b)= .ok (.bl (decide (a<=b))):=by
 show R.ok (D.bl (decide ((a:Int)<=(b:Int))))=_;congr 2;by_cases h:a<=b
 .rw [decide_eq_true h,decide_eq_true (by omega)]
 .rw [decide_eq_false h,decide_eq_false (by omega)]
theorem Lk{a b:Nat}:zo [nI a,nI b]= .ok (nI (min a b)):=by
 show CB [.int a, .int b]=_;unfold CB;show R.ok (D.int (if(b:Int) < a then b else a))=_
 unfold nI;congr 2;split <;> omega
theorem hX{ds:List D}:jO [.lst ds]= .ok (nI ds.length):=rfl
theorem qb{f:FD}{δ:ao}{n:Nat}(h:f δ= .ok (nI n))(hn:n < 1000000):fu f δ= .ok ((List.range n).map nI):=by
 rw[D8 h hn];unfold pJ;congr 1;refine List.map_congr_left fun i _=>?_
 show D.int (0+(i:Int))=D.int (i:Int);rw[Int.zero_add]
def Vr(T:List Nat):D:= .tup (T.map nI)
def VF(r:Nat):Nat:=[1,2,3,4,0].getD (r % 5) 0
theorem KI{f:FD}{δ:ao}{k:Nat}(hk:k<=4)(h:f δ= .ok (.str (kS k))):Ct [((Sum.inr "not":Key),V.int 1),((Sum.inr "vote":Key),V.int 3)] f (eC (.int 2)) δ= .ok (nI (ar k)):=by
 unfold Ct;rw[h,R.aI]
 match k,hk with
 | 0,_=>rfl
 | 1,_=>rfl
 | 2,_=>rfl
 | 3,_=>rfl
 | 4,_=>rfl
end JT
end
section
namespace JT
open PySem PySem.Spec PyProof.Rows L2 L3 MT
end JT
end
section
namespace TX
open PySem PySem.Spec PyProof.Rows L2 Builtin Builtin.Str
abbrev SP:Str:=Str.ofString " "
abbrev NL:Str:=Str.ofString "\n"
abbrev CO:Str:=Str.ofString ":"
theorem A5:SP=⟨#[32]⟩:=by decide+kernel
theorem vz:NL=⟨#[10]⟩:=by decide+kernel
theorem rV:CO=⟨#[58]⟩:=by decide+kernel
def jn(c:Nat):List (List Nat)->List Nat
 | []=>[]
 | [x]=>x
 | x ::y ::r=>x++c ::jn c (y ::r)
theorem jU(c:Nat):∀l:List Str,(Str.join ⟨#[c]⟩ l).cps.toList=jn c (l.map fun s=>s.cps.toList)
 | []=>rfl
 | [x]=>rfl
 | x ::y ::r=>by
   show(x++(⟨#[c]⟩:Str)++Str.join ⟨#[c]⟩ (y ::r)).cps.toList=_;rw[cW,cW,jU c (y ::r),List.append_assoc];rfl
theorem zf{c:Nat}:∀{x x' a b:List Nat},c ∉ x->c ∉ x'->x++c ::a=x'++c ::b->x=x'/\a=b
 | [],[],a,b,_,_,h=>by cases h;exact⟨rfl,rfl⟩
 | [],y ::ys,a,b,_,h2,h=>by
   have:c=y:=(List.cons.inj h).1;exact absurd (by rw[this];exact List.mem_cons_self) h2
 | y ::ys,[],a,b,h1,_,h=>by
   have:y=c:=(List.cons.inj h).1;exact absurd (by rw[this];exact List.mem_cons_self) h1
 | y ::ys,z ::zs,a,b,h1,h2,h=>by
   obtain⟨e1,e2⟩:=List.cons.inj h;obtain⟨e3,e4⟩:=zf (fun q=>h1 (List.mem_cons_of_mem _ q)) (fun q=>h2 (List.mem_cons_of_mem _ q)) e2
   exact⟨by rw[e1,e3],e4⟩
theorem CL{c:Nat}:∀{l l':V_},l≠[]->l'≠[]->(∀x∈l,c ∉ x)->(∀x∈l',c ∉ x)->jn c l=jn c l'->l=l'
 | [],_,h,_,_,_,_=>absurd rfl h
 | _,[],_,h,_,_,_=>absurd rfl h
 | [x],[y],_,_,_,_,e=>by rw[show x=y from e]
 | [x],y ::z ::r,_,_,h1,_,e=>by
   have e:x=y++c ::jn c (z ::r):=e;exact absurd (by rw[e];simp) (h1 x List.mem_cons_self)
 | y ::z ::r,[x],_,_,_,h2,e=>by
   have e:y++c ::jn c (z ::r)=x:=e;exact absurd (by rw[<-e];simp) (h2 x List.mem_cons_self)
 | x ::x2 ::r,y ::y2 ::s,_,_,h1,h2,e=>by
   obtain⟨e1,e2⟩:=zf (h1 x List.mem_cons_self) (h2 y List.mem_cons_self) (show x++c ::jn c (x2 ::r)=y++c ::jn c (y2 ::s) from e)
   rw[e1,CL (by simp) (by simp) (fun z hz=>h1 z (List.mem_cons_of_mem _ hz)) (fun z hz=>h2 z (List.mem_cons_of_mem _ hz)) e2]
theorem map_inj{α β:Type}{f:α->β}(hf:∀a b,f a=f b->a=b):∀{l l':List α},l.map f=l'.map f->l=l'
 | [],[],_=>rfl
 | [],_ ::_,h=>by cases h
 | _ ::_,[],h=>by cases h
 | a ::l,b ::l',h=>by
   obtain⟨e1,e2⟩:=List.cons.inj h;rw[hf a b e1,map_inj hf e2]
theorem qC{c:Nat}{l:List Str}(p_:l≠[])(hf:∀p∈l,c ∉ p.cps.toList):Txt.split (Str.join ⟨#[c]⟩ l) ⟨#[c]⟩=l:=by
 have h1:=StrLaws.join_split (Str.join ⟨#[c]⟩ l) ⟨#[c]⟩;have h2:=StrLaws.split_free (Str.join ⟨#[c]⟩ l) c;have h3:=split_pos (Str.join ⟨#[c]⟩ l) ⟨#[c]⟩;generalize Txt.split (Str.join ⟨#[c]⟩ l) ⟨#[c]⟩=m at h1 h2 h3;have h4:jn c (m.map fun s=>s.cps.toList)=jn c (l.map fun s=>s.cps.toList):=by rw[<-jU,<-jU,h1]
 refine map_inj (f:=fun s:Str=>s.cps.toList) (fun a b e=>iz e) (CL (c:=c) ?_ ?_ ?_ ?_ h4)
 .intro q;rw [List.map_eq_nil_iff] at q;rw [q] at h3;simp at h3
 .intro q;rw [List.map_eq_nil_iff] at q;exact p_ q
 .intro x hx;obtain⟨s,hs,rfl⟩:=List.mem_map.mp hx;exact h2 s hs
 .intro x hx;obtain⟨s,hs,rfl⟩:=List.mem_map.mp hx;exact hf s hs
theorem vC{x:Str}{c:Nat}(h:x.length<=10000000):nh (.str x) [.str ⟨#[c]⟩]= .ok (.lst ((Txt.split x ⟨#[c]⟩).map .str)):=by
 have hz:sizeLine=16777216:=sizeLine_eq;have h1:=split_le x ⟨#[c]⟩;have h2:=StrLaws.occ_length_le x ⟨#[c]⟩ 0 x.length (x.length+1);unfold nh;refine bD _ ⟨rfl,by omega,by omega,?_⟩
 unfold partsBetween;rw[List.length_map,List.length_zip];simp;omega
abbrev oW:List Str:=[Str.ofString "in",Str.ofString "gate",Str.ofString "sure",Str.ofString "out",Str.ofString "not",Str.ofString "and",Str.ofString "or",Str.ofString "xor",Str.ofString "vote"]
def low(s:Str):Bool:=s.cps.toList.all fun c=>decide (97<=c/\c<=122)
def isNm(s:Str):Bool:=decide (1<=s.length) && (decide (s.length<=8) && (!oW.contains s && low s))
theorem dD{s:Str}:isNm s=true↔1<=s.length/\s.length<=8/\s ∉ oW/\∀c∈s.cps.toList,97<=c/\c<=122:=by
 unfold isNm low;simp only[Bool.and_eq_true,decide_eq_true_eq,Bool.not_eq_true',List.all_eq_true];constructor
 .rintro⟨h1,h2,h3,h4⟩;refine⟨h1,h2,fun q=>?_,h4⟩
  have h5:=List.contains_iff_mem.mpr q;rw[h3] at h5;cases h5
 .rintro⟨h1,h2,h3,h4⟩;refine⟨h1,h2,?_,h4⟩;cases h:oW.contains s with
  | false=>rfl
  | true=>exact absurd (List.contains_iff_mem.mp h) h3
abbrev wL:Str:=Str.ofString "abcdefghijklmnopqrstuvwxyz"
theorem rR:wL.cps.toList=(List.range 26).map (97+·):=by decide+kernel
theorem yu{c:Nat}:c∈wL.cps.toList↔97<=c/\c<=122:=by
 rw[rR,List.mem_map];constructor
 .rintro⟨i,hi,rfl⟩;have:=List.mem_range.mp hi;omega
 .intro h;exact⟨c - 97,List.mem_range.mpr (by omega),by omega⟩
theorem IK(c:Nat):yi (.str ⟨#[c]⟩) (.str wL)= .ok (.bl (decide (97<=c/\c<=122))):=by
 show R.ok (D.bl (!(occurrences wL ⟨#[c]⟩ 0 wL.length 1).isEmpty))=_;rw[StrLaws.found_one];congr 2;by_cases h:97<=c/\c<=122
 .rw [decide_eq_true h,decide_eq_true (yu.mpr h)]
 .rw [decide_eq_false h,decide_eq_false fun q=>h (yu.mp q)]
theorem sr{x:Str}{c:Nat}(h:c ∉ x.cps.toList):f6 x ⟨#[c]⟩=[x,Str.empty,Str.empty]:=by
 have h1:=StrLaws.found_one x c;rw[decide_eq_false h] at h1;unfold f6;cases ho:occurrences x ⟨#[c]⟩ 0 x.length 1 with
 | nil=>rfl
 | cons i r=>rw [ho] at h1;cases h1
theorem rY{x a b:Str}{c:Nat}(h:c ∉ a.cps.toList)(e:x=a++⟨#[c]⟩++b):f6 x ⟨#[c]⟩=[a,⟨#[c]⟩,b]:=by
 have uu:x.cps.toList=a.cps.toList++c ::b.cps.toList:=by rw[e,cW,cW,List.append_assoc];rfl
 have hL:x.length=a.length+(b.length+1):=by
  show x.cps.size=a.cps.size+(b.cps.size+1);rw[<-Array.length_toList,<-Array.length_toList,<-Array.length_toList,uu];simp
 have hat:∀i,StrLaws.At x ⟨#[c]⟩ x.length i↔x.cps.toList[i]? =some c:=fun i=>StrLaws.subAt_one x c i
 unfold f6;have ha:x.cps.toList[a.length]? =some c:=by
  rw[uu,List.getElem?_append_right (by show a.cps.toList.length<=a.cps.size;simp)]
  show(c ::b.cps.toList)[a.cps.size - a.cps.toList.length]? =_;simp
 rcases StrLaws.occ_head x ⟨#[c]⟩ 1 (Nat.le_refl _) with⟨_,h1⟩ | ⟨i,r,e1,h1,h2⟩
 .exact absurd ((hat _).mpr ha) (h1 _)
 .have hi:i=a.length:=by
   have h3:¬a.length < i:=fun q=>h2 _ q ((hat _).mpr ha)
   by_cases q:i < a.length
   .have h4:=(hat i).mp h1;rw[uu,List.getElem?_append_left (by show i < a.cps.toList.length;rw [Array.length_toList];exact q)] at h4
    exact absurd (List.mem_of_getElem? h4) h
   .omega
  rw[e1,hi];have s1:strSub x 0 a.length=a:=iz (by
   show(x.cps.extract 0 a.length).toList=_;rw[Array.toList_extract,uu];show(List.take (a.cps.size - 0) (List.drop 0 (a.cps.toList++_)))=_;simp)
  have s2:strSub x (a.length+(⟨#[c]⟩:Str).length) x.length=b:=iz (by
   show(x.cps.extract (a.length+1) x.length).toList=_;rw[Array.toList_extract,uu,hL];show(List.take (a.cps.size+(b.cps.size+1) - (a.cps.size+1)) (List.drop (a.cps.size+1) (a.cps.toList++c ::b.cps.toList)))=_;rw[show a.cps.size+1=(a.cps.toList++[c]).length by simp,show a.cps.toList++c ::b.cps.toList=(a.cps.toList++[c])++b.cps.toList by simp,List.drop_left,List.take_of_length_le (by simp;omega)])
  simp only;rw[s1,s2]
abbrev z0:List Str:=[Str.ofString "0",Str.ofString "1",Str.ofString "2",Str.ofString "3",Str.ofString "4",Str.ofString "5",Str.ofString "6",Str.ofString "7",Str.ofString "8",Str.ofString "9"]
def kQ(w:Str):Bool:=isNm ((f6 w CO).getD 0 Str.empty) && (((f6 w CO).getD 1 Str.empty==Str.empty) || z0.contains ((f6 w CO).getD 2 Str.empty))
theorem yq{s:Str}(h:isNm s=true){c:Nat}(hc:c < 97\/122 < c):c ∉ s.cps.toList:=fun q=>by
 have:=(dD.mp h).2.2.2 c q;omega
theorem Gz(h:isNm s=true):kQ s=true:=by
 unfold kQ;rw[rV,sr (yq h (by omega))]
 show(isNm s && (Str.empty==Str.empty || _))=true
 rw[h];rfl
theorem Ic{s f:Str}(h:isNm s=true)(hf:f∈z0):kQ (s++CO++f)=true:=by
 unfold kQ;rw[show f6 (s++CO++f) CO=[s,CO,f] by rw[rV];exact rY (yq h (by omega)) rfl]
 show(isNm s && (_ || z0.contains f))=true
 rw[h,List.contains_iff_mem.mpr hf,Bool.or_true];rfl
theorem Di(w c:Str):∃a b d,f6 w c=[a,b,d]:=by
 unfold f6;split
 .exact⟨_,_,_,rfl⟩
 .exact⟨_,_,_,rfl⟩
abbrev DI:List (Str × Int):=[(Str.ofString "1",1),(Str.ofString "2",2),(Str.ofString "3",3)]
abbrev wx:List (Str × Int):=[(Str.ofString "not",1),(Str.ofString "and",2),(Str.ofString "or",2),(Str.ofString "xor",2),(Str.ofString "vote",3)]
def wd(ws:List Str)(i:Nat):Str:=ws.getD i Str.empty
def BI(ws:List Str):Bool:=decide (ws.length=3) && ((wd ws 0==Str.ofString "in") && (isNm (wd ws 1) && (DI.lookup (wd ws 2)).isSome))
def CK(ws:List Str):Bool:=(decide (4<=ws.length) && [Str.ofString "gate",Str.ofString "sure"].contains (wd ws 0)) && ((isNm (wd ws 1) && (wx.lookup (wd ws 2)).isSome) && (decide (((ws.drop 3).length:Int)=(wx.lookup (wd ws 2)).getD 0) && (ws.drop 3).all kQ))
def Gs(ws:List Str):Bool:=(decide (3<=ws.length) && ((wd ws 0==Str.ofString "out") && isNm (wd ws 1))) && (decide ((ws.drop 2).length<=3) && (ws.drop 2).all kQ)
section
variable {f g:FD} {p q:ao->R Bool} {δ:ao} {a b:Bool}
theorem kU(h:p δ= .ok a)(h2:a=false->q δ= .ok b):zp p q δ= .ok (a || b):=by
 unfold zp;rw [h,R.aI];cases a with
 | true=>rfl
 | false=>rw [if_neg (by decide)];exact h2 rfl
theorem za(h:p δ= .ok a)(h2:a=true->q δ= .ok b):tf p q δ= .ok (a && b):=by
 unfold tf;rw [h,R.aI];cases a with
 | true=>rw [if_pos rfl];exact h2 rfl
 | false=>rfl
theorem ma(h:f δ= .ok (.bl a))(h2:a=true->g δ= .ok (.bl b)):rJ f g δ= .ok (.bl (a && b)):=by
 unfold rJ;rw [A8 h,R.aI];cases a with
 | true=>rw [if_pos rfl];exact h2 rfl
 | false=>rfl
theorem HK(h:f δ= .ok (.bl a))(h2:a=false->g δ= .ok (.bl b)):KW f g δ= .ok (.bl (a || b)):=by
 unfold KW;rw [A8 h,R.aI];cases a with
 | true=>rfl
 | false=>rw [if_neg (by decide)];exact h2 rfl
theorem yZ(h:p δ= .ok a):Ax p δ= .ok (!a):=by unfold Ax;rw [h];rfl
theorem nQ(h:f δ= .ok (.bl a)):sW f δ= .ok a:=by unfold sW;rw [h];rfl
theorem yh{c:ao->R Bool}{G:FS}(h:c δ= .ok a)(h2:a=false->G δ= .ok (.rt (.bl b))):bK (sv c (fX (eC (.bl false))) mq) G δ= .ok (.rt (.bl (!a && b))):=by
 cases a with
 | true=>exact NT.pY (pz h rfl)
 | false=>exact aE (pq h rfl) (h2 rfl)
theorem sI{ws:List Str}{i:Nat}(h:i < ws.length):dC (.lst (ws.map .str)) (.int i)= .ok (.str (wd ws i)):=by
 refine NT.cK ?_;rw[List.getElem?_map,List.getElem?_eq_getElem h];unfold wd;rw[List.getD_eq_getElem?_getD,List.getElem?_eq_getElem h];rfl
theorem tM(x y:Str):rL (.str x) (.str y)= .ok (.bl (x==y)):=rfl
theorem HD(x y:Str):zO (.str x) (.str y)= .ok (.bl (!(x==y))):=rfl
theorem A6(x:Str)(ss:List Str):yi (.str x) (.tup (ss.map .str))= .ok (.bl (ss.contains x)):=by
 show((match strs? (ss.map D.str) with | some ss=>R.ok (ss.contains x) | none=> .no).bind _)=_
 rw[L2.strs_map];rfl
theorem wY(x:Str)(ss:List Str):yi (.str x) (.lst (ss.map .str))= .ok (.bl (ss.contains x)):=by
 show((match strs? (ss.map D.str) with | some ss=>R.ok (ss.contains x) | none=> .no).bind _)=_
 rw[L2.strs_map];rfl
theorem Jz(x:Str)(ss:List Str):jB (.str x) (.tup (ss.map .str))= .ok (.bl (!ss.contains x)):=by
 show((match strs? (ss.map D.str) with | some ss=>R.ok (ss.contains x) | none=> .no).bind _)=_
 rw[L2.strs_map];rfl
theorem wD(x:Str)(ss:List Str):jB (.str x) (.lst (ss.map .str))= .ok (.bl (!ss.contains x)):=by
 show((match strs? (ss.map D.str) with | some ss=>R.ok (ss.contains x) | none=> .no).bind _)=_
 rw[L2.strs_map];rfl
theorem BC(bs:List Bool):Ce [.lst (bs.map D.bl)]= .ok (.bl (bs.all id)):=by
 show(match bls? (bs.map D.bl) with | some bs=>R.ok (D.bl (bs.all id)) | none=> .no)=_
 rw[yO]
theorem len_str{x:Str}(h:x.length<=10000000):jO [.str x]= .ok (MT.nI x.length):=by
 have hz:sizeLine=16777216:=sizeLine_eq;exact bD _ (by omega)
theorem pS{ds:List D}{k:Nat}(h:k<=ds.length):GA (.lst ds) (some (k:Int)) none= .ok (.lst (ds.drop k)):=by
 show R.ok (D.lst (L2.cutD ds (some (k:Int)) none))=_;unfold L2.cutD;rw[HT.pQ,HT.qi,Nat.min_eq_left h,List.take_of_length_le (by rw[List.length_drop];omega)]
end
end TX
end
section
namespace TX
open PySem PySem.Spec PyProof.Rows L2 L3 MT
structure Dr where
 ins:V8
 gs:List Gt
 os:V9
 nm:List Str
 nu:List Str
def Dr.on(d:Dr):List Str:=d.os.map (·.1)
def uE(l:List Str):List (Key × D):=l.map fun n=>(Sum.inr n, .bl true)
def DF(k:Nat)(l:List Str):List (Key × D):=(l.zipIdx k).map fun p=>(Sum.inr p.1,nI p.2)
abbrev JY(l:List Str):List (Key × D):=DF 0 l
theorem tT(l:List Str):(uE l).length=l.length:=by unfold uE;simp
theorem sR(k:Nat)(l:List Str):(DF k l).length=l.length:=by unfold DF;simp
theorem BN(k:Nat)(y:Str)(l:List Str):DF k (y ::l)=(Sum.inr y,nI k) ::DF (k+1) l:=rfl
theorem yK(y x:Str):decide ((Sum.inr y:Key)=Sum.inr x)=(y==x):=by
 by_cases h:y=x
 .subst h;simp
 .rw [beq_eq_false_iff_ne.mpr h];exact decide_eq_false fun q=>h (Sum.inr.inj q)
theorem n5(x:Str):∀l:List Str,((uE l).find? fun kv=>decide (kv.1=Sum.inr x)).map (·.2)=if x∈l then some (.bl true) else none
 | []=>rfl
 | y ::l=>by
   show(((Sum.inr y,D.bl true) ::uE l).find? fun kv=>decide (kv.1=Sum.inr x)).map (·.2)=_
   rw[List.find?_cons];simp only[yK];by_cases h:y=x
   .subst h;simp
   .rw [beq_eq_false_iff_ne.mpr h];simp only;rw[n5 x l];have:x∈y ::l↔x∈l:=by simp [Ne.symm h]
    simp only[this]
def idx(l:List Str)(x:Str):Option Nat:=l.findIdx? (·==x)
theorem qo(x:Str):∀(k:Nat) (l:List Str),((DF k l).find? fun kv=>decide (kv.1=Sum.inr x)).map (·.2)=(idx l x).map fun i=>nI (k+i)
 | k,[]=>rfl
 | k,y ::l=>by
   rw[BN,List.find?_cons];simp only[yK];unfold idx;rw[List.findIdx?_cons];by_cases h:y=x
   .subst h;simp
   .rw [beq_eq_false_iff_ne.mpr h];simp only;rw[qo x (k+1) l];unfold idx;simp only[Bool.false_eq_true,if_false,Option.map_map];congr 1;funext i;show nI (k+1+i)=nI (k+(i+1));congr 1;omega
theorem Cm{l:List Str}:(idx l x).isSome=l.contains x:=by
 unfold idx;rw[List.findIdx?_isSome];rw[Bool.eq_iff_iff,List.any_eq_true,List.contains_iff_mem];exact⟨fun⟨y,h1,h2⟩=>by rw[<-beq_iff_eq.mp h2];exact h1,fun h=>⟨x,h,beq_self_eq_true x⟩⟩
theorem yp{aA:List (Key × D)}{d:D}(h:((aA.find? fun kv=>decide (kv.1=Sum.inr x)).map (·.2))=none):mV aA (Sum.inr x) d=aA++[(Sum.inr x,d)]:=by
 unfold mV;rw[if_neg];intro q;obtain⟨kv,h1,h2⟩:=List.any_eq_true.mp q;have h3:aA.find? (fun kv=>decide (kv.1=Sum.inr x))=none:=by
  cases hf:aA.find? (fun kv=>decide (kv.1=Sum.inr x)) with
  | none=>rfl
  | some z=>rw [hf] at h;cases h
 exact absurd h2 (by have:=List.find?_eq_none.mp h3 kv h1;exact this)
theorem tW{l:List Str}(h:x ∉ l):mV (uE l) (Sum.inr x) (.bl true)=uE (l++[x]):=by
 rw[yp (by rw[n5,if_neg h])]
 unfold uE;simp
theorem yN{l:List Str}(h:x ∉ l):mV (JY l) (Sum.inr x) (nI l.length)=JY (l++[x]):=by
 have h1:idx l x=none:=by
  have:=Cm (l:=l) (x:=x);rw[show l.contains x=false by cases q:l.contains x with | false=>rfl | true=>exact absurd (List.contains_iff_mem.mp q) h] at this
  cases q:idx l x with
  | none=>rfl
  | some i=>rw [q] at this;cases this
 rw[yp (by rw[qo,h1];rfl)]
 show DF 0 l++_=DF 0 (l++[x]);unfold DF;rw[List.zipIdx_append,List.map_append];simp
def iH:Nat->Str | 0=>Str.ofString "0" | 1=>Str.ofString "1" | _=>Str.ofString "2"
def nU(x:Str)(w:Nat):List Str:=if w=1 then [x] else(List.range w).map fun f=>x++CO++iH f
def base(w:Str):Str:=(f6 w CO).getD 0 Str.empty
theorem nF(h:isNm x=true):base x=x:=by
 unfold base;rw[rV,sr (yq h (by omega))];rfl
theorem CJ{x f:Str}(h:isNm x=true):base (x++CO++f)=x:=by
 unfold base;rw[show f6 (x++CO++f) CO=[x,CO,f] by rw[rV];exact rY (yq h (by omega)) rfl];rfl
theorem lb(h:isNm x=true){w:Nat}:∀y∈nU x w,base y=x:=fun y hy=>by
 unfold nU at hy;split at hy
 .rw [List.mem_singleton.mp hy];exact nF h
 .obtain⟨f,_,rfl⟩:=List.mem_map.mp hy;exact CJ h
theorem Dl{a b:Nat}(ha:a < 3)(hb:b < 3)(h:iH a=iH b):a=b:=by
 match a,b,ha,hb with
 | 0,0,_,_=>rfl
 | 1,1,_,_=>rfl
 | 2,2,_,_=>rfl
 | 0,1,_,_=>exact absurd h (by decide+kernel)
 | 0,2,_,_=>exact absurd h (by decide+kernel)
 | 1,0,_,_=>exact absurd h (by decide+kernel)
 | 1,2,_,_=>exact absurd h (by decide+kernel)
 | 2,0,_,_=>exact absurd h (by decide+kernel)
 | 2,1,_,_=>exact absurd h (by decide+kernel)
theorem FJ{a b c:Str}(h:a++b=a++c):b=c:=iz (by
 have:=congrArg (fun s:Str=>s.cps.toList) h
 simp only[cW] at this;exact List.append_cancel_left this)
theorem xx{w:Nat}(hw:w<=3):(nU x w).Nodup:=by
 unfold nU;split
 .simp
 .rw [List.nodup_iff_pairwise_ne,List.pairwise_map];refine(List.nodup_iff_pairwise_ne.mp (List.nodup_range (n:=w))).imp_of_mem ?_;intro a b ha hb p_ e;exact p_ (Dl (Nat.lt_of_lt_of_le (List.mem_range.mp ha) hw) (Nat.lt_of_lt_of_le (List.mem_range.mp hb) hw) (FJ e))
theorem pP{w:Nat}:(nU x w).length=w:=by
 unfold nU;split
 .rename_i h;rw [h];rfl
 .simp
structure lQ (d:Dr):Prop where
 li:d.ins.length<=6
 lg:d.gs.length<=60
 lo:d.os.length<=6
 ln:d.nm.length<=66
 lw:d.nu.length<=78
 li3:d.nm.length=d.ins.length+d.gs.length
 lw3:d.nu.length<=3*d.ins.length+d.gs.length
 ok:∀n∈d.nm,isNm n=true
 bs:∀w∈d.nu,base w∈d.nm
 nd:d.nu.Nodup
def kK(d:Dr)(x:Str)(w:Nat):Except Nat Dr:=
 if d.gs≠[]\/d.os≠[] then .error 4 else if x∈d.nm then .error 5 else if 6<=d.ins.length then .error 6 else .ok {d with ins:=d.ins++[(x,w)],nm:=d.nm++[x],nu:=d.nu++nU x w}
def fj(nu:List Str):List Str->Option (List Nat)
 | []=>some []
 | w ::ws=>match idx nu w with | some i=>(fj nu ws).map (i ::·) | none=>none
def addGate(d:Dr)(x:Str)(k:Nat)(ws:List Str)(s:Bool):Except Nat Dr:=
 if d.os≠[] then .error 4 else if x∈d.nm then .error 5 else if 60<=d.gs.length then .error 6 else match fj d.nu ws with
 | none=> .error 7
 | some l=> .ok {d with gs:=d.gs++[(k,l,s)],nm:=d.nm++[x],nu:=d.nu++[x]}
def iF(d:Dr)(x:Str)(ws:List Str):Except Nat Dr:=
 if x∈d.on then .error 5 else if 6<=d.os.length then .error 6 else match fj d.nu ws with
 | none=> .error 7
 | some l=> .ok {d with os:=d.os++[(x,l)]}
def vf(w:Str):Nat:=([Str.ofString "not",Str.ofString "and",Str.ofString "or",Str.ofString "xor",Str.ofString "vote"].findIdx? (·==w)).getD 0
def GX(w:Str):Nat:=((DI.lookup w).getD 0).toNat
def fZ(d:Dr)(ws:List Str):Except Nat Dr:=
 if BI ws=true then kK d (wd ws 1) (GX (wd ws 2))
 else if CK ws=true then addGate d (wd ws 1) (vf (wd ws 2)) (ws.drop 3) (wd ws 0==Str.ofString "sure")
 else if Gs ws=true then iF d (wd ws 1) (ws.drop 2)
 else .error 3
def f9(d:Dr):List Str->Except Nat Dr
 | []=> .ok d
 | r ::rs=>match fZ d (Txt.split r SP) with | .ok d'=>f9 d' rs | .error c=> .error c
def d0:Dr:=⟨[],[],[],[],[]⟩
def vF(rows:List Str):Except Nat Dr:=
 if 80 < rows.length then .error 2 else match f9 d0 rows with
 | .error c=> .error c
 | .ok d=>if d.ins=[]\/d.os=[] then .error 8 else .ok d
theorem LL:lQ d0:=⟨by simp [d0],by simp [d0],by simp [d0],by simp [d0],by simp [d0],rfl,by simp [d0],by simp [d0],by simp [d0],by simp [d0]⟩
theorem Co(h:(DI.lookup w).isSome=true):1<=GX w/\GX w<=3/\DI.lookup w=some (GX w:Int):=by
 obtain⟨n,hn⟩:=Option.isSome_iff_exists.mp h;unfold GX;rw[hn];have:n=1\/n=2\/n=3:=by
  unfold DI at hn;simp only[List.lookup_cons,List.lookup_nil] at hn;split at hn
  .cases hn;exact .inl rfl
  .split at hn
   .cases hn;exact .inr (.inl rfl)
   .split at hn
    .cases hn;exact .inr (.inr rfl)
    .cases hn
 rcases this with rfl | rfl | rfl <;> exact⟨by decide,by decide,rfl⟩
theorem BW(h:(wx.lookup w).isSome=true):kS (vf w)=w/\vf w<=4/\wx.lookup w=some ((ar (vf w):Nat):Int):=by
 obtain⟨n,hn⟩:=Option.isSome_iff_exists.mp h;unfold wx at hn;simp only[List.lookup_cons,List.lookup_nil] at hn;split at hn
 .rename_i q;rw [beq_iff_eq.mp q];exact⟨by decide+kernel,by decide+kernel,by decide+kernel⟩
 .split at hn
  .rename_i q;rw [beq_iff_eq.mp q];exact⟨by decide+kernel,by decide+kernel,by decide+kernel⟩
  .split at hn
   .rename_i q;rw [beq_iff_eq.mp q];exact⟨by decide+kernel,by decide+kernel,by decide+kernel⟩
   .split at hn
    .rename_i q;rw [beq_iff_eq.mp q];exact⟨by decide+kernel,by decide+kernel,by decide+kernel⟩
    .split at hn
     .rename_i q;rw [beq_iff_eq.mp q];exact⟨by decide+kernel,by decide+kernel,by decide+kernel⟩
     .cases hn
theorem l_{d:Dr}(D:lQ d)(hx:x ∉ d.nm)(hy:base y=x):y ∉ d.nu:=fun q=>hx (by rw[<-hy];exact D.bs y q)
theorem CP{d d':Dr}(D:lQ d){w:Nat}(hx:isNm x=true)(hw:w<=3)(h:kK d x w= .ok d'):lQ d':=by
 unfold kK at h;split at h
 .cases h
 .rename_i h1;split at h
  .cases h
  .rename_i h2;split at h
   .cases h
   .rename_i h3;cases h;have hg:d.gs=[]:=by
     cases q:d.gs with
     | nil=>rfl
     | cons a b=>exact absurd (.inl (by rw[q];simp)) h1
    have:=D.li;have:=D.lw3;have:=D.li3;have hl:(nU x w).length=w:=pP;have hg0:d.gs.length=0:=by rw[hg];rfl
    refine⟨by simp;omega,D.lg,D.lo,by simp;omega,by simp;omega,by simp;omega,by simp;omega,fun n hn=>?_,fun y hy=>?_,?_⟩
    .rcases List.mem_append.mp hn with z | z
     .exact D.ok n z
     .rw [List.mem_singleton.mp z];exact hx
    .rcases List.mem_append.mp hy with z | z
     .exact List.mem_append_left _ (D.bs y z)
     .rw [lb hx y z];simp
    .exact List.nodup_append.mpr ⟨D.nd,xx hw,fun a ha b hb e=>l_ D h2 (lb hx b hb) (by rw[<-e];exact ha)⟩
theorem xl{d d':Dr}(D:lQ d){k:Nat}{ws:List Str}{s:Bool}(hx:isNm x=true)(h:addGate d x k ws s= .ok d'):lQ d':=by
 unfold addGate at h;split at h
 .cases h
 .split at h
  .cases h
  .rename_i h2;split at h
   .cases h
   .rename_i h3;split at h
    .cases h
    .rename_i l hl;cases h;have:=D.li;have:=D.lw3;have:=D.li3;have:=D.lg;refine⟨D.li,by simp;omega,D.lo,by simp;omega,by simp;omega,by simp;omega,by simp;omega,fun n hn=>?_,fun y hy=>?_,?_⟩
     .rcases List.mem_append.mp hn with z | z
      .exact D.ok n z
      .rw [List.mem_singleton.mp z];exact hx
     .rcases List.mem_append.mp hy with z | z
      .exact List.mem_append_left _ (D.bs y z)
      .rw [List.mem_singleton.mp z,nF hx];simp
     .exact List.nodup_append.mpr ⟨D.nd,by simp,fun a ha b hb e=>l_ D h2 (y:=b) (by rw[List.mem_singleton.mp hb];exact nF hx) (by rw[<-e];exact ha)⟩
theorem Aq{d d':Dr}(D:lQ d){ws:List Str}(h:iF d x ws= .ok d'):lQ d':=by
 unfold iF at h;split at h
 .cases h
 .split at h
  .cases h
  .rename_i h3;split at h
   .cases h
   .rename_i l hl;cases h;have:=D.lo;exact⟨D.li,D.lg,by simp;omega,D.ln,D.lw,D.li3,D.lw3,D.ok,D.bs,D.nd⟩
theorem Ex{d d':Dr}(D:lQ d){ws:List Str}(h:fZ d ws= .ok d'):lQ d':=by
 unfold fZ at h;split at h
 .rename_i h1;unfold BI at h1;simp only[Bool.and_eq_true] at h1;exact CP D h1.2.2.1 (Co h1.2.2.2).2.1 h
 .split at h
  .rename_i h1;unfold CK at h1;simp only[Bool.and_eq_true] at h1;exact xl D h1.2.1.1 h
  .split at h
   .exact Aq D h
   .cases h
end TX
end
section
namespace TX
open PySem PySem.Spec PyProof.Rows L2 L3 MT JT
structure Lw (n:Nat) (s:Str):Prop where
 len:s.length<=n
 low:∀c∈s.cps.toList,97<=c/\c<=122
theorem Lw.mono{n m:Nat}(h:Lw n s)(hm:n<=m):Lw m s:=⟨Nat.le_trans h.len hm,h.low⟩
theorem Lw.app{n m:Nat}{a b:Str}(h:Lw n a)(h':Lw m b):Lw (n+m) (a++b):=⟨by rw[Str.length_append];have:=h.len;have:=h'.len;omega,fun c hc=>by
 rw[cW] at hc;rcases List.mem_append.mp hc with z | z
 .exact h.low c z
 .exact h'.low c z⟩
theorem Lw.slice{n:Nat}(h:Lw n a)(lo hi:Option Int):Lw n (Txt.slice a lo hi):=⟨Nat.le_trans (Txt.slice_le a lo hi) h.len,fun c hc=>by
 unfold Txt.slice at hc;split at hc
 .exact h.low c hc
 .rw [List.toList_toArray,List.mem_filterMap] at hc;obtain⟨i,_,e⟩:=hc;exact h.low c (by have:=Array.mem_of_getElem? e;simpa using this)⟩
theorem HG(a:Str):(Txt.slice a none (some 8)).length<=8:=by
 by_cases h:8<=a.length
 .have:=StrLaws.sliceText_to (x:=a) (j:=8) ⟨by omega,by show(8:Int)<=(a.cps.toList.length:Int);rw [Array.length_toList];show(8:Int)<=(a.length:Int);omega⟩
  show(StrLaws.sliceText a none (some 8)).length<=8;rw[this];show(List.toArray _).size<=8;simp;omega
 .exact Nat.le_trans (Txt.slice_le a _ _) (by omega)
theorem Lw.nm(h:Lw 8 s)(h1:s≠Str.empty)(h2:s ∉ oW):isNm s=true:=by
 refine dD.mpr ⟨?_,h.len,h2,h.low⟩;rcases Nat.lt_or_ge 0 s.length with q | q
 .exact q
 .exfalso
  refine h1 (iz ?_);have:s.cps.toList.length=0:=by rw[Array.length_toList];show s.length=0;omega
  rw[List.length_eq_zero_iff.mp this];rfl
theorem GG(h:isNm s=true):Lw 8 s:=⟨(dD.mp h).2.1,(dD.mp h).2.2.2⟩
def iI(i:Nat):Str:=⟨#[97+i]⟩
theorem EB:wL.length=26:=by decide+kernel
theorem p8{i:Nat}(h:i < 26):dC (.str wL) (nI i)= .ok (.str (iI i)):=by
 have hz:sizeLine=16777216:=sizeLine_eq;refine xW (by rw[EB];omega) ?_
 rw[rR,xq (by omega) (by simp;omega)]
 simp [iI]
theorem yf{i:Nat}(h:i < 26):Lw 1 (iI i):=⟨Nat.le_refl _,fun c hc=>by
 have hc:c∈[97+i]:=hc;rw[List.mem_singleton] at hc;omega⟩
theorem Nc{r:Nat}(h:r < 7):Lw 6 (Txt.mul (Str.ofString "x") r):=by
 match r,h with
 | 0,_=>exact⟨by decide+kernel,by decide+kernel⟩
 | 1,_=>exact⟨by decide+kernel,by decide+kernel⟩
 | 2,_=>exact⟨by decide+kernel,by decide+kernel⟩
 | 3,_=>exact⟨by decide+kernel,by decide+kernel⟩
 | 4,_=>exact⟨by decide+kernel,by decide+kernel⟩
 | 5,_=>exact⟨by decide+kernel,by decide+kernel⟩
 | 6,_=>exact⟨by decide+kernel,by decide+kernel⟩
theorem ug{sep:Str}{ss:List Str}(h:(ss.map (·.length)).sum+ss.length*sep.length<=16777216):eR (.str sep) [.lst (ss.map .str)]= .ok (.str (Str.join sep ss)):=by
 unfold eR;simp only[L2.strs_map];rw[joinOk_of h];rfl
theorem KH{n m k:Nat}(ha:Lw n a)(hb:Lw m b)(hc:Lw k c):Lw (n+m+k) (Str.join (Str.ofString "") [a,b,c]):=by
 have he:Lw 0 (Str.ofString ""):=⟨by decide+kernel,by decide+kernel⟩
 have:Str.join (Str.ofString "") [a,b,c]=a++Str.ofString ""++(b++Str.ofString ""++c):=rfl;rw[this];exact((ha.app he).app ((hb.app he).app hc)).mono (by omega)
theorem Kq{n:Nat}(h:Lw n s):PyData.strOk s=true:=by
 unfold PyData.strOk;rw[Array.all_eq_true'];intro c hc;have:=h.low c (by simpa using hc)
 simp;omega
theorem Fe{ss:List Str}(h:∀s∈ss,PyData.strOk s=true):GL (.lst (ss.map .str)) (.lst [])= .ok ss.isEmpty:=by
 have hp:∀ss:List Str,ft (ss.map .str)=true:=by
  intro ss
  induction ss with
  | nil=>unfold ft;rfl
  | cons s ss ih=>rw [List.map_cons];unfold ft;rw [ih];unfold cP;rfl
 have ht:∀ss:List Str,i3 (ss.map .str)=ss.map PyData.str:=by
  intro ss
  induction ss with
  | nil=>unfold i3;rfl
  | cons s ss ih=>rw [List.map_cons,List.map_cons];unfold i3;rw [ih];unfold toPy;rfl
 have hl:∀ss:List Str,(∀s∈ss,PyData.strOk s=true)->PyData.canLayAll0 (ss.map PyData.str)=true:=by
  intro ss
  induction ss with
  | nil=>intro _;rfl
  | cons s ss ih=>intro h;rw [List.map_cons];unfold PyData.canLayAll0;rw [ih fun t ht=>h t (List.mem_cons_of_mem _ ht)];unfold PyData.canLay0;rw [h s List.mem_cons_self];rfl
 have hd:∀ss:List Str,PyData.depthAll (ss.map PyData.str)=0:=by
  intro ss
  induction ss with
  | nil=>rfl
  | cons s ss ih=>rw [List.map_cons];unfold PyData.depthAll;rw [ih];rfl
 have hsh:SeqAt.shaped (toPy (.lst (ss.map .str)))=true:=by
  unfold toPy SeqAt.shaped;rw[ht];unfold PyData.canLay0 PyData.depth;rw[hl ss h,hd];rfl
 have hpd:cP (.lst (ss.map .str))=true:=by unfold cP;exact hp ss
 have p_:GL (.lst (ss.map .str)) (.lst [])=R.aS (cP (.lst (ss.map .str)) && cP (.lst []) && SeqAt.shaped (toPy (.lst (ss.map .str))) && SeqAt.shaped (toPy (.lst []))) (.ok (PyData.eqv (toPy (.lst (ss.map .str))) (toPy (.lst [])))):=rfl;rw[p_,hpd,hsh,show cP (.lst [])=true from rfl,show SeqAt.shaped (toPy (.lst []))=true from rfl]
 show R.ok _=_;unfold toPy;rw[ht];cases ss with
 | nil=>rfl
 | cons s ss=>rfl
theorem FL{ss:List Str}(h:∀s∈ss,PyData.strOk s=true):zO (.lst (ss.map .str)) (.lst [])= .ok (.bl (!ss.isEmpty)):=by
 unfold zO;rw [Fe h];rfl
def yw:List Str:=(List.range 80).map fun n=>⟨#[122,122,97+n / 26,97+n % 26]⟩
def BD:List Str:=(List.range 144).map fun n=>⟨#[121,97+n / 12,109+n % 12]⟩
theorem Hh:∀s∈yw,isNm s=true:=by
 have:yw.all isNm=true:=by decide+kernel
 exact List.all_eq_true.mp this
theorem G9:∀s∈BD,isNm s=true:=by
 have:BD.all isNm=true:=by decide+kernel
 exact List.all_eq_true.mp this
def SJ(s:Str):Nat:=s.cps.toList.foldl (fun a c=>a*128+c) 0
theorem Gh{l:List Str}(h:(l.map SJ).Pairwise (· < ·)):l.Nodup:=by
 rw[List.pairwise_map] at h;exact h.imp fun {a b} hab e=>by rw[e] at hab;exact absurd hab (Nat.lt_irrefl _)
theorem Hm:yw.Nodup:=Gh (by decide+kernel)
theorem Ho:BD.Nodup:=Gh (by decide+kernel)
theorem vg{sp ss:List Str}(hn:sp.Nodup)(h:ss.length < sp.length):∃w,(sp.filter fun s=>!ss.contains s)[0]? =some w/\w∈sp/\w ∉ ss:=by
 cases e:sp.filter fun s=>!ss.contains s with
 | cons w r=>
   have:=List.mem_filter.mp (show w∈sp.filter fun s=>!ss.contains s by rw[e];exact List.mem_cons_self)
   refine⟨w,rfl,this.1,fun q=>?_⟩
   have h2:=this.2;rw[List.contains_iff_mem.mpr q] at h2;cases h2
 | nil=>
   exfalso
   have:=By sp ss hn fun x hx=>by
    by_cases q:x∈ss
    .exact q
    .have:x∈sp.filter fun s=>!ss.contains s:=List.mem_filter.mpr ⟨hx,by simp [q]⟩
     rw[e] at this;cases this
   omega
theorem HQ{n:Nat}:Str.ofString "zz"++iI (n / 26)++iI (n % 26)=(⟨#[122,122,97+n / 26,97+n % 26]⟩:Str):=by
 apply iz;rw[cW,cW,show(Str.ofString "zz").cps.toList=[122,122] by decide+kernel]
 rfl
abbrev NF:Str:=Str.ofString "abcdefghijkl"
abbrev MU:Str:=Str.ofString "mnopqrstuvwx"
theorem HY{i:Nat}(h:i < 12):dC (.str NF) (nI i)= .ok (.str (iI i)):=by
 have hz:sizeLine=16777216:=sizeLine_eq;refine xW (by rw[hz];decide+kernel) ?_
 rw[show NF.cps.toList=(List.range 12).map (97+·) by decide+kernel,xq (by omega) (by simp;omega)]
 simp [iI]
theorem Jv{i:Nat}(h:i < 12):dC (.str MU) (nI i)= .ok (.str (iI (12+i))):=by
 have hz:sizeLine=16777216:=sizeLine_eq;refine xW (by rw[hz];decide+kernel) ?_
 rw[show MU.cps.toList=(List.range 12).map (109+·) by decide+kernel,xq (by omega) (by simp;omega)]
 simp [iI];omega
theorem Hj{n:Nat}:Str.ofString "y"++iI (n / 12)++iI (12+n % 12)=(⟨#[121,97+n / 12,109+n % 12]⟩:Str):=by
 apply iz;rw[cW,cW,show(Str.ofString "y").cps.toList=[121] by decide+kernel]
 show [121,97+n / 12,97+(12+n % 12)]=[121,97+n / 12,109+n % 12];congr 3;omega
structure TN (ins:V8) (gs:List Gt) (os:V9):Prop where
 i1:1<=ins.length
 i6:ins.length<=6
 iw:∀x∈ins,1<=x.2/\x.2<=3
 ind:(ins.map (·.1)).Nodup
 inm:∀x∈ins,isNm x.1=true
 g60:gs.length<=60
 gok:∀(i:Nat) (x:Gt),gs[i]? =some x->Fv (ji ins+i) x
 o1:1<=os.length
 o6:os.length<=6
 ond:(os.map (·.1)).Nodup
 onm:∀x∈os,isNm x.1=true
 ow:∀x∈os,1<=x.2.length/\x.2.length<=3/\∀w∈x.2,w < ji ins+gs.length
end TX
end
section
namespace TX
open PySem PySem.Spec PyProof.Rows L2 L3 MT JT
structure GN (ins:V8) (n:Nat) (gn:List Str):Prop where
 len:gn.length=n
 nd:gn.Nodup
 nm:∀s∈gn,isNm s=true
 dis:∀s∈gn,s ∉ ins.map (·.1)
def jh(ins:V8):List Str:=ins.flatMap fun x=>nU x.1 x.2
theorem gH:∀ins:V8,(jh ins).length=ji ins
 | []=>rfl
 | x ::ins=>by
   show(nU x.1 x.2++jh ins).length=_;rw[List.length_append,pP,gH ins];rfl
theorem vZ{ins:V8}(h:∀x∈ins,isNm x.1=true):∀y∈jh ins,base y∈ins.map (·.1):=fun y hy=>by
 obtain⟨x,hx,hy⟩:=List.mem_flatMap.mp hy;rw[lb (h x hx) y hy];exact List.mem_map_of_mem hx
theorem BS:∀{ins:V8},(ins.map (·.1)).Nodup->(∀x∈ins,isNm x.1=true)->(∀x∈ins,1<=x.2/\x.2<=3)->(jh ins).Nodup
 | [],_,_,_=>List.nodup_nil
 | x ::ins,h1,h2,h3=>by
   obtain⟨h4,h5⟩:=List.nodup_cons.mp h1;refine List.nodup_append.mpr ⟨xx (h3 x List.mem_cons_self).2,BS h5 (fun y hy=>h2 y (List.mem_cons_of_mem _ hy)) (fun y hy=>h3 y (List.mem_cons_of_mem _ hy)),fun a ha b hb e=>h4 ?_⟩
   show x.1∈_;rw[<-lb (h2 x List.mem_cons_self) a ha,e];exact vZ (fun y hy=>h2 y (List.mem_cons_of_mem _ hy)) b hb
theorem uF{ins:V8}{gs:List Gt}{os:V9}{gn:List Str}(T:TN ins gs os){n:Nat}(G:GN ins n gn):(jh ins++gn).Nodup:=
 List.nodup_append.mpr ⟨BS T.ind T.inm T.iw,G.nd,fun a ha b hb e=>G.dis b hb (by
  have:=vZ T.inm a ha;rw[e,nF (G.nm b hb)] at this;exact this)⟩
theorem G2{l:List Str}(h:l.Nodup){i n:Nat}(hi:l[i]? =some x)(hn:i < n):idx (l.take n) x=some i:=by
 unfold idx;rw[List.findIdx?_eq_some_iff_getElem];have hl:=(List.getElem?_eq_some_iff.mp hi).1;have MG:i < (l.take n).length:=by rw[List.length_take];omega
 refine⟨MG,?_,fun j hj=>?_⟩
 .rw [List.getElem_take,(List.getElem?_eq_some_iff.mp hi).2];simp
 .rw [List.getElem_take];intro q;have q:=beq_iff_eq.mp q;have:l[j]? =some x:=by rw[List.getElem?_eq_getElem (by omega),q]
  have:=iO h this hi;omega
def tx(W:List Str)(l:List Nat):List Str:=l.map fun w=>W.getD w Str.empty
theorem Ca{W:List Str}(h:W.Nodup){n:Nat}:∀{l:List Nat},(∀w∈l,w < n/\w < W.length)->fj (W.take n) (tx W l)=some l
 | [],_=>rfl
 | w ::l,hl=>by
   obtain⟨h1,h2⟩:=hl w List.mem_cons_self;show(match idx (W.take n) (W.getD w Str.empty) with | some i=>(fj (W.take n) (tx W l)).map (i ::·) | none=>none)=_
   rw[G2 h (i:=w) (by rw[List.getD_eq_getElem?_getD,List.getElem?_eq_getElem h2];rfl) h1,Ca h fun y hy=>hl y (List.mem_cons_of_mem _ hy)]
   rfl
def wS:Nat->Str | 1=>Str.ofString "1" | 2=>Str.ofString "2" | _=>Str.ofString "3"
def u0(x:Str × Nat):List Str:=[Str.ofString "in",x.1,wS x.2]
def pT(W:List Str)(g:Gt)(n:Str):List Str:=[if g.2.2 then Str.ofString "sure" else Str.ofString "gate",n,kS g.1]++tx W g.2.1
def pZ(W:List Str)(o:Str × List Nat):List Str:=[Str.ofString "out",o.1]++tx W o.2
def wA(ins:V8)(gs:List Gt)(os:V9)(gn:List Str):List (List Str):=ins.map u0++(gs.zip gn).map (fun p=>pT (jh ins++gn) p.1 p.2)++os.map (pZ (jh ins++gn))
structure Wo (w:Str):Prop where
 len:w.length<=10
 cps:∀c∈w.cps.toList,33<=c/\c < 128
theorem vD(h:isNm s=true):Wo s:=⟨by have:=(dD.mp h).2.1;omega,fun c hc=>by have:=(dD.mp h).2.2.2 c hc;omega⟩
theorem G5{x:Str}(h:isNm x=true){f:Nat}:Wo (x++CO++iH f):=by
 have h1:(iH f).length=1/\∀c∈(iH f).cps.toList,33<=c/\c < 128:=by
  match f with
  | 0=>exact⟨by decide+kernel,by decide+kernel⟩
  | 1=>exact⟨by decide+kernel,by decide+kernel⟩
  | n+2=>exact⟨by show(Str.ofString "2").length=1;decide+kernel,by show ∀c∈(Str.ofString "2").cps.toList,_;decide+kernel⟩
 refine⟨?_,fun c hc=>?_⟩
 .rw [Str.length_append,Str.length_append,h1.1];have:=(dD.mp h).2.1;have:CO.length=1:=by decide+kernel
  omega
 .rw [cW,cW] at hc;rcases List.mem_append.mp hc with z | z
  .rcases List.mem_append.mp z with y | y
   .have:=(dD.mp h).2.2.2 c y;omega
   .rw [rV] at y;have:c∈[58]:=y;rw[List.mem_singleton] at this;omega
  .exact h1.2 c z
theorem Ie(h:isNm x=true){w:Nat}:∀y∈nU x w,Wo y/\kQ y=true:=fun y hy=>by
 unfold nU at hy;split at hy
 .rw [List.mem_singleton.mp hy];exact⟨vD h,Gz h⟩
 .obtain⟨f,_,rfl⟩:=List.mem_map.mp hy;refine⟨G5 h,Ic h ?_⟩
  match f with
  | 0=>decide+kernel
  | 1=>decide+kernel
  | n+2=>show Str.ofString "2"∈z0;decide+kernel
theorem D5{ins:V8}{gs:List Gt}{os:V9}{gn:List Str}(T:TN ins gs os){n:Nat}(G:GN ins n gn):∀y∈jh ins++gn,Wo y/\kQ y=true:=fun y hy=>by
 rcases List.mem_append.mp hy with z | z
 .obtain⟨x,hx,hy⟩:=List.mem_flatMap.mp z;exact Ie (T.inm x hx) y hy
 .exact⟨vD (G.nm y z),Gz (G.nm y z)⟩
theorem tj{W:List Str}{l:List Nat}(h:∀w∈l,w < W.length):∀y∈tx W l,y∈W:=fun y hy=>by
 obtain⟨w,hw,rfl⟩:=List.mem_map.mp hy;rw[List.getD_eq_getElem?_getD,List.getElem?_eq_getElem (h w hw)];exact List.getElem_mem _
theorem oP{ws:List Str}(p_:ws≠[])(h:∀w∈ws,Wo w):Txt.split (Str.join SP ws) SP=ws:=by
 rw[A5];exact qC p_ fun p hp q=>by have:=(h p hp).cps 32 q;omega
theorem Gj(k:Nat):Wo (kS k)/\(wx.lookup (kS k)).isSome=true/\(k<=4->vf (kS k)=k/\wx.lookup (kS k)=some ((ar k:Nat):Int)):=by
 match k with
 | 0=>exact⟨⟨by decide+kernel,by decide+kernel⟩,by decide+kernel,fun _=>⟨by decide+kernel,by decide+kernel⟩⟩
 | 1=>exact⟨⟨by decide+kernel,by decide+kernel⟩,by decide+kernel,fun _=>⟨by decide+kernel,by decide+kernel⟩⟩
 | 2=>exact⟨⟨by decide+kernel,by decide+kernel⟩,by decide+kernel,fun _=>⟨by decide+kernel,by decide+kernel⟩⟩
 | 3=>exact⟨⟨by decide+kernel,by decide+kernel⟩,by decide+kernel,fun _=>⟨by decide+kernel,by decide+kernel⟩⟩
 | 4=>exact⟨⟨by decide+kernel,by decide+kernel⟩,by decide+kernel,fun _=>⟨by decide+kernel,by decide+kernel⟩⟩
 | n+5=>exact⟨⟨by show(Str.ofString "vote").length<=10;decide+kernel,by show ∀c∈(Str.ofString "vote").cps.toList,_;decide+kernel⟩,by show(wx.lookup (Str.ofString "vote")).isSome=true;decide+kernel,fun h=>by omega⟩
theorem GD(w:Nat):Wo (wS w)/\(DI.lookup (wS w)).isSome=true/\(1<=w->w<=3->GX (wS w)=w):=by
 match w with
 | 1=>exact⟨⟨by decide+kernel,by decide+kernel⟩,by decide+kernel,fun _ _=>by decide+kernel⟩
 | 2=>exact⟨⟨by decide+kernel,by decide+kernel⟩,by decide+kernel,fun _ _=>by decide+kernel⟩
 | 3=>exact⟨⟨by decide+kernel,by decide+kernel⟩,by decide+kernel,fun _ _=>by decide+kernel⟩
 | 0=>exact⟨⟨by show(Str.ofString "3").length<=10;decide+kernel,by show ∀c∈(Str.ofString "3").cps.toList,_;decide+kernel⟩,by show(DI.lookup (Str.ofString "3")).isSome=true;decide+kernel,fun h=>by omega⟩
 | n+4=>exact⟨⟨by show(Str.ofString "3").length<=10;decide+kernel,by show ∀c∈(Str.ofString "3").cps.toList,_;decide+kernel⟩,by show(DI.lookup (Str.ofString "3")).isSome=true;decide+kernel,fun _ h=>by omega⟩
theorem xj(s:Str)(h:(decide (s.length<=10) && s.cps.toList.all fun c=>decide (33<=c/\c < 128))=true):Wo s:=by
 rw[Bool.and_eq_true,List.all_eq_true] at h;exact⟨of_decide_eq_true h.1,fun c hc=>of_decide_eq_true (h.2 c hc)⟩
theorem wZ{x:Str × Nat}(h:isNm x.1=true):∀w∈u0 x,Wo w:=fun w hw=>by
 unfold u0 at hw;simp only[List.mem_cons,List.not_mem_nil,or_false] at hw;rcases hw with rfl | rfl | rfl
 .exact xj _ (by decide+kernel)
 .exact vD h
 .exact(GD x.2).1
theorem xn{W:List Str}{g:Gt}(h:isNm n=true)(hW:∀y∈W,Wo y)(hg:∀w∈g.2.1,w < W.length):∀w∈pT W g n,Wo w:=fun w hw=>by
 unfold pT at hw;rcases List.mem_append.mp hw with z | z
 .simp only[List.mem_cons,List.not_mem_nil,or_false] at z;rcases z with rfl | rfl | rfl
  .split <;> exact xj _ (by decide+kernel)
  .exact vD h
  .exact(Gj g.1).1
 .exact hW w (tj hg w z)
theorem wq{W:List Str}{o:Str × List Nat}(h:isNm o.1=true)(hW:∀y∈W,Wo y)(hg:∀w∈o.2,w < W.length):∀w∈pZ W o,Wo w:=fun w hw=>by
 unfold pZ at hw;rcases List.mem_append.mp hw with z | z
 .simp only[List.mem_cons,List.not_mem_nil,or_false] at z;rcases z with rfl | rfl
  .exact xj _ (by decide+kernel)
  .exact vD h
 .exact hW w (tj hg w z)
theorem EL{d:Dr}{x:Str × Nat}(h:isNm x.1=true)(hw:1<=x.2/\x.2<=3):fZ d (u0 x)=kK d x.1 x.2:=by
 obtain⟨_,h2,h3⟩:=GD x.2;have:BI (u0 x)=true:=by
  show(decide _ && ((Str.ofString "in"==Str.ofString "in") && (isNm x.1 && (DI.lookup (wS x.2)).isSome)))=true;rw[h,h2];rfl
 unfold fZ;rw[if_pos this];show kK d x.1 (GX (wS x.2))=_;rw[h3 hw.1 hw.2]
theorem yy{ws:List Str}(h:(w==Str.ofString "in")=false):BI (w ::ws)=false:=by
 show(decide _ && ((w==Str.ofString "in") && _))=false;rw[h];simp
theorem FQ{d:Dr}{W:List Str}{g:Gt}(h:isNm n=true)(hk:g.1<=4)(hl:g.2.1.length=ar g.1)(hW:∀y∈tx W g.2.1,kQ y=true):fZ d (pT W g n)=addGate d n g.1 (tx W g.2.1) g.2.2:=by
 obtain⟨_,h2,h3⟩:=Gj g.1;obtain⟨h3,h4⟩:=h3 hk;have h1:BI (pT W g n)=false:=by
  unfold pT;refine yy ?_;split <;> decide+kernel
 have hg0:[Str.ofString "gate",Str.ofString "sure"].contains (if g.2.2 then Str.ofString "sure" else Str.ofString "gate")=true:=by split <;> decide+kernel
 have ha:1<=ar g.1:=by unfold ar;split <;> omega
 have htl:(tx W g.2.1).length=ar g.1:=by unfold tx;rw [List.length_map,hl]
 have h5:CK (pT W g n)=true:=by
  show((decide (4<=(pT W g n).length) && [Str.ofString "gate",Str.ofString "sure"].contains (if g.2.2 then Str.ofString "sure" else Str.ofString "gate")) && ((isNm n && (wx.lookup (kS g.1)).isSome) && (decide (((tx W g.2.1).length:Int)=(wx.lookup (kS g.1)).getD 0) && (tx W g.2.1).all kQ)))=true
  rw[hg0,h,h2,h4,htl,List.all_eq_true.mpr hW,decide_eq_true (by unfold pT;simp [htl];omega:4<=(pT W g n).length)]
  simp
 unfold fZ;rw[h1,if_neg (by decide),if_pos h5]
 show addGate d n (vf (kS g.1)) (tx W g.2.1) ((if g.2.2 then Str.ofString "sure" else Str.ofString "gate")==Str.ofString "sure")=_
 rw[h3];congr 1;cases g.2.2 <;> decide+kernel
theorem Ef{d:Dr}{W:List Str}{o:Str × List Nat}(h:isNm o.1=true)(hl:1<=o.2.length/\o.2.length<=3)(hW:∀y∈tx W o.2,kQ y=true):fZ d (pZ W o)=iF d o.1 (tx W o.2):=by
 have htl:(tx W o.2).length=o.2.length:=by unfold tx;rw [List.length_map]
 have h1:BI (pZ W o)=false:=yy (by decide+kernel)
 have h2:CK (pZ W o)=false:=by
  show((decide _ && [Str.ofString "gate",Str.ofString "sure"].contains (Str.ofString "out")) && _)=false;rw[show [Str.ofString "gate",Str.ofString "sure"].contains (Str.ofString "out")=false by decide+kernel];simp
 have h3:Gs (pZ W o)=true:=by
  show((decide (3<=(pZ W o).length) && ((Str.ofString "out"==Str.ofString "out") && isNm o.1)) && (decide ((tx W o.2).length<=3) && (tx W o.2).all kQ))=true;rw[h,htl,List.all_eq_true.mpr hW,decide_eq_true (by unfold pZ;simp [htl];omega:3<=(pZ W o).length),decide_eq_true hl.2]
  simp
 unfold fZ;rw[h1,if_neg (by decide),h2,if_neg (by decide),if_pos h3]
 rfl
theorem jI:∀(a b:List Str) (d:Dr),f9 d (a++b)=match f9 d a with | .ok d'=>f9 d' b | .error c=> .error c
 | [],b,d=>rfl
 | r ::a,b,d=>by
   show(match fZ d (Txt.split r SP) with | .ok d'=>f9 d' (a++b) | .error c=> .error c)=_
   show _=(match (match fZ d (Txt.split r SP) with | .ok d'=>f9 d' a | .error c=>Except.error c) with | .ok d'=>f9 d' b | .error c=> .error c)
   cases fZ d (Txt.split r SP) with
   | error c=>rfl
   | ok d'=>exact jI a b d'
section
variable {ins:V8} {gs:List Gt} {os:V9} {gn:List Str}
theorem vJ(hn:(ins.map (·.1)).Nodup)(hm:∀x∈ins,isNm x.1=true)(hw:∀x∈ins,1<=x.2/\x.2<=3)(h6:ins.length<=6):∀i,i<=ins.length->f9 d0 ((ins.take i).map fun x=>Str.join SP (u0 x))= .ok ⟨ins.take i,[],[],(ins.take i).map (·.1),jh (ins.take i)⟩
 | 0,_=>rfl
 | i+1,hi=>by
   obtain⟨x,hx⟩:∃x,ins[i]? =some x:=⟨_,List.getElem?_eq_getElem (by omega)⟩
   have hxm:=List.mem_of_getElem? hx;rw[List.take_add_one,hx,List.map_append,jI,vJ hn hm hw h6 i (by omega)]
   show(match fZ _ (Txt.split (Str.join SP (u0 x)) SP) with | .ok d'=>f9 d' [] | .error c=> .error c)=_
   rw[oP (by unfold u0;simp) (wZ (hm x hxm)),EL (hm x hxm) (hw x hxm)]
   have L1:x.1 ∉ (ins.take i).map (·.1):=fun q=>by
    rw[List.map_take] at q;obtain⟨j,hj⟩:=List.getElem?_of_mem q;rw[List.getElem?_take] at hj;split at hj
    .rename_i hji;have:=iO hn hj (show(ins.map (·.1))[i]? =some x.1 by rw[List.getElem?_map,hx];rfl)
     omega
    .cases hj
   have hl:(ins.take i).length=i:=by rw[List.length_take];omega
   unfold kK;rw[if_neg (by simp),if_neg L1,if_neg (by show ¬6<=(ins.take i).length;omega)]
   show Except.ok _=Except.ok _;congr 1;simp [jh]
theorem qN(T:TN ins gs os)(G:GN ins gs.length gn):∀i,i<=gs.length->f9 ⟨ins,[],[],ins.map (·.1),jh ins⟩ (((gs.zip gn).take i).map fun p=>Str.join SP (pT (jh ins++gn) p.1 p.2))= .ok ⟨ins,gs.take i,[],ins.map (·.1)++gn.take i,(jh ins++gn).take (ji ins+i)⟩
 | 0,_=>by
   show Except.ok _=Except.ok _;rw[Nat.add_zero,<-gH,List.take_left];simp
 | i+1,hi=>by
   obtain⟨g,hg⟩:∃g,gs[i]? =some g:=⟨_,List.getElem?_eq_getElem (by omega)⟩
   have JP:=G.len;obtain⟨n,hn⟩:∃n,gn[i]? =some n:=⟨_,List.getElem?_eq_getElem (by omega)⟩
   have hz:(gs.zip gn)[i]? =some (g,n):=by rw[List.getElem?_zip_eq_some];exact⟨hg,hn⟩
   have gok:=T.gok i g hg;have hWl:(jh ins++gn).length=ji ins+gs.length:=by rw[List.length_append,gH,JP]
   have sJ:∀w∈g.2.1,w < (jh ins++gn).length:=fun w hw=>by have:=gok.2.2 w hw;omega
   have hWo:=D5 T G;have hnm:=G.nm n (List.mem_of_getElem? hn);rw[List.take_add_one,hz,List.map_append,jI,qN T G i (by omega)]
   show(match fZ _ (Txt.split (Str.join SP (pT (jh ins++gn) g n)) SP) with | .ok d'=>f9 d' [] | .error c=> .error c)=_
   rw[oP (by unfold pT;simp) (xn hnm (fun y hy=>(hWo y hy).1) sJ),FQ hnm gok.1 gok.2.1 fun y hy=>(hWo y (tj sJ y hy)).2]
   have hn1:n ∉ ins.map (·.1)++gn.take i:=fun q=>by
    rcases List.mem_append.mp q with z | z
    .exact G.dis n (List.mem_of_getElem? hn) z
    .obtain⟨j,hj⟩:=List.getElem?_of_mem z;rw[List.getElem?_take] at hj;split at hj
     .have:=iO G.nd hj hn;omega
     .cases hj
   have hl:(gs.take i).length=i:=by rw[List.length_take];omega
   have:=T.g60;unfold addGate;rw[if_neg (by simp),if_neg hn1,if_neg (by show ¬60<=(gs.take i).length;omega),Ca (uF T G) fun w hw=>⟨gok.2.2 w hw,sJ w hw⟩]
   show Except.ok _=Except.ok _;congr 1;have e1:gs.take i++[(g.1,g.2.1,g.2.2)]=gs.take (i+1):=by rw[List.take_add_one,hg];rfl
   have e2:gn.take i++[n]=gn.take (i+1):=by rw[List.take_add_one,hn];rfl
   have e3:(jh ins++gn).take (ji ins+i)++[n]=(jh ins++gn).take (ji ins+(i+1)):=by
    rw[<-Nat.add_assoc,List.take_add_one,List.getElem?_append_right (by rw[gH];omega),gH,Nat.add_sub_cancel_left,hn];rfl
   rw[List.append_assoc,e1,e2,e3]
theorem rS(T:TN ins gs os)(G:GN ins gs.length gn):∀i,i<=os.length->f9 ⟨ins,gs,[],ins.map (·.1)++gn,jh ins++gn⟩ ((os.take i).map fun o=>Str.join SP (pZ (jh ins++gn) o))= .ok ⟨ins,gs,os.take i,ins.map (·.1)++gn,jh ins++gn⟩
 | 0,_=>rfl
 | i+1,hi=>by
   obtain⟨o,ho⟩:∃o,os[i]? =some o:=⟨_,List.getElem?_eq_getElem (by omega)⟩
   have hom:=List.mem_of_getElem? ho;obtain⟨o1,o2,o3⟩:=T.ow o hom;have hWl:(jh ins++gn).length=ji ins+gs.length:=by rw[List.length_append,gH,G.len]
   have sJ:∀w∈o.2,w < (jh ins++gn).length:=fun w hw=>by have:=o3 w hw;omega
   have hWo:=D5 T G;rw[List.take_add_one,ho,List.map_append,jI,rS T G i (by omega)]
   show(match fZ _ (Txt.split (Str.join SP (pZ (jh ins++gn) o)) SP) with | .ok d'=>f9 d' [] | .error c=> .error c)=_
   rw[oP (by unfold pZ;simp) (wq (T.onm o hom) (fun y hy=>(hWo y hy).1) sJ),Ef (T.onm o hom) ⟨o1,o2⟩ fun y hy=>(hWo y (tj sJ y hy)).2]
   have hn1:o.1 ∉ (os.take i).map (·.1):=fun q=>by
    rw[List.map_take] at q;obtain⟨j,hj⟩:=List.getElem?_of_mem q;rw[List.getElem?_take] at hj;split at hj
    .have:=iO T.ond hj (show(os.map (·.1))[i]? =some o.1 by rw[List.getElem?_map,ho];rfl)
     omega
    .cases hj
   have hl:(os.take i).length=i:=by rw[List.length_take];omega
   have:=T.o6;unfold iF;rw[if_neg (show o.1 ∉ (Dr.mk ins gs (os.take i) (ins.map (·.1)++gn) (jh ins++gn)).on from hn1),if_neg (by show ¬6<=(os.take i).length;omega)]
   have hwn:fj (jh ins++gn) (tx (jh ins++gn) o.2)=some o.2:=by
    have:=Ca (uF T G) (n:=(jh ins++gn).length) (l:=o.2) fun w hw=>⟨sJ w hw,sJ w hw⟩
    rwa [List.take_length] at this
   simp only[hwn];show Except.ok _=Except.ok _;simp
theorem sC(T:TN ins gs os)(G:GN ins gs.length gn):vF ((wA ins gs os gn).map (Str.join SP))= .ok ⟨ins,gs,os,ins.map (·.1)++gn,jh ins++gn⟩:=by
 have h1:=vJ T.ind T.inm T.iw T.i6 ins.length (Nat.le_refl _);have h2:=qN T G gs.length (Nat.le_refl _);have h3:=rS T G os.length (Nat.le_refl _);have hz:(gs.zip gn).length=gs.length:=by rw[List.length_zip,G.len];omega
 rw[List.take_length] at h1 h3;rw[List.take_of_length_le (by rw[hz];exact Nat.le_refl _),List.take_length,List.take_of_length_le (by rw[G.len];exact Nat.le_refl _),List.take_of_length_le (by rw[List.length_append,gH,G.len];exact Nat.le_refl _)] at h2
 have hl:((wA ins gs os gn).map (Str.join SP)).length<=80:=by
  unfold wA;simp only[List.length_map,List.length_append,hz];have:=T.i6;have:=T.g60;have:=T.o6;omega
 unfold vF;rw[if_neg (by omega)]
 have:(wA ins gs os gn).map (Str.join SP)=(ins.map fun x=>Str.join SP (u0 x))++((gs.zip gn).map fun p=>Str.join SP (pT (jh ins++gn) p.1 p.2))++(os.map fun o=>Str.join SP (pZ (jh ins++gn) o)):=by
  unfold wA;simp only[List.map_append,List.map_map];rfl
 rw[this,jI,jI,h1];simp only;rw[h2];simp only;rw[h3];simp only;rw[if_neg];rintro(q | q)
 .have:=T.i1;rw [q] at this;simp at this
 .have:=T.o1;rw [q] at this;simp at this
end
end TX
end
section
namespace TX
open PySem PySem.Spec PyProof.Rows L2 L3 MT JT
theorem E5(ds:List D):pd (ds.map .d)= .d (.lst ds):=by unfold pd;rw [nP]
theorem AR{α:Type}{t:FG}{c:FB}{f:FX}{δ:DE}{S:aQ}(a b:α->D):∀{xs:List α},(∀x∈xs,∃δ1,t (.d (a x)) δ=some δ1/\W3 (c δ1 S) (fun k S1=>k=true/\S1=S)/\W3 (f δ1 S) fun v S1=>v= .d (b x)/\S1=S)->W3 (jY t c f δ ((xs.map a).map .d) S) fun ys S1=>ys=(xs.map b).map .d/\S1=S
 | [],_=>W3.ok ⟨rfl,rfl⟩
 | x ::xs,h=>by
   obtain⟨δ1,h1,h2,h3⟩:=h x List.mem_cons_self;have ih:=AR a b (t:=t) (c:=c) (f:=f) (δ:=δ) (S:=S) (xs:=xs) fun y hy=>h y (List.mem_cons_of_mem _ hy)
   simp only[List.map_cons];unfold jY;rw[h1];refine W3.bind (h2.mono ?_);rintro k S1 ⟨rfl,rfl⟩;rw[if_pos rfl];refine W3.bind (h3.mono ?_);rintro v S2 ⟨rfl,rfl⟩;refine W3.bind (ih.mono ?_);rintro ys S3 ⟨rfl,rfl⟩;exact W3.ok ⟨rfl,rfl⟩
theorem tI{α:Type}{it:FA}{t:FG}{c:FB}{f:FX}{own:List Str}{kp:List Nat}{δ:DE}{S:aQ}{Q:V3->aQ->Prop}(a b:α->D){xs:List α}(hi:W3 (it δ S) fun vs S1=>vs=(xs.map a).map .d/\S1=S)(hl:xs.length<=sizeLine)(h:∀x∈xs,∃δ1,t (.d (a x)) (k8 own kp δ)=some δ1/\W3 (c δ1 S) (fun k S1=>k=true/\S1=S)/\W3 (f δ1 S) fun v S1=>v= .d (b x)/\S1=S)(hq:Q (.d (.lst (xs.map b))) S):W3 (mF it t c f own kp δ S) Q:=by
 refine BM (hi.mono ?_);rintro vs S1 ⟨rfl,rfl⟩;refine⟨by rw[List.length_map,List.length_map];exact hl,(AR a b h).mono ?_⟩
 rintro ys S2 ⟨rfl,rfl⟩;rw[E5];exact hq
theorem ql{c:Nat}:∀{l:V_} {d:Nat},d∈jn c l->d=c\/∃x∈l,d∈x
 | [],d,h=>by cases h
 | [x],d,h=> .inr ⟨x,List.mem_cons_self,h⟩
 | x ::y ::r,d,h=>by
   rcases List.mem_append.mp h with z | z
   .exact .inr ⟨x,List.mem_cons_self,z⟩
   .rcases List.mem_cons.mp z with z | z
    .exact .inl z
    .rcases ql z with z | ⟨w,hw,z⟩
     .exact .inl z
     .exact .inr ⟨w,List.mem_cons_of_mem _ hw,z⟩
theorem BU{c:Nat}:∀(l:V_),(jn c l).length<=(l.map (·.length)).sum+l.length
 | []=>by simp [jn]
 | [x]=>by simp [jn]
 | x ::y ::r=>by
   have:=BU (c:=c) (y ::r);show(x++c ::jn c (y ::r)).length<=_;rw[List.length_append,List.length_cons,List.map_cons,List.sum_cons,List.length_cons];omega
theorem yM(s:Str):s.length=s.cps.toList.length:=by rw[Array.length_toList];rfl
theorem vV{c:Nat}{l:List Str}{m:Nat}(h:∀s∈l,s.length<=m):(Str.join ⟨#[c]⟩ l).length<=l.length*(m+1):=by
 rw[yM,jU];have h1:=BU (c:=c) (l.map fun s=>s.cps.toList)
 have h2:=ub (l:=(l.map fun s=>s.cps.toList).map (·.length)) (m:=m) fun x hx=>by
  obtain⟨y,hy,rfl⟩:=List.mem_map.mp hx;obtain⟨s,hs,rfl⟩:=List.mem_map.mp hy;rw[<-yM];exact h s hs
 rw[List.length_map,List.length_map] at h2;rw[List.length_map] at h1;rw[Nat.mul_add,Nat.mul_one];omega
theorem uQ{c d:Nat}{l:List Str}(h:d∈(Str.join ⟨#[c]⟩ l).cps.toList):d=c\/∃s∈l,d∈s.cps.toList:=by
 rw[jU] at h;rcases ql h with z | ⟨x,hx,z⟩
 .exact .inl z
 .obtain⟨s,hs,rfl⟩:=List.mem_map.mp hx;exact .inr ⟨s,hs,z⟩
structure Ro (r:Str):Prop where
 len:r.length<=110
 cps:∀c∈r.cps.toList,32<=c/\c < 128
theorem tZ{ws:List Str}(hl:ws.length<=10)(h:∀w∈ws,Wo w):Ro (Str.join SP ws):=by
 rw[A5];refine⟨?_,fun c hc=>?_⟩
 .have:=vV (c:=32) (m:=10) fun w hw=>(h w hw).len
  omega
 .rcases uQ hc with z | ⟨w,hw,z⟩
  .omega
  .have:=(h w hw).cps c z;omega
section
variable {rs:List Str}
theorem xU(h0:rs≠[])(h:∀r∈rs,Ro r):Txt.split (Str.join NL rs) NL=rs:=by
 rw[vz];exact qC h0 fun r hr hc=>by have:=(h r hr).cps 10 hc;omega
theorem CA(UH:rs.length<=5000)(h:∀r∈rs,Ro r):(Str.join NL rs).length<=600000:=by
 rw[vz];have:=vV (c:=10) (m:=110) fun r hr=>(h r hr).len
 omega
theorem BE(h:∀r∈rs,Ro r):∀c∈(Str.join NL rs).cps.toList,c < 128:=fun c hc=>by
 rw[vz] at hc;rcases uQ hc with z | ⟨w,hw,z⟩
 .omega
 .have:=(h w hw).cps c z;omega
theorem z7(UH:rs.length<=5000)(h:∀r∈rs,Ro r):eR (.str NL) [.lst (rs.map .str)]= .ok (.str (Str.join NL rs)):=by
 refine ug ?_;have h2:=ub (l:=rs.map (·.length)) (m:=110) fun x hx=>by obtain⟨s,hs,rfl⟩:=List.mem_map.mp hx;exact(h s hs).len
 rw[List.length_map] at h2;have:NL.length=1:=by decide+kernel
 rw[this];omega
end
section
variable {ins:V8} {gs:List Gt} {os:V9} {gn:List Str}
theorem zd(T:TN ins gs os)(G:GN ins gs.length gn):(wA ins gs os gn).length=ins.length+gs.length+os.length:=by
 have:=G.len;unfold wA;simp only[List.length_append,List.length_map,List.length_zip];omega
theorem Cu(T:TN ins gs os)(G:GN ins gs.length gn):∀r∈(wA ins gs os gn).map (Str.join SP),Ro r:=fun r hr=>by
 have hWo:=D5 T G;have JP:=G.len;have hWl:(jh ins++gn).length=ji ins+gs.length:=by rw[List.length_append,gH,JP]
 obtain⟨ws,hws,rfl⟩:=List.mem_map.mp hr;unfold wA at hws;rcases List.mem_append.mp hws with z | z
 .rcases List.mem_append.mp z with z | z
  .obtain⟨x,hx,rfl⟩:=List.mem_map.mp z;exact tZ (by unfold u0;simp) (wZ (T.inm x hx))
  .obtain⟨⟨g,n⟩,hp,rfl⟩:=List.mem_map.mp z;obtain⟨i,hi⟩:=List.mem_iff_getElem?.mp hp;obtain⟨hg,hn⟩:=List.getElem?_zip_eq_some.mp hi;have gok:=T.gok i g hg;have:=(List.getElem?_eq_some_iff.mp hg).1;have:=yg g.1;refine tZ (by unfold pT tx;simp;rw [gok.2.1];omega) (xn (G.nm n (List.mem_of_getElem? hn)) (fun y hy=>(hWo y hy).1) fun w hw=>?_)
   have:=gok.2.2 w hw;omega
 .obtain⟨o,ho,rfl⟩:=List.mem_map.mp z;obtain⟨o1,o2,o3⟩:=T.ow o ho;exact tZ (by unfold pZ tx;simp;omega) (wq (T.onm o ho) (fun y hy=>(hWo y hy).1) fun w hw=>by have:=o3 w hw;omega)
def My(ins:V8)(gs:List Gt)(os:V9)(gn:List Str):Str:=Str.join NL ((wA ins gs os gn).map (Str.join SP))
theorem BO(h:isNm s=true):jg 0 (.str s):=by
 refine jg.str ?_;unfold PyData.canLay0 PyData.strOk;rw[<-Array.all_toList,List.all_eq_true];intro c hc;have:=(dD.mp h).2.2.2 c hc;exact decide_eq_true (by omega)
theorem Js(k:Nat):jg 0 (.str (kS k)):=by
 refine jg.str ?_;unfold kS;split <;> decide+kernel
theorem Cb(w:List Nat):jg 1 (.tup (w.map nI)):=jg.tup fun d hd=>by obtain⟨x,_,rfl⟩:=List.mem_map.mp hd;exact jg.int x
theorem yc(hi:∀x∈ins,isNm x.1=true)(ho:∀x∈os,isNm x.1=true):jg 4 (cQ ins gs os):=jg.tup fun d hd=>by
 simp only[List.mem_cons,List.not_mem_nil,or_false] at hd;rcases hd with rfl | rfl | rfl
 .exact jg.lst (n:=2) fun d hd=>by
   obtain⟨x,hx,rfl⟩:=List.mem_map.mp hd;exact jg.tup (n:=1) fun d hd=>by
    simp only[List.mem_cons,List.not_mem_nil,or_false] at hd;rcases hd with rfl | rfl
    .exact(BO (hi x hx)).mono (by omega)
    .exact(jg.int _).mono (by omega)
 .exact jg.lst (n:=2) fun d hd=>by
   obtain⟨x,hx,rfl⟩:=List.mem_map.mp hd;exact jg.tup (n:=1) fun d hd=>by
    simp only[List.mem_cons,List.not_mem_nil,or_false] at hd;rcases hd with rfl | rfl | rfl
    .exact(Js _).mono (by omega)
    .exact Cb _
    .exact(jg.bl _).mono (by omega)
 .exact jg.lst (n:=2) fun d hd=>by
   obtain⟨x,hx,rfl⟩:=List.mem_map.mp hd;exact jg.tup (n:=1) fun d hd=>by
    simp only[List.mem_cons,List.not_mem_nil,or_false] at hd;rcases hd with rfl | rfl
    .exact(BO (ho x hx)).mono (by omega)
    .exact Cb _
theorem HW(T:TN ins gs os):rL (cQ ins gs os) (cQ ins gs os)= .ok (.bl true):=by
 have:=yc (gs:=gs) T.inm T.onm;unfold rL cQ;rw [jg.eqT this (by omega)];rfl
inductive Sx:Nat->D->Prop where
 | int (n:Nat) (i:Int):Sx n (.int i)
 | bl (n:Nat) (b:Bool):Sx n (.bl b)
 | str (n:Nat) (s:Str):Sx n (.str s)
 | lst {n:Nat} {ds:List D} (h:∀d∈ds,Sx n d) (hl:ds.length < 1000000):Sx (n+1) (.lst ds)
 | tup {n:Nat} {ds:List D} (h:∀d∈ds,Sx n d) (hl:ds.length < 1000000):Sx (n+1) (.tup ds)
theorem wF(T:TN ins gs os):zO (cQ ins gs os) (cQ ins gs os)= .ok (.bl false):=by
 have:=yc (gs:=gs) T.inm T.onm;unfold zO cQ;rw [jg.eqT this (by omega)];rfl
end
end TX
end
section
set_option maxHeartbeats 4000000
namespace K08
open PySem PySem.Spec PyProof.Rows L2 L3
variable {P:Program} {w:World} {K:W.Frag} {mg:Wa} {base:Heap} {cl:Wb}
def top(i:Nat):Stmt:=PySem.Challenge.pw_bearfaults_k08_whole_names_otherwise.main.body.getD i (.Pass ⟨0,0,0,0⟩)
def d9:D:=(.int 8)
def k_:D:=(.tup [(.str "in"),(.str "gate"),(.str "sure"),(.str "out"),(.str "not"),(.str "and"),(.str "or"),(.str "xor"),(.str "vote")])
def jV:D:=(.str "abcdefghijklmnopqrstuvwxyz")
def jP:D:=(.tup [(.str "0"),(.str "1"),(.str "2"),(.str "3"),(.str "4"),(.str "5"),(.str "6"),(.str "7"),(.str "8"),(.str "9")])
def dm:D:=(.int 3)
def i4:D:=(.int 6)
def fP:D:=(.int 60)
def gO:D:=(.int 6)
def g8:D:=(.int 80)
def lZ:List (Str × Int):=[("1",1),("2",2),("3",3)]
def gE:List (Str × Int):=[("not",1),("and",2),("or",2),("xor",2),("vote",3)]
structure Tp (P:Program) (w:World) (K:W.Frag) (mg:Wa) (cl:Wb):Prop where
 z_len:mg "len"=none
 z_all:mg "all"=none
 z_range:mg "range"=none
 z_tuple:mg "tuple"=none
 z_min:mg "min"=none
 z_int:mg "int"=none
 z_sum:mg "sum"=none
 z_str:mg "str"=none
 z_enumerate:mg "enumerate"=none
 d9:Glob K mg "MOST_LETTERS" d9
 k_:Glob K mg "BARRED" k_
 jV:Glob K mg "LETTERS" jV
 jP:Glob K mg "FIGURES" jP
 dm:Glob K mg "MOST_OUT_WIRES" dm
 i4:Glob K mg "MOST_INS" i4
 fP:Glob K mg "MOST_GATES" fP
 gO:Glob K mg "MOST_OUTS" gO
 g8:Glob K mg "MOST_ROWS" g8
 gd_WIDTHS:k9 P w K mg "WIDTHS" lZ
 gd_KIND_WIRES:k9 P w K mg "KIND_WIRES" gE
 C_Draft:uV K (cl 0)
 N_Draft_ins:c8 K (cl 0) "ins"
 N_Draft_gates:c8 K (cl 0) "gates"
 N_Draft_outs:c8 K (cl 0) "outs"
 N_Draft_names:c8 K (cl 0) "names"
 N_Draft_out_names:c8 K (cl 0) "out_names"
 N_Draft_numbers:c8 K (cl 0) "numbers"
 M_Draft:mg "Draft"=some (.ref (cl 0))
 M_FaultError:mg "FaultError"=some (.ref (cl 1))
 M_TooLong:mg "TooLong"=some (.ref (cl 2))
 M_NoForm:mg "NoForm"=some (.ref (cl 3))
 M_NoPlace:mg "NoPlace"=some (.ref (cl 4))
 M_Twice:mg "Twice"=some (.ref (cl 5))
 M_Full:mg "Full"=some (.ref (cl 6))
 M_NoWire:mg "NoWire"=some (.ref (cl 7))
 M_Open:mg "Open"=some (.ref (cl 8))
 X_TooLong:XC K (cl 2)
 X_NoForm:XC K (cl 3)
 X_NoPlace:XC K (cl 4)
 X_Twice:XC K (cl 5)
 X_Full:XC K (cl 6)
 X_NoWire:XC K (cl 7)
 X_Open:XC K (cl 8)
abbrev j9:Stmt:=top 21
noncomputable abbrev oX:List Str:=["word"]
noncomputable def xB:{b:List Stmt // aR j9=b}:=⟨_,by conv=>lhs;whnf⟩
noncomputable def mR:{b:Scope // aF j9=b}:=⟨_,by conv=>lhs;whnf⟩
theorem z6:bf oX ["word"] mR.1:=⟨rfl,rfl,rfl,by decide+kernel,rfl,by decide+kernel,by decide+kernel⟩
def sj:FS:=(bK (sv (zp (b2 J2 (aL jO (ai (af 0) aJ)) (eC (.int 1))) (zp (b2 J9 (aL jO (ai (af 0) aJ)) (eC d9)) (b2 yi (af 0) (eC k_)))) (fX (eC (.bl false))) mq) (fX (aL Ce (ai (eNew (di (Ck (af 0)) (aH 0) mn (e2 yi (af 0) (eC jV)) ["sign"] [])) aJ))))
def dh:List D->R D:=rD oX sj
theorem zZ(T:Tp P w K mg cl)(h:Def K mg "is_name" j9):Callee P w K mg base 1 "is_name" 1 dh:=by
 obtain⟨f,fd,F,hm⟩:=h;exact⟨f,fd,_,b0 (k:=0) xB.2 mR.2 F z6 (fun dI A outer s H E hr=>(au (fN (kr (js (b7 DY (bF jj rfl T.z_len PySem.boot_len (aa (ae 0) ag)) aj (bV _)) (js (b7 D3 (bF jj rfl T.z_len PySem.boot_len (aa (ae 0) ag)) (fM T.d9 rfl) (bV _)) (kW (b7 zV (ae 0) (fM T.k_ rfl) (by with_unfolding_all rfl)))))) (aP (bw hV)) d5) (aP (bw (bF (GS rfl) rfl T.z_all PyProof.Rows.boot_all (aa (bW (fO rfl (bN.of (own:=["sign"]) (kp:=[]) (kn:=[]) (sc:=mR.1) (N:=oX) rfl rfl (by decide+kernel)) (BK (ae 0)) (fun _ _ _=>(aN (show List.Nodup [(Str.ofString "sign")] from by decide+kernel) rfl (Or.inl rfl))) (fun _ _ _=>dM) (fun _ _ _=>(eU zV (ae 0) (fM T.jV rfl) (by with_unfolding_all rfl))))) ag)))))),hm,F.kp,F.binds fun _ _ _ _ _ _ us hl=>match us,hl with | [_],_=>rfl⟩
abbrev iS:Stmt:=top 22
noncomputable abbrev m8:List Str:=["name","width"]
noncomputable def uN:{b:List Stmt // aR iS=b}:=⟨_,by conv=>lhs;whnf⟩
noncomputable def lM:{b:Scope // aF iS=b}:=⟨_,by conv=>lhs;whnf⟩
theorem wo:bf m8 ["name","width"] lM.1:=⟨rfl,rfl,rfl,by decide+kernel,rfl,by decide+kernel,by decide+kernel⟩
def qF:FS:=(bK (sv (b2 rL (af 1) (eC (.int 1))) (fX (eNew (eO (ai (af 0) aJ)))) mq) (fX (eNew (di (fu (af 1)) (aH 0) mn (cZ (bM (jS (af 1)) (bM (eC (.str ":")) (bM (jS (af 0)) mT)))) ["figure"] [0]))))
def iW:List D->R D:=rD m8 qF
theorem xJ(T:Tp P w K mg cl)(h:Def K mg "in_wires" iS):Callee P w K mg base 1 "in_wires" 2 iW:=by
 obtain⟨f,fd,F,hm⟩:=h;exact⟨f,fd,_,b0 (k:=0) uN.2 lM.2 F wo (fun dI A outer s H E hr=>(au (fN (b7 (pO hr.units) (ae 1) aj (bV _)) (aP (bw (bW (bU (aa (ae 0) ag))))) d5) (aP (bw (bW (fO rfl (bN.of (own:=["figure"]) (kp:=[0]) (kn:=["name"]) (sc:=lM.1) (N:=m8) rfl rfl (by decide+kernel)) (d_ (ae 1) rfl T.z_range) (fun _ _ _=>(aN (show List.Nodup [(Str.ofString "figure"),"name"] from by decide+kernel) rfl (Or.inl rfl))) (fun _ _ _=>dM) (fun _ _ _=>(cF (aU (fQ (ae 1)) (aU av (aU (fQ (ae 0)) fF))))))))))),hm,F.kp,F.binds fun _ _ _ _ _ _ us hl=>match us,hl with | [_,_],_=>rfl⟩
abbrev dX:Stmt:=top 23
noncomputable abbrev iG:List Str:=["word","parts"]
noncomputable def pC:{b:List Stmt // aR dX=b}:=⟨_,by conv=>lhs;whnf⟩
noncomputable def kI:{b:Scope // aF dX=b}:=⟨_,by conv=>lhs;whnf⟩
theorem lh:bf iG ["word"] kI.1:=⟨rfl,rfl,rfl,by decide+kernel,rfl,by decide+kernel,by decide+kernel⟩
def lq:FS:=(bK (cR 1 (rq "str" v3 (af 0) (ai (eC (.str ":")) aJ))) (fX (rJ (aL dh (ai (e2 dC (af 1) (eC (.int 0))) aJ)) (KW (e2 rL (e2 dC (af 1) (eC (.int 1))) (eC (.str ""))) (e2 yi (e2 dC (af 1) (eC (.int 2))) (eC jP))))))
def d3:List D->R D:=rD iG lq
theorem qz(T:Tp P w K mg cl)(h:Def K mg "is_wire_form" dX)(cV:Callee P w K mg base 1 "is_name" 1 dh):Callee P w K mg base 2 "is_wire_form" 1 d3:=by
 obtain⟨f,fd,F,hm⟩:=h;exact⟨f,fd,_,b0 (k:=1) pC.2 kI.2 F lh (fun dI A outer s H E hr=>(au (bb lh.nd rfl (Or.inl rfl) (rF (ae 0) (aa av ag))) (aP (bw (l5 (aG cV hr (by decide) rfl (aa (aW (ae 1) aj (fun _ _=>rfl)) ag) (ak aK)) (oa (IJ (eU (pO hr.units) (aW (ae 1) aj (fun _ _=>rfl)) av (bV _)) (oa (eU zV (aW (ae 1) aj (fun _ _=>rfl)) (fM T.jP rfl) (by with_unfolding_all rfl)))))))))),hm,F.kp,F.binds fun _ _ _ _ _ _ us hl=>match us,hl with | [_],_=>rfl⟩
abbrev dj:Stmt:=top 24
noncomputable abbrev gd:List Str:=["words"]
noncomputable def nY:{b:List Stmt // aR dj=b}:=⟨_,by conv=>lhs;whnf⟩
noncomputable def fE:{b:Scope // aF dj=b}:=⟨_,by conv=>lhs;whnf⟩
theorem oS:bf gd ["words"] fE.1:=⟨rfl,rfl,rfl,by decide+kernel,rfl,by decide+kernel,by decide+kernel⟩
def jW:FS:=(fX (aL Ce (ai (eNew (di (dk (af 0)) (aH 0) mn (aL d3 (ai (af 0) aJ)) ["word"] [])) aJ)))
def cc:List D->R D:=rD gd jW
theorem oH(T:Tp P w K mg cl)(h:Def K mg "are_wire_forms" dj)(jb:Callee P w K mg base 2 "is_wire_form" 1 d3):Callee P w K mg base 3 "are_wire_forms" 1 cc:=by
 obtain⟨f,fd,F,hm⟩:=h;exact⟨f,fd,_,b0 (k:=2) nY.2 fE.2 F oS (fun dI A outer s H E hr=>(aP (bw (bF (GS rfl) rfl T.z_all PyProof.Rows.boot_all (aa (bW (fO rfl (bN.of (own:=["word"]) (kp:=[]) (kn:=[]) (sc:=fE.1) (N:=gd) rfl rfl (by decide+kernel)) (ck (ae 0)) (fun _ _ _=>(aN (show List.Nodup [(Str.ofString "word")] from by decide+kernel) rfl (Or.inl rfl))) (fun _ _ _=>dM) (fun _ _ _=>(aG jb hr (by decide) rfl (aa (ae 0) ag) (ak aK))))) ag))))),hm,F.kp,F.binds fun _ _ _ _ _ _ us hl=>match us,hl with | [_],_=>rfl⟩
abbrev fB:Stmt:=top 25
noncomputable abbrev ky:List Str:=["words"]
noncomputable def rm:{b:List Stmt // aR fB=b}:=⟨_,by conv=>lhs;whnf⟩
noncomputable def mH:{b:Scope // aF fB=b}:=⟨_,by conv=>lhs;whnf⟩
theorem t8:bf ky ["words"] mH.1:=⟨rfl,rfl,rfl,by decide+kernel,rfl,by decide+kernel,by decide+kernel⟩
def nJ:FS:=(fX (rJ (e2 rL (aL jO (ai (af 0) aJ)) (eC (.int 3))) (rJ (e2 rL (e2 dC (af 0) (eC (.int 0))) (eC (.str "in"))) (rJ (aL dh (ai (e2 dC (af 0) (eC (.int 1))) aJ)) (JK lZ (e2 dC (af 0) (eC (.int 2))))))))
def fA:List D->R D:=rD ky nJ
theorem tJ(T:Tp P w K mg cl)(h:Def K mg "is_in_form" fB)(cV:Callee P w K mg base 1 "is_name" 1 dh):Callee P w K mg base 2 "is_in_form" 1 fA:=by
 obtain⟨f,fd,F,hm⟩:=h;exact⟨f,fd,_,b0 (k:=1) rm.2 mH.2 F t8 (fun dI A outer s H E hr=>(aP (bw (l5 (eU (pO hr.units) (bF jj rfl T.z_len PySem.boot_len (aa (ae 0) ag)) aj (bV _)) (l5 (eU (pO hr.units) (aW (ae 0) aj (fun _ _=>rfl)) av (bV _)) (l5 (aG cV hr (by decide) rfl (aa (aW (ae 0) aj (fun _ _=>rfl)) ag) (ak aK)) (oa (Ed (jT hr) (aW (ae 0) aj (fun _ _=>rfl)) T.gd_WIDTHS rfl)))))))),hm,F.kp,F.binds fun _ _ _ _ _ _ us hl=>match us,hl with | [_],_=>rfl⟩
abbrev ef:Stmt:=top 26
noncomputable abbrev fG:List Str:=["words","wires"]
noncomputable def pI:{b:List Stmt // aR ef=b}:=⟨_,by conv=>lhs;whnf⟩
noncomputable def kH:{b:Scope // aF ef=b}:=⟨_,by conv=>lhs;whnf⟩
theorem lu:bf fG ["words"] kH.1:=⟨rfl,rfl,rfl,by decide+kernel,rfl,by decide+kernel,by decide+kernel⟩
def lD:FS:=(bK (sv (zp (b2 J2 (aL jO (ai (af 0) aJ)) (eC (.int 4))) (b2 jB (e2 dC (af 0) (eC (.int 0))) (jA (ai (eC (.str "gate")) (ai (eC (.str "sure")) aJ))))) (fX (eC (.bl false))) mq) (bK (sv (zp (Ax (sW (aL dh (ai (e2 dC (af 0) (eC (.int 1))) aJ)))) (Hy gE (e2 dC (af 0) (eC (.int 2))))) (fX (eC (.bl false))) mq) (bK (cR 1 (wc (af 0) (g6 (eC (.int 3))) jK)) (fX (rJ (e2 rL (aL jO (ai (af 1) aJ)) (vk gE (e2 dC (af 0) (eC (.int 2))))) (aL cc (ai (af 1) aJ)))))))
def d6:List D->R D:=rD fG lD
theorem qh(T:Tp P w K mg cl)(h:Def K mg "is_gate_form" ef)(cV:Callee P w K mg base 1 "is_name" 1 dh)(cE:Callee P w K mg base 3 "are_wire_forms" 1 cc):Callee P w K mg base 4 "is_gate_form" 1 d6:=by
 obtain⟨f,fd,F,hm⟩:=h;exact⟨f,fd,_,b0 (k:=3) pI.2 kH.2 F lu (fun dI A outer s H E hr=>(au (fN (kr (js (b7 DY (bF jj rfl T.z_len PySem.boot_len (aa (ae 0) ag)) aj (bV _)) (kW (b7 p7 (aW (ae 0) aj (fun _ _=>rfl)) (c3 (aa av (aa av ag))) (by with_unfolding_all rfl))))) (aP (bw hV)) d5) (au (fN (kr (js (yG (nV (aG cV hr (by decide) rfl (aa (aW (ae 0) aj (fun _ _=>rfl)) ag) (ak aK)))) (kW (FV (jT hr) (aW (ae 0) aj (fun _ _=>rfl)) T.gd_KIND_WIRES rfl)))) (aP (bw hV)) d5) (au (bb lu.nd rfl (Or.inl rfl) (km (ae 0) (eM aj) hJ)) (aP (bw (l5 (eU (pO hr.units) (bF jj rfl T.z_len PySem.boot_len (aa (ae 1) ag)) (vh (aW (ae 0) aj (fun _ _=>rfl)) T.gd_KIND_WIRES rfl (fun _ _=>rfl)) (bV _)) (oa (aG cE hr (by decide) rfl (aa (ae 1) ag) (ak aK)))))))))),hm,F.kp,F.binds fun _ _ _ _ _ _ us hl=>match us,hl with | [_],_=>rfl⟩
abbrev eK:Stmt:=top 27
noncomputable abbrev jx:List Str:=["words","wires"]
noncomputable def qG:{b:List Stmt // aR eK=b}:=⟨_,by conv=>lhs;whnf⟩
noncomputable def lL:{b:Scope // aF eK=b}:=⟨_,by conv=>lhs;whnf⟩
theorem mL:bf jx ["words"] lL.1:=⟨rfl,rfl,rfl,by decide+kernel,rfl,by decide+kernel,by decide+kernel⟩
def mC:FS:=(bK (sv (zp (b2 J2 (aL jO (ai (af 0) aJ)) (eC (.int 3))) (zp (b2 zO (e2 dC (af 0) (eC (.int 0))) (eC (.str "out"))) (Ax (sW (aL dh (ai (e2 dC (af 0) (eC (.int 1))) aJ)))))) (fX (eC (.bl false))) mq) (bK (cR 1 (wc (af 0) (g6 (eC (.int 2))) jK)) (fX (rJ (e2 NJ (aL jO (ai (af 1) aJ)) (eC dm)) (aL cc (ai (af 1) aJ))))))
def eN:List D->R D:=rD jx mC
theorem rC(T:Tp P w K mg cl)(h:Def K mg "is_out_form" eK)(cV:Callee P w K mg base 1 "is_name" 1 dh)(cE:Callee P w K mg base 3 "are_wire_forms" 1 cc):Callee P w K mg base 4 "is_out_form" 1 eN:=by
 obtain⟨f,fd,F,hm⟩:=h;exact⟨f,fd,_,b0 (k:=3) qG.2 lL.2 F mL (fun dI A outer s H E hr=>(au (fN (kr (js (b7 DY (bF jj rfl T.z_len PySem.boot_len (aa (ae 0) ag)) aj (bV _)) (js (b7 (Cw hr.units) (aW (ae 0) aj (fun _ _=>rfl)) av (bV _)) (kW (yG (nV (aG cV hr (by decide) rfl (aa (aW (ae 0) aj (fun _ _=>rfl)) ag) (ak aK)))))))) (aP (bw hV)) d5) (au (bb mL.nd rfl (Or.inl rfl) (km (ae 0) (eM aj) hJ)) (aP (bw (l5 (eU Oa (bF jj rfl T.z_len PySem.boot_len (aa (ae 1) ag)) (fM T.dm rfl) (bV _)) (oa (aG cE hr (by decide) rfl (aa (ae 1) ag) (ak aK))))))))),hm,F.kp,F.binds fun _ _ _ _ _ _ us hl=>match us,hl with | [_],_=>rfl⟩
abbrev bX:Stmt:=inClass (top 28) 1
noncomputable abbrev fD:List Str:=["self","name","width","wire"]
noncomputable def pG:{b:List Stmt // aR bX=b}:=⟨_,by conv=>lhs;whnf⟩
noncomputable def kF:{b:Scope // aF bX=b}:=⟨_,by conv=>lhs;whnf⟩
theorem k7:bf fD ["self","name","width"] kF.1:=⟨rfl,rfl,rfl,by decide+kernel,rfl,by decide+kernel,by decide+kernel⟩
def j0:FZ:=(m5 (eI 0 "numbers" (cG 0)) (xP (af 3)) (wt (eI 0 "numbers" (cG 0))))
def iX:FZ:=(cA (rj (uT (LF (lj (eI 0 "gates" (cG 0))) (lj (eI 0 "outs" (cG 0))))) (e7 4 (dR (bu (xP (cZ (bM (eC (.str "in ")) (bM (jS (af 1)) (bM (eC (.str " stands behind a gate or an out")) mT))))) dE))) ke) (cA (rj (uT (xc false (xP (af 1)) (eI 0 "names" (cG 0)))) (e7 5 (dR (bu (xP (cZ (bM (eC (.str "there is an in ")) (bM (jS (af 1)) (bM (eC (.str " ahead")) mT))))) dE))) ke) (cA (rj (uT (Gy JF (wt (eI 0 "ins" (cG 0))) (xP (eC i4)))) (e7 6 (dR (bu (xP (cZ (bM (eC (.str "in ")) (bM (jS (af 1)) (bM (eC (.str " is one too many")) mT))))) dE))) ke) (AJ (cA (m5 (eI 0 "names" (cG 0)) (xP (af 1)) (xP (eC (.bl true)))) (cA (xF (iP (dk (aL iW (ai (af 1) (ai (af 2) aJ))))) (tV 3) j0) (kG (eI 0 "ins" (cG 0)) (xP (jA (ai (af 1) (ai (af 2) aJ)))))))))))
def cU:List V3->aQ->R3 V3:=sg fD iX
def AI:List V3->aQ->R3 V3:=yd fD iX
theorem eg(T:Tp P w K mg cl)(h:pN K (cl 0) "add_in" "Draft.add_in" bX)(nj:Callee P w K mg base 1 "in_wires" 2 iW):jk P w K mg base cl 2 0 "add_in" 2 cU:=by
 obtain⟨f,fd,F,hm⟩:=h;exact⟨f,fd,_,T.C_Draft,hm,jX (k:=1) pG.2 kF.2 F k7 (fun dI A outer s H E hr=>(bS (fR (I_.pb (Cd (lO (cf T.C_Draft T.N_Draft_gates (bo 0))) (yn (lO (cf T.C_Draft T.N_Draft_outs (bo 0)))))) (bQ (cS cT rfl T.X_NoPlace rfl T.M_NoPlace (cM (aT (ay (cF (aU av (aU (fQ (ae 1)) (aU av fF))))) bJ)))) eh) (bS (fR (tq (jT hr) (ay (ae 1)) (cf T.C_Draft T.N_Draft_names (bo 0))) (bQ (cS cT rfl T.X_Twice rfl T.M_Twice (cM (aT (ay (cF (aU av (aU (fQ (ae 1)) (aU av fF))))) bJ)))) eh) (bS (fR (l9 Eg (n9 (cf T.C_Draft T.N_Draft_ins (bo 0)) rfl T.z_len) (ay (fM T.i4 rfl)) (bV _)) (bQ (cS cT rfl T.X_Full rfl T.M_Full (cM (aT (ay (cF (aU av (aU (fQ (ae 1)) (aU av fF))))) bJ)))) eh) (n4 (bt (k4 (jT hr) (ay hV) (cf T.C_Draft T.N_Draft_names (bo 0)) (ay (ae 1))) (bt (Jr xg rfl (iT (ck (aG nj hr (by decide) rfl (aa (ae 1) (aa (ae 2) ag)) (ak (ak aK))))) (cz k7.nd rfl (Or.inl rfl)) (eT (k4 (jT hr) (n9 (cf T.C_Draft T.N_Draft_numbers (bo 0)) rfl T.z_len) (cf T.C_Draft T.N_Draft_numbers (bo 0)) (ay (ae 3))))) (eT (Ez (cf T.C_Draft T.N_Draft_ins (bo 0)) (ay (c3 (aa (ae 1) (aa (ae 2) ag))))))))))))),F.binds fun _ _ _ _ _ _ us hl=>match us,hl with | [_,_,_],_=>rfl⟩
abbrev aZ:Stmt:=inClass (top 28) 4
noncomputable abbrev cg:List Str:=["self","wires","wire"]
noncomputable def kP:{b:List Stmt // aR aZ=b}:=⟨_,by conv=>lhs;whnf⟩
noncomputable def dN:{b:Scope // aF aZ=b}:=⟨_,by conv=>lhs;whnf⟩
theorem gT:bf cg ["self","wires"] dN.1:=⟨rfl,rfl,rfl,by decide+kernel,rfl,by decide+kernel,by decide+kernel⟩
def fw:FZ:=(rj (uT (xc true (xP (af 2)) (eI 0 "numbers" (cG 0)))) (e7 7 (dR (bu (xP (cZ (bM (eC (.str "there is no wire ")) (bM (jS (af 2)) (bM (eC (.str " ahead")) mT))))) dE))) ke)
def dW:FZ:=(cA (xF (Mi (iP (dk (af 1)))) (tV 2) fw) (AJ (tL (uj uf (bu (mF (iP (dk (af 1))) (tV 0) zI (C_ (eI 0 "numbers" (cG 1)) (xP (af 0))) ["wire"] [0]) dE)))))
def bc:List V3->aQ->R3 V3:=sg cg dW
def uC:List V3->aQ->R3 V3:=yd cg dW
theorem cm(T:Tp P w K mg cl)(h:pN K (cl 0) "wire_numbers" "Draft.wire_numbers" aZ):jk P w K mg base cl 1 0 "wire_numbers" 1 bc:=by
 obtain⟨f,fd,F,hm⟩:=h;exact⟨f,fd,_,T.C_Draft,hm,jX (k:=0) kP.2 dN.2 F gT (fun dI A outer s H E hr=>(bS (yA xg rfl (iT (ck (ae 1))) (cz gT.nd rfl (Or.inl rfl)) (bQ (fR (FK (jT hr) (ay (ae 2)) (cf T.C_Draft T.N_Draft_numbers (bo 0))) (bQ (cS cT rfl T.X_NoWire rfl T.M_NoWire (cM (aT (ay (cF (aU av (aU (fQ (ae 2)) (aU av fF))))) bJ)))) eh))) (n4 (eT (mY (Ad yH rfl T.z_tuple PyProof.Rows.boot_tuple (aT (EC rfl (bN.of (own:=["wire"]) (kp:=[0]) (kn:=["self"]) (sc:=dN.1) (N:=cg) rfl rfl (by decide+kernel)) (iT (ck (ae 1))) (fun _ _ _=>(cz (show List.Nodup [(Str.ofString "wire"),"self"] from by decide+kernel) rfl (Or.inl rfl))) (fun _ _ _=>l8) (fun _ _ _=>(E_ (jT hr) (cf T.C_Draft T.N_Draft_numbers (bo 1)) (ay (ae 0)) (fun _ _=>rfl)))) bJ))))))),F.binds fun _ _ _ _ _ _ us hl=>match us,hl with | [_,_],_=>rfl⟩
abbrev bz:Stmt:=inClass (top 28) 2
noncomputable abbrev eA:List Str:=["self","name","kind","wires","sure"]
noncomputable def nD:{b:List Stmt // aR bz=b}:=⟨_,by conv=>lhs;whnf⟩
noncomputable def jo:{b:Scope // aF bz=b}:=⟨_,by conv=>lhs;whnf⟩
theorem oE:bf eA ["self","name","kind","wires","sure"] jo.1:=⟨rfl,rfl,rfl,by decide+kernel,rfl,by decide+kernel,by decide+kernel⟩
def gc:FZ:=(cA (rj (uT (lj (eI 0 "outs" (cG 0)))) (e7 4 (dR (bu (xP (cZ (bM (eC (.str "gate ")) (bM (jS (af 1)) (bM (eC (.str " stands behind an out")) mT))))) dE))) ke) (cA (rj (uT (xc false (xP (af 1)) (eI 0 "names" (cG 0)))) (e7 5 (dR (bu (xP (cZ (bM (eC (.str "there is an in or a gate ")) (bM (jS (af 1)) (bM (eC (.str " ahead")) mT))))) dE))) ke) (cA (rj (uT (Gy JF (wt (eI 0 "gates" (cG 0))) (xP (eC fP)))) (e7 6 (dR (bu (xP (cZ (bM (eC (.str "gate ")) (bM (jS (af 1)) (bM (eC (.str " is one too many")) mT))))) dE))) ke) (cA (kG (rp (eI 0 "gates" (cG 0))) (xw (bu (rp (xP (af 2))) (bu (nL 0 "wire_numbers" bc (rp (cG 0)) (dR (bu (xP (af 3)) dE))) (bu (rp (xP (af 4))) dE))))) (AJ (cA (m5 (eI 0 "names" (cG 0)) (xP (af 1)) (xP (eC (.bl true)))) (m5 (eI 0 "numbers" (cG 0)) (xP (af 1)) (wt (eI 0 "numbers" (cG 0))))))))))
def cu:List V3->aQ->R3 V3:=sg eA gc
def yP:List V3->aQ->R3 V3:=yd eA gc
theorem de(T:Tp P w K mg cl)(h:pN K (cl 0) "add_gate" "Draft.add_gate" bz)(bG:jk P w K mg base cl 1 0 "wire_numbers" 1 bc):jk P w K mg base cl 2 0 "add_gate" 4 cu:=by
 obtain⟨f,fd,F,hm⟩:=h;exact⟨f,fd,_,T.C_Draft,hm,jX (k:=1) nD.2 jo.2 F oE (fun dI A outer s H E hr=>(bS (fR (lO (cf T.C_Draft T.N_Draft_outs (bo 0))) (bQ (cS cT rfl T.X_NoPlace rfl T.M_NoPlace (cM (aT (ay (cF (aU av (aU (fQ (ae 1)) (aU av fF))))) bJ)))) eh) (bS (fR (tq (jT hr) (ay (ae 1)) (cf T.C_Draft T.N_Draft_names (bo 0))) (bQ (cS cT rfl T.X_Twice rfl T.M_Twice (cM (aT (ay (cF (aU av (aU (fQ (ae 1)) (aU av fF))))) bJ)))) eh) (bS (fR (l9 Eg (n9 (cf T.C_Draft T.N_Draft_gates (bo 0)) rfl T.z_len) (ay (fM T.fP rfl)) (bV _)) (bQ (cS cT rfl T.X_Full rfl T.M_Full (cM (aT (ay (cF (aU av (aU (fQ (ae 1)) (aU av fF))))) bJ)))) eh) (bS (vT (cf T.C_Draft T.N_Draft_gates (bo 0)) (zl (jR (xE (ay (ae 2))) (jR (kZ iA bG hr (by decide) (bo 0) (aT (ay (ae 3)) bJ) (bO dY)) (jR (xE (ay (ae 4))) vX))))) (n4 (bt (k4 (jT hr) (ay hV) (cf T.C_Draft T.N_Draft_names (bo 0)) (ay (ae 1))) (eT (k4 (jT hr) (n9 (cf T.C_Draft T.N_Draft_numbers (bo 0)) rfl T.z_len) (cf T.C_Draft T.N_Draft_numbers (bo 0)) (ay (ae 1))))))))))),F.binds fun _ _ _ _ _ _ us hl=>match us,hl with | [_,_,_,_,_],_=>rfl⟩
abbrev bL:Stmt:=inClass (top 28) 3
noncomputable abbrev eV:List Str:=["self","name","wires"]
noncomputable def oU:{b:List Stmt // aR bL=b}:=⟨_,by conv=>lhs;whnf⟩
noncomputable def jJ:{b:Scope // aF bL=b}:=⟨_,by conv=>lhs;whnf⟩
theorem pL:bf eV ["self","name","wires"] jJ.1:=⟨rfl,rfl,rfl,by decide+kernel,rfl,by decide+kernel,by decide+kernel⟩
def hU:FZ:=(cA (rj (uT (xc false (xP (af 1)) (eI 0 "out_names" (cG 0)))) (e7 5 (dR (bu (xP (cZ (bM (eC (.str "there is an out ")) (bM (jS (af 1)) (bM (eC (.str " ahead")) mT))))) dE))) ke) (cA (rj (uT (Gy JF (wt (eI 0 "outs" (cG 0))) (xP (eC gO)))) (e7 6 (dR (bu (xP (cZ (bM (eC (.str "out ")) (bM (jS (af 1)) (bM (eC (.str " is one too many")) mT))))) dE))) ke) (cA (kG (rp (eI 0 "outs" (cG 0))) (xw (bu (rp (xP (af 1))) (bu (nL 0 "wire_numbers" bc (rp (cG 0)) (dR (bu (xP (af 2)) dE))) dE)))) (AJ (m5 (eI 0 "out_names" (cG 0)) (xP (af 1)) (xP (eC (.bl true))))))))
def cD:List V3->aQ->R3 V3:=sg eV hU
def Ae:List V3->aQ->R3 V3:=yd eV hU
theorem dG(T:Tp P w K mg cl)(h:pN K (cl 0) "add_out" "Draft.add_out" bL)(bG:jk P w K mg base cl 1 0 "wire_numbers" 1 bc):jk P w K mg base cl 2 0 "add_out" 2 cD:=by
 obtain⟨f,fd,F,hm⟩:=h;exact⟨f,fd,_,T.C_Draft,hm,jX (k:=1) oU.2 jJ.2 F pL (fun dI A outer s H E hr=>(bS (fR (tq (jT hr) (ay (ae 1)) (cf T.C_Draft T.N_Draft_out_names (bo 0))) (bQ (cS cT rfl T.X_Twice rfl T.M_Twice (cM (aT (ay (cF (aU av (aU (fQ (ae 1)) (aU av fF))))) bJ)))) eh) (bS (fR (l9 Eg (n9 (cf T.C_Draft T.N_Draft_outs (bo 0)) rfl T.z_len) (ay (fM T.gO rfl)) (bV _)) (bQ (cS cT rfl T.X_Full rfl T.M_Full (cM (aT (ay (cF (aU av (aU (fQ (ae 1)) (aU av fF))))) bJ)))) eh) (bS (vT (cf T.C_Draft T.N_Draft_outs (bo 0)) (zl (jR (xE (ay (ae 1))) (jR (kZ iA bG hr (by decide) (bo 0) (aT (ay (ae 2)) bJ) (bO dY)) vX)))) (n4 (eT (k4 (jT hr) (ay hV) (cf T.C_Draft T.N_Draft_out_names (bo 0)) (ay (ae 1))))))))),F.binds fun _ _ _ _ _ _ us hl=>match us,hl with | [_,_,_],_=>rfl⟩
abbrev iK:Stmt:=top 29
noncomputable abbrev kj:List Str:=["draft","row","words"]
noncomputable def vY:{b:List Stmt // aR iK=b}:=⟨_,by conv=>lhs;whnf⟩
noncomputable def pe:{b:Scope // aF iK=b}:=⟨_,by conv=>lhs;whnf⟩
theorem qR:bf kj ["draft","row"] pe.1:=⟨rfl,rfl,rfl,by decide+kernel,rfl,by decide+kernel,by decide+kernel⟩
def mZ:FZ:=(cA (AJ (kO 2 (xP (rq "str" nh (af 1) (ai (eC (.str " ")) aJ))))) (rj (uT (bP (sW (aL fA (ai (af 2) aJ))))) (sH (nL 0 "add_in" cU (rp (cG 0)) (dR (bu (xP (e2 dC (af 2) (eC (.int 1)))) (bu (xP (vk lZ (e2 dC (af 2) (eC (.int 2))))) dE))))) (rj (uT (bP (sW (aL d6 (ai (af 2) aJ))))) (sH (nL 0 "add_gate" cu (rp (cG 0)) (dR (bu (xP (e2 dC (af 2) (eC (.int 1)))) (bu (xP (e2 dC (af 2) (eC (.int 2)))) (bu (xP (wc (af 2) (g6 (eC (.int 3))) jK)) (bu (xP (e2 rL (e2 dC (af 2) (eC (.int 0))) (eC (.str "sure")))) dE))))))) (rj (uT (bP (sW (aL eN (ai (af 2) aJ))))) (sH (nL 0 "add_out" cD (rp (cG 0)) (dR (bu (xP (e2 dC (af 2) (eC (.int 1)))) (bu (xP (wc (af 2) (g6 (eC (.int 2))) jK)) dE))))) (e7 3 (dR (bu (xP (cZ (bM (eC (.str "a row of no form: ")) (bM (Gv (af 1)) mT)))) dE)))))))
def fk:List V3->aQ->R3 V3:=sg kj mZ
def Gw:List V3->aQ->R3 V3:=yd kj mZ
theorem xQ(T:Tp P w K mg cl)(h:Def K mg "read_row" iK)(kA:Callee P w K mg base 2 "is_in_form" 1 fA)(je:Callee P w K mg base 4 "is_gate_form" 1 d6)(jF:Callee P w K mg base 4 "is_out_form" 1 eN)(ib:jk P w K mg base cl 2 0 "add_in" 2 cU)(fT:jk P w K mg base cl 2 0 "add_gate" 4 cu)(gu:jk P w K mg base cl 2 0 "add_out" 2 cD):dy P w K mg base cl 5 "read_row" 2 fk:=by
 obtain⟨f,fd,F,hm⟩:=h;exact⟨f,fd,_,jX (k:=4) vY.2 pe.2 F qR (fun dI A outer s H E hr=>(bS (xN (iZ qR.nd rfl (Or.inl rfl) (ay (rZ (ae 1) (aa av ag))))) (bQ (fR (lK (nV (aG kA hr (by decide) rfl (aa (ae 2) ag) (ak aK)))) (bQ (nX (kZ iA ib hr (by decide) (bo 0) (aT (ay (aW (ae 2) aj (fun _ _=>rfl))) (aT (ay (vh (aW (ae 2) aj (fun _ _=>rfl)) T.gd_WIDTHS rfl (fun _ _=>rfl))) bJ)) (bO (bO dY))))) (bQ (fR (lK (nV (aG je hr (by decide) rfl (aa (ae 2) ag) (ak aK)))) (bQ (nX (kZ iA fT hr (by decide) (bo 0) (aT (ay (aW (ae 2) aj (fun _ _=>rfl))) (aT (ay (aW (ae 2) aj (fun _ _=>rfl))) (aT (ay (km (ae 2) (eM aj) hJ)) (aT (ay (eU (pO hr.units) (aW (ae 2) aj (fun _ _=>rfl)) av (bV _))) bJ)))) (bO (bO (bO (bO dY))))))) (bQ (fR (lK (nV (aG jF hr (by decide) rfl (aa (ae 2) ag) (ak aK)))) (bQ (nX (kZ iA gu hr (by decide) (bo 0) (aT (ay (aW (ae 2) aj (fun _ _=>rfl))) (aT (ay (km (ae 2) (eM aj) hJ)) bJ)) (bO (bO dY))))) (bQ (cS cT rfl T.X_NoForm rfl T.M_NoForm (cM (aT (ay (cF (aU av (aU (AS (ae 1)) fF)))) bJ)))))))))))),hm,F.kp,F.binds fun _ _ _ _ _ _ us hl=>match us,hl with | [_,_],_=>rfl⟩
abbrev bx:Stmt:=inClass (top 28) 0
noncomputable abbrev eu:List Str:=["self"]
noncomputable def oi:{b:List Stmt // aR bx=b}:=⟨_,by conv=>lhs;whnf⟩
noncomputable def jt:{b:Scope // aF bx=b}:=⟨_,by conv=>lhs;whnf⟩
theorem ox:bf eu ["self"] jt.1:=⟨rfl,rfl,rfl,by decide+kernel,rfl,by decide+kernel,by decide+kernel⟩
def gb:FZ:=(cA (tP 0 "ins" (cG 0) (Bf (eO aJ))) (cA (tP 0 "gates" (cG 0) (Bf (eO aJ))) (cA (tP 0 "outs" (cG 0) (Bf (eO aJ))) (cA (tP 0 "names" (cG 0) vP) (cA (tP 0 "out_names" (cG 0) vP) (tP 0 "numbers" (cG 0) vP))))))
def cX:List V3->aQ->R3 V3:=sg eu gb
def ya:List V3->aQ->R3 V3:=yd eu gb
theorem df(T:Tp P w K mg cl)(h:HL K (cl 0) "__init__" "Draft.__init__" bx):A_ P w K mg base cl 1 0 "Draft" 0 cX:=by
 obtain⟨f,fd,F,hm⟩:=h;exact⟨f,fd,_,hm,vj (k:=0) oi.2 jt.2 F ox (fun dI A outer s H E hr=>(bt (oC T.C_Draft T.N_Draft_ins (bo 0) (xI (bU ag))) (bt (oC T.C_Draft T.N_Draft_gates (bo 0) (xI (bU ag))) (bt (oC T.C_Draft T.N_Draft_outs (bo 0) (xI (bU ag))) (bt (oC T.C_Draft T.N_Draft_names (bo 0) tE) (bt (oC T.C_Draft T.N_Draft_out_names (bo 0) tE) (eT (oC T.C_Draft T.N_Draft_numbers (bo 0) tE)))))))),T.M_Draft,F.binds fun _ _ _ _ _ _ us hl=>match us,hl with | [_],_=>rfl⟩
abbrev qc:Stmt:=top 30
noncomputable abbrev ud:List Str:=["text","rows","draft","row"]
noncomputable def EG:{b:List Stmt // aR qc=b}:=⟨_,by conv=>lhs;whnf⟩
noncomputable def y8:{b:Scope // aF qc=b}:=⟨_,by conv=>lhs;whnf⟩
theorem tF:bf ud ["text"] y8.1:=⟨rfl,rfl,rfl,by decide+kernel,rfl,by decide+kernel,by decide+kernel⟩
def nO:FZ:=(sH (mJ fk (dR (bu (cG 2) (bu (xP (af 3)) dE)))))
def wO:FZ:=(cA (AJ (kO 1 (xP (rq "str" nh (af 0) (ai (eC (.str "\n")) aJ))))) (cA (rj (uT (bP (b2 J9 (aL jO (ai (af 1) aJ)) (eC g8)))) (e7 2 (dR (bu (xP (eC (.str "a text of too many rows"))) dE))) ke) (cA (AJ (kO 2 (Cr 0 cX dE))) (cA (xF (Mi (iP (dk (af 1)))) (tV 3) nO) (cA (rj (uT (LF (CC (lj (eI 0 "ins" (cG 2)))) (CC (lj (eI 0 "outs" (cG 2)))))) (e7 8 (dR (bu (xP (eC (.str "a net without an in, or without an out"))) dE))) ke) (AJ (tL (xw (bu (eI 0 "ins" (cG 2)) (bu (eI 0 "gates" (cG 2)) (bu (eI 0 "outs" (cG 2)) dE)))))))))))
def eS:List V3->aQ->R3 V3:=sg ud wO
def Mn:List V3->aQ->R3 V3:=yd ud wO
theorem Hd(T:Tp P w K mg cl)(h:Def K mg "read" qc)(fW:A_ P w K mg base cl 1 0 "Draft" 0 cX)(lU:dy P w K mg base cl 5 "read_row" 2 fk):dy P w K mg base cl 6 "read" 1 eS:=by
 obtain⟨f,fd,F,hm⟩:=h;exact⟨f,fd,_,jX (k:=5) EG.2 y8.2 F tF (fun dI A outer s H E hr=>(bS (xN (iZ tF.nd rfl (Or.inl rfl) (ay (rZ (ae 0) (aa av ag))))) (bS (fR (lK (b7 D3 (bF jj rfl T.z_len PySem.boot_len (aa (ae 1) ag)) (fM T.g8 rfl) (bV _))) (bQ (cS cT rfl T.X_TooLong rfl T.M_TooLong (cM (aT (ay av) bJ)))) eh) (bS (xN (iZ tF.nd rfl (Or.inl rfl) (CD fW hr (by decide) rfl))) (bS (yA xg rfl (iT (ck (ae 1))) (cz tF.nd rfl (Or.inl rfl)) (bQ (nX (j6 iA lU hr (by decide) rfl (cM (aT (bo 2) (aT (ay (ae 3)) bJ))) (lY (bO (bO dY))))))) (bS (fR (I_.pb (Cd (ye (lO (cf T.C_Draft T.N_Draft_ins (bo 2)))) (yn (ye (lO (cf T.C_Draft T.N_Draft_outs (bo 2))))))) (bQ (cS cT rfl T.X_Open rfl T.M_Open (cM (aT (ay av) bJ)))) eh) (n4 (eT (mY (Jt (aT (cf T.C_Draft T.N_Draft_ins (bo 2)) (aT (cf T.C_Draft T.N_Draft_gates (bo 2)) (aT (cf T.C_Draft T.N_Draft_outs (bo 2)) bJ))))))))))))),hm,F.kp,F.binds fun _ _ _ _ _ _ us hl=>match us,hl with | [_],_=>rfl⟩
abbrev eQ:Stmt:=top 32
noncomputable abbrev mK:List Str:=["script","k"]
noncomputable def qv:{b:List Stmt // aR eQ=b}:=⟨_,by conv=>lhs;whnf⟩
noncomputable def lI:{b:Scope // aF eQ=b}:=⟨_,by conv=>lhs;whnf⟩
theorem rK:bf mK ["script","k"] lI.1:=⟨rfl,rfl,rfl,by decide+kernel,rfl,by decide+kernel,by decide+kernel⟩
def mB:FS:=(bK (sv (b2 J2 (af 1) (aL jO (ai (af 0) aJ))) (fX (e2 dC (af 0) (af 1))) mq) (fX (eC (.int 0))))
def dJ:List D->R D:=rD mK mB
theorem rB(T:Tp P w K mg cl)(h:Def K mg "_law_cell_at" eQ):Callee P w K mg base 1 "_law_cell_at" 2 dJ:=by
 obtain⟨f,fd,F,hm⟩:=h;exact⟨f,fd,_,b0 (k:=0) qv.2 lI.2 F rK (fun dI A outer s H E hr=>(au (fN (b7 DY (ae 1) (bF jj rfl T.z_len PySem.boot_len (aa (ae 0) ag)) (bV _)) (aP (bw (aW (ae 0) (ae 1) (fun _ _=>rfl)))) d5) (aP (bw aj)))),hm,F.kp,F.binds fun _ _ _ _ _ _ us hl=>match us,hl with | [_,_],_=>rfl⟩
abbrev i7:Stmt:=top 33
noncomputable abbrev ku:List Str:=["cell","k","number"]
noncomputable def vE:{b:List Stmt // aR i7=b}:=⟨_,by conv=>lhs;whnf⟩
noncomputable def pj:{b:Scope // aF i7=b}:=⟨_,by conv=>lhs;whnf⟩
theorem mQ:bf ku ["cell","k"] pj.1:=⟨rfl,rfl,rfl,by decide+kernel,rfl,by decide+kernel,by decide+kernel⟩
def qE:FS:=(bK (sv (b2 JF (af 0) (e2 zJ (eC (.int 10)) (eC (.int 18)))) (fX (e2 dO (e2 Kg (e2 z_ (af 0) (e2 zJ (eC (.int 10)) (eC (.int 18)))) (e2 mv (eC (.int 28)) (af 1))) (e2 zJ (eC (.int 2)) (eC (.int 28))))) mq) (bK (cR 2 (e2 dO (e2 mv (e2 cj (e2 cj (af 0) (e2 mv (eC (.int 1013)) (af 1))) (eC (.int 1))) (eC (.int 16807))) (eC (.int 2147483647)))) (bK (cR 2 (e2 dO (e2 mv (af 2) (af 2)) (eC (.int 2147483629)))) (fX (e2 dF (e2 dO (e2 mv (af 2) (eC (.int 39373))) (eC (.int 2147483587))) (eC (.int 8)))))))
def bj:List D->R D:=rD ku qE
theorem wI(T:Tp P w K mg cl)(h:Def K mg "_law_stir" i7):Callee P w K mg base 1 "_law_stir" 2 bj:=by
 obtain⟨f,fd,F,hm⟩:=h;exact⟨f,fd,_,b0 (k:=0) vE.2 pj.2 F mQ (fun dI A outer s H E hr=>(au (fN (b7 Eg (ae 0) (az Bo aj aj) (bV _)) (aP (bw (az eF (az KZ (az yr (ae 0) (az Bo aj aj)) (az qI aj (ae 1))) (az Bo aj aj)))) d5) (au (bb mQ.nd rfl (Or.inl rfl) (az eF (az qI (az cx (az cx (ae 0) (az qI aj (ae 1))) aj) aj) aj)) (au (bb mQ.nd rfl (Or.inl rfl) (az eF (az qI (ae 2) (ae 2)) aj)) (aP (bw (az i8 (az eF (az qI (ae 2) aj) aj) aj))))))),hm,F.kp,F.binds fun _ _ _ _ _ _ us hl=>match us,hl with | [_,_],_=>rfl⟩
abbrev gM:Stmt:=top 34
noncomputable abbrev dZ:List Str:=["head","k","many","letters","barred","found","j","number","word","spare"]
noncomputable def uk:{b:List Stmt // aR gM=b}:=⟨_,by conv=>lhs;whnf⟩
noncomputable def ip:{b:Scope // aF gM=b}:=⟨_,by conv=>lhs;whnf⟩
theorem cn:bf dZ ["head","k","many"] ip.1:=⟨rfl,rfl,rfl,by decide+kernel,rfl,by decide+kernel,by decide+kernel⟩
def gC:FS:=(bK (cR 7 (aL bj (ai (af 0) (ai (e2 cj (af 1) (af 6)) aJ)))) (bK (cR 8 (rq "str" eR (eC (.str "")) (ai (eNew (eO (ai (e2 dC (af 3) (e2 dO (af 7) (eC (.int 26)))) (ai (e2 dC (af 3) (e2 dO (e2 dF (af 7) (eC (.int 26))) (eC (.int 26)))) (ai (e2 mv (eC (.str "x")) (e2 dO (e2 dF (af 7) (eC (.int 700))) (eC (.int 7)))) aJ))))) aJ))) (bK (cR 8 (wc (af 8) (g6 (e2 dO (e2 dF (af 7) (eC (.int 5000))) (eC (.int 2)))) jK)) (bK (sv (tf (b2 rL (e2 dO (e2 dF (af 7) (eC (.int 10000))) (eC (.int 4))) (eC (.int 0))) (mG (b2 zO (af 5) (eNew (eO aJ))))) (cR 8 (wc (e2 cj (lr (e2 dC (af 5) (e2 dO (e2 dF (af 7) (eC (.int 40000))) (aL jO (ai (af 5) aJ))))) (af 8)) jK (g6 (eC (.int 8))))) mq) (bK (sv (zp (b2 rL (af 8) (eC (.str ""))) (zp (mG (b2 yi (af 8) (af 5))) (b2 yi (af 8) (af 4)))) (bK (cR 9 (eNew (di (fu (eC (.int 80))) (aH 0) mn (e2 cj (e2 cj (eC (.str "zz")) (e2 dC (af 1) (e2 dF (af 0) (eC (.int 26))))) (e2 dC (af 1) (e2 dO (af 0) (eC (.int 26))))) ["n"] [3]))) (cR 8 (lr (e2 dC (eNew (di (dk (af 9)) (aH 0) (b2 jB (af 0) (af 1)) (af 0) ["one"] [5])) (eC (.int 0)))))) mq) (nK 5 (af 8)))))))
def pf:FS:=(bK (cR 3 (eC (.str "abcdefghijklmnopqrstuvwxyz"))) (bK (cR 4 (eNew (eO (ai (eC (.str "in")) (ai (eC (.str "gate")) (ai (eC (.str "sure")) (ai (eC (.str "out")) (ai (eC (.str "not")) (ai (eC (.str "and")) (ai (eC (.str "or")) (ai (eC (.str "xor")) (ai (eC (.str "vote")) aJ)))))))))))) (bK (mX 5 (eO aJ)) (bK (oT (fu (af 2)) (aH 6) gC) (pE 5 (fX (af 5)))))))
def c0:List D->R D:=rD dZ pf
theorem vS(T:Tp P w K mg cl)(h:Def K mg "_law_names" gM)(bC:Callee P w K mg base 1 "_law_stir" 2 bj):Callee P w K mg base 2 "_law_names" 3 c0:=by
 obtain⟨f,fd,F,hm⟩:=h;exact⟨f,fd,_,b0 (k:=1) uk.2 ip.2 F cn (fun dI A outer s H E hr=>(au (bb cn.nd rfl (Or.inr rfl) av) (au (bb cn.nd rfl (Or.inl rfl) (bW (bU (aa av (aa av (aa av (aa av (aa av (aa av (aa av (aa av (aa av ag)))))))))))) (au (iV cn.nd rfl (Or.inr rfl) (bU ag)) (au (fK PassesOwn.never rfl (d_ (ae 2) rfl T.z_range) (aN cn.nd rfl (Or.inl rfl)) (au (bb cn.nd rfl (Or.inl rfl) (aG bC hr (by decide) rfl (aa (ae 0) (aa (az cx (ae 1) (ae 6)) ag)) (ak (ak aK)))) (au (bb cn.nd rfl (Or.inl rfl) (fI av (aa (bW (bU (aa (aW (ae 3) (az eF (ae 7) aj) (fun _ _=>rfl)) (aa (aW (ae 3) (az eF (az i8 (ae 7) aj) aj) (fun _ _=>rfl)) (aa (az qI av (az eF (az i8 (ae 7) aj) aj)) ag))))) ag))) (au (bb cn.nd rfl (Or.inl rfl) (km (ae 8) (eM (az eF (az i8 (ae 7) aj) aj)) hJ)) (au (fN (kr (uZ (b7 (pO hr.units) (az eF (az i8 (ae 7) aj) aj) aj (bV _)) (r6 (qT (b7 (Cw hr.units) (ae 5) (bW (bU ag)) (bV _)))))) (aP (bb cn.nd rfl (Or.inl rfl) (km (az cx (nS (aW (ae 5) (az eF (az i8 (ae 7) aj) (bF jj rfl T.z_len PySem.boot_len (aa (ae 5) ag))) (fun _ _=>rfl))) (ae 8)) hJ (eM aj)))) d5) (au (fN (kr (js (b7 (pO hr.units) (ae 8) av (bV _)) (js (qT (b7 zV (ae 8) (ae 5) (by with_unfolding_all rfl))) (kW (b7 zV (ae 8) (ae 4) (by with_unfolding_all rfl)))))) (au (n_ rfl cn.nd rfl rfl (bN.of (own:=["n"]) (kp:=[3]) (kn:=["letters"]) (sc:=ip.1) (N:=dZ) rfl rfl (by decide+kernel)) (d_ aj rfl T.z_range) (fun _ _ _=>(aN (show List.Nodup [(Str.ofString "n"),"letters"] from by decide+kernel) rfl (Or.inl rfl))) (fun _ _ _=>dM) (fun _ _ _=>(az cx (az cx av (aW (ae 1) (az i8 (ae 0) aj) (fun _ _=>rfl))) (aW (ae 1) (az eF (ae 0) aj) (fun _ _=>rfl))))) (aP (bb cn.nd rfl (Or.inl rfl) (nS (aW (bW (fO rfl (bN.of (own:=["one"]) (kp:=[5]) (kn:=["found"]) (sc:=ip.1) (N:=dZ) rfl rfl (by decide+kernel)) (ck (ae 9)) (fun _ _ _=>(aN (show List.Nodup [(Str.ofString "one"),"found"] from by decide+kernel) rfl (Or.inl rfl))) (fun _ _ _=>(vK (b7 p7 (ae 0) (ae 1) (by with_unfolding_all rfl)))) (fun _ _ _=>(ae 0)))) aj (fun _ _=>rfl)))))) d5) (aP (fJ rfl (Or.inr (Or.inl rfl)) (ae 8))))))))) (g7 5 (aP (bw (ae 5))))))))),hm,F.kp,F.binds fun _ _ _ _ _ _ us hl=>match us,hl with | [_,_,_],_=>rfl⟩
abbrev gZ:Stmt:=top 35
noncomputable abbrev lA:List Str:=["cell","k","many","count","found","j","number"]
noncomputable def ui:{b:List Stmt // aR gZ=b}:=⟨_,by conv=>lhs;whnf⟩
noncomputable def nC:{b:Scope // aF gZ=b}:=⟨_,by conv=>lhs;whnf⟩
theorem jm:bf lA ["cell","k","many","count"] nC.1:=⟨rfl,rfl,rfl,by decide+kernel,rfl,by decide+kernel,by decide+kernel⟩
def jy:FS:=(bK (cR 6 (aL bj (ai (af 0) (ai (e2 cj (af 1) (af 5)) aJ)))) (nK 4 (e2 dC (eNew (eO (ai (e2 dO (e2 dF (af 6) (eC (.int 4))) (af 3)) (ai (e2 z_ (e2 z_ (af 3) (eC (.int 1))) (e2 dO (e2 dF (af 6) (eC (.int 4))) (aL zo (ai (af 3) (ai (eC (.int 6)) aJ))))) aJ)))) (aL uH (ai (e2 J9 (e2 dO (af 6) (eC (.int 4))) (eC (.int 0))) aJ)))))
def o9:FS:=(bK (mX 4 (eO aJ)) (bK (oT (fu (af 2)) (aH 5) jy) (pE 4 (fX (aL uf (ai (af 4) aJ))))))
def dU:List D->R D:=rD lA o9
theorem vH(T:Tp P w K mg cl)(h:Def K mg "_law_wires" gZ)(bC:Callee P w K mg base 1 "_law_stir" 2 bj):Callee P w K mg base 2 "_law_wires" 4 dU:=by
 obtain⟨f,fd,F,hm⟩:=h;exact⟨f,fd,_,b0 (k:=1) ui.2 nC.2 F jm (fun dI A outer s H E hr=>(au (iV jm.nd rfl (Or.inl rfl) (bU ag)) (au (fK PassesOwn.never rfl (d_ (ae 2) rfl T.z_range) (aN jm.nd rfl (Or.inl rfl)) (au (bb jm.nd rfl (Or.inl rfl) (aG bC hr (by decide) rfl (aa (ae 0) (aa (az cx (ae 1) (ae 5)) ag)) (ak (ak aK)))) (aP (fJ rfl (Or.inl rfl) (aW (bW (bU (aa (az eF (az i8 (ae 6) aj) (ae 3)) (aa (az yr (az yr (ae 3) aj) (az eF (az i8 (ae 6) aj) (bF (HR rfl) rfl T.z_min PyProof.Rows.boot_min (aa (ae 3) (aa aj ag))))) ag)))) (iU wy rfl T.z_int PyProof.Rows.boot_int (aa (eU D3 (az eF (ae 6) aj) aj (bV _)) ag)) (fun _ _=>rfl)))))) (g7 4 (aP (bw (iU yH rfl T.z_tuple PyProof.Rows.boot_tuple (aa (ae 4) ag)))))))),hm,F.kp,F.binds fun _ _ _ _ _ _ us hl=>match us,hl with | [_,_,_,_],_=>rfl⟩
abbrev i5:Stmt:=top 36
noncomputable abbrev iY:List Str:=["cell","count","number","kind","many"]
noncomputable def vn:{b:List Stmt // aR i5=b}:=⟨_,by conv=>lhs;whnf⟩
noncomputable def ph:{b:Scope // aF i5=b}:=⟨_,by conv=>lhs;whnf⟩
theorem ko:bf iY ["cell","count"] ph.1:=⟨rfl,rfl,rfl,by decide+kernel,rfl,by decide+kernel,by decide+kernel⟩
def q9:FS:=(bK (cR 2 (aL bj (ai (af 0) (ai (eC (.int 0)) aJ)))) (bK (cR 3 (e2 dC (eNew (eO (ai (eC (.str "and")) (ai (eC (.str "or")) (ai (eC (.str "xor")) (ai (eC (.str "vote")) (ai (eC (.str "not")) (ai (eC (.str "and")) (ai (eC (.str "xor")) (ai (eC (.str "vote")) aJ)))))))))) (e2 dO (af 2) (eC (.int 8))))) (bK (cR 4 (Ct [((Sum.inr "not":Key),V.int 1),((Sum.inr "vote":Key),V.int 3)] (af 3) (eC (.int 2)))) (fX (jA (ai (af 3) (ai (aL dU (ai (af 0) (ai (eC (.int 1)) (ai (af 4) (ai (af 1) aJ))))) (ai (e2 rL (e2 dO (e2 dF (af 2) (eC (.int 8))) (eC (.int 4))) (eC (.int 0))) aJ))))))))
def iL:List D->R D:=rD iY q9
theorem xH(T:Tp P w K mg cl)(h:Def K mg "_law_gate" i5)(bC:Callee P w K mg base 1 "_law_stir" 2 bj)(fq:Callee P w K mg base 2 "_law_wires" 4 dU):Callee P w K mg base 3 "_law_gate" 2 iL:=by
 obtain⟨f,fd,F,hm⟩:=h;exact⟨f,fd,_,b0 (k:=2) vn.2 ph.2 F ko (fun dI A outer s H E hr=>(au (bb ko.nd rfl (Or.inl rfl) (aG bC hr (by decide) rfl (aa (ae 0) (aa aj ag)) (ak (ak aK)))) (au (bb ko.nd rfl (Or.inl rfl) (aW (bW (bU (aa av (aa av (aa av (aa av (aa av (aa av (aa av (aa av ag)))))))))) (az eF (ae 2) aj) (fun _ _=>rfl))) (au (bb ko.nd rfl (Or.inl rfl) (EN (jT hr) (n3 qJ qM (n3 qJ qM yU)) rfl rfl (by simp) (fun _ _ _ h=>h) (by decide) (ae 3) aj ⟨rfl,rfl,rfl,rfl⟩ (Er (n3 qJ qM (n3 qJ qM yU)) rfl rfl (by simp) (by decide)))) (aP (bw (c3 (aa (ae 3) (aa (aG fq hr (by decide) rfl (aa (ae 0) (aa aj (aa (ae 4) (aa (ae 1) ag)))) (ak (ak (ak (ak aK))))) (aa (eU (pO hr.units) (az eF (az i8 (ae 2) aj) aj) aj (bV _)) ag)))))))))),hm,F.kp,F.binds fun _ _ _ _ _ _ us hl=>match us,hl with | [_,_],_=>rfl⟩
abbrev jH:Stmt:=top 37
noncomputable abbrev iB:List Str:=["script","head","names","ins","place","first","gates","cell","outs","others","number"]
noncomputable def xX:{b:List Stmt // aR jH=b}:=⟨_,by conv=>lhs;whnf⟩
noncomputable def mW:{b:Scope // aF jH=b}:=⟨_,by conv=>lhs;whnf⟩
theorem cC:bf iB ["script"] mW.1:=⟨rfl,rfl,rfl,by decide+kernel,rfl,by decide+kernel,by decide+kernel⟩
def lF:FS:=(nK 3 (jA (ai (e2 dC (af 2) (af 4)) (ai (e2 cj (eC (.int 1)) (e2 dO (aL bj (ai (af 1) (ai (e2 cj (eC (.int 321)) (af 4)) aJ))) (eC (.int 3)))) aJ))))
def lJ:FS:=(nK 6 (aL iL (ai (af 7) (ai (e2 cj (af 5) (lr (aL jO (ai (af 6) aJ)))) aJ))))
def la:FS:=(bK (cR 10 (aL bj (ai (af 1) (ai (e2 cj (eC (.int 342)) (af 4)) aJ)))) (nK 8 (jA (ai (e2 dC (af 9) (e2 z_ (eC (.int 5)) (af 4))) (ai (aL dU (ai (af 1) (ai (e2 cj (eC (.int 350)) (e2 mv (eC (.int 3)) (af 4))) (ai (e2 cj (eC (.int 1)) (e2 dO (af 10) (eC (.int 3)))) (ai (e2 cj (af 5) (aL jO (ai (af 6) aJ))) aJ))))) aJ)))))
def rT:FS:=(bK (cR 1 (aL dJ (ai (af 0) (ai (eC (.int 0)) aJ)))) (bK (cR 2 (aL c0 (ai (af 1) (ai (eC (.int 300)) (ai (eC (.int 6)) aJ))))) (bK (mX 3 (eO aJ)) (bK (oT (fu (e2 cj (eC (.int 1)) (e2 dO (aL bj (ai (af 1) (ai (eC (.int 320)) aJ))) (eC (.int 6))))) (aH 4) lF) (pE 3 (bK (cR 5 (aL vm (ai (eNew (di (dk (af 3)) (fL 2 (bh (aH 0) (bh (aH 1) fH))) mn (af 1) ["name","width"] [])) aJ))) (bK (mX 6 (eO aJ)) (bK (oT (dk (wc (af 0) (g6 (eC (.int 1))) (g6 (eC (.int 61))))) (aH 7) lJ) (pE 6 (bK (mX 8 (eO aJ)) (bK (cR 9 (aL c0 (ai (af 1) (ai (eC (.int 330)) (ai (eC (.int 6)) aJ))))) (bK (sv (b2 rL (e2 dO (aL bj (ai (af 1) (ai (eC (.int 340)) aJ))) (eC (.int 2))) (eC (.int 0))) (cR 9 (af 2)) mq) (bK (oT (fu (e2 cj (eC (.int 1)) (e2 dO (aL bj (ai (af 1) (ai (eC (.int 341)) aJ))) (eC (.int 6))))) (aH 4) la) (pE 8 (fX (jA (ai (af 3) (ai (af 6) (ai (af 8) aJ)))))))))))))))))))
def md:List D->R D:=rD iB rT
theorem z9(T:Tp P w K mg cl)(h:Def K mg "_law_net" jH)(gL:Callee P w K mg base 1 "_law_cell_at" 2 dJ)(dv:Callee P w K mg base 2 "_law_names" 3 c0)(bC:Callee P w K mg base 1 "_law_stir" 2 bj)(nt:Callee P w K mg base 3 "_law_gate" 2 iL)(fq:Callee P w K mg base 2 "_law_wires" 4 dU):Callee P w K mg base 4 "_law_net" 1 md:=by
 obtain⟨f,fd,F,hm⟩:=h;exact⟨f,fd,_,b0 (k:=3) xX.2 mW.2 F cC (fun dI A outer s H E hr=>(au (bb cC.nd rfl (Or.inl rfl) (aG gL hr (by decide) rfl (aa (ae 0) (aa aj ag)) (ak (ak aK)))) (au (bb cC.nd rfl (Or.inl rfl) (aG dv hr (by decide) rfl (aa (ae 1) (aa aj (aa aj ag))) (ak (ak (ak aK))))) (au (iV cC.nd rfl (Or.inl rfl) (bU ag)) (au (fK PassesOwn.never rfl (d_ (az cx aj (az eF (aG bC hr (by decide) rfl (aa (ae 1) (aa aj ag)) (ak (ak aK))) aj)) rfl T.z_range) (aN cC.nd rfl (Or.inl rfl)) (aP (fJ rfl (Or.inl rfl) (c3 (aa (aW (ae 2) (ae 4) (fun _ _=>rfl)) (aa (az cx aj (az eF (aG bC hr (by decide) rfl (aa (ae 1) (aa (az cx aj (ae 4)) ag)) (ak (ak aK))) aj)) ag)))))) (g7 3 (au (bb cC.nd rfl (Or.inl rfl) (bF (Hr rfl) rfl T.z_sum PyProof.Rows.boot_sum (aa (bW (fO rfl (bN.of (own:=["name","width"]) (kp:=[]) (kn:=[]) (sc:=mW.1) (N:=iB) rfl rfl (by decide+kernel)) (ck (ae 3)) (fun _ _ _=>(gS rfl (bq (aN (show List.Nodup [(Str.ofString "name"),"width"] from by decide+kernel) rfl (Or.inl rfl)) (bq (aN (show List.Nodup [(Str.ofString "name"),"width"] from by decide+kernel) rfl (Or.inl rfl)) fm)))) (fun _ _ _=>dM) (fun _ _ _=>(ae 1)))) ag))) (au (iV cC.nd rfl (Or.inl rfl) (bU ag)) (au (fK PassesOwn.never rfl (ck (km (ae 0) (eM aj) (eM aj))) (aN cC.nd rfl (Or.inl rfl)) (aP (fJ rfl (Or.inl rfl) (aG nt hr (by decide) rfl (aa (ae 7) (aa (az cx (ae 5) (nS (bF jj rfl T.z_len PySem.boot_len (aa (ae 6) ag)))) ag)) (ak (ak aK)))))) (g7 6 (au (iV cC.nd rfl (Or.inl rfl) (bU ag)) (au (bb cC.nd rfl (Or.inl rfl) (aG dv hr (by decide) rfl (aa (ae 1) (aa aj (aa aj ag))) (ak (ak (ak aK))))) (au (fN (b7 (pO hr.units) (az eF (aG bC hr (by decide) rfl (aa (ae 1) (aa aj ag)) (ak (ak aK))) aj) aj (bV _)) (aP (bb cC.nd rfl (Or.inl rfl) (ae 2))) d5) (au (fK PassesOwn.never rfl (d_ (az cx aj (az eF (aG bC hr (by decide) rfl (aa (ae 1) (aa aj ag)) (ak (ak aK))) aj)) rfl T.z_range) (aN cC.nd rfl (Or.inl rfl)) (au (bb cC.nd rfl (Or.inl rfl) (aG bC hr (by decide) rfl (aa (ae 1) (aa (az cx aj (ae 4)) ag)) (ak (ak aK)))) (aP (fJ rfl (Or.inl rfl) (c3 (aa (aW (ae 9) (az yr aj (ae 4)) (fun _ _=>rfl)) (aa (aG fq hr (by decide) rfl (aa (ae 1) (aa (az cx aj (az qI aj (ae 4))) (aa (az cx aj (az eF (ae 10) aj)) (aa (az cx (ae 5) (bF jj rfl T.z_len PySem.boot_len (aa (ae 6) ag))) ag)))) (ak (ak (ak (ak aK))))) ag))))))) (g7 8 (aP (bw (c3 (aa (ae 3) (aa (ae 6) (aa (ae 8) ag))))))))))))))))))))),hm,F.kp,F.binds fun _ _ _ _ _ _ us hl=>match us,hl with | [_],_=>rfl⟩
abbrev gU:Stmt:=top 38
noncomputable abbrev lP:List Str:=["ins","gate_names","found","name","width"]
noncomputable def tU:{b:List Stmt // aR gU=b}:=⟨_,by conv=>lhs;whnf⟩
noncomputable def nH:{b:Scope // aF gU=b}:=⟨_,by conv=>lhs;whnf⟩
theorem gP:bf lP ["ins","gate_names"] nH.1:=⟨rfl,rfl,rfl,by decide+kernel,rfl,by decide+kernel,by decide+kernel⟩
def jC:FS:=(cR 2 (e2 cj (af 2) (e2 dC (eNew (eO (ai (eNew (eO (ai (af 3) aJ))) (ai (wc (eNew (eO (ai (e2 cj (af 3) (eC (.str ":0"))) (ai (e2 cj (af 3) (eC (.str ":1"))) (ai (e2 cj (af 3) (eC (.str ":2"))) aJ))))) jK (g6 (af 4))) aJ)))) (aL uH (ai (e2 J9 (af 4) (eC (.int 1))) aJ)))))
def o8:FS:=(bK (cR 2 (eNew (eO aJ))) (bK (oT (dk (af 0)) (fL 2 (bh (aH 3) (bh (aH 4) fH))) jC) (fX (e2 cj (af 2) (af 1)))))
def hG:List D->R D:=rD lP o8
theorem u_(T:Tp P w K mg cl)(h:Def K mg "_law_words" gU):Callee P w K mg base 1 "_law_words" 2 hG:=by
 obtain⟨f,fd,F,hm⟩:=h;exact⟨f,fd,_,b0 (k:=0) tU.2 nH.2 F gP (fun dI A outer s H E hr=>(au (bb gP.nd rfl (Or.inl rfl) (bW (bU ag))) (au (fK PassesOwn.never rfl (ck (ae 0)) (gS rfl (bq (aN gP.nd rfl (Or.inl rfl)) (bq (aN gP.nd rfl (Or.inl rfl)) fm))) (aP (bb gP.nd rfl (Or.inl rfl) (az cx (ae 2) (aW (bW (bU (aa (bW (bU (aa (ae 3) ag))) (aa (km (bW (bU (aa (az cx (ae 3) av) (aa (az cx (ae 3) av) (aa (az cx (ae 3) av) ag))))) hJ (eM (ae 4))) ag)))) (iU wy rfl T.z_int PyProof.Rows.boot_int (aa (eU D3 (ae 4) aj (bV _)) ag)) (fun _ _=>rfl)))))) (aP (bw (az cx (ae 2) (ae 1))))))),hm,F.kp,F.binds fun _ _ _ _ _ _ us hl=>match us,hl with | [_,_],_=>rfl⟩
abbrev iR:Stmt:=top 39
noncomputable abbrev iQ:List Str:=["net","gate_names","ins","gates","outs","words","rows","place","kind","wires","sure","row","name"]
noncomputable def vW:{b:List Stmt // aR iR=b}:=⟨_,by conv=>lhs;whnf⟩
noncomputable def gW:{b:Scope // aF iR=b}:=⟨_,by conv=>lhs;whnf⟩
theorem cb:bf iQ ["net","gate_names"] gW.1:=⟨rfl,rfl,rfl,by decide+kernel,rfl,by decide+kernel,by decide+kernel⟩
def kf:FS:=(bK (cR 11 (eNew (eO (ai (e2 dC (eNew (eO (ai (eC (.str "gate")) (ai (eC (.str "sure")) aJ)))) (aL uH (ai (af 10) aJ))) (ai (e2 dC (af 1) (af 7)) (ai (af 8) aJ)))))) (nK 6 (rq "str" eR (eC (.str " ")) (ai (e2 cj (af 11) (eNew (di (dk (af 9)) (aH 0) mn (e2 dC (af 1) (af 0)) ["wire"] [5]))) aJ))))
def j_:FS:=(nK 6 (rq "str" eR (eC (.str " ")) (ai (e2 cj (eNew (eO (ai (eC (.str "out")) (ai (af 12) aJ)))) (eNew (di (dk (af 9)) (aH 0) mn (e2 dC (af 1) (af 0)) ["wire"] [5]))) aJ)))
def qr:FS:=(bK (Jn (af 0) (fL 3 (bh (aH 2) (bh (aH 3) (bh (aH 4) fH))))) (bK (cR 5 (aL hG (ai (af 2) (ai (af 1) aJ)))) (bK (mX 6 (di (dk (af 2)) (fL 2 (bh (aH 0) (bh (aH 1) fH))) mn (rq "str" eR (eC (.str " ")) (ai (eNew (eO (ai (eC (.str "in")) (ai (af 0) (ai (aL cStr (ai (af 1) aJ)) aJ))))) aJ)) ["name","width"] [])) (bK (oT (mS (af 3)) (fL 2 (bh (aH 7) (bh (fL 3 (bh (aH 8) (bh (aH 9) (bh (aH 10) fH)))) fH))) kf) (bK (oT (dk (af 4)) (fL 2 (bh (aH 12) (bh (aH 9) fH))) j_) (pE 6 (fX (af 6))))))))
def dw:List D->R D:=rD iQ qr
theorem xf(T:Tp P w K mg cl)(h:Def K mg "_law_rows" iR)(lV:Callee P w K mg base 1 "_law_words" 2 hG):Callee P w K mg base 2 "_law_rows" 2 dw:=by
 obtain⟨f,fd,F,hm⟩:=h;exact⟨f,fd,_,b0 (k:=1) vW.2 gW.2 F cb (fun dI A outer s H E hr=>(au (B7 (ae 0) (gS rfl (bq (aN cb.nd rfl (Or.inl rfl)) (bq (aN cb.nd rfl (Or.inl rfl)) (bq (aN cb.nd rfl (Or.inl rfl)) fm))))) (au (bb cb.nd rfl (Or.inr rfl) (aG lV hr (by decide) rfl (aa (ae 2) (aa (ae 1) ag)) (ak (ak aK)))) (au (t6 rfl cb.nd rfl rfl (bN.of (own:=["name","width"]) (kp:=[]) (kn:=[]) (sc:=gW.1) (N:=iQ) rfl rfl (by decide+kernel)) (ck (ae 2)) (fun _ _ _=>(gS rfl (bq (aN (show List.Nodup [(Str.ofString "name"),"width"] from by decide+kernel) rfl (Or.inl rfl)) (bq (aN (show List.Nodup [(Str.ofString "name"),"width"] from by decide+kernel) rfl (Or.inl rfl)) fm)))) (fun _ _ _=>dM) (fun _ _ _=>(fI av (aa (bW (bU (aa av (aa (ae 0) (aa (iU K2 rfl T.z_str PyProof.Rows.boot_str (aa (ae 1) ag)) ag))))) ag)))) (au (fK PassesOwn.never rfl (oV (ae 3) rfl T.z_enumerate) (gS rfl (bq (aN cb.nd rfl (Or.inl rfl)) (bq (gS rfl (bq (aN cb.nd rfl (Or.inl rfl)) (bq (aN cb.nd rfl (Or.inl rfl)) (bq (aN cb.nd rfl (Or.inl rfl)) fm)))) fm))) (au (bb cb.nd rfl (Or.inl rfl) (bW (bU (aa (aW (bW (bU (aa av (aa av ag)))) (iU wy rfl T.z_int PyProof.Rows.boot_int (aa (ae 10) ag)) (fun _ _=>rfl)) (aa (aW (ae 1) (ae 7) (fun _ _=>rfl)) (aa (ae 8) ag)))))) (aP (fJ rfl (Or.inl rfl) (fI av (aa (az cx (ae 11) (bW (fO rfl (bN.of (own:=["wire"]) (kp:=[5]) (kn:=["words"]) (sc:=gW.1) (N:=iQ) rfl rfl (by decide+kernel)) (ck (ae 9)) (fun _ _ _=>(aN (show List.Nodup [(Str.ofString "wire"),"words"] from by decide+kernel) rfl (Or.inl rfl))) (fun _ _ _=>dM) (fun _ _ _=>(aW (ae 1) (ae 0) (fun _ _=>rfl)))))) ag)))))) (au (fK PassesOwn.never rfl (ck (ae 4)) (gS rfl (bq (aN cb.nd rfl (Or.inl rfl)) (bq (aN cb.nd rfl (Or.inl rfl)) fm))) (aP (fJ rfl (Or.inl rfl) (fI av (aa (az cx (bW (bU (aa av (aa (ae 12) ag)))) (bW (fO rfl (bN.of (own:=["wire"]) (kp:=[5]) (kn:=["words"]) (sc:=gW.1) (N:=iQ) rfl rfl (by decide+kernel)) (ck (ae 9)) (fun _ _ _=>(aN (show List.Nodup [(Str.ofString "wire"),"words"] from by decide+kernel) rfl (Or.inl rfl))) (fun _ _ _=>dM) (fun _ _ _=>(aW (ae 1) (ae 0) (fun _ _=>rfl)))))) ag))))) (g7 6 (aP (bw (ae 6)))))))))),hm,F.kp,F.binds fun _ _ _ _ _ _ us hl=>match us,hl with | [_,_],_=>rfl⟩
abbrev dg:Stmt:=top 40
noncomputable abbrev bR:List Str:=["net","head","taken","words","found","word","spare"]
noncomputable def nR:{b:List Stmt // aR dg=b}:=⟨_,by conv=>lhs;whnf⟩
noncomputable def c2:{b:Scope // aF dg=b}:=⟨_,by conv=>lhs;whnf⟩
theorem b_:bf bR ["net","head"] c2.1:=⟨rfl,rfl,rfl,by decide+kernel,rfl,by decide+kernel,by decide+kernel⟩
def e8:FS:=(bK (sv (mG (b2 yi (af 5) (af 2))) (bK (cR 6 (eNew (di (fu (eC (.int 144))) (aH 0) mn (e2 cj (e2 cj (eC (.str "y")) (e2 dC (eC (.str "abcdefghijkl")) (e2 dF (af 0) (eC (.int 12))))) (e2 dC (eC (.str "mnopqrstuvwx")) (e2 dO (af 0) (eC (.int 12))))) ["n"] []))) (cR 5 (lr (e2 dC (eNew (di (dk (af 6)) (aH 0) (tf (b2 jB (af 0) (af 1)) (b2 jB (af 0) (af 2))) (af 0) ["one"] [2,3])) (eC (.int 0)))))) mq) (bK (nK 4 (af 5)) (nK 2 (af 5))))
def jZ:FS:=(bK (mX 2 (di (dk (e2 dC (af 0) (eC (.int 0)))) (fL 2 (bh (aH 0) (bh (aH 1) fH))) mn (af 0) ["name","width"] [])) (bK (cR 3 (aL c0 (ai (af 1) (ai (eC (.int 400)) (ai (aL jO (ai (e2 dC (af 0) (eC (.int 1))) aJ)) aJ))))) (bK (mX 4 (eO aJ)) (bK (oT (dk (af 3)) (aH 5) e8) (pE 2 (pE 4 (fX (af 4))))))))
def bA:List D->R D:=rD bR jZ
theorem ot(T:Tp P w K mg cl)(h:Def K mg "_law_gate_names" dg)(dv:Callee P w K mg base 2 "_law_names" 3 c0):Callee P w K mg base 3 "_law_gate_names" 2 bA:=by
 obtain⟨f,fd,F,hm⟩:=h;exact⟨f,fd,_,b0 (k:=2) nR.2 c2.2 F b_ (fun dI A outer s H E hr=>(au (iV b_.nd rfl (Or.inr rfl) (fO rfl (bN.of (own:=["name","width"]) (kp:=[]) (kn:=[]) (sc:=c2.1) (N:=bR) rfl rfl (by decide+kernel)) (ck (aW (ae 0) aj (fun _ _=>rfl))) (fun _ _ _=>(gS rfl (bq (aN (show List.Nodup [(Str.ofString "name"),"width"] from by decide+kernel) rfl (Or.inl rfl)) (bq (aN (show List.Nodup [(Str.ofString "name"),"width"] from by decide+kernel) rfl (Or.inl rfl)) fm)))) (fun _ _ _=>dM) (fun _ _ _=>(ae 0)))) (au (bb b_.nd rfl (Or.inr rfl) (aG dv hr (by decide) rfl (aa (ae 1) (aa aj (aa (bF jj rfl T.z_len PySem.boot_len (aa (aW (ae 0) aj (fun _ _=>rfl)) ag)) ag))) (ak (ak (ak aK))))) (au (iV b_.nd rfl (Or.inl rfl) (bU ag)) (au (fK PassesOwn.never rfl (ck (ae 3)) (aN b_.nd rfl (Or.inl rfl)) (au (fN (qT (b7 zV (ae 5) (ae 2) (by with_unfolding_all rfl))) (au (n_ rfl b_.nd rfl rfl (bN.of (own:=["n"]) (kp:=[]) (kn:=[]) (sc:=c2.1) (N:=bR) rfl rfl (by decide+kernel)) (d_ aj rfl T.z_range) (fun _ _ _=>(aN (show List.Nodup [(Str.ofString "n")] from by decide+kernel) rfl (Or.inl rfl))) (fun _ _ _=>dM) (fun _ _ _=>(az cx (az cx av (aW av (az i8 (ae 0) aj) (fun _ _=>rfl))) (aW av (az eF (ae 0) aj) (fun _ _=>rfl))))) (aP (bb b_.nd rfl (Or.inl rfl) (nS (aW (bW (fO rfl (bN.of (own:=["one"]) (kp:=[2,3]) (kn:=["taken","words"]) (sc:=c2.1) (N:=bR) rfl rfl (by decide+kernel)) (ck (ae 6)) (fun _ _ _=>(aN (show List.Nodup [(Str.ofString "one"),"taken","words"] from by decide+kernel) rfl (Or.inl rfl))) (fun _ _ _=>(vK (kr (uZ (b7 p7 (ae 0) (ae 1) (by with_unfolding_all rfl)) (r6 (b7 p7 (ae 0) (ae 2) (by with_unfolding_all rfl))))))) (fun _ _ _=>(ae 0)))) aj (fun _ _=>rfl)))))) d5) (au (fJ rfl (Or.inl rfl) (ae 5)) (aP (fJ rfl (Or.inr (Or.inl rfl)) (ae 5)))))) (g7 2 (g7 4 (aP (bw (ae 4)))))))))),hm,F.kp,F.binds fun _ _ _ _ _ _ us hl=>match us,hl with | [_,_],_=>rfl⟩
abbrev y7:Stmt:=top 41
noncomputable abbrev lN:List Str:=["script","net","ins","gates","outs","head","due","others","called","ends","changed","turned","some","more","found"]
noncomputable def JJ:{b:List Stmt // aR y7=b}:=⟨_,by conv=>lhs;whnf⟩
noncomputable def qd:{b:Scope // aF y7=b}:=⟨_,by conv=>lhs;whnf⟩
theorem iM:bf lN ["script"] qd.1:=⟨rfl,rfl,rfl,by decide+kernel,rfl,by decide+kernel,by decide+kernel⟩
def qu:FZ:=(cA (kO 1 (xP (aL md (ai (af 0) aJ)))) (cA (IU (xP (af 1)) (GB 3 (xi (tV 2) (xi (tV 3) (xi (tV 4) Ir))))) (cA (kO 5 (xP (aL dJ (ai (af 0) (ai (eC (.int 0)) aJ))))) (cA (kO 6 (mJ (Ak eS) (dR (bu (xP (rq "str" eR (eC (.str "\n")) (ai (aL dw (ai (af 1) (ai (aL bA (ai (af 1) (ai (e2 cj (af 5) (eC (.int 1))) aJ))) aJ))) aJ))) dE)))) (cA (rj (Gy zO (mJ (Ak eS) (dR (bu (xP (rq "str" eR (eC (.str "\n")) (ai (aL dw (ai (af 1) (ai (aL bA (ai (af 1) (ai (e2 cj (af 5) (eC (.int 2))) aJ))) aJ))) aJ))) dE))) (xP (af 6))) (tL (xP (eC (.bl false)))) ke) (cA (kO 7 (xP (aL c0 (ai (e2 cj (af 5) (eC (.int 3))) (ai (eC (.int 600)) (ai (eC (.int 12)) aJ)))))) (cA (kO 8 (mF (iP (mS (af 2))) (GB 2 (xi (tV 0) (xi (GB 2 (xi (tV 1) (xi (tV 2) Ir))) Ir))) zI (xP (jA (ai (e2 dC (af 3) (af 0)) (ai (af 2) aJ)))) ["place","name","width"] [7])) (cA (kO 9 (mF (iP (mS (af 4))) (GB 2 (xi (tV 0) (xi (GB 2 (xi (tV 1) (xi (tV 2) Ir))) Ir))) zI (xP (jA (ai (e2 dC (af 3) (e2 cj (eC (.int 6)) (af 0))) (ai (af 2) aJ)))) ["place","name","wires"] [7])) (cA (kO 10 (xP (jA (ai (af 8) (ai (af 3) (ai (af 9) aJ)))))) (cA (rj (Gy zO (mJ (Ak eS) (dR (bu (xP (rq "str" eR (eC (.str "\n")) (ai (aL dw (ai (af 10) (ai (aL bA (ai (af 10) (ai (e2 cj (af 5) (eC (.int 1))) aJ))) aJ))) aJ))) dE))) (xP (jA (ai (af 8) (ai (e2 dC (af 6) (eC (.int 1))) (ai (af 9) aJ)))))) (tL (xP (eC (.bl false)))) ke) (cA (kO 11 (mF (iP (dk (af 3))) (GB 3 (xi (tV 0) (xi (tV 1) (xi (tV 2) Ir)))) zI (xP (jA (ai (af 0) (ai (af 1) (ai (HS (af 2)) aJ))))) ["kind","wires","sure"] [])) (cA (kO 12 (xP (jA (ai (af 2) (ai (af 11) (ai (af 4) aJ)))))) (cA (rj (Gy zO (mJ (Ak eS) (dR (bu (xP (rq "str" eR (eC (.str "\n")) (ai (aL dw (ai (af 12) (ai (aL bA (ai (af 12) (ai (e2 cj (af 5) (eC (.int 1))) aJ))) aJ))) aJ))) dE))) (xP (jA (ai (e2 dC (af 6) (eC (.int 0))) (ai (af 11) (ai (e2 dC (af 6) (eC (.int 2))) aJ)))))) (tL (xP (eC (.bl false)))) ke) (cA (rj (bP (b2 rL (aL jO (ai (af 3) aJ)) (eC (.int 60)))) (tL (xP (eC (.bl true)))) ke) (cA (kO 13 (xP (jA (ai (af 2) (ai (e2 cj (af 3) (eNew (eO (ai (jA (ai (eC (.str "vote")) (ai (jA (ai (eC (.int 0)) (ai (eC (.int 0)) (ai (eC (.int 0)) aJ)))) (ai (eC (.bl true)) aJ)))) aJ)))) (ai (af 4) aJ)))))) (cA (kO 14 (mJ (Ak eS) (dR (bu (xP (rq "str" eR (eC (.str "\n")) (ai (aL dw (ai (af 13) (ai (aL bA (ai (af 13) (ai (e2 cj (af 5) (eC (.int 2))) aJ))) aJ))) aJ))) dE)))) (tL (xP (e2 rL (af 14) (jA (ai (e2 dC (af 6) (eC (.int 0))) (ai (e2 cj (e2 dC (af 6) (eC (.int 1))) (wc (e2 dC (af 13) (eC (.int 1))) (g6 (KC (eC (.int 1)))) jK)) (ai (e2 dC (af 6) (eC (.int 2))) aJ)))))))))))))))))))))))
def Nk:List V3->aQ->R3 V3:=sg lN qu
def N1:List V3->aQ->R3 V3:=yd lN qu
def yQ:List D->R D:=Mu lN qu
structure Cf (K:W.Frag) (mg:Wa) (cl:Wb):Prop where
 C_Draft:uV K (cl 0)
 N_Draft_ins:c8 K (cl 0) "ins"
 N_Draft_gates:c8 K (cl 0) "gates"
 N_Draft_outs:c8 K (cl 0) "outs"
 N_Draft_names:c8 K (cl 0) "names"
 N_Draft_out_names:c8 K (cl 0) "out_names"
 N_Draft_numbers:c8 K (cl 0) "numbers"
 M_Draft:mg "Draft"=some (.ref (cl 0))
 M_FaultError:mg "FaultError"=some (.ref (cl 1))
 M_TooLong:mg "TooLong"=some (.ref (cl 2))
 M_NoForm:mg "NoForm"=some (.ref (cl 3))
 M_NoPlace:mg "NoPlace"=some (.ref (cl 4))
 M_Twice:mg "Twice"=some (.ref (cl 5))
 M_Full:mg "Full"=some (.ref (cl 6))
 M_NoWire:mg "NoWire"=some (.ref (cl 7))
 M_Open:mg "Open"=some (.ref (cl 8))
 X_TooLong:XC K (cl 2)
 X_NoForm:XC K (cl 3)
 X_NoPlace:XC K (cl 4)
 X_Twice:XC K (cl 5)
 X_Full:XC K (cl 6)
 X_NoWire:XC K (cl 7)
 X_Open:XC K (cl 8)
 et:pN K (cl 0) "add_in" "Draft.add_in" bX
 cq:pN K (cl 0) "wire_numbers" "Draft.wire_numbers" aZ
 dn:pN K (cl 0) "add_gate" "Draft.add_gate" bz
 dH:pN K (cl 0) "add_out" "Draft.add_out" bL
 dq:HL K (cl 0) "__init__" "Draft.__init__" bx
theorem LO{K:W.Frag}{h:Heap}{mg:Wa}(X:K.In h)(G:h.Ns mainGlobals mg){C0:Addr}{C1:Addr}{C2:Addr}{C3:Addr}{C4:Addr}{C5:Addr}{C6:Addr}{C7:Addr}{C8:Addr}{f0:Addr}{Us Uv:Option Addr}{UK:Array (Option Value)}{UU UM Uz UE Rj Va:Value}{f1:Addr}{Ua U9:Option Addr}{UL:Array (Option Value)}{U8 UP Ug Vg Rk Ue:Value}{f2:Addr}{Ux Ud:Option Addr}{RD:Array (Option Value)}{U0 UO Uy UA Rx Vc:Value}{f3:Addr}{U5 UN:Option Addr}{MC:Array (Option Value)}{U_ U4 UX Vh Rn US:Value}{f4:Addr}{Uo Vd:Option Addr}{Uk:Array (Option Value)}{Vb U2 Ve U3 Rm Ui:Value}(O4:PySem.W.nsIn K mainGlobals "Draft"=some (some (.ref C0)))(P6:PySem.W.plainGet K C0 Str.empty=true)(PM:PySem.W.hasDictIn K C0=true)(OB:PySem.W.plainOver K C0=true)(Om:PySem.W.findIn K (.ref C0) "__setattr__"=some (some (.builtin "object.__setattr__")))(O_:PySem.W.makesIn K C0=true)(OX:PySem.W.keepIn K (.ref C0)=true)(x5:PySem.W.findIn K (.ref C0) "ins"=some none)(rh:PySem.W.findIn K (.ref C0) "gates"=some none)(uy:PySem.W.findIn K (.ref C0) "outs"=some none)(q_:PySem.W.findIn K (.ref C0) "names"=some none)(kB:PySem.W.findIn K (.ref C0) "out_names"=some none)(ni:PySem.W.findIn K (.ref C0) "numbers"=some none)(Pw:PySem.W.nsIn K mainGlobals "FaultError"=some (some (.ref C1)))(O2:PySem.W.nsIn K mainGlobals "TooLong"=some (some (.ref C2)))(Pm:PySem.W.nsIn K mainGlobals "NoForm"=some (some (.ref C3)))(OG:PySem.W.nsIn K mainGlobals "NoPlace"=some (some (.ref C4)))(PQ:PySem.W.nsIn K mainGlobals "Twice"=some (some (.ref C5)))(P4:PySem.W.nsIn K mainGlobals "Full"=some (some (.ref C6)))(OF:PySem.W.nsIn K mainGlobals "NoWire"=some (some (.ref C7)))(Pc:PySem.W.nsIn K mainGlobals "Open"=some (some (.ref C8)))(PF:PySem.W.excIn K C2 BF "ValueError.__new__"=true)(Pp:PySem.W.findIn K (.ref C2) "__getattribute__"=some (some (.builtin "BaseException.__getattribute__")))(O3:PySem.W.findIn K (.ref C2) "__getattr__"=some none)(Ot:PySem.W.findIn K (.ref C2) "__class__"=some (some (.builtin "object.__class__")))(OD:PySem.W.mroIn K C2 (.type "object")=some true)(PH:PySem.W.mroIn K C2 (.type "BaseException")=some true)(Pl:(PySem.W.clsIn K C2).isSome=true)(P0:PySem.W.excIn K C3 BF "ValueError.__new__"=true)(Py:PySem.W.findIn K (.ref C3) "__getattribute__"=some (some (.builtin "BaseException.__getattribute__")))(Pt:PySem.W.findIn K (.ref C3) "__getattr__"=some none)(O8:PySem.W.findIn K (.ref C3) "__class__"=some (some (.builtin "object.__class__")))(Pq:PySem.W.mroIn K C3 (.type "object")=some true)(O0:PySem.W.mroIn K C3 (.type "BaseException")=some true)(Pz:(PySem.W.clsIn K C3).isSome=true)(OQ:PySem.W.excIn K C4 BF "ValueError.__new__"=true)(Oj:PySem.W.findIn K (.ref C4) "__getattribute__"=some (some (.builtin "BaseException.__getattribute__")))(Px:PySem.W.findIn K (.ref C4) "__getattr__"=some none)(OO:PySem.W.findIn K (.ref C4) "__class__"=some (some (.builtin "object.__class__")))(Oy:PySem.W.mroIn K C4 (.type "object")=some true)(PY:PySem.W.mroIn K C4 (.type "BaseException")=some true)(OP:(PySem.W.clsIn K C4).isSome=true)(Ol:PySem.W.excIn K C5 BF "ValueError.__new__"=true)(O6:PySem.W.findIn K (.ref C5) "__getattribute__"=some (some (.builtin "BaseException.__getattribute__")))(OA:PySem.W.findIn K (.ref C5) "__getattr__"=some none)(Oz:PySem.W.findIn K (.ref C5) "__class__"=some (some (.builtin "object.__class__")))(OY:PySem.W.mroIn K C5 (.type "object")=some true)(Pb:PySem.W.mroIn K C5 (.type "BaseException")=some true)(Oq:(PySem.W.clsIn K C5).isSome=true)(P2:PySem.W.excIn K C6 BF "ValueError.__new__"=true)(P1:PySem.W.findIn K (.ref C6) "__getattribute__"=some (some (.builtin "BaseException.__getattribute__")))(P9:PySem.W.findIn K (.ref C6) "__getattr__"=some none)(OZ:PySem.W.findIn K (.ref C6) "__class__"=some (some (.builtin "object.__class__")))(OU:PySem.W.mroIn K C6 (.type "object")=some true)(Pg:PySem.W.mroIn K C6 (.type "BaseException")=some true)(OV:(PySem.W.clsIn K C6).isSome=true)(Pk:PySem.W.excIn K C7 BF "ValueError.__new__"=true)(P_:PySem.W.findIn K (.ref C7) "__getattribute__"=some (some (.builtin "BaseException.__getattribute__")))(Ow:PySem.W.findIn K (.ref C7) "__getattr__"=some none)(Pr:PySem.W.findIn K (.ref C7) "__class__"=some (some (.builtin "object.__class__")))(Pe:PySem.W.mroIn K C7 (.type "object")=some true)(OW:PySem.W.mroIn K C7 (.type "BaseException")=some true)(O5:(PySem.W.clsIn K C7).isSome=true)(ON:PySem.W.excIn K C8 BF "ValueError.__new__"=true)(OM:PySem.W.findIn K (.ref C8) "__getattribute__"=some (some (.builtin "BaseException.__getattribute__")))(Ov:PySem.W.findIn K (.ref C8) "__getattr__"=some none)(PU:PySem.W.findIn K (.ref C8) "__class__"=some (some (.builtin "object.__class__")))(OR:PySem.W.mroIn K C8 (.type "object")=some true)(Po:PySem.W.mroIn K C8 (.type "BaseException")=some true)(OI:(PySem.W.clsIn K C8).isSome=true)(Gb:PySem.W.specialIn K (.builtin "object.__class__") "__get__"=some (some (.builtin "getset_descriptor.__get__")))(Ga:PySem.W.takesIn K (.builtin "object.__class__")=some true)(i9:PySem.W.findIn K (.ref C0) "add_in"=some (some (.ref f0)))(jc:PySem.W.isFn K (.ref f0)=true)(jd:K.lookup f0=some ⟨UU,Us, .func (PySem.W.fnOf "add_in" "Draft.add_in" (gG bX) (aR bX) (aF bX) .none UM Uz UE Uv Rj Va),UK⟩)(eg:PySem.W.codeIn K Rj "Draft.add_in"=true)(fV:PySem.W.keepIn K (.ref f0)=true)(ei:PySem.W.findIn K (.ref C0) "wire_numbers"=some (some (.ref f1)))(eo:PySem.W.isFn K (.ref f1)=true)(er:K.lookup f1=some ⟨U8,Ua, .func (PySem.W.fnOf "wire_numbers" "Draft.wire_numbers" (gG aZ) (aR aZ) (aF aZ) .none UP Ug Vg U9 Rk Ue),UL⟩)(cm:PySem.W.codeIn K Rk "Draft.wire_numbers"=true)(c4:PySem.W.keepIn K (.ref f1)=true)(gr:PySem.W.findIn K (.ref C0) "add_gate"=some (some (.ref f2)))(gA:PySem.W.isFn K (.ref f2)=true)(gm:K.lookup f2=some ⟨U0,Ux, .func (PySem.W.fnOf "add_gate" "Draft.add_gate" (gG bz) (aR bz) (aF bz) .none UO Uy UA Ud Rx Vc),RD⟩)(de:PySem.W.codeIn K Rx "Draft.add_gate"=true)(eD:PySem.W.keepIn K (.ref f2)=true)(ie:PySem.W.findIn K (.ref C0) "add_out"=some (some (.ref f3)))(ig:PySem.W.isFn K (.ref f3)=true)(ia:K.lookup f3=some ⟨U_,U5, .func (PySem.W.fnOf "add_out" "Draft.add_out" (gG bL) (aR bL) (aF bL) .none U4 UX Vh UN Rn US),MC⟩)(dG:PySem.W.codeIn K Rn "Draft.add_out"=true)(eY:PySem.W.keepIn K (.ref f3)=true)(gp:PySem.W.findIn K (.ref C0) "__init__"=some (some (.ref f4)))(gq:PySem.W.isFn K (.ref f4)=true)(gy:K.lookup f4=some ⟨Vb,Uo, .func (PySem.W.fnOf "__init__" "Draft.__init__" (gG bx) (aR bx) (aF bx) .none U2 Ve U3 Vd Rm Ui),Uk⟩)(df:PySem.W.codeIn K Rm "Draft.__init__"=true)(gh:PySem.W.keepIn K (.ref f4)=true):∃cl,Cf K mg cl:=by
 exact⟨fun n=>if n=0 then C0 else if n=1 then C1 else if n=2 then C2 else if n=3 then C3 else if n=4 then C4 else if n=5 then C5 else if n=6 then C6 else if n=7 then C7 else C8,⟨P6,PM,OB,Om⟩,x5,rh,uy,q_,kB,ni,PySem.W.mg_of X G O4,PySem.W.mg_of X G Pw,PySem.W.mg_of X G O2,PySem.W.mg_of X G Pm,PySem.W.mg_of X G OG,PySem.W.mg_of X G PQ,PySem.W.mg_of X G P4,PySem.W.mg_of X G OF,PySem.W.mg_of X G Pc,⟨PF,Pp,O3,Ot,Gb,Ga,OD,PH,Pl⟩,⟨P0,Py,Pt,O8,Gb,Ga,Pq,O0,Pz⟩,⟨OQ,Oj,Px,OO,Gb,Ga,Oy,PY,OP⟩,⟨Ol,O6,OA,Oz,Gb,Ga,OY,Pb,Oq⟩,⟨P2,P1,P9,OZ,Gb,Ga,OU,Pg,OV⟩,⟨Pk,P_,Ow,Pr,Gb,Ga,Pe,OW,O5⟩,⟨ON,OM,Ov,PU,Gb,Ga,OR,Po,OI⟩,⟨_,_,oK (st:=bX) jd eg fV,⟨i9,jc,fV⟩⟩,⟨_,_,oK (st:=aZ) er cm c4,⟨ei,eo,c4⟩⟩,⟨_,_,oK (st:=bz) gm de eD,⟨gr,gA,eD⟩⟩,⟨_,_,oK (st:=bL) ia dG eY,⟨ie,ig,eY⟩⟩,⟨_,_,oK (st:=bx) gy df gh,⟨O_,gp,gq,OX⟩⟩⟩
theorem Iz{K:W.Frag}{mg:Wa}{f:Addr}{fd:FuncData}{cl:Wb}(T:Tp P w K mg cl)(oY:Def K mg "is_name" j9)(ny:Def K mg "in_wires" iS)(jf:Def K mg "is_wire_form" dX)(gx:Def K mg "are_wire_forms" dj)(kC:Def K mg "is_in_form" fB)(ja:Def K mg "is_gate_form" ef)(jG:Def K mg "is_out_form" eK)(et:pN K (cl 0) "add_in" "Draft.add_in" bX)(cq:pN K (cl 0) "wire_numbers" "Draft.wire_numbers" aZ)(dn:pN K (cl 0) "add_gate" "Draft.add_gate" bz)(dH:pN K (cl 0) "add_out" "Draft.add_out" bL)(nk:Def K mg "read_row" iK)(dq:HL K (cl 0) "__init__" "Draft.__init__" bx)(x8:Def K mg "read" qc)(jD:Def K mg "_law_cell_at" eQ)(nv:Def K mg "_law_stir" i7)(lT:Def K mg "_law_names" gM)(lR:Def K mg "_law_wires" gZ)(nA:Def K mg "_law_gate" i5)(o4:Def K mg "_law_net" jH)(lS:Def K mg "_law_words" gU)(nq:Def K mg "_law_rows" iR)(gg:Def K mg "_law_gate_names" dg)(F:xy K "law" "law" y7 f fd):gQ P w K mg base r_ 7 f fd ["script"] (ES K 1 yQ):=by
 have cV:=zZ (P:=P) (w:=w) (base:=base) T oY;have nj:=xJ (P:=P) (w:=w) (base:=base) T ny;have jb:=qz (P:=P) (w:=w) (base:=base) T jf cV;have cE:=oH (P:=P) (w:=w) (base:=base) T gx jb;have kA:=tJ (P:=P) (w:=w) (base:=base) T kC cV;have je:=qh (P:=P) (w:=w) (base:=base) T ja cV cE;have jF:=rC (P:=P) (w:=w) (base:=base) T jG cV cE;have ib:jk P w K mg base cl 2 0 "add_in" 2 cU:=eg T et nj;have bG:jk P w K mg base cl 1 0 "wire_numbers" 1 bc:=cm T cq;have fT:jk P w K mg base cl 2 0 "add_gate" 4 cu:=de T dn bG;have gu:jk P w K mg base cl 2 0 "add_out" 2 cD:=dG T dH bG;have lU:dy P w K mg base cl 5 "read_row" 2 fk:=xQ T nk kA je jF ib fT gu;have fW:=df (P:=P) (w:=w) (base:=base) T dq;have XE_read:dy P w K mg base cl 6 "read" 1 eS:=Hd T x8 fW lU;have gL:=rB (P:=P) (w:=w) (base:=base) T jD;have bC:=wI (P:=P) (w:=w) (base:=base) T nv;have dv:=vS (P:=P) (w:=w) (base:=base) T lT bC;have fq:=vH (P:=P) (w:=w) (base:=base) T lR bC;have nt:=xH (P:=P) (w:=w) (base:=base) T nA bC fq;have C_law_net:=z9 (P:=P) (w:=w) (base:=base) T o4 gL dv bC nt fq;have lV:=u_ (P:=P) (w:=w) (base:=base) T lS;have C_law_rows:=xf (P:=P) (w:=w) (base:=base) T nq lV;have C_law_gate_names:=ot (P:=P) (w:=w) (base:=base) T gg dv;exact(vj (cl:=cl) (N:=lN) (F:=qu) (k:=6) JJ.2 qd.2 F iM (fun dI A outer s H E hr=>(bt (iZ iM.nd rfl (Or.inl rfl) (ay (aG C_law_net hr (by decide) rfl (aa (ae 0) ag) (ak aK)))) (bt (IA (ay (ae 1)) (mf rfl (cy (cz iM.nd rfl (Or.inl rfl)) (cy (cz iM.nd rfl (Or.inl rfl)) (cy (cz iM.nd rfl (Or.inl rfl)) jL))))) (bt (iZ iM.nd rfl (Or.inl rfl) (ay (aG gL hr (by decide) rfl (aa (ae 0) (aa aj ag)) (ak (ak aK))))) (bt (iZ iM.nd rfl (Or.inl rfl) (qD (j6 qB (dy.q XE_read) hr (by decide) rfl (cM (aT (ay (fI av (aa (aG C_law_rows hr (by decide) rfl (aa (ae 1) (aa (aG C_law_gate_names hr (by decide) rfl (aa (ae 1) (aa (az cx (ae 5) aj) ag)) (ak (ak aK))) ag)) (ak (ak aK))) ag))) bJ)) (lY (bO dY))))) (bt (y0 (l9 (Cw hr.units) (qD (j6 qB (dy.q XE_read) hr (by decide) rfl (cM (aT (ay (fI av (aa (aG C_law_rows hr (by decide) rfl (aa (ae 1) (aa (aG C_law_gate_names hr (by decide) rfl (aa (ae 1) (aa (az cx (ae 5) aj) ag)) (ak (ak aK))) ag)) (ak (ak aK))) ag))) bJ)) (lY (bO dY)))) (ay (ae 6)) (bV _)) (eT (mY (ay hV))) pU) (bt (iZ iM.nd rfl (Or.inr rfl) (ay (aG dv hr (by decide) rfl (aa (az cx (ae 5) aj) (aa aj (aa aj ag))) (ak (ak (ak aK)))))) (bt (m7 rfl iM.nd rfl rfl (bN.of (own:=["place","name","width"]) (kp:=[7]) (kn:=["others"]) (sc:=qd.1) (N:=lN) rfl rfl (by decide+kernel)) (iT (oV (ae 2) rfl T.z_enumerate)) (fun _ _ _=>(mf rfl (cy (cz (show List.Nodup [(Str.ofString "place"),"name","width","others"] from by decide+kernel) rfl (Or.inl rfl)) (cy (mf rfl (cy (cz (show List.Nodup [(Str.ofString "place"),"name","width","others"] from by decide+kernel) rfl (Or.inl rfl)) (cy (cz (show List.Nodup [(Str.ofString "place"),"name","width","others"] from by decide+kernel) rfl (Or.inl rfl)) jL))) jL)))) (fun _ _ _=>l8) (fun _ _ _=>(ay (c3 (aa (aW (ae 3) (ae 0) (fun _ _=>rfl)) (aa (ae 2) ag)))))) (bt (m7 rfl iM.nd rfl rfl (bN.of (own:=["place","name","wires"]) (kp:=[7]) (kn:=["others"]) (sc:=qd.1) (N:=lN) rfl rfl (by decide+kernel)) (iT (oV (ae 4) rfl T.z_enumerate)) (fun _ _ _=>(mf rfl (cy (cz (show List.Nodup [(Str.ofString "place"),"name","wires","others"] from by decide+kernel) rfl (Or.inl rfl)) (cy (mf rfl (cy (cz (show List.Nodup [(Str.ofString "place"),"name","wires","others"] from by decide+kernel) rfl (Or.inl rfl)) (cy (cz (show List.Nodup [(Str.ofString "place"),"name","wires","others"] from by decide+kernel) rfl (Or.inl rfl)) jL))) jL)))) (fun _ _ _=>l8) (fun _ _ _=>(ay (c3 (aa (aW (ae 3) (az cx aj (ae 0)) (fun _ _=>rfl)) (aa (ae 2) ag)))))) (bt (iZ iM.nd rfl (Or.inl rfl) (ay (c3 (aa (ae 8) (aa (ae 3) (aa (ae 9) ag)))))) (bt (y0 (l9 (Cw hr.units) (qD (j6 qB (dy.q XE_read) hr (by decide) rfl (cM (aT (ay (fI av (aa (aG C_law_rows hr (by decide) rfl (aa (ae 10) (aa (aG C_law_gate_names hr (by decide) rfl (aa (ae 10) (aa (az cx (ae 5) aj) ag)) (ak (ak aK))) ag)) (ak (ak aK))) ag))) bJ)) (lY (bO dY)))) (ay (c3 (aa (ae 8) (aa (aW (ae 6) aj (fun _ _=>rfl)) (aa (ae 9) ag))))) (bV _)) (eT (mY (ay hV))) pU) (bt (m7 rfl iM.nd rfl rfl (bN.of (own:=["kind","wires","sure"]) (kp:=[]) (kn:=[]) (sc:=qd.1) (N:=lN) rfl rfl (by decide+kernel)) (iT (ck (ae 3))) (fun _ _ _=>(mf rfl (cy (cz (show List.Nodup [(Str.ofString "kind"),"wires","sure"] from by decide+kernel) rfl (Or.inl rfl)) (cy (cz (show List.Nodup [(Str.ofString "kind"),"wires","sure"] from by decide+kernel) rfl (Or.inl rfl)) (cy (cz (show List.Nodup [(Str.ofString "kind"),"wires","sure"] from by decide+kernel) rfl (Or.inl rfl)) jL))))) (fun _ _ _=>l8) (fun _ _ _=>(ay (c3 (aa (ae 0) (aa (ae 1) (aa (Ej (ae 2)) ag))))))) (bt (iZ iM.nd rfl (Or.inl rfl) (ay (c3 (aa (ae 2) (aa (ae 11) (aa (ae 4) ag)))))) (bt (y0 (l9 (Cw hr.units) (qD (j6 qB (dy.q XE_read) hr (by decide) rfl (cM (aT (ay (fI av (aa (aG C_law_rows hr (by decide) rfl (aa (ae 12) (aa (aG C_law_gate_names hr (by decide) rfl (aa (ae 12) (aa (az cx (ae 5) aj) ag)) (ak (ak aK))) ag)) (ak (ak aK))) ag))) bJ)) (lY (bO dY)))) (ay (c3 (aa (aW (ae 6) aj (fun _ _=>rfl)) (aa (ae 11) (aa (aW (ae 6) aj (fun _ _=>rfl)) ag))))) (bV _)) (eT (mY (ay hV))) pU) (bt (y0 (lK (b7 (pO hr.units) (bF jj rfl T.z_len PySem.boot_len (aa (ae 3) ag)) aj (bV _))) (eT (mY (ay hV))) pU) (bt (iZ iM.nd rfl (Or.inl rfl) (ay (c3 (aa (ae 2) (aa (az cx (ae 3) (bW (bU (aa (c3 (aa av (aa (c3 (aa aj (aa aj (aa aj ag)))) (aa hV ag)))) ag)))) (aa (ae 4) ag)))))) (bt (iZ iM.nd rfl (Or.inl rfl) (qD (j6 qB (dy.q XE_read) hr (by decide) rfl (cM (aT (ay (fI av (aa (aG C_law_rows hr (by decide) rfl (aa (ae 13) (aa (aG C_law_gate_names hr (by decide) rfl (aa (ae 13) (aa (az cx (ae 5) aj) ag)) (ak (ak aK))) ag)) (ak (ak aK))) ag))) bJ)) (lY (bO dY))))) (eT (mY (ay (eU (pO hr.units) (ae 14) (c3 (aa (aW (ae 6) aj (fun _ _=>rfl)) (aa (az cx (aW (ae 6) aj (fun _ _=>rfl)) (km (aW (ae 13) aj (fun _ _=>rfl)) (eM (Fw aj)) hJ)) (aa (aW (ae 6) aj (fun _ _=>rfl)) ag)))) (bV _))))))))))))))))))))))).imp fun _ _ _ _ h=>JI h
end K08
end
section
set_option maxHeartbeats 1000000
namespace K08
open PySem PySem.Spec PyProof.Rows L2 L3 MT JT TX
theorem ki{w:Str}(h:w.length<=10000000):dh [.str w]= .ok (.bl (isNm w)):=by
 have hz:sizeLine=16777216:=sizeLine_eq;unfold dh sj;have e:isNm w=(!(decide (w.length < 1) || (decide (8 < w.length) || oW.contains w)) && low w):=by
  unfold isNm;by_cases h1:1<=w.length
  .rw [decide_eq_true h1,decide_eq_false (by omega:¬w.length < 1)]
   by_cases h2:w.length<=8
   .rw [decide_eq_true h2,decide_eq_false (by omega:¬8 < w.length)];simp
   .rw [decide_eq_false h2,decide_eq_true (by omega:8 < w.length)];simp
  .rw [decide_eq_false h1,decide_eq_true (by omega:w.length < 1)];simp
 rw[e];refine dz (yh (kU (du (a:=nI w.length) (b:=nI 1) (ax (ds:=[.str w]) rfl (len_str h)) rfl (B4 _ _)) fun _=>kU (du (a:=nI w.length) (b:=nI 8) (ax (ds:=[.str w]) rfl (len_str h)) rfl (EM _ _)) fun _=>du (a:= .str w) (b:= .tup (oW.map .str)) rfl rfl (A6 w oW)) fun _=>cJ ?_)
 refine ax (ds:=[.lst ((w.cps.toList.map fun c=>decide (97<=c/\c<=122)).map D.bl)]) (aq (b6 (ee (ds:=w.cps.toList.map fun c=> .str ⟨#[c]⟩) rfl (by rw[List.length_map,Array.length_toList];show w.length<=_;omega) ?_)) rfl) ?_
 .rw [List.map_map];exact NT.c6 (fun c=> .str ⟨#[c]⟩) _ fun c hc=>⟨[.val (.str ⟨#[c]⟩)],rfl,rfl,aw (a:= .str ⟨#[c]⟩) (b:= .str wL) rfl rfl (IK c)⟩
 .rw [BC,List.all_map];rfl
theorem sP{w:Str}(h:w.length<=10000000):d3 [.str w]= .ok (.bl (kQ w)):=by
 have hz:sizeLine=16777216:=sizeLine_eq;obtain⟨a,b,d,e⟩:=Di w CO;have ha:a.length<=10000000:=by
  unfold f6 at e;split at e
  .have:a=Builtin.Str.strSub w 0 _:=(List.cons.inj e).1.symm;rw[this];exact Nat.le_trans (strSub_length_le ..) h
  .have:a=w:=(List.cons.inj e).1.symm;rw[this];exact h
 unfold d3 lq kQ;rw[e];have hp:v3 (.str w) [.str CO]= .ok (.tup ([a,b,d].map .str)):=by
  rw[<-e];exact bD _ ⟨by rw[rV];rfl,by omega⟩
 refine dz (aE (bp (d:= .tup ([a,b,d].map .str)) (jq (x:=w) rfl rfl hp) (by simp [bZ,iG])) (cJ ?_))
 exact ma (ax (ds:=[.str a]) rfl (ki ha)) fun _=>HK (aw (a:= .str b) (b:= .str Str.empty) rfl rfl (tM _ _)) fun _=>aw (a:= .str d) (b:= .tup (z0.map .str)) rfl rfl (A6 d z0)
theorem mE{ws:List Str}(hl:ws.length<=10000000)(h:∀w∈ws,w.length<=10000000):cc [.lst (ws.map .str)]= .ok (.bl (ws.all kQ)):=by
 have hz:sizeLine=16777216:=sizeLine_eq;unfold cc jW;refine dz (cJ (ax (ds:=[.lst ((ws.map kQ).map D.bl)]) (aq (b6 (ee (ds:=ws.map .str) (eZ rfl) (by rw[List.length_map];omega) ?_)) rfl) ?_))
 .rw [List.map_map];exact NT.c6 D.str _ fun w hw=>⟨[.val (.str w)],rfl,rfl,ax (ds:=[.str w]) rfl (sP (h w hw))⟩
 .rw [BC,List.all_map];rfl
section
variable {ws:List Str}
theorem xk(hl:ws.length<=10000000)(h:∀w∈ws,w.length<=10000000):fA [.lst (ws.map .str)]= .ok (.bl (BI ws)):=by
 have hw:∀i,(wd ws i).length<=10000000:=fun i=>by
  unfold wd;rw[List.getD_eq_getElem?_getD];cases hx:ws[i]? with
  | none=>exact Nat.zero_le _
  | some w=>exact h w (List.mem_of_getElem? hx)
 unfold fA nJ BI;refine dz (cJ (ma (aw (a:=nI ws.length) (b:=nI 3) (ax (ds:=[.lst (ws.map .str)]) rfl (by rw[hX,List.length_map])) rfl (vG _ _)) fun h3=>?_))
 have h3:=of_decide_eq_true h3;refine ma (aw (a:= .str (wd ws 0)) (b:= .str (Str.ofString "in")) (aw (a:= .lst (ws.map .str)) (b:= .int (0:Nat)) rfl rfl (sI (by omega))) rfl (tM _ _)) fun _=>?_
 refine ma (ax (ds:=[.str (wd ws 1)]) (aq (aw (a:= .lst (ws.map .str)) (b:= .int (1:Nat)) rfl rfl (sI (by omega))) rfl) (ki (hw 1))) fun _=>?_
 unfold JK;rw[show e2 dC (af 0) (eC (.int 2)) (bZ ky [.lst (ws.map .str)])= .ok (.str (wd ws 2)) from aw (a:= .lst (ws.map .str)) (b:= .int (2:Nat)) rfl rfl (sI (by omega)),R.aI]
 rfl
theorem ua(hl:ws.length<=10000000)(h:∀w∈ws,w.length<=10000000):d6 [.lst (ws.map .str)]= .ok (.bl (CK ws)):=by
 have hw:∀i,(wd ws i).length<=10000000:=fun i=>by
  unfold wd;rw[List.getD_eq_getElem?_getD];cases hx:ws[i]? with
  | none=>exact Nat.zero_le _
  | some w=>exact h w (List.mem_of_getElem? hx)
 have ix:∀{i:Nat} {δ:ao},i < ws.length->af 0 δ= .ok (.lst (ws.map .str))->e2 dC (af 0) (eC (.int i)) δ= .ok (.str (wd ws i)):=fun hi hv=>aw (a:= .lst (ws.map .str)) hv rfl (sI hi)
 unfold d6 lD;have e:CK ws=(!(decide (ws.length < 4) || !([Str.ofString "gate",Str.ofString "sure"].contains (wd ws 0))) && (!(!(isNm (wd ws 1)) || !((wx.lookup (wd ws 2)).isSome)) && (decide (((ws.drop 3).length:Int)=(wx.lookup (wd ws 2)).getD 0) && (ws.drop 3).all kQ))):=by
  unfold CK;by_cases h4:4<=ws.length
  .rw [decide_eq_true h4,decide_eq_false (by omega:¬ws.length < 4)];simp
  .rw [decide_eq_false h4,decide_eq_true (by omega:ws.length < 4)];simp
 rw[e];refine dz (yh (kU (du (a:=nI ws.length) (b:=nI 4) (ax (ds:=[.lst (ws.map .str)]) rfl (by rw[hX,List.length_map])) rfl (B4 _ _)) fun h4=>du (a:= .str (wd ws 0)) (b:= .tup ([Str.ofString "gate",Str.ofString "sure"].map .str)) (ix (i:=0) (by have:=of_decide_eq_false h4;omega) rfl) rfl (Jz _ _)) fun h4=>?_)
 have h4:4<=ws.length:=by
  have:=(Bool.or_eq_false_iff.mp h4).1;have:=of_decide_eq_false this;omega
 refine yh (kU (yZ (nQ (ax (ds:=[.str (wd ws 1)]) (aq (ix (i:=1) (by omega) rfl) rfl) (ki (hw 1))))) fun _=>?_) fun hk=>?_
 .unfold Hy;rw[show e2 dC (af 0) (eC (.int 2)) (bZ fG [.lst (ws.map .str)])= .ok (.str (wd ws 2)) from ix (i:=2) (by omega) rfl,R.aI]
  rfl
 .have hk:(wx.lookup (wd ws 2)).isSome=true:=by
   have:=(Bool.or_eq_false_iff.mp hk).2;cases hq:(wx.lookup (wd ws 2)).isSome with
   | true=>rfl
   | false=>rw [hq] at this;cases this
  obtain⟨n,hn⟩:=Option.isSome_iff_exists.mp hk;refine aE (bp (d:= .lst ((ws.drop 3).map .str)) (kc (d:= .lst (ws.map .str)) (lo:=some ((3:Nat):Int)) (hi:=none) rfl (eL rfl) rfl ((pS (by rw[List.length_map];omega)).trans (by rw[List.map_drop]))) (by simp [bZ,fG])) (cJ (ma ?_ fun _=>?_))
  .rw [hn];refine aw (a:=nI (ws.drop 3).length) (b:= .int n) (ax (ds:=[.lst ((ws.drop 3).map .str)]) rfl (by rw[hX,List.length_map])) ?_ ?_
   .unfold vk;rw[show e2 dC (af 0) (eC (.int 2)) _= .ok (.str (wd ws 2)) from ix (i:=2) (by omega) rfl,R.aI]
    show(match wx.lookup (wd ws 2) with | some i=>R.ok (D.int i) | none=> .no)=_
    rw[hn]
   .show R.ok (D.bl ((((ws.drop 3).length:Nat):Int)==n))=_;congr 2
  .exact ax (ds:=[.lst ((ws.drop 3).map .str)]) rfl (mE (by rw[List.length_drop];omega) fun w PL=>h w (List.mem_of_mem_drop PL))
theorem uO(hl:ws.length<=10000000)(h:∀w∈ws,w.length<=10000000):eN [.lst (ws.map .str)]= .ok (.bl (Gs ws)):=by
 have hw:∀i,(wd ws i).length<=10000000:=fun i=>by
  unfold wd;rw[List.getD_eq_getElem?_getD];cases hx:ws[i]? with
  | none=>exact Nat.zero_le _
  | some w=>exact h w (List.mem_of_getElem? hx)
 have ix:∀{i:Nat} {δ:ao},i < ws.length->af 0 δ= .ok (.lst (ws.map .str))->e2 dC (af 0) (eC (.int i)) δ= .ok (.str (wd ws i)):=fun hi hv=>aw (a:= .lst (ws.map .str)) hv rfl (sI hi)
 unfold eN mC;have e:Gs ws=(!(decide (ws.length < 3) || (!(wd ws 0==Str.ofString "out") || !(isNm (wd ws 1)))) && (decide ((ws.drop 2).length<=3) && (ws.drop 2).all kQ)):=by
  unfold Gs;by_cases h4:3<=ws.length
  .rw [decide_eq_true h4,decide_eq_false (by omega:¬ws.length < 3)];simp
  .rw [decide_eq_false h4,decide_eq_true (by omega:ws.length < 3)];simp
 rw[e];refine dz (yh (kU (du (a:=nI ws.length) (b:=nI 3) (ax (ds:=[.lst (ws.map .str)]) rfl (by rw[hX,List.length_map])) rfl (B4 _ _)) fun h4=>?_) fun h4=>?_)
 .have h4:=of_decide_eq_false h4;exact kU (du (a:= .str (wd ws 0)) (b:= .str (Str.ofString "out")) (ix (i:=0) (by omega) rfl) rfl (HD _ _)) fun _=>yZ (nQ (ax (ds:=[.str (wd ws 1)]) (aq (ix (i:=1) (by omega) rfl) rfl) (ki (hw 1))))
 have h4:3<=ws.length:=by
  have:=(Bool.or_eq_false_iff.mp h4).1;have:=of_decide_eq_false this;omega
 refine aE (bp (d:= .lst ((ws.drop 2).map .str)) (kc (d:= .lst (ws.map .str)) (lo:=some ((2:Nat):Int)) (hi:=none) rfl (eL rfl) rfl ((pS (by rw[List.length_map];omega)).trans (by rw[List.map_drop]))) (by simp [bZ,jx])) (cJ (ma ?_ fun _=>?_))
 .exact aw (a:=nI (ws.drop 2).length) (b:=nI 3) (ax (ds:=[.lst ((ws.drop 2).map .str)]) rfl (by rw[hX,List.length_map])) rfl (N8 _ _)
 .exact ax (ds:=[.lst ((ws.drop 2).map .str)]) rfl (mE (by rw[List.length_drop];omega) fun w PL=>h w (List.mem_of_mem_drop PL))
end
end K08
end
section
namespace K08
open PySem PySem.Spec PyProof.Rows L2 L3 MT JT TX
theorem bY{S:aQ}{l:List SO}(i:Nat):(S++l)[S.length+i]? =l[i]?:=by rw[List.getElem?_append_right (by omega),Nat.add_sub_cancel_left]
theorem dQ{S:List SO}{l:List SO}(i:Nat)(x:SO):(S++l).set (S.length+i) x=S++l.set i x:=by
 rw[List.set_append,if_neg (by omega),Nat.add_sub_cancel_left]
def Ap(n:Nat):List (Str × V3):=[(Str.ofString "ins", .loc (n+1)),(Str.ofString "gates", .loc (n+2)),(Str.ofString "outs", .loc (n+3)),(Str.ofString "names", .loc (n+4)),(Str.ofString "out_names", .loc (n+5)),(Str.ofString "numbers", .loc (n+6))]
def KY(n:Nat)(d:Dr):List SO:=[.ins 0 (Ap n), .lst (d.ins.map MT.inD), .lst (d.gs.map eE), .lst (d.os.map kE), .dct (uE d.nm), .dct (uE d.on), .dct (JY d.nu)]
abbrev ij(S:aQ)(d:Dr):aQ:=S++KY S.length d
theorem lk{n:Nat}{i:Nat}(h:([Str.ofString "ins",Str.ofString "gates",Str.ofString "outs",Str.ofString "names",Str.ofString "out_names",Str.ofString "numbers"].findIdx? (·==k))=some i):(Ap n).lookup k=some (.loc (n+(i+1))):=by
 unfold Ap;simp only[List.findIdx?_cons,List.findIdx?_nil] at h;have sw:∀a:Str,(k==a)=(a==k):=fun a=>by
  by_cases q:a=k
  .subst q;rfl
  .rw [beq_eq_false_iff_ne.mpr q,beq_eq_false_iff_ne.mpr (Ne.symm q)]
 simp only[List.lookup_cons,sw];split at h
 .rename_i q;rw [q];cases h;rfl
 .rename_i q1;rw[Bool.not_eq_true] at q1;rw[q1];simp only[Option.map_eq_some_iff] at h;obtain⟨j1,h,rfl⟩:=h;split at h
  .rename_i q;rw [q];cases h;rfl
  .rename_i q2;rw[Bool.not_eq_true] at q2;rw[q2];simp only[Option.map_eq_some_iff] at h;obtain⟨j2,h,rfl⟩:=h;split at h
   .rename_i q;rw [q];cases h;rfl
   .rename_i q3;rw[Bool.not_eq_true] at q3;rw[q3];simp only[Option.map_eq_some_iff] at h;obtain⟨j3,h,rfl⟩:=h;split at h
    .rename_i q;rw [q];cases h;rfl
    .rename_i q4;rw[Bool.not_eq_true] at q4;rw[q4];simp only[Option.map_eq_some_iff] at h;obtain⟨j4,h,rfl⟩:=h;split at h
     .rename_i q;rw [q];cases h;rfl
     .rename_i q5;rw[Bool.not_eq_true] at q5;rw[q5];simp only[Option.map_eq_some_iff] at h;obtain⟨j5,h,rfl⟩:=h;split at h
      .rename_i q;rw [q];cases h;rfl
      .cases h
theorem Kx{n:Nat}(h:([Str.ofString "ins",Str.ofString "gates",Str.ofString "outs",Str.ofString "names",Str.ofString "out_names",Str.ofString "numbers"].contains m)=false):(Ap n).lookup m=none:=by
 unfold Ap;simp only[List.contains_cons,List.contains_nil,Bool.or_eq_false_iff] at h;obtain⟨h1,h2,h3,h4,h5,h6,_⟩:=h;simp only[List.lookup_cons,h1,h2,h3,h4,h5,h6,List.lookup_nil]
section
variable {S:aQ} {d:Dr} {δ:DE}
theorem h_{i j:Nat}{Q:V3->aQ->Prop}(hv:δ[j]? =some (some (.loc S.length)))(hk:([Str.ofString "ins",Str.ofString "gates",Str.ofString "outs",Str.ofString "names",Str.ofString "out_names",Str.ofString "numbers"].findIdx? (·==k))=some i)(h:Q (.loc (S.length+(i+1))) (ij S d)):W3 (eI 0 k (cG j) δ (ij S d)) Q:=
 w_fld (k:=S.length) <| w_var (v:= .loc S.length) hv ⟨_,_,rfl,bY 0,lk hk,h⟩
theorem GU:jw (ij S d) (S.length+(0+1))=some d.ins.length:=by unfold jw;rw [bY];simp [KY]
theorem GR:jw (ij S d) (S.length+(1+1))=some d.gs.length:=by unfold jw;rw [bY];simp [KY]
theorem yY:jw (ij S d) (S.length+(2+1))=some d.os.length:=by unfold jw;rw [bY];simp [KY]
theorem Gk:jw (ij S d) (S.length+(5+1))=some d.nu.length:=by unfold jw;rw [bY];simp [KY,sR]
theorem Gn:oM (.d (.str x)) (.loc (S.length+(3+1))) (ij S d)=some (if x∈d.nm then some (.bl true) else none):=by
 have e:(ij S d)[S.length+(3+1)]? =some (.dct (uE d.nm)):=bY _;unfold oM;simp only[qP,e];rw[n5]
theorem Kr:oM (.d (.str x)) (.loc (S.length+(4+1))) (ij S d)=some (if x∈d.on then some (.bl true) else none):=by
 have e:(ij S d)[S.length+(4+1)]? =some (.dct (uE d.on)):=bY _;unfold oM;simp only[qP,e];rw[n5]
theorem GY:oM (.d (.str x)) (.loc (S.length+(5+1))) (ij S d)=some ((idx d.nu x).map nI):=by
 have e:(ij S d)[S.length+(5+1)]? =some (.dct (DF 0 d.nu)):=bY _;unfold oM;simp only[qP,e];rw[qo];congr 1;cases idx d.nu x with
 | none=>rfl
 | some i=>show some (nI (0+i))=_;rw [Nat.zero_add];rfl
theorem Of{a b:Str}{f:FD}{δ:ao}{x:Str}(h:f δ= .ok (.str x))(hl:x.length<=1000000)(ha:a.length<=1000)(hb:b.length<=1000):∃y,cZ (bM (eC (.str a)) (bM (jS f) (bM (eC (.str b)) mT))) δ= .ok (.str y):=by
 have hz:sizeLine=16777216:=sizeLine_eq;refine⟨_,ng (ss:=[a,x,b]) (g_ rfl (g_ (uY h (by omega)) (g_ rfl rfl))) ?_⟩
 show(((Str.empty++a)++x)++b).length<=_;rw[Str.length_append,Str.length_append,Str.length_append];show 0+a.length+x.length+b.length<=_;omega
theorem t_{c i:Nat}{a b:Str}{x:Str}{Y:Nat->aQ->Prop}{Q:Ou->aQ->Prop}(h:(down δ)[i]? =some (.val (.str x)))(hl:x.length<=1000000)(ha:a.length<=1000)(hb:b.length<=1000)(hy:Y c S):WE (e7 c (dR (bu (xP (cZ (bM (eC (.str a)) (bM (jS (af i)) (bM (eC (.str b)) mT))))) dE)) δ S) Q Y:=by
 obtain⟨y,e⟩:=Of (a:=a) (b:=b) (f:=af i) (δ:=down δ) (x:=x) (by unfold af;rw [h]) hl ha hb
 exact p6 <| c7 <| g9 e <| jv ⟨by show 1<=sizeLine;decide,hy⟩
theorem yl{nu:List Str}:∀{ws:List Str},fj nu (ws++[w])=(fj nu ws).bind fun l=>(idx nu w).map fun i=>l++[i]
 | []=>by
   show(match idx nu w with | some i=>(fj nu []).map (i ::·) | none=>none)=_
   cases idx nu w <;> rfl
 | y ::ws=>by
   show(match idx nu y with | some i=>(fj nu (ws++[w])).map (i ::·) | none=>none)=_
   rw[yl];show _=(match idx nu y with | some i=>(fj nu ws).map (i ::·) | none=>none).bind _
   cases idx nu y with
   | none=>rfl
   | some i=>
     cases fj nu ws with
     | none=>rfl
     | some l=>cases idx nu w <;> rfl
theorem zk{nu:List Str}(h:idx nu w=none):∀{ws:List Str},w∈ws->fj nu ws=none
 | y ::ws,hm=>by
   show(match idx nu y with | some i=>(fj nu ws).map (i ::·) | none=>none)=_
   rcases List.mem_cons.mp hm with e | e
   .rw [<-e,h]
   .rw [zk h e];cases idx nu y <;> rfl
theorem Cz{nu:List Str}:∀{ws:List Str},(∀w∈ws,∃i,idx nu w=some i)->∃l,fj nu ws=some l
 | [],_=>⟨[],rfl⟩
 | y ::ws,h=>by
   obtain⟨i,hi⟩:=h y List.mem_cons_self;obtain⟨l,hl⟩:=Cz (ws:=ws) fun w hw=>h w (List.mem_cons_of_mem _ hw)
   refine⟨i ::l,?_⟩;show(match idx nu y with | some i=>(fj nu ws).map (i ::·) | none=>none)=_
   rw[hi,hl];rfl
theorem kD{ws:List Str}(hl:ws.length<=1000)(hw:∀w∈ws,w.length<=1000000):WE (bc [.loc S.length, .d (.lst (ws.map .str))] (ij S d)) (fun v S1=>S1=ij S d/\∃l,fj d.nu ws=some l/\v= .d (.tup (l.map nI))) (fun c S1=>S1=ij S d/\c=7/\fj d.nu ws=none):=by
 have hz:sizeLine=16777216:=sizeLine_eq;unfold bc;refine JZ rfl ?_;simp only[d4,cg,List.map,List.length,List.replicate,List.cons_append,List.nil_append,Nat.reduceAdd,Nat.reduceSub];unfold dW;refine gY <| GQ <| xS (ds:=ws.map .str) (eZ rfl) ?_
 refine(Hk (fun i δ S1=>S1=ij S d/\(∃a2,δ=[some (.loc S.length),some (.d (.lst (ws.map .str))),a2])/\∀w∈ws.take i,∃j,idx d.nu w=some j) ⟨rfl,⟨_,rfl⟩,by simp⟩ ?_).mono (fun o S1 ⟨δ1,e1,e2,⟨a2,e3⟩,h1⟩=>⟨δ1,e1,?_⟩) fun _ _ q=>q
 .rintro i v δ1 S1 hv ⟨rfl,⟨a2,rfl⟩,hi⟩;obtain⟨w,hwi,rfl⟩:=NT.xo hv;refine⟨[some (.loc S.length),some (.d (.lst (ws.map .str))),some (.d (.str w))],rfl,?_⟩;unfold fw;refine om <| uh <| g9 (d:= .str w) rfl <| h_ (i:=5) rfl (by decide+kernel) ⟨_,GY,?_⟩
  cases hj:idx d.nu w with
  | none=>
    simp only[Option.map_none,Option.isSome_none,Bool.true_bne,Bool.not_false,if_true];exact t_ (x:=w) rfl (hw w (List.mem_of_getElem? hwi)) (by decide+kernel) (by decide+kernel) ⟨rfl,rfl,zk hj (List.mem_of_getElem? hwi)⟩
  | some j=>
    simp only[Option.map_some,Option.isSome_some,Bool.true_bne,Bool.not_true,Bool.false_eq_true,if_false];refine k6 ⟨_,rfl,rfl,⟨_,rfl⟩,fun y hy=>?_⟩
    rw[List.take_add_one,hwi] at hy;rcases List.mem_append.mp hy with z | z
    .exact hi y z
    .rw [List.mem_singleton.mp z];exact⟨j,hj⟩
 .subst e2 e3;rw[List.length_map,List.length_map,List.take_length] at h1;obtain⟨l,L0⟩:=Cz h1;refine vB <| yJ <| EJ <| c7 <| Fm (fun i ds S2=>S2=ij S d/\∃m,fj d.nu (ws.take i)=some m/\ds=m.map nI) <| xS (ds:=ws.map .str) (eZ rfl) ⟨by rw[List.length_map,List.length_map];omega,⟨rfl,[],rfl,rfl⟩,?_,?_⟩
  .rintro i v ds S2 hv ⟨rfl,m,hm,rfl⟩;obtain⟨w,hwi,rfl⟩:=NT.xo hv;obtain⟨j,hj⟩:=h1 w (List.mem_of_getElem? hwi);refine⟨[some (.d (.str w)),some (.loc S.length)],rfl,zj ?_⟩;rw[if_pos rfl];refine IT <| h_ (i:=5) rfl (by decide+kernel) <| g9 (d:= .str w) rfl ⟨nI j,by rw[GY,hj];rfl,_,rfl,rfl,m++[j],?_,?_⟩
   .rw [List.take_add_one,hwi];show fj d.nu (ws.take i++[w])=_;rw[yl,hm,hj];rfl
   .rw [List.map_append];rfl
  .rintro ds S2 ⟨rfl,m,hm,rfl⟩;rw[List.length_map,List.length_map,List.take_length] at hm;exact jv ⟨[.lst (m.map nI)], .tup (m.map nI),rfl,rfl,rfl,m,hm,rfl⟩
end
end K08
end
section
namespace K08
open PySem PySem.Spec PyProof.Rows L2 L3 MT JT TX
theorem Fh{f:FD}{δ:ao}{k:Nat}(hk:k < 3)(h:f δ= .ok (nI k)):jS f δ= .ok (.str (iH k)):=by
 match k,hk with
 | 0,_=>exact(qx (i:=0) h (by decide+kernel)).trans (by rw[show(toString (0:Int):Str)=iH 0 by decide+kernel])
 | 1,_=>exact(qx (i:=1) h (by decide+kernel)).trans (by rw[show(toString (1:Int):Str)=iH 1 by decide+kernel])
 | 2,_=>exact(qx (i:=2) h (by decide+kernel)).trans (by rw[show(toString (2:Int):Str)=iH 2 by decide+kernel])
theorem uR{x:Str}{w:Nat}(hx:x.length<=8)(hw:w<=3):iW [.str x,nI w]= .ok (.lst ((nU x w).map .str)):=by
 have hz:sizeLine=16777216:=sizeLine_eq;unfold iW qF nU;by_cases h1:w=1
 .rw [if_pos h1];exact dz (NT.pY (pz (du (a:=nI w) (b:=nI 1) rfl rfl (by rw[vG,decide_eq_true h1])) (cJ (b6 (cN (ds:=[.str x]) rfl (by show 1<=sizeLine;omega))))))
 .rw [if_neg h1];refine dz (aE (pq (du (a:=nI w) (b:=nI 1) rfl rfl (by rw[vG,decide_eq_false h1])) rfl) (cJ (b6 (ee (ds:=(List.range w).map nI) (qb rfl (by omega)) (by simp;omega) ?_))))
  rw[show((List.range w).map fun f=>x++CO++iH f).map D.str=(List.range w).map fun f=>D.str (x++CO++iH f) from List.map_map]
  refine NT.c6 nI _ fun f hf=>⟨[.val (nI f), .val (.str x)],rfl,rfl,?_⟩
  have hf:f < 3:=Nat.lt_of_lt_of_le (List.mem_range.mp hf) hw;have hfl:(iH f).length<=1:=by match f,hf with | 0,_=>decide+kernel | 1,_=>decide+kernel | 2,_=>decide+kernel
  refine(ng (ss:=[x,CO,iH f]) (g_ (uY rfl (by omega)) (g_ rfl (g_ (Fh hf rfl) rfl))) ?_).trans ?_
  .show(((Str.empty++x)++CO)++iH f).length<=_;rw[Str.length_append,Str.length_append,Str.length_append];show 0+x.length+1+_<=_;omega
  .show R.ok (D.str (((Str.empty++x)++CO)++iH f))=_;rw[empty_app]
section
variable {S:aQ} {d:Dr}
theorem lH{x:Str}(h:isNm x=true):x.length<=1000000:=by have:=(dD.mp h).2.1;omega
theorem qU{α:Type}(l:List α):decide (l.length≠0)=decide (l≠[]):=by cases l <;> simp
theorem Aj{δ:DE}{Q:Bool->aQ->Prop}(hv:δ[0]? =some (some (.loc S.length)))(h:Q (decide (d.gs≠[]\/d.os≠[])) (ij S d)):W3 (LF (lj (eI 0 (Str.ofString "gates") (cG 0))) (lj (eI 0 (Str.ofString "outs") (cG 0))) δ (ij S d)) Q:=by
 refine W3.bind (qj <| h_ (i:=1) hv (by decide+kernel) ⟨_,_,rfl,GR,?_⟩)
 rw[qU d.gs];by_cases hg:d.gs≠[]
 .rw [decide_eq_true hg,if_pos rfl];rw[decide_eq_true (.inl hg)] at h;exact W3.ok h
 .rw [decide_eq_false hg,if_neg (by decide)]
  refine qj <| h_ (i:=2) hv (by decide+kernel) ⟨_,_,rfl,yY,?_⟩
  rw[qU d.os];have:decide (d.gs≠[]\/d.os≠[])=decide (d.os≠[]):=by
   by_cases ho:d.os≠[]
   .rw [decide_eq_true ho,decide_eq_true (.inr ho)]
   .rw [decide_eq_false ho,decide_eq_false fun q=>q.elim hg ho]
  rw[this] at h;exact h
theorem Ac(DD:lQ d){w:Nat}(hx:isNm x=true)(hw:w<=3):WE (cU [.loc S.length, .d (.str x), .d (nI w)] (ij S d)) (fun v S1=>v= .d .cH/\∃d',kK d x w= .ok d'/\S1=ij S d') (fun c S1=>kK d x w= .error c/\S1=ij S d):=by
 have hz:sizeLine=16777216:=sizeLine_eq;have hx8:=(dD.mp hx).2.1;unfold cU;refine JZ rfl ?_;simp only[d4,fD,List.map,List.length,List.replicate,List.cons_append,List.nil_append,Nat.reduceAdd,Nat.reduceSub];unfold iX;refine gY <| om <| Aj rfl ?_
 by_cases hb:d.gs≠[]\/d.os≠[]
 .rw [decide_eq_true hb,if_pos rfl];exact t_ (x:=x) rfl (lH hx) (by decide+kernel) (by decide+kernel) ⟨by unfold kK;rw [if_pos hb],rfl⟩
 .rw [decide_eq_false hb,if_neg (by decide)]
  refine k6 ⟨_,rfl,?_⟩;refine gY <| om <| uh <| g9 (d:= .str x) rfl <| h_ (i:=3) rfl (by decide+kernel) ⟨_,Gn,?_⟩
  by_cases h2:x∈d.nm
  .rw [if_pos h2];simp only[Option.isSome_some,Bool.false_bne,if_true];exact t_ (x:=x) rfl (lH hx) (by decide+kernel) (by decide+kernel) ⟨by unfold kK;rw [if_neg hb,if_pos h2],rfl⟩
  .rw [if_neg h2];simp only[Option.isSome_none,Bool.false_bne,Bool.false_eq_true,if_false];refine k6 ⟨_,rfl,?_⟩;refine gY <| om <| zB <| vU <| h_ (i:=0) rfl (by decide+kernel) ⟨_,_,rfl,GU,g9 (d:=nI 6) rfl ⟨nI d.ins.length,nI 6,_,rfl,rfl,G_ _ _,?_⟩⟩
   by_cases h3:6<=d.ins.length
   .rw [decide_eq_true h3,if_pos rfl];exact t_ (x:=x) rfl (lH hx) (by decide+kernel) (by decide+kernel) ⟨by unfold kK;rw [if_neg hb,if_neg h2,if_pos h3],rfl⟩
   .rw [decide_eq_false h3,if_neg (by decide)]
    refine k6 ⟨_,rfl,?_⟩;have LX:=DD.ln;have MG:=DD.lw;have ML:=DD.li;refine vB <| dP <| n0 <| g9 (d:= .bl true) rfl <| h_ (i:=3) rfl (by decide+kernel) <| g9 (d:= .str x) rfl ⟨_,_,_,Sum.inr x,uE d.nm,rfl,rfl,rfl,rfl,bY _,by rw[tT];omega,_,rfl,?_⟩
    rw[show(ij S d).set (S.length+(3+1)) (.dct (mV (uE d.nm) (Sum.inr x) (.bl true)))=ij S {d with nm:=d.nm++[x]} by rw[tW h2];exact dQ _ _]
    refine dP <| Lb <| xS (ds:=(nU x w).map .str) (eZ (ax (ds:=[.str x,nI w]) rfl (uR hx8 hw))) ?_
    refine(zE (fun i δ S1=>S1=ij S {d with nm:=d.nm++[x],nu:=d.nu++(nU x w).take i}/\∃a3,δ=[some (.loc S.length),some (.d (.str x)),some (.d (nI w)),a3]) ⟨by simp,_,rfl⟩ ?_).mono fun o S1 ⟨iE,e1,e2,a3,e3⟩=>⟨iE,e1,?_⟩
    .rintro i v δ S1 hv ⟨rfl,a3,rfl⟩;obtain⟨y,hy,rfl⟩:=NT.xo hv;refine⟨[some (.loc S.length),some (.d (.str x)),some (.d (nI w)),some (.d (.str y))],rfl,?_⟩;unfold j0;have hyn:y ∉ d.nu++(nU x w).take i:=fun q=>by
      rcases List.mem_append.mp q with z | z
      .exact l_ DD h2 (lb hx y (List.mem_of_getElem? hy)) z
      .have nd:=xx (x:=x) hw;obtain⟨j,hj⟩:=List.getElem?_of_mem z;rw[List.getElem?_take] at hj;split at hj
       .rename_i hji;have:=iO nd hj hy;omega
       .cases hj
     have hil:(nU x w).length<=3:=by rw[pP];exact hw
     have htl:((nU x w).take i).length<=3:=by rw[List.length_take];omega
     refine n0 <| vU <| h_ (i:=5) rfl (by decide+kernel) ⟨_,_,rfl,Gk,h_ (i:=5) rfl (by decide+kernel) <| g9 (d:= .str y) rfl ⟨_,_,_,Sum.inr y,JY (d.nu++(nU x w).take i),rfl,rfl,rfl,rfl,bY _,by rw[sR,List.length_append];omega,_,rfl,?_,_,rfl⟩⟩
     rw[show({d with nm:=d.nm++[x],nu:=d.nu++(nU x w).take i}:Dr).nu=d.nu++(nU x w).take i from rfl,show D.int ((d.nu++(nU x w).take i).length:Nat)=nI (d.nu++(nU x w).take i).length from rfl,yN hyn,List.append_assoc,show(nU x w).take i++[y]=(nU x w).take (i+1) by rw[List.take_add_one,hy];rfl]
     exact dQ _ _
    .subst e2 e3;rw[List.length_map,List.length_map,List.take_length];refine HV (k:=S.length+(0+1)) <| h_ (i:=0) rfl (by decide+kernel) ⟨rfl,⟨_,bY _⟩,g9 (d:=MT.inD (x,w)) (dc rfl (by show 2<=sizeLine;omega)) ⟨_,d.ins.map MT.inD,rfl,bY _,by rw[List.length_map];omega,trivial,_,by unfold kK;rw [if_neg hb,if_neg h2,if_neg h3],?_⟩⟩
     rw[show d.ins.map MT.inD++[MT.inD (x,w)]=(d.ins++[(x,w)]).map MT.inD by simp]
     exact dQ _ _
theorem uG(DD:lQ d){ws:List Str}{s:Bool}(hx:isNm x=true)(hk:kS (vf k)=k)(hl:ws.length<=1000)(hw:∀w∈ws,w.length<=1000000):WE (cu [.loc S.length, .d (.str x), .d (.str k), .d (.lst (ws.map .str)), .d (.bl s)] (ij S d)) (fun v S1=>v= .d .cH/\∃d',addGate d x (vf k) ws s= .ok d'/\S1=ij S d') (fun c S1=>addGate d x (vf k) ws s= .error c/\S1=ij S d):=by
 have hz:sizeLine=16777216:=sizeLine_eq;unfold cu;refine JZ rfl ?_;simp only[d4,eA,List.map,List.length,List.replicate,List.cons_append,List.nil_append,Nat.reduceAdd,Nat.reduceSub];unfold gc;refine gY <| om <| qj <| h_ (i:=2) rfl (by decide+kernel) ⟨_,_,rfl,yY,?_⟩
 rw[qU d.os];by_cases h1:d.os≠[]
 .rw [decide_eq_true h1,if_pos rfl];exact t_ (x:=x) rfl (lH hx) (by decide+kernel) (by decide+kernel) ⟨by unfold addGate;rw [if_pos h1],rfl⟩
 rw[decide_eq_false h1,if_neg (by decide)]
 refine k6 ⟨_,rfl,?_⟩;refine gY <| om <| uh <| g9 (d:= .str x) rfl <| h_ (i:=3) rfl (by decide+kernel) ⟨_,Gn,?_⟩
 by_cases h2:x∈d.nm
 .rw [if_pos h2];simp only[Option.isSome_some,Bool.false_bne,if_true];exact t_ (x:=x) rfl (lH hx) (by decide+kernel) (by decide+kernel) ⟨by unfold addGate;rw [if_neg h1,if_pos h2],rfl⟩
 rw[if_neg h2];simp only[Option.isSome_none,Bool.false_bne,Bool.false_eq_true,if_false];refine k6 ⟨_,rfl,?_⟩;refine gY <| om <| zB <| vU <| h_ (i:=1) rfl (by decide+kernel) ⟨_,_,rfl,GR,g9 (d:=nI 60) rfl ⟨nI d.gs.length,nI 60,_,rfl,rfl,G_ _ _,?_⟩⟩
 by_cases h3:60<=d.gs.length
 .rw [decide_eq_true h3,if_pos rfl];exact t_ (x:=x) rfl (lH hx) (by decide+kernel) (by decide+kernel) ⟨by unfold addGate;rw [if_neg h1,if_neg h2,if_pos h3],rfl⟩
 rw[decide_eq_false h3,if_neg (by decide)]
 refine k6 ⟨_,rfl,?_⟩;have LX:=DD.ln;have MG:=DD.lw;have ML:=DD.lg;refine gY <| Bu (k:=S.length+(1+1)) <| h_ (i:=1) rfl (by decide+kernel) ⟨rfl,⟨_,bY _⟩,GH <| qf <| Dm <| g9 (d:= .str k) rfl <| qf <| qH (k:=S.length) <| w_var (v:= .loc S.length) rfl ⟨_,rfl,bY 0,Kx (by decide+kernel),c7 <| g9 (d:= .lst (ws.map .str)) rfl <| jv ?_⟩⟩
 refine(kD hl hw).mono ?_ ?_
 .rintro v S1 ⟨rfl,l,L0,rfl⟩;refine qf <| Dm <| g9 (d:= .bl s) rfl <| Bj ⟨by show 3<=sizeLine;omega,eE (vf k,l,s),d.gs.map eE,?_,bY _,by rw[List.length_map];omega,_,rfl,?_⟩
  .show V3.d (.tup [.str k, .tup (l.map nI), .bl s])=_;unfold eE;rw[hk]
  rw[show(ij S d).set (S.length+(1+1)) (.lst (d.gs.map eE++[eE (vf k,l,s)]))=ij S {d with gs:=d.gs++[(vf k,l,s)]} by rw[show d.gs.map eE++[eE (vf k,l,s)]=(d.gs++[(vf k,l,s)]).map eE by simp];exact dQ _ _]
  refine vB <| dP <| n0 <| g9 (d:= .bl true) rfl <| h_ (i:=3) rfl (by decide+kernel) <| g9 (d:= .str x) rfl ⟨_,_,_,Sum.inr x,uE d.nm,rfl,rfl,rfl,rfl,bY _,by rw[tT];omega,_,rfl,?_⟩
  rw[show(ij S {d with gs:=d.gs++[(vf k,l,s)]}).set (S.length+(3+1)) (.dct (mV (uE d.nm) (Sum.inr x) (.bl true)))=ij S {d with gs:=d.gs++[(vf k,l,s)],nm:=d.nm++[x]} by rw[tW h2];exact dQ _ _]
  refine n0 <| vU <| h_ (i:=5) rfl (by decide+kernel) ⟨_,_,rfl,Gk,h_ (i:=5) rfl (by decide+kernel) <| g9 (d:= .str x) rfl ⟨_,_,_,Sum.inr x,JY d.nu,rfl,rfl,rfl,rfl,bY _,by rw[sR];omega,trivial,_,by unfold addGate;rw [if_neg h1,if_neg h2,if_neg h3,L0],?_⟩⟩
  rw[show D.int (d.nu.length:Nat)=nI d.nu.length from rfl,yN (l_ DD h2 (nF hx))]
  exact dQ _ _
 .rintro c S1 ⟨rfl,rfl,hn⟩;exact⟨by unfold addGate;rw [if_neg h1,if_neg h2,if_neg h3,hn],rfl⟩
theorem xA(DD:lQ d){ws:List Str}(hx:isNm x=true)(hl:ws.length<=1000)(hw:∀w∈ws,w.length<=1000000):WE (cD [.loc S.length, .d (.str x), .d (.lst (ws.map .str))] (ij S d)) (fun v S1=>v= .d .cH/\∃d',iF d x ws= .ok d'/\S1=ij S d') (fun c S1=>iF d x ws= .error c/\S1=ij S d):=by
 have hz:sizeLine=16777216:=sizeLine_eq;unfold cD;refine JZ rfl ?_;simp only[d4,eV,List.map,List.length,List.replicate,List.cons_append,List.nil_append,Nat.reduceAdd,Nat.reduceSub];unfold hU;refine gY <| om <| uh <| g9 (d:= .str x) rfl <| h_ (i:=4) rfl (by decide+kernel) ⟨_,Kr,?_⟩
 by_cases h2:x∈d.on
 .rw [if_pos h2];simp only[Option.isSome_some,Bool.false_bne,if_true];exact t_ (x:=x) rfl (lH hx) (by decide+kernel) (by decide+kernel) ⟨by unfold iF;rw [if_pos h2],rfl⟩
 rw[if_neg h2];simp only[Option.isSome_none,Bool.false_bne,Bool.false_eq_true,if_false];refine k6 ⟨_,rfl,?_⟩;refine gY <| om <| zB <| vU <| h_ (i:=2) rfl (by decide+kernel) ⟨_,_,rfl,yY,g9 (d:=nI 6) rfl ⟨nI d.os.length,nI 6,_,rfl,rfl,G_ _ _,?_⟩⟩
 by_cases h3:6<=d.os.length
 .rw [decide_eq_true h3,if_pos rfl];exact t_ (x:=x) rfl (lH hx) (by decide+kernel) (by decide+kernel) ⟨by unfold iF;rw [if_neg h2,if_pos h3],rfl⟩
 rw[decide_eq_false h3,if_neg (by decide)]
 refine k6 ⟨_,rfl,?_⟩;have ML:=DD.lo;have hon:d.on.length=d.os.length:=by unfold Dr.on;rw [List.length_map]
 refine gY <| Bu (k:=S.length+(2+1)) <| h_ (i:=2) rfl (by decide+kernel) ⟨rfl,⟨_,bY _⟩,GH <| qf <| Dm <| g9 (d:= .str x) rfl <| qf <| qH (k:=S.length) <| w_var (v:= .loc S.length) rfl ⟨_,rfl,bY 0,Kx (by decide+kernel),c7 <| g9 (d:= .lst (ws.map .str)) rfl <| jv ?_⟩⟩
 refine(kD hl hw).mono ?_ ?_
 .rintro v S1 ⟨rfl,l,L0,rfl⟩;refine Bj ⟨by show 2<=sizeLine;omega,kE (x,l),d.os.map kE,rfl,bY _,by rw[List.length_map];omega,_,rfl,?_⟩
  rw[show(ij S d).set (S.length+(2+1)) (.lst (d.os.map kE++[kE (x,l)]))=S++[.ins 0 (Ap S.length), .lst (d.ins.map MT.inD), .lst (d.gs.map eE), .lst ((d.os++[(x,l)]).map kE), .dct (uE d.nm), .dct (uE d.on), .dct (JY d.nu)] by rw[show d.os.map kE++[kE (x,l)]=(d.os++[(x,l)]).map kE by simp];exact dQ _ _]
  refine vB <| n0 <| g9 (d:= .bl true) rfl <| w_fld (k:=S.length) <| w_var (v:= .loc S.length) rfl ⟨_,_,rfl,bY 0,lk (i:=4) (by decide+kernel),g9 (d:= .str x) rfl ⟨_,_,_,Sum.inr x,uE d.on,rfl,rfl,rfl,rfl,bY _,by rw[tT,hon];omega,trivial,_,by unfold iF;rw [if_neg h2,if_neg h3,L0],?_⟩⟩
  rw[tW h2,show d.on++[x]=({d with os:=d.os++[(x,l)]}:Dr).on by unfold Dr.on;simp]
  exact dQ _ _
 .rintro c S1 ⟨rfl,rfl,hn⟩;exact⟨by unfold iF;rw [if_neg h2,if_neg h3,hn],rfl⟩
end
end K08
end
section
namespace K08
open PySem PySem.Spec PyProof.Rows L2 L3 MT JT TX
structure Rw (n:Nat) (r:Str):Prop where
 len:r.length<=n
 cps:∀c∈r.cps.toList,c < 16 ^ 8
section
variable {S:aQ} {d:Dr}
theorem zL{r:Str}{n:Nat}(h:r.length<=n):(Txt.split r SP).length<=n+2/\∀w∈Txt.split r SP,w.length<=n:=
 ⟨Nat.le_trans (split_le r SP) (by omega),fun w hw=>Nat.le_trans (part_short hw) h⟩
theorem He(DD:lQ d)(hr:Rw 1000000 r):WE (fk [.loc S.length, .d (.str r)] (ij S d)) (fun v S1=>v= .d .cH/\∃d',fZ d (Txt.split r SP)= .ok d'/\S1=ij S d') (fun c S1=>fZ d (Txt.split r SP)= .error c/\S1=ij S d):=by
 have hz:sizeLine=16777216:=sizeLine_eq;have hrl:=hr.len;obtain⟨sJ,hww⟩:=zL hrl;unfold fk;refine JZ rfl ?_;simp only[d4,kj,List.map,List.length,List.replicate,List.cons_append,List.nil_append,Nat.reduceAdd,Nat.reduceSub];unfold mZ;refine gY <| vB <| jl (by simp) <| g9 (d:= .lst ((Txt.split r SP).map .str)) (jq (x:=r) rfl (aq rfl rfl) (by rw[A5];exact vC (by omega))) ⟨_,rfl,?_⟩
 simp only[List.set];generalize Txt.split r SP=ws at sJ hww;have h7:∀w∈ws,w.length<=10000000:=fun w hw=>Nat.le_trans (hww w hw) (by omega)
 have ix:∀{i:Nat} {δ:ao},i < ws.length->af 2 δ= .ok (.lst (ws.map .str))->e2 dC (af 2) (eC (.int i)) δ= .ok (.str (wd ws i)):=fun hi hv=>aw (a:= .lst (ws.map .str)) hv rfl (sI hi)
 refine om <| Ag (b:=BI ws) (nQ (ax (ds:=[.lst (ws.map .str)]) rfl (xk (by omega) h7))) ?_
 unfold fZ;cases hi:BI ws with
 | true=>
   rw[if_pos rfl,if_pos rfl];have hi':=hi;unfold BI at hi';simp only[Bool.and_eq_true,decide_eq_true_eq] at hi';obtain⟨h3,_,hn,hwd⟩:=hi';obtain⟨_,w3,wk⟩:=Co hwd;refine tS <| qH (k:=S.length) <| w_var (v:= .loc S.length) rfl ⟨_,rfl,bY 0,Kx (by decide+kernel),c7 <| g9 (d:= .str (wd ws 1)) (ix (i:=1) (by omega) rfl) <| c7 <| g9 (d:=nI (GX (wd ws 2))) ?_ <| jv ?_⟩
   .unfold vk;rw[show e2 dC (af 2) (eC (.int 2)) _= .ok (.str (wd ws 2)) from ix (i:=2) (by omega) rfl,R.aI]
    show(match DI.lookup (wd ws 2) with | some i=>R.ok (D.int i) | none=> .no)=_
    rw[wk];rfl
   .refine(Ac DD hn w3).mono ?_ fun _ _ q=>q
    rintro v S1 ⟨rfl,q⟩;exact⟨trivial,q⟩
 | false=>
   rw[if_neg (by decide),if_neg (by decide)]
   refine om <| Ag (b:=CK ws) (nQ (ax (ds:=[.lst (ws.map .str)]) rfl (ua (by omega) h7))) ?_
   cases hg:CK ws with
   | true=>
     rw[if_pos rfl,if_pos rfl];have hg':=hg;unfold CK at hg';simp only[Bool.and_eq_true,decide_eq_true_eq] at hg';obtain⟨⟨h4,_⟩,⟨hn,hk⟩,_,_⟩:=hg';obtain⟨k1,_,_⟩:=BW hk;have hdl:(ws.drop 3).length<=1000:=by
      have hg':=hg;unfold CK at hg';simp only[Bool.and_eq_true,decide_eq_true_eq] at hg';have h5:=hg'.2.2.1;obtain⟨_,k2,k3⟩:=BW hk;rw[k3] at h5;have:=yg (vf (wd ws 2));simp only[Option.getD_some] at h5;omega
     refine tS <| qH (k:=S.length) <| w_var (v:= .loc S.length) rfl ⟨_,rfl,bY 0,Kx (by decide+kernel),c7 <| g9 (d:= .str (wd ws 1)) (ix (i:=1) (by omega) rfl) <| c7 <| g9 (d:= .str (wd ws 2)) (ix (i:=2) (by omega) rfl) <| c7 <| g9 (d:= .lst ((ws.drop 3).map .str)) (kc (d:= .lst (ws.map .str)) (lo:=some ((3:Nat):Int)) (hi:=none) rfl (eL rfl) rfl ((pS (by rw[List.length_map];omega)).trans (by rw[List.map_drop]))) <| c7 <| g9 (d:= .bl (wd ws 0==Str.ofString "sure")) (aw (a:= .str (wd ws 0)) (b:= .str (Str.ofString "sure")) (ix (i:=0) (by omega) rfl) rfl (tM _ _)) <| jv ?_⟩
     refine(uG DD hn k1 hdl fun w hw=>Nat.le_trans (hww w (List.mem_of_mem_drop hw)) (by omega)).mono ?_ fun _ _ q=>q
     rintro v S1 ⟨rfl,q⟩;exact⟨trivial,q⟩
   | false=>
     rw[if_neg (by decide),if_neg (by decide)]
     refine om <| Ag (b:=Gs ws) (nQ (ax (ds:=[.lst (ws.map .str)]) rfl (uO (by omega) h7))) ?_
     cases ho:Gs ws with
     | true=>
       rw[if_pos rfl,if_pos rfl];have we:=ho;unfold Gs at we;simp only[Bool.and_eq_true,decide_eq_true_eq] at we;obtain⟨⟨h4,_,hn⟩,h5,_⟩:=we;refine tS <| qH (k:=S.length) <| w_var (v:= .loc S.length) rfl ⟨_,rfl,bY 0,Kx (by decide+kernel),c7 <| g9 (d:= .str (wd ws 1)) (ix (i:=1) (by omega) rfl) <| c7 <| g9 (d:= .lst ((ws.drop 2).map .str)) (kc (d:= .lst (ws.map .str)) (lo:=some ((2:Nat):Int)) (hi:=none) rfl (eL rfl) rfl ((pS (by rw[List.length_map];omega)).trans (by rw[List.map_drop]))) <| jv ?_⟩
       refine(xA DD hn (by omega) fun w hw=>Nat.le_trans (hww w (List.mem_of_mem_drop hw)) (by omega)).mono ?_ fun _ _ q=>q
       rintro v S1 ⟨rfl,q⟩;exact⟨trivial,q⟩
     | false=>
       rw[if_neg (by decide),if_neg (by decide)]
       have hrp:=StrLaws.reprText_len r hr.cps;refine p6 <| c7 <| g9 (d:= .str _) (ng (ss:=[Str.ofString "a row of no form: ",reprText r]) (g_ rfl (g_ (x:=reprText r) ?_ rfl)) ?_) <| jv ⟨by show 1<=sizeLine;omega,rfl,rfl⟩
       .show R.aS (decide ((reprText r).length<=sizeLine)) (R.ok (D.str (reprText r)))=_;exact bD _ (by omega)
       .show((Str.empty++Str.ofString "a row of no form: ")++reprText r).length<=_;rw[Str.length_append,Str.length_append];have:(Str.ofString "a row of no form: ").length<=100:=by decide+kernel
        show 0+_+_<=_;omega
theorem pl{v:V3}{n:Nat}:∀{fs:List (Str × V3)},fs.length < n->(t9 f v fs).length < n+1
 | [],h=>by show 1 < n+1;simp at h;omega
 | (g,x) ::r,h=>by
   unfold t9;split
   .simp at h ⊢;omega
   .have:=pl (f:=f) (v:=v) (n:=n - 1) (fs:=r) (by simp at h;omega)
    simp at h ⊢;omega
theorem Ff{Q:V3->aQ->Prop}(h:Q (.d .cH) (ij S d0)):W3 (cX [.loc S.length] (S++[.ins 0 []])) Q:=by
 unfold cX;refine NR rfl ?_;simp only[d4,eu,List.map,List.length,List.replicate,List.cons_append,List.nil_append,Nat.reduceAdd,Nat.reduceSub];unfold gb;have a0:∀{l:List SO},(S++l)[S.length]? =l[0]?:=fun {l}=>bY 0
 have ln:∀{l:List SO},(S++l).length=S.length+l.length:=fun {l}=>List.length_append
 refine dP <| jQ (k:=S.length) <| B6 (ds:=[]) rfl <| w_var (v:= .loc S.length) rfl ⟨[],rfl,by rw[List.append_assoc];exact a0,by decide,_,rfl,?_⟩
 rw[ln,List.append_assoc,show ∀x:SO,List.set (S++([.ins 0 []]++[.lst []])) S.length x=S++[x, .lst []] from fun x=>dQ (S:=S) (l:=[.ins 0 [], .lst []]) 0 x]
 refine dP <| jQ (k:=S.length) <| B6 (ds:=[]) rfl <| w_var (v:= .loc S.length) rfl ⟨_,rfl,by rw[List.append_assoc];exact a0,pl (by decide),_,rfl,?_⟩
 rw[ln,List.append_assoc];refine(show ∀{F:FZ} {δ:DE} {Q:Ou->aQ->Prop} {x y:aQ},x=y->W3 (F δ y) Q->W3 (F δ x) Q from fun e h=>by rw[e];exact h) (dQ (S:=S) (l:=[_, .lst [], .lst []]) 0 _) ?_
 show W3 (cA _ _ _ (S++[_,SO.lst [],SO.lst []])) _;refine dP <| jQ (k:=S.length) <| B6 (ds:=[]) rfl <| w_var (v:= .loc S.length) rfl ⟨_,rfl,by rw[List.append_assoc];exact a0,pl (pl (by decide)),_,rfl,?_⟩
 rw[ln,List.append_assoc];refine(show ∀{F:FZ} {δ:DE} {Q:Ou->aQ->Prop} {x y:aQ},x=y->W3 (F δ y) Q->W3 (F δ x) Q from fun e h=>by rw[e];exact h) (dQ (S:=S) (l:=[_, .lst [], .lst [], .lst []]) 0 _) ?_
 show W3 (cA _ _ _ (S++[_,SO.lst [],SO.lst [],SO.lst []])) _;refine dP <| jQ (k:=S.length) <| xC <| w_var (v:= .loc S.length) rfl ⟨_,rfl,by rw[List.append_assoc];exact a0,pl (pl (pl (by decide))),_,rfl,?_⟩
 rw[ln,List.append_assoc];refine(show ∀{F:FZ} {δ:DE} {Q:Ou->aQ->Prop} {x y:aQ},x=y->W3 (F δ y) Q->W3 (F δ x) Q from fun e h=>by rw[e];exact h) (dQ (S:=S) (l:=[_, .lst [], .lst [], .lst [], .dct []]) 0 _) ?_
 show W3 (cA _ _ _ (S++[_,SO.lst [],SO.lst [],SO.lst [],SO.dct []])) _;refine dP <| jQ (k:=S.length) <| xC <| w_var (v:= .loc S.length) rfl ⟨_,rfl,by rw[List.append_assoc];exact a0,pl (pl (pl (pl (by decide)))),_,rfl,?_⟩
 rw[ln,List.append_assoc];refine(show ∀{F:FZ} {δ:DE} {Q:Ou->aQ->Prop} {x y:aQ},x=y->W3 (F δ y) Q->W3 (F δ x) Q from fun e h=>by rw[e];exact h) (dQ (S:=S) (l:=[_, .lst [], .lst [], .lst [], .dct [], .dct []]) 0 _) ?_
 show W3 (tP _ _ _ _ _ (S++[_,SO.lst [],SO.lst [],SO.lst [],SO.dct [],SO.dct []])) _;refine jQ (k:=S.length) <| xC <| w_var (v:= .loc S.length) rfl ⟨_,rfl,by rw[List.append_assoc];exact a0,pl (pl (pl (pl (pl (by decide))))),_,rfl,?_⟩
 rw[ln,List.append_assoc];refine(show ∀{x y:aQ},x=y->Q (.d .cH) y->Q (.d .cH) x from fun e h=>by rw[e];exact h) (dQ (S:=S) (l:=[_, .lst [], .lst [], .lst [], .dct [], .dct [], .dct []]) 0 _) ?_
 exact h
end
end K08
end
section
namespace K08
open PySem PySem.Spec PyProof.Rows L2 L3 MT JT TX
theorem ql{c a:Nat}:∀{l:V_} {x:List Nat},x∈l->a∈x->a∈jn c l
 | [y],x,hx,ha=>by rw[List.mem_singleton.mp hx] at ha;exact ha
 | y ::z ::r,x,hx,ha=>by
   show a∈y++c ::jn c (z ::r);rcases List.mem_cons.mp hx with e | e
   .rw [e] at ha;exact List.mem_append_left _ ha
   .exact List.mem_append_right _ (List.mem_cons_of_mem _ (ql e ha))
theorem EF{n c:Nat}(h:Rw n x)(hp:p∈Txt.split x ⟨#[c]⟩):Rw n p:=by
 refine⟨Nat.le_trans (part_short hp) h.len,fun a ha=>h.cps a ?_⟩
 rw[<-StrLaws.join_split x ⟨#[c]⟩,jU];exact ql (List.mem_map_of_mem hp) ha
section
variable {S:aQ}
theorem E6{rs:List Str}(hr:∀r∈rs,Rw 1000000 r){d:Dr}(DD:lQ d){T:Str}{ws:List Str}{a3:Option V3}:WE (fY (tV 3) nO ((rs.map D.str).map V3.d) [some (.d (.str T)),some (.d (.lst (ws.map .str))),some (.loc S.length),a3] (ij S d)) (fun o S1=>∃d' b3,o= .nx [some (.d (.str T)),some (.d (.lst (ws.map .str))),some (.loc S.length),b3]/\f9 d rs= .ok d'/\lQ d'/\S1=ij S d') (fun c S1=>f9 d rs= .error c/\∃T,S1=S++T):=by
 induction rs generalizing d a3 with
 | nil=>exact .inl ⟨_,_,rfl,d,a3,rfl,rfl,DD,rfl⟩
 | cons r rs ih=>
   show WE ((nO [some (.d (.str T)),some (.d (.lst (ws.map .str))),some (.loc S.length),some (.d (.str r))] (ij S d)).bind _) _ _;refine WE.bind ?_;unfold nO;refine tS <| HE <| c7 <| w_var (v:= .loc S.length) rfl <| c7 <| g9 (d:= .str r) rfl <| jv <| (He DD (hr r List.mem_cons_self)).mono ?_ ?_
   .rintro v S1 ⟨rfl,d',h1,rfl⟩;have:=ih (fun x hx=>hr x (List.mem_cons_of_mem _ hx)) (Ex DD h1) (a3:=some (.d (.str r)))
    unfold f9;rw[h1];exact this
   .rintro c S1 ⟨h1,rfl⟩;unfold f9;rw[h1];exact⟨rfl,_,rfl⟩
theorem E4(ht:Rw 1000000 text):WE (eS [.d (.str text)] S) (fun v S1=>∃d,vF (Txt.split text NL)= .ok d/\lQ d/\v= .tup [.loc (S.length+1), .loc (S.length+2), .loc (S.length+3)]/\S1=ij S d) (fun c S1=>vF (Txt.split text NL)= .error c/\∃T,S1=S++T):=by
 have hz:sizeLine=16777216:=sizeLine_eq;have htl:=ht.len;unfold eS;refine JZ rfl ?_;simp only[d4,ud,List.map,List.length,List.replicate,List.cons_append,List.nil_append,Nat.reduceAdd,Nat.reduceSub];unfold wO;have hrl:(Txt.split text NL).length<=1000002:=Nat.le_trans (split_le text NL) (by omega)
 have hrr:∀r∈Txt.split text NL,Rw 1000000 r:=by rw[vz];exact fun r hr=>EF ht hr
 refine gY <| vB <| jl (by simp) <| g9 (d:= .lst ((Txt.split text NL).map .str)) (jq (x:=text) rfl (aq rfl rfl) (by rw[vz];exact vC (by omega))) ⟨_,rfl,?_⟩
 simp only[List.set];generalize Txt.split text NL=rs at hrl hrr;refine gY <| om <| Ag (b:=decide (80 < rs.length)) (du (a:=nI rs.length) (b:=nI 80) (ax (ds:=[.lst (rs.map .str)]) rfl (by rw[hX,List.length_map])) rfl (EM _ _)) ?_
 unfold vF;by_cases h1:80 < rs.length
 .rw [decide_eq_true h1,if_pos rfl,if_pos h1];exact p6 <| c7 <| g9 (d:= .str _) rfl <| jv ⟨by show 1<=sizeLine;omega,rfl,[],by simp⟩
 .rw [decide_eq_false h1,if_neg (by decide),if_neg h1]
  refine k6 ⟨_,rfl,?_⟩;refine gY <| vB <| jl (by simp) <| JD <| jv <| Ff ⟨rfl,_,rfl,?_⟩
  simp only[List.set];refine gY <| GQ <| xS (ds:=rs.map .str) (eZ rfl) ?_
  refine(E6 hrr LL).mono ?_ ?_
  .rintro o S1 ⟨d,b3,rfl,h2,DD,rfl⟩;refine⟨_,rfl,?_⟩;rw[h2];have key:W3 (LF (CC (lj (eI 0 (Str.ofString "ins") (cG 2)))) (CC (lj (eI 0 (Str.ofString "outs") (cG 2)))) [some (.d (.str text)),some (.d (.lst (rs.map .str))),some (.loc S.length),b3] (ij S d)) fun b S1=>b=decide (d.ins=[]\/d.os=[])/\S1=ij S d:=by
    refine W3.bind (W3.bind (qj <| h_ (i:=0) rfl (by decide+kernel) ⟨_,_,rfl,GU,W3.ok ?_⟩))
    rw[qU d.ins];by_cases hi:d.ins=[]
    .rw [decide_eq_false (fun q=>q hi),decide_eq_true (.inl hi)]
     exact W3.ok ⟨rfl,rfl⟩
    .rw [decide_eq_true hi,show(!true)=false from rfl,if_neg (by decide)]
     refine W3.bind (qj <| h_ (i:=2) rfl (by decide+kernel) ⟨_,_,rfl,yY,W3.ok ?_⟩)
     rw[qU d.os];refine⟨?_,rfl⟩;by_cases ho:d.os=[]
     .rw [decide_eq_false (fun q=>q ho),decide_eq_true (.inr ho)];rfl
     .rw [decide_eq_true ho,decide_eq_false fun q=>q.elim hi ho];rfl
   refine gY <| om <| key.mono ?_
   rintro b S1 ⟨rfl,rfl⟩;simp only;by_cases h3:d.ins=[]\/d.os=[]
   .rw [decide_eq_true h3,if_pos rfl,if_pos h3];exact p6 <| c7 <| g9 (d:= .str _) rfl <| jv ⟨by show 1<=sizeLine;omega,rfl,_,rfl⟩
   .rw [decide_eq_false h3,if_neg (by decide),if_neg h3]
    refine k6 ⟨_,rfl,?_⟩;exact vB <| yJ <| LR <| c7 <| h_ (i:=0) rfl (by decide+kernel) <| c7 <| h_ (i:=1) rfl (by decide+kernel) <| c7 <| h_ (i:=2) rfl (by decide+kernel) <| jv ⟨by show 3<=sizeLine;omega,d,rfl,DD,rfl,rfl⟩
  .rintro c S1 ⟨h2,q⟩;rw[h2];exact⟨rfl,q⟩
end
end K08
end
section
set_option maxHeartbeats 4000000
namespace K08
open PySem PySem.Spec PyProof.Rows L2 L3 MT JT
def stir(cell k:Int):Int:=if 10 ^ 18<=cell then(cell - 10 ^ 18) / 2 ^ (28*k).toNat % 2 ^ 28
 else((cell+1013*k+1)*16807 % 2147483647)*((cell+1013*k+1)*16807 % 2147483647) % 2147483629*39373 % 2147483587 / 8
theorem EZ(cell k:Int)(hk:0<=k):bj [.int cell, .int k]= .ok (.int (stir cell k)):=by
 have p1:∀δ,e2 zJ (eC (.int 10)) (eC (.int 18)) δ= .ok (.int (10 ^ 18)):=fun δ=>rfl
 have p2:∀δ,e2 zJ (eC (.int 2)) (eC (.int 28)) δ= .ok (.int (2 ^ 28)):=fun δ=>rfl
 have ge:∀a b:Int,JF (.int a) (.int b)= .ok (.bl (decide (a>=b))):=fun a b=>rfl
 have mulc:∀(a b:Int),(-(2 ^ 64) < b/\b < 2 ^ 64)->mv (.int a) (.int b)= .ok (.int (a*b)):=fun a b h=>by
  show R.aS (decide _) (R.ok (D.int (a*b)))=_;exact bD _ (.inr h)
 have mulc':∀(a b:Int),(-(2 ^ 64) < a/\a < 2 ^ 64)->mv (.int a) (.int b)= .ok (.int (a*b)):=fun a b h=>by
  show R.aS (decide _) (R.ok (D.int (a*b)))=_;exact bD _ (.inl h)
 unfold bj qE stir;by_cases h:(10:Int) ^ 18<=cell
 .rw [if_pos h];refine dz (NT.pY (pz (du (a:= .int cell) (b:= .int (10 ^ 18)) rfl (p1 _) ((ge _ _).trans (by rw[decide_eq_true h]))) (cJ (aw (a:= .int ((cell - 10 ^ 18) / 2 ^ (28*k).toNat)) (b:= .int (2 ^ 28)) (aw (a:= .int (cell - 10 ^ 18)) (b:= .int (28*k)) (aw (a:= .int cell) (b:= .int (10 ^ 18)) rfl (p1 _) rfl) (aw (a:= .int 28) (b:= .int k) rfl rfl (mulc' _ _ ⟨by omega,by omega⟩)) ?_) (p2 _) (qW (by omega))))))
  show R.aS (decide ((0:Int)<=28*k)) (R.ok (D.int ((cell - 10 ^ 18) / 2 ^ (28*k).toNat)))=_;exact bD _ (by omega)
 .rw [if_neg h];refine dz (aE (pq (du (a:= .int cell) (b:= .int (10 ^ 18)) rfl (p1 _) ((ge _ _).trans (by rw[decide_eq_false h]))) rfl) (aE (bp (d:= .int ((cell+1013*k+1)*16807 % 2147483647)) (aw (a:= .int ((cell+1013*k+1)*16807)) (b:= .int 2147483647) (aw (a:= .int (cell+1013*k+1)) (b:= .int 16807) (aw (a:= .int (cell+1013*k)) (b:= .int 1) (aw (a:= .int cell) (b:= .int (1013*k)) rfl (aw (a:= .int 1013) (b:= .int k) rfl rfl (mulc' _ _ ⟨by omega,by omega⟩)) rfl) rfl rfl) rfl (mulc _ _ ⟨by omega,by omega⟩)) rfl (qW (by omega))) (by simp [bZ,ku])) ?_))
  have b1:0<=(cell+1013*k+1)*16807 % 2147483647:=Int.emod_nonneg _ (by omega)
  have Ox:(cell+1013*k+1)*16807 % 2147483647 < 2147483647:=Int.emod_lt_of_pos _ (by omega)
  generalize (cell+1013*k+1)*16807 % 2147483647=x at b1 Ox;refine aE (bp (d:= .int (x*x % 2147483629)) (aw (a:= .int (x*x)) (b:= .int 2147483629) (aw (a:= .int x) (b:= .int x) rfl rfl (mulc _ _ ⟨by omega,by omega⟩)) rfl (qW (by omega))) (by simp [bZ,ku])) (cJ ?_)
  exact aw (a:= .int (x*x % 2147483629*39373 % 2147483587)) (b:= .int 8) (aw (a:= .int (x*x % 2147483629*39373)) (b:= .int 2147483587) (aw (a:= .int (x*x % 2147483629)) (b:= .int 39373) rfl rfl (mulc _ _ ⟨by omega,by omega⟩)) rfl (qW (by omega))) rfl (yE (by omega) (by omega))
theorem F1(cell k:Int):0<=stir cell k:=by
 unfold stir;split <;> omega
def stN(cell:Int)(k:Nat):Nat:=(stir cell k).toNat
theorem o7(cell:Int)(k:Nat):bj [.int cell,nI k]= .ok (nI (stN cell k)):=by
 show bj [.int cell, .int k]=_;rw[EZ cell k (by omega)]
 unfold nI stN;rw[Int.toNat_of_nonneg (F1 _ _)]
end K08
end
section
set_option maxHeartbeats 1000000
namespace K08
open PySem PySem.Spec PyProof.Rows L2 L3 MT JT
theorem ze(ns:List Int)(k:Nat):dJ [.lst (ns.map .int),nI k]= .ok (.int (ns.getD k 0)):=by
 unfold dJ mB;by_cases h:k < ns.length
 .refine dz (NT.pY (pz (du (a:=nI k) (b:=nI ns.length) rfl (ax (ds:=[.lst (ns.map .int)]) rfl (by rw[LN,List.length_map];rfl)) (by rw[B4,decide_eq_true h])) (cJ (aw (a:= .lst (ns.map .int)) (b:=nI k) rfl rfl (NT.cK ?_)))))
  rw[List.getElem?_map,List.getD_eq_getElem?_getD,List.getElem?_eq_getElem h];rfl
 .refine dz (aE (pq (du (a:=nI k) (b:=nI ns.length) rfl (ax (ds:=[.lst (ns.map .int)]) rfl (by rw[LN,List.length_map];rfl)) (by rw[B4,decide_eq_false h])) rfl) (cJ ?_))
  rw[List.getD_eq_getElem?_getD,List.getElem?_eq_none (by omega)]
  rfl
end K08
end
section
namespace K08
open PySem PySem.Spec PyProof.Rows L2 L3 MT JT TX
abbrev eP(head:Int)(k m:Nat)(ss:List Str)(a b c e:Sl):ao:=[.val (.int head), .val (nI k), .val (nI m), .val (.str wL), .val (.lst (oW.map .str)), .bld (ss.map .str),a,b,c,e]
section
variable {head:Int} {k m:Nat} {ss:List Str}
theorem Ba{a b c e:Sl}:cR 9 (eNew (di (fu (eC (.int 80))) (aH 0) mn (e2 cj (e2 cj (eC (.str (Str.ofString "zz"))) (e2 dC (af 1) (e2 dF (af 0) (eC (.int 26))))) (e2 dC (af 1) (e2 dO (af 0) (eC (.int 26))))) [(Str.ofString "n")] [3])) (eP head k m ss a b c e)= .ok (.nx (eP head k m ss a b c (.val (.lst (yw.map .str))))):=by
 have hz:sizeLine=16777216:=sizeLine_eq;refine bp (δ:=eP head k m ss a b c e) (b6 (ee (ds:=(List.range 80).map nI) (qb (n:=80) rfl (by omega)) (by simp;omega) ?_)) (by show 9 < 10;omega)
 rw[show yw.map D.str=(List.range 80).map fun n=>D.str ⟨#[122,122,97+n / 26,97+n % 26]⟩ from List.map_map]
 refine NT.c6 nI _ fun n hn=>⟨[.val (nI n), .val (.str wL)],rfl,rfl,?_⟩
 have hn:=List.mem_range.mp hn;have l1:(Str.ofString "zz").length=2:=by decide+kernel
 refine(aw (a:= .str (Str.ofString "zz"++iI (n / 26))) (b:= .str (iI (n % 26))) (aw (a:= .str (Str.ofString "zz")) (b:= .str (iI (n / 26))) rfl (aw (a:= .str wL) (b:=nI (n / 26)) rfl (aw (a:=nI n) (b:=nI 26) rfl rfl (nB (by omega) (by omega))) (p8 (by omega))) (l7 (by rw[l1];show 2+1<=_;omega))) (aw (a:= .str wL) (b:=nI (n % 26)) rfl (aw (a:=nI n) (b:=nI 26) rfl rfl (f7 (by omega))) (p8 (by omega))) (l7 (by rw[Str.length_append,l1];show 2+1+1<=_;omega))).trans ?_
 rw[HQ]
theorem Ea{a b c:Sl}(h:ss.length < 80):∃w,w∈yw/\w ∉ ss/\cR 8 (lr (e2 dC (eNew (di (dk (af 9)) (aH 0) (b2 jB (af 0) (af 1)) (af 0) [(Str.ofString "one")] [5])) (eC (.int 0)))) (eP head k m ss a b c (.val (.lst (yw.map .str))))= .ok (.nx (eP head k m ss a b (.val (.str w)) (.val (.lst (yw.map .str))))):=by
 have hz:sizeLine=16777216:=sizeLine_eq;obtain⟨w,hw,hm,hn⟩:=vg Hm (ss:=ss) (by unfold yw;simp;exact h)
 refine⟨w,hm,hn,bp (δ:=eP head k m ss a b c (.val (.lst (yw.map .str)))) (n6 (aw (a:= .lst ((yw.filter fun s=>!ss.contains s).map .str)) (b:= .int (0:Nat)) (b6 (ee (ds:=yw.map .str) ?_ (by unfold yw;simp;omega) ?_)) rfl (NT.cK (by rw[List.getElem?_map,hw];rfl))) rfl) (by show 8 < 10;omega)⟩
 .refine eZ ?_;cases a <;> cases b <;> cases c <;> rfl
 .rw [show oR [(Str.ofString "one")] [5] (mr (eP head k m ss a b c (.val (.lst (yw.map .str)))))=[.un, .val (.lst (ss.map .str))] by cases a <;> cases b <;> cases c <;> rfl]
  exact NT.m6 (fun s=>!ss.contains s) D.str D.str fun s hs=>⟨[.val (.str s), .val (.lst (ss.map .str))],rfl,du (a:= .str s) (b:= .lst (ss.map .str)) rfl rfl (wD _ _),fun _=>rfl⟩
theorem Cv{a b e:Sl}(h:ss.length < 80):nK 5 (af 8) (eP head k m ss a b (.val (.str w)) e)= .ok (.nx (eP head k m (ss++[w]) a b (.val (.str w)) e)):=by
 have hz:sizeLine=16777216:=sizeLine_eq;rw[iq (d:= .str w) (ds:=ss.map .str) rfl rfl (by rw[List.length_map,hz];omega)]
 show R.ok (Out.nx (_ ::_ ::_ ::_ ::_ ::Sl.bld (ss.map D.str++[.str w]) ::_))=_;rw[show ss.map D.str++[.str w]=(ss++[w]).map .str by simp]
theorem zR{j:Nat}{b c e:Sl}(h:ss.length < 80)(hs:∀s∈ss,isNm s=true):∃w b' c' e',isNm w=true/\w ∉ ss/\gC (eP head k m ss (.val (nI j)) b c e)= .ok (.nx (eP head k m (ss++[w]) (.val (nI j)) b' c' e')):=by
 have hz:sizeLine=16777216:=sizeLine_eq;unfold gC;obtain⟨r,hr⟩:∃r,stN head (k+j)=r:=⟨_,rfl⟩;have s1:cR 7 (aL bj (ai (af 0) (ai (e2 cj (af 1) (af 6)) aJ))) (eP head k m ss (.val (nI j)) b c e)= .ok (.nx (eP head k m ss (.val (nI j)) (.val (nI r)) c e)):=
  bp (δ:=eP head k m ss (.val (nI j)) b c e) ((ax (ds:=[.int head,nI (k+j)]) (aq rfl (aq (aw (a:=nI k) (b:=nI j) rfl rfl (kJ _ _)) rfl)) (o7 head (k+j))).trans (by rw[hr])) (by show 7 < 10;omega)
 have g1:=yf (i:=r % 26) (by omega)
 have g2:=yf (i:=r / 26 % 26) (by omega)
 have g3:=Nc (r:=r / 700 % 7) (by omega)
 have gj:=KH g1 g2 g3;have lx:(Str.ofString "x").length=1:=by decide+kernel
 have s2:∀c,cR 8 (rq "str" eR (eC (.str (Str.ofString ""))) (ai (eNew (eO (ai (e2 dC (af 3) (e2 dO (af 7) (eC (.int 26)))) (ai (e2 dC (af 3) (e2 dO (e2 dF (af 7) (eC (.int 26))) (eC (.int 26)))) (ai (e2 mv (eC (.str (Str.ofString "x"))) (e2 dO (e2 dF (af 7) (eC (.int 700))) (eC (.int 7)))) aJ))))) aJ)) (eP head k m ss (.val (nI j)) (.val (nI r)) c e)= .ok (.nx (eP head k m ss (.val (nI j)) (.val (nI r)) (.val (.str (Str.join (Str.ofString "") [iI (r % 26),iI (r / 26 % 26),Txt.mul (Str.ofString "x") (r / 700 % 7:Nat)]))) e)):=fun c=>by
  refine bp (δ:=eP head k m ss (.val (nI j)) (.val (nI r)) c e) (jq (x:=Str.ofString "") rfl (aq (b6 (cN (ds:=[iI (r % 26),iI (r / 26 % 26),Txt.mul (Str.ofString "x") (r / 700 % 7:Nat)].map .str) (aq ?_ (aq ?_ (aq ?_ rfl))) (by show 3<=sizeLine;omega))) rfl) (ug ?_)) (by show 8 < 10;omega)
  .exact aw (a:= .str wL) (b:=nI (r % 26)) rfl (aw (a:=nI r) (b:=nI 26) rfl rfl (f7 (by omega))) (p8 (by omega))
  .exact aw (a:= .str wL) (b:=nI (r / 26 % 26)) rfl (aw (a:=nI (r / 26)) (b:=nI 26) (aw (a:=nI r) (b:=nI 26) rfl rfl (nB (by omega) (by omega))) rfl (f7 (by omega))) (p8 (by omega))
  .exact aw (a:= .str (Str.ofString "x")) (b:=nI (r / 700 % 7)) rfl (aw (a:=nI (r / 700)) (b:=nI 7) (aw (a:=nI r) (b:=nI 700) rfl rfl (nB (by omega) (by omega))) rfl (f7 (by omega))) (F3 (by omega) (by omega) (by rw[lx];omega))
  .have l1:=g1.len;have l2:=g2.len;have l3:=g3.len;have l4:(Str.ofString "").length=0:=by decide+kernel
   simp only[List.map_cons,List.map_nil,List.sum_cons,List.sum_nil,List.length_cons,List.length_nil,l4];omega
 generalize Str.join (Str.ofString "") [iI (r % 26),iI (r / 26 % 26),Txt.mul (Str.ofString "x") (r / 700 % 7:Nat)]=w0 at gj s2;have gj:=gj.len |> fun _=>gj
 have l0:=gj.len;have s3:cR 8 (wc (af 8) (g6 (e2 dO (e2 dF (af 7) (eC (.int 5000))) (eC (.int 2)))) jK) (eP head k m ss (.val (nI j)) (.val (nI r)) (.val (.str w0)) e)= .ok (.nx (eP head k m ss (.val (nI j)) (.val (nI r)) (.val (.str (Txt.slice w0 (some (r / 5000 % 2:Nat)) none))) e)):=
  bp (δ:=eP head k m ss (.val (nI j)) (.val (nI r)) _ e) (kc (d:= .str w0) (lo:=some ((r / 5000 % 2:Nat):Int)) (hi:=none) rfl (eL (aw (a:=nI (r / 5000)) (b:=nI 2) (aw (a:=nI r) (b:=nI 5000) rfl rfl (nB (by omega) (by omega))) rfl (f7 (by omega)))) rfl (CN (by omega))) (by show 8 < 10;omega)
 have g4:Lw 8 (Txt.slice w0 (some (r / 5000 % 2:Nat)) none):=gj.slice _ _;generalize Txt.slice w0 (some (r / 5000 % 2:Nat)) none=w1 at g4 s3;have s4:∃w2,Lw 8 w2/\sv (tf (b2 rL (e2 dO (e2 dF (af 7) (eC (.int 10000))) (eC (.int 4))) (eC (.int 0))) (mG (b2 zO (af 5) (eNew (eO aJ))))) (cR 8 (wc (e2 cj (lr (e2 dC (af 5) (e2 dO (e2 dF (af 7) (eC (.int 40000))) (aL jO (ai (af 5) aJ))))) (af 8)) jK (g6 (eC (.int 8))))) mq (eP head k m ss (.val (nI j)) (.val (nI r)) (.val (.str w1)) e)= .ok (.nx (eP head k m ss (.val (nI j)) (.val (nI r)) (.val (.str w2)) e)):=by
  have t5:af 5 (mr (eP head k m ss (.val (nI j)) (.val (nI r)) (.val (.str w1)) e))= .ok (.lst (ss.map .str)):=by cases e <;> rfl
  have t7:af 7 (mr (eP head k m ss (.val (nI j)) (.val (nI r)) (.val (.str w1)) e))= .ok (nI r):=by cases e <;> rfl
  have q:tf (b2 rL (e2 dO (e2 dF (af 7) (eC (.int 10000))) (eC (.int 4))) (eC (.int 0))) (mG (b2 zO (af 5) (eNew (eO aJ)))) (eP head k m ss (.val (nI j)) (.val (nI r)) (.val (.str w1)) e)= .ok (decide (r / 10000 % 4=0) && !ss.isEmpty):=
   za (du (a:=nI (r / 10000 % 4)) (b:=nI 0) (aw (a:=nI (r / 10000)) (b:=nI 4) (aw (a:=nI r) (b:=nI 10000) rfl rfl (nB (by omega) (by omega))) rfl (f7 (by omega))) rfl (vG _ _)) fun _=>du (a:= .lst (ss.map .str)) (b:= .lst []) t5 (b6 rfl) (FL fun s JS=>Kq (GG (hs s JS)))
  cases hb:(decide (r / 10000 % 4=0) && !ss.isEmpty) with
  | false=>rw [hb] at q;exact⟨w1,g4,pq q rfl⟩
  | true=>
    rw[hb] at q;have p_:0 < ss.length:=by
     cases ss with
     | nil=>simp at hb
     | cons=>simp
    have hi:r / 40000 % ss.length < ss.length:=Nat.mod_lt _ p_;obtain⟨z,DQ⟩:∃z,ss[r / 40000 % ss.length]? =some z:=⟨_,List.getElem?_eq_getElem hi⟩;have gz:=GG (hs z (List.mem_of_getElem? DQ));have lz:=gz.len;have l1:=g4.len;refine⟨Txt.slice (z++w1) none (some 8),⟨HG _,((gz.app g4).slice none (some 8)).low⟩,pz q (bp (δ:=eP head k m ss (.val (nI j)) (.val (nI r)) (.val (.str w1)) e) (kc (d:= .str (z++w1)) (lo:=none) (hi:=some 8) (aw (a:= .str z) (b:= .str w1) (n6 (aw (a:= .lst (ss.map .str)) (b:=nI (r / 40000 % ss.length)) t5 (aw (a:=nI (r / 40000)) (b:=nI ss.length) (aw (a:=nI r) (b:=nI 40000) t7 rfl (nB (by omega) (by omega))) (ax (ds:=[.lst (ss.map .str)]) (aq t5 rfl) (by rw[hX,List.length_map])) (f7 p_)) (NT.cK (by rw[List.getElem?_map,DQ];rfl))) rfl) rfl (l7 (by omega))) rfl (eL rfl) (CN (by rw[Str.length_append];omega))) (by show 8 < 10;omega))⟩
 obtain⟨w2,g5,s4⟩:=s4;have q2:zp (b2 rL (af 8) (eC (.str (Str.ofString "")))) (zp (mG (b2 yi (af 8) (af 5))) (b2 yi (af 8) (af 4))) (eP head k m ss (.val (nI j)) (.val (nI r)) (.val (.str w2)) e)= .ok ((w2==Str.ofString "") || (ss.contains w2 || oW.contains w2)):=
  kU (du (a:= .str w2) (b:= .str (Str.ofString "")) rfl rfl (tM _ _)) fun _=>kU (du (a:= .str w2) (b:= .lst (ss.map .str)) (by cases e <;> rfl) (by cases e <;> rfl) (wY _ _)) fun _=>du (a:= .str w2) (b:= .lst (oW.map .str)) rfl rfl (wY _ _)
 cases hb:((w2==Str.ofString "") || (ss.contains w2 || oW.contains w2)) with
 | true=>
   rw[hb] at q2;obtain⟨w,UR,UB,sp⟩:=Ea (head:=head) (k:=k) (m:=m) (ss:=ss) (a:= .val (nI j)) (b:= .val (nI r)) (c:= .val (.str w2)) h;exact⟨w,_,_,_,Hh w UR,UB,aE s1 (aE (s2 c) (aE s3 (aE s4 (aE (pz q2 (aE Ba sp)) (Cv h)))))⟩
 | false=>
   rw[hb] at q2;obtain⟨b1,Ox⟩:=Bool.or_eq_false_iff.mp hb;obtain⟨b3,b4⟩:=Bool.or_eq_false_iff.mp Ox;refine⟨w2,_,_,_,g5.nm (fun q=>?_) (fun q=>?_),fun q=>?_,aE s1 (aE (s2 c) (aE s3 (aE s4 (aE (pq q2 rfl) (Cv h)))))⟩
   .rw [q] at b1;exact absurd b1 (by decide+kernel)
   .rw [List.contains_iff_mem.mpr q] at b4;cases b4
   .rw [List.contains_iff_mem.mpr q] at b3;cases b3
end
theorem nT(head:Int)(k m:Nat)(hm:m<=80):∃ss:List Str,c0 [.int head,nI k,nI m]= .ok (.lst (ss.map .str))/\ss.length=m/\ss.Nodup/\∀s∈ss,isNm s=true:=by
 have hz:sizeLine=16777216:=sizeLine_eq;obtain⟨c5,h1,ss,a,b,c,e,hδ,hlen,hnd,hg⟩:=eB (t:=aH 6) (body:=gC) (ds:=(List.range m).map nI) (fun i δ=>∃ss a b c e,δ=eP head k m ss a b c e/\ss.length=i/\ss.Nodup/\∀s∈ss,isNm s=true)
  (δ:=eP head k m [] .un .un .un .un) ⟨[],_,_,_,_,rfl,rfl,List.nodup_nil,by simp⟩ (by
    rintro i d δ hd ⟨ss,a,b,c,e,rfl,hl,hnd,hg⟩;obtain⟨j,hj,rfl⟩:=NT.iu hd;obtain⟨hjl,ej⟩:=List.getElem?_eq_some_iff.mp hj;rw[List.length_range] at hjl;obtain⟨w,b',c',e',Vf,UY,hs⟩:=zR (head:=head) (k:=k) (m:=m) (ss:=ss) (j:=j) (b:=b) (c:=c) (e:=e) (by omega) hg
    refine⟨eP head k m (ss++[w]) (.val (nI j)) b' c' e',?_,ss++[w],_,_,_,_,rfl,by simp [hl],?_,fun s JS=>?_⟩
    .rw [show aH 6 (nI j) (eP head k m ss a b c e)= .ok (eP head k m ss (.val (nI j)) b c e) from rfl,R.aI]
     exact hs
    .exact List.nodup_append.mpr ⟨hnd,by simp,fun x hx y hy q=>UY (by rw[List.mem_singleton.mp hy] at q;rw [<-q];exact hx)⟩
    .rcases List.mem_append.mp JS with z | z
     .exact hg s z
     .rw [List.mem_singleton.mp z];exact Vf)
 rw[List.length_map,List.length_range] at hlen;refine⟨ss,?_,hlen,hnd,hg⟩;unfold c0 pf;refine dz (aE (bp (d:= .str wL) rfl (by simp [bZ,dZ])) (aE (bp (d:= .lst (oW.map .str)) (b6 (cN (ds:=oW.map .str) rfl (by show 9<=sizeLine;omega))) (by simp [bZ,dZ])) (aE (jr (ds:=[]) (cN rfl (by show 0<=sizeLine;omega)) (by simp [bZ,dZ])) (aE (iy (ds:=(List.range m).map nI) (qb (n:=m) rfl (by omega)) h1) ?_))))
 subst hδ;exact cJ rfl
end K08
end
section
namespace K08
open PySem PySem.Spec PyProof.Rows L2 L3 MT JT TX
theorem vc(cell:Int)(k m count:Nat)(hc:0 < count)(hm:m<=1000):∃l:List Nat,dU [.int cell,nI k,nI m,nI count]= .ok (.tup (l.map nI))/\l.length=m/\∀w∈l,w < count:=by
 have hz:sizeLine=16777216:=sizeLine_eq;obtain⟨c5,h1,l,a,b,hδ,hlen,hg⟩:=eB (t:=aH 5) (body:=jy) (ds:=(List.range m).map nI) (fun i δ=>∃(l:List Nat) (a b:Sl),δ=[.val (.int cell), .val (nI k), .val (nI m), .val (nI count), .bld (l.map nI),a,b]/\l.length=i/\∀w∈l,w < count)
  (δ:=[.val (.int cell), .val (nI k), .val (nI m), .val (nI count), .bld [], .un, .un]) ⟨[],_,_,rfl,rfl,by simp⟩ (by
    rintro i d δ hd ⟨l,a,b,rfl,hl,hg⟩;obtain⟨j,hj,rfl⟩:=NT.iu hd;obtain⟨hjl,ej⟩:=List.getElem?_eq_some_iff.mp hj;rw[List.length_range] at hjl;obtain⟨r,hr⟩:∃r,stN cell (k+j)=r:=⟨_,rfl⟩;have hmn:0 < min count 6:=by omega
    obtain⟨w,hw,hlt⟩:∃w,w=(if 0 < r % 4 then count - 1 - r / 4 % min count 6 else r / 4 % count)/\w < count:=⟨_,rfl,by
     have:=Nat.mod_lt (r / 4) hc;split <;> omega⟩
    refine⟨[.val (.int cell), .val (nI k), .val (nI m), .val (nI count), .bld ((l++[w]).map nI), .val (nI j), .val (nI r)],?_,l++[w],_,_,rfl,by simp [hl],fun y hy=>?_⟩
    .rw [show aH 5 (nI j) [.val (.int cell), .val (nI k), .val (nI m), .val (nI count), .bld (l.map nI),a,b]= .ok [.val (.int cell), .val (nI k), .val (nI m), .val (nI count), .bld (l.map nI), .val (nI j),b] from rfl,R.aI]
     unfold jy;refine aE (bp (d:=nI r) ((ax (ds:=[.int cell,nI (k+j)]) (aq rfl (aq (aw (a:=nI k) (b:=nI j) rfl rfl (kJ _ _)) rfl)) (o7 cell (k+j))).trans (by rw[hr])) (by simp)) ?_
     have e4:∀δ:ao,af 6 δ= .ok (nI r)->e2 dF (af 6) (eC (.int 4)) δ= .ok (nI (r / 4)):=fun δ h=>aw (a:=nI r) (b:=nI 4) h rfl (nB (by omega) (by omega))
     have hlt2:=Nat.mod_lt (r / 4) hmn;refine(iq (d:=nI w) (ds:=l.map nI) (aw (a:= .lst [nI (r / 4 % count),nI (count - 1 - r / 4 % min count 6)]) (b:= .int (if 0 < r % 4 then 1 else 0)) (b6 (cN (ds:=[nI (r / 4 % count),nI (count - 1 - r / 4 % min count 6)]) (aq (aw (a:=nI (r / 4)) (b:=nI count) (e4 _ rfl) rfl (f7 hc)) (aq (aw (a:=nI (count - 1)) (b:=nI (r / 4 % min count 6)) (aw (a:=nI count) (b:=nI 1) rfl rfl (Bt (by omega))) (aw (a:=nI (r / 4)) (b:=nI (min count 6)) (e4 _ rfl) (ax (ds:=[nI count,nI 6]) rfl Lk) (f7 hmn)) (Bt (by omega))) rfl)) (by show 2<=sizeLine;omega))) (ax (ds:=[.bl (decide (0 < r % 4))]) (aq (aw (a:=nI (r % 4)) (b:=nI 0) (aw (a:=nI r) (b:=nI 4) rfl rfl (f7 (by omega))) rfl (EM _ _)) rfl) (by by_cases q:0 < r % 4 <;> simp [q] <;> rfl)) ?_) rfl (by rw[List.length_map];omega)).trans ?_
     .by_cases q:0 < r % 4
      .rw [if_pos q] at hw ⊢;rw[hw];exact NT.cK (z:=1) rfl
      .rw [if_neg q] at hw ⊢;rw[hw];exact NT.cK (z:=0) rfl
     .rw [show l.map nI++[nI w]=(l++[w]).map nI by simp];rfl
    .rcases List.mem_append.mp hy with z | z
     .exact hg y z
     .rw [List.mem_singleton.mp z];exact hlt)
 rw[List.length_map,List.length_range] at hlen;refine⟨l,?_,hlen,hg⟩;unfold dU o9;refine dz (aE (jr (ds:=[]) (cN rfl (by show 0<=sizeLine;omega)) (by simp [bZ,lA])) (aE (iy (ds:=(List.range m).map nI) (qb (n:=m) rfl (by omega)) h1) ?_))
 subst hδ;exact cJ (ax (ds:=[.lst (l.map nI)]) rfl rfl)
def DH(r:Nat):Nat:=[1,2,3,4,0,1,3,4].getD (r % 8) 0
theorem D1(cell:Int)(count:Nat)(hc:0 < count):∃g:Gt,iL [.int cell,nI count]= .ok (eE g)/\Fv count g:=by
 have hz:sizeLine=16777216:=sizeLine_eq;obtain⟨r,hr⟩:∃r,stN cell 0=r:=⟨_,rfl⟩;have hk:DH r<=4:=by
  have:r % 8 < 8:=Nat.mod_lt _ (by omega)
  unfold DH;generalize r % 8=m at this
  match m,this with
  | 0,_=>decide
  | 1,_=>decide
  | 2,_=>decide
  | 3,_=>decide
  | 4,_=>decide
  | 5,_=>decide
  | 6,_=>decide
  | 7,_=>decide
 have ha:=yg (DH r);obtain⟨l,hl,hll,hlw⟩:=vc cell 1 (ar (DH r)) count hc (by omega)
 refine⟨(DH r,l,decide (r / 8 % 4=0)),?_,hk,hll,hlw⟩;unfold iL q9;refine dz (aE (bp (d:=nI r) ((ax (ds:=[.int cell,nI 0]) rfl (o7 cell 0)).trans (by rw[hr])) (by simp [bZ,iY])) (aE (bp (d:= .str (kS (DH r))) ?_ (by simp [bZ,iY])) (aE (bp (d:=nI (ar (DH r))) (KI hk rfl) (by simp [bZ,iY])) (cJ (dc (ds:=[.str (kS (DH r)), .tup (l.map nI), .bl (decide (r / 8 % 4=0))]) (aq rfl (aq (ax (ds:=[.int cell,nI 1,nI (ar (DH r)),nI count]) rfl hl) (aq (aw (a:=nI (r / 8 % 4)) (b:=nI 0) (aw (a:=nI (r / 8)) (b:=nI 4) (aw (a:=nI r) (b:=nI 8) rfl rfl (nB (by omega) (by omega))) rfl (f7 (by omega))) rfl (vG _ _)) rfl))) (by show 3<=sizeLine;omega))))))
 refine aw (a:= .lst [.str (kS 1), .str (kS 2), .str (kS 3), .str (kS 4), .str (kS 0), .str (kS 1), .str (kS 3), .str (kS 4)]) (b:=nI (r % 8)) rfl (aw (a:=nI r) (b:=nI 8) rfl rfl (f7 (by omega))) (NT.cK ?_)
 have:r % 8 < 8:=Nat.mod_lt _ (by omega)
 unfold DH;generalize r % 8=m at this
 match m,this with
 | 0,_=>rfl
 | 1,_=>rfl
 | 2,_=>rfl
 | 3,_=>rfl
 | 4,_=>rfl
 | 5,_=>rfl
 | 6,_=>rfl
 | 7,_=>rfl
theorem DW{ins:V8}(h1:1<=ins.length)(h:∀x∈ins,1<=x.2/\x.2<=3):1<=ji ins/\ji ins<=3*ins.length:=by
 have:=NT.uq h;unfold ji;omega
theorem Gf:∀ns:List Nat,(ns.map fun(n:Nat)=>(n:Int)).sum=((ns.sum:Nat):Int)
 | []=>rfl
 | n ::ns=>by rw[List.map_cons,List.sum_cons,List.sum_cons,Gf ns];omega
theorem HM(ns:List Nat):vm [.lst (ns.map nI)]= .ok (nI ns.sum):=by
 rw[show ns.map nI=(ns.map fun(n:Nat)=>(n:Int)).map D.int by rw[List.map_map];rfl]
 show(match ints? ((ns.map fun(n:Nat)=>(n:Int)).map D.int) with | some ns=>R.ok (D.int ns.sum) | none=> .no)=_
 rw[L2.ints_map];show R.ok (D.int (ns.map fun(n:Nat)=>(n:Int)).sum)=_
 rw[Gf];rfl
theorem DV{ins:V8}(h:ins.length<=1000){δ:ao}{i:Nat}(hv:af i δ= .ok (.lst (ins.map MT.inD))):aL vm (ai (eNew (di (dk (af i)) (fL 2 (bh (aH 0) (bh (aH 1) fH))) mn (af 1) [(Str.ofString "name"),(Str.ofString "width")] [])) aJ) δ= .ok (nI (ji ins)):=by
 have hz:sizeLine=16777216:=sizeLine_eq;refine ax (ds:=[.lst ((ins.map (·.2)).map nI)]) (aq (b6 (ee (ds:=ins.map MT.inD) (eZ hv) (by rw[List.length_map];omega) ?_)) rfl) ?_
 .rw [List.map_map];exact NT.c6 MT.inD _ fun x hx=>⟨[.val (.str x.1), .val (nI x.2)],rfl,rfl,rfl⟩
 .exact HM _
theorem xt(ns:List Int):GA (.lst (ns.map .int)) (some 1) (some 61)= .ok (.lst (((ns.drop 1).take 60).map .int)):=by
 show R.ok (D.lst (L2.cutD (ns.map .int) (some ((1:Nat):Int)) (some ((61:Nat):Int))))=_;unfold L2.cutD;rw[List.length_map,HT.pQ,HT.pQ,List.map_take,List.map_drop];congr 2;by_cases hn:61<=ns.length
 .rw [Nat.min_eq_left (by omega:1<=ns.length),Nat.min_eq_left hn]
 .have e1:min 61 ns.length=ns.length:=by omega
  rw[e1];by_cases h1:1<=ns.length
  .rw [Nat.min_eq_left h1,List.take_of_length_le (by rw[List.length_drop,List.length_map];omega),List.take_of_length_le (by rw[List.length_drop,List.length_map];omega)]
  .have:ns=[]:=List.length_eq_zero_iff.mp (by omega)
   subst this;rfl
theorem Iq(ns:List Int):∃ins gs os,md [.lst (ns.map .int)]= .ok (cQ ins gs os)/\TN ins gs os/\gs.length=((ns.drop 1).take 60).length:=by
 have hz:sizeLine=16777216:=sizeLine_eq;obtain⟨hd,hhd⟩:∃hd,ns.getD 0 0=hd:=⟨_,rfl⟩;obtain⟨nm,hnm,nml,nmd,nmo⟩:=nT hd 300 6 (by omega)
 obtain⟨MJ,O1,P7,OK,P8⟩:=nT hd 330 6 (by omega)
 obtain⟨q1,T_⟩:∃q,1+stN hd 320 % 6=q:=⟨_,rfl⟩;obtain⟨q2,U7⟩:∃q,1+stN hd 341 % 6=q:=⟨_,rfl⟩
 let D0:Sl:= .val (.lst (ns.map .int))
 obtain⟨δ1,h1,ins,a4,Gd,il,iw,inm⟩:=eB (t:=aH 4) (body:=lF) (ds:=(List.range q1).map nI) (fun i δ=>∃(ins:V8) (a:Sl),δ=[D0, .val (.int hd), .val (.lst (nm.map .str)), .bld (ins.map MT.inD),a, .un, .un, .un, .un, .un, .un]/\ins.length=i/\(∀x∈ins,1<=x.2/\x.2<=3)/\ins.map (·.1)=nm.take i)
  (δ:=[D0, .val (.int hd), .val (.lst (nm.map .str)), .bld [], .un, .un, .un, .un, .un, .un, .un]) ⟨[],_,rfl,rfl,by simp,rfl⟩ (by
    rintro i d δ F8 ⟨ins,a,rfl,hl,hw,hn⟩;obtain⟨j,hj,rfl⟩:=NT.iu F8;obtain⟨hjl,ej⟩:=List.getElem?_eq_some_iff.mp hj;rw[List.getElem_range] at ej;subst ej;rw[List.length_range] at hjl;obtain⟨z,DQ⟩:∃z,nm[i]? =some z:=⟨_,List.getElem?_eq_getElem (by omega)⟩
    refine⟨[D0, .val (.int hd), .val (.lst (nm.map .str)), .bld ((ins++[(z,1+stN hd (321+i) % 3)]).map MT.inD), .val (nI i), .un, .un, .un, .un, .un, .un],?_,ins++[(z,1+stN hd (321+i) % 3)],_,rfl,by simp [hl],fun x hx=>?_,?_⟩
    .rw [show aH 4 (nI i) [D0, .val (.int hd), .val (.lst (nm.map .str)), .bld (ins.map MT.inD),a, .un, .un, .un, .un, .un, .un]= .ok [D0, .val (.int hd), .val (.lst (nm.map .str)), .bld (ins.map MT.inD), .val (nI i), .un, .un, .un, .un, .un, .un] from rfl,R.aI]
     unfold lF;refine(iq (d:=MT.inD (z,1+stN hd (321+i) % 3)) (ds:=ins.map MT.inD) (dc (ds:=[.str z,nI (1+stN hd (321+i) % 3)]) (aq (aw (a:= .lst (nm.map .str)) (b:=nI i) rfl rfl (NT.cK (by rw[List.getElem?_map,DQ];rfl))) (aq (aw (a:=nI 1) (b:=nI (stN hd (321+i) % 3)) rfl (aw (a:=nI (stN hd (321+i))) (b:=nI 3) (ax (ds:=[.int hd,nI (321+i)]) (aq rfl (aq (aw (a:=nI 321) (b:=nI i) rfl rfl (kJ _ _)) rfl)) (o7 hd (321+i))) rfl (f7 (by omega))) (kJ _ _)) rfl)) (by show 2<=sizeLine;omega)) rfl (by rw[List.length_map];omega)).trans ?_
     rw[show ins.map MT.inD++[MT.inD (z,1+stN hd (321+i) % 3)]=(ins++[(z,1+stN hd (321+i) % 3)]).map MT.inD by simp];rfl
    .rcases List.mem_append.mp hx with y | y
     .exact hw x y
     .rw [List.mem_singleton.mp y];exact⟨by show 1<=1+_;omega,by show 1+stN hd (321+i) % 3<=3;omega⟩
    .rw [List.map_append,hn,List.take_add_one,DQ];rfl)
 rw[List.length_map,List.length_range] at il inm;have i1:1<=ins.length:=by omega
 have i6:ins.length<=6:=by omega
 obtain⟨w1,w2⟩:=DW i1 iw;have isl:∀x∈ins,x.1∈nm:=fun x hx=>List.mem_of_mem_take (by rw[<-inm];exact List.mem_map_of_mem hx)
 obtain⟨cs,hcs⟩:∃cs,(ns.drop 1).take 60=cs:=⟨_,rfl⟩;have hcl:cs.length<=60:=by rw[<-hcs,List.length_take];omega
 obtain⟨iE,h2,gs,a7,F9,gl,gok⟩:=eB (t:=aH 7) (body:=lJ) (ds:=cs.map .int) (fun i δ=>∃(gs:List Gt) (a:Sl),δ=[D0, .val (.int hd), .val (.lst (nm.map .str)), .val (.lst (ins.map MT.inD)),a4, .val (nI (ji ins)), .bld (gs.map eE),a, .un, .un, .un]/\gs.length=i/\∀(i:Nat) (x:Gt),gs[i]? =some x->Fv (ji ins+i) x)
  (δ:=[D0, .val (.int hd), .val (.lst (nm.map .str)), .val (.lst (ins.map MT.inD)),a4, .val (nI (ji ins)), .bld [], .un, .un, .un, .un]) ⟨[],_,rfl,rfl,by simp⟩ (by
    rintro i d δ F8 ⟨gs,a,rfl,hl,hg⟩;obtain⟨c,hc,rfl⟩:=NT.iu F8;have hil:=(List.getElem?_eq_some_iff.mp hc).1;obtain⟨g,UZ,Uu⟩:=D1 c (ji ins+gs.length) (by omega)
    refine⟨[D0, .val (.int hd), .val (.lst (nm.map .str)), .val (.lst (ins.map MT.inD)),a4, .val (nI (ji ins)), .bld ((gs++[g]).map eE), .val (.int c), .un, .un, .un],?_,gs++[g],_,rfl,by simp [hl],fun j x hx=>?_⟩
    .rw [show aH 7 (.int c) [D0, .val (.int hd), .val (.lst (nm.map .str)), .val (.lst (ins.map MT.inD)),a4, .val (nI (ji ins)), .bld (gs.map eE),a, .un, .un, .un]= .ok [D0, .val (.int hd), .val (.lst (nm.map .str)), .val (.lst (ins.map MT.inD)),a4, .val (nI (ji ins)), .bld (gs.map eE), .val (.int c), .un, .un, .un] from rfl,R.aI]
     unfold lJ;refine(iq (d:=eE g) (ds:=gs.map eE) (ax (ds:=[.int c,nI (ji ins+gs.length)]) (aq rfl (aq (aw (a:=nI (ji ins)) (b:=nI gs.length) rfl (n6 (ax (ds:=[.lst (gs.map eE)]) (aq (by cases a4 <;> rfl) rfl) (by rw[hX,List.length_map])) rfl) (kJ _ _)) rfl)) UZ) rfl (by rw[List.length_map];omega)).trans ?_
     rw[show gs.map eE++[eE g]=(gs++[g]).map eE by simp];rfl
    .by_cases hj:j < gs.length
     .rw [List.getElem?_append_left hj] at hx;exact hg j x hx
     .rw [List.getElem?_append_right (by omega)] at hx
      have h0:j - gs.length=0:=by have:=(List.getElem?_eq_some_iff.mp hx).1;simp at this;omega
      rw[h0] at hx;cases hx;rw[show j=gs.length by omega]
      exact Uu)
 rw[List.length_map] at gl;obtain⟨on,hon,onl,ond,ono⟩:∃on:List Str,(on=if stN hd 340 % 2=0 then nm else MJ)/\on.length=6/\on.Nodup/\∀s∈on,isNm s=true:=by
  refine⟨_,rfl,?_⟩;split
  .exact⟨nml,nmd,nmo⟩
  .exact⟨P7,OK,P8⟩
 obtain⟨MI,h3,os,b4,VX,Pu,ol,ow,onm⟩:=eB (t:=aH 4) (body:=la) (ds:=(List.range q2).map nI) (fun i δ=>∃(os:V9) (a b:Sl),δ=[D0, .val (.int hd), .val (.lst (nm.map .str)), .val (.lst (ins.map MT.inD)),a, .val (nI (ji ins)), .val (.lst (gs.map eE)),a7, .bld (os.map kE), .val (.lst (on.map .str)),b]/\os.length=i/\(∀x∈os,1<=x.2.length/\x.2.length<=3/\∀w∈x.2,w < ji ins+gs.length)/\os.map (·.1)=on.reverse.take i)
  (δ:=[D0, .val (.int hd), .val (.lst (nm.map .str)), .val (.lst (ins.map MT.inD)),a4, .val (nI (ji ins)), .val (.lst (gs.map eE)),a7, .bld [], .val (.lst (on.map .str)), .un]) ⟨[],_,_,rfl,rfl,by simp,rfl⟩ (by
    rintro i d δ F8 ⟨os,a,b,rfl,hl,hw,hn⟩;obtain⟨j,hj,rfl⟩:=NT.iu F8;obtain⟨hjl,ej⟩:=List.getElem?_eq_some_iff.mp hj;rw[List.getElem_range] at ej;subst ej;rw[List.length_range] at hjl;obtain⟨z,DQ⟩:∃z,on[5 - i]? =some z:=⟨_,List.getElem?_eq_getElem (by omega)⟩
    obtain⟨r,hr⟩:∃r,stN hd (342+i)=r:=⟨_,rfl⟩;obtain⟨l,LX,MG,ML⟩:=vc hd (350+3*i) (1+r % 3) (ji ins+gs.length) (by omega) (by omega)
    refine⟨[D0, .val (.int hd), .val (.lst (nm.map .str)), .val (.lst (ins.map MT.inD)), .val (nI i), .val (nI (ji ins)), .val (.lst (gs.map eE)),a7, .bld ((os++[(z,l)]).map kE), .val (.lst (on.map .str)), .val (nI r)],?_,os++[(z,l)],_,_,rfl,by simp [hl],fun x hx=>?_,?_⟩
    .rw [show aH 4 (nI i) [D0, .val (.int hd), .val (.lst (nm.map .str)), .val (.lst (ins.map MT.inD)),a, .val (nI (ji ins)), .val (.lst (gs.map eE)),a7, .bld (os.map kE), .val (.lst (on.map .str)),b]= .ok [D0, .val (.int hd), .val (.lst (nm.map .str)), .val (.lst (ins.map MT.inD)), .val (nI i), .val (nI (ji ins)), .val (.lst (gs.map eE)),a7, .bld (os.map kE), .val (.lst (on.map .str)),b] from rfl,R.aI]
     unfold la;refine aE (bp (d:=nI r) ((ax (ds:=[.int hd,nI (342+i)]) (aq rfl (aq (aw (a:=nI 342) (b:=nI i) rfl rfl (kJ _ _)) rfl)) (o7 hd (342+i))).trans (by rw[hr])) (by simp)) ?_
     refine(iq (d:=kE (z,l)) (ds:=os.map kE) (dc (ds:=[.str z, .tup (l.map nI)]) (aq (aw (a:= .lst (on.map .str)) (b:=nI (5 - i)) rfl (aw (a:=nI 5) (b:=nI i) rfl rfl (Bt (by omega))) (NT.cK (by rw[List.getElem?_map,DQ];rfl))) (aq (ax (ds:=[.int hd,nI (350+3*i),nI (1+r % 3),nI (ji ins+gs.length)]) (aq rfl (aq (aw (a:=nI 350) (b:=nI (3*i)) rfl (aw (a:=nI 3) (b:=nI i) rfl rfl (K3 (.inr (by omega)))) (kJ _ _)) (aq (aw (a:=nI 1) (b:=nI (r % 3)) rfl (aw (a:=nI r) (b:=nI 3) rfl rfl (f7 (by omega))) (kJ _ _)) (aq (aw (a:=nI (ji ins)) (b:=nI gs.length) rfl (ax (ds:=[.lst (gs.map eE)]) rfl (by rw[hX,List.length_map])) (kJ _ _)) rfl)))) LX) rfl)) (by show 2<=sizeLine;omega)) rfl (by rw[List.length_map];omega)).trans ?_
     rw[show os.map kE++[kE (z,l)]=(os++[(z,l)]).map kE by simp];rfl
    .rcases List.mem_append.mp hx with y | y
     .exact hw x y
     .rw [List.mem_singleton.mp y];exact⟨by show 1<=l.length;omega,by show l.length<=3;omega,ML⟩
    .rw [List.map_append,hn,List.take_add_one,List.getElem?_reverse (by omega),show on.length - 1 - i=5 - i by omega,DQ];rfl)
 rw[List.length_map,List.length_range] at ol onm;refine⟨ins,gs,os,?_,⟨i1,i6,iw,by rw[inm];exact(List.take_sublist _ _).nodup nmd,fun x hx=>nmo _ (isl x hx),by omega,gok,by omega,by omega,by rw[onm];exact(List.take_sublist _ _).nodup (by rw[List.nodup_iff_pairwise_ne,List.pairwise_reverse];exact(List.nodup_iff_pairwise_ne.mp ond).imp fun h=>h.symm),fun x hx=>?_,ow⟩,by rw[gl,hcs]⟩
 .unfold md rT;refine dz (aE (bp (d:= .int hd) ((ax (ds:=[.lst (ns.map .int),nI 0]) rfl (ze ns 0)).trans (by rw[hhd])) (by simp [bZ,iB])) ?_)
  refine aE (bp (d:= .lst (nm.map .str)) (ax (ds:=[.int hd,nI 300,nI 6]) rfl hnm) (by simp [bZ,iB])) ?_
  refine aE (jr (ds:=[]) (cN rfl (by show 0<=sizeLine;omega)) (by simp [bZ,iB])) ?_
  refine aE (iy (ds:=(List.range q1).map nI) (qb (n:=q1) ((aw (a:=nI 1) (b:=nI (stN hd 320 % 6)) rfl (aw (a:=nI (stN hd 320)) (b:=nI 6) (ax (ds:=[.int hd,nI 320]) rfl (o7 hd 320)) rfl (f7 (by omega))) (kJ _ _)).trans (by rw[T_])) (by omega)) h1) ?_
  subst Gd;unfold pE;refine aE (bp (d:=nI (ji ins)) (DV (by omega) rfl) (by simp [kT])) ?_
  refine aE (jr (ds:=[]) (cN rfl (by show 0<=sizeLine;omega)) (by simp [kT])) ?_
  refine aE (iy (ds:=cs.map .int) (eZ (kc (d:= .lst (ns.map .int)) (lo:=some 1) (hi:=some 61) rfl (eL rfl) (eL rfl) ((xt ns).trans (by rw[hcs])))) h2) ?_
  subst F9;refine aE (jr (ds:=[]) (cN rfl (by show 0<=sizeLine;omega)) (by simp [kT])) ?_
  refine aE (bp (d:= .lst (MJ.map .str)) (ax (ds:=[.int hd,nI 330,nI 6]) rfl O1) (by simp [kT])) ?_
  refine aE (δ1:=[D0, .val (.int hd), .val (.lst (nm.map .str)), .val (.lst (ins.map MT.inD)),a4, .val (nI (ji ins)), .val (.lst (gs.map eE)),a7, .bld [], .val (.lst (on.map .str)), .un]) ?_ ?_
  .have q:b2 rL (e2 dO (aL bj (ai (af 1) (ai (eC (.int 340)) aJ))) (eC (.int 2))) (eC (.int 0)) [D0, .val (.int hd), .val (.lst (nm.map .str)), .val (.lst (ins.map MT.inD)),a4, .val (nI (ji ins)), .val (.lst (gs.map eE)),a7, .bld [], .val (.lst (MJ.map .str)), .un]= .ok (decide (stN hd 340 % 2=0)):=du (a:=nI (stN hd 340 % 2)) (b:=nI 0) (aw (a:=nI (stN hd 340)) (b:=nI 2) (ax (ds:=[.int hd,nI 340]) rfl (o7 hd 340)) rfl (f7 (by omega))) rfl (vG _ _)
   by_cases hb:stN hd 340 % 2=0
   .rw [decide_eq_true hb] at q;rw[if_pos hb] at hon;rw[hon];exact pz q (bp (δ:=[D0, .val (.int hd), .val (.lst (nm.map .str)), .val (.lst (ins.map MT.inD)),a4, .val (nI (ji ins)), .val (.lst (gs.map eE)),a7, .bld [], .val (.lst (MJ.map .str)), .un]) (d:= .lst (nm.map .str)) rfl (by show 9 < 11;omega))
   .rw [decide_eq_false hb] at q;rw[if_neg hb] at hon;rw[hon];exact pq q rfl
  .refine aE (iy (ds:=(List.range q2).map nI) (qb (n:=q2) ((aw (a:=nI 1) (b:=nI (stN hd 341 % 6)) rfl (aw (a:=nI (stN hd 341)) (b:=nI 6) (ax (ds:=[.int hd,nI 341]) rfl (o7 hd 341)) rfl (f7 (by omega))) (kJ _ _)).trans (by rw[U7])) (by omega)) h3) ?_
   subst Pu;exact cJ (dc (ds:=[.lst (ins.map MT.inD), .lst (gs.map eE), .lst (os.map kE)]) rfl (by show 3<=sizeLine;omega))
 .have:x.1∈on.reverse.take q2:=by rw[<-onm];exact List.mem_map_of_mem hx
  exact ono _ (List.mem_reverse.mp (List.mem_of_mem_take this))
end K08
end
section
namespace K08
open PySem PySem.Spec PyProof.Rows L2 L3 MT JT TX
section
variable {ins:V8} {gs:List Gt} {os:V9} {gn:List Str}
theorem rG(hi:ins.length<=6)(hg:gs.length<=60)(head:Int):∃gn,bA [cQ ins gs os, .int head]= .ok (.lst (gn.map .str))/\GN ins gs.length gn:=by
 have hz:sizeLine=16777216:=sizeLine_eq;obtain⟨ws,hws,wl,wnd,wnm⟩:=nT head 400 gs.length (by omega)
 obtain⟨δ1,h1,gn,a5,a6,hδ,gl,gnd,gnm,gdis⟩:=eB (t:=aH 5) (body:=e8) (ds:=ws.map .str) (fun i δ=>∃(gn:List Str) (a b:Sl),δ=[.val (cQ ins gs os), .val (.int head), .bld ((ins.map (·.1)++gn).map .str), .val (.lst (ws.map .str)), .bld (gn.map .str),a,b]/\gn.length=i/\gn.Nodup/\(∀s∈gn,isNm s=true)/\∀s∈gn,s ∉ ins.map (·.1))
  (δ:=[.val (cQ ins gs os), .val (.int head), .bld ((ins.map (·.1)).map .str), .val (.lst (ws.map .str)), .bld [], .un, .un]) ⟨[], .un, .un,by simp,rfl,List.nodup_nil,by simp,by simp⟩ (by
    rintro i d δ hd ⟨gn,a,b,rfl,hl,hnd,hnm,hdis⟩;obtain⟨w,hw,rfl⟩:=NT.iu hd;have hil:=(List.getElem?_eq_some_iff.mp hw).1;obtain⟨tk,Kc⟩:∃tk,ins.map (·.1)++gn=tk:=⟨_,rfl⟩
    have htl:tk.length<=66:=by rw[<-Kc,List.length_append,List.length_map];omega
    have key:∃x b',isNm x=true/\x ∉ tk/\sv (mG (b2 yi (af 5) (af 2))) (bK (cR 6 (eNew (di (fu (eC (.int 144))) (aH 0) mn (e2 cj (e2 cj (eC (.str (Str.ofString "y"))) (e2 dC (eC (.str (Str.ofString "abcdefghijkl"))) (e2 dF (af 0) (eC (.int 12))))) (e2 dC (eC (.str (Str.ofString "mnopqrstuvwx"))) (e2 dO (af 0) (eC (.int 12))))) [(Str.ofString "n")] []))) (cR 5 (lr (e2 dC (eNew (di (dk (af 6)) (aH 0) (tf (b2 jB (af 0) (af 1)) (b2 jB (af 0) (af 2))) (af 0) [(Str.ofString "one")] [2,3])) (eC (.int 0)))))) mq [.val (cQ ins gs os), .val (.int head), .bld (tk.map .str), .val (.lst (ws.map .str)), .bld (gn.map .str), .val (.str w),b]= .ok (.nx [.val (cQ ins gs os), .val (.int head), .bld (tk.map .str), .val (.lst (ws.map .str)), .bld (gn.map .str), .val (.str x),b']):=by
     have q:mG (b2 yi (af 5) (af 2)) [.val (cQ ins gs os), .val (.int head), .bld (tk.map .str), .val (.lst (ws.map .str)), .bld (gn.map .str), .val (.str w),b]= .ok (tk.contains w):=du (a:= .str w) (b:= .lst (tk.map .str)) (by cases b <;> rfl) (by cases b <;> rfl) (wY _ _)
     cases hb:tk.contains w with
     | false=>
       rw[hb] at q;exact⟨w,b,wnm w (List.mem_of_getElem? hw),(fun z=>by rw[List.contains_iff_mem.mpr z] at hb;cases hb),pq q rfl⟩
     | true=>
       rw[hb] at q;obtain⟨x,hx,hxm,hxn⟩:=vg Ho (ss:=tk++ws) (by rw[List.length_append];unfold BD;simp;omega)
       refine⟨x, .val (.lst (BD.map .str)),G9 x hxm,fun z=>hxn (List.mem_append_left _ z),pz q (aE (bp (d:= .lst (BD.map .str)) (b6 (ee (ds:=(List.range 144).map nI) (qb (n:=144) rfl (by omega)) (by simp;omega) ?_)) (by simp)) (bp (δ:=[.val (cQ ins gs os), .val (.int head), .bld (tk.map .str), .val (.lst (ws.map .str)), .bld (gn.map .str), .val (.str w), .val (.lst (BD.map .str))]) (d:= .str x) (n6 (aw (a:= .lst ((BD.filter fun s=>!(tk++ws).contains s).map .str)) (b:= .int (0:Nat)) (b6 (ee (ds:=BD.map .str) (eZ rfl) (by unfold BD;simp;omega) ?_)) rfl (NT.cK (by rw[List.getElem?_map,hx];rfl))) rfl) (by simp)))⟩
       .rw [show BD.map D.str=(List.range 144).map fun n=>D.str ⟨#[121,97+n / 12,109+n % 12]⟩ from List.map_map]
        refine NT.c6 nI _ fun n hn=>⟨[.val (nI n)],rfl,rfl,?_⟩
        have hn:=List.mem_range.mp hn;have l1:(Str.ofString "y").length=1:=by decide+kernel
        refine(aw (a:= .str (Str.ofString "y"++iI (n / 12))) (b:= .str (iI (12+n % 12))) (aw (a:= .str (Str.ofString "y")) (b:= .str (iI (n / 12))) rfl (aw (a:= .str NF) (b:=nI (n / 12)) rfl (aw (a:=nI n) (b:=nI 12) rfl rfl (nB (by omega) (by omega))) (HY (by omega))) (l7 (by rw[l1];show 1+1<=_;omega))) (aw (a:= .str MU) (b:=nI (n % 12)) rfl (aw (a:=nI n) (b:=nI 12) rfl rfl (f7 (by omega))) (Jv (by omega))) (l7 (by rw[Str.length_append,l1];show 1+1+1<=_;omega))).trans ?_
        rw[Hj]
       .refine NT.m6 (fun s=>!(tk++ws).contains s) D.str D.str fun s hs=>⟨[.val (.str s), .val (.lst (tk.map .str)), .val (.lst (ws.map .str))],rfl,?_,fun _=>rfl⟩
        have:(!(tk++ws).contains s)=(!tk.contains s && !ws.contains s):=by
         rw[Bool.eq_iff_iff];simp only[List.contains_iff_mem,Bool.not_eq_true',Bool.and_eq_true];cases h1:tk.contains s <;> cases h2:ws.contains s <;> simp_all [List.contains_iff_mem]
        rw[this];exact za (du (a:= .str s) (b:= .lst (tk.map .str)) rfl rfl (wD _ _)) fun _=>du (a:= .str s) (b:= .lst (ws.map .str)) rfl rfl (wD _ _)
    obtain⟨x,b',L1,Rt,hs⟩:=key;refine⟨[.val (cQ ins gs os), .val (.int head), .bld ((ins.map (·.1)++(gn++[x])).map .str), .val (.lst (ws.map .str)), .bld ((gn++[x]).map .str), .val (.str x),b'],?_,gn++[x],_,_,rfl,by simp [hl],?_,fun s JS=>?_,fun s JS=>?_⟩
    .rw [Kc,show aH 5 (.str w) [.val (cQ ins gs os), .val (.int head), .bld (tk.map .str), .val (.lst (ws.map .str)), .bld (gn.map .str),a,b]= .ok [.val (cQ ins gs os), .val (.int head), .bld (tk.map .str), .val (.lst (ws.map .str)), .bld (gn.map .str), .val (.str w),b] from rfl,R.aI]
     unfold e8;refine aE hs (aE (iq (d:= .str x) (ds:=gn.map .str) rfl rfl (by rw[List.length_map];omega)) ((iq (d:= .str x) (ds:=tk.map .str) rfl rfl (by rw[List.length_map];omega)).trans ?_))
     rw[<-List.append_assoc,Kc,show tk.map D.str++[.str x]=(tk++[x]).map .str by simp,show gn.map D.str++[.str x]=(gn++[x]).map .str by simp]
     rfl
    .exact List.nodup_append.mpr ⟨hnd,by simp,fun y hy z DQ e=>Rt (by rw[List.mem_singleton.mp DQ] at e;rw [<-e,<-Kc];exact List.mem_append_right _ hy)⟩
    .rcases List.mem_append.mp JS with z | z
     .exact hnm s z
     .rw [List.mem_singleton.mp z];exact L1
    .rcases List.mem_append.mp JS with z | z
     .exact hdis s z
     .rw [List.mem_singleton.mp z];exact fun q=>Rt (by rw[<-Kc];exact List.mem_append_left _ q))
 rw[List.length_map,wl] at gl;refine⟨gn,?_,gl,gnd,gnm,gdis⟩;unfold bA jZ;refine dz (aE (δ1:=[.val (cQ ins gs os), .val (.int head), .bld ((ins.map fun x:Str × Nat=>x.1).map .str), .un, .un, .un, .un]) (jr (ds:=(ins.map fun x:Str × Nat=>x.1).map .str) (ee (ds:=ins.map MT.inD) (eZ (aw (a:=cQ ins gs os) (b:= .int 0) rfl rfl rfl)) (by rw[List.length_map];omega) ?_) (by simp [bZ,bR])) (aE (bp (d:= .lst (ws.map .str)) (ax (ds:=[.int head,nI 400,nI gs.length]) (aq rfl (aq rfl (aq (ax (ds:=[.lst (gs.map eE)]) (aq (aw (a:=cQ ins gs os) (b:= .int 1) rfl rfl rfl) rfl) (by rw[hX,List.length_map])) rfl))) hws) (by simp [bZ,bR])) (aE (jr (ds:=[]) (cN rfl (by show 0<=sizeLine;omega)) (by simp [bZ,bR])) (aE (iy (ds:=ws.map .str) (eZ rfl) h1) ?_))))
 .rw [List.map_map];exact NT.c6 MT.inD _ fun x hx=>⟨[.val (.str x.1), .val (nI x.2)],rfl,rfl,rfl⟩
 .subst hδ;rfl
theorem sx{ins:V8}(h6:ins.length<=6)(hw:∀x∈ins,1<=x.2/\x.2<=3):(jh ins).length<=18:=by
 rw[gH];have:=NT.uq hw;unfold ji;omega
theorem Dj(h6:ins.length<=6)(hw:∀x∈ins,1<=x.2/\x.2<=3)(hm:∀x∈ins,isNm x.1=true)(JP:gn.length<=100):hG [.lst (ins.map MT.inD), .lst (gn.map .str)]= .ok (.lst ((jh ins++gn).map .str)):=by
 have hz:sizeLine=16777216:=sizeLine_eq;obtain⟨δ1,h1,a,b,hδ⟩:=eB (t:=fL 2 (bh (aH 3) (bh (aH 4) fH))) (body:=jC) (ds:=ins.map MT.inD) (fun i δ=>∃(a b:Sl),δ=[.val (.lst (ins.map MT.inD)), .val (.lst (gn.map .str)), .val (.lst ((jh (ins.take i)).map .str)),a,b])
  (δ:=[.val (.lst (ins.map MT.inD)), .val (.lst (gn.map .str)), .val (.lst []), .un, .un]) ⟨_,_,rfl⟩ (by
    rintro i d δ hd ⟨a,b,rfl⟩;obtain⟨x,hx,rfl⟩:=NT.iu hd;have hxm:=List.mem_of_getElem? hx;obtain⟨w1,w3⟩:=hw x hxm;have uu:=(dD.mp (hm x hxm)).2.1;have e1:jh (ins.take (i+1))=jh (ins.take i)++nU x.1 x.2:=by
     rw[List.take_add_one,hx];unfold jh;simp
    have hs:=sx (ins:=ins.take i) (by rw[List.length_take];omega) fun y hy=>hw y (List.mem_of_mem_take hy)
    refine⟨[.val (.lst (ins.map MT.inD)), .val (.lst (gn.map .str)), .val (.lst ((jh (ins.take (i+1))).map .str)), .val (.str x.1), .val (nI x.2)],?_,_,_,rfl⟩;rw[show fL 2 (bh (aH 3) (bh (aH 4) fH)) (MT.inD x) [.val (.lst (ins.map MT.inD)), .val (.lst (gn.map .str)), .val (.lst ((jh (ins.take i)).map .str)),a,b]= .ok [.val (.lst (ins.map MT.inD)), .val (.lst (gn.map .str)), .val (.lst ((jh (ins.take i)).map .str)), .val (.str x.1), .val (nI x.2)] from rfl,R.aI]
    unfold jC;have fg:∀f:Nat,f < 3->∀s:Str,s=CO++iH f->x.1++s=x.1++CO++iH f:=fun f _ s e=>by rw[e,Al]
    have pw:∀(s:Str) (δ:ao),s.length=2->af 3 δ= .ok (.str x.1)->e2 cj (af 3) (eC (.str s)) δ= .ok (.str (x.1++s)):=fun s δ hs h=>aw (a:= .str x.1) (b:= .str s) h rfl (l7 (by omega))
    have sl:wc (eNew (eO (ai (e2 cj (af 3) (eC (.str (Str.ofString ":0")))) (ai (e2 cj (af 3) (eC (.str (Str.ofString ":1")))) (ai (e2 cj (af 3) (eC (.str (Str.ofString ":2")))) aJ))))) jK (g6 (af 4)) [.val (.lst (ins.map MT.inD)), .val (.lst (gn.map .str)), .val (.lst ((jh (ins.take i)).map .str)), .val (.str x.1), .val (nI x.2)]= .ok (.lst (([x.1++Str.ofString ":0",x.1++Str.ofString ":1",x.1++Str.ofString ":2"].take x.2).map .str)):=by
     refine kc (d:= .lst ([x.1++Str.ofString ":0",x.1++Str.ofString ":1",x.1++Str.ofString ":2"].map .str)) (lo:=none) (hi:=some (x.2:Int)) (b6 (cN (ds:=[x.1++Str.ofString ":0",x.1++Str.ofString ":1",x.1++Str.ofString ":2"].map .str) (aq (pw _ _ (by decide+kernel) rfl) (aq (pw _ _ (by decide+kernel) rfl) (aq (pw _ _ (by decide+kernel) rfl) rfl))) (by show 3<=sizeLine;omega))) rfl (eL rfl) ?_
     show R.ok (D.lst (L2.cutD _ none (some ((x.2:Nat):Int))))=_;unfold L2.cutD;rw[HT.pQ,HT.qi];simp only[List.length_map];rw[Nat.min_eq_left (by show x.2<=3;exact w3),List.drop_zero,Nat.sub_zero,List.map_take]
    refine bp (aw (a:= .lst ((jh (ins.take i)).map .str)) (b:= .lst ((nU x.1 x.2).map .str)) rfl (aw (a:= .lst [.lst [.str x.1], .lst (([x.1++Str.ofString ":0",x.1++Str.ofString ":1",x.1++Str.ofString ":2"].take x.2).map .str)]) (b:= .int (if 1 < x.2 then 1 else 0)) (b6 (cN (ds:=[.lst [.str x.1], .lst (([x.1++Str.ofString ":0",x.1++Str.ofString ":1",x.1++Str.ofString ":2"].take x.2).map .str)]) (aq (b6 (cN (ds:=[.str x.1]) rfl (by show 1<=sizeLine;omega))) (aq sl rfl)) (by show 2<=sizeLine;omega))) (ax (ds:=[.bl (decide (1 < x.2))]) (aq (aw (a:=nI x.2) (b:=nI 1) rfl rfl (EM _ _)) rfl) (by by_cases q:1 < x.2 <;> simp [q] <;> rfl)) ?_) ?_) (by simp)
    .unfold nU;by_cases q:x.2=1
     .rw [if_pos q,if_neg (by omega)]
      exact NT.cK (z:=0) rfl
     .rw [if_neg q,if_pos (by omega)]
      refine NT.cK (z:=1) ?_;show some _=some _;congr 3;rcases(show x.2=2\/x.2=3 by omega) with e | e
      .rw [e];show [x.1++Str.ofString ":0",x.1++Str.ofString ":1"]=[x.1++CO++iH 0,x.1++CO++iH 1];rw[fg 0 (by omega) (Str.ofString ":0") (by decide+kernel),fg 1 (by omega) (Str.ofString ":1") (by decide+kernel)]
      .rw [e];show [x.1++Str.ofString ":0",x.1++Str.ofString ":1",x.1++Str.ofString ":2"]=[x.1++CO++iH 0,x.1++CO++iH 1,x.1++CO++iH 2];rw[fg 0 (by omega) (Str.ofString ":0") (by decide+kernel),fg 1 (by omega) (Str.ofString ":1") (by decide+kernel),fg 2 (by omega) (Str.ofString ":2") (by decide+kernel)]
    .rw [mh (by rw[List.length_map,List.length_map,pP];omega),e1,List.map_append])
 rw[List.length_map,List.take_length] at hδ;have hs:=sx h6 hw;unfold hG o8;refine dz (aE (bp (d:= .lst []) (b6 (cN rfl (by show 0<=sizeLine;omega))) (by simp [bZ,lP])) (aE (iy (ds:=ins.map MT.inD) (eZ rfl) h1) ?_))
 subst hδ;exact cJ (aw (a:= .lst ((jh ins).map .str)) (b:= .lst (gn.map .str)) rfl rfl ((mh (by rw[List.length_map,List.length_map];omega)).trans (by rw[List.map_append])))
theorem qt{ws:List Str}(hl:ws.length<=100)(h:∀w∈ws,Wo w):eR (.str SP) [.lst (ws.map .str)]= .ok (.str (Str.join SP ws)):=by
 refine ug ?_;have:(ws.map (·.length)).sum<=ws.length*10:=by
  have:=ub (l:=ws.map (·.length)) (m:=10) fun x hx=>by obtain⟨w,hw,rfl⟩:=List.mem_map.mp hx;exact(h w hw).len
  rwa [List.length_map] at this
 have:SP.length=1:=by decide+kernel
 rw[this];omega
theorem zG{w:Nat}(h:1<=w/\w<=3):cStr [nI w]= .ok (.str (wS w)):=by
 rcases(show w=1\/w=2\/w=3 by omega) with rfl | rfl | rfl
 .exact(sZ (i:=1) (by decide+kernel)).trans (by rw[show(toString (1:Int):Str)=wS 1 by decide+kernel])
 .exact(sZ (i:=2) (by decide+kernel)).trans (by rw[show(toString (2:Int):Str)=wS 2 by decide+kernel])
 .exact(sZ (i:=3) (by decide+kernel)).trans (by rw[show(toString (3:Int):Str)=wS 3 by decide+kernel])
theorem yC{W:List Str}{l:List Nat}{δ:ao}{i:Nat}(hl:l.length<=1000)(h:∀w∈l,w < W.length)(hi:af i δ= .ok (.tup (l.map nI)))(hk:oR [Str.ofString "wire"] [5] δ=[.un, .val (.lst (W.map .str))]):eNew (di (dk (af i)) (aH 0) mn (e2 dC (af 1) (af 0)) [(Str.ofString "wire")] [5]) δ= .ok (.lst ((tx W l).map .str)):=by
 have hz:sizeLine=16777216:=sizeLine_eq;refine b6 (ee (ds:=l.map nI) (Hi hi) (by rw[List.length_map];omega) ?_)
 rw[hk,show(tx W l).map D.str=l.map fun w=>D.str (W.getD w Str.empty) from List.map_map]
 refine NT.c6 nI _ fun w hw=>⟨[.val (nI w), .val (.lst (W.map .str))],rfl,rfl,aw (a:= .lst (W.map .str)) (b:=nI w) rfl rfl (NT.cK ?_)⟩
 rw[List.getElem?_map,List.getD_eq_getElem?_getD,List.getElem?_eq_getElem (h w hw)];rfl
theorem Aa(T:TN ins gs os)(G:GN ins gs.length gn):dw [cQ ins gs os, .lst (gn.map .str)]= .ok (.lst (((wA ins gs os gn).map (Str.join SP)).map .str)):=by
 have hz:sizeLine=16777216:=sizeLine_eq;have h6:=T.i6;have MN:=T.g60;have ho6:=T.o6;have JP:=G.len;have hWo:=D5 T G;obtain⟨W,hW⟩:∃W,jh ins++gn=W:=⟨_,rfl⟩;have hWl:W.length=ji ins+gs.length:=by rw[<-hW,List.length_append,gH,JP]
 have hzl:(gs.zip gn).length=gs.length:=by rw[List.length_zip,JP];omega
 let R0:List Str:=(ins.map u0).map (Str.join SP)
 let RG:Nat->List Str:=fun i=>(((gs.zip gn).take i).map fun p=>pT W p.1 p.2).map (Str.join SP)
 let RO:Nat->List Str:=fun i=>((os.take i).map (pZ W)).map (Str.join SP)
 have lG:∀i,(RG i).length<=60:=fun i=>by show((((gs.zip gn).take i).map _).map _).length<=_;rw [List.length_map,List.length_map,List.length_take,hzl];omega
 have l0:R0.length=ins.length:=by show((ins.map u0).map (Str.join SP)).length=_;rw [List.length_map,List.length_map]
 have en:kL (gs.map eE)=(gs.zip gn).zipIdx.map fun p=>D.tup [nI p.2,eE p.1.1]:=by
  unfold kL;refine List.ext_getElem? fun i=>?_
  rw[List.getElem?_map,List.getElem?_map,List.getElem?_zipIdx,List.getElem?_zipIdx,List.getElem?_map];by_cases hi:i < gs.length
  .have:(gs.zip gn)[i]? =some (gs[i],gn[i]'(by omega)):=by rw[List.getElem?_zip_eq_some];exact⟨List.getElem?_eq_getElem hi,List.getElem?_eq_getElem (by omega)⟩
   rw[this,List.getElem?_eq_getElem hi];simp [nI]
  .rw [List.getElem?_eq_none (by omega),List.getElem?_eq_none (by omega)];rfl
 let E:List Str->Sl->Sl->Sl->Sl->Sl->Sl->ao:=fun rows a7 a8 a9 zq x6 MH=>[.val (cQ ins gs os), .val (.lst (gn.map .str)), .val (.lst (ins.map MT.inD)), .val (.lst (gs.map eE)), .val (.lst (os.map kE)), .val (.lst (W.map .str)), .bld (rows.map .str),a7,a8,a9,zq,x6,MH]
 have hce:∀rows a7 a8 a9 zq x6 MH,oR [Str.ofString "wire"] [5] (E rows a7 a8 a9 zq x6 MH)=[.un, .val (.lst (W.map .str))]:=fun rows a7 a8 a9 zq x6 MH=>rfl
 obtain⟨δ1,h1,a7,a8,a9,zq,x6,Gd⟩:=eB (t:=fL 2 (bh (aH 7) (bh (fL 3 (bh (aH 8) (bh (aH 9) (bh (aH 10) fH)))) fH))) (body:=kf) (ds:=(gs.zip gn).zipIdx.map fun p=>D.tup [nI p.2,eE p.1.1]) (fun i δ=>∃a7 a8 a9 zq x6,δ=E (R0++RG i) a7 a8 a9 zq x6 .un)
  (δ:=E R0 .un .un .un .un .un .un) ⟨_,_,_,_,_,by show _=E (R0++[]) _ _ _ _ _ _;rw [List.append_nil]⟩ (by
    rintro i d δ hd ⟨a7,a8,a9,zq,x6,rfl⟩;obtain⟨p,hp,rfl⟩:=NT.iu hd;rw[List.getElem?_zipIdx] at hp;obtain⟨q,hq,rfl⟩:=Option.map_eq_some_iff.mp hp;obtain⟨g,n⟩:=q;obtain⟨hg,hn⟩:=List.getElem?_zip_eq_some.mp hq;have gok:=T.gok i g hg;have sJ:∀w∈g.2.1,w < W.length:=fun w hw=>by have:=gok.2.2 w hw;have:=(List.getElem?_eq_some_iff.mp hg).1;omega
    have hll:g.2.1.length<=3:=by rw[gok.2.1];exact yg _
    have hnm:=G.nm n (List.mem_of_getElem? hn);have lGi:=lG i;have e1:RG (i+1)=RG i++[Str.join SP (pT W g n)]:=by
     show(((gs.zip gn).take (i+1)).map _).map _=_;rw[List.take_add_one,hq];simp [RG]
    refine⟨E (R0++RG (i+1)) (.val (nI i)) (.val (.str (kS g.1))) (.val (.tup (g.2.1.map nI))) (.val (.bl g.2.2)) (.val (.lst ([if g.2.2 then Str.ofString "sure" else Str.ofString "gate",n,kS g.1].map .str))) .un,?_,_,_,_,_,_,rfl⟩
    have e0:(0+i)=i:=by omega
    rw[show(fL 2 (bh (aH 7) (bh (fL 3 (bh (aH 8) (bh (aH 9) (bh (aH 10) fH)))) fH)) (D.tup [nI (0+i),eE g]) (E (R0++RG i) a7 a8 a9 zq x6 .un))= .ok (E (R0++RG i) (.val (nI (0+i))) (.val (.str (kS g.1))) (.val (.tup (g.2.1.map nI))) (.val (.bl g.2.2)) x6 .un) from rfl,R.aI,e0]
    unfold kf;refine aE (bp (d:= .lst ([if g.2.2 then Str.ofString "sure" else Str.ofString "gate",n,kS g.1].map .str)) (b6 (cN (ds:=[if g.2.2 then Str.ofString "sure" else Str.ofString "gate",n,kS g.1].map .str) (aq (aw (a:= .lst [.str (Str.ofString "gate"), .str (Str.ofString "sure")]) (b:= .int (if g.2.2 then 1 else 0)) rfl (ax (ds:=[.bl g.2.2]) rfl (by cases g.2.2 <;> rfl)) ?_) (aq (aw (a:= .lst (gn.map .str)) (b:=nI i) rfl rfl (NT.cK (by rw[List.getElem?_map,hn];rfl))) rfl)) (by show 3<=sizeLine;omega))) (by simp [E])) ?_
    .cases g.2.2
     .exact NT.cK (z:=0) rfl
     .exact NT.cK (z:=1) rfl
    .have hj:eR (.str SP) [.lst ((pT W g n).map .str)]= .ok (.str (Str.join SP (pT W g n))):=qt (by unfold pT tx;simp;omega) (xn hnm (fun y hy=>(hWo y (by rw[hW];exact hy)).1) sJ)
     refine(iq (d:= .str (Str.join SP (pT W g n))) (ds:=(R0++RG i).map .str) (jq (x:=SP) rfl (aq (aw (a:= .lst ([if g.2.2 then Str.ofString "sure" else Str.ofString "gate",n,kS g.1].map .str)) (b:= .lst ((tx W g.2.1).map .str)) rfl (yC (by omega) sJ rfl rfl) ((mh (by unfold tx;simp;omega)).trans (by rw[<-List.map_append];rfl))) rfl) hj) rfl (by rw[List.length_map,List.length_append];omega)).trans ?_
     rw[e1,<-List.append_assoc,show(R0++RG i).map D.str++[.str (Str.join SP (pT W g n))]=(R0++RG i++[Str.join SP (pT W g n)]).map .str by simp]
     rfl)
 rw[List.length_map,List.length_zipIdx,hzl] at Gd;obtain⟨iE,h2,b9,MM,F9⟩:=eB (t:=fL 2 (bh (aH 12) (bh (aH 9) fH))) (body:=j_) (ds:=os.map kE) (fun i δ=>∃b9 MM,δ=E (R0++RG gs.length++RO i) a7 a8 b9 zq x6 MM)
  (δ:=E (R0++RG gs.length) a7 a8 a9 zq x6 .un) ⟨_,_,by show _=E (R0++RG gs.length++[]) _ _ _ _ _ _;rw [List.append_nil]⟩ (by
    rintro i d δ hd ⟨b9,MM,rfl⟩;obtain⟨o,ho,rfl⟩:=NT.iu hd;have hom:=List.mem_of_getElem? ho;obtain⟨o1,o2,o3⟩:=T.ow o hom;have sJ:∀w∈o.2,w < W.length:=fun w hw=>by have:=o3 w hw;omega
    have lGi:=lG gs.length;have lOi:(RO i).length<=6:=by show(((os.take i).map _).map _).length<=_;rw [List.length_map,List.length_map,List.length_take];omega
    have e1:RO (i+1)=RO i++[Str.join SP (pZ W o)]:=by
     show((os.take (i+1)).map _).map _=_;rw[List.take_add_one,ho];simp [RO]
    refine⟨E (R0++RG gs.length++RO (i+1)) a7 a8 (.val (.tup (o.2.map nI))) zq x6 (.val (.str o.1)),?_,_,_,rfl⟩;rw[show fL 2 (bh (aH 12) (bh (aH 9) fH)) (kE o) (E (R0++RG gs.length++RO i) a7 a8 b9 zq x6 MM)= .ok (E (R0++RG gs.length++RO i) a7 a8 (.val (.tup (o.2.map nI))) zq x6 (.val (.str o.1))) from rfl,R.aI]
    unfold j_;have hj:eR (.str SP) [.lst ((pZ W o).map .str)]= .ok (.str (Str.join SP (pZ W o))):=qt (by unfold pZ tx;simp;omega) (wq (T.onm o hom) (fun y hy=>(hWo y (by rw[hW];exact hy)).1) sJ)
    refine(iq (d:= .str (Str.join SP (pZ W o))) (ds:=(R0++RG gs.length++RO i).map .str) (jq (x:=SP) rfl (aq (aw (a:= .lst ([Str.ofString "out",o.1].map .str)) (b:= .lst ((tx W o.2).map .str)) (b6 (cN (ds:=[Str.ofString "out",o.1].map .str) rfl (by show 2<=sizeLine;omega))) (yC (by omega) sJ rfl rfl) ((mh (by unfold tx;simp;omega)).trans (by rw[<-List.map_append];rfl))) rfl) hj) rfl (by rw[List.length_map,List.length_append,List.length_append];omega)).trans ?_
    rw[e1,<-List.append_assoc,show(R0++RG gs.length++RO i).map D.str++[.str (Str.join SP (pZ W o))]=(R0++RG gs.length++RO i++[Str.join SP (pZ W o)]).map .str by simp]
    rfl)
 rw[List.length_map] at F9;unfold dw qr;refine dz (aE (δ1:=[.val (cQ ins gs os), .val (.lst (gn.map .str)), .val (.lst (ins.map MT.inD)), .val (.lst (gs.map eE)), .val (.lst (os.map kE)), .un, .un, .un, .un, .un, .un, .un, .un]) rfl ?_);refine aE (bp (d:= .lst (W.map .str)) (ax (ds:=[.lst (ins.map MT.inD), .lst (gn.map .str)]) rfl (by rw[<-hW];exact Dj h6 T.iw T.inm (by omega))) (by simp)) ?_
 refine aE (jr (ds:=R0.map .str) (ee (ds:=ins.map MT.inD) (eZ rfl) (by rw[List.length_map];omega) ?_) (by simp)) ?_
 .rw [show R0.map D.str=ins.map fun x=>D.str (Str.join SP (u0 x)) by show((ins.map u0).map (Str.join SP)).map D.str=_;rw [List.map_map,List.map_map];rfl]
  exact NT.c6 MT.inD _ fun x hx=>⟨[.val (.str x.1), .val (nI x.2)],rfl,rfl,jq (x:=SP) rfl (aq (b6 (cN (ds:=(u0 x).map .str) (aq rfl (aq rfl (aq (ax (ds:=[nI x.2]) rfl (zG (T.iw x hx))) rfl))) (by show 3<=sizeLine;omega))) rfl) (qt (by unfold u0;simp) (wZ (T.inm x hx)))⟩
 refine aE (iy (ds:=(gs.zip gn).zipIdx.map fun p=>D.tup [nI p.2,eE p.1.1]) (by rw[<-en];exact wW rfl) h1) ?_
 subst Gd;refine aE (iy (ds:=os.map kE) (eZ rfl) h2) ?_;subst F9;refine cJ ?_;show R.ok (D.lst ((R0++RG gs.length++RO os.length).map .str))=_;congr 2;show List.map D.str ((ins.map u0).map (Str.join SP)++((((gs.zip gn).take gs.length).map fun p=>pT W p.1 p.2).map (Str.join SP))++((os.take os.length).map (pZ W)).map (Str.join SP))=_
 rw[List.take_length,List.take_of_length_le (by rw[hzl];exact Nat.le_refl _),<-List.map_append,<-List.map_append]
 unfold wA;rw[hW]
end
end K08
end
section
namespace K08
open PySem PySem.Spec PyProof.Rows L2 L3 MT JT TX
section
variable {ins:V8} {gs:List Gt} {os:V9} {gn:List Str}
theorem CG(T:TN ins gs os)(G:GN ins gs.length gn)(S:aQ):W3 (eS [.d (.str (My ins gs os gn))] S) fun v S1=>v= .tup [.loc (S.length+1), .loc (S.length+2), .loc (S.length+3)]/\∃d:Dr,d.ins=ins/\d.gs=gs/\d.os=os/\S1=ij S d:=by
 have h6:=T.i6;have MN:=T.g60;have ho6:=T.o6;have i1:=T.i1;have hl:((wA ins gs os gn).map (Str.join SP)).length=ins.length+gs.length+os.length:=by rw[List.length_map,zd T G]
 have hro:=Cu T G;have hs:=xU (rs:=(wA ins gs os gn).map (Str.join SP)) (fun e=>by rw[e] at hl;simp only[List.length_nil] at hl;omega) hro
 unfold My;rcases E4 (S:=S) (text:=Str.join NL ((wA ins gs os gn).map (Str.join SP))) ⟨by have:=CA (by omega) hro;omega,fun c hc=>by have:=BE hro c hc;omega⟩ with⟨v,S1,e,d,hd,ok,hv,hS⟩ | ⟨c,S1,e,hc,_⟩
 .rw [hs,sC T G] at hd;cases hd;exact⟨v,S1,e,hv,_,rfl,rfl,rfl,hS⟩
 .rw [hs,sC T G] at hc;cases hc
theorem Iv(T:TN ins gs os)(G:GN ins gs.length gn){S:aQ}(hS:MA S){Q:V3->aQ->Prop}(h:Q (.d (cQ ins gs os)) S):W3 (Ak eS [.d (.str (My ins gs os gn))] S) Q:=by
 refine Tv hS <| (CG T G S).mono ?_
 rintro v S1 ⟨rfl,d,rfl,rfl,rfl,rfl⟩;have e1:(ij S d)[S.length+1]? =some (.lst (d.ins.map MT.inD)):=by rw[bY];rfl
 have e2:(ij S d)[S.length+2]? =some (.lst (d.gs.map eE)):=by rw[bY];rfl
 have e3:(ij S d)[S.length+3]? =some (.lst (d.os.map kE)):=by rw[bY];rfl
 refine⟨?_,⟨_,rfl⟩,cQ d.ins d.gs d.os,?_,h⟩
 .simp [kY,nE]
 .simp only[res,u6,e1,e2,e3];rfl
end
end K08
end
section
namespace K08
open PySem PySem.Spec PyProof.Rows L2 L3 MT JT TX
section
variable {ins:V8} {gs:List Gt} {os:V9} {gn:List Str}
theorem BG{i:Nat}{k hd:Int}{δ:DE}(T:TN ins gs os)(h1:af i (down δ)= .ok (cQ ins gs os))(h2:af 5 (down δ)= .ok (.int hd)){Q:V3->aQ->Prop}(h:Q (.d (cQ ins gs os)) []):W3 (mJ (Ak eS) (dR (bu (xP (rq "str" eR (eC (.str (Str.ofString "\n"))) (ai (aL dw (ai (af i) (ai (aL bA (ai (af i) (ai (e2 cj (af 5) (eC (.int k))) aJ))) aJ))) aJ))) dE)) δ []) Q:=by
 have h6:=T.i6;have MN:=T.g60;have ho6:=T.o6;obtain⟨gn,hgn,G⟩:=rG (os:=os) T.i6 T.g60 (hd+k);refine Jj <| uc <| c7 <| g9 (d:= .str (My ins gs os gn)) (jq (x:=NL) rfl (aq (ax (ds:=[cQ ins gs os, .lst (gn.map .str)]) (aq h1 (aq (ax (ds:=[cQ ins gs os, .int (hd+k)]) (aq h1 (aq (aw (a:= .int hd) (b:= .int k) h2 rfl rfl) rfl)) hgn) rfl)) (Aa T G)) rfl) (z7 (by rw[List.length_map,zd T G];omega) (Cu T G))) <| jv <| Iv T G (fun o ho=>by cases ho) h
theorem Bb{ns:List Str}{l:List β}{j:Nat}(hn:ns.Nodup)(hl:j+l.length<=ns.length):((l.zipIdx.map fun p=>(ns.getD (j+p.2) Str.empty,p.1)).map (·.1)).Nodup:=by
 rw[List.map_map];have:l.zipIdx.map ((fun x:Str × β=>x.1) ∘ fun p=>(ns.getD (j+p.2) Str.empty,p.1))=(ns.drop j).take l.length:=by
  refine List.ext_getElem? fun i=>?_
  rw[List.getElem?_map,List.getElem?_zipIdx,List.getElem?_take];by_cases hi:i < l.length
  .rw [if_pos hi,List.getElem?_drop,List.getElem?_eq_getElem hi,List.getElem?_eq_getElem (show j+i < ns.length by omega)]
   simp [List.getD_eq_getElem?_getD,List.getElem?_eq_getElem (show j+i < ns.length by omega)]
  .rw [if_neg hi,List.getElem?_eq_none (by omega)];rfl
 rw[this];exact((List.take_sublist _ _).trans (List.drop_sublist _ _)).nodup hn
theorem pX{ns:List Str}{l:List β}{j:Nat}(hl:j+l.length<=ns.length){x:Str × β}(hx:x∈l.zipIdx.map fun p=>(ns.getD (j+p.2) Str.empty,p.1)):x.1∈ns/\x.2∈l:=by
 obtain⟨⟨y,i⟩,hp,rfl⟩:=List.mem_map.mp hx;have hi:=List.mem_iff_getElem?.mp hp;obtain⟨m,hm⟩:=hi;rw[List.getElem?_zipIdx] at hm;obtain⟨y',hy,e⟩:=Option.map_eq_some_iff.mp hm;cases e;have hml:=(List.getElem?_eq_some_iff.mp hy).1;refine⟨?_,List.mem_of_getElem? hy⟩;show ns.getD (j+(0+m)) _∈ns;rw[List.getD_eq_getElem?_getD,List.getElem?_eq_getElem (show j+(0+m) < ns.length by omega)]
 exact List.getElem_mem _
theorem Fp{ns:List Str}{l:List Nat}{j:Nat}:ji (l.zipIdx.map fun p=>(ns.getD (j+p.2) Str.empty,p.1))=l.sum:=by
 unfold ji;rw[List.map_map];have:l.zipIdx.map ((fun x:Str × Nat=>x.2) ∘ fun p=>(ns.getD (j+p.2) Str.empty,p.1))=l:=by
  refine List.ext_getElem? fun i=>?_
  rw[List.getElem?_map,List.getElem?_zipIdx];cases h:l[i]? <;> rfl
 rw[this]
end
theorem Ds(ns:List Int)(hn:ns.length<=63):yQ [.lst (ns.map D.int)]= .ok (.bl true):=by
 have hz:sizeLine=16777216:=sizeLine_eq;have f0:Flat ([]:aQ):=Flat.nil;obtain⟨ins,gs,os,hnet,T,_⟩:=Iq ns;have h6:=T.i6;have MN:=T.g60;have ho6:=T.o6;have i1:=T.i1;obtain⟨hd,hhd⟩:∃hd,ns.getD 0 0=hd:=⟨_,rfl⟩;obtain⟨ws,hws,wl,wnd,wnm⟩:=nT (hd+3) 600 12 (by omega)
 obtain⟨ca,hca⟩:∃ca,((ins.map (·.2)).zipIdx.map fun p=>(ws.getD (0+p.2) Str.empty,p.1))=ca:=⟨_,rfl⟩
 obtain⟨en,hen⟩:∃en,((os.map (·.2)).zipIdx.map fun p=>(ws.getD (6+p.2) Str.empty,p.1))=en:=⟨_,rfl⟩
 have cl:ca.length=ins.length:=by rw[<-hca];simp
 have el:en.length=os.length:=by rw[<-hen];simp
 have cw:ji ca=ji ins:=by rw[<-hca,Fp];rfl
 have T1:TN ca gs en:=by
  refine⟨by omega,by omega,fun x hx=>?_,?_,fun x hx=>?_,MN,by rw[cw];exact T.gok,by have:=T.o1;omega,by omega,?_,fun x hx=>?_,fun x hx=>?_⟩
  .rw [<-hca] at hx;obtain⟨_,z⟩:=pX (by rw[List.length_map];omega) hx
   obtain⟨y,hy,e⟩:=List.mem_map.mp z;rw[<-e];exact T.iw y hy
  .rw [<-hca];exact Bb wnd (by rw[List.length_map];omega)
  .rw [<-hca] at hx;exact wnm _ (pX (by rw[List.length_map];omega) hx).1
  .rw [<-hen];exact Bb wnd (by rw[List.length_map];omega)
  .rw [<-hen] at hx;exact wnm _ (pX (by rw[List.length_map];omega) hx).1
  .rw [<-hen] at hx;obtain⟨_,z⟩:=pX (by rw[List.length_map];omega) hx
   obtain⟨y,hy,e⟩:=List.mem_map.mp z;rw[<-e,cw];exact T.ow y hy
 let tg:List Gt:=gs.map fun g=>(g.1,g.2.1,!g.2.2)
 have tl:tg.length=gs.length:=by show(gs.map _).length=_;rw [List.length_map]
 have T2:TN ins tg os:=by
  refine {T with g60:=by omega,gok:=fun i x hx=>?_,ow:=by rw[tl];exact T.ow}
  rw[List.getElem?_map] at hx;obtain⟨g,hg,rfl⟩:=Option.map_eq_some_iff.mp hx;exact T.gok i g hg
 let mg:List Gt:=gs++[(4,[0,0,0],true)]
 have ml:mg.length=gs.length+1:=by show(gs++_).length=_;rw [List.length_append];rfl
 have w1:1<=ji ins:=by have:=NT.uq T.iw;unfold ji;omega
 have key:W3 (yd lN qu [.d (.lst (ns.map .int))] []) fun v S1=>v= .d (.bl true)/\S1=[]:=by
  refine Kl f0.SI (SX rfl ?_);simp only[d4,lN,List.map,List.length,List.replicate,List.cons_append,List.nil_append,Nat.reduceAdd,Nat.reduceSub];unfold qu;refine dP <| jl (by simp) <| g9 (d:=cQ ins gs os) (ax (ds:=[.lst (ns.map .int)]) rfl hnet) ⟨_,rfl,?_⟩
  simp only[List.set];refine dP <| Ll <| g9 rfl ⟨_,rfl,⟨_,rfl,?_⟩⟩
  simp only[List.set];refine dP <| jl (by simp) <| g9 (d:= .int hd) (ax (ds:=[.lst (ns.map .int),nI 0]) rfl (by rw[ze,hhd])) ⟨_,rfl,?_⟩
  simp only[List.set];refine dP <| jl (by simp) <| BG T rfl rfl ⟨_,rfl,?_⟩
  simp only[List.set];refine dP <| BZ <| zB <| BG T rfl rfl <| g9 rfl ⟨_,_,false,rfl,rfl,wF T,(tK ⟨_,rfl,?_⟩)⟩
  refine dP <| jl (by simp) <| g9 (d:= .lst (ws.map .str)) (ax (ds:=[.int (hd+3),nI 600,nI 12]) rfl hws) ⟨_,rfl,?_⟩
  simp only[List.set];refine dP <| jl (by simp) <| tI (α:=(Str × Nat) × Nat) (fun p=> .tup [nI p.2,MT.inD p.1]) (fun p=>MT.inD (ws.getD (0+p.2) Str.empty,p.1.2)) (xs:=ins.zipIdx) (xS (wW (ds:=ins.map MT.inD) rfl) ⟨?e1,rfl⟩) (by rw[List.length_zipIdx];omega) ?c1 ⟨_,rfl,?_⟩
  case e1=>unfold kL;rw [List.zipIdx_map,List.map_map,List.map_map,List.map_map];rfl
  case c1=>
   rintro⟨x,i⟩ hp;obtain⟨m,hm⟩:=List.mem_iff_getElem?.mp hp;rw[List.getElem?_zipIdx] at hm;obtain⟨y',hy,e⟩:=Option.map_eq_some_iff.mp hm;cases e;have hml:=(List.getElem?_eq_some_iff.mp hy).1;refine⟨_,rfl,zj ⟨rfl,rfl⟩,g9 (d:=MT.inD (ws.getD (0+(0+m)) Str.empty,x.2)) (dc (ds:=[.str (ws.getD (0+(0+m)) Str.empty),nI x.2]) (aq (aw (a:= .lst (ws.map .str)) (b:=nI (0+m)) rfl rfl (NT.cK (by rw[List.getElem?_map,List.getD_eq_getElem?_getD,show 0+(0+m)=0+m by omega,List.getElem?_eq_getElem (show 0+m < ws.length by omega)];rfl))) rfl) (by show 2<=sizeLine;omega)) ⟨rfl,rfl⟩⟩
  simp only[List.set];refine dP <| jl (by simp) <| tI (α:=(Str × List Nat) × Nat) (fun p=> .tup [nI p.2,kE p.1]) (fun p=>kE (ws.getD (6+p.2) Str.empty,p.1.2)) (xs:=os.zipIdx) (xS (wW (ds:=os.map kE) rfl) ⟨?e1,rfl⟩) (by rw[List.length_zipIdx];omega) ?c1 ⟨_,rfl,?_⟩
  case e1=>unfold kL;rw [List.zipIdx_map,List.map_map,List.map_map,List.map_map];rfl
  case c1=>
   rintro⟨x,i⟩ hp;obtain⟨m,hm⟩:=List.mem_iff_getElem?.mp hp;rw[List.getElem?_zipIdx] at hm;obtain⟨y',hy,e⟩:=Option.map_eq_some_iff.mp hm;cases e;have hml:=(List.getElem?_eq_some_iff.mp hy).1;refine⟨_,rfl,zj ⟨rfl,rfl⟩,g9 (d:=kE (ws.getD (6+(0+m)) Str.empty,x.2)) (dc (ds:=[.str (ws.getD (6+(0+m)) Str.empty), .tup (x.2.map nI)]) (aq (aw (a:= .lst (ws.map .str)) (b:=nI (6+(0+m))) rfl (aw (a:=nI 6) (b:=nI (0+m)) rfl rfl (kJ _ _)) (NT.cK (by rw[List.getElem?_map,List.getD_eq_getElem?_getD,List.getElem?_eq_getElem (show 6+(0+m) < ws.length by omega)];rfl))) rfl) (by show 2<=sizeLine;omega)) ⟨rfl,rfl⟩⟩
  simp only[List.set];rw[show(ins.zipIdx.map fun p=>MT.inD (ws.getD (0+p.2) Str.empty,p.1.2))=ca.map MT.inD by rw[<-hca,List.zipIdx_map,List.map_map,List.map_map];rfl,show(os.zipIdx.map fun p=>kE (ws.getD (6+p.2) Str.empty,p.1.2))=en.map kE by rw[<-hen,List.zipIdx_map,List.map_map,List.map_map];rfl]
  refine dP <| jl (by simp) <| g9 (d:=cQ ca gs en) (dc (ds:=[.lst (ca.map MT.inD), .lst (gs.map eE), .lst (en.map kE)]) rfl (by show 3<=sizeLine;omega)) ⟨_,rfl,?_⟩
  simp only[List.set];refine dP <| BZ <| zB <| BG T1 rfl rfl <| g9 (d:=cQ ca gs en) (dc (ds:=[.lst (ca.map MT.inD), .lst (gs.map eE), .lst (en.map kE)]) (aq rfl (aq (aw (a:=cQ ins gs os) (b:= .int 1) rfl rfl rfl) rfl)) (by show 3<=sizeLine;omega)) ⟨_,_,false,rfl,rfl,wF T1,(tK ⟨_,rfl,?_⟩)⟩
  refine dP <| jl (by simp) <| tI (α:=Gt) eE (fun g=>eE (g.1,g.2.1,!g.2.2)) (xs:=gs) (xS (eZ (ds:=gs.map eE) rfl) ⟨rfl,rfl⟩) (by omega) (fun g hg=>⟨_,rfl,zj ⟨rfl,rfl⟩,g9 (dc (ds:=[.str (kS g.1), .tup (g.2.1.map nI), .bl (!g.2.2)]) rfl (by show 3<=sizeLine;omega)) ⟨rfl,rfl⟩⟩) ⟨_,rfl,?_⟩
  simp only[List.set];rw[show(gs.map fun g=>eE (g.1,g.2.1,!g.2.2))=tg.map eE by show _=(gs.map _).map _;rw [List.map_map];rfl]
  refine dP <| jl (by simp) <| g9 (d:=cQ ins tg os) (dc (ds:=[.lst (ins.map MT.inD), .lst (tg.map eE), .lst (os.map kE)]) rfl (by show 3<=sizeLine;omega)) ⟨_,rfl,?_⟩
  simp only[List.set];refine dP <| BZ <| zB <| BG T2 rfl rfl <| g9 (d:=cQ ins tg os) (dc (ds:=[.lst (ins.map MT.inD), .lst (tg.map eE), .lst (os.map kE)]) (aq (aw (a:=cQ ins gs os) (b:= .int 0) rfl rfl rfl) (aq rfl (aq (aw (a:=cQ ins gs os) (b:= .int 2) rfl rfl rfl) rfl))) (by show 3<=sizeLine;omega)) ⟨_,_,false,rfl,rfl,wF T2,(tK ⟨_,rfl,?_⟩)⟩
  by_cases h59:gs.length=60
  .refine Im <| BZ <| Ag (b:=true) ((du (a:=nI gs.length) (b:=nI 60) (ax (ds:=[.lst (gs.map eE)]) rfl (by rw[hX,List.length_map])) rfl (vG _ _)).trans (by rw[decide_eq_true h59])) (yJ <| g9 rfl ⟨_,rfl,_,rfl,rfl,⟨_,rfl⟩,_,rfl,rfl,trivial⟩)
  refine dP <| BZ <| Ag (b:=false) ((du (a:=nI gs.length) (b:=nI 60) (ax (ds:=[.lst (gs.map eE)]) rfl (by rw[hX,List.length_map])) rfl (vG _ _)).trans (by rw[decide_eq_false h59])) (tK ⟨_,rfl,?_⟩)
  have T3:TN ins mg os:=by
   refine {T with g60:=by omega,gok:=fun i x hx=>?_,ow:=fun x hx=>⟨(T.ow x hx).1,(T.ow x hx).2.1,fun w hw=>by have:=(T.ow x hx).2.2 w hw;omega⟩}
   rcases Nat.lt_trichotomy i gs.length with hi | hi | hi
   .rw [List.getElem?_append_left hi] at hx;exact T.gok i x hx
   .rw [hi,List.getElem?_append_right (Nat.le_refl _),Nat.sub_self] at hx;cases hx;exact⟨by decide,rfl,fun w hw=>by simp only[List.mem_cons,List.not_mem_nil,or_false,or_self] at hw;omega⟩
   .rw [List.getElem?_eq_none (by rw[ml];omega)] at hx;cases hx
  have mgd:mg.map eE=gs.map eE++[eE (4,[0,0,0],true)]:=by show(gs++_).map _=_;rw [List.map_append];rfl
  refine dP <| jl (by simp) <| g9 (d:=cQ ins mg os) (dc (ds:=[.lst (ins.map MT.inD), .lst (mg.map eE), .lst (os.map kE)]) (aq rfl (aq (aw (a:= .lst (gs.map eE)) (b:= .lst [eE (4,[0,0,0],true)]) rfl (b6 (cN (ds:=[eE (4,[0,0,0],true)]) (aq (dc (ds:=[.str (kS 4), .tup [nI 0,nI 0,nI 0], .bl true]) (aq rfl (aq (dc (ds:=[nI 0,nI 0,nI 0]) rfl (by show 3<=sizeLine;omega)) rfl)) (by show 3<=sizeLine;omega)) rfl) (by show 1<=sizeLine;omega))) ((mh (by rw[List.length_map];show gs.length+1<=_;omega)).trans (by rw[mgd]))) rfl)) (by show 3<=sizeLine;omega)) ⟨_,rfl,?_⟩
  simp only[List.set];refine dP <| jl (by simp) <| BG T3 rfl rfl ⟨_,rfl,?_⟩
  simp only[List.set];refine yJ <| g9 (d:= .bl true) (aw (a:=cQ ins mg os) (b:=cQ ins mg os) rfl (dc (ds:=[.lst (ins.map MT.inD), .lst (mg.map eE), .lst (os.map kE)]) (aq (aw (a:=cQ ins gs os) (b:= .int 0) rfl rfl rfl) (aq (aw (a:= .lst (gs.map eE)) (b:= .lst [eE (4,[0,0,0],true)]) (aw (a:=cQ ins gs os) (b:= .int 1) rfl rfl rfl) (kc (d:= .lst (mg.map eE)) (lo:=some (-1)) (hi:=none) (aw (a:=cQ ins mg os) (b:= .int 1) rfl rfl rfl) (eL rfl) rfl ?_) ((mh (by rw[List.length_map];show gs.length+1<=_;omega)).trans (by rw[mgd]))) (aq (aw (a:=cQ ins gs os) (b:= .int 2) rfl rfl rfl) rfl))) (by show 3<=sizeLine;omega)) (HW T3)) ⟨_,rfl,rfl,⟨_,rfl⟩,_,rfl,rfl,trivial⟩
  show R.ok (D.lst (L2.cutD _ (some (-1)) none))=_;rw[mgd];unfold L2.cutD;have l1:(gs.map eE++[eE (4,[0,0,0],true)]).length=gs.length+1:=by rw[List.length_append,List.length_map];rfl
  have l2:HT.pK (gs.length+1) 0 (some (-1))=gs.length:=by show(if(-1:Int) < 0 then((-1:Int)+((gs.length+1:Nat):Int)).toNat else min (-1:Int).toNat (gs.length+1))=_;rw [if_pos (by omega)];omega
  rw[l1,l2,HT.qi];have l3:(gs.map eE++[eE (4,[0,0,0],true)]).drop gs.length=[eE (4,[0,0,0],true)]:=by rw[List.drop_append_of_le_length (by rw[List.length_map];exact Nat.le_refl _),List.drop_of_length_le (by rw[List.length_map];exact Nat.le_refl _)];rfl
  rw[l3,List.take_of_length_le (by show 1<=_;omega)]
 obtain⟨v,S1,e1,pA,e3⟩:=key;unfold yQ Mu;show(match yd lN qu ([D.lst (ns.map D.int)].map V3.d) [] with | .ok (.d d) []=>R.aS d.atom (R.ok d) | _=> .no)=_
 rw[show [D.lst (ns.map D.int)].map V3.d=[V3.d (.lst (ns.map .int))] from rfl,e1,pA,e3]
 rfl
end K08
end
open PySem PySem.W PyProof.Rows
set_option maxRecDepth 100000 in
set_option maxHeartbeats 0 in
theorem PySem.Challenge.cw_bearfaults_k08_whole_names_otherwise_holds : PySem.Challenge.rw_bearfaults_k08_whole_names_otherwise.Holds := by
 w_on;o_law;k_head;(case hw=>w_witness2)
 k_fill
 refine L2.Lm (l:=PySem.Challenge.rw_bearfaults_k08_whole_names_otherwise) (n:=63) (k:=7) (x:="script") (g:=K08.yQ) rfl (by decide) rfl ⟨rfl,by decide,by decide⟩ (fun w h Y=>PySem.W.kIn_of Y) ?F K08.Ds
 case F=>
  intro w mg fa h KX G Mg
  have oY:L2.Def (L2.eX KX) mg "is_name" K08.j9:=by
   dsimp only[L2.eX]
   refine' L2.dA KX G ?a ?l ?c ?k
   (case a=>k_is);(case l=>k_is);(case c=>k_is);(case k=>k_is)
  have ny:L2.Def (L2.eX KX) mg "in_wires" K08.iS:=by
   dsimp only[L2.eX]
   refine' L2.dA KX G ?a ?l ?c ?k
   (case a=>k_is);(case l=>k_is);(case c=>k_is);(case k=>k_is)
  have jf:L2.Def (L2.eX KX) mg "is_wire_form" K08.dX:=by
   dsimp only[L2.eX]
   refine' L2.dA KX G ?a ?l ?c ?k
   (case a=>k_is);(case l=>k_is);(case c=>k_is);(case k=>k_is)
  have gx:L2.Def (L2.eX KX) mg "are_wire_forms" K08.dj:=by
   dsimp only[L2.eX]
   refine' L2.dA KX G ?a ?l ?c ?k
   (case a=>k_is);(case l=>k_is);(case c=>k_is);(case k=>k_is)
  have kC:L2.Def (L2.eX KX) mg "is_in_form" K08.fB:=by
   dsimp only[L2.eX]
   refine' L2.dA KX G ?a ?l ?c ?k
   (case a=>k_is);(case l=>k_is);(case c=>k_is);(case k=>k_is)
  have ja:L2.Def (L2.eX KX) mg "is_gate_form" K08.ef:=by
   dsimp only[L2.eX]
   refine' L2.dA KX G ?a ?l ?c ?k
   (case a=>k_is);(case l=>k_is);(case c=>k_is);(case k=>k_is)
  have jG:L2.Def (L2.eX KX) mg "is_out_form" K08.eK:=by
   dsimp only[L2.eX]
   refine' L2.dA KX G ?a ?l ?c ?k
   (case a=>k_is);(case l=>k_is);(case c=>k_is);(case k=>k_is)
  have nk:L2.Def (L2.eX KX) mg "read_row" K08.iK:=by
   dsimp only[L2.eX]
   refine' L2.dA KX G ?a ?l ?c ?k
   (case a=>k_is);(case l=>k_is);(case c=>k_is);(case k=>k_is)
  have x8:L2.Def (L2.eX KX) mg "read" K08.qc:=by
   dsimp only[L2.eX]
   refine' L2.dA KX G ?a ?l ?c ?k
   (case a=>k_is);(case l=>k_is);(case c=>k_is);(case k=>k_is)
  have jD:L2.Def (L2.eX KX) mg "_law_cell_at" K08.eQ:=by
   dsimp only[L2.eX]
   refine' L2.dA KX G ?a ?l ?c ?k
   (case a=>k_is);(case l=>k_is);(case c=>k_is);(case k=>k_is)
  have nv:L2.Def (L2.eX KX) mg "_law_stir" K08.i7:=by
   dsimp only[L2.eX]
   refine' L2.dA KX G ?a ?l ?c ?k
   (case a=>k_is);(case l=>k_is);(case c=>k_is);(case k=>k_is)
  have lT:L2.Def (L2.eX KX) mg "_law_names" K08.gM:=by
   dsimp only[L2.eX]
   refine' L2.dA KX G ?a ?l ?c ?k
   (case a=>k_is);(case l=>k_is);(case c=>k_is);(case k=>k_is)
  have lR:L2.Def (L2.eX KX) mg "_law_wires" K08.gZ:=by
   dsimp only[L2.eX]
   refine' L2.dA KX G ?a ?l ?c ?k
   (case a=>k_is);(case l=>k_is);(case c=>k_is);(case k=>k_is)
  have nA:L2.Def (L2.eX KX) mg "_law_gate" K08.i5:=by
   dsimp only[L2.eX]
   refine' L2.dA KX G ?a ?l ?c ?k
   (case a=>k_is);(case l=>k_is);(case c=>k_is);(case k=>k_is)
  have o4:L2.Def (L2.eX KX) mg "_law_net" K08.jH:=by
   dsimp only[L2.eX]
   refine' L2.dA KX G ?a ?l ?c ?k
   (case a=>k_is);(case l=>k_is);(case c=>k_is);(case k=>k_is)
  have lS:L2.Def (L2.eX KX) mg "_law_words" K08.gU:=by
   dsimp only[L2.eX]
   refine' L2.dA KX G ?a ?l ?c ?k
   (case a=>k_is);(case l=>k_is);(case c=>k_is);(case k=>k_is)
  have nq:L2.Def (L2.eX KX) mg "_law_rows" K08.iR:=by
   dsimp only[L2.eX]
   refine' L2.dA KX G ?a ?l ?c ?k
   (case a=>k_is);(case l=>k_is);(case c=>k_is);(case k=>k_is)
  have gg:L2.Def (L2.eX KX) mg "_law_gate_names" K08.dg:=by
   dsimp only[L2.eX]
   refine' L2.dA KX G ?a ?l ?c ?k
   (case a=>k_is);(case l=>k_is);(case c=>k_is);(case k=>k_is)
  have D_law:L2.Def (L2.eX KX) mg "law" K08.y7:=by
   dsimp only[L2.eX]
   refine' L2.dA KX G ?a ?l ?c ?k
   (case a=>k_is);(case l=>k_is);(case c=>k_is);(case k=>k_is)
  have rg:L2.Glob (L2.eX KX) mg "MOST_LETTERS" K08.d9:=by
   dsimp only[L2.eX]
   refine' L2.jM KX G ?a
   (case a=>k_is)
  have DB:L2.Glob (L2.eX KX) mg "BARRED" K08.k_:=by
   dsimp only[L2.eX]
   refine' L2.vA KX G ["in","gate","sure","out","not","and","or","xor","vote"] ?a ?l ?c ?d ?z ?r
   (case a=>k_is);(case l=>k_is);(case c=>rfl);(case d=>rfl);(case z=>decide);(case r=>exact .cons ⟨_,rfl⟩ (.cons ⟨_,rfl⟩ (.cons ⟨_,rfl⟩ (.cons ⟨_,rfl⟩ (.cons ⟨_,rfl⟩ (.cons ⟨_,rfl⟩ (.cons ⟨_,rfl⟩ (.cons ⟨_,rfl⟩ (.cons ⟨_,rfl⟩ (.nil))))))))))
  have AF:L2.Glob (L2.eX KX) mg "LETTERS" K08.jV:=by
   dsimp only[L2.eX]
   refine' L2.AU KX G ?a
   (case a=>k_is)
  have AD:L2.Glob (L2.eX KX) mg "FIGURES" K08.jP:=by
   dsimp only[L2.eX]
   refine' L2.vA KX G ["0","1","2","3","4","5","6","7","8","9"] ?a ?l ?c ?d ?z ?r
   (case a=>k_is);(case l=>k_is);(case c=>rfl);(case d=>rfl);(case z=>decide);(case r=>exact .cons ⟨_,rfl⟩ (.cons ⟨_,rfl⟩ (.cons ⟨_,rfl⟩ (.cons ⟨_,rfl⟩ (.cons ⟨_,rfl⟩ (.cons ⟨_,rfl⟩ (.cons ⟨_,rfl⟩ (.cons ⟨_,rfl⟩ (.cons ⟨_,rfl⟩ (.cons ⟨_,rfl⟩ (.nil)))))))))))
  have oZ:L2.Glob (L2.eX KX) mg "MOST_OUT_WIRES" K08.dm:=by
   dsimp only[L2.eX]
   refine' L2.jM KX G ?a
   (case a=>k_is)
  have xZ:L2.Glob (L2.eX KX) mg "MOST_INS" K08.i4:=by
   dsimp only[L2.eX]
   refine' L2.jM KX G ?a
   (case a=>k_is)
  have uA:L2.Glob (L2.eX KX) mg "MOST_GATES" K08.fP:=by
   dsimp only[L2.eX]
   refine' L2.jM KX G ?a
   (case a=>k_is)
  have v_:L2.Glob (L2.eX KX) mg "MOST_OUTS" K08.gO:=by
   dsimp only[L2.eX]
   refine' L2.jM KX G ?a
   (case a=>k_is)
  have wb:L2.Glob (L2.eX KX) mg "MOST_ROWS" K08.g8:=by
   dsimp only[L2.eX]
   refine' L2.jM KX G ?a
   (case a=>k_is)
  have Az:L2.k9 PySem.Challenge.rw_bearfaults_k08_whole_names_otherwise.prog w (L2.eX KX) mg "WIDTHS" K08.lZ:=by
   dsimp only[L2.eX]
   refine' L2.uS KX G [("1",_,1,_),("2",_,2,_),("3",_,3,_)] ?a ?l ?s ?k ?d ?m ?z
   (case a=>k_is);(case l=>k_is);(case s=>rfl);(case k=>rfl);(case d=>decide);(case m=>rfl);(case z=>decide)
  have rN:L2.k9 PySem.Challenge.rw_bearfaults_k08_whole_names_otherwise.prog w (L2.eX KX) mg "KIND_WIRES" K08.gE:=by
   dsimp only[L2.eX]
   refine' L2.uS KX G [("not",_,1,_),("and",_,2,_),("or",_,2,_),("xor",_,2,_),("vote",_,3,_)] ?a ?l ?s ?k ?d ?m ?z
   (case a=>k_is);(case l=>k_is);(case s=>rfl);(case k=>rfl);(case d=>decide);(case m=>rfl);(case z=>decide)
  obtain⟨cl,CF⟩:∃cl,K08.Cf (L2.eX KX) mg cl:=by
   dsimp only[L2.eX]
   refine' K08.LO KX G ?O4 ?P6 ?PM ?OB ?Om ?O_ ?OX ?x5 ?rh ?uy ?q_ ?kB ?ni ?Pw ?O2 ?Pm ?OG ?PQ ?P4 ?OF ?Pc ?PF ?Pp ?O3 ?Ot ?OD ?PH ?Pl ?P0 ?Py ?Pt ?O8 ?Pq ?O0 ?Pz ?OQ ?Oj ?Px ?OO ?Oy ?PY ?OP ?Ol ?O6 ?OA ?Oz ?OY ?Pb ?Oq ?P2 ?P1 ?P9 ?OZ ?OU ?Pg ?OV ?Pk ?P_ ?Ow ?Pr ?Pe ?OW ?O5 ?ON ?OM ?Ov ?PU ?OR ?Po ?OI ?Gb ?Ga ?i9 ?jc ?jd ?eg ?fV ?ei ?eo ?er ?cm ?c4 ?gr ?gA ?gm ?de ?eD ?ie ?ig ?ia ?dG ?eY ?gp ?gq ?gy ?df ?gh
   (case O4=>k_is)
   (case P6=>k_is)
   (case PM=>k_is)
   (case OB=>k_is)
   (case Om=>k_is)
   (case O_=>k_is)
   (case OX=>k_is)
   (case x5=>k_is)
   (case rh=>k_is)
   (case uy=>k_is)
   (case q_=>k_is)
   (case kB=>k_is)
   (case ni=>k_is)
   (case Pw=>k_is)
   (case O2=>k_is)
   (case Pm=>k_is)
   (case OG=>k_is)
   (case PQ=>k_is)
   (case P4=>k_is)
   (case OF=>k_is)
   (case Pc=>k_is)
   (case PF=>kernel_rfl)
   (case Pp=>k_is)
   (case O3=>k_is)
   (case Ot=>k_is)
   (case OD=>k_is)
   (case PH=>k_is)
   (case Pl=>kernel_rfl)
   (case P0=>kernel_rfl)
   (case Py=>k_is)
   (case Pt=>k_is)
   (case O8=>k_is)
   (case Pq=>k_is)
   (case O0=>k_is)
   (case Pz=>kernel_rfl)
   (case OQ=>kernel_rfl)
   (case Oj=>k_is)
   (case Px=>k_is)
   (case OO=>k_is)
   (case Oy=>k_is)
   (case PY=>k_is)
   (case OP=>kernel_rfl)
   (case Ol=>kernel_rfl)
   (case O6=>k_is)
   (case OA=>k_is)
   (case Oz=>k_is)
   (case OY=>k_is)
   (case Pb=>k_is)
   (case Oq=>kernel_rfl)
   (case P2=>kernel_rfl)
   (case P1=>k_is)
   (case P9=>k_is)
   (case OZ=>k_is)
   (case OU=>k_is)
   (case Pg=>k_is)
   (case OV=>kernel_rfl)
   (case Pk=>kernel_rfl)
   (case P_=>k_is)
   (case Ow=>k_is)
   (case Pr=>k_is)
   (case Pe=>k_is)
   (case OW=>k_is)
   (case O5=>kernel_rfl)
   (case ON=>kernel_rfl)
   (case OM=>k_is)
   (case Ov=>k_is)
   (case PU=>k_is)
   (case OR=>k_is)
   (case Po=>k_is)
   (case OI=>kernel_rfl)
   (case Gb=>k_is)
   (case Ga=>k_is)
   (case i9=>k_is)
   (case jc=>k_is)
   (case jd=>k_is)
   (case eg=>k_is)
   (case fV=>k_is)
   (case ei=>k_is)
   (case eo=>k_is)
   (case er=>k_is)
   (case cm=>k_is)
   (case c4=>k_is)
   (case gr=>k_is)
   (case gA=>k_is)
   (case gm=>k_is)
   (case de=>k_is)
   (case eD=>k_is)
   (case ie=>k_is)
   (case ig=>k_is)
   (case ia=>k_is)
   (case dG=>k_is)
   (case eY=>k_is)
   (case gp=>k_is)
   (case gq=>k_is)
   (case gy=>k_is)
   (case df=>k_is)
   (case gh=>k_is)
  have et:=CF.et
  have cq:=CF.cq
  have dn:=CF.dn
  have dH:=CF.dH
  have dq:=CF.dq
  have T:K08.Tp PySem.Challenge.rw_bearfaults_k08_whole_names_otherwise.prog w (L2.eX KX) mg cl:=by
   dsimp only[L2.eX]
   refine' ⟨PySem.W.mg_none_of KX G ?z_len,PySem.W.mg_none_of KX G ?z_all,PySem.W.mg_none_of KX G ?z_range,PySem.W.mg_none_of KX G ?z_tuple,PySem.W.mg_none_of KX G ?z_min,PySem.W.mg_none_of KX G ?z_int,PySem.W.mg_none_of KX G ?z_sum,PySem.W.mg_none_of KX G ?z_str,PySem.W.mg_none_of KX G ?z_enumerate,rg,DB,AF,AD,oZ,xZ,uA,v_,wb,Az,rN,CF.C_Draft,CF.N_Draft_ins,CF.N_Draft_gates,CF.N_Draft_outs,CF.N_Draft_names,CF.N_Draft_out_names,CF.N_Draft_numbers,CF.M_Draft,CF.M_FaultError,CF.M_TooLong,CF.M_NoForm,CF.M_NoPlace,CF.M_Twice,CF.M_Full,CF.M_NoWire,CF.M_Open,CF.X_TooLong,CF.X_NoForm,CF.X_NoPlace,CF.X_Twice,CF.X_Full,CF.X_NoWire,CF.X_Open⟩
   (case z_len=>k_is);(case z_all=>k_is);(case z_range=>k_is);(case z_tuple=>k_is);(case z_min=>k_is);(case z_int=>k_is);(case z_sum=>k_is);(case z_str=>k_is);(case z_enumerate=>k_is)
  obtain⟨fl,fd,Fl,hl⟩:=D_law
  have e0:=Mg.symm.trans hl
  cases e0
  refine' ⟨fd,?b,fun base kb nb=>K08.Iz T oY ny jf gx kC ja jG et cq dn dH nk dq x8 jD nv lT lR nA o4 lS nq gg Fl⟩
  obtain⟨_,_,_,_,_,_,_,_,_,e,_,_⟩:=Fl.ex
  subst e
  exact fun s u=> .of_eq rfl
