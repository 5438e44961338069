import PyProof.Rows.All
import Wide.All
import OpenK.AllK
import Wide.FinOn
import Lean
import PyProof.EqAt
import PyProof.EqKinds
import PyProof.TupleCall
import PyProof.Rows.StrJoin2
import PyProof.TupleOfGen
import PyProof.ListRange
import PyProof.Draws
import PyProof.Rows.StrClose3
import KE.KSortedM
import PyProof.Rows.SortWalk
import PyProof.WalkInts
import PyProof.Rows.Range3
import PyProof.ZipIter
import PyProof.ConsumeWalk
import PyProof.Rows.SeqMore
import KE.KRevIter
import KE.KRevSl
import KE.KUnpack
import KE.KDictSum
import KE.KTupSum
import KE.KSortTup
import KE.KDictOf
import OpenK.KRaise
import KE.KTryMore
import PyProof.ExcArgs
import PyProof.ExcBaseAll.ValueError
import PyProof.NsDelKeeps
import PyProof.AttrMissSeq
import PyProof.FString4
import PyProof.StrLawsRepr
import PyProof.Rows.StrSplitAre
import PyProof.Rows.StrNews2
import PyProof.StrLawsChain
import PyProof.StrLawsTight
import PyProof.Rows.StrJoinRep
import PyProof.Rows.StrMul
import PyProof.StrReplace2
import PyProof.StrLawsReplace
import PyProof.Rows.SetFrom
import PyProof.WalksMore
import PySem.Challenge.RW_bearfaults_k18_whole_levels_and_sure_gat
noncomputable section
set_option bootstrap.genMatcherCode false
section
open PySem
abbrev Aaa:=List (Addr×Obj)
abbrev Aab:=Value->Shared->Prop
abbrev Aac:=List (Str×Nat)
abbrev Aad:=List (Str×List Nat)
abbrev Aae:=List (List Nat)
abbrev Aaf:=Str->Option Value
abbrev Aag:=Nat->Addr
end
def PySem.W.Fast.tw14195854210233762298:=0
def PySem.W.Fast.tw10763776142714505673:=0
def PySem.W.Fast.tw9934194421741914212:=0
def PySem.W.Fast.tw15026639532606099935:=0
def PySem.W.Fast.tw14019855743130481907:=0
def PySem.W.Fast.tw9828645570369480250:=0
def PySem.W.Fast.tw499368790747247596:=0
def PySem.W.Fast.tw5740604746289815564:=0
def PySem.W.Fast.tw7970457013286420707:=0
def PySem.W.Fast.tw15833628741499077258:=0
def PySem.W.Fast.tw2945577471859958836:=0
def PySem.W.Fast.tw2200302003586106202:=0
def PySem.W.Fast.tw9317756243589564643:=0
def PySem.W.Fast.tw2368873090786549664:=0
def PySem.W.Fast.tw11591162330635657574:=0
def PySem.W.Fast.tw3034635589058188636:=0
def PySem.W.Fast.tw1574517126252544925:=0
def PySem.W.Fast.tw2228698428081463396:=0
def PySem.W.Fast.tw5982347739799669395:=0
def PySem.W.Fast.tw11970995564732434918:=0
def PySem.W.Fast.tw10686610974825894718:=0
def PySem.W.Fast.tw756958683248076173:=0
def PySem.W.Fast.tw1189505560461717923:=0
def PySem.W.Fast.tw17253065557529211004:=0
def PySem.W.Fast.tw10697698333619428892:=0
def PySem.W.Fast.tw7533531419718908428:=0
def PySem.W.Fast.tw9778698391558896509:=0
def PySem.W.Fast.tw6136506484146460035:=0
def PySem.W.Fast.tw6591576250928205730:=0
def PySem.W.Fast.tw9931555040431861928:=0
def PySem.W.Fast.tw13516234223547131664:=0
def PySem.W.Fast.tw15864230779356910639:=0
def PySem.W.Fast.tw9238329496478010486:=0
def PySem.W.Fast.tw8627076800921581540:=0
def PySem.W.Fast.tw5329758851599872919:=0
def PySem.W.Fast.tw12825973368313613485:=0
def PySem.W.Fast.tw12327548971376935375:=0
def PySem.W.Fast.tw10154079306246114174:=0
def PySem.W.Fast.tw7445107644081787623:=0
def PySem.W.Fast.tw8315975352677973370:=0
set_option Elab.async false
set_option linter.all false
set_option maxRecDepth 100000
set_option maxHeartbeats 4000000
section
namespace L2
open PySem PySem.Spec PyProof.Rows
abbrev Key:=Sum Int Str
def vm:Key->Value->Bool
 | .inl k,v=>Value.isInt k v
 | .inr x,v=>Value.isStrOf x v
def Q_(w:World):Key->Int
 | .inl k=>hashInt k
 | .inr x=>hashStr w x
theorem c8:∀{k:Key} {v:Value},vm k v=true->(∃i t,k=Sum.inl i/\v=Value.int i t)\/(∃x t,k=Sum.inr x/\v=Value.str x t)
 | .inl i,v,h=>by
   obtain⟨t,e⟩:=Value.isInt_shape (k:=i) (v:=v) h;exact .inl ⟨i,t,rfl,e⟩
 | .inr x,v,h=>by
   obtain⟨t,e⟩:=Value.isStrOf_shape (x:=x) (v:=v) h;exact .inr ⟨x,t,rfl,e⟩
theorem CL(i:Int)(t:Tok):vm (.inl i) (.int i t)=true:=by simp [vm,Value.isInt]
theorem BV(x:Str)(t:Tok):vm (.inr x) (.str x t)=true:=by simp [vm,Value.isStrOf]
theorem LM(a b:Int):decide ((Sum.inl a:Key)=Sum.inl b)=(a==b):=by
 by_cases e:a=b
 .subst e;simp
 .have h:¬(Sum.inl a:Key)=Sum.inl b:=fun q=>e (Sum.inl.inj q)
  rw[decide_eq_false h];exact(beq_eq_false_iff_ne.mpr e).symm
theorem Lf(a b:Str):decide ((Sum.inr a:Key)=Sum.inr b)=decide (a=b):=by
 by_cases e:a=b
 .subst e;simp
 .have h:¬(Sum.inr a:Key)=Sum.inr b:=fun q=>e (Sum.inr.inj q)
  rw[decide_eq_false h,decide_eq_false e]
theorem L_(a:Int)(b:Str):decide ((Sum.inl a:Key)=Sum.inr b)=false:=decide_eq_false (fun q=>nomatch q)
theorem LU(a:Str)(b:Int):decide ((Sum.inr a:Key)=Sum.inl b)=false:=decide_eq_false (fun q=>nomatch q)
def cY(prog:Program)(w:World):PySem.KeyKind prog w Key where
 is:=vm
 hash:=Q_ w
 inj:=fun v a b ha hb=>by
  rcases c8 ha with⟨i,t,rfl,rfl⟩ | ⟨x,t,rfl,rfl⟩
  .rcases c8 hb with⟨j,u,rfl,e⟩ | ⟨y,u,rfl,e⟩
   .injection e with e1 _;rw [e1]
   .exact nomatch e
  .rcases c8 hb with⟨j,u,rfl,e⟩ | ⟨y,u,rfl,e⟩
   .exact nomatch e
   .injection e with e1 _;rw [e1]
 byValue:=fun k v h=>by
  rcases c8 h with⟨i,t,rfl,rfl⟩ | ⟨x,t,rfl,rfl⟩ <;> rfl
 pyHash:=fun hv h=>by
  rcases c8 hv with⟨i,t,rfl,rfl⟩ | ⟨x,t,rfl,rfl⟩
  .exact wpAny_pyHash_int h
  .exact wpAny_pyHash_str h
 eqBool:=fun hu hv h=>by
  rcases c8 hu with⟨i,t,rfl,rfl⟩ | ⟨x,t,rfl,rfl⟩
  .rcases c8 hv with⟨j,u,rfl,rfl⟩ | ⟨y,u,rfl,rfl⟩
   .rw [LM] at h;exact wpAny_eqBool_int h
   .rw [L_] at h;exact SeqAt.EqAt.int_str i t y u _ _ _ _ h
  .rcases c8 hv with⟨j,u,rfl,rfl⟩ | ⟨y,u,rfl,rfl⟩
   .rw [LU] at h;exact SeqAt.EqAt.str_int x t j u _ _ _ _ h
   .rw [Lf] at h;exact wpAny_eqBool_str h
 «strs»:=fun k x t v h=>by
  rcases c8 h with⟨i,u,rfl,e⟩ | ⟨y,u,rfl,e⟩
  .exact nomatch e
  .injection e with e1 _
   subst e1;cases v <;> rfl
theorem yQ(prog:Program)(w:World)(i:Int)(t:Tok):(cY prog w).is (.inl i) (.int i t)=true:=CL i t
theorem yi(prog:Program)(w:World)(x:Str)(t:Tok):(cY prog w).is (.inr x) (.str x t)=true:=BV x t
inductive V where
 | cR | bl (b:Bool) | int (i:Int) | str (x:Str) | byt (b:Array UInt8) | flt (b:UInt64) | ref (a:Addr) | ty (n:String)
 deriving DecidableEq
def RelV:V->Value->Prop
 | .cR,u=>u=Value.none
 | .bl b,u=>u=Value.bool b
 | .int i,u=>∃t,u=Value.int i t
 | .str x,u=>∃t,u=Value.str x t
 | .byt b,u=>∃t,u=Value.bytes b t
 | .flt b,u=>∃t,u=Value.float b t
 | .ref a,u=>u=Value.ref a
 | .ty n,u=>u=Value.type n
abbrev Vals:List V->List Value->Prop:=Paired RelV
theorem Vals.length{xs:List V}{us:List Value}(r:Vals xs us):xs.length=us.length:=Paired.length r
theorem Vals.get:∀{xs:List V} {us:List Value} {i:Nat} {x:V},Vals xs us->xs[i]? =some x->∃u,us[i]? =some u/\RelV x u
 | _,_,_,_, .nil,e=>by simp at e
 | _,_,0,_, .cons r _,e=>by simp at e;subst e;exact⟨_,rfl,r⟩
 | _,_,i+1,x, .cons _ t,e=>by
   obtain⟨u,h1,h2⟩:=Vals.get (i:=i) (x:=x) t (by simpa using e)
   exact⟨u,by simpa using h1,h2⟩
theorem Vals.set{x:V}{u:Value}(r:RelV x u):∀{xs:List V} {us:List Value} (i:Nat),Vals xs us->Vals (xs.set i x) (us.set i u)
 | _,_,_, .nil=> .nil
 | _,_,0, .cons _ t=> .cons r t
 | _,_,i+1, .cons q t=> .cons q (Vals.set r i t)
theorem Vals.append:∀{xs ys:List V} {us ws:List Value},Vals xs us->Vals ys ws->Vals (xs++ys) (us++ws)
 | _,_,_,_, .nil,s=>s
 | _,_,_,_, .cons r t,s=> .cons r (Vals.append t s)
theorem Vals.take:∀{xs:List V} {us:List Value} (n:Nat),Vals xs us->Vals (xs.take n) (us.take n)
 | _,_,0,_=> .nil
 | _,_,_+1, .nil=> .nil
 | _,_,n+1, .cons r t=> .cons r (Vals.take n t)
theorem Vals.drop:∀{xs:List V} {us:List Value} (n:Nat),Vals xs us->Vals (xs.drop n) (us.drop n)
 | _,_,0,r=>r
 | _,_,_+1, .nil=> .nil
 | _,_,n+1, .cons _ t=>Vals.drop n t
def oY:Option V->Option Value->Prop
 | some v,some u=>RelV v u
 | none,none=>True
 | _,_=>False
def KV{κ:Type}:List (κ × V)->List (κ × Value)->Prop:=Paired fun(p:κ × V) (q:κ × Value)=>p.1=q.1/\RelV p.2 q.2
def kV:Key->V
 | .inl i=> .int i
 | .inr x=> .str x
inductive HO where
 | lst (xs:List V)
 | tup (xs:List V)
 | dK (aV:List (Key × V)) | dT (aV:List (List Key × V))
 | set (S:Int->Bool) (n:Nat)
 | ins (C dx:Addr) (fs:List (Str × V))
 | own (x:Addr)
 | xd (fs:List (Str × V))
 | met (f x:Addr)
 | rng (lo hi:Int)
 | j4 (o:Obj) (u:HO)
 | ug (ps:Array Value)
 | ext (φ:Heap->Prop)
abbrev Hp:=Addr->Option HO
def upd(H:Hp)(a:Addr)(o:HO):Hp:=fun b=>if b=a then some o else H b
theorem aT{a:Addr}{o:HO}:upd H a o a=some o:=by unfold upd;rw [if_pos rfl]
theorem bg{H:Hp}{a b:Addr}{o:HO}(h:b≠a):upd H a o b=H b:=by unfold upd;rw [if_neg h]
theorem Hy{a:Addr}{o u:HO}:upd (upd H a o) a u=upd H a u:=by
 funext b;unfold upd;split <;> rfl
theorem bW{H:Hp}{a b:Addr}{o:HO}(h:H a=some o)(h':H b=none):a≠b:=by
 intro e;subst e;rw [h] at h';cases h'
section
variable (P:Program) (w:World)
def cT(H:Hp)(h:Heap)(a:Addr):HO->Prop
 | .lst xs=>xs.length<=sizeLine/\∃(its:List Value) (n:Nat),Vals xs its/\h.get? a=some {cls:= .type "list",data:= .seq its.toArray n}
 | .tup xs=>xs.length<=sizeLine/\∃its:List Value,Vals xs its/\IsTup h a its.toArray
 | .dK aV=>aV.length<=sizeLine/\(a==sysModules)=false/\∃vs,KV aV vs/\h.DictOf (cY P w) a vs
 | .dT aV=>aV.length<=sizeLine/\(a==sysModules)=false/\∃xs:List (List Key × Addr × Value),
    Paired (fun(p:List Key × V) (q:List Key × Addr × Value)=>p.1=q.1/\H q.2.1=some (.tup (p.1.map kV))/\RelV p.2 q.2.2) aV xs/\
    ∃o es ep,h.get? a=some o/\o.ExactDict/\o.data= .dict es ep/\es.toList=xs.map (entryOfKey (tupleKind (cY P w)))/\(xs.map (·.1)).Nodup
 | .set S n=>h.SetOf (intKind P w) a S n
 | .ins C dx fs=>H dx=some (.own a)/\fs.length<=1000/\dx≠a/\h.get? a=some (PySem.W.instObj C dx)/\
    ∃mA,h.Ns1 dx mA/\(∀f,oY (fs.lookup f) (mA f))/\PySem.Within mA (fs.map (·.1))
 | .own _=>∃o,h.get? a=some o
 | .xd fs=>∃mA,h.Ns1 a mA/\∀f,oY (fs.lookup f) (mA f)
 | .rng lo hi=>∃t u v,h.get? a=some {cls:= .type "range",data:= .fields #[.int lo t, .int hi u, .int 1 v]}
 | .j4 o u=>h.get? a=some o/\cT H h a u
 | .ug ps=>h.get? a=some {cls:= .none,data:= .fields ps}
 | .met f x=>h.get? a=some (PySem.W.methodObj (.ref f) (.ref x))
 | .ext φ=>φ h/\(∃o,h.get? a=some o)/\∀h1 h2:Heap,φ h1->(∀o,h1.get? a=some o->h2.get? a=some o)->φ h2
def nu(H:Hp)(h:Heap):Prop:=∀a o,H a=some o->cT P w H h a o
end
section
variable {P:Program} {w:World} {H H':Hp} {h h':Heap} {a:Addr} {o:HO}
theorem cT.lt(x:cT P w H h a o):a < h.objs.size:=by
 cases o with
 | lst xs=>obtain⟨_,_,_,_,e⟩:=x;exact Heap.lt_size e
 | tup xs=>obtain⟨_,_,_,p⟩:=x;exact p.lt
 | dK aV=>obtain⟨_,_,_,_,o,_,_,e,_⟩:=x;exact Heap.lt_size e
 | dT aV=>obtain⟨_,_,_,_,o,_,_,e,_⟩:=x;exact Heap.lt_size e
 | set S n=>obtain⟨o,_,_,_,e,_⟩:=x;exact Heap.lt_size e
 | ins C dx fs=>obtain⟨_,_,_,e,_⟩:=x;exact Heap.lt_size e
 | own y=>obtain⟨_,e⟩:=x;exact Heap.lt_size e
 | xd fs=>obtain⟨_,⟨_,_,_,e,_⟩,_⟩:=x;exact Heap.lt_size e
 | rng lo hi=>obtain⟨_,_,_,e⟩:=x;exact Heap.lt_size e
 | j4 ob u=>obtain⟨e,_⟩:=x;exact Heap.lt_size e
 | ug ps=>exact Heap.lt_size (show h.get? a=some _ from x)
 | met f y=>exact Heap.lt_size (show h.get? a=some _ from x)
 | ext φ=>obtain⟨_,⟨_,e⟩,_⟩:=x;exact Heap.lt_size e
theorem Paired.OU{α β:Type}{F G:α->β->Prop}:∀{Ph:List α} {Pq:List β},Paired F Ph Pq->(∀a b,F a b->G a b)->Paired G Ph Pq
 | _,_, .nil,_=> .nil
 | _,_, .cons r t,f=> .cons (f _ _ r) (Paired.OU t f)
theorem cT.vJ(x:cT P w H h a o)(k:∀b u,(b=a\/H b=some (.own a))->h.get? b=some u->h'.get? b=some u)
 (ho:∀b,H b=some (.own a)->H' b=some (.own a)) (ht:∀b xs,H b=some (.tup xs)->H' b=some (.tup xs)):cT P w H' h' a o:=by
 induction o with
 | lst xs=>obtain⟨z,its,n,r,e⟩:=x;exact⟨z,its,n,r,k _ _ (.inl rfl) e⟩
 | tup xs=>obtain⟨z,its,r,ob,e,c⟩:=x;exact⟨z,its,r,ob,k _ _ (.inl rfl) e,c⟩
 | dK aV=>obtain⟨z,y,vs,r,ob,es,ep,e,c⟩:=x;exact⟨z,y,vs,r,ob,es,ep,k _ _ (.inl rfl) e,c⟩
 | dT aV=>
   obtain⟨z,y,xs,r,ob,es,ep,e,c⟩:=x;exact⟨z,y,xs,Paired.OU r fun p q z=>⟨z.1,ht _ _ z.2.1,z.2.2⟩,ob,es,ep,k _ _ (.inl rfl) e,c⟩
 | set S n=>obtain⟨ob,es,ep,t,e,c⟩:=x;exact⟨ob,es,ep,t,k _ _ (.inl rfl) e,c⟩
 | ins C dx fs=>
   obtain⟨d,z,ne,e,mA,⟨od,es,ep,e2,c⟩,r⟩:=x;exact⟨ho _ d,z,ne,k _ _ (.inl rfl) e,mA,⟨od,es,ep,k _ _ (.inr d) e2,c⟩,r⟩
 | own y=>obtain⟨ob,e⟩:=x;exact⟨ob,k _ _ (.inl rfl) e⟩
 | xd fs=>obtain⟨mA,⟨od,es,ep,e,c⟩,r⟩:=x;exact⟨mA,⟨od,es,ep,k _ _ (.inl rfl) e,c⟩,r⟩
 | rng lo hi=>obtain⟨t,u,v,e⟩:=x;exact⟨t,u,v,k _ _ (.inl rfl) e⟩
 | j4 ob u ih=>obtain⟨e,q⟩:=x;exact⟨k _ _ (.inl rfl) e,ih q⟩
 | ug ps=>
   have e:h.get? a=some {cls:= .none,data:= .fields ps}:=x;show h'.get? a=some {cls:= .none,data:= .fields ps};exact k a _ (.inl rfl) e
 | met f y=>
   have e:h.get? a=some (PySem.W.methodObj (.ref f) (.ref y)):=x;show h'.get? a=some (PySem.W.methodObj (.ref f) (.ref y));exact k a _ (.inl rfl) e
 | ext φ=>obtain⟨p,⟨o,e⟩,st⟩:=x;exact⟨st _ _ p fun o q=>k _ _ (.inl rfl) q,⟨o,k _ _ (.inl rfl) e⟩,st⟩
theorem nu.lt(x:nu P w H h)(e:H a=some o):a < h.objs.size:=(x a o e).lt
theorem nu.fresh(x:nu P w H h)(e:h.objs.size<=a):H a=none:=by
 cases q:H a with
 | none=>rfl
 | some u=>exact absurd (Nat.lt_of_lt_of_le (x.lt q) e) (Nat.lt_irrefl _)
theorem nu.kept(x:nu P w H h)(k:∀b u,h.get? b=some u->h'.get? b=some u):nu P w H h':=fun a o e=>
 (x a o e).vJ (fun b u _ q=>k b u q) (fun _ q=>q) fun _ _ q=>q
theorem nu.laid(x:nu P w H h)(k:∀b u,h.get? b=some u->h'.get? b=some u)(hp:h.objs.size<=a)(new:cT P w (upd H a o) h' a o):nu P w (upd H a o) h':=fun b u e=>by
 have hn:=x.fresh hp;by_cases hb:b=a
 .subst hb;rw [aT] at e;cases e;exact new
 .rw [bg hb] at e;exact(x b u e).vJ (fun c v _ q=>k c v q) (fun c q=>by rw[bg (bW q hn)];exact q) fun c xs q=>by rw[bg (bW q hn)];exact q
end
def Rd(H:Hp)(a:Addr)(u:HO):Prop:=H a=some u\/∃o,H a=some (.j4 o u)
theorem Rd.of{H:Hp}{a:Addr}{u:HO}(h:H a=some u):Rd H a u:= .inl h
theorem Rd.ok{a:Addr}{u:HO}(r:Rd H a u)(x:nu P w H h):cT P w H h a u:=by
 rcases r with r | ⟨o,r⟩
 .exact x a u r
 .obtain⟨_,q⟩:=x a _ r;exact q
def Oj:Option HO->Prop
 | some (.lst _)=>True
 | some (.dK _)=>True
 | some (.dT _)=>True
 | some (.set _ _)=>True
 | some (.ins _ _ _)=>True
 | some (.ext _)=>True
 | _=>False
section
variable {P:Program} {w:World} {H:Hp} {h h':Heap} {x e:Addr} {o':HO}
theorem nu.write(ok:nu P w H h)(mu:Oj (H x))(he:e=x\/H e=some (.own x))(k:∀b u,b≠e->h.get? b=some u->h'.get? b=some u)(Hg:∃u,h'.get? e=some u)
 (new:cT P w (upd H x o') h' x o'):nu P w (upd H x o') h':=fun b u q=>by
 have nown:∀c y,H c=some (.own y)->c≠x:=fun c y r z=>by subst z;rw [r] at mu;exact mu
 have ntup:∀c xs,H c=some (.tup xs)->c≠x:=fun c xs r z=>by subst z;rw [r] at mu;exact mu
 by_cases hb:b=x
 .subst hb;rw [aT] at q;cases q;exact new
 .rw [bg hb] at q;by_cases hbe:b=e
  .have q':H b=some (.own x):=by
    rcases he with z | z
    .exact absurd (hbe.trans z) hb
    .rw [hbe];exact z
   rw[q] at q';cases q';obtain⟨v,hv⟩:=Hg;exact⟨v,by rw[hbe];exact hv⟩
  .refine(ok b u q).vJ (fun c v hc r=>k c v ?_ r) (fun c r=>by rw[bg (nown c b r)];exact r) fun c xs r=>by rw[bg (ntup c xs r)];exact r
   rcases hc with rfl | hc
   .exact hbe
   .rintro rfl;rcases he with z | z
    .exact nown c b hc z
    .rw [hc] at z;cases z;exact hb rfl
end
structure Un (fs ex:List Addr) (H H':Hp) (h h':Heap):Prop where
 keep:∀b o,h.get? b=some o->H b=none->b ∉ fs->b ∉ ex->h'.get? b=some o
 slot:∀b o,h.get? b=some o->H b=none->b∈fs->b ∉ ex->∃sl,h'.get? b=some {o with slots:=sl}
 free:∀b o,h.get? b=some o->H b=none->b ∉ ex->H' b=none
 there:∀b o,h.get? b=some o->b ∉ ex->∃o',h'.get? b=some o'
 tups:∀b xs,H b=some (.tup xs)->H' b=some (.tup xs)
 frzs:∀b o u,H b=some (.j4 o u)->H' b=some (.j4 o u)
 tbls:∀b ps,H b=some (.ug ps)->∃more,H' b=some (.ug (ps++more))
section
variable {fs Ni ex Z6:List Addr} {H H1 H2:Hp} {h h1 h2 h':Heap} {a x e:Addr} {o:HO}
theorem Un.any(u:Un fs ex H H1 h h1){b:Addr}{ob:Obj}(q:h.get? b=some ob)(n:H b=none)(hx:b ∉ ex):∃sl,h1.get? b=some {ob with slots:=sl}:=by
 by_cases hb:b∈fs
 .exact u.slot b ob q n hb hx
 .exact⟨ob.slots,u.keep b ob q n hb hx⟩
theorem Un.kept(k:∀b u,h.get? b=some u->h'.get? b=some u):Un fs ex H H h h':=
 ⟨fun b ob q _ _ _=>k b ob q,fun b ob q _ _ _=>⟨ob.slots,k b ob q⟩,fun _ _ _ n _=>n,fun b ob q _=>⟨ob,k b ob q⟩,fun _ _ q=>q,fun _ _ _ q=>q,fun _ ps q=>⟨#[],by rw[q];simp⟩⟩
theorem Un.refl:Un fs ex H H h h:=Un.kept fun _ _ q=>q
theorem Un.laid(k:∀b u,h.get? b=some u->h'.get? b=some u)(hp:h.objs.size<=a)(hn:H a=none):Un fs ex H (upd H a o) h h' where
 keep:=fun b u q _ _ _=>k b u q
 slot:=fun b u q _ _ _=>⟨u.slots,k b u q⟩
 free:=fun b u q n _=>by rw[bg (Nat.ne_of_lt (Nat.lt_of_lt_of_le (Heap.lt_size q) hp))];exact n
 there:=fun b u q _=>⟨u,k b u q⟩
 tups:=fun b xs q=>by rw[bg (bW q hn)];exact q
 frzs:=fun b u xs q=>by rw[bg (bW q hn)];exact q
 tbls:=fun b ps q=>⟨#[],by rw[bg (bW q hn),q];simp⟩
theorem Un.write(mu:Oj (H x))(he:e=x\/H e=some (.own x))(k:∀b u,b≠e->h.get? b=some u->h'.get? b=some u)(Hg:∃u,h'.get? e=some u):Un fs ex H (upd H x o) h h':=by
 have hx:∀b,H b=none->b≠x:=fun b n z=>by subst z;rw [n] at mu;exact mu
 have hb:∀b,H b=none->b≠e:=fun b n z=>by
  subst z;rcases he with r | r
  .exact hx b n r
  .rw [n] at r;cases r
 have hm:∀b u,H b=some u->¬Oj (some u)->b≠x:=fun b u q nm z=>by subst z;rw [q] at mu;exact nm mu
 refine⟨fun b u q n _ _=>k b u (hb b n) q,fun b u q n _ _=>⟨u.slots,k b u (hb b n) q⟩,fun b u q n _=>by rw[bg (hx b n)];exact n,fun b u q _=>?_,
  fun b xs q=>by rw[bg (hm b _ q fun z=>z)];exact q,fun b u xs q=>by rw[bg (hm b _ q fun z=>z)];exact q,fun b ps q=>⟨#[],by rw[bg (hm b _ q fun z=>z),q];simp⟩⟩
 by_cases hbe:b=e
 .subst hbe;exact Hg
 .exact⟨u,k b u hbe q⟩
end
def Qg(h:Heap)(H:Hp):List Addr:=(List.range h.objs.size).filter fun a=>(H a).isSome
def wM(h:Heap)(H:Hp):Heap:=PySem.W.hideAll h (Qg h H)
theorem CJ(h:Heap)(H:Hp):(wM h H).objs.size=h.objs.size:=PySem.W.hideAll_size _ _
theorem Gx{h:Heap}{H:Hp}{b:Addr}{o:Obj}(e:h.get? b=some o)(n:H b=none):(wM h H).get? b=some o:=
 PySem.W.hideAll_get _ e fun hm=>by
  have q:(H b).isSome=true:=(List.mem_filter.mp hm).2;rw[n] at q;simp at q
theorem Hq{h:Heap}{H:Hp}{b:Addr}{o:Obj}(e:(wM h H).get? b=some o):h.get? b=some o/\H b=none:=by
 have e':h.get? b=some o:=PySem.W.of_hideAll (Qg h H) e;refine⟨e',?_⟩;cases q:H b with
 | none=>rfl
 | some x=>
   have hm:b∈Qg h H:=List.mem_filter.mpr ⟨List.mem_range.mpr (Heap.lt_size e'),by simp [q]⟩
   have z:(wM h H).get? b=none:=PySem.W.hideAll_none (Qg h H) hm;rw[z] at e;cases e
def IZ(g h:Heap)(L:Addr):Aaa:=(List.range h.objs.size).filterMap fun a=>if a=L\/(g.get? a).isSome=true then none else(h.get? a).map fun o=>(a,o)
def rest(g h:Heap)(L d:Addr):Aaa:=(IZ g h L).filter fun p=>decide (p.1≠d)
structure Mod (K:W.Frag) (mg:Aaf) (base:Heap):Prop where
 kin:K.In base
 glob:base.Ns mainGlobals mg
 blt:∃mb,base.Ns builtinsNs mb/\∀x:Str,x≠"__name__"->mb x=bootBuiltins x
 nolimit:base.NoLimit
structure Cx where
 prog:Program
 w:World
 K:W.Frag
 mg:Aaf
 base:Heap
 A:Around
 N:List Str
 s₀:Shared
 H₀:Hp
 env:Env
 outer:List Env
 stack:List Env
 ex:List Addr
 fn:Str->Bool
 calm:Bool
 pn:Aaa
 xe:Aab
def BE(l:List Env):List Addr:=l.filterMap (·.frame)
abbrev Cx.fs(X:Cx):List Addr:=BE X.outer
def Ka(sc:Scope)(x:Str):Prop:=sc.names.lookup x=some .local\/sc.names.lookup x=some .cell\/sc.names.lookup x=some .free
def Loc(sc:Scope)(x:Str):Prop:=sc.names.lookup x=some .local\/sc.names.lookup x=some .cell
def Look(env:Env)(h:Heap)(m:Aaf)(x:Str)(u:Value):Prop:=
 (env.kindOf x=some .local/\m x=some u)\/((env.kindOf x=some .cell\/env.kindOf x=some .free)/\∃c,env.cells.lookup x=some c/\h.IsCell c (some u))
structure Cx.Ok (X:Cx):Prop where
 mod:Mod X.K X.mg X.base
 kind:X.env.scope.kind= .function
 glob:X.env.globals=mainGlobals
 blt:X.env.builtins=builtinsNs
 above:X.s₀.heap.objs.size<=X.env.locals
 inj:∀x y c,X.env.cells.lookup x=some c->X.env.cells.lookup y=some c->x=y
 has:∀x,(X.env.kindOf x=some .cell\/X.env.kindOf x=some .free)->∃c,X.env.cells.lookup x=some c
 cab:∀x c,X.fn x=true->X.env.cells.lookup x=some c->X.s₀.heap.objs.size<=c
 hd:X.calm=true->X.A.handled=none
 frames:X.A.frames=some X.stack
 stk:X.stack=X.outer\/(X.stack=X.env ::X.outer/\X.env.frame=some X.env.locals)
 exf:∀b∈X.ex,b≠X.env.locals/\∀x c,X.env.cells.lookup x=some c->c≠b
 bs:∀b o,X.base.get? b=some o->X.s₀.heap.get? b=some o/\X.H₀ b=none
 bsz:X.base.objs.size<=X.s₀.heap.objs.size
 noex:∀b o,X.base.get? b=some o->b ∉ X.ex
 exfs:∀b∈X.ex,b ∉ X.fs
 rD:X.s₀.heap.FunFrames X.base X.outer
 frf:∀b∈X.fs,X.H₀ b=none
structure Inv (X:Cx) (pins:Aaa) (σ:List (Option V)) (H:Hp) (s:Shared):Prop where
 ok:X.Ok
 os:s.os=X.s₀.os
 bare:AllBare s.gens
 base:Un X.fs X.ex X.H₀ H X.s₀.heap s.heap
 loc:∃m,s.heap.Ns X.env.locals m/\∀(i:Nat) (x:Str) (v:V),X.N[i]? =some x->σ[i]? =some (some v)->Ka X.env.scope x->∃u,RelV v u/\Look X.env s.heap m x u
 cell:∀x c,X.env.cells.lookup x=some c->∃v,s.heap.IsCell c v
 free:H X.env.locals=none
 freeC:∀x c,X.env.cells.lookup x=some c->H c=none
 pin:∀p∈X.pn++pins,s.heap.get? p.1=some p.2/\H p.1=none/\p.1≠X.env.locals/\p.1 ∉ X.fs/\∀v,p.2.data≠ .cell v
 hok:nu X.prog X.w H s.heap
 len:σ.length=X.N.length
section
variable {X:Cx} {pins:Aaa} {σ:List (Option V)} {H H':Hp} {s:Shared} {h':Heap}
theorem Cx.Ok.Q8(ok:X.Ok){b:Addr}{o:Obj}(e:X.base.get? b=some o):b ∉ X.fs:=fun hb=>by
 have:=(ok.rD.mem hb).1;rw[e] at this;cases this
theorem Inv.bs(I:Inv X pins σ H s):∀b o,X.base.get? b=some o->s.heap.get? b=some o/\H b=none:=fun b o e=>
 ⟨I.base.keep b o (I.ok.bs b o e).1 (I.ok.bs b o e).2 (I.ok.Q8 e) (I.ok.noex b o e),I.base.free b o (I.ok.bs b o e).1 (I.ok.bs b o e).2 (I.ok.noex b o e)⟩
theorem Inv.bk(I:Inv X pins σ H s):∀b o,X.base.get? b=some o->s.heap.get? b=some o:=fun b o e=>(I.bs b o e).1
theorem Inv.mod(I:Inv X pins σ H s):Mod X.K X.mg X.base:=I.ok.mod
theorem Inv.pX(I:Inv X pins σ H s):X.K.In s.heap:=I.ok.mod.kin.keeps I.bk
theorem Inv.lt(I:Inv X pins σ H s):X.env.locals < s.heap.objs.size:=let⟨_,hn,_⟩:=I.loc;hn.lt
theorem Inv.sz(I:Inv X pins σ H s):X.s₀.heap.objs.size<=s.heap.objs.size:=Nat.le_trans I.ok.above (Nat.le_of_lt I.lt)
theorem Inv.R9(I:Inv X pins σ H s){a:Addr}(h:s.heap.objs.size<=a):a ∉ X.fs:=fun hb=>by
 obtain⟨_,o,ho,_⟩:=I.ok.rD.mem hb;exact absurd (Nat.lt_of_lt_of_le (Heap.lt_size ho) (Nat.le_trans I.sz h)) (Nat.lt_irrefl _)
theorem Inv.LS(I:Inv X pins σ H s):∀x c,X.env.cells.lookup x=some c->c≠X.env.locals:=fun x c e z=>by
 obtain⟨v,o,ho,hd⟩:=I.cell x c e;obtain⟨m,⟨o',es,ep,vC,TN,_⟩,_⟩:=I.loc;rw[z,vC] at ho;cases ho;rw [TN] at hd;cases hd
theorem Inv.rD(I:Inv X pins σ H s):s.heap.FunFrames X.base X.outer:=by
 have all:∀(l:List Env),(∀b∈BE l,b∈X.fs)->X.s₀.heap.FunFrames X.base l->s.heap.FunFrames X.base l:=by
  intro l
  induction l with
  | nil=>intro _ _;trivial
  | cons env r ih=>
    intro hs hl;obtain⟨hk,⟨L,o,hf,hn,ho,hd⟩,hr⟩:=hl;have hL:L∈X.fs:=hs L (by unfold BE;rw [List.filterMap_cons,hf];exact List.mem_cons_self)
    obtain⟨sl,e⟩:=I.base.slot L o ho (I.ok.frf L hL) hL fun z=>I.ok.exfs L z hL
    exact⟨hk,⟨L,_,hf,hn,e,hd⟩,ih (fun b hb=>hs b (by unfold BE;rw [List.filterMap_cons,hf];exact List.mem_cons_of_mem _ hb)) hr⟩
 exact all X.outer (fun _ hb=>hb) I.ok.rD
theorem Inv.stack(I:Inv X pins σ H s):s.heap.FunFrames X.base X.stack:=by
 rcases I.ok.stk with e | ⟨e,hf⟩
 .rw [e];exact I.rD
 .rw [e];obtain⟨m,hn,_⟩:=I.loc;refine .cons (by rw[I.ok.kind];decide) hf hn ?_ I.rD
  exact Heap.get?_none_of_le (Nat.le_trans I.ok.bsz I.ok.above)
theorem Inv.zP(I:Inv X pins σ H s):∀b∈BE X.stack,b∈X.env.locals ::X.fs:=fun b hb=>by
 rcases I.ok.stk with e | ⟨e,hf⟩
 .rw [e] at hb;exact List.mem_cons_of_mem _ hb
 .rw [e] at hb;unfold BE at hb;rw[List.filterMap_cons,hf] at hb;exact hb
theorem Inv.Ax(I:Inv X pins σ H s):∀b∈BE X.stack,H b=none:=fun b hb=>by
 rcases List.mem_cons.mp (I.zP b hb) with e | hb
 .rw [e];exact I.free
 .obtain⟨_,o,ho,_⟩:=I.ok.rD.mem hb;exact I.base.free b o ho (I.ok.frf b hb) fun z=>I.ok.exfs b z hb
theorem Inv.step{g':Array GenState}{t':Nat}{d':Drawn}{ch:List Addr}(I:Inv X pins σ H s)
 (Hb:∀b∈ch,(b∈X.ex\/X.s₀.heap.objs.size<=b)/\b≠X.env.locals/\(∀x c,X.env.cells.lookup x=some c->c≠b)/\∀p∈X.pn++pins,p.1≠b)
 (keep:∀b o,b≠X.env.locals->b ∉ X.fs->b ∉ ch->s.heap.get? b=some o->H b=none->h'.get? b=some o)
 (slot:∀b o,b≠X.env.locals->b∈X.fs->b ∉ ch->s.heap.get? b=some o->H b=none->∃sl,h'.get? b=some {o with slots:=sl}) (free:∀b o,b ∉ ch->s.heap.get? b=some o->H b=none->H' b=none)
 (there:∀b o,b ∉ ch->s.heap.get? b=some o->∃o',h'.get? b=some o')
 (tups:∀b xs,H b=some (.tup xs)->H' b=some (.tup xs)) (frzs:∀b o u,H b=some (.j4 o u)->H' b=some (.j4 o u)) (tbls:∀b ps,H b=some (.ug ps)->∃more,H' b=some (.ug (ps++more)))
 (ns:∀m,s.heap.Ns X.env.locals m->h'.Ns X.env.locals m) (hok:nu X.prog X.w H' h') (hg:AllBare g') :
 Inv X pins σ H' {s with heap:=h',gens:=g',drawn:=d',toks:=t'}:=by
 have neL:∀b o,X.s₀.heap.get? b=some o->b≠X.env.locals:=fun b o e=>Nat.ne_of_lt (Nat.lt_of_lt_of_le (Heap.lt_size e) I.ok.above)
 have neC:∀b o,X.s₀.heap.get? b=some o->b ∉ X.ex->b ∉ ch:=fun b o e hx hb=>by
  rcases(Hb b hb).1 with z | z
  .exact hx z
  .exact absurd (Nat.lt_of_lt_of_le (Heap.lt_size e) z) (Nat.lt_irrefl _)
 have cellK:∀x c,X.env.cells.lookup x=some c->∀v,s.heap.IsCell c v->h'.IsCell c v:=fun x c e v ⟨o,ho,hd⟩=>by
  have nch:c ∉ ch:=fun z=>(Hb c z).2.2.1 x c e rfl
  by_cases hc:c∈X.fs
  .obtain⟨sl,q⟩:=slot c o (I.LS x c e) hc nch ho (I.freeC x c e);exact⟨_,q,hd⟩
  .exact⟨o,keep c o (I.LS x c e) hc nch ho (I.freeC x c e),hd⟩
 refine⟨I.ok,I.os,hg,⟨fun b o e n hb hx=>?_,fun b o e n hb hx=>?_,fun b o e n hx=>?_,fun b o e hx=>?_,fun b xs e=>tups b xs (I.base.tups b xs e),fun b o xs e=>frzs b o xs (I.base.frzs b o xs e),fun b ps e=>?_⟩,?_,fun x c e=>?_,?_,fun x c e=>?_,fun p hp=>?_,hok,I.len⟩
 .exact keep b o (neL b o e) hb (neC b o e hx) (I.base.keep b o e n hb hx) (I.base.free b o e n hx)
 .obtain⟨sl,e1⟩:=I.base.slot b o e n hb hx;obtain⟨X8,e2⟩:=slot b _ (neL b o e) hb (neC b o e hx) e1 (I.base.free b o e n hx);exact⟨X8,e2⟩
 .obtain⟨o',e1⟩:=I.base.there b o e hx;exact free b o' (neC b o e hx) e1 (I.base.free b o e n hx)
 .obtain⟨o',e1⟩:=I.base.there b o e hx;exact there b o' (neC b o e hx) e1
 .obtain⟨m1,e1⟩:=I.base.tbls b ps e;obtain⟨m2,e2⟩:=tbls b _ e1;exact⟨m1++m2,by rw[e2,Array.append_assoc]⟩
 .obtain⟨m,hn,hl⟩:=I.loc;refine⟨m,ns m hn,fun i x v e1 e2 e3=>?_⟩
  obtain⟨u,r,l⟩:=hl i x v e1 e2 e3;refine⟨u,r,?_⟩;rcases l with l | ⟨k,c,e,z⟩
  .exact .inl l
  .exact .inr ⟨k,c,e,cellK x c e _ z⟩
 .obtain⟨v,z⟩:=I.cell x c e;exact⟨v,cellK x c e v z⟩
 .obtain⟨m,⟨o,_,_,ho,_⟩,_⟩:=I.loc;exact free _ o (fun z=>(Hb _ z).2.1 rfl) ho I.free
 .obtain⟨v,o,ho,hd⟩:=I.cell x c e;exact free c o (fun z=>(Hb c z).2.2.1 x c e rfl) ho (I.freeC x c e)
 .obtain⟨e,n,ne,nf,d⟩:=I.pin p hp;have nch:p.1 ∉ ch:=fun z=>(Hb p.1 z).2.2.2 p hp rfl
  exact⟨keep p.1 p.2 ne nf nch e n,free p.1 p.2 nch e n,ne,nf,d⟩
theorem Inv.un{t':Nat}(I:Inv X pins σ H s)(u:Un X.fs [] H H' s.heap h')(hok:nu X.prog X.w H' h'):Inv X pins σ H' {s with heap:=h',toks:=t'}:=by
 obtain⟨m,⟨o,es,ep,ho,r⟩,_⟩:=id I.loc;obtain⟨sl,hL⟩:=u.any ho I.free (by simp)
 exact I.step (g':=s.gens) (d':=s.drawn) (ch:=[]) (fun _ z=>nomatch z) (fun b o _ hb _ e n=>u.keep b o e n hb (by simp)) (fun b o _ hb _ e n=>u.slot b o e n hb (by simp)) (fun b o _ e n=>u.free b o e n (by simp)) (fun b o _ e=>u.there b o e (by simp)) u.tups u.frzs u.tbls (fun m' hm=>by
  obtain⟨o',Dq,MP,vC,r'⟩:=hm;rw[ho] at vC;cases vC;exact⟨_,Dq,MP,hL,r'⟩) hok I.bare
theorem Inv.call{g':Array GenState}{t':Nat}{d':Drawn}{ch:List Addr}(I:Inv X pins σ H s)(u:Un (BE X.stack) ch H H' s.heap h')(hok:nu X.prog X.w H' h')(hg:AllBare g')
 (Hb:∀b∈ch,(b∈X.ex\/X.s₀.heap.objs.size<=b)/\b≠X.env.locals/\(∀x c,X.env.cells.lookup x=some c->c≠b)/\∀p∈X.pn++pins,p.1≠b) :
 Inv X pins σ H' {s with heap:=h',gens:=g',drawn:=d',toks:=t'}:=by
 obtain⟨m,⟨o,es,ep,ho,r⟩,_⟩:=id I.loc;obtain⟨sl,hL⟩:=u.any ho I.free fun z=>(Hb _ z).2.1 rfl
 exact I.step (ch:=ch) Hb (fun b o hL hb hc e n=>u.keep b o e n (fun z=>(List.mem_cons.mp (I.zP b z)).elim hL hb) hc) (fun b o _ _ hc e n=>u.any e n hc) (fun b o hc e n=>u.free b o e n hc) (fun b o hc e=>u.there b o e hc) u.tups u.frzs u.tbls (fun m' hm=>by
  obtain⟨o',Dq,MP,vC,r'⟩:=hm;rw[ho] at vC;cases vC;exact⟨_,Dq,MP,hL,r'⟩) hok hg
theorem Inv.turned{t':Nat}{it:Addr}(I:Inv X pins σ H s)(k:∀b o,b≠it->s.heap.get? b=some o->h'.get? b=some o)(hn:H it=none)(hL:it≠X.env.locals)
 (h1:it∈X.ex\/X.s₀.heap.objs.size<=it) (h2:∀x c,X.env.cells.lookup x=some c->c≠it) (h3:∀p∈X.pn++pins,p.1≠it):Inv X pins σ H {s with heap:=h',toks:=t'}:=by
 have nit:∀b u,H b=some u->b≠it:=fun b u e z=>by rw[z,hn] at e;cases e
 refine I.step (g':=s.gens) (d':=s.drawn) (ch:=[it]) (fun b hb=>?_) (fun b o _ _ hc e _=>k b o (fun z=>hc (by simp [z])) e) (fun b o _ _ hc e _=>⟨o.slots,k b o (fun z=>hc (by simp [z])) e⟩) (fun _ _ _ _ n=>n)
  (fun b o hc e=>⟨o,k b o (fun z=>hc (by simp [z])) e⟩) (fun _ _ e=>e) (fun _ _ _ e=>e) (fun b ps e=>⟨#[],by rw[e];simp⟩) (fun m hm=>?_) (fun b u e=>?_) I.bare
 .have e:b=it:=by simpa using hb
  subst e;exact⟨h1,hL,h2,h3⟩
 .obtain⟨o,es,ep,ho,r⟩:=hm;exact⟨o,es,ep,k _ o (Ne.symm hL) ho,r⟩
 .refine(I.hok b u e).vJ (fun c v hc q=>k c v ?_ q) (fun _ q=>q) fun _ _ q=>q
  rcases hc with z | z
  .rw [z];exact nit b u e
  .exact nit c _ z
theorem Inv.tok(I:Inv X pins σ H s)(t:Nat):Inv X pins σ H {s with toks:=t}:=I.un (h':=s.heap) (t':=t) Un.refl I.hok
theorem Inv.kept{t':Nat}(I:Inv X pins σ H s)(k:∀b u,s.heap.get? b=some u->h'.get? b=some u):Inv X pins σ H {s with heap:=h',toks:=t'}:=I.un (Un.kept k) (I.hok.kept k)
theorem Inv.laid{a:Addr}{o:HO}{t':Nat}(I:Inv X pins σ H s)(k:∀b u,s.heap.get? b=some u->h'.get? b=some u)(hp:s.heap.objs.size<=a)(new:cT X.prog X.w (upd H a o) h' a o) :
 Inv X pins σ (upd H a o) {s with heap:=h',toks:=t'}:=I.un (Un.laid k hp (I.hok.fresh hp)) (I.hok.laid k hp new)
theorem Inv.write{x e:Addr}{o:HO}{t':Nat}(I:Inv X pins σ H s)(mu:Oj (H x))(he:e=x\/H e=some (.own x))(k:∀b u,b≠e->s.heap.get? b=some u->h'.get? b=some u)(Hg:∃u,h'.get? e=some u)
 (new:cT X.prog X.w (upd H x o) h' x o):Inv X pins σ (upd H x o) {s with heap:=h',toks:=t'}:=I.un (Un.write mu he k Hg) (I.hok.write mu he k Hg new)
theorem Inv.A2{GP:Aaa}(I:Inv X pins σ H s)(h:∀p∈GP,s.heap.get? p.1=some p.2/\H p.1=none/\p.1≠X.env.locals/\p.1 ∉ X.fs/\∀v,p.2.data≠ .cell v):Inv X GP σ H s:=
 ⟨I.ok,I.os,I.bare,I.base,I.loc,I.cell,I.free,I.freeC,fun p hp=>(List.mem_append.mp hp).elim (fun z=>I.pin p (List.mem_append_left _ z)) (h p),I.hok,I.len⟩
theorem yu{N:List Str}(hN:N.Nodup){i j:Nat}(a:N[i]? =some x)(b:N[j]? =some x):i=j:=by
 obtain⟨h1,e1⟩:=List.getElem?_eq_some_iff.mp a;obtain⟨h2,e2⟩:=List.getElem?_eq_some_iff.mp b;exact(List.getElem_inj hN).mp (e1.trans e2.symm)
theorem ve{M:Model}{A:Around}{E:Aab}{i:Nat}{x:Str}{v:V}{u:Value}{Q:Unit->Shared->Prop}(I:Inv X pins σ H s)(hN:X.N.Nodup)(hi:X.N[i]? =some x)(hx:Loc X.env.scope x)(r:RelV v u)
 (h:∀s',Inv X pins (σ.set i (some v)) H s'->(∃a,Heap.SameBut a s.heap s'.heap/\(a=X.env.locals\/X.env.cells.lookup x=some a))->Q () s') (hf:X.fn x=true\/X.env.scope.names.lookup x=some .local:=by first | exact .inl rfl | exact .inr rfl | assumption):wpAny M A (storeName X.env x u) Q E s:=by
 obtain⟨m,hn,hl⟩:=id I.loc;have hcls:(X.env.scope.kind== .class || (X.env.scope.kind== .module && X.env.locals !=X.env.globals))=false:=by rw[I.ok.kind];rfl
 have hiσ:i < σ.length:=by rw[I.len];exact(List.getElem?_eq_some_iff.mp hi).1
 have LS:=I.LS;have tracked:∀{a:Addr} {h':Heap},(∃o,s.heap.get? a=some o/\H a=none)->Heap.SameBut a s.heap h'->nu X.prog X.w H h':=fun {a h'} ha hs b ob e=>by
  obtain⟨_,_,hfree⟩:=ha;refine(I.hok b ob e).vJ (fun c w' hc q=>(hs.2 c ?_).trans q) (fun _ q=>q) fun _ _ q=>q
  rintro rfl;rcases hc with rfl | hc
  .rw [hfree] at e;cases e
  .rw [hfree] at hc;cases hc
 rcases hx with hk | hk
 .refine wpAny_storeName_local hk hn (fun h' M3 hs=>?_) hcls
  obtain⟨oL,_,_,hoL,_⟩:=id hn;refine h _ ⟨I.ok,I.os,I.bare,⟨fun b o e n hb hx=>?_,fun b o e n hb hx=>?_,I.base.free,fun b o e hx=>?_,I.base.tups,I.base.frzs,I.base.tbls⟩,⟨_,M3,fun j y v' e1 e2 e3=>?_⟩,fun y c e=>?_,I.free,I.freeC,fun p hp=>?_,tracked ⟨oL,hoL,I.free⟩ hs,by simpa using I.len⟩ ⟨_,hs, .inl rfl⟩
  .exact(hs.2 b (Nat.ne_of_lt (Nat.lt_of_lt_of_le (Heap.lt_size e) I.ok.above))).trans (I.base.keep b o e n hb hx)
  .obtain⟨sl,e1⟩:=I.base.slot b o e n hb hx;exact⟨sl,(hs.2 b (Nat.ne_of_lt (Nat.lt_of_lt_of_le (Heap.lt_size e) I.ok.above))).trans e1⟩
  .obtain⟨o',e1⟩:=I.base.there b o e hx;exact⟨o',(hs.2 b (Nat.ne_of_lt (Nat.lt_of_lt_of_le (Heap.lt_size e) I.ok.above))).trans e1⟩
  .by_cases hj:j=i
   .subst hj;rw[hi] at e1;cases e1;rw[List.getElem?_set_self hiσ] at e2;cases e2;exact⟨u,r, .inl ⟨hk,by simp⟩⟩
   .rw [List.getElem?_set_ne (Ne.symm hj)] at e2;obtain⟨u',r',q⟩:=hl j y v' e1 e2 e3;refine⟨u',r',?_⟩;rcases q with⟨k,e⟩ | ⟨k,c,e,z⟩
    .refine .inl ⟨k,?_⟩;have:y≠x:=fun e=>hj (yu hN e1 (e▸hi))
     simp [this,e]
    .exact .inr ⟨k,c,e,z.sameBut hs (LS y c e)⟩
  .obtain⟨w',z⟩:=I.cell y c e;exact⟨w',z.sameBut hs (LS y c e)⟩
  .obtain⟨e,n,ne,nf,d⟩:=I.pin p hp;exact⟨(hs.2 p.1 ne).trans e,n,ne,nf,d⟩
 .have hfn:X.fn x=true:=by
   rcases hf with z | z
   .exact z
   .rw [z] at hk;cases hk
  obtain⟨c,hc⟩:=I.ok.has x (.inl hk);obtain⟨w',z⟩:=I.cell x c hc;refine wpAny_storeName_cell I.ok.kind hk hc z (fun h' Dk hs=>?_)
  obtain⟨oc,hoc,hocd⟩:=id z;refine h {s with heap:=h'} ⟨I.ok,I.os,I.bare,⟨fun b o e n hb hx=>?_,fun b o e n hb hx=>?_,I.base.free,fun b o e hx=>?_,I.base.tups,I.base.frzs,I.base.tbls⟩,⟨m,hn.sameBut hs (Ne.symm (LS x c hc)),fun j y v' e1 e2 e3=>?_⟩,fun y c' e=>?_,I.free,I.freeC,fun p hp=>?_,tracked ⟨oc,hoc,I.freeC x c hc⟩ hs,by simpa using I.len⟩ ⟨c,hs, .inr hc⟩
  .exact(hs.2 b (Nat.ne_of_lt (Nat.lt_of_lt_of_le (Heap.lt_size e) (I.ok.cab x c hfn hc)))).trans (I.base.keep b o e n hb hx)
  .obtain⟨sl,e1⟩:=I.base.slot b o e n hb hx;exact⟨sl,(hs.2 b (Nat.ne_of_lt (Nat.lt_of_lt_of_le (Heap.lt_size e) (I.ok.cab x c hfn hc)))).trans e1⟩
  .obtain⟨o',e1⟩:=I.base.there b o e hx;exact⟨o',(hs.2 b (Nat.ne_of_lt (Nat.lt_of_lt_of_le (Heap.lt_size e) (I.ok.cab x c hfn hc)))).trans e1⟩
  .by_cases hj:j=i
   .subst hj;rw[hi] at e1;cases e1;rw[List.getElem?_set_self hiσ] at e2;cases e2;exact⟨u,r, .inr ⟨.inl hk,c,hc,Dk⟩⟩
   .rw [List.getElem?_set_ne (Ne.symm hj)] at e2;obtain⟨u',r',q⟩:=hl j y v' e1 e2 e3;refine⟨u',r',?_⟩;rcases q with q | ⟨k,c',e,z'⟩
    .exact .inl q
    .refine .inr ⟨k,c',e,z'.sameBut hs ?_⟩;rintro rfl;exact hj (yu hN e1 (I.ok.inj _ _ _ e hc▸hi))
  .by_cases hcc:c'=c
   .subst hcc;exact⟨_,Dk⟩
   .obtain⟨w2,z2⟩:=I.cell y c' e;exact⟨w2,z2.sameBut hs hcc⟩
  .obtain⟨e,n,ne,nf,d⟩:=I.pin p hp;refine⟨(hs.2 p.1 ?_).trans e,n,ne,nf,d⟩;intro q;rw[q,hoc] at e;have q':oc=p.2:=Option.some.inj e;exact d w' (by rw[<-q'];exact hocd)
theorem xD{M:Model}{A:Around}{E:Aab}{i:Nat}{x:Str}{v:V}{u:Value}{Q:Unit->Shared->Prop}(I:Inv X pins σ H s)(hN:X.N.Nodup)(hi:X.N[i]? =some x)(hx:Loc X.env.scope x)(r:RelV v u)
 (h:∀s',Inv X pins (σ.set i (some v)) H s'->Q () s') (hf:X.fn x=true\/X.env.scope.names.lookup x=some .local:=by first | exact .inl rfl | exact .inr rfl | assumption):wpAny M A (storeName X.env x u) Q E s:=
 ve I hN hi hx r (fun s' I' _=>h s' I') hf
theorem Inv.Nr{s':Shared}{ch:List Addr}(I:Inv X pins σ H s)(ho:s'.os=s.os)(u:Un (BE X.stack) ch H H' s.heap s'.heap)(hok:nu X.prog X.w H' s'.heap)(hg:AllBare s'.gens)
 (Hb:∀b∈ch,(b∈X.ex\/X.s₀.heap.objs.size<=b)/\b≠X.env.locals/\(∀x c,X.env.cells.lookup x=some c->c≠b)/\∀p∈X.pn++pins,p.1≠b):Inv X pins σ H' s':=by
 obtain⟨h',g',d',t',o'⟩:=s';have e:o'=s.os:=ho;subst e;exact I.call (g':=g') (t':=t') (d':=d') u hok hg Hb
end
abbrev XK:=Value->Option Addr->Hp->Prop
abbrev St:=List (Option V)
abbrev VK:=V->Hp->Prop
abbrev TE:=St->Hp->VK->Prop
abbrev TT:=St->Hp->(Bool->Hp->Prop)->Prop
abbrev TA:=St->Hp->(List V->Hp->Prop)->Prop
structure Ends where
 nx:St->Hp->Prop
 rt:VK
 bk:St->Hp->Prop:=fun _ _=>False
 ct:St->Hp->Prop:=fun _ _=>False
abbrev TS:=Ends->St->Hp->Prop
def EP(X:Cx)(pins:Aaa)(σ:St)(Q:VK)(u:Value)(s':Shared):Prop:=∃v H',Inv X pins σ H' s'/\RelV v u/\Q v H'
def TP(X:Cx)(pins:Aaa)(σ:St)(Q:Bool->Hp->Prop)(b:Bool)(s':Shared):Prop:=∃H',Inv X pins σ H' s'/\Q b H'
def AP(X:Cx)(pins:Aaa)(σ:St)(Q:List V->Hp->Prop)(us:List Value)(s':Shared):Prop:=∃vs H',Inv X pins σ H' s'/\Vals vs us/\Q vs H'
def SP(X:Cx)(pins:Aaa)(D:Ends)(f:Flow)(s':Shared):Prop:=
 match f with
 | .next=>∃cN H',Inv X pins cN H' s'/\D.nx cN H'
 | .brk=>∃cN H',Inv X pins cN H' s'/\D.bk cN H'
 | .cont=>∃cN H',Inv X pins cN H' s'/\D.ct cN H'
 | .ret u=>∃v cN H',Inv X pins cN H' s'/\RelV v u/\D.rt v H'
def PE(X:Cx)(e:Expr)(t:TE):Prop:=
 ∀(pins:Aaa) (s:Shared) (σ:St) (H:Hp) (Q:VK),Inv X pins σ H s->t σ H Q->wpAny (model X.prog X.w) X.A (eval e X.env) (EP X pins σ Q) X.xe s
def PT(X:Cx)(e:Expr)(t:TT):Prop:=
 ∀(pins:Aaa) (s:Shared) (σ:St) (H:Hp) (Q:Bool->Hp->Prop),Inv X pins σ H s->t σ H Q->wpAny (model X.prog X.w) X.A (isTrue e X.env (eval e X.env)) (TP X pins σ Q) X.xe s
def PW(X:Cx)(e:Expr)(t:TT):Prop:=
 ∀(whole:Sem Value) (pins:Aaa) (s:Shared) (σ:St) (H:Hp) (Q:Bool->Hp->Prop),Inv X pins σ H s->t σ H Q->wpAny (model X.prog X.w) X.A (isTrue e X.env whole) (TP X pins σ Q) X.xe s
theorem PW.pt{X:Cx}{t:TT}(h:PW X e t):PT X e t:=h _
def PA(X:Cx)(es:List Expr)(t:TA):Prop:=
 ∀(pos:Pos) (pins:Aaa) (s:Shared) (σ:St) (H:Hp) (Q:List V->Hp->Prop),Inv X pins σ H s->t σ H Q->wpAny (model X.prog X.w) X.A (spliced (backTo pos (starEach es X.env))) (AP X pins σ Q) X.xe s
def PS(X:Cx)(st:Stmt)(t:TS):Prop:=
 ∀(pins:Aaa) (s:Shared) (σ:St) (H:Hp) (D:Ends),Inv X pins σ H s->t D σ H->wpAny (model X.prog X.w) X.A (exec st X.env) (SP X pins D) X.xe s
def u7(X:Cx)(st:List Stmt)(t:TS):Prop:=
 ∀(pins:Aaa) (s:Shared) (σ:St) (H:Hp) (D:Ends),Inv X pins σ H s->t D σ H->wpAny (model X.prog X.w) X.A (execs st X.env) (SP X pins D) X.xe s
theorem c6{α:Type}{t:Sem α}{Q Q':α->Shared->Prop}{M:Model}{E:Aab}{s:Shared}(h:wpAny M A t Q E s)(hQ:∀a s,Q a s->Q' a s):wpAny M A t Q' E s:=wpAny_mono h hQ fun _ _ x=>x
section
variable {X:Cx}
def QS(i:Nat):TE:=fun σ H Q=>∃v,σ[i]? =some (some v)/\Q v H
def tC(v:V):TE:=fun _ H Q=>Q v H
theorem wF{i:Nat}{pos:Pos}(hN:X.N[i]? =some x)(hv:Ka X.env.scope x)(hd:(x==("__debug__":Str))=false:=by decide)(uH:(x==("__classdict__":Str))=false:=by decide):PE X (.Name x pos) (QS i):=by
 intro pins s σ H Q I h;obtain⟨v,e,h⟩:=h;obtain⟨m,hn,hl⟩:=I.loc;obtain⟨u,r,l⟩:=hl i x v hN e hv;have fin:EP X pins σ Q u s:=⟨v,H,I,r,h⟩;rcases l with⟨hk,hm⟩ | ⟨hk,c,hc,hcell⟩
 .exact wpAny_Name (wpAny_loadName_local I.ok.kind hk hn hm fin) hd
 .rcases hk with hk | hk
  .exact wpAny_Name (wpAny_loadName_cell I.ok.kind hk hc hcell fin) hd
  .exact wpAny_Name (wpAny_loadName_free I.ok.kind hk hc hcell fin uH) hd
theorem tY{i j pos}:PE X (.Constant (.int i) j pos) (tC (.int i)):=fun _ _ _ H _ I h=>wpAny_Constant_int ⟨.int i,H,I.tok _,⟨_,rfl⟩,h⟩
theorem Of{b j pos}:PE X (.Constant (.bool b) j pos) (tC (.bl b)):=fun _ _ _ H _ I h=>Constant_bool ⟨.bl b,H,I,rfl,h⟩
theorem si{x j pos}:PE X (.Constant (.str x) j pos) (tC (.str x)):=fun _ _ _ H _ I h=>Calls.Constant_str ⟨.str x,H,I.tok _,⟨_,rfl⟩,h⟩
def Gl(X:Cx)(x:Str):Prop:=X.env.kindOf x=some .globalImplicit
theorem AS{E:Aab}{pins:Aaa}{s:Shared}{σ:St}{H:Hp}{x:Str}{u:Value}{pos:Pos}{Q:Aab}(I:Inv X pins σ H s)(hg:Gl X x)(hm:X.mg x=some u)(h:Q u s)
 (hd:(x==("__debug__":Str))=false:=by decide):wpAny (model X.prog X.w) X.A (eval (.Name x pos) X.env) Q E s:=
 Calls.Name_function_global I.ok.kind hg (Calls.loadGlobal_global (by rw[I.ok.glob];exact I.mod.glob.keeps I.bk) hm h) hd
theorem iq{E:Aab}{pins:Aaa}{s:Shared}{σ:St}{H:Hp}{x:Str}{u:Value}{pos:Pos}{Q:Aab}(I:Inv X pins σ H s)(hg:Gl X x)(hm:X.mg x=none)(hv:bootBuiltins x=some u)(h:Q u s)
 (hn:x≠"__name__":=by decide) (hd:(x==("__debug__":Str))=false:=by decide):wpAny (model X.prog X.w) X.A (eval (.Name x pos) X.env) Q E s:=by
 obtain⟨mb,h1,h2⟩:=I.mod.blt;exact Calls.Name_function_global I.ok.kind hg (Calls.loadGlobal_builtin (by rw[I.ok.glob];exact I.mod.glob.keeps I.bk) hm (by rw[I.ok.blt];exact h1.keeps I.bk) ((h2 x hn).trans hv) h) hd
theorem Jt{v:V}{u:Value}{pos:Pos}(hg:Gl X x)(hm:X.mg x=none)(hv:bootBuiltins x=some u)(r:RelV v u)(hn:x≠"__name__":=by decide)(hd:(x==("__debug__":Str))=false:=by decide):PE X (.Name x pos) (tC v):=
 fun _ _ _ H _ I h=>iq I hg hm hv ⟨v,H,I,r,h⟩ hn hd
def P4(ta tb:TE)(k:Int->Int->Hp->Prop):St->Hp->Prop:=fun σ H=>ta σ H fun x H1=>tb σ H1 fun y H2=>∃i j,x= .int i/\y= .int j/\k i j H2
def Wr(ta tb:TE):TE:=fun σ H Q=>P4 ta tb (fun i j H2=>Q (.int (i+j)) H2) σ H
def WA(ta tb:TE):TE:=fun σ H Q=>P4 ta tb (fun i j H2=>Q (.int (i - j)) H2) σ H
def Xs(ta tb:TE):TE:=fun σ H Q=>P4 ta tb (fun i j H2=>(-(2 ^ 64) < i/\i < 2 ^ 64)/\Q (.int (i*j)) H2) σ H
variable {a b:Expr} {ta tb:TE} {pos:Pos}
def PC(X:Cx)(op:CmpOp)(a b:Expr)(t:TE):Prop:=
 ∀(pins:Aaa) (s:Shared) (σ:St) (H:Hp) (Q:VK),Inv X pins σ H s->t σ H Q->
  wpAny (model X.prog X.w) X.A (eval a X.env) (fun v s₁=>wpAny (model X.prog X.w) X.A (eval b X.env) (fun u MV=>wpAny (model X.prog X.w) X.A (compareOp op v u) (EP X pins σ Q) X.xe MV) X.xe s₁) X.xe s
def Cd(p:Int->Int->Bool)(ta tb:TE):TE:=fun σ H Q=>P4 ta tb (fun i j H2=>Q (.bl (p i j)) H2) σ H
abbrev ZV:TE->TE->TE:=Cd fun i j=>decide (i < j)
abbrev ZH:TE->TE->TE:=Cd fun i j=>decide (i<=j)
abbrev Zo:TE->TE->TE:=Cd fun i j=>decide (j < i)
abbrev ZP:TE->TE->TE:=Cd fun i j=>decide (j<=i)
abbrev Wh:TE->TE->TE:=Cd fun i j=>decide (i=j)
abbrev Wq:TE->TE->TE:=Cd fun i j=>!decide (i=j)
def Xp(ta:TE):TE:=fun σ H Q=>ta σ H fun x H1=>Q (.bl (decide (x= .cR))) H1
def Ua(ta:TE):TE:=fun σ H Q=>ta σ H fun x H1=>Q (.bl (!decide (x= .cR))) H1
def tB(t:TE):TT:=fun σ H Q=>t σ H fun x H1=>∃c,x= .bl c/\Q c H1
variable {tA Qs:TT} {rest:List Expr}
def Rx(t u:TT):TT:=fun σ H Q=>t σ H fun c H1=>if c=true then u σ H1 Q else Q false H1
def XI(t u:TT):TT:=fun σ H Q=>t σ H fun c H1=>if c=true then Q true H1 else u σ H1 Q
def Qy(t:TT):TT:=fun σ H Q=>t σ H fun c H1=>Q (!c) H1
theorem AW(ha:PT X a tA):PW X (.BoolOp .And [a] pos) tA:=by
 intro wh pins s σ H Q I h;refine isTrue_and (c6 (ha pins s σ H Q I h) fun c s1 e=>?_)
 cases c with
 | true=>exact isTrue_and_nil e
 | false=>exact e
theorem FC(ha:PT X a tA):PW X (.BoolOp .Or [a] pos) tA:=by
 intro wh pins s σ H Q I h;refine isTrue_or (c6 (ha pins s σ H Q I h) fun c s1 e=>?_)
 cases c with
 | false=>exact isTrue_or_nil e
 | true=>exact e
theorem Ez(ha:PT X a tA)(hb:PW X (.BoolOp .And (b ::rest) pos) Qs):PW X (.BoolOp .And (a ::b ::rest) pos) (Rx tA Qs):=by
 intro wh pins s σ H Q I h;refine isTrue_and (c6 (ha pins s σ H _ I h) fun c s1 ⟨H1,I1,q1⟩=>?_)
 cases c with
 | true=>exact hb wh pins s1 σ H1 Q I1 q1
 | false=>exact⟨H1,I1,q1⟩
theorem JZ(ha:PT X a tA)(hb:PW X (.BoolOp .Or (b ::rest) pos) Qs):PW X (.BoolOp .Or (a ::b ::rest) pos) (XI tA Qs):=by
 intro wh pins s σ H Q I h;refine isTrue_or (c6 (ha pins s σ H _ I h) fun c s1 ⟨H1,I1,q1⟩=>?_)
 cases c with
 | true=>exact⟨H1,I1,q1⟩
 | false=>exact hb wh pins s1 σ H1 Q I1 q1
theorem Er(ha:PT X a tA):PT X (.UnaryOp .Not a pos) (Qy tA):=by
 intro pins s σ H Q I h;exact isTrue_not (ha pins s σ H (fun c H1=>Q (!c) H1) I h)
def OE(ta tb:TE):TE:=fun σ H Q=>ta σ H fun x H1=>∃c,x= .bl c/\if c=true then tb σ H1 Q else Q (.bl false) H1
def QY(ta tb:TE):TE:=fun σ H Q=>ta σ H fun x H1=>∃c,x= .bl c/\if c=true then Q (.bl true) H1 else tb σ H1 Q
def UR(ta:TE):TE:=fun σ H Q=>ta σ H fun x H1=>∃c,x= .bl c/\Q (.bl (!c)) H1
theorem Mg{op}{t:TE}(h:PE X a t):PE X (.BoolOp op [a] pos) t:=fun pins s σ H Q I hw=>BoolOp_one (h pins s σ H Q I hw)
theorem Mc(ha:PE X a ta)(hb:PE X (.BoolOp .And (b ::rest) pos) tb):PE X (.BoolOp .And (a ::b ::rest) pos) (OE ta tb):=by
 intro pins s σ H Q I h;refine BoolOp_and (c6 (ha pins s σ H _ I h) fun v s1 ⟨x,H1,I1,r1,q1⟩=>?_)
 obtain⟨c,rfl,q1⟩:=q1;cases r1;refine wpAny_truthy_bool ?_;cases c with
 | true=>exact hb pins s1 σ H1 Q I1 q1
 | false=>exact⟨.bl false,H1,I1,rfl,q1⟩
theorem O0(ha:PE X a ta)(hb:PE X (.BoolOp .Or (b ::rest) pos) tb):PE X (.BoolOp .Or (a ::b ::rest) pos) (QY ta tb):=by
 intro pins s σ H Q I h;refine BoolOp_or (c6 (ha pins s σ H _ I h) fun v s1 ⟨x,H1,I1,r1,q1⟩=>?_)
 obtain⟨c,rfl,q1⟩:=q1;cases r1;refine wpAny_truthy_bool ?_;cases c with
 | false=>exact hb pins s1 σ H1 Q I1 q1
 | true=>exact⟨.bl true,H1,I1,rfl,q1⟩
def Wy(t:TT)(ta tb:TE):TE:=fun σ H Q=>t σ H fun c H1=>if c=true then ta σ H1 Q else tb σ H1 Q
theorem EH(hc:PT X c tA)(ha:PE X a ta)(hb:PE X b tb):PE X (.IfExp c a b pos) (Wy tA ta tb):=by
 intro pins s σ H Q I h;refine wpAny_IfExp (c6 (hc pins s σ H _ I h) fun d s1 ⟨H1,I1,q1⟩=>?_)
 cases d with
 | true=>exact ha pins s1 σ H1 Q I1 q1
 | false=>exact hb pins s1 σ H1 Q I1 q1
end
def oR(K:W.Frag)(H:Hp)(a:Addr)(xs:List V):Prop:=
 Rd H a (.lst xs)\/
  ∃(o:Obj) (its:Array Value) (n:Nat),K.lookup a=some o/\o.cls= .type "list"/\o.dict=none/\o.data= .seq its n/\its.size<=sizeLine/\Vals xs its.toList
def p8(K:W.Frag)(H:Hp)(a:Addr)(xs:List V):Prop:=
 Rd H a (.tup xs)\/
  ∃(o:Obj) (its:Array Value) (n:Nat),K.lookup a=some o/\o.cls= .type "tuple"/\o.data= .seq its n/\its.size<=sizeLine/\Vals xs its.toList
def Qz:Value->Option V
 | .none=>some .cR
 | .bool b=>some (.bl b)
 | .int i _=>some (.int i)
 | .str x _=>some (.str x)
 | .bytes b _=>some (.byt b)
 | .float b _=>some (.flt b)
 | .ref a=>some (.ref a)
 | .type n=>some (.ty n)
 | _=>none
theorem RelV.abs{x:V}{u:Value}(r:RelV x u):Qz u=some x:=by
 cases x with
 | cR=>cases r;rfl
 | bl _=>cases r;rfl
 | int _=>obtain⟨t,rfl⟩:=r;rfl
 | str _=>obtain⟨t,rfl⟩:=r;rfl
 | byt _=>obtain⟨t,rfl⟩:=r;rfl
 | flt _=>obtain⟨t,rfl⟩:=r;rfl
 | ref _=>cases r;rfl
 | ty _=>cases r;rfl
theorem RelV.inj{x y:V}{u:Value}(r:RelV x u)(q:RelV y u):x=y:=Option.some.inj (r.abs.symm.trans q.abs)
theorem Vals.inj:∀{xs ys:List V} {us:List Value},Vals xs us->Vals ys us->xs=ys
 | _,_,_, .nil, .nil=>rfl
 | _,_,_, .cons r t, .cons r' t'=>by rw[r.inj r',Vals.inj t t']
section
variable {X:Cx} {pins:Aaa} {σ:St} {H:Hp} {s:Shared} {a:Addr} {xs ys:List V}
theorem oR.of{K:W.Frag}(h:H a=some (.lst xs)):oR K H a xs:= .inl (.inl h)
theorem Inv.list(I:Inv X pins σ H s)(h:oR X.K H a xs):∃its:List Value,Vals xs its/\PlainL s.heap a its.toArray/\xs.length<=sizeLine:=by
 rcases h with h | ⟨o,its,n,hk,hc,hd,hs,hz,r⟩
 .obtain⟨z,its,n,r,e⟩:=h.ok I.hok;exact⟨its,r,⟨_,n,e,rfl,rfl,rfl⟩,z⟩
 .refine⟨its.toList,r,⟨o,n,I.pX a o hk,hc,hd,by simpa using hs⟩,?_⟩
  have e:=r.length;simp only[Array.length_toList] at e;omega
theorem Inv.tuple(I:Inv X pins σ H s)(h:p8 X.K H a xs):∃its:List Value,Vals xs its/\IsTup s.heap a its.toArray/\xs.length<=sizeLine:=by
 rcases h with h | ⟨o,its,n,hk,hc,hs,hz,r⟩
 .obtain⟨z,its,r,p⟩:=h.ok I.hok;exact⟨its,r,p,z⟩
 .refine⟨its.toList,r,⟨o,I.pX a o hk,hc,n,by simpa using hs⟩,?_⟩
  have e:=r.length;simp only[Array.length_toList] at e;omega
theorem Inv.o_(I:Inv X pins σ H s)(h:oR X.K H a xs)(h':oR X.K H a ys):xs=ys:=by
 obtain⟨its,r,⟨o,n,e,_,_,d⟩,_⟩:=I.list h;obtain⟨its',r',⟨o',n',e',_,_,d'⟩,_⟩:=I.list h';rw[e] at e';cases e';rw[d] at d';injection d' with d1 _
 have:its=its':=by simpa using congrArg Array.toList d1
 subst this;exact r.inj r'
theorem Inv.qd(I:Inv X pins σ H s)(h:p8 X.K H a xs)(h':p8 X.K H a ys):xs=ys:=by
 obtain⟨its,r,⟨o,e,_,n,d⟩,_⟩:=I.tuple h;obtain⟨its',r',⟨o',e',_,n',d'⟩,_⟩:=I.tuple h';rw[e] at e';cases e';rw[d] at d';injection d' with d1 _
 have:its=its':=by simpa using congrArg Array.toList d1
 subst this;exact r.inj r'
end
abbrev Cx.ui(X:Cx)(E:Aab):Cx:={X with xe:=E}
abbrev Cx.Eu(X:Cx):Cx:=X.ui fun _ _=>False
theorem Cx.Ok.ui{X:Cx}(ok:X.Ok)(E:Aab):(X.ui E).Ok:=
 ⟨ok.mod,ok.kind,ok.glob,ok.blt,ok.above,ok.inj,ok.has,ok.cab,ok.hd,ok.frames,ok.stk,ok.exf,ok.bs,ok.bsz,ok.noex,ok.exfs,ok.rD,ok.frf⟩
theorem Cx.Ok.ma{X:Cx}{E:Aab}(ok:(X.ui E).Ok):X.Ok:=
 ⟨ok.mod,ok.kind,ok.glob,ok.blt,ok.above,ok.inj,ok.has,ok.cab,ok.hd,ok.frames,ok.stk,ok.exf,ok.bs,ok.bsz,ok.noex,ok.exfs,ok.rD,ok.frf⟩
section
variable {X:Cx} {pins:Aaa} {σ:St} {H:Hp} {s:Shared} {E:Aab}
theorem Inv.ui(I:Inv X pins σ H s)(E:Aab):Inv (X.ui E) pins σ H s:=⟨I.ok.ui E,I.os,I.bare,I.base,I.loc,I.cell,I.free,I.freeC,I.pin,I.hok,I.len⟩
theorem Inv.ma(I:Inv (X.ui E) pins σ H s):Inv X pins σ H s:=⟨I.ok.ma,I.os,I.bare,I.base,I.loc,I.cell,I.free,I.freeC,I.pin,I.hok,I.len⟩
theorem SP.ma{D:Ends}{f:Flow}{s':Shared}(h:SP (X.ui E) pins D f s'):SP X pins D f s':=by
 cases f with
 | next=>obtain⟨cN,H',I,q⟩:=h;exact⟨cN,H',I.ma,q⟩
 | brk=>obtain⟨cN,H',I,q⟩:=h;exact⟨cN,H',I.ma,q⟩
 | cont=>obtain⟨cN,H',I,q⟩:=h;exact⟨cN,H',I.ma,q⟩
 | ret u=>obtain⟨v,cN,H',I,r,q⟩:=h;exact⟨v,cN,H',I.ma,r,q⟩
theorem u7.Eu{st:List Stmt}{t:TS}(h:u7 X.Eu st t):u7 X st t:=fun pins s σ H D I hw=>
 wpAny_mono (h pins s σ H D (I.ui _) hw) (fun _ _ q=>q.ma) fun _ _ z=>False.elim z
end
section
variable {X:Cx} {st:Stmt} {rest:List Stmt} {t u:TS} {e:Expr} {te:TE} {pos:Pos}
def ON:TS:=fun D σ H=>D.nx σ H
def N1(t u:TS):TS:=fun D σ H=>t {D with nx:=u D} σ H
theorem AX:u7 X [] ON:=fun _ _ σ H _ I h=>wpAny_execs_nil ⟨σ,H,I,h⟩
theorem xI(h1:PS X st t)(h2:u7 X rest u):u7 X (st ::rest) (N1 t u):=by
 intro pins s σ H D I h;refine wpAny_execs_cons (c6 (h1 pins s σ H {D with nx:=u D} I h) fun f s1 q=>?_)
 cases f with
 | next=>
   obtain⟨cN,H',I',q⟩:=q;exact h2 pins s1 cN H' D I' q
 | ret v=>exact q
 | brk=>exact q
 | cont=>exact q
theorem AI(h1:PS X st t):u7 X [st] t:=by
 intro pins s σ H D I h;refine wpAny_execs_cons (c6 (h1 pins s σ H D I h) fun f s1 q=>?_)
 cases f with
 | next=>exact wpAny_execs_nil q
 | ret v=>exact q
 | brk=>exact q
 | cont=>exact q
def Rm:TS:=fun D σ H=>D.bk σ H
def Uu:TS:=fun D σ H=>D.ct σ H
theorem Inv.quiet{pins:Aaa}{s:Shared}(I:Inv X pins σ H s):interactive X.env=false:=by simp [interactive,I.ok.kind]
def OK(te:TE):TS:=fun D σ H=>te σ H fun _ H1=>D.nx σ H1
theorem AF(he:PE X e te)(hs:swapsWith e none pos.line X.env=pure false:=by rfl):PS X (.Expr e pos) (OK te):=by
 intro pins s σ H D I h;exact wpAny_Expr_any (c6 (he pins s σ H _ I h) fun v s1 ⟨x,H1,I1,r1,q1⟩=>⟨σ,H1,I1,q1⟩) I.quiet hs
def R8(te:TE):TS:=fun D σ H=>te σ H D.rt
theorem Ga(he:PE X e te):PS X (.Return (some e) pos) (R8 te):=by
 intro pins s σ H D I h;exact wpAny_Return_some (c6 (he pins s σ H _ I h) fun v s1 ⟨x,H1,I1,r1,q1⟩=>⟨x,σ,H1,I1,r1,q1⟩)
def TZ:TS:=fun D _ H=>D.rt .cR H
def QL(c:TT)(t u:TS):TS:=fun D σ H=>c σ H fun b H1=>if b=true then t D σ H1 else u D σ H1
theorem JR{tc:TT}(hc:PT X c tc)(ha:u7 X a t)(hb:u7 X b u):PS X (.If c a b pos) (QL tc t u):=by
 intro pins s σ H D I h;refine wpAny_If (c6 (hc pins s σ H _ I h) fun d s1 ⟨H1,I1,q1⟩=>?_)
 cases d with
 | true=>exact ha pins s1 σ H1 D I1 q1
 | false=>exact hb pins s1 σ H1 D I1 q1
def QF:TS:=fun _ _ _=>False
end
abbrev TG:=V->St->Hp->(St->Hp->Prop)->Prop
abbrev Eh:=List V->St->Hp->(St->Hp->Prop)->Prop
def PG(X:Cx)(target:Expr)(t:TG):Prop:=
 ∀(pins:Aaa) (s:Shared) (σ:St) (H:Hp) (v:V) (u:Value) (Q:St->Hp->Prop),Inv X pins σ H s->RelV v u->t v σ H Q->
  wpAny (model X.prog X.w) X.A (assign target X.env u) (fun _ s'=>∃cN H',Inv X pins cN H' s'/\Q cN H') X.xe s
def II(X:Cx)(ts:List Expr)(t:Eh):Prop:=
 ∀(pins:Aaa) (s:Shared) (σ:St) (H:Hp) (vs:List V) (us:List Value) (Q:St->Hp->Prop),Inv X pins σ H s->Vals vs us->t vs σ H Q->
  wpAny (model X.prog X.w) X.A (assignInOrder ((assignEach ts X.env).map (·.2)) us) (fun _ s'=>∃cN H',Inv X pins cN H' s'/\Q cN H') X.xe s
abbrev HI:=V->V->V->Hp->(Hp->Prop)->Prop
def O1(X:Cx)(t:HI):Prop:=
 ∀(pins:Aaa) (s:Shared) (σ:St) (H:Hp) (o i v:V) (ov iv u:Value) (Q:Hp->Prop),Inv X pins σ H s->RelV o ov->RelV i iv->RelV v u->t o i v H Q->
  wpAny (model X.prog X.w) X.A (setItem ov iv u) (fun _ s'=>∃H',Inv X pins σ H' s'/\Q H') X.xe s
abbrev P1:=V->V->Hp->VK->Prop
def ZR(X:Cx)(op:Operator)(t:P1):Prop:=
 ∀(pins:Aaa) (s:Shared) (σ:St) (H:Hp) (x y:V) (v u:Value) (Q:VK),Inv X pins σ H s->RelV x v->RelV y u->t x y H Q->
  wpAny (model X.prog X.w) X.A (inplaceOp op v u) (EP X pins σ Q) X.xe s
section
variable {X:Cx} {pos:Pos}
def sI(i:Nat):TG:=fun v σ H Q=>Q (σ.set i (some v)) H
theorem Bp{i:Nat}(hN:X.N.Nodup)(hi:X.N[i]? =some x)(hx:Loc X.env.scope x)(hf:X.fn x=true\/X.env.scope.names.lookup x=some .local:=by first | exact .inl rfl | exact .inr rfl | assumption):PG X (.Name x pos) (sI i):=by
 intro pins s σ H v u Q I r h;exact wpAny_assign_Name (xD I hN hi hx r (fun s' I'=>⟨_,H,I',h⟩) hf)
def RD:Eh:=fun vs σ H Q=>vs=[]/\Q σ H
def O5(t:TG)(u:Eh):Eh:=fun vs σ H Q=>∃v r,vs=v ::r/\t v σ H fun cN H'=>u r cN H' Q
theorem A7:II X [] RD:=by
 intro pins s σ H vs us Q I r h;obtain⟨e,h⟩:=h;subst e;cases r;exact assignInOrder_nil ⟨σ,H,I,h⟩
theorem yc{e:Expr}{es:List Expr}{t:TG}{u:Eh}(h1:PG X e t)(h2:II X es u)
 (hs:(assignEach (e ::es) X.env).map (·.2)=assign e X.env ::(assignEach es X.env).map (·.2):=by rfl):II X (e ::es) (O5 t u):=by
 intro pins s σ H vs us Q I r h;obtain⟨v,vr,e1,h⟩:=h;subst e1;cases r with
 | cons r rr=>
   rw[hs];refine assignInOrder_cons (c6 (h1 pins s σ H _ _ _ I r h) fun _ s1 ⟨Hh,H1,I1,q1⟩=>?_)
   exact h2 pins s1 Hh H1 _ _ Q I1 rr q1
def Qu(K:W.Frag)(n:Nat)(t:Eh):TG:=fun v σ H Q=>∃a xs,v= .ref a/\p8 K H a xs/\xs.length=n/\t xs σ H Q
theorem Fy{es:List Expr}{k:Nat}{t:Eh}{n:Nat}(hc:X.calm=true)(h:II X es t)
 (hn:(assignEach es X.env).length=n:=by rfl) (Ap:(assignEach es X.env).findIdx? (·.1)=none:=by rfl):PG X (.Tuple es k pos) (Qu X.K n t):=by
 intro pins s σ H v u Q I r hw;obtain⟨a,xs,e1,hq,hl,hw⟩:=hw;subst e1;cases r;obtain⟨its,rv,ht,hz⟩:=I.tuple hq;refine assign_Tuple_tuple (I.ok.hd hc) ht (by simp [hn,<-hl,rv.length]) Ap fun h' hx=>?_
 have I1:Inv X pins σ H {s with heap:=h'}:=I.kept (t':=s.toks) fun b o e=>hx b o (Nat.ne_of_lt (Heap.lt_size e)) e
 exact h pins _ σ H xs _ Q I1 (by simpa using rv) hw
def OQ(to ti:TE)(t:HI):TG:=fun v σ H Q=>to σ H fun o H1=>ti σ H1 fun i H2=>t o i v H2 fun H3=>Q σ H3
theorem vM{o i:Expr}{to ti:TE}{t:HI}(ho:PE X o to)(hi:PE X i ti)(hs:O1 X t)
 (ha:∀v,assign (.Subscript o i pos) X.env v=(do
   let ov <-holding [v] (eval o X.env)
   let iv <-holding [v,ov] (eval i X.env)
   standAt pos
   holding [v,ov,iv] (setItem ov iv v)
   release [v,ov,iv] []):=by intro _;rfl):PG X (.Subscript o i pos) (OQ to ti t):=by
 intro pins s σ H v u Q I r h;rw[ha];refine wpAny_bind (wpAny_holding (c6 (ho pins s σ H _ I h) fun ov s1 ⟨x,H1,I1,r1,q1⟩=>?_))
 refine wpAny_bind (wpAny_holding (c6 (hi pins s1 σ H1 _ I1 q1) fun iv s2 ⟨y,H2,I2,r2,q2⟩=>?_))
 refine wpAny_bind (wpAny_standAt (wpAny_bind (wpAny_holding (c6 (hs pins s2 σ H2 x y v ov iv u _ I2 r1 r2 r q2) fun _ s3 ⟨H3,I3,q3⟩=>?_))))
 exact wpAny_release ⟨σ,H3,I3,q3⟩
def Dc(te:TE)(g:TG):TS:=fun D σ H=>te σ H fun x H1=>g x σ H1 D.nx
theorem zo{tg e:Expr}{te:TE}{g:TG}(he:PE X e te)(hg:PG X tg g)(hs:swapsWithSole [tg] e pos.line X.env=pure false:=by rfl)(hw:swappedStores [tg] e X.env=pure none:=by rfl)
 (h1:(assignEach [tg] X.env).map (·.2)=[assign tg X.env]:=by rfl):PS X (.Assign [tg] e pos) (Dc te g):=by
 intro pins s σ H D I h;refine wpAny_Assign_stores (c6 (he pins s σ H _ I h) fun v s1 ⟨x,H1,I1,r1,q1⟩=>?_) hs hw
 rw[h1];exact c6 (hg pins s1 σ H1 x v _ I1 r1 q1) fun _ s2 q=>q
theorem zN{i:Nat}{te:TE}(hN:X.N.Nodup)(hi:X.N[i]? =some x)(hx:Loc X.env.scope x)(he:PE X e te)(hs:swapsWith e (some (.Name x pos')) pos.line X.env=pure false:=by rfl)(hf:X.fn x=true\/X.env.scope.names.lookup x=some .local:=by first | exact .inl rfl | exact .inr rfl | assumption) :
 PS X (.Assign [.Name x pos'] e pos) (Dc te (sI i)):=by
 intro pins s σ H D I h;refine wpAny_Assign_Name (c6 (he pins s σ H _ I h) fun v s1 ⟨y,H1,I1,r1,q1⟩=>?_) hs
 exact xD I1 hN hi hx r1 (fun s2 I2=>⟨_,H1,I2,q1⟩) hf
def V1(i j:Nat)(ta:TA):TS:=fun D σ H=>ta σ H fun vs H1=>∃v w,vs=[v,w]/\D.nx ((σ.set i (some v)).set j (some w)) H1
def Xk(i:Nat)(te:TE)(ti:P1):TS:=fun D σ H=>∃x,σ[i]? =some (some x)/\te σ H fun y H1=>ti x y H1 fun z H2=>D.nx (σ.set i (some z)) H2
def U4(to ti te:TE)(TJ:V->V->Hp->VK->Prop)(X3:P1)(Sy:HI):TS:=fun D σ H=>to σ H fun o H1=>ti σ H1 fun i H2=>TJ o i H2 fun x H3=>te σ H3 fun y H4=>X3 x y H4 fun z H5=>Sy o i z H5 fun H6=>D.nx σ H6
def Wv(X:Cx)(t:V->V->Hp->VK->Prop):Prop:=
 ∀(pins:Aaa) (s:Shared) (σ:St) (H:Hp) (o i:V) (ov iv:Value) (Q:VK),Inv X pins σ H s->RelV o ov->RelV i iv->t o i H Q->
  wpAny (model X.prog X.w) X.A (getItem ov iv) (EP X pins σ Q) X.xe s
def Zz(f:Int->Int->Int):P1:=fun x y H Q=>∃i j,x= .int i/\y= .int j/\Q (.int (f i j)) H
end
section
variable {X:Cx} {pos:Pos}
def MA(c:TT)(tb:TS):TS:=fun D σ H=>∃W:Nat->St->Hp->Prop,(∃m,W m σ H)/\∀m σ H,W m σ H->
 c σ H fun b H1=>if b=true then ∃N:St->Hp->Prop,(∀cN H',N cN H'->∃m',m' < m/\W m' cN H')/\tb {D with nx:=N,ct:=N,bk:=D.nx} σ H1 else D.nx σ H1
theorem FK{tc:TT}{tb:TS}(hp:PassesOwn (model X.prog X.w) X.A X.env X.xe)(hc:PT X c tc)(hb:u7 X body tb):PS X (.While c body [] pos) (MA tc tb):=by
 intro pins s σ H D I h;obtain⟨W,⟨m0,w0⟩,turn⟩:=h;refine wpAny_While (codeAny_whileLoop (fun n s'=>∃cN H',Inv X pins cN H' s'/\W n cN H') ?_ m0 ⟨σ,H,I,w0⟩)
 rintro n s1 ⟨Hh,H1,I1,w1⟩;refine wpAny_passesOwn hp (c6 (hc pins s1 Hh H1 _ I1 (turn n Hh H1 w1)) fun b s2 ⟨H2,I2,q2⟩=>?_)
 cases b with
 | true=>
   obtain⟨N,hN,q2⟩:=q2;rw[if_pos rfl];refine wpAny_passesOwn hp (c6 (hb pins s2 Hh H2 _ I2 q2) fun f s3 q3=>?_)
   cases f with
   | next=>
     obtain⟨yW,H3,I3,n3⟩:=q3;obtain⟨m',hm,w3⟩:=hN yW H3 n3;exact⟨m',hm,yW,H3,I3,w3⟩
   | cont=>
     obtain⟨yW,H3,I3,n3⟩:=q3;obtain⟨m',hm,w3⟩:=hN yW H3 n3;exact⟨m',hm,yW,H3,I3,w3⟩
   | brk=>exact q3
   | ret v=>exact q3
 | false=>
   rw[if_neg Bool.false_ne_true];exact wpAny_execs_nil ⟨Hh,H2,I2,q2⟩
end
structure It where
 go:Nat->Hp->Prop
 yld:Nat->Hp->V->Hp->Prop
 stop:Nat->Hp->Prop
def rh(X:Cx)(pins:Aaa)(H:Hp)(b:Addr):Prop:=
 H b=none/\b≠X.env.locals/\b ∉ X.fs/\(b∈X.ex\/X.s₀.heap.objs.size<=b)/\(∀x c,X.env.cells.lookup x=some c->c≠b)/\∀p∈X.pn++pins,p.1≠b
theorem Inv.uD{X:Cx}{pins:Aaa}{H H':Hp}{s:Shared}{b:Addr}(I:Inv X pins σ H s)(hb:s.heap.objs.size<=b)(hn:H' b=none):rh X pins H' b:=by
 refine⟨hn,Nat.ne_of_gt (Nat.lt_of_lt_of_le I.lt hb),I.R9 hb, .inr (Nat.le_trans I.sz hb),fun x c e z=>?_,fun p hp z=>?_⟩
 .obtain⟨v,q⟩:=I.cell x c e;exact absurd (Nat.lt_of_lt_of_le q.lt (by rw[z];exact hb)) (Nat.lt_irrefl _)
 .exact absurd (Nat.lt_of_lt_of_le (Heap.lt_size (I.pin p hp).1) (by rw[z];exact hb)) (Nat.lt_irrefl _)
structure Turn (P:Program) (w:World) (K:W.Frag) (tg:Expr) (J:It) (fp:List Addr) (it:Addr) (tn:Nat->Heap->Prop):Prop where
 mem:it∈fp
 obj:∀i h,tn i h->∀b∈fp,∃o,h.get? b=some o/\∀v,o.data≠ .cell v
 keep:∀i h h',tn i h->(∀b∈fp,∀o,h.get? b=some o->h'.get? b=some o)->tn i h'
 item:∀(X:Cx),X.prog=P->X.w=w->X.K=K->X.calm=true->∀(i:Nat) (pins:Aaa) (s:Shared) (σ:St) (H:Hp) (E:Aab),Inv X pins σ H s->(∀b∈fp,rh X pins H b)->tn i s.heap->J.go i H->
  wpAny (model P w) X.A (pyNext (.ref it)) (fun r s1=>∃u,r=some u/\
   wpAny (model P w) X.A (letOwnedTupleGo tg (.ref it) u) (fun _ s2=>∃x H',Inv X pins σ H' s2/\RelV x u/\J.yld i H x H'/\tn (i+1) s2.heap/\∀b∈fp,H' b=none) E s1) E s
 done:∀(X:Cx),X.prog=P->X.w=w->X.K=K->X.calm=true->∀(i:Nat) (pins:Aaa) (s:Shared) (σ:St) (H:Hp) (E:Aab),Inv X pins σ H s->(∀b∈fp,rh X pins H b)->tn i s.heap->J.stop i H->
  wpAny (model P w) X.A (pyNext (.ref it)) (fun r s1=>r=none/\Inv X pins σ H s1) E s
 self:∀(A:Around) (i:Nat) (s:Shared) (Q:Aab) (E:Aab),tn i s.heap->Q (.ref it) s->wpAny (model P w) A (pyIter (.ref it)) Q E s
abbrev TI:=St->Hp->(It->Hp->Prop)->Prop
def Ux(X:Cx)(pins:Aaa)(σ:St)(tg:Expr)(R:It->Hp->Prop)(Qo:Value)(s2:Shared):Prop:=
 ∃(it:Addr) (fp:List Addr) (tn:Nat->Heap->Prop) (J:It) (H':Hp),Qo= .ref it/\Inv X pins σ H' s2/\Turn X.prog X.w X.K tg J fp it tn/\tn 0 s2.heap/\(∀b∈fp,rh X pins H' b)/\R J H'
def PI(X:Cx)(tg iter:Expr)(wi:TI):Prop:=
 ∀(pins:Aaa) (s:Shared) (σ:St) (H:Hp) (R:It->Hp->Prop),Inv X pins σ H s->wi σ H R->
  wpAny (model X.prog X.w) X.A (eval iter X.env) (fun v s1=>wpAny (model X.prog X.w) X.A (pyIter v) (Ux X pins σ tg R) X.xe s1) X.xe s
theorem Bc{M:Model}{A:Around}{E:Aab}{s:Shared}{tg:Expr}{it:Addr}{u:Value}{o:Obj}{n:String}{vs:Array Value}{Q:Unit->Shared->Prop}(ho:s.heap.get? it=some o)(hc:o.cls= .type n)(hd:o.data= .fields vs)
 (hn:["enumerate","zip","dict_itemiterator","dict_reverseitemiterator","odict_iterator","itertools.zip_longest","itertools.pairwise"].contains n=false) (hQ:Q () s):wpAny M A (letOwnedTupleGo tg (.ref it) u) Q E s:=by
 unfold letOwnedTupleGo;cases tg <;> first
  | exact wpAny_pure hQ
  | (cases u <;> first
      | exact wpAny_pure hQ
      | (refine wpAny_bind (wpAny_load ho ?_)
         rw[hc,hd];show wpAny M A (if(["enumerate","zip","dict_itemiterator","dict_reverseitemiterator","odict_iterator","itertools.zip_longest","itertools.pairwise"].contains n && vs[0]? ==some (rawInt _))=true then _ else _) Q E s
         rw[if_neg (by intro h;rw [hn,Bool.false_and] at h;cases h)]
         exact wpAny_pure hQ))
def T5(K:W.Frag)(a:Addr):It:=
 ⟨fun i H=>∃xs x,oR K H a xs/\xs[i]? =some x,fun i H x H'=>H'=H/\∀xs,oR K H a xs->xs[i]? =some x,fun i H=>∃xs,oR K H a xs/\xs.length<=i⟩
def T9(K:W.Frag)(a:Addr):It:=
 ⟨fun i H=>∃xs x,p8 K H a xs/\xs[i]? =some x,fun i H x H'=>H'=H/\∀xs,p8 K H a xs->xs[i]? =some x,fun i H=>∃xs,p8 K H a xs/\xs.length<=i⟩
def O9(lo:Int)(n:Nat):It:=⟨fun i _=>i < n,fun i H x H'=>H'=H/\x= .int (lo+i),fun i _=>n<=i⟩
theorem vb{K:W.Frag}(a it:Addr):Turn P w K tg (T5 K a) [it] it (fun i h=>h.IsListIter it a i) where
 mem:=by simp
 obj:=fun i h st b hb=>by
  have e:b=it:=by simpa using hb
  subst e;obtain⟨o,e,c,d⟩:=st;exact⟨o,e,fun v z=>by rw[d] at z;cases z⟩
 keep:=fun i h h' st k=>st.at fun o e=>k it (by simp) o e
 item:=by
  intro X hP hw hK hc i pins s σ H E I hf st hg;subst hP hw hK;obtain⟨xs,x,hq,hx⟩:=hg;obtain⟨its,rv,p,hz⟩:=I.list hq;obtain⟨u,hu,ru⟩:=rv.get hx;obtain⟨f0,f1,f2,f3,f4,f5⟩:=hf it (by simp)
  refine wpAny_pyNext_list_item st p.isList (x:=u) (by simpa using hu) fun h' GY sb=>?_
  have I1:Inv X pins σ H {s with heap:=h'}:=I.turned (t':=s.toks) (fun b o hb e=>(sb.2 b hb).trans e) f0 f1 f3 f4 f5
  obtain⟨o,e,c,d⟩:=id GY;exact⟨u,rfl,Bc (s:={s with heap:=h'}) e c d (by decide) ⟨x,H,I1,ru,⟨rfl,fun ys hy=>by rw[I.o_ hy hq];exact hx⟩,GY,fun b hb=>(hf b hb).1⟩⟩
 done:=by
  intro X hP hw hK hc i pins s σ H E I hf st hg;subst hP hw hK;obtain⟨xs,hq,hx⟩:=hg;obtain⟨its,rv,p,hz⟩:=I.list hq;obtain⟨f0,f1,f2,f3,f4,f5⟩:=hf it (by simp)
  have hl:=rv.length;exact wpAny_pyNext_list_end (I.ok.hd hc) st p.isList (by simp;omega) fun h' eb=>⟨rfl,I.turned (t':=s.toks) (fun b o hb e=>eb b o hb e) f0 f1 f3 f4 f5⟩
 self:=fun _ _ _ _ _ st h=>wpAny_pyIter_listiter st h
theorem yY{K:W.Frag}(a it:Addr):Turn P w K tg (T9 K a) [it] it (fun i h=>h.IsTupleIter it a i) where
 mem:=by simp
 obj:=fun i h st b hb=>by
  have e:b=it:=by simpa using hb
  subst e;obtain⟨o,e,c,d⟩:=st;exact⟨o,e,fun v z=>by rw[d] at z;cases z⟩
 keep:=fun i h h' st k=>st.at fun o e=>k it (by simp) o e
 item:=by
  intro X hP hw hK hc i pins s σ H E I hf st hg;subst hP hw hK;obtain⟨xs,x,hq,hx⟩:=hg;obtain⟨its,rv,p,hz⟩:=I.tuple hq;obtain⟨u,hu,ru⟩:=rv.get hx;obtain⟨f0,f1,f2,f3,f4,f5⟩:=hf it (by simp)
  refine wpAny_pyNext_tuple_item st (show s.heap.IsTuple a its.toArray from p) (x:=u) (by simpa using hu) fun h' GY sb=>?_
  have I1:Inv X pins σ H {s with heap:=h'}:=I.turned (t':=s.toks) (fun b o hb e=>(sb.2 b hb).trans e) f0 f1 f3 f4 f5
  obtain⟨o,e,c,d⟩:=id GY;exact⟨u,rfl,Bc (s:={s with heap:=h'}) e c d (by decide) ⟨x,H,I1,ru,⟨rfl,fun ys hy=>by rw[I.qd hy hq];exact hx⟩,GY,fun b hb=>(hf b hb).1⟩⟩
 done:=by
  intro X hP hw hK hc i pins s σ H E I hf st hg;subst hP hw hK;obtain⟨xs,hq,hx⟩:=hg;obtain⟨its,rv,p,hz⟩:=I.tuple hq;obtain⟨f0,f1,f2,f3,f4,f5⟩:=hf it (by simp)
  have hl:=rv.length;exact wpAny_pyNext_tuple_end (I.ok.hd hc) st (show s.heap.IsTuple a its.toArray from p) (by simp;omega) fun h' eb=>⟨rfl,I.turned (t':=s.toks) (fun b o hb e=>eb b o hb e) f0 f1 f3 f4 f5⟩
 self:=fun _ _ _ _ _ st h=>wpAny_pyIter_tupleiter st h
theorem zq{K:W.Frag}(it:Addr)(lo:Int)(n:Nat):Turn P w K tg (O9 lo n) [it] it (fun i h=>IsRangeIter h it (lo+(i:Nat)*1) ((n:Int) - (i:Nat)) 1) where
 mem:=by simp
 obj:=fun i h st b hb=>by
  have e:b=it:=by simpa using hb
  subst e;exact⟨_,st,fun v z=>by
   have z':Data.fields _=Data.cell v:=z;cases z'⟩
 keep:=fun i h h' st k=>k it (by simp) _ st
 item:=by
  intro X hP hw hK hc i pins s σ H E I hf st hg;subst hP hw hK;obtain⟨f0,f1,f2,f3,f4,f5⟩:=hf it (by simp)
  have W:=Walks.range (prog:=X.prog) (w:=X.w) (I.ok.hd hc) it lo 1 n;refine W.item i s _ _ hg st fun v h' tk hv GY kk=>?_
  obtain⟨t,rfl⟩:=hv;have I1:Inv X pins σ H {s with heap:=h',toks:=tk}:=I.turned (fun b o hb e=>kk b o (by simpa using hb) e) f0 f1 f3 f4 f5
  refine⟨_,rfl,Bc (s:={s with heap:=h',toks:=tk}) (n:="range_iterator") GY rfl rfl (by decide) ⟨.int (lo+i),H,I1,⟨t,?_⟩,⟨rfl,rfl⟩,GY,fun b hb=>(hf b hb).1⟩⟩
  rw[Int.mul_one]
 done:=by
  intro X hP hw hK hc i pins s σ H E I hf st hg;subst hP hw hK;obtain⟨f0,f1,f2,f3,f4,f5⟩:=hf it (by simp)
  exact wpAny_pyNext_range_end (I.ok.hd hc) st (by have:n<=i:=hg;omega) fun h' eb=>⟨rfl,I.turned (t':=s.toks) (fun b o hb e=>eb b o hb e) f0 f1 f3 f4 f5⟩
 self:=fun _ _ _ _ _ st h=>wpAny_pyIter_rangeiter st h
section
variable {X:Cx} {tg:Expr}
def Ve(K:W.Frag)(tl:TE):TI:=fun σ H R=>tl σ H fun x H1=>∃a,x= .ref a/\(∃xs,oR K H1 a xs)/\R (T5 K a) H1
def Q4(K:W.Frag)(tl:TE):TI:=fun σ H R=>tl σ H fun x H1=>∃a,x= .ref a/\(∃xs,p8 K H1 a xs)/\R (T9 K a) H1
theorem D4{pins:Aaa}{σ:St}{H:Hp}{s:Shared}{R:It->Hp->Prop}{E:Aab}{lo hi:Int}{t u v:Tok}{tk:Nat}(I:Inv X pins σ H s)(h1: -(2 ^ 62)<=lo)(h2:lo < 2 ^ 62)(h3: -(2 ^ 62)<=hi)(h4:hi < 2 ^ 62)
 (q:R (O9 lo (hi - lo).toNat) H):wpAny (model X.prog X.w) X.A (pyIter (.ref s.heap.objs.size)) (Ux X pins σ tg R) E {s with heap:=s.heap.push {cls:= .type "range",data:= .fields #[.int lo t, .int hi u, .int 1 v]},toks:=tk}:=by
 refine wpAny_pyIter_range (IsRange.new ..) (small_one h1 h2 h3 h4) ?_;have I1:Inv X pins σ H {s with heap:=s.heap.push {cls:= .type "range",data:= .fields #[.int lo t, .int hi u, .int 1 v]},toks:=tk}:=I.kept fun b o e=>Heap.get?_push_of_some _ e
 refine⟨(s.heap.push {cls:= .type "range",data:= .fields #[.int lo t, .int hi u, .int 1 v]}).objs.size,[(s.heap.push {cls:= .type "range",data:= .fields #[.int lo t, .int hi u, .int 1 v]}).objs.size],_,_,H,rfl,
  I1.kept (t':=tk) fun b o e=>Heap.get?_push_of_some _ e,zq _ lo (hi - lo).toNat,?_,fun b hb=>?_,q⟩
 .have e1:lo+((0:Nat):Int)*1=lo:=by simp
  have e2:(((hi - lo).toNat:Nat):Int) - ((0:Nat):Int)=Builtin.Range.rangeSize lo hi 1:=by rw[rangeSize_one];split <;> omega
  show IsRangeIter _ _ (lo+((0:Nat):Int)*1) ((((hi - lo).toNat:Nat):Int) - ((0:Nat):Int)) 1;rw[e1,e2];exact Heap.get?_push_size _ rfl
 .have e:b=(s.heap.push {cls:= .type "range",data:= .fields #[.int lo t, .int hi u, .int 1 v]}).objs.size:=by simpa using hb
  subst e;exact I1.uD (Nat.le_refl _) (I1.hok.fresh (Nat.le_refl _))
def nT(ta:TA):TI:=fun σ H R=>ta σ H fun vs H1=>∃j:Int,vs=[.int j]/\ -(2 ^ 62)<=j/\j < 2 ^ 62/\R (O9 0 j.toNat) H1
def Ub(ta:TA):TI:=fun σ H R=>ta σ H fun vs H1=>∃i j:Int,vs=[.int i, .int j]/\(-(2 ^ 62)<=i/\i < 2 ^ 62/\ -(2 ^ 62)<=j/\j < 2 ^ 62)/\R (O9 i (j - i).toNat) H1
theorem uV{ta:TA}{p pos:Pos}(hg:Gl X "range")(hm:X.mg "range"=none)(ha:PA X [a] ta)(hs:starEach [a] X.env=[(false,eval a X.env)]:=by rfl):PI X tg (.Call (.Name "range" p) [a] [] pos) (nT ta):=by
 intro pins s σ H R I h;refine Call_ (iq I hg hm boot_range (PyProof.Rows.callWith_type1 (c6 (ha pos pins s σ H _ I h) fun us s1 ⟨vs,H1,I1,r1,q1⟩=>?_) hs rfl))
 obtain⟨j,e,q1,q2,q⟩:=q1;subst e;cases r1 with
 | cons r rr=>
   cases rr;obtain⟨t,rfl⟩:=r;exact call_range_1 (D4 I1 (by omega) (by omega) q1 q2 (by simpa using q))
def Sa(wi:TI)(g:TG)(tb:TS):TS:=fun D σ H=>wi σ H fun J H1=>∃W:Nat->Nat->St->Hp->Prop,(∃m,W 0 m σ H1)/\∀i m σ H,W i m σ H->
 (J.stop i H/\D.nx σ H)\/(J.go i H/\∃N:St->Hp->Prop,(∀cN H',N cN H'->∃m',m' < m/\W (i+1) m' cN H')/\∀x H',J.yld i H x H'->g x σ H' fun w6 H2=>tb {D with nx:=N,ct:=N,bk:=D.nx} w6 H2)
def og(fp:List Addr)(h:Heap):Aaa:=fp.filterMap fun b=>(h.get? b).map fun o=>(b,o)
theorem lj{fp:List Addr}{h:Heap}{b:Addr}{o:Obj}(hb:b∈fp)(e:h.get? b=some o):(b,o)∈og fp h:=List.mem_filterMap.mpr ⟨b,hb,by rw[e];rfl⟩
theorem B5{fp:List Addr}{h:Heap}{p:Addr × Obj}(hp:p∈og fp h):p.1∈fp/\h.get? p.1=some p.2:=by
 obtain⟨b,hb,e⟩:=List.mem_filterMap.mp hp;cases q:h.get? b with
 | none=>rw [q] at e;cases e
 | some o=>
   rw[q] at e;have e':(b,o)=p:=Option.some.inj e;subst e';exact⟨hb,q⟩
theorem Inv.pinned{pins:Aaa}{s:Shared}{fp:List Addr}(I:Inv X pins σ H s)(hf:∀b∈fp,rh X pins H b)(ho:∀b∈fp,∃o,s.heap.get? b=some o/\∀v,o.data≠ .cell v):Inv X (pins++og fp s.heap) σ H s:=
 I.A2 fun p hp=>(List.mem_append.mp hp).elim (fun z=>I.pin p (List.mem_append_right _ z)) fun z=>by
  obtain⟨hb,e⟩:=B5 z;obtain⟨f0,f1,f2,_⟩:=hf p.1 hb;obtain⟨o,e',d⟩:=ho p.1 hb;rw[e] at e';cases e';exact⟨e,f0,f1,f2,d⟩
theorem Inv.pO{pins pl:Aaa}{s:Shared}(I:Inv X (pins++pl) σ H s):Inv X pins σ H s:=I.A2 fun p hp=>I.pin p (List.mem_append_right _ (List.mem_append_left _ hp))
theorem EG{iter:Expr}{body:List Stmt}{wi:TI}{g:TG}{tb:TS}{pos:Pos}(hp:PassesOwn (model X.prog X.w) X.A X.env X.xe)(hc:X.calm=true)(hi:PI X tg iter wi)(hg:PG X tg g)(hb:u7 X body tb)
 (hs:∀x,foldedSetIterable iter X.env x=pure x:=by intro _;rfl):PS X (.For tg iter body [] pos) (Sa wi g tb):=by
 intro pins s σ H D I h;refine wpAny_For (c6 (hi pins s σ H _ I h) fun v s1 h1=>c6 h1 fun Qo s2 h2=>?_) hs
 obtain⟨it,fp,tn,J,H2,e,I2,T,Hf,f2,W,⟨m0,w0⟩,turn⟩:=h2;subst e;have stat:∀{H':Hp},(∀b∈fp,H' b=none)->∀b∈fp,rh X pins H' b:=fun hn b hb=>⟨hn b hb,(f2 b hb).2⟩
 refine codeAny_forLoop_any (fun n s'=>∃i cN H',Inv X pins cN H' s'/\tn i s'.heap/\(∀b∈fp,H' b=none)/\W i n cN H') ?_ m0 ⟨0,σ,H2,I2,Hf,fun b hb=>(f2 b hb).1,w0⟩
 rintro n s3 ⟨i,yW,H3,I3,JO,Pk,w3⟩;rcases turn i n yW H3 w3 with⟨stop,qn⟩ | ⟨go,N,hN,step⟩
 .refine wpAny_passesOwn hp (c6 (T.done X rfl rfl rfl hc i pins s3 yW H3 X.xe I3 (stat Pk) JO stop) fun r s4 ⟨hr,I4⟩=>?_)
  subst hr;exact wpAny_execs_nil ⟨yW,H3,I4,qn⟩
 .refine wpAny_passesOwn hp (c6 (T.item X rfl rfl rfl hc i pins s3 yW H3 X.xe I3 (stat Pk) JO go) fun r s4 ⟨u,hr,h4⟩=>?_)
  subst hr;refine wpAny_passesOwn hp (c6 h4 fun _ s5 ⟨x,H5,I5,r5,y5,MZ,Ta⟩=>?_)
  have I5':=I5.pinned (stat Ta) (T.obj _ _ MZ);refine wpAny_passesOwn hp (c6 (hg _ s5 yW H5 x u _ I5' r5 (step x H5 y5)) fun _ s6 ⟨Pd,H6,I6,q6⟩=>?_)
  refine wpAny_passesOwn hp (c6 (hb _ s6 Pd H6 _ I6 q6) fun f s7 q7=>?_)
  have again:∀{yR:St} {H7:Hp},Inv X (pins++og fp s5.heap) yR H7 s7->N yR H7->∃m,m < n/\∃i cN H',Inv X pins cN H' s7/\tn i s7.heap/\(∀b∈fp,H' b=none)/\W i m cN H':=fun {yR H7} I7 n7=>by
   obtain⟨m',hm,w7⟩:=hN yR H7 n7;refine⟨m',hm,i+1,yR,H7,I7.pO,T.keep _ _ _ MZ fun b hb o e=>(I7.pin (b,o) (List.mem_append_right _ (List.mem_append_right _ (lj hb e)))).1,fun b hb=>?_,w7⟩
   obtain⟨o,e,d⟩:=T.obj _ _ MZ b hb;exact(I7.pin (b,o) (List.mem_append_right _ (List.mem_append_right _ (lj hb e)))).2.1
  cases f with
  | next=>obtain⟨yR,H7,I7,n7⟩:=q7;exact again I7 n7
  | cont=>obtain⟨yR,H7,I7,n7⟩:=q7;exact again I7 n7
  | brk=>obtain⟨yR,H7,I7,q7⟩:=q7;exact⟨yR,H7,I7.pO,q7⟩
  | ret v=>obtain⟨x7,yR,H7,I7,r7,q7⟩:=q7;exact⟨x7,yR,H7,I7.pO,r7,q7⟩
end
abbrev R2:=V->V->Hp->VK->Prop
def l9(X:Cx)(f:Value->Value->Sem Value)(r:R2):Prop:=
 ∀(pins:Aaa) (s:Shared) (σ:St) (H:Hp) (x y:V) (v u:Value) (Q:VK),Inv X pins σ H s->RelV x v->RelV y u->r x y H Q->
  wpAny (model X.prog X.w) X.A (f v u) (EP X pins σ Q) X.xe s
def R7(X:Cx)(f:Value->Sem Value)(r:V->Hp->VK->Prop):Prop:=
 ∀(pins:Aaa) (s:Shared) (σ:St) (H:Hp) (x:V) (v:Value) (Q:VK),Inv X pins σ H s->RelV x v->r x H Q->
  wpAny (model X.prog X.w) X.A (f v) (EP X pins σ Q) X.xe s
def lX(X:Cx)(f:Value)(r:List V->Hp->VK->Prop):Prop:=
 ∀(pins:Aaa) (s:Shared) (σ:St) (H:Hp) (xs:List V) (us:List Value) (Q:VK),Inv X pins σ H s->Vals xs us->r xs H Q->
  wpAny (model X.prog X.w) X.A (call f us) (EP X pins σ Q) X.xe s
def Sd(X:Cx)(r:V->Hp->(Bool->Hp->Prop)->Prop):Prop:=
 ∀(pins:Aaa) (s:Shared) (σ:St) (H:Hp) (x:V) (v:Value) (Q:Bool->Hp->Prop),Inv X pins σ H s->RelV x v->r x H Q->
  wpAny (model X.prog X.w) X.A (truthy v) (TP X pins σ Q) X.xe s
def Nf(r:R2)(ta tb:TE):TE:=fun σ H Q=>ta σ H fun x H1=>tb σ H1 fun y H2=>r x y H2 Q
def Wc(r:V->Hp->VK->Prop)(ta:TE):TE:=fun σ H Q=>ta σ H fun x H1=>r x H1 Q
def rI(C:Int->Int->Prop)(g:Int->Int->V):R2:=fun x y H Q=>∃i j,x= .int i/\y= .int j/\C i j/\Q (g i j) H
def Cr(g:Int->Int->V):R2:=fun x y H Q=>∃i j,x= .int i/\y= .int j/\Q (g i j) H
def rU(g:Int->V):V->Hp->VK->Prop:=fun x H Q=>∃i,x= .int i/\Q (g i) H
section
variable {X:Cx} {a b c:Expr} {ta tb tc:TE} {pos:Pos}
theorem Li(ha:PE X a ta)(hb:PE X b tb){pins:Aaa}{s:Shared}{σ:St}{H:Hp}{R:V->V->Hp->Prop}(I:Inv X pins σ H s)
 (h:ta σ H fun x H1=>tb σ H1 fun y H2=>R x y H2) {Q:Aab} {f:Value->Value->Sem Value}
 (hf:∀v u s2 x y H2,Inv X pins σ H2 s2->RelV x v->RelV y u->R x y H2->wpAny (model X.prog X.w) X.A (f v u) Q X.xe s2) :
 wpAny (model X.prog X.w) X.A (eval a X.env) (fun v s₁=>wpAny (model X.prog X.w) X.A (eval b X.env) (fun u MV=>wpAny (model X.prog X.w) X.A (f v u) Q X.xe MV) X.xe s₁) X.xe s:=by
 refine c6 (ha pins s σ H _ I h) fun v s1 ⟨x,H1,I1,r1,q1⟩=>?_
 refine c6 (hb pins s1 σ H1 _ I1 q1) fun u s2 ⟨y,H2,I2,r2,q2⟩=>?_
 exact hf v u s2 x y H2 I2 r1 r2 q2
theorem Br{op:Operator}{r:R2}(ho:l9 X (binaryOp op) r)(ha:PE X a ta)(hb:PE X b tb):PE X (.BinOp a op b pos) (Nf r ta tb):=by
 intro pins s σ H Q I h;exact wpAny_BinOp (Li ha hb I h fun v u s2 x y H2 I2 rx ry q=>ho pins s2 σ H2 x y v u Q I2 rx ry q)
theorem Oa{op:UnaryOp}{r:V->Hp->VK->Prop}(ho:R7 X (unaryOp op) r)(ha:PE X a ta):PE X (.UnaryOp op a pos) (Wc r ta):=by
 intro pins s σ H Q I h;exact UnaryOp_ (c6 (ha pins s σ H _ I h) fun v s1 ⟨x,H1,I1,r1,q1⟩=>ho pins s1 σ H1 x v Q I1 r1 q1)
theorem N7{f:Value->Value->Sem Value}{C:Int->Int->Prop}{g:Int->Int->Int}
 (rule:∀(i j:Int) (t u:Tok) (s:Shared) (Q:Aab) (E:Aab),C i j->Q (.int (g i j) s.toks) {s with toks:=s.toks+1}->wpAny (model X.prog X.w) X.A (f (.int i t) (.int j u)) Q E s) :
 l9 X f (rI C fun i j=> .int (g i j)):=by
 intro pins s σ H x y v u Q I rx ry h;obtain⟨i,j,rfl,rfl,hc,q⟩:=h;obtain⟨t,rfl⟩:=rx;obtain⟨t',rfl⟩:=ry;exact rule i j t t' s _ _ hc ⟨.int (g i j),H,I.tok _,⟨_,rfl⟩,q⟩
theorem GG{f:Value->Value->Sem Value}{g:Int->Int->Int}
 (rule:∀(i j:Int) (t u:Tok) (s:Shared) (Q:Aab) (E:Aab),Q (.int (g i j) s.toks) {s with toks:=s.toks+1}->wpAny (model X.prog X.w) X.A (f (.int i t) (.int j u)) Q E s) :
 l9 X f (Cr fun i j=> .int (g i j)):=by
 intro pins s σ H x y v u Q I rx ry h;obtain⟨i,j,rfl,rfl,q⟩:=h;obtain⟨t,rfl⟩:=rx;obtain⟨t',rfl⟩:=ry;exact rule i j t t' s _ _ ⟨.int (g i j),H,I.tok _,⟨_,rfl⟩,q⟩
theorem H_{f:Value->Value->Sem Value}{g:Int->Int->Bool}
 (rule:∀(i j:Int) (t u:Tok) (s:Shared) (Q:Aab) (E:Aab),Q (.bool (g i j)) s->wpAny (model X.prog X.w) X.A (f (.int i t) (.int j u)) Q E s) :
 l9 X f (Cr fun i j=> .bl (g i j)):=by
 intro pins s σ H x y v u Q I rx ry h;obtain⟨i,j,rfl,rfl,q⟩:=h;obtain⟨t,rfl⟩:=rx;obtain⟨t',rfl⟩:=ry;exact rule i j t t' s _ _ ⟨.bl (g i j),H,I,rfl,q⟩
def Wu(i j:Int):Prop:=0 < j/\j < 1073741824
def TX(i j:Int):Prop:=j≠0/\j.natAbs < 1073741824
def Rk(i j:Int):Prop:=0<=j/\j<=1000000/\i.natAbs < 2 ^ 64
def LL(i j:Int):Prop:=(-(2 ^ 64) < i/\i < 2 ^ 64)\/(-(2 ^ 64) < j/\j < 2 ^ 64)
theorem LL.ok{i j:Int}(h:LL i j):IntMulOk i j:=by
 rcases h with⟨h1,h2⟩ | ⟨h1,h2⟩
 .exact .of_left (intBits_le_64 h1 h2)
 .exact .of_right (intBits_le_64 h1 h2)
theorem zH(k:Nat):(0:Int)<=2 ^ k:=by
 rw[two_pow_cast];exact Int.natCast_nonneg _
theorem Lj:l9 X (binaryOp .Add) (Cr fun i j=> .int (i+j)):=GG fun _ _ _ _ _ _ _ q=>add_int q
theorem K4:l9 X (binaryOp .Sub) (Cr fun i j=> .int (i - j)):=GG fun _ _ _ _ _ _ _ q=>sub_int q
theorem K7:l9 X (binaryOp .Mult) (rI LL fun i j=> .int (i*j)):=N7 fun _ _ _ _ _ _ _ hc q=>mul_int q hc.ok
theorem LB:l9 X (binaryOp .Mod) (rI (fun _ j=>0 < j) fun i j=> .int (i % j)):=N7 fun i j _ _ _ _ _ hc q=>by
 have h1:(0:Int) < j:=hc;exact mod_int' (by omega) (by rw[Int.fmod_eq_emod_of_nonneg i (by omega)];exact q)
theorem Mj:l9 X (binaryOp .Pow) (rI Rk fun i j=> .int (i ^ j.toNat)):=N7 fun _ _ _ _ _ _ _ hc q=>pow_int_small hc.1 hc.2.1 hc.2.2 q
theorem Mu:l9 X (binaryOp .RShift) (rI (fun _ j=>0<=j) fun i j=> .int (i / 2 ^ j.toNat)):=N7 fun i j _ _ _ _ _ hc q=>
 rshift_int hc (by rw[Int.fdiv_eq_ediv_of_nonneg i (zH _)];exact q)
theorem K9:l9 X (binaryOp .BitAnd) (Cr fun i j=> .int (Builtin.bitAnd i j)):=GG fun _ _ _ _ _ _ _ q=>and_int q
theorem NH:l9 X (binaryOp .BitOr) (Cr fun i j=> .int (Builtin.bitOr i j)):=GG fun _ _ _ _ _ _ _ q=>or_int q
theorem L9:l9 X (binaryOp .BitXor) (Cr fun i j=> .int (Builtin.bitXor i j)):=GG fun _ _ _ _ _ _ _ q=>xor_int q
theorem Wf{f:Value->Sem Value}{g:Int->Int}
 (rule:∀(i:Int) (t:Tok) (s:Shared) (Q:Aab) (E:Aab),Q (.int (g i) s.toks) {s with toks:=s.toks+1}->wpAny (model X.prog X.w) X.A (f (.int i t)) Q E s) :
 R7 X f (rU fun i=> .int (g i)):=by
 intro pins s σ H x v Q I rx h;obtain⟨i,rfl,q⟩:=h;obtain⟨t,rfl⟩:=rx;exact rule i t s _ _ ⟨.int (g i),H,I.tok _,⟨_,rfl⟩,q⟩
theorem KO:R7 X (unaryOp .USub) (rU fun i=> .int (-i)):=Wf fun _ _ _ _ _ q=>neg_int q
end
def O7:V->V->Bool
 | .cR, .cR=>true | .cR, .int _=>true | .int _, .cR=>true | .cR, .bl _=>true | .bl _, .cR=>true | .cR, .str _=>true | .str _, .cR=>true
 | .int _, .int _=>true | .bl _, .bl _=>true | .str _, .str _=>true | .byt _, .byt _=>true
 | .int _, .str _=>true | .str _, .int _=>true | .bl _, .str _=>true | .str _, .bl _=>true
 | _,_=>false
def Xv:R2:=fun x y H Q=>O7 x y=true/\Q (.bl (decide (x=y))) H
def W7:R2:=fun x y H Q=>O7 x y=true/\Q (.bl (!decide (x=y))) H
theorem BK{i j:Int}:decide (V.int i=V.int j)=(i==j):=by
 rw[Bool.eq_iff_iff];simp
theorem Ey{i j:Bool}:decide (V.bl i=V.bl j)=(i==j):=by
 rw[Bool.eq_iff_iff];simp
theorem A3:decide (V.str i=V.str j)=(i==j):=by
 rw[Bool.eq_iff_iff];simp
theorem A0{i j:Array UInt8}:decide (V.byt i=V.byt j)=(i.toList==j.toList):=by
 rw[Bool.eq_iff_iff];cases i;cases j;simp
section
variable {X:Cx} {a b c:Expr} {ta tb tc:TE} {pos:Pos}
theorem bV{pins:Aaa}{s:Shared}{Q:VK}{k k':Bool}(I:Inv X pins σ H s)(q:Q (.bl k) H)(e:k=k'):EP X pins σ Q (.bool k') s:=by
 subst e;exact⟨.bl k,H,I,rfl,q⟩
theorem D9:l9 X (compareOp .Eq) Xv:=by
 intro pins s σ H x y v u Q I rx ry h;obtain⟨hs,q⟩:=h;cases x with
 | cR=>
   cases rx;cases y with
   | cR=>cases ry;exact PySem.EqNone.eq_none_none (bV I q (by simp))
   | bl j=>cases ry;exact PySem.EqNone.eq_none_bool (bV I q (by simp))
   | int j=>obtain⟨t',rfl⟩:=ry;exact PySem.EqNone.eq_none_int (bV I q (by simp))
   | str j=>obtain⟨t',rfl⟩:=ry;exact PySem.EqNone.eq_none_str (bV I q (by simp))
   | _=>exact absurd (show false=true from hs) Bool.false_ne_true
 | bl i=>
   cases rx;cases y with
   | cR=>cases ry;exact PySem.EqNone.eq_bool_none (bV I q (by simp))
   | bl j=>cases ry;exact eq_bool (bV I q Ey)
   | str j=>obtain⟨t',rfl⟩:=ry;exact PySem.EqMixed.eq_bool_str (bV I q (by simp))
   | _=>exact absurd (show false=true from hs) Bool.false_ne_true
 | int i=>
   obtain⟨t,rfl⟩:=rx;cases y with
   | cR=>cases ry;exact PySem.EqNone.eq_int_none (bV I q (by simp))
   | int j=>obtain⟨t',rfl⟩:=ry;exact eq_int (bV I q BK)
   | str j=>obtain⟨t',rfl⟩:=ry;exact PySem.EqMixed.eq_int_str (bV I q (by simp))
   | _=>exact absurd (show false=true from hs) Bool.false_ne_true
 | str i=>
   obtain⟨t,rfl⟩:=rx;cases y with
   | cR=>cases ry;exact PySem.EqNone.eq_str_none (bV I q (by simp))
   | bl j=>cases ry;exact PySem.EqMixed.eq_str_bool (bV I q (by simp))
   | int j=>obtain⟨t',rfl⟩:=ry;exact PySem.EqMixed.eq_str_int (bV I q (by simp))
   | str j=>obtain⟨t',rfl⟩:=ry;exact eq_str (bV I q A3)
   | _=>exact absurd (show false=true from hs) Bool.false_ne_true
 | byt i=>
   obtain⟨t,rfl⟩:=rx;cases y with
   | byt j=>obtain⟨t',rfl⟩:=ry;exact PySem.W.eq_bytes (bV I q A0)
   | _=>exact absurd (show false=true from hs) Bool.false_ne_true
 | _=>cases y <;> exact absurd (show false=true from hs) Bool.false_ne_true
theorem DH:l9 X (compareOp .NotEq) W7:=by
 intro pins s σ H x y v u Q I rx ry h;obtain⟨hs,q⟩:=h;cases x with
 | cR=>
   cases rx;cases y with
   | cR=>cases ry;exact PySem.EqNone.ne_none_none (bV I q (by simp))
   | bl j=>cases ry;exact PySem.EqNone.ne_none_bool (bV I q (by simp))
   | int j=>obtain⟨t',rfl⟩:=ry;exact PySem.EqNone.ne_none_int (bV I q (by simp))
   | str j=>obtain⟨t',rfl⟩:=ry;exact PySem.EqNone.ne_none_str (bV I q (by simp))
   | _=>exact absurd (show false=true from hs) Bool.false_ne_true
 | bl i=>
   cases rx;cases y with
   | cR=>cases ry;exact PySem.EqNone.ne_bool_none (bV I q (by simp))
   | bl j=>cases ry;exact ne_bool (bV I q (congrArg not Ey))
   | str j=>obtain⟨t',rfl⟩:=ry;exact PySem.EqMixed.ne_bool_str (bV I q (by simp))
   | _=>exact absurd (show false=true from hs) Bool.false_ne_true
 | int i=>
   obtain⟨t,rfl⟩:=rx;cases y with
   | cR=>cases ry;exact PySem.EqNone.ne_int_none (bV I q (by simp))
   | int j=>obtain⟨t',rfl⟩:=ry;exact ne_int (bV I q (congrArg not BK))
   | str j=>obtain⟨t',rfl⟩:=ry;exact PySem.EqMixed.ne_int_str (bV I q (by simp))
   | _=>exact absurd (show false=true from hs) Bool.false_ne_true
 | str i=>
   obtain⟨t,rfl⟩:=rx;cases y with
   | cR=>cases ry;exact PySem.EqNone.ne_str_none (bV I q (by simp))
   | bl j=>cases ry;exact PySem.EqMixed.ne_str_bool (bV I q (by simp))
   | int j=>obtain⟨t',rfl⟩:=ry;exact PySem.EqMixed.ne_str_int (bV I q (by simp))
   | str j=>obtain⟨t',rfl⟩:=ry;exact ne_str (bV I q (congrArg not A3))
   | _=>exact absurd (show false=true from hs) Bool.false_ne_true
 | byt i=>
   obtain⟨t,rfl⟩:=rx;cases y with
   | byt j=>obtain⟨t',rfl⟩:=ry;exact PySem.W.ne_bytes (bV I q (congrArg not A0))
   | _=>exact absurd (show false=true from hs) Bool.false_ne_true
 | _=>cases y <;> exact absurd (show false=true from hs) Bool.false_ne_true
theorem Oi:l9 X (compareOp .Lt) (Cr fun i j=> .bl (decide (i < j))):=H_ fun _ _ _ _ _ _ _ q=>lt_int q
theorem OR:l9 X (compareOp .LtE) (Cr fun i j=> .bl (decide (i<=j))):=H_ fun _ _ _ _ _ _ _ q=>le_int q
theorem Np:l9 X (compareOp .Gt) (Cr fun i j=> .bl (decide (j < i))):=H_ fun _ _ _ _ _ _ _ q=>gt_int q
theorem OM:l9 X (compareOp .GtE) (Cr fun i j=> .bl (decide (j<=i))):=H_ fun _ _ _ _ _ _ _ q=>ge_int q
theorem BS:l9 X (compareOp .In) (fun x y H Q=>∃i j,x= .str i/\y= .str j/\Q (.bl (!(Builtin.Str.occurrences j i 0 j.length 1).isEmpty)) H):=by
 intro pins s σ H x y v u Q I rx ry h;obtain⟨i,j,rfl,rfl,q⟩:=h;obtain⟨t,rfl⟩:=rx;obtain⟨t',rfl⟩:=ry;exact in_str (bV I q rfl)
def isObj:HO->Bool
 | .lst _=>true
 | .ins _ _ _=>true
 | _=>false
theorem jd(b:Expr){op:CmpOp}(h:op≠ .In:=by decide)(h2:op≠ .NotIn:=by decide):behindInMarks op b=false:=by
 have e1:(op==CmpOp.In)=false:=by cases op <;> first | rfl | exact absurd rfl h
 have e2:(op==CmpOp.NotIn)=false:=by cases op <;> first | rfl | exact absurd rfl h2
 cases b <;> simp [behindInMarks,e1,e2]
theorem Bw{op:CmpOp}{r:R2}(ho:l9 X (compareOp op) r)(ha:PE X a ta)(hb:PE X b tb)(hm:behindInMarks op b=false):PE X (.Compare a [op] [b] pos) (Nf r ta tb):=by
 intro pins s σ H Q I h;exact wpAny_Compare1 (Li ha hb I h fun v u s2 x y H2 I2 rx ry q=>ho pins s2 σ H2 x y v u Q I2 rx ry q) hm
def J8(t:TE):TT:=fun σ H Q=>t σ H fun x H'=>∃k,x= .bl k/\Q k H'
theorem AO{op:CmpOp}{r:R2}(ho:l9 X (compareOp op) r)(ha:PE X a ta)(hb:PE X b tb)(hm:behindInMarks op b=false):PT X (.Compare a [op] [b] pos) (J8 (Nf r ta tb)):=by
 intro pins s σ H Q I h;refine wpAny_isTrue_Compare1 (c6 (ha pins s σ H _ I h) fun v s1 ⟨x,H1,I1,r1,q1⟩=>c6 (hb pins s1 σ H1 _ I1 q1) fun u s2 ⟨y,H2,I2,r2,q2⟩=>
  c6 (ho pins s2 σ H2 x y v u _ I2 r1 r2 q2) fun c s3 ⟨z,H3,I3,r3,k,e,q3⟩=>?_) hm
 subst e;cases r3;exact wpAny_truthy_bool ⟨H3,I3,q3⟩
def Et(r r':R2)(ta tb tc:TE):TE:=fun σ H Q=>ta σ H fun x H1=>tb σ H1 fun y H2=>r x y H2 fun z H3=>∃k,z= .bl k/\
 (if k=true then tc σ H3 fun w' H4=>r' y w' H4 Q else Q (.bl false) H3)
theorem DT{op Aq:CmpOp}{r r':R2}(ho:l9 X (compareOp op) r)(vC:l9 X (compareOp Aq) r')(ha:PE X a ta)(hb:PE X b tb)(hc:PE X c tc)
 (hm:lastMarks [op,Aq] [b,c]=false:=by with_unfolding_all rfl):PT X (.Compare a [op,Aq] [b,c] pos) (J8 (Et r r' ta tb tc)):=by
 intro pins s σ H Q I h;refine isTrue_chain (c6 (ha pins s σ H _ I h) fun v s1 ⟨x,H1,I1,r1,q1⟩=>test_link (c6 (hb pins s1 σ H1 _ I1 q1) fun u s2 ⟨y,H2,I2,r2,q2⟩=>
  c6 (ho pins s2 σ H2 x y v u _ I2 r1 r2 q2) fun d s3 ⟨z,H3,I3,r3,k,e,q3⟩=>?_)) hm
 subst e;cases r3;refine wpAny_truthy_bool ?_;cases k with
 | false=>
   obtain⟨k',e',q'⟩:=q3;cases e';exact ite_ff ⟨H3,I3,q'⟩
 | true=>
   refine ite_tt (test_last (c6 (hc pins s3 σ H3 _ I3 q3) fun w' s4 ⟨z',H4,I4,r4,q4⟩=>c6 (vC pins s4 σ H4 y z' u w' _ I4 r2 r4 q4) fun d' s5 ⟨z2,H5,I5,r5,k2,e2,q5⟩=>?_))
   subst e2;cases r5;exact wpAny_truthy_bool ⟨H5,I5,q5⟩
def HF(K:W.Frag)(x:V)(H:Hp)(k:Bool):Prop:=
 match x with
 | .cR=>k=false
 | .bl b=>k=b
 | .int i=>k=(i !=0)
 | .str y=>y.length<=sizeLine/\k=((y.length:Int) !=0)
 | .byt y=>y.size<=sizeLine/\k=((y.size:Int) !=0)
 | .ref p=>(∃xs,oR K H p xs/\k=!xs.isEmpty)\/(∃xs,p8 K H p xs/\k=!xs.isEmpty)\/∃aV,H p=some (.dK aV)/\k=!aV.isEmpty
 | _=>False
theorem Ab{κ:Type}{aV:List (κ × V)}{vs:List (κ × Value)}(r:KV aV vs):(!vs.isEmpty)=!aV.isEmpty:=by
 cases r <;> rfl
theorem sv{xs:List V}{its:List Value}(r:Vals xs its):(!its.toArray.isEmpty)=!xs.isEmpty:=by
 cases r <;> simp
theorem p_:(sizeLine:Nat) < 2 ^ 63:=by rw[sizeLine_eq];decide
theorem Mz:Sd X (fun x H Q=>∃k,HF X.K x H k/\Q k H):=by
 intro pins s σ H x v Q I rx h;obtain⟨k,e,q⟩:=h;have hl:=p_;have hs:sizeLine=16777216:=sizeLine_eq;cases x with
 | cR=>
   cases rx;have e':k=false:=e;subst e';exact truthy_none ⟨H,I,q⟩
 | bl b=>
   cases rx;have e':k=b:=e;subst e';exact wpAny_truthy_bool ⟨H,I,q⟩
 | int i=>
   obtain⟨t,rfl⟩:=rx;have e':k=(i !=0):=e;subst e';exact PySem.P.truthy_int ⟨H,I,q⟩
 | str y=>
   obtain⟨t,rfl⟩:=rx;obtain⟨hy,e'⟩:y.length<=sizeLine/\k=((y.length:Int) !=0):=e;subst e';exact PySem.P.truthy_str (by omega) ⟨H,I.tok _,q⟩
 | byt y=>
   obtain⟨t,rfl⟩:=rx;obtain⟨hy,e'⟩:y.size<=sizeLine/\k=((y.size:Int) !=0):=e;subst e';exact PySem.W.truthy_bytes (by omega) ⟨H,I.tok _,q⟩
 | ref p=>
   cases rx;have e':(∃xs,oR X.K H p xs/\k=!xs.isEmpty)\/(∃xs,p8 X.K H p xs/\k=!xs.isEmpty)\/∃aV,H p=some (.dK aV)/\k=!aV.isEmpty:=e;rcases e' with⟨xs,hx,e'⟩ | ⟨xs,hx,e'⟩ | ⟨aV,hx,e'⟩
   .subst e';obtain⟨its,r,pl,hz⟩:=I.list hx;have hlen:=r.length;exact wpAny_truthy_list pl.isList (by simp only[List.size_toArray];omega) ⟨H,I.tok _,by rw[sv r];exact q⟩
   .subst e';obtain⟨its,r,pl,hz⟩:=I.tuple hx;have hlen:=r.length;exact truthy_tuple pl (by simp only[List.size_toArray];omega) ⟨H,I.tok _,by rw[sv r];exact q⟩
   .subst e';obtain⟨hz,hS,vs,r,m⟩:aV.length<=sizeLine/\(p==sysModules)=false/\∃vs,KV aV vs/\s.heap.DictOf (cY X.prog X.w) p vs:=I.hok p _ hx;have hlen:aV.length=vs.length:=Paired.length r;exact wpAny_truthy_dict hS m (by omega) ⟨H,I.tok _,by rw[Ab r];exact q⟩
 | _=>exact(show False from e).elim
theorem yj(ha:PE X a ta)(he:∀whole,isTrue a X.env whole=(do let v <-whole;standAt a.pos;holding [v] (truthy v))) :
 PT X a (fun σ H Q=>ta σ H fun x H'=>∃k,HF X.K x H' k/\Q k H'):=by
 intro pins s σ H Q I h;exact isTrue_plain (c6 (ha pins s σ H _ I h) fun v s1 ⟨x,H1,I1,r1,q1⟩=>Mz pins s1 σ H1 x v Q I1 r1 q1) (he _)
theorem Ai:l9 X (binaryOp .Add) (fun x y H Q=>∃i j,x= .str i/\y= .str j/\i.length+j.length<=sizeLine/\Q (.str (i++j)) H):=by
 intro pins s σ H x y v u Q I rx ry h;obtain⟨i,j,rfl,rfl,hz,q⟩:=h;obtain⟨t,rfl⟩:=rx;obtain⟨t',rfl⟩:=ry;exact add_str (fun t' tk=>⟨.str (i++j),H,I.tok _,⟨_,rfl⟩,q⟩) hz
def OT(b:Expr):Prop:=∀o i,subscripted b false o i=operate [o,i] (getItem o i)
theorem vals1{x:V}{us:List Value}(r:Vals [x] us):∃u,us=[u]/\RelV x u:=by
 cases r with
 | cons r1 r2=>cases r2;exact⟨_,rfl,r1⟩
theorem vals2{x y:V}{us:List Value}(r:Vals [x,y] us):∃u w',us=[u,w']/\RelV x u/\RelV y w':=by
 cases r with
 | cons r1 r2=>
   cases r2 with
   | cons r3 r4=>cases r4;exact⟨_,_,rfl,r1,r3⟩
theorem Ex:lX X (.builtin "abs") (fun xs H Q=>∃i,xs=[.int i]/\Q (.int (if i < 0 then -i else i)) H):=by
 intro pins s σ H xs us Q I r h;obtain⟨i,rfl,q⟩:=h;obtain⟨u,rfl,t,rfl⟩:=vals1 r;exact call_abs_int fun u tk=>⟨.int (if i < 0 then -i else i),H,I.tok _,⟨_,rfl⟩,q⟩
theorem BW(hc:X.calm=true):lX X (.builtin "min") (fun xs H Q=>∃i j,xs=[.int i, .int j]/\Q (.int (if j < i then j else i)) H):=by
 intro pins s σ H xs us Q I r h;obtain⟨i,j,rfl,q⟩:=h;obtain⟨u,w',rfl,⟨t,rfl⟩,⟨t',rfl⟩⟩:=vals2 r;refine min_two_ints (I.ok.hd hc) fun h' tk k=>⟨_,H,I.kept k,?_,q⟩
 by_cases hj:j < i
 .rw [if_pos hj,if_pos hj];exact⟨_,rfl⟩
 .rw [if_neg hj,if_neg hj];exact⟨_,rfl⟩
theorem Cj:lX X (.type "int") (fun xs H Q=>(∃i,xs=[.int i]/\Q (.int i) H)\/∃k,xs=[.bl k]/\Q (.int (if k then 1 else 0)) H):=by
 intro pins s σ H xs us Q I r h;rcases h with⟨i,rfl,q⟩ | ⟨k,rfl,q⟩
 .obtain⟨u,rfl,t,rfl⟩:=vals1 r;exact call_int_int ⟨.int i,H,I,⟨_,rfl⟩,q⟩
 .obtain⟨u,rfl,r1⟩:=vals1 r;cases r1;exact call_int_bool ⟨.int (if k then 1 else 0),H,I.tok _,⟨_,rfl⟩,q⟩
def QH(K:W.Frag)(x:V)(H:Hp)(n:Nat):Prop:=
 match x with
 | .str y=>y.length<=sizeLine/\n=y.length
 | .byt y=>y.size<=sizeLine/\n=y.size
 | .ref p=>(∃xs,oR K H p xs/\n=xs.length)\/∃xs,p8 K H p xs/\n=xs.length
 | _=>False
theorem Ea:lX X (.builtin "len") (fun xs H Q=>∃x n,xs=[x]/\QH X.K x H n/\Q (.int n) H):=by
 intro pins s σ H xs us Q I r h;obtain⟨x,n,rfl,e,q⟩:=h;obtain⟨u,rfl,rx⟩:=vals1 r;have hl:=p_;have hs:sizeLine=16777216:=sizeLine_eq;cases x with
 | str y=>
   obtain⟨t,rfl⟩:=rx;obtain⟨hy,e'⟩:y.length<=sizeLine/\n=y.length:=e;subst e';exact len_str (by omega) ⟨.int _,H,I.tok _,⟨_,rfl⟩,q⟩
 | byt y=>
   obtain⟨t,rfl⟩:=rx;obtain⟨hy,e'⟩:y.size<=sizeLine/\n=y.size:=e;subst e';exact PySem.W.len_bytes (by omega) ⟨.int _,H,I.tok _,⟨_,rfl⟩,q⟩
 | ref p=>
   cases rx;have e':(∃xs,oR X.K H p xs/\n=xs.length)\/∃xs,p8 X.K H p xs/\n=xs.length:=e;rcases e' with⟨xs,hx,e'⟩ | ⟨xs,hx,e'⟩
   .subst e';obtain⟨its,r',pl,hz⟩:=I.list hx;have hlen:=r'.length;exact Calls.call_len_list pl.isList (by simp only[List.size_toArray];omega) ⟨.int xs.length,H,I.tok _,⟨_,by simp only[List.size_toArray];rw [hlen]⟩,q⟩
   .subst e';obtain⟨its,r',pl,hz⟩:=I.tuple hx;have hlen:=r'.length;exact len_tuple pl (by simp only[List.size_toArray];omega) ⟨.int xs.length,H,I.tok _,⟨_,by simp only[List.size_toArray];rw [hlen]⟩,q⟩
 | _=>exact(show False from e).elim
end
structure zS (h:Heap) (x dx C:Addr) (mA:Aaf):Prop where
 obj:h.get? x=some (PySem.W.instObj C dx)
 ns:h.Ns1 dx mA
 ne:dx≠x
theorem CU{h:Heap}{dx:Addr}{mA:Aaf}(n:h.Ns1 dx mA):∃od,h.get? dx=some od/\∀name,PySem.W.lookIn name od=some (mA name):=by
 obtain⟨o,es,ep,ho,hd,hk,_,hm⟩:=n;refine⟨o,ho,fun name=>?_⟩
 have e:=hm name;unfold nsFind findBy at e;rw[<-Array.find?_toList] at e;unfold PySem.W.lookIn;rw[hd];dsimp only;split
 .rename_i y q;rw[q] at e;exact congrArg some e
 .rename_i q;rw[q] at e;have a:es.toList.any (·.refKey)=false:=by
   rw[List.any_eq_false];intro y hy;obtain⟨z,t,hkey⟩:=hk y (Array.mem_toList_iff.mp hy);simp [DictEntry.refKey,hkey]
  have a':¬es.toList.any (·.refKey)=true:=by rw[a];exact Bool.false_ne_true
  rw[if_neg a'];exact congrArg some e
theorem zS.look{x dx C:Addr}{mA:Aaf}(I:zS h x dx C mA):∃od,PySem.W.InstAt h x (PySem.W.instObj C dx) C (some od)/\∀name,PySem.W.lookIn name od=some (mA name):=
 let⟨od,ho,hl⟩:=CU I.ns
 ⟨od,⟨I.obj,rfl,rfl,ho⟩,hl⟩
section
variable {prog:Program} {w:World} {A:Around} {E:Aab} {s:Shared} {K:W.Frag} {x dx C f:Addr} {mA:Aaf} {name:Str} {v:Value}
theorem get_map{expr:Bool}{Q:Aab}(X:K.In s.heap)(I:zS s.heap x dx C mA)(hg:PySem.W.plainGet K C name=true)(hh:PySem.W.hasDictIn K C=true)
 (ha:PySem.W.findIn K (.ref C) name=some none) (hv:mA name=some v) (Si:PySem.W.handedIn v=true) (h:Q v {s with toks:=s.toks+1}) :
 wpAny (model prog w) A (getAttr (.ref x) name expr) Q E s:=by
 obtain⟨od,J,hl⟩:=I.look;exact PySem.W.get_value X J (PySem.W.plainGet_of hg).1 (PySem.W.findObj_own hh ha rfl (by rw[hl,hv])) Si h
theorem DZ{pl:Sem Bool}{Q:Value × List Value->Shared->Prop}(X:K.In s.heap)(I:zS s.heap x dx C mA)(hg:PySem.W.plainGet K C name=true)
 (hf:PySem.W.findIn K (.ref C) name=some (some (.ref f))) (ht:PySem.W.isFn K (.ref f)=true) (hv:mA name=none) (h:Q (.ref f,[.ref x]) s) :
 wpAny (model prog w) A (getMethod (.ref x) name pl) Q E s:=by
 obtain⟨od,J,hl⟩:=I.look;exact PySem.W.method_fn X J (PySem.W.plainGet_of hg).1 (PySem.W.plainGet_of hg).2 hf (beq_iff_eq.mp ht) (by show(PySem.W.lookIn name od).map (·.isSome)=some false;rw [hl,hv];rfl) h
theorem Il{ns:List Str}{Q:Unit->Shared->Prop}(X:K.In s.heap)(I:zS s.heap x dx C mA)
 (hs:PySem.W.findIn K (.ref C) "__setattr__"=some (some (.builtin "object.__setattr__"))) (hp:PySem.W.plainOver K C=true) (ht:PySem.W.takerIn K C name=some none) (hh:PySem.W.hasDictIn K C=true)
 (hw:PySem.Within mA ns) (hsz:ns.length<=sizeLine)
 (h:∀h',zS h' x dx C (fun y=>if y=name then some v else mA y)->Heap.SameBut dx s.heap h'->Q () {s with heap:=h',toks:=s.toks+2}) :
 wpAny (model prog w) A (setAttr (.ref x) name v) Q E s:=by
 obtain⟨od,J,hl⟩:=I.look;refine PySem.W.set_plain X J hs (PySem.W.osa_open (s:={s with toks:=s.toks+1}) (r:=none) X J hp ht fun b=>?_)
 obtain⟨cd,hc,TN⟩:=PySem.W.any_some hh;have hx:s.heap.get? x=some ⟨.ref C,some dx, .plain,#[]⟩:=I.obj;refine wpAny_bind (wpAny_pure (wpAny_bind (wpAny_bind (wpAny_loadPart hx (wpAny_bind (PySem.W.Looks.here (s:={s with toks:=s.toks+1}) (PySem.W.looks_clsIn X hc) ?_))))))
 rw[TN];refine wpAny_pure (a:=some dx) (wpAny_bind (wpAny_pure (wpAny_bind ?_)));refine wpAny_nsSet1 (s:={s with toks:=s.toks+1}) I.ns fun h' Qj hs2=>?_
 obtain⟨oD,esD,epD,hoD,hdD,hcD⟩:=Qj.count (PySem.Within.cons name v hw);refine wpAny_bind (wpAny_lookBehind hoD (by rw[hdD];exact pastItsLine_dict (Nat.le_trans hcD (by rw[List.length_cons];omega))) ?_)
 exact wpAny_pure (h _ ⟨(hs2.2 _ (Ne.symm I.ne)).trans I.obj,Qj,I.ne⟩ hs2)
theorem FP{R:Result->Shared->Prop}{vs:List Value}{kw:List (Str × Value)}(X:K.In s.heap)(hm:PySem.W.makesIn K C=true)
 (hi:PySem.W.findIn K (.ref C) "__init__"=some (some (.ref f))) (hf:PySem.W.typeIn K (.ref f)=some (.type "function"))
 (h:codeAny (model prog w) (A.under (.builtin "type.__call__" ⟨.ref C ::vs,kw⟩)) (.call (.ref f) ⟨.ref (s.heap.objs.size+1) ::vs,kw⟩) (PySem.W.InitBack (s.heap.objs.size+1) R)
   {s with heap:=(s.heap.push PySem.W.emptyDict).push (PySem.W.instObj C s.heap.objs.size)}) :
 codeAny (model prog w) A (.call (.ref C) ⟨vs,kw⟩) R s:=by
 obtain⟨hh,g,d,t,os⟩:=s;exact PySem.W.make_core (PySem.W.makes_of X hm) (PySem.W.looks_findIn X hi) (fun self=>PySem.W.bind_fn X self hf) (.inl rfl) h
end
def jS(f:Str)(v:V):List (Str × V)->List (Str × V)
 | []=>[(f,v)]
 | (g,x) ::r=>if g=f then(g,v) ::r else(g,x) ::jS f v r
theorem qV(f g:Str)(v:V):∀fs:List (Str × V),(jS f v fs).lookup g=if g=f then some v else fs.lookup g
 | []=>by
   show List.lookup g [(f,v)]=_;by_cases h:g=f
   .have hb:(g==f)=true:=beq_iff_eq.mpr h;simp only[List.lookup,hb,if_pos h]
   .have hb:(g==f)=false:=beq_eq_false_iff_ne.mpr h;simp only[List.lookup,hb,if_neg h]
 | (k,x) ::r=>by
   have ih:=qV f g v r;rw[show jS f v ((k,x) ::r)=(if k=f then(k,v) ::r else(k,x) ::jS f v r) from rfl]
   by_cases hk:k=f
   .rw [if_pos hk];by_cases h:g=k
    .have hb:(g==k)=true:=beq_iff_eq.mpr h;simp only[List.lookup,hb,if_pos (h.trans hk)]
    .have hb:(g==k)=false:=beq_eq_false_iff_ne.mpr h;simp only[List.lookup,hb,if_neg (fun e:g=f=>h (e.trans hk.symm))]
   .rw [if_neg hk];by_cases h:g=k
    .have hb:(g==k)=true:=beq_iff_eq.mpr h;simp only[List.lookup,hb,if_neg (fun e:g=f=>hk (h.symm.trans e))]
    .have hb:(g==k)=false:=beq_eq_false_iff_ne.mpr h;simp only[List.lookup,hb];exact ih
theorem pW(f:Str)(v:V):∀fs:List (Str × V),f∈(jS f v fs).map (·.1)/\∀g,g∈fs.map (·.1)->g∈(jS f v fs).map (·.1)
 | []=>⟨by simp [jS],fun g h=>by simp at h⟩
 | (k,x) ::r=>by
   obtain⟨i1,i2⟩:=pW f v r;rw[show jS f v ((k,x) ::r)=(if k=f then(k,v) ::r else(k,x) ::jS f v r) from rfl]
   by_cases hk:k=f
   .rw [if_pos hk];subst hk;exact⟨by simp,fun g h=>by simpa using h⟩
   .rw [if_neg hk];refine⟨?_,fun g h=>?_⟩
    .rw [List.map_cons];exact List.mem_cons_of_mem _ i1
    .rw [List.map_cons] at h ⊢;rcases List.mem_cons.mp h with e | e
     .exact List.mem_cons.mpr (.inl e)
     .exact List.mem_cons_of_mem _ (i2 g e)
theorem qR(f:Str)(v:V):∀fs:List (Str × V),(jS f v fs).length<=fs.length+1
 | []=>by simp [jS]
 | (k,x) ::r=>by
   have ih:=qR f v r;rw[show jS f v ((k,x) ::r)=(if k=f then(k,v) ::r else(k,x) ::jS f v r) from rfl]
   by_cases hk:k=f
   .rw [if_pos hk,List.length_cons,List.length_cons];omega
   .rw [if_neg hk,List.length_cons,List.length_cons];omega
theorem oY.some_of{v:V}{o:Option Value}(r:oY (some v) o):∃u,o=some u/\RelV v u:=by
 cases o with
 | none=>exact(show False from r).elim
 | some u=>exact⟨u,rfl,r⟩
theorem oY.none_of{o:Option Value}(r:oY none o):o=none:=by
 cases o with
 | none=>rfl
 | some u=>exact(show False from r).elim
theorem Cw{v:V}{u:Value}(r:RelV v u):PySem.W.handedIn u=true:=by
 cases v with
 | cR=>cases(show u=Value.none from r);rfl
 | bl b=>cases(show u=Value.bool b from r);rfl
 | int i=>obtain⟨t,e⟩:=(show ∃t,u=Value.int i t from r);cases e;rfl
 | str x=>obtain⟨t,e⟩:=(show ∃t,u=Value.str x t from r);cases e;rfl
 | byt b=>obtain⟨t,e⟩:=(show ∃t,u=Value.bytes b t from r);cases e;rfl
 | flt b=>obtain⟨t,e⟩:=(show ∃t,u=Value.float b t from r);cases e;rfl
 | ref a=>cases(show u=Value.ref a from r);rfl
 | ty n=>cases(show u=Value.type n from r);rfl
section
variable {P:Program} {w:World} {H H':Hp} {h h':Heap} {a C dx:Addr} {fs Ni:List (Str × V)}
theorem rX(hok:nu P w H h)(e:H a=some (.ins C dx fs)):∃mA,zS h a dx C mA/\(∀f,oY (fs.lookup f) (mA f))/\PySem.Within mA (fs.map (·.1))/\fs.length<=1000/\H dx=some (.own a):=by
 obtain⟨d,z,ne,ob,mA,n,r,q⟩:=(show cT P w H h a (.ins C dx fs) from hok a _ e)
 exact⟨mA,⟨ob,n,ne⟩,r,q,z,d⟩
end
structure wc (K:W.Frag) (C:Addr):Prop where
 pg:PySem.W.plainGet K C Str.empty=true
 hd:PySem.W.hasDictIn K C=true
 po:PySem.W.plainOver K C=true
 sa:PySem.W.findIn K (.ref C) "__setattr__"=some (some (.builtin "object.__setattr__"))
theorem wc.get{K:W.Frag}{C:Addr}(c:wc K C)(f:Str):PySem.W.plainGet K C f=true:=c.pg
def cP(K:W.Frag)(C:Addr)(f:Str):Prop:=PySem.W.findIn K (.ref C) f=some none
theorem cP.Nz{K:W.Frag}{C:Addr}(n:cP K C f):PySem.W.takerIn K C f=some none:=by
 unfold PySem.W.takerIn;rw[show PySem.W.findIn K (.ref C) f=some none from n]
 rfl
structure WS (K:W.Frag) (C:Addr) (f:Str) (v:V) (u:Value):Prop where
 at_:PySem.W.findIn K (.ref C) f=some (some u)
 rel:RelV v u
 get:PySem.W.specialIn K u "__get__"=some none
 cp:PySem.W.copiedNames.contains f=false
structure Meth (K:W.Frag) (C:Addr) (m:Str) (f:Addr):Prop where
 at_:PySem.W.findIn K (.ref C) m=some (some (.ref f))
 fn:PySem.W.isFn K (.ref f)=true
 kp:PySem.W.keepIn K (.ref f)=true
section
variable {X:Cx} {pins:Aaa} {σ:St} {H:Hp} {s:Shared} {a C dx:Addr} {fs:List (Str × V)} {f:Str} {v:V} {A:Around} {E:Aab}
theorem zV{b:Bool}{Q:Aab}(I:Inv X pins σ H s)(e:H a=some (.ins C dx fs))(c:wc X.K C)(n:cP X.K C f)(l:fs.lookup f=some v)
 (h:∀u s',Inv X pins σ H s'->RelV v u->Q u s'):wpAny (model X.prog X.w) A (getAttr (.ref a) f b) Q E s:=by
 obtain⟨mA,O,r,_,_,_⟩:=rX I.hok e;obtain⟨u,hu,ru⟩:=oY.some_of (v:=v) (o:=mA f) (by rw[<-l];exact r f)
 exact get_map I.pX O (c.get f) c.hd n hu (Cw ru) (h u _ (I.tok _) ru)
theorem y8{m:Str}{g:Addr}{pl:Sem Bool}{Q:Value × List Value->Shared->Prop}(I:Inv X pins σ H s)(e:H a=some (.ins C dx fs))(c:wc X.K C)(k:Meth X.K C m g)(l:fs.lookup m=none)
 (h:Q (.ref g,[.ref a]) s):wpAny (model X.prog X.w) A (getMethod (.ref a) m pl) Q E s:=by
 obtain⟨mA,O,r,_,_,_⟩:=rX I.hok e;have hn:mA m=none:=oY.none_of (by rw[<-l];exact r m)
 exact DZ I.pX O (c.get m) k.at_ k.fn hn h
theorem y0{y:V}{u:Value}{Q:Unit->Shared->Prop}(I:Inv X pins σ H s)(e:H a=some (.ins C dx fs))(c:wc X.K C)(n:cP X.K C f)(hl:fs.length < 1000)(ry:RelV y u)
 (h:∀s',Inv X pins σ (upd H a (.ins C dx (jS f y fs))) s'->Q () s'):wpAny (model X.prog X.w) A (setAttr (.ref a) f u) Q E s:=by
 obtain⟨mA,O,r,wi,_,ho⟩:=rX I.hok e;have hz:(fs.map (·.1)).length<=sizeLine:=by rw[List.length_map,sizeLine_eq];omega
 refine Il I.pX O c.sa c.po n.Nz c.hd wi hz fun h' O' sb=>h _ ?_
 have hd:∃o,h'.get? dx=some o:=let⟨o,_,_,e',_⟩:=O'.ns;⟨o,e'⟩
 refine I.write (x:=a) (e:=dx) (by rw[e];exact True.intro) (.inr ho) (fun b q hb z=>(sb.2 b hb).trans z) hd ?_
 refine⟨by rw[bg O.ne];exact ho,?_,O.ne,O'.obj,_,O'.ns,fun g=>?_,fun g hg=>?_⟩
 .have:=qR f y fs;omega
 .show oY ((jS f y fs).lookup g) (if g=f then some u else mA g)
  rw[qV];by_cases q:g=f
  .rw [if_pos q,if_pos q];exact ry
  .rw [if_neg q,if_neg q];exact r g
 .by_cases q:g=f
  .rw [q];exact(pW f y fs).1
  .refine(pW f y fs).2 g (wi g fun z=>hg ?_)
   show(if g=f then some u else mA g)=none
   rw[if_neg q];exact z
theorem Inv.made(I:Inv X pins σ H s):Inv X pins σ (upd (upd H s.heap.objs.size (.own (s.heap.objs.size+1))) (s.heap.objs.size+1) (.ins C s.heap.objs.size []))
 {s with heap:=(s.heap.push PySem.W.emptyDict).push (PySem.W.instObj C s.heap.objs.size)}:=by
 have e1:(s.heap.push PySem.W.emptyDict).get? s.heap.objs.size=some PySem.W.emptyDict:=Heap.get?_push_size s.heap rfl;have e2:((s.heap.push PySem.W.emptyDict).push (PySem.W.instObj C s.heap.objs.size)).get? (s.heap.objs.size+1)=some (PySem.W.instObj C s.heap.objs.size):=by
  have:=Heap.get?_push_size (s.heap.push PySem.W.emptyDict) (o:=PySem.W.instObj C s.heap.objs.size) rfl
  rwa [Heap.size_push] at this
 have e3:(s.heap.push PySem.W.emptyDict).Ns s.heap.objs.size (fun _=>none):=⟨PySem.W.emptyDict,#[],_,e1,rfl,(fun e he=>absurd he (by simp)),fun _=>rfl⟩
 have I1:=I.laid (a:=s.heap.objs.size) (o:= .own (s.heap.objs.size+1)) (h':=s.heap.push PySem.W.emptyDict) (t':=s.toks) (fun b u q=>Heap.get?_push_of_some _ q) (Nat.le_refl _) ⟨_,e1⟩
 refine I1.laid (a:=s.heap.objs.size+1) (o:= .ins C s.heap.objs.size []) (t':=s.toks) (fun b u q=>Heap.get?_push_of_some _ q) (Nat.le_of_eq (Heap.size_push _ _)) ?_
 have ne:s.heap.objs.size≠s.heap.objs.size+1:=Nat.ne_of_lt (Nat.lt_succ_self _);refine⟨by rw[bg ne,aT],Nat.zero_le _,ne,e2,fun _=>none,(Heap.Ns1.of_empty e3).at fun o q=>Heap.get?_push_of_some _ q,fun _=>True.intro,fun y hy=>absurd rfl hy⟩
theorem Iw{prog:Program}{w:World}{env:Env}{e:Expr}{f:Str}{pos:Pos}{s:Shared}{Q:Aab}(hb:attributeBase e f env (eval e env)=eval e env)
 (h:wpAny (model prog w) A (eval e env) (fun o s₁=>wpAny (model prog w) A (getAttr o f true) Q E s₁) E s):wpAny (model prog w) A (eval (.Attribute e f pos) env) Q E s:=
 Attribute_any_ h (by rw[arm_eval_Attribute,hb])
end
def RU(K:W.Frag)(ta:TE)(f:Str):TE:=fun σ H Q=>ta σ H fun x H1=>∃a C dx fs v,x= .ref a/\H1 a=some (.ins C dx fs)/\wc K C/\cP K C f/\fs.lookup f=some v/\Q v H1
def WQ(K:W.Frag)(ta:TE)(f:Str):TE:=fun σ H Q=>ta σ H fun x H1=>∃a C dx fs v u,x= .ref a/\H1 a=some (.ins C dx fs)/\wc K C/\WS K C f v u/\fs.lookup f=none/\Q v H1
def QM(K:W.Frag)(ta tv:TE)(f:Str):TS:=fun D σ H=>tv σ H fun y H1=>ta σ H1 fun x H2=>∃a C dx fs,x= .ref a/\H2 a=some (.ins C dx fs)/\wc K C/\cP K C f/\fs.length < 1000/\
 D.nx σ (upd H2 a (.ins C dx (jS f y fs)))
def VU(X:Cx)(op:Operator)(rd:V->V->Hp->VK->Prop):Prop:=
 ∀(pins:Aaa) (s:Shared) (σ:St) (H:Hp) (x y:V) (u v:Value) (Q:VK),Inv X pins σ H s->RelV x u->RelV y v->rd x y H Q->wpAny (model X.prog X.w) X.A (inplaceOp op u v) (EP X pins σ Q) X.xe s
def P_(K:W.Frag)(ta tv:TE)(rd:V->V->Hp->VK->Prop)(f:Str):TS:=fun D σ H=>ta σ H fun x H1=>∃a C dx fs v,x= .ref a/\H1 a=some (.ins C dx fs)/\wc K C/\cP K C f/\fs.lookup f=some v/\
 tv σ H1 fun y H2=>rd v y H2 fun z H3=>∃dx' Ni,H3 a=some (.ins C dx' Ni)/\Ni.length < 1000/\D.nx σ (upd H3 a (.ins C dx' (jS f z Ni)))
section
variable {X:Cx} {o e value:Expr} {f:Str} {pos pos' ua:Pos} {ta tv:TE}
theorem K_(he:PE X e ta)(hb:attributeBase e f X.env (eval e X.env)=eval e X.env):PE X (.Attribute e f pos) (RU X.K ta f):=by
 intro pins s σ H Q I h;refine Iw hb (c6 (he pins s σ H _ I h) fun u s1 ⟨x,H1,I1,rx,a,C,dx,fs,v,ex,ea,c,n,l,q⟩=>?_)
 subst ex;obtain rfl:u=Value.ref a:=rx;exact zV I1 ea c n l fun u' s2 I2 ru=>⟨v,H1,I2,ru,q⟩
theorem K2(ha:PE X o ta)(hv:PE X value tv)(hs:swapsWith value (some (.Attribute o f pos')) pos.line X.env=pure false):PS X (.Assign [.Attribute o f pos'] value pos) (QM X.K ta tv f):=by
 intro pins s σ H D I h;refine plainObj_wpAny_Assign_Attribute (c6 (hv pins s σ H _ I h) fun u s1 ⟨y,H1,I1,ry,q⟩=>c6 (ha pins s1 σ H1 _ I1 q) fun ov s2 ⟨x,H2,I2,rx,a,C,dx,fs,ex,ea,c,n,l,q2⟩=>?_) hs
 subst ex;obtain rfl:ov=Value.ref a:=rx;exact y0 I2 ea c n l ry fun s3 I3=>⟨σ,_,I3,q2⟩
def VI:V->V->Hp->VK->Prop:=fun x y H Q=>∃i j,x= .int i/\y= .int j/\Q (.int (i+j)) H
def V0:V->V->Hp->VK->Prop:=fun x y H Q=>∃i j,x= .int i/\y= .int j/\Q (.int (i - j)) H
end
section
variable {X:Cx} {pins:Aaa} {σ:St} {H:Hp} {s:Shared} {A:Around} {E:Aab} {Q:Aab} {c:Value} {b:Bool}
inductive rB (K:W.Frag) (H:Hp):V->Value->Prop where
 | cR:rB K H .cR (.type "NoneType")
 | bl (x:Bool):rB K H (.bl x) (.type "bool")
 | int (i:Int):rB K H (.int i) (.type "int")
 | str (x:Str):rB K H (.str x) (.type "str")
 | flt (x:UInt64):rB K H (.flt x) (.type "float")
 | lst {a:Addr} {xs:List V} (e:H a=some (.lst xs)):rB K H (.ref a) (.type "list")
 | j4 {a:Addr} {o:Obj} {xs:List V} (e:H a=some (.j4 o (.lst xs))):rB K H (.ref a) (.type "list")
 | tup {a:Addr} {xs:List V} (e:H a=some (.tup xs)):rB K H (.ref a) (.type "tuple")
 | dK {a:Addr} {aV:List (Key × V)} (e:H a=some (.dK aV)):rB K H (.ref a) (.type "dict")
 | dT {a:Addr} {aV:List (List Key × V)} (e:H a=some (.dT aV)):rB K H (.ref a) (.type "dict")
 | ins {a C dx:Addr} {fs:List (Str × V)} (e:H a=some (.ins C dx fs)) (cl:wc K C) (ha:PySem.W.findIn K (.ref C) "__class__"=some (some (.builtin "object.__class__")))
    (hn:PySem.W.specialIn K (.builtin "object.__class__") "__get__"=some (some (.builtin "getset_descriptor.__get__"))) (Vm:PySem.W.takesIn K (.builtin "object.__class__")=some true)
    (hm:PySem.W.mroIn K C (.type "object")=some true):rB K H (.ref a) (.ref C)
theorem m6{x:V}{u t:Value}(I:Inv X pins σ H s)(rx:RelV x u)(ty:rB X.K H x t)(e:PySem.W.kitOne X.K t c=some b)(h:∀tk,Q (.bool b) {s with toks:=tk}) :
 wpAny (model X.prog X.w) A (call (.builtin "isinstance") [u,c]) Q E s:=by
 cases ty with
 | cR=>cases(show u=Value.none from rx);exact PySem.W.kia_one PySem.W.kitx_none I.pX True.intro e (fun z=>nomatch z) h
 | bl y=>cases(show u=Value.bool y from rx);exact PySem.W.kia_one PySem.W.kitx_bool I.pX True.intro e (fun z=>nomatch z) h
 | int i=>obtain⟨t,q⟩:=(show ∃t,u=Value.int i t from rx);cases q;exact PySem.W.kia_one PySem.W.kitx_int I.pX True.intro e (fun z=>nomatch z) h
 | str y=>obtain⟨t,q⟩:=(show ∃t,u=Value.str y t from rx);cases q;exact PySem.W.kia_one PySem.W.kitx_str I.pX True.intro e (fun z=>nomatch z) h
 | flt y=>obtain⟨t,q⟩:=(show ∃t,u=Value.float y t from rx);cases q;exact PySem.W.kia_one PySem.W.kitx_float I.pX True.intro e (fun z=>nomatch z) h
 | @lst a xs ea=>
   cases(show u=Value.ref a from rx)
   obtain⟨_,_,n,_,h1⟩:=(show cT X.prog X.w H s.heap a (.lst xs) from I.hok a _ ea)
   exact PySem.W.kia_one PySem.W.kitx_list I.pX ⟨_,h1,rfl⟩ e (fun z=>nomatch z) h
 | @j4 a ob xs ea=>
   cases(show u=Value.ref a from rx)
   obtain⟨_,_,_,n,_,h1⟩:=(show cT X.prog X.w H s.heap a (.j4 ob (.lst xs)) from I.hok a _ ea)
   exact PySem.W.kia_one PySem.W.kitx_list I.pX ⟨_,h1,rfl⟩ e (fun z=>nomatch z) h
 | @tup a xs ea=>
   cases(show u=Value.ref a from rx)
   obtain⟨_,_,_,p⟩:=(show cT X.prog X.w H s.heap a (.tup xs) from I.hok a _ ea)
   obtain⟨o,h1,h2,_⟩:=p;exact PySem.W.kia_one PySem.W.kitx_tuple I.pX ⟨o,h1,h2⟩ e (fun z=>nomatch z) h
 | @dK a aV ea=>
   cases(show u=Value.ref a from rx)
   obtain⟨_,_,vs,_,p⟩:=(show cT X.prog X.w H s.heap a (.dK aV) from I.hok a _ ea)
   obtain⟨o,es,ep,h1,h2,_⟩:=p;exact PySem.W.kia_one PySem.W.kitx_dict I.pX ⟨o,h1,h2.1⟩ e (fun z=>nomatch z) h
 | @dT a aV ea=>
   cases(show u=Value.ref a from rx)
   obtain⟨_,_,xs,_,o,es,ep,h1,h2,_⟩:=(show cT X.prog X.w H s.heap a (.dT aV) from I.hok a _ ea)
   exact PySem.W.kia_one PySem.W.kitx_dict I.pX ⟨o,h1,h2.1⟩ e (fun z=>nomatch z) h
 | @ins a C dx fs ea cl ha hn Vm hm=>
   cases(show u=Value.ref a from rx)
   obtain⟨mA,O,_⟩:=rX I.hok ea;obtain⟨od,J,_⟩:=O.look;exact PySem.W.kia_one (PySem.W.kitx_own (cl.get _) cl.hd ha hn Vm hm) I.pX J e (fun z=>nomatch z) h
end
structure dW (k:Nat) (A:Around):Prop where
 hd:A.handled=none
 dp:A.depth+3*k+5 < recursionLimit
 un:A.units+16*k+200 < cLine
theorem dW.mono{j k:Nat}(r:dW k A)(h:j<=k):dW j A:=⟨r.hd,by have:=r.dp;omega,by have:=r.un;omega⟩
theorem dW.deeper{k:Nat}{A:Around}(r:dW (k+1) A)(env:Env):dW k (A.deeper env):=
 ⟨r.hd,by have:=r.dp;show A.depth+1+3*k+5 < _;omega,by have:=r.un;show A.units+3+16*k+200 < _;omega⟩
theorem Ah{A:Around}{C:Addr}{us:List Value}{kw:List (Str × Value)}:(A.under (.builtin "type.__call__" ⟨.ref C ::us,kw⟩)).depth=A.depth+1:=by
 first | rfl | simp [Around.under,Code.weight,Code.isCreation,Code.isGuard,Code.isCaller,Code.frames,Code.isFrame,guardIds]
theorem zI{A:Around}{C:Addr}{us:List Value}{kw:List (Str × Value)}:(A.under (.builtin "type.__call__" ⟨.ref C ::us,kw⟩)).units=A.units+1:=by
 first | rfl | simp [Around.under,Code.cUnits,Code.frames,Code.isFrame]
theorem dW.make{k:Nat}{A:Around}(r:dW (k+1) A)(C:Addr)(us:List Value)(kw:List (Str × Value)):dW k (A.under (.builtin "type.__call__" ⟨.ref C ::us,kw⟩)):=
 ⟨r.hd,by have:=r.dp;rw [Ah];omega,by have:=r.un;rw [zI];omega⟩
theorem dW.depth{k:Nat}{A:Around}(r:dW k A):A.depth < recursionLimit:=by have:=r.dp;omega
theorem dW.units{k:Nat}{A:Around}(r:dW k A):A.units+64 < cLine:=by have:=r.un;omega
def QT:TA:=fun _ H Q=>Q [] H
def Oy(ta:TE)(tr:TA):TA:=fun σ H Q=>ta σ H fun x H1=>tr σ H1 fun xs H2=>Q (x ::xs) H2
section
variable {X:Cx} {e:Expr} {es:List Expr} {te:TE} {t:TA} {pos:Pos}
theorem ja:PA X [] QT:=fun _ _ _ _ H Q I h=>Calls.spliced_nil ⟨[],H,I, .nil,h⟩
theorem fj(ha:PE X e te)(hr:PA X es t)(hs:starEach (e ::es) X.env=(false,eval e X.env) ::starEach es X.env:=by rfl):PA X (e ::es) (Oy te t):=by
 intro pos pins s σ H Q I h;rw[hs];show wpAny _ _ (spliced ((false,eval e X.env) ::backTo pos (starEach es X.env))) _ _ s;refine Calls.spliced_cons (c6 (ha pins s σ H _ I h) fun u s1 ⟨x,H1,I1,r1,q1⟩=>?_)
 exact c6 (hr pos pins s1 σ H1 _ I1 q1) fun us s2 ⟨xs,H2,I2,r2,q2⟩=>⟨x ::xs,H2,I2, .cons r1 r2,q2⟩
def QE(t:TA):TE:=fun σ H Q=>t σ H fun xs H1=>xs.length<=sizeLine/\∀p,H1 p=none->Q (.ref p) (upd H1 p (.tup xs))
def Rp(t:TA):TE:=fun σ H Q=>t σ H fun xs H1=>xs.length<=sizeLine/\∀p,H1 p=none->Q (.ref p) (upd H1 p (.lst xs))
theorem EN{x1}(h:PA X es t):PE X (.Tuple es x1 pos) (QE t):=by
 intro pins s σ H Q I hq;refine wpAny_Tuple_spliced (c6 (h pos pins s σ H _ I hq) fun us s1 ⟨xs,H1,I1,r,z,q⟩=>⟨by rw[<-r.length];exact z,?_⟩)
 have hf:H1 s1.heap.objs.size=none:=I1.hok.fresh (Nat.le_refl _);refine⟨.ref s1.heap.objs.size,upd H1 s1.heap.objs.size (.tup xs),I1.laid (t':=s1.toks) (fun b u e=>Heap.get?_push_of_some _ e) (Nat.le_refl _) ?_,rfl,q _ hf⟩
 exact⟨z,us,r,⟨_,Heap.get?_push_size _ rfl,rfl,_,rfl⟩⟩
theorem DL(h:PA X es t):PE X (.List es pos) (Rp t):=by
 intro pins s σ H Q I hq;refine wpAny_List_spliced (c6 (h pos pins s σ H _ I hq) fun us s1 ⟨xs,H1,I1,r,z,q⟩=>⟨by rw[<-r.length];exact z,?_⟩)
 have hf:H1 s1.heap.objs.size=none:=I1.hok.fresh (Nat.le_refl _);refine⟨.ref s1.heap.objs.size,upd H1 s1.heap.objs.size (.lst xs),I1.laid (t':=s1.toks) (fun b u e=>Heap.get?_push_of_some _ e) (Nat.le_refl _) ?_,rfl,q _ hf⟩
 exact⟨z,us,0,r,Heap.get?_push_size _ rfl⟩
end
abbrev Sp:=List V->Hp->VK->XK->Prop
abbrev Du:=List Env->Hp->Shared->XK->Value->Shared->Prop
structure zO (P:Program) (w:World) (K:W.Frag) (mg:Aaf) (base:Heap) (A:Around) (outer:List Env) (s:Shared) (H:Hp):Prop where
 frames:A.frames=some outer
 mod:Mod K mg base
 bs:∀b o,base.get? b=some o->s.heap.get? b=some o/\H b=none
 bsz:base.objs.size<=s.heap.objs.size
 rD:s.heap.FunFrames base outer
 frf:∀b∈BE outer,H b=none
 hok:nu P w H s.heap
 bare:AllBare s.gens
def CE(outer:List Env)(P:Program)(w:World)(H:Hp)(s:Shared)(Q:VK)(u:Value)(s':Shared):Prop:=
 ∃v H',s'.os=s.os/\AllBare s'.gens/\Un (BE outer) [] H H' s.heap s'.heap/\nu P w H' s'.heap/\RelV v u/\Q v H'
def CR(CX:Du)(outer:List Env)(P:Program)(w:World)(H:Hp)(s:Shared)(Q:VK)(E:XK)(r:Result)(s':Shared):Prop:=
 match r with
 | .ok (.ret u)=>CE outer P w H s Q u s'
 | .ok _=>False
 | .error e=>CX outer H s E e s'
structure ie (P:Program) (w:World) (K:W.Frag) (mg:Aaf) (base:Heap) (CX:Du) (k:Nat) (f:Addr) (fd:FuncData) (ps:List Str) (sp:Sp):Prop where
 len:∀vs H Q E,sp vs H Q E->vs.length=ps.length
 run:∀(A:Around) (outer:List Env) (s:Shared) (H:Hp) (args:Args) (us:List Value) (vs:List V) (Q:VK) (E:XK),dW k A->zO P w K mg base A outer s H->BindsTo s fd args (ps.zip us)->Vals vs us->sp vs H Q E->
  codeAny (model P w) A (.call (.ref f) args) (CR CX outer P w H s Q E) s
theorem ie.imp{P:Program}{w:World}{K:W.Frag}{mg:Aaf}{base:Heap}{CX:Du}{k:Nat}{f:Addr}{fd:FuncData}{ps:List Str}{sp Vp:Sp}(F:ie P w K mg base CX k f fd ps sp)
 (h:∀vs H Q E,Vp vs H Q E->sp vs H Q E):ie P w K mg base CX k f fd ps Vp:=
 ⟨fun vs H Q E q=>F.len vs H Q E (h _ _ _ _ q),fun A outer s H args us vs Q E hr he hb hv hs=>F.run A outer s H args us vs Q E hr he hb hv (h _ _ _ _ hs)⟩
theorem zO.make{K:W.Frag}{mg:Aaf}{outer:List Env}{s:Shared}(e:zO P w K mg base A outer s H)(C:Addr)(us:List Value)(kw:List (Str × Value)) :
 zO P w K mg base (A.under (.builtin "type.__call__" ⟨.ref C ::us,kw⟩)) outer s H:=⟨by first | exact e.frames | (simpa [Around.under,Code.envs,Code.isFrame,pushEnvs] using e.frames),e.mod,e.bs,e.bsz,e.rD,e.frf,e.hok,e.bare⟩
section
variable {X:Cx} {pins:Aaa} {σ:St} {H:Hp} {s s':Shared}
theorem Inv.N3(I:Inv X pins σ H s):zO X.prog X.w X.K X.mg X.base X.A X.stack s H:=
 ⟨I.ok.frames,I.ok.mod,I.bs,Nat.le_trans I.ok.bsz I.sz,I.stack,I.Ax,I.hok,I.bare⟩
theorem Inv.after{Q:VK}{u:Value}(I:Inv X pins σ H s)(h:CE X.stack X.prog X.w H s Q u s'):EP X pins σ Q u s':=by
 obtain⟨v,H',os,bare,un,hok,r,q⟩:=h;obtain⟨hh,g,d,t,Au⟩:=s';obtain rfl:Au=s.os:=os;exact⟨v,H',I.call (h':=hh) (g':=g) (d':=d) (t':=t) (ch:=[]) un hok bare (fun b z=>absurd z (by simp)),r,q⟩
end
def N_(sp:Sp)(xg:List V)(E:XK)(t:TA):TE:=fun σ H Q=>t σ H fun vs H1=>sp (vs++xg) H1 Q E
def O4(C:Addr)(m:Str)(sp:Sp)(xg:List V)(E:XK)(ta:TE)(t:TA):TE:=fun σ H Q=>ta σ H fun x H1=>∃a dx fs,x= .ref a/\H1 a=some (.ins C dx fs)/\fs.lookup m=none/\
 t σ H1 fun vs H2=>sp (x ::(vs++xg)) H2 Q E
def OZ(C:Addr)(sp:Sp)(xg:List V)(E:XK)(t:TA):TE:=fun σ H Q=>t σ H fun vs H1=>∀x dx,H1 x=none->H1 dx=none->dx≠x->
 sp (.ref x ::(vs++xg)) (upd (upd H1 dx (.own x)) x (.ins C dx [])) (fun v H2=>v= .cR/\Q (.ref x) H2) E
def Binds(K:W.Frag)(fd:FuncData)(ps:List Str)(ds:List Value):Prop:=
 ∀(s:Shared) (us:List Value),K.In s.heap->(us++ds).length=ps.length->BindsTo s fd ⟨us,[]⟩ (ps.zip (us++ds))
theorem Binds.all{K:W.Frag}{fd:FuncData}{ps:List Str}(h:∀us:List Value,us.length=ps.length->bindArgs fd ⟨us,[]⟩=pure (ps.zip us)):Binds K fd ps []:=fun s us _ hl=>by
 rw[List.append_nil] at hl ⊢;exact .of_eq (h us hl)
def Passes(CX:Du)(X:Cx)(E:XK):Prop:=∀(pins:Aaa) (σ:St) (H:Hp) (s:Shared) (e:Value) (s':Shared),Inv X pins σ H s->CX X.stack H s E e s'->X.xe e s'
section
variable {X:Cx} {CX:Du} {k:Nat} {f C:Addr} {fd:FuncData} {ps:List Str} {sp:Sp} {xg:List V} {ds:List Value} {E:XK} {x m:Str} {p pos apos:Pos} {e o:Expr} {es:List Expr} {ta:TE} {t:TA}
theorem FR{pins:Aaa}{σ:St}{H:Hp}{s:Shared}{Q:VK}{us:List Value}{vs:List V}(F:ie X.prog X.w X.K X.mg X.base CX k f fd ps sp)(hr:dW k X.A)(hb:Binds X.K fd ps ds)(hd:Vals xg ds)(hx:Passes CX X E)
 (I:Inv X pins σ H s) (r:Vals vs us) (h:sp (vs++xg) H Q E):wpAny (model X.prog X.w) X.A (call (.ref f) us) (EP X pins σ Q) X.xe s:=by
 have r2:Vals (vs++xg) (us++ds):=r.append hd;have hl:(us++ds).length=ps.length:=by rw[<-r2.length];exact F.len _ _ _ _ h
 refine wpAny_call (codeAny_mono (F.run X.A X.stack s H ⟨us,[]⟩ (us++ds) (vs++xg) Q E hr I.N3 (hb s us I.pX hl) r2 h) fun r s' hq=>?_)
 cases r with
 | error e=>exact hx pins σ H s e s' I hq
 | ok fl=>
   cases fl with
   | ret u=>exact I.after hq
   | next=>exact False.elim hq
   | brk=>exact False.elim hq
   | cont=>exact False.elim hq
theorem v7(F:ie X.prog X.w X.K X.mg X.base CX k f fd ps sp)(hr:dW k X.A)(hg:Gl X x)(hm:X.mg x=some (.ref f))(hk:PySem.W.keepIn X.K (.ref f)=true)(hb:Binds X.K fd ps ds)(hd:Vals xg ds)(hx:Passes CX X E)
 (ha:PA X (e ::es) t) (qw:(x==("__debug__":Str))=false:=by decide) (he:starEach (e ::es) X.env=(false,eval e X.env) ::starEach es X.env:=by rfl) (lM:(backTo pos (starEach es X.env)).any (·.1)=false:=by rfl) :
 PE X (.Call (.Name x p) (e ::es) [] pos) (N_ sp xg E t):=by
 intro pins s σ H Q I h;refine wpAny_Call_Name_kw (AS I hg hm ?_ qw);refine PySem.W.callWith_K (h₀:=X.base) I.ok.mod.kin hk (c6 (ha pos pins s σ H _ I h) fun us s1 ⟨vs,H1,I1,r,q⟩=>⟨I1.pX,?_⟩) he lM
 exact FR F hr hb hd hx I1 r q
theorem HV{pl:Sem Bool}(he:PE X o ta)(c:wc X.K C)(hm:Meth X.K C m f)(F:ie X.prog X.w X.K X.mg X.base CX k f fd ps sp)(hr:dW k X.A)(hb:Binds X.K fd ps ds)(hd:Vals xg ds)(hx:Passes CX X E)(ha:PA X (e ::es) t)
 (Ap:starEach (e ::es) X.env=(false,eval e X.env) ::starEach es X.env:=by rfl) (lM:(backTo pos (starEach es X.env)).any (·.1)=false:=by rfl)
 (ht:eval (.Call (.Attribute o m apos) (e ::es) [] pos) X.env=(do
   let ov <-eval o X.env
   standAt apos.atName
   let(f,first) <-holding [ov] (getMethod ov m pl)
   callWith pos f first (backTo pos (starEach (e ::es) X.env)) (backToKw pos (keywordEach [] X.env))):=by rfl) :
 PE X (.Call (.Attribute o m apos) (e ::es) [] pos) (O4 C m sp xg E ta t):=by
 intro pins s σ H Q I h;refine PySem.W.methodCall_KW (pl:=pl) (c6 (he pins s σ H _ I h) fun u s1 ⟨x,H1,I1,rx,a,dx,fs,ex,ea,l,q⟩=>?_) ht
 subst ex;obtain rfl:u=Value.ref a:=rx;refine y8 I1 ea c hm l ?_;refine PySem.W.callWith_K (first:=[.ref a]) (h₀:=X.base) I.ok.mod.kin hm.kp (c6 (ha pos pins s1 σ H1 _ I1 q) fun us s2 ⟨vs,H2,I2,r,q2⟩=>⟨I2.pX,?_⟩) Ap lM
 exact FR (us:= .ref a ::us) (vs:= .ref a ::vs) F hr hb hd hx I2 (.cons rfl r) q2
structure Mk (K:W.Frag) (C f:Addr):Prop where
 makes:PySem.W.makesIn K C=true
 init:PySem.W.findIn K (.ref C) "__init__"=some (some (.ref f))
 fn:PySem.W.isFn K (.ref f)=true
 kp:PySem.W.keepIn K (.ref C)=true
theorem Gu{pins:Aaa}{σ:St}{H:Hp}{s:Shared}{Q:VK}{us:List Value}{vs:List V}(M:Mk X.K C f)(F:ie X.prog X.w X.K X.mg X.base CX k f fd ps sp)(hr:dW (k+1) X.A)(hb:Binds X.K fd ps ds)(hd:Vals xg ds)
 (hx:Passes CX X E) (I:Inv X pins σ H s) (r:Vals vs us)
 (h:∀x dx,H x=none->H dx=none->dx≠x->sp (.ref x ::(vs++xg)) (upd (upd H dx (.own x)) x (.ins C dx [])) (fun v H2=>v= .cR/\Q (.ref x) H2) E) :
 wpAny (model X.prog X.w) X.A (call (.ref C) us) (EP X pins σ Q) X.xe s:=by
 have hq:=h (s.heap.objs.size+1) s.heap.objs.size (I.hok.fresh (Nat.le_succ _)) (I.hok.fresh (Nat.le_refl _)) (Nat.ne_of_lt (Nat.lt_succ_self _));have I2:=Inv.made (C:=C) I;have r2:Vals (V.ref (s.heap.objs.size+1) ::(vs++xg)) (Value.ref (s.heap.objs.size+1) ::(us++ds)):= .cons rfl (r.append hd);have hl:(Value.ref (s.heap.objs.size+1) ::us++ds).length=ps.length:=by
  have e:=r2.length;rw[F.len _ _ _ _ hq] at e;exact e.symm
 refine wpAny_call (FP (f:=f) I.pX M.makes M.init (beq_iff_eq.mp M.fn) (codeAny_mono (F.run _ X.stack _ _ ⟨Value.ref (s.heap.objs.size+1) ::us,[]⟩ (Value.ref (s.heap.objs.size+1) ::(us++ds)) _ _ E (hr.make C us [])
  (I2.N3.make C us []) (hb _ (Value.ref (s.heap.objs.size+1) ::us) I2.pX hl) r2 hq) fun r s' Pc=>?_))
 cases r with
 | error e=>exact hx pins σ _ _ e s' I2 Pc
 | ok fl=>
   cases fl with
   | ret u=>
     obtain⟨v,H',I3,rv,ev,q3⟩:=I2.after Pc;subst ev;exact⟨rv,⟨V.ref (s.heap.objs.size+1),H',I3,rfl,q3⟩⟩
   | next=>exact False.elim Pc
   | brk=>exact False.elim Pc
   | cont=>exact False.elim Pc
theorem Jo(M:Mk X.K C f)(F:ie X.prog X.w X.K X.mg X.base CX k f fd ps sp)(hr:dW (k+1) X.A)(hg:Gl X x)(hm:X.mg x=some (.ref C))(hb:Binds X.K fd ps ds)(hd:Vals xg ds)(hx:Passes CX X E)
 (ha:PA X (e ::es) t) (qw:(x==("__debug__":Str))=false:=by decide) (he:starEach (e ::es) X.env=(false,eval e X.env) ::starEach es X.env:=by rfl) (lM:(backTo pos (starEach es X.env)).any (·.1)=false:=by rfl) :
 PE X (.Call (.Name x p) (e ::es) [] pos) (OZ C sp xg E t):=by
 intro pins s σ H Q I h;refine wpAny_Call_Name_kw (AS I hg hm ?_ qw);refine PySem.W.callWith_K (h₀:=X.base) I.ok.mod.kin M.kp (c6 (ha pos pins s σ H _ I h) fun us s1 ⟨vs,H1,I1,r,q⟩=>⟨I1.pX,?_⟩) he lM
 exact Gu M F hr hb hd hx I1 r q
end
def PK(X:Cx)(VC:List Keyword)(t:TA):Prop:=
 ∀(pos:Pos) (pins:Aaa) (s:Shared) (σ:St) (H:Hp) (Q:List V->Hp->Prop),Inv X pins σ H s->t σ H Q->wpAny (model X.prog X.w) X.A (evalAll ((backToKw pos (keywordEach VC X.env)).map (·.2))) (AP X pins σ Q) X.xe s
section
variable {X:Cx} {CX:Du} {k:Nat} {f C:Addr} {fd:FuncData} {ps ks:List Str} {sp:Sp} {E:XK} {x m:Str} {p pos apos XW:Pos} {e o:Expr} {es:List Expr} {VC:List Keyword} {te ta:TE} {t tk:TA} {nm:Option Str}
structure QQ (K:W.Frag) (fd:FuncData) (ps ks:List Str) (g:List Value->List Value->List Value) (gV:List V->List V->List V):Prop where
 to:∀(s:Shared) (us ws:List Value),K.In s.heap->(g us ws).length=ps.length->BindsTo s fd ⟨us,ks.zip ws⟩ (ps.zip (g us ws))
 rel:∀{vs:List V} {us:List Value} {zs:List V} {ws:List Value},Vals vs us->Vals zs ws->Vals (gV vs zs) (g us ws)
def R0(sp:Sp)(gV:List V->List V->List V)(E:XK)(t tk:TA):TE:=fun σ H Q=>t σ H fun vs H1=>tk σ H1 fun zs H2=>sp (gV vs zs) H2 Q E
variable {g:List Value->List Value->List Value} {gV:List V->List V->List V}
end
structure a_ (N P:List Str) (sc:Scope):Prop where
 kind:sc.kind= .function
 co:sc.isCoroutine=false
 gen:sc.isGenerator=false
 nd:N.Nodup
 pre:N.take P.length=P
 par:∀x∈P,sc.names.lookup x=some .local\/sc.names.lookup x=some .cell
 nofree:∀y∈sc.names,y.2≠ .free
theorem uJ{kindOf:Str->Option NameKind}:∀{binds:List (Str × Value)} {m:Aaf},(∀v,(x,v) ∉ binds)->bindL kindOf binds m x=m x
 | [],_,_=>rfl
 | (n,v) ::r,m,h=>by
   unfold bindL;rw[uJ fun w hw=>h w (List.mem_cons_of_mem _ hw)]
   split
   .have:x≠n:=by rintro rfl;exact h v List.mem_cons_self
    simp [this]
   .rfl
theorem vk{kindOf:Str->Option NameKind}:∀{binds:List (Str × Value)} {m:Aaf},(∀v,(x,v) ∉ binds)->bindC kindOf binds m x=m x
 | [],_,_=>rfl
 | (n,v) ::r,m,h=>by
   unfold bindC;rw[vk fun w hw=>h w (List.mem_cons_of_mem _ hw)]
   split
   .rfl
   .have:x≠n:=by rintro rfl;exact h v List.mem_cons_self
    simp [this]
theorem u_{kindOf:Str->Option NameKind}{v:Value}:∀{P:List Str} {vs:List Value} {i:Nat} {m:Aaf},P.Nodup->P[i]? =some x->vs[i]? =some v->kindOf x=some .local->
 bindL kindOf (P.zip vs) m x=some v
 | [],_,_,_,_,h,_,_=>by simp at h
 | _ ::_,[],_,_,_,_,h,_=>by simp at h
 | p ::P,w ::vs,0,m,nd,h1,h2,hk=>by
   simp at h1 h2;subst h1;subst h2;show bindL kindOf ((p,w) ::P.zip vs) m p=_;unfold bindL;rw[uJ fun v hv=>(List.nodup_cons.mp nd).1 (List.of_mem_zip hv).1,if_pos hk]
   simp
 | p ::P,w ::vs,i+1,m,nd,h1,h2,hk=>by
   show bindL kindOf ((p,w) ::P.zip vs) m x=_;unfold bindL;exact u_ (i:=i) (List.nodup_cons.mp nd).2 (by simpa using h1) (by simpa using h2) hk
theorem vy{kindOf:Str->Option NameKind}{v:Value}:∀{P:List Str} {vs:List Value} {i:Nat} {m:Aaf},P.Nodup->P[i]? =some x->vs[i]? =some v->kindOf x≠some .local->
 bindC kindOf (P.zip vs) m x=some v
 | [],_,_,_,_,h,_,_=>by simp at h
 | _ ::_,[],_,_,_,_,h,_=>by simp at h
 | p ::P,w ::vs,0,m,nd,h1,h2,hk=>by
   simp at h1 h2;subst h1;subst h2;show bindC kindOf ((p,w) ::P.zip vs) m p=_;unfold bindC;rw[vk fun v hv=>(List.nodup_cons.mp nd).1 (List.of_mem_zip hv).1,if_neg hk]
   simp
 | p ::P,w ::vs,i+1,m,nd,h1,h2,hk=>by
   show bindC kindOf ((p,w) ::P.zip vs) m x=_;unfold bindC;exact vy (i:=i) (List.nodup_cons.mp nd).2 (by simpa using h1) (by simpa using h2) hk
def start(N:List Str)(vs:List V):St:=vs.map some++List.replicate (N.length - vs.length) none
def p6(CX:Du)(P:Program)(w:World)(K:W.Frag)(mg:Aaf)(base:Heap)(N:List Str)(qual:Str)(scope:Scope)(f:Addr)(cd:Value)(A:Around)(outer:List Env)(s:Shared)(H:Hp)(E:XK):Cx where
 prog:=P
 w:=w
 K:=K
 mg:=mg
 base:=base
 A:=A.deeper (envOfC qual scope s.heap.objs.size f cd)
 N:=N
 s₀:=s
 H₀:=H
 env:=envOfC qual scope s.heap.objs.size f cd
 outer:=outer
 stack:=envOfC qual scope s.heap.objs.size f cd ::outer
 ex:=[]
 calm:=true
 fn:=fun _=>true
 pn:=[]
 xe:=fun e s'=>wpAny (model P w) (A.deeper (envOfC qual scope s.heap.objs.size f cd)) (leaving (envOfC qual scope s.heap.objs.size f cd) e) (fun _ Py=>CX outer H s E e Py) (fun e' Py=>CX outer H s E e' Py) s'
theorem sC{sc:Scope}{n:Nat}(h:sc.names.lookup x=some .cell):∃c,(cellsFrom n sc.names []).lookup x=some c:=by
 have q:=PySem.W.cellsFrom_some sc.names n [] (.inl h);exact Option.isSome_iff_exists.mp q
theorem CY{CX:Du}{P:Program}{w:World}{K:W.Frag}{mg:Aaf}{base:Heap}{N ps:List Str}{qual:Str}{scope:Scope}{f:Addr}{cd:Value}{A:Around}{outer:List Env}{s s1:Shared}{H:Hp}{E:XK}{us:List Value}{vs:List V}
 (S:a_ N ps scope) (hd:A.handled=none) (e0:zO P w K mg base A outer s H) (hl:vs.length=ps.length) (r:Vals vs us)
 (x:InCallC s s.heap.objs.size (bindL (envOfC qual scope s.heap.objs.size f cd).kindOf (ps.zip us) fun _=>none) (cellsFrom (s.heap.objs.size+1) scope.names []) (bindC (envOfC qual scope s.heap.objs.size f cd).kindOf (ps.zip us) fun _=>none) s1) :
 Inv (p6 CX P w K mg base N qual scope f cd A outer s H E) [] (start N vs) H s1:=by
 have lM:ps.length<=N.length:=by have:=congrArg List.length S.pre;rw [List.length_take] at this;omega
 obtain⟨h1,tk,rfl,hk⟩:=x.done;have noA:∀b:Addr,b ∉ (p6 CX P w K mg base N qual scope f cd A outer s H E).ex:=fun b z=>absurd (show b∈([]:List Addr) from z) (by simp)
 refine⟨⟨e0.mod,S.kind,rfl,rfl,Nat.le_refl _,fun y z c h1 h2=>?_,fun y hy=>?_,fun y c _ h=>?_,fun _=>hd,Around.frames_deeper e0.frames, .inr ⟨rfl,rfl⟩,fun b z=>absurd z (noA b),e0.bs,e0.bsz,fun b _ _=>noA b,fun b z=>absurd z (noA b),e0.rD,e0.frf⟩,
  rfl,e0.bare,Un.kept hk,⟨_,x.toInCall.ns,fun i y v h1 h2 h3=>?_⟩,fun y c h=>⟨_,x.cell y c h⟩,e0.hok.fresh (Nat.le_refl _),fun y c h=>?_,fun p hp=>absurd (show p∈([]:Aaa) from hp) (by simp),e0.hok.kept hk,?_⟩
 .exact name_of_addr x.apart (PySem.mem_of_lookup h1) (PySem.mem_of_lookup h2)
 .have hy:scope.names.lookup y=some .cell\/scope.names.lookup y=some .free:=hy;rcases hy with hy | hy
  .exact sC hy
  .exact absurd rfl (S.nofree _ (PySem.mem_of_lookup hy))
 .exact Nat.le_of_lt (x.above y c (PySem.mem_of_lookup h))
 .have hi:i < vs.length:=by
   unfold start at h2;by_cases hi:i < vs.length
   .exact hi
   .rw [List.getElem?_append_right (by simpa using hi)] at h2
    rw[List.getElem?_replicate] at h2;split at h2 <;> cases h2
  have ha:vs[i]? =some v:=by
   unfold start at h2;rw[List.getElem?_append_left (by simpa using hi),List.getElem?_map] at h2
   cases e:vs[i]? with
   | none=>rw [e] at h2;cases h2
   | some a=>rw [e] at h2;cases h2;rfl
  obtain⟨u,hu,rv⟩:=r.get ha;have hp:ps[i]? =some y:=by
   rw[<-S.pre,List.getElem?_take_of_lt (by omega)];exact h1
  have ndP:ps.Nodup:=by rw[<-S.pre];exact S.nd.sublist (List.take_sublist _ _)
  refine⟨u,rv,?_⟩;rcases S.par y (List.mem_of_getElem? hp) with k | k
  .exact .inl ⟨k,u_ ndP hp hu k⟩
  .obtain⟨c,e⟩:=sC (n:=s.heap.objs.size+1) k;refine .inr ⟨.inl k,c,e,?_⟩;have q:=x.cell y c e;rw[vy ndP hp hu (by show scope.names.lookup y≠_;rw [k];decide)] at q
   exact q
 .exact e0.hok.fresh (Nat.le_of_lt (x.above y c (PySem.mem_of_lookup h)))
 .unfold start;show _=N.length;rw[List.length_append,List.length_map,List.length_replicate];omega
theorem NV{CX:Du}{P:Program}{w:World}{K:W.Frag}{mg:Aaf}{base:Heap}{k:Nat}{f:Addr}{name qual:Str}{params:Arguments}{body:List Stmt}{scope:Scope}{dV kV doc pm fF ct oc:Value}{an od:Option Addr}
 {He:Array (Option Value)} {N ps:List Str} {sp:Sp} (lk:K.lookup f=some ⟨oc,od, .func (PySem.W.fnOf name qual params body scope dV kV doc pm an fF ct),He⟩) (uH:PySem.W.codeIn K fF qual=true) (S:a_ N ps scope)
 (len:∀vs H Q E,sp vs H Q E->vs.length=ps.length)
 (ij:∀(A:Around) (outer:List Env) (s:Shared) (H:Hp) (vs:List V) (Q:VK) (E:XK),dW k (A.deeper (envOfC qual scope s.heap.objs.size f fF))->sp vs H Q E->
   ∃t,u7 (p6 CX P w K mg base N qual scope f fF A outer s H E) body t/\t {nx:=fun _ H'=>Q .cR H',rt:=Q} (start N vs) H) :
 ie P w K mg base CX (k+1) f (PySem.W.fnOf name qual params body scope dV kV doc pm an fF ct) ps sp:=by
 refine⟨len,fun A outer s H args us vs Q E hr e0 hb r Nk=>?_⟩
 have hl:=len _ _ _ _ Nk;have KX:K.In s.heap:=e0.mod.kin.keeps fun b o e=>(e0.bs b o e).1
 have lim:s.heap.NoLimit:=e0.mod.nolimit.keeps fun b o e=>(e0.bs b o e).1
 have hkind:∀y∈ps.zip us,scope.names.lookup y.1=some .local\/(scope.names.lookup y.1=some .cell/\((cellsFrom (s.heap.objs.size+1) scope.names []).lookup y.1).isSome=true):=fun⟨n,v⟩ hy=>by
  rcases S.par n (List.of_mem_zip hy).1 with q | q
  .exact .inl q
  .exact .inr ⟨q,PySem.W.cellsFrom_some _ _ _ (.inl q)⟩
 refine codeAny_call_function hr.depth (KX _ _ lk) rfl S.co S.gen rfl (PySem.W.codeRec_of KX uH) (hb _ _ _ _ ?_);refine wpAny_newFunctionEnv_cells S.kind hkind fun env he s1 x=>?_
 subst he;refine⟨lim.keeps x.toInCall.keep,codeAny_func ?_⟩;obtain⟨t,ht,hq⟩:=ij A outer s H vs Q E (hr.deeper _) Nk;have I:Inv (p6 CX P w K mg base N qual scope f fF A outer s H E) [] (start N vs) H s1:=CY S hr.hd e0 hl r x;refine wpAny_mono (ht [] s1 (start N vs) H _ I hq) (fun fl s' hs=>?_) fun e s' hs=>hs
 have fin:∀{cN:St} {H':Hp} {v:V} {u:Value},Inv (p6 CX P w K mg base N qual scope f fF A outer s H E) [] cN H' s'->RelV v u->Q v H'->CE outer P w H s Q u s':=
  fun {cN H' v u} J rv q=>⟨v,H',J.os,J.bare,J.base,J.hok,rv,q⟩
 cases fl with
 | ret u=>
   obtain⟨v,cN,H',J,rv,q⟩:=hs;exact fin J rv q
 | next=>
   obtain⟨cN,H',J,q⟩:=hs;exact fin (v:=V.cR) (u:=Value.none) J rfl q
 | brk=>
   obtain⟨_,_,_,q⟩:=hs;exact False.elim q
 | cont=>
   obtain⟨_,_,_,q⟩:=hs;exact False.elim q
section
variable {X:Cx} {x:Str} {p pos:Pos} {e:Expr} {es:List Expr} {t:TA} {id T:String} {r:List V->Hp->VK->Prop}
def Vb(r:List V->Hp->VK->Prop)(t:TA):TE:=fun σ H Q=>t σ H fun vs H1=>r vs H1 Q
theorem ye(hc:lX X (.builtin id) r)(hg:Gl X x)(hm:X.mg x=none)(hv:bootBuiltins x=some (.builtin id))(ha:PA X (e ::es) t)(hn:x≠"__name__":=by decide)(qw:(x==("__debug__":Str))=false:=by decide)
 (he:starEach (e ::es) X.env=(false,eval e X.env) ::starEach es X.env:=by rfl) (lM:(backTo pos (starEach es X.env)).any (·.1)=false:=by rfl):PE X (.Call (.Name x p) (e ::es) [] pos) (Vb r t):=by
 intro pins s σ H Q I h;refine wpAny_Call_Name_kw (iq I hg hm hv ?_ hn qw);exact PyProof.Rows.callWith_builtin1 (c6 (ha pos pins s σ H _ I h) fun us s1 ⟨vs,H1,I1,r1,q1⟩=>hc pins s1 σ H1 vs us Q I1 r1 q1) he lM
theorem CD(hc:lX X (.type T) r)(hg:Gl X x)(hm:X.mg x=none)(hv:bootBuiltins x=some (.type T))(ha:PA X (e ::es) t)(hn:x≠"__name__":=by decide)(qw:(x==("__debug__":Str))=false:=by decide)
 (he:starEach (e ::es) X.env=(false,eval e X.env) ::starEach es X.env:=by rfl) (lM:(backTo pos (starEach es X.env)).any (·.1)=false:=by rfl):PE X (.Call (.Name x p) (e ::es) [] pos) (Vb r t):=by
 intro pins s σ H Q I h;refine wpAny_Call_Name_kw (iq I hg hm hv ?_ hn qw);exact PyProof.Rows.callWith_type1 (c6 (ha pos pins s σ H _ I h) fun us s1 ⟨vs,H1,I1,r1,q1⟩=>hc pins s1 σ H1 vs us Q I1 r1 q1) he lM
end
section
variable {κ:Type} [DecidableEq κ]
def mO(aV:List (κ × V))(k:κ):Option V:=(aV.find? fun kv=>decide (kv.1=k)).map (·.2)
def putK(aV:List (κ × V))(k:κ)(v:V):List (κ × V):=
 if(aV.any fun kv=>decide (kv.1=k))=true then aV.map (fun kv=>if kv.1=k then(kv.1,v) else kv) else aV++[(k,v)]
def Gn(aV:List (κ × V))(k:κ):List (κ × V):=aV.filter fun kv=>decide (kv.1≠k)
theorem yM{p:κ × V}{r:List (κ × V)}{k:κ}(e:p.1=k):mO (p ::r) k=some p.2:=by simp [mO,List.find?_cons,e]
theorem xw{p:κ × V}{r:List (κ × V)}{k:κ}(e:¬p.1=k):mO (p ::r) k=mO r k:=by simp [mO,List.find?_cons,e]
theorem xK(aV:List (κ × V))(k:κ)(v:V):(putK aV k v).length<=aV.length+1:=by
 unfold putK;split
 .rw [List.length_map];omega
 .rw [List.length_append,List.length_cons,List.length_nil];omega
theorem oY.getD{o:Option V}{u:Option Value}{d:V}{d':Value}(r:oY o u)(rd:RelV d d'):RelV (o.getD d) (u.getD d'):=by
 cases o with
 | none=>cases u with
   | none=>exact rd
   | some _=>exact(show False from r).elim
 | some _=>cases u with
   | none=>exact(show False from r).elim
   | some _=>exact r
theorem KV.val{aV:List (κ × V)}{vs:List (κ × Value)}(r:KV aV vs)(k:κ):oY (mO aV k) (valueAt vs k):=by
 unfold KV at r
 induction r with
 | nil=>exact True.intro
 | @cons p q ps qs h t ih=>
   obtain⟨h1,h2⟩:=h;by_cases e:p.1=k
   .have e':q.1=k:=h1.symm.trans e;have b:valueAt (q ::qs) k=some q.2:=by simp [valueAt,List.find?_cons,e']
    rw[yM e,b];exact h2
   .have e':¬q.1=k:=fun z=>e (h1.trans z)
    have b:valueAt (q ::qs) k=valueAt qs k:=by simp [valueAt,List.find?_cons,e']
    rw[xw e,b];exact ih
theorem KV.any{aV:List (κ × V)}{vs:List (κ × Value)}(r:KV aV vs)(k:κ):(aV.any fun kv=>decide (kv.1=k))=vs.any fun kv=>decide (kv.1=k):=by
 unfold KV at r
 induction r with
 | nil=>rfl
 | cons h t ih=>rw [List.any_cons,List.any_cons,ih,h.1]
theorem KV.RX{aV:List (κ × V)}{vs:List (κ × Value)}(r:KV aV vs)(k:κ){y:V}{u:Value}(ry:RelV y u) :
 KV (aV.map fun kv=>if kv.1=k then(kv.1,y) else kv) (vs.map fun kv=>if kv.1=k then(kv.1,u) else kv):=by
 unfold KV at r ⊢
 induction r with
 | nil=>exact .nil
 | @cons p q ps qs h t ih=>
   rw[List.map_cons,List.map_cons];refine .cons ?_ ih;obtain⟨h1,h2⟩:=h;by_cases e:p.1=k
   .rw [if_pos e,if_pos (h1.symm.trans e)];exact⟨h1,ry⟩
   .rw [if_neg e,if_neg (fun z=>e (h1.trans z))];exact⟨h1,h2⟩
theorem KV.put{aV:List (κ × V)}{vs:List (κ × Value)}(r:KV aV vs)(k:κ){y:V}{u:Value}(ry:RelV y u):KV (putK aV k y) (stored vs k u):=by
 unfold putK stored;rw[r.any k];by_cases e:(vs.any fun kv=>decide (kv.1=k))=true
 .rw [if_pos e,if_pos e];exact r.RX k ry
 .rw [if_neg e,if_neg e];exact Paired.snoc r ⟨rfl,ry⟩
end
theorem D_{k:Key}{u:Value}(r:RelV (kV k) u):(cY P w).is k u=true:=by
 cases k with
 | inl i=>obtain⟨t,e⟩:=(show ∃t,u=Value.int i t from r);subst e;exact yQ P w i t
 | inr x=>obtain⟨t,e⟩:=(show ∃t,u=Value.str x t from r);subst e;exact yi P w x t
theorem uW:∀{ks:List Key} {us:List Value},Vals (ks.map kV) us->ItemsAre (cY P w) ks us
 | [],_,r=>by rw[List.map_nil] at r;cases r;exact .nil
 | k ::ks,_,r=>by
   rw[List.map_cons] at r;cases r with
   | cons h t=>exact .cons (D_ h) (uW t)
abbrev KT(H:Hp):List (List Key × V)->List (List Key × Addr × Value)->Prop:=Paired fun p q=>p.1=q.1/\H q.2.1=some (.tup (p.1.map kV))/\RelV p.2 q.2.2
theorem KT.val{aV:List (List Key × V)}{xs:List (List Key × Addr × Value)}(r:KT H aV xs)(k:List Key):oY (mO aV k) ((atKey xs k).map (·.2)):=by
 induction r with
 | nil=>exact True.intro
 | @cons p q ps qs h t ih=>
   obtain⟨h1,_,h2⟩:=h;by_cases e:p.1=k
   .have e':q.1=k:=h1.symm.trans e;have b:atKey (q ::qs) k=some q.2:=by simp [atKey,List.find?_cons,e']
    rw[yM e,b];exact h2
   .have e':¬q.1=k:=fun z=>e (h1.trans z)
    have b:atKey (q ::qs) k=atKey qs k:=by simp [atKey,List.find?_cons,e']
    rw[xw e,b];exact ih
section
variable {P:Program} {w:World} {H:Hp} {h:Heap} {a:Addr}
theorem Kd{u:HO}(ok:nu P w H h)(e:Rd H a u):cT P w H h a u:=e.ok ok
theorem DM{aV:List (Key × V)}(ok:nu P w H h)(e:Rd H a (.dK aV)):aV.length<=sizeLine/\(a==sysModules)=false/\∃vs,KV aV vs/\h.DictOf (cY P w) a vs:=
 show cT P w H h a (.dK aV) from Kd ok e
theorem Og{aV:List (Key × V)}(ok:nu P w H h)(e:H a=some (.dK aV)):aV.length<=sizeLine/\(a==sysModules)=false/\∃vs,KV aV vs/\h.DictOf (cY P w) a vs:=DM ok (.inl e)
theorem F8{ks:List Key}(ok:nu P w H h)(e:H a=some (.tup (ks.map kV))):(tupleKind (cY P w)).is h ks a:=by
 obtain⟨_,its,r,o,h1,h2,n,h3⟩:=(show cT P w H h a (.tup (ks.map kV)) from ok a _ e)
 exact⟨o,its.toArray,n,h1,h2,h3,by simpa using uW r⟩
theorem Ke{aV:List (List Key × V)}(ok:nu P w H h)(e:Rd H a (.dT aV)):aV.length<=sizeLine/\(a==sysModules)=false/\
 ∃xs,KT H aV xs/\h.DictOfH (tupleKind (cY P w)) a xs:=by
 obtain⟨z,y,xs,r,o,es,ep,h1,h2,h3,h4,h5⟩:=(show cT P w H h a (.dT aV) from Kd ok e)
 refine⟨z,y,xs,r,o,es,ep,h1,h2,h3,h4,fun x hx=>?_,h5⟩
 have all:∀{l:List (List Key × V)} {m:List (List Key × Addr × Value)},KT H l m->∀x∈m,(tupleKind (cY P w)).is h x.1 x.2.1:=by
  intro l m q
  induction q with
  | nil=>intro x hx;exact nomatch hx
  | @cons p q ps qs hq t ih=>
    intro x hx;rcases List.mem_cons.mp hx with e | hx
    .subst e;exact F8 ok (by rw[<-hq.1];exact hq.2.1)
    .exact ih x hx
 exact all r x hx
end
def uq(H:Hp)(a:Addr)(y:V)(r:Option V):Prop:=
 (∃aV k,Rd H a (.dK aV)/\y=kV k/\r=mO aV k)\/∃aV k b,Rd H a (.dT aV)/\y= .ref b/\H b=some (.tup (k.map kV))/\r=mO aV k
def NG(H:Hp)(a:Addr)(y v:V)(H':Hp):Prop:=
 (∃aV k,H a=some (.dK aV)/\y=kV k/\aV.length < sizeLine/\H'=upd H a (.dK (putK aV k v)))\/
 ∃aV k b,H a=some (.dT aV)/\y= .ref b/\H b=some (.tup (k.map kV))/\aV.length < sizeLine/\H'=upd H a (.dT (putK aV k v))
theorem uq.k{H:Hp}{a:Addr}{aV:List (Key × V)}{k:Key}(e:H a=some (.dK aV)):uq H a (kV k) (mO aV k):= .inl ⟨aV,k, .inl e,rfl,rfl⟩
section
variable {X:Cx} {pins:Aaa} {σ:St} {H:Hp} {s:Shared} {a:Addr} {y v:V} {u r:Value} {o:Option V} {A:Around} {E:Aab}
theorem Inv.big(I:Inv X pins σ H s):sysModules < s.heap.objs.size:=by
 have h:mainGlobals < s.heap.objs.size:=(I.mod.glob.keeps I.bk).lt;exact Nat.lt_trans (by decide) h
theorem Js{h':Heap}{t':Nat}{ob:HO}(I:Inv X pins σ H s)(mu:Oj (H a))(hs:Heap.SameBut a s.heap h')(he:∃q,h'.get? a=some q)(new:cT X.prog X.w (upd H a ob) h' a ob) :
 Inv X pins σ (upd H a ob) {s with heap:=h',toks:=t'}:=
 I.write (x:=a) (e:=a) mu (.inl rfl) (fun b q hb z=>(hs.2 b hb).trans z) he new
theorem KQ{H':Hp}{h':Heap}{aV:List (Key × V)}{vs:List (Key × Value)}(z:aV.length<=sizeLine)(hd:(a==sysModules)=false)(rel:KV aV vs)(dd:h'.DictOf (cY P w) a vs) :
 cT P w H' h' a (.dK aV):=⟨z,hd,vs,rel,dd⟩
end
section
variable {X:Cx} {pins:Aaa} {σ:St} {H:Hp} {s:Shared} {a:Addr} {aV:List (Key × V)} {k:Key} {u:Value} {A:Around} {E:Aab}
end
def Wm(i:Expr):Prop:=∀ov iv,subscripted i false ov iv=operate [ov,iv] (getItem ov iv)
def Uc(td ty:TE):TE:=fun σ H Q=>td σ H fun x H1=>ty σ H1 fun y H2=>∃a v,x= .ref a/\uq H2 a y (some v)/\Q v H2
def WO(ty td:TE):TE:=fun σ H Q=>ty σ H fun y H1=>td σ H1 fun x H2=>∃a o,x= .ref a/\uq H2 a y o/\Q (.bl o.isSome) H2
def Qf(ty td:TE):TE:=fun σ H Q=>ty σ H fun y H1=>td σ H1 fun x H2=>∃a o,x= .ref a/\uq H2 a y o/\Q (.bl (!o.isSome)) H2
def UG(td ty tv:TE):TS:=fun D σ H=>tv σ H fun v H1=>td σ H1 fun x H2=>ty σ H2 fun y H3=>∃a H4,x= .ref a/\NG H3 a y v H4/\D.nx σ H4
def Uh(td ty tv:TE)(rd:V->V->Hp->VK->Prop):TS:=fun D σ H=>td σ H fun x H1=>ty σ H1 fun y H2=>∃a v,x= .ref a/\uq H2 a y (some v)/\
 tv σ H2 fun y2 H3=>rd v y2 H3 fun z H4=>∃H5,NG H4 a y z H5/\D.nx σ H5
def Uz(td ty:TE):TS:=fun D σ H=>td σ H fun x H1=>ty σ H1 fun y H2=>∃a aV k,x= .ref a/\H2 a=some (.dK aV)/\y=kV k/\(mO aV k).isSome=true/\D.nx σ (upd H2 a (.dK (Gn aV k)))
section
variable {X:Cx} {o i e value:Expr} {pos pos' ua:Pos} {td ty tv:TE}
end
theorem DK(h:Heap)(hb:sysModules < h.objs.size):cT P w H (h.push {cls:= .type "dict",data:= .dict #[]}) h.objs.size (.dK []):=
 ⟨Nat.zero_le _,beq_eq_false_iff_ne.mpr (Ne.symm (Nat.ne_of_lt hb)),[], .nil,Heap.DictOf.new h⟩
def RW:TE:=fun _ H Q=>∀p,H p=none->Q (.ref p) (upd H p (.dK []))
def RL:TE:=fun _ H Q=>∀p,H p=none->Q (.ref p) (upd H p (.dT []))
section
variable {X:Cx} {pos:Pos}
end
def pZ:List (TE × TE)->St->Hp->(List (V × V)->Hp->Prop)->Prop
 | [],_,H,Q=>Q [] H
 | (tk,tv) ::r,σ,H,Q=>tk σ H fun x H1=>tv σ H1 fun y H2=>pZ r σ H2 fun ps H3=>Q ((x,y) ::ps) H3
abbrev VV:List (V × V)->List (Value × Value)->Prop:=Paired fun p q=>RelV p.1 q.1/\RelV p.2 q.2
def Mn(X:Cx)(pos:Pos)(keys:List (Option Expr))(values:List Expr)(vD:List (TE × TE)):Prop:=
 ∀(pins:Aaa) (s:Shared) (σ:St) (H:Hp) (Q:List (V × V)->Hp->Prop),Inv X pins σ H s->pZ vD σ H Q->
  wpAny (model X.prog X.w) X.A (evalPairs (pairTrees keys values X.env pos)) (fun vs s'=>∃ps H',Inv X pins σ H' s'/\VV ps vs/\Q ps H') X.xe s
theorem Bb{X:Cx}:Mn X pos [] [] []:=fun pins s σ H Q I h=>pairTrees_nil_walk ⟨[],H,I, .nil,h⟩
theorem pE{X:Cx}{ks:List (Option Expr)}{tk tv:TE}{vD:List (TE × TE)}(hk:PE X k tk)(hv:PE X v tv)(hr:Mn X pos ks vs vD) :
 Mn X pos (some k ::ks) (v ::vs) ((tk,tv) ::vD):=fun pins s σ H Q I h=>
 pairTrees_cons_walk (c6 (hk pins s σ H _ I h) fun u s1 ⟨x,H1,I1,rx,q1⟩=>c6 (hv pins s1 σ H1 _ I1 q1) fun w2 s2 ⟨y,H2,I2,ry,q2⟩=>
  c6 (hr pins s2 σ H2 _ I2 q2) fun ws s3 ⟨ps,H3,I3,rel,q3⟩=>⟨(x,y) ::ps,H3,I3, .cons ⟨rx,ry⟩ rel,q3⟩)
def jN(aV more:List (Key × V)):List (Key × V):=more.foldl (fun acc kv=>putK acc kv.1 kv.2) aV
theorem KV.merge:∀{more:List (Key × V)} {rs:List (Key × Value)} {aV:List (Key × V)} {vs:List (Key × Value)},KV more rs->KV aV vs->KV (jN aV more) (merged vs rs):=by
 intro more rs aV vs r;unfold KV at r
 induction r generalizing aV vs with
 | nil=>intro q;exact q
 | @cons p q ps qs h t ih=>
   intro r0;have e:KV (putK aV p.1 p.2) (stored vs q.1 q.2):=by
    have:=r0.put p.1 h.2;rw[<-h.1];exact this
   exact ih e
theorem nH:∀(more aV:List (Key × V)),(jN aV more).length<=aV.length+more.length
 | [],aV=>by show aV.length<=aV.length+0;omega
 | p ::r,aV=>by
   have h1:=nH r (putK aV p.1 p.2);have h2:=xK aV p.1 p.2;show(jN (putK aV p.1 p.2) r).length<=_;rw[List.length_cons];omega
theorem tZ:∀{aV:List (Key × V)} {ws:List (Value × Value)},VV (aV.map fun kv=>(kV kv.1,kv.2)) ws->∃rs,Carries (cY P w) ws rs/\KV aV rs
 | [],_,r=>by rw[List.map_nil] at r;cases r;exact⟨[],True.intro, .nil⟩
 | p ::aV,_,r=>by
   rw[List.map_cons] at r;cases r with
   | @cons a b as bs h t=>
     obtain⟨rs,c,q⟩:=tZ (P:=P) (w:=w) t;obtain⟨b1,b2⟩:=b;exact⟨(p.1,b2) ::rs,⟨D_ h.1,rfl,c⟩, .cons ⟨rfl,h.2⟩ q⟩
def Gz(vD:List (TE × TE)):TE:=fun σ H Q=>∀p,H p=none->pZ vD σ (upd H p (.dK [])) fun ps H2=>H2 p=some (.dK [])/\∃aV:List (Key × V),ps=aV.map (fun kv=>(kV kv.1,kv.2))/\aV.length<=15/\Q (.ref p) (upd H2 p (.dK (jN [] aV)))
theorem IV{X:Cx}{pos:Pos}{keys:List (Option Expr)}{values:List Expr}{vD:List (TE × TE)}(h:Mn X pos keys values vD)(Dj:keys.all (·.isSome)=true)(hl:keys.length=values.length)(h0:keys≠[])
 (Ya:keys.length<=15):PE X (.Dict keys values pos) (Gz vD):=by
 intro pins s σ H Q I q;have hn:=I.hok.fresh (Nat.le_refl s.heap.objs.size);have I1:=I.laid (a:=s.heap.objs.size) (o:= .dK []) (h':=s.heap.push {cls:= .type "dict",data:= .dict #[]}) (t':=s.toks) (fun _ _ q=>Heap.get?_push_of_some _ q) (Nat.le_refl _) (DK s.heap I.big)
 refine wpAny_Dict_walk (knd:=cY X.prog X.w) Dj hl h0 Ya (c6 (h pins _ σ _ _ I1 (q _ hn)) fun ws s2 ⟨ps,H2,I2,rel,e,aV,ep,lk,q2⟩=>?_)
 subst ep;obtain⟨rs,c,rk⟩:=tZ (P:=X.prog) (w:=X.w) rel;obtain⟨z,hd,Z3,r0,dd⟩:=Og I2.hok e;cases r0;refine⟨rs,c,dd,fun h' VF hs=>⟨.ref s.heap.objs.size,_,?_,rfl,q2⟩⟩
 have hz:(jN [] aV).length<=sizeLine:=by
  have h1:=nH aV [];rw[List.length_nil] at h1;rw[sizeLine_eq];omega
 have he:∃q,h'.get? s.heap.objs.size=some q:=let⟨q,_,_,hq,_⟩:=VF;⟨q,hq⟩
 exact Js I2 (by rw[e];exact True.intro) hs he (KQ hz hd (rk.merge .nil) VF)
structure M1 (X:Cx) (o:Expr) (m:Str) (apos:Pos) (e:Expr) (cx:Pos):Prop where
 base:attributeBase o m X.env (eval o X.env)=eval o X.env
 G5:((backTo cx (starEach [e] X.env)).all (fun x=>!x.1) && (backToKw cx (keywordEach [] X.env)).all (fun x=>x.1.isSome)
  && decide (([e]:List Expr).length+([]:List Keyword).length+(if([]:List Keyword).isEmpty then 0 else 1) < 30))=true
 line:(apos.endLine==cx.line)=true
 trees:backTo cx (starEach [e] X.env)=[(false,eval e X.env)]
structure M2 (X:Cx) (o:Expr) (m:Str) (apos:Pos) (e f:Expr) (cx:Pos):Prop where
 base:attributeBase o m X.env (eval o X.env)=eval o X.env
 G5:((backTo cx (starEach [e,f] X.env)).all (fun x=>!x.1) && (backToKw cx (keywordEach [] X.env)).all (fun x=>x.1.isSome)
  && decide (([e,f]:List Expr).length+([]:List Keyword).length+(if([]:List Keyword).isEmpty then 0 else 1) < 30))=true
 line:(apos.endLine==cx.line)=true
 trees:backTo cx (starEach [e,f] X.env)=[(false,eval e X.env),(false,eval f X.env)]
def NP(H:Hp)(a:Addr):Prop:=(∃aV,Rd H a (.dK aV))\/∃aV,Rd H a (.dT aV)
theorem Ky{X:Cx}{pins:Aaa}{s:Shared}{a:Addr}(I:Inv X pins σ H s)(d:NP H a) :
 s.TypeIs (.ref a) "dict"/\(∀b,Value.ref a= .ref b->∃ob,s.heap.get? b=some ob/\ob.dict=none)/\(a==sysModules)=false:=by
 rcases d with⟨aV,e⟩ | ⟨aV,e⟩
 .obtain⟨_,hd,vs,_,dd⟩:=DM I.hok e;refine⟨dd.typeIs,fun b q=>?_,hd⟩
  cases q;obtain⟨ob,_,_,h1,h2,_⟩:=dd;exact⟨ob,h1,h2.2.1⟩
 .obtain⟨_,hd,xs,_,dd⟩:=Ke I.hok e;refine⟨dd.typeIs,fun b q=>?_,hd⟩
  cases q;obtain⟨ob,_,_,h1,h2,_⟩:=dd;exact⟨ob,h1,h2.2.1⟩
section
variable {X:Cx} {pins:Aaa} {σ:St} {H:Hp} {s:Shared} {a:Addr} {y d:V} {u r:Value} {o:Option V} {A:Around} {E:Aab}
theorem KN{Q:Aab}(hu:A.units+1 < cLine)(I:Inv X pins σ H s)(g:uq H a y o)(ry:RelV y u)(rd:RelV d r)(h:∀w' s',Inv X pins σ H s'->RelV (o.getD d) w'->Q w' s') :
 wpAny (model X.prog X.w) A (call (.builtin "dict.get") [.ref a,u,r]) Q E s:=by
 rcases g with⟨aV,k,e,ey,l⟩ | ⟨aV,k,b,e,ey,eb,l⟩
 .subst ey;obtain⟨z,hd,vs,rel,dd⟩:=DM I.hok e;refine call_meetsIn PySem.F.slot_dict_get dd.typeIs PySem.F.entry_dict_get (PySem.F.args_dict_get_3 _ _ _) (meets_dict_get_default (cY X.prog X.w) a (D_ ry) hd r) ⟨_,dd.mapOf,h _ _ (I.tok _) ?_⟩;rw[l];exact(rel.val k).getD rd
 .subst ey;cases(show u=Value.ref b from ry)
  obtain⟨z,hd,xs,rel,dd⟩:=Ke I.hok e;refine call_meetsIn PySem.F.slot_dict_get dd.typeIs PySem.F.entry_dict_get (PySem.F.args_dict_get_3 _ _ _) (meetsH_dict_get_default (tupleKind (cY X.prog X.w)) a b hd r) ⟨tupleKind_room_in1 hu,k,xs,F8 I.hok eb,dd,h _ _ (I.tok _) ?_⟩;rw[l];exact(rel.val k).getD rd
end
def RQ(td ty:TE):TE:=fun σ H Q=>td σ H fun x H1=>∃a,x= .ref a/\NP H1 a/\ty σ H1 fun y H2=>∃o,uq H2 a y o/\Q (o.getD .cR) H2
def KL(td ty tx:TE):TE:=fun σ H Q=>td σ H fun x H1=>∃a,x= .ref a/\NP H1 a/\ty σ H1 fun y H2=>tx σ H2 fun z H3=>∃o,uq H3 a y o/\Q (o.getD z) H3
def Q7(td ty:TE):TE:=fun σ H Q=>td σ H fun x H1=>∃a,x= .ref a/\NP H1 a/\ty σ H1 fun y H2=>∃aV k v,H2 a=some (.dK aV)/\y=kV k/\mO aV k=some v/\Q v (upd H2 a (.dK (Gn aV k)))
def RZ(td ty tx:TE):TE:=fun σ H Q=>td σ H fun x H1=>∃a,x= .ref a/\NP H1 a/\ty σ H1 fun y H2=>tx σ H2 fun z H3=>∃aV k,H3 a=some (.dK aV)/\y=kV k/\
 (∀v,mO aV k=some v->Q v (upd H3 a (.dK (Gn aV k))))/\(mO aV k=none->Q z H3)
section
variable {X:Cx} {o e f:Expr} {apos cx:Pos} {td ty tx:TE}
theorem FU(hu:X.A.units+1 < cLine)(ho:PE X o td)(he:PE X e ty)(hf:PE X f tx)(m:M2 X o "get" apos e f cx):PE X (.Call (.Attribute o "get" apos) [e,f] [] cx) (KL td ty tx):=by
 intro pins s σ H Q I h;refine wpAny_Call_method m.base m.G5 m.line PySem.F.plainAttrs_dict PySem.F.slot_dict_get PySem.F.type_dict_get (c6 (ho pins s σ H _ I h) fun u s1 ⟨x,H1,I1,rx,a,ex,d,q1⟩=>?_)
 subst ex;obtain rfl:u=Value.ref a:=rx;obtain⟨t1,t2,_⟩:=Ky I1 d;refine⟨t1,t2,?_⟩;rw[m.trees];refine Calls.callWith_builtin rfl (Calls.evalArgs_plain (Calls.spliced_cons (c6 (he pins s1 σ H1 _ I1 q1) fun iv s2 ⟨y,H2,I2,ry,q2⟩=>
  Calls.spliced_cons (c6 (hf pins s2 σ H2 _ I2 q2) fun fv s3 ⟨z,H3,I3,rz,ov,g,q3⟩=>Calls.spliced_nil ?_))))
 exact KN hu I3 g ry rz fun w' s4 I4 Dy=>⟨_,H3,I4,Dy,q3⟩
end
section
variable {X:Cx} {pins:Aaa} {σ:St} {H:Hp} {s:Shared} {a:Addr} {aV:List (Key × V)} {A:Around} {E:Aab}
end
section
variable {X:Cx} {pins:Aaa} {σ:St} {H:Hp} {s:Shared} {a:Addr} {y:V} {u:Value} {A:Around} {E:Aab}
end
end L2
namespace HT
open PySem PyProof.Rows
def lexLt:List Int->List Int->Bool
 | [],[]=>false
 | [],_ ::_=>true
 | _ ::_,[]=>false
 | x ::xs,y ::ys=>if x=y then lexLt xs ys else decide (x < y)
section
open PySem.SeqAt
open PySem.AutoSeq1 (wpAny_loadPart')
open PySem.MeetsSeq PySem.MeetsSeq2 PySem.MeetsSeq3
end
section
variable {prog:Program} {w:World} {A:Around} {E:Aab} {s:Shared}
theorem Hv{t b:Addr}{vs ws:List Value}{Q:Aab}(ht:IsTup s.heap t vs.toArray)(hb:IsTup s.heap b ws.toArray)(hv:vs≠[])
 (h1:ws=[]->Q (.ref t) s) (h2:ws≠[]->Q (.ref s.heap.objs.size) {s with heap:=s.heap.push {cls:= .type "tuple",data:= .seq (vs++ws).toArray}})
 (hsz:vs.length+ws.length<=sizeLine):wpAny (model prog w) A (binaryOp .Add (.ref t) (.ref b)) Q E s:=by
 obtain⟨⟨cls,dd,data,sl⟩,ho,hc,n,hd⟩:=id ht;obtain⟨⟨SE,Qr,data2,Nh⟩,MN,hc2,n2,hd2⟩:=id hb;simp only at hc hd hc2 hd2;subst hc hd hc2 hd2;have e:vs.toArray++ws.toArray=(vs++ws).toArray:=by simp
 by_cases hw:ws=[]
 .exact concat_meets ⟨_,ho,rfl⟩ ⟨_,MN,rfl⟩ noFill_tuple_add seq_tuple_add PySem.F.slot_tuple_add PySem.F.entry_tuple_add (PySem.F.args_tuple_add_2 _ _)
   (tuple_addW1 t b vs.toArray ws.toArray n n2 dd Qr sl Nh (by simpa using hv) (by simp [hw])) ⟨ho,MN,h1 hw⟩
 .refine concat_meets ⟨_,ho,rfl⟩ ⟨_,MN,rfl⟩ noFill_tuple_add seq_tuple_add PySem.F.slot_tuple_add PySem.F.entry_tuple_add (PySem.F.args_tuple_add_2 _ _)
   (tuple_addW2 t b vs.toArray ws.toArray n n2 dd Qr sl Nh (by simpa using hv) (by simpa using hw) (by rw[List.size_toArray,List.size_toArray];exact hsz)) ⟨ho,MN,?_⟩
  rw[e];exact h2 hw
def eG(n d:Nat):Option Int->Nat
 | none=>d
 | some v=>if v < 0 then(v+(n:Int)).toNat else min v.toNat n
theorem tG(n d:Nat):eG n d none=d:=rfl
theorem ph(n d k:Nat):eG n d (some (k:Int))=min k n:=by
 show(if(k:Int) < 0 then((k:Int)+(n:Int)).toNat else min (k:Int).toNat n)=min k n
 rw[if_neg (by omega),Int.toNat_natCast]
theorem Lb(n d:Nat)(hd:d<=n)(o:Option Int):eG n d o<=n:=by
 cases o with
 | none=>exact hd
 | some v=>
   show(if v < 0 then(v+(n:Int)).toNat else min v.toNat n)<=n
   by_cases hv:v < 0
   .rw [if_pos hv];omega
   .rw [if_neg hv];exact Nat.min_le_right _ _
theorem Bj(v:Int)(n d:Nat):(if v < 0 then max (v+(n:Int)) 0 else min v (n:Int))=((eG n d (some v):Nat):Int):=by
 show(if v < 0 then max (v+(n:Int)) 0 else min v (n:Int))=(((if v < 0 then(v+(n:Int)).toNat else min v.toNat n):Nat):Int)
 by_cases hv:v < 0
 .simp only[if_pos hv];omega
 .simp only[if_neg hv];omega
theorem zG(lo hi:Option Int)(n:Nat):Builtin.Slice.sliceAdjust lo hi 1 (n:Int)=(((eG n 0 lo:Nat):Int),((eG n n hi:Nat):Int)):=by
 have h1:¬((1:Int) < 0):=by omega
 unfold Builtin.Slice.sliceAdjust;simp only[h1,if_false];refine Prod.ext ?_ ?_
 .cases lo with
  | none=>rfl
  | some v=>exact Bj v n 0
 .cases hi with
  | none=>rfl
  | some v=>exact Bj v n n
theorem zC(i j:Nat):Builtin.Slice.slicePlaces (i:Int) (j:Int) 1=j - i:=by
 unfold Builtin.Slice.slicePlaces;have h1:(1:Int) > 0:=by omega
 simp only[h1,if_true,Int.ediv_one];split <;> omega
theorem tV{v:Value}{o:Option Int}{Q:Option Int->Shared->Prop}(p:IsPart v o)(h:Q o s):wpAny (model prog w) A (Builtin.Slice.slicePartIndex v) Q E s:=by
 cases p with
 | none=>exact slicePart_none h
 | int i t=>exact slicePart_int h
theorem k_{sl:Addr}{vl vu:Value}{lo hi:Option Int}{n:Nat}{Q:Int × Int × Nat->Shared->Prop}(hs:s.heap.IsSliceOf sl vl vu .none)(pl:IsPart vl lo)(pu:IsPart vu hi)
 (h:Q (((eG n 0 lo:Nat):Int),1,eG n n hi - eG n 0 lo) s):wpAny (model prog w) A (Builtin.Slice.sliceApplied (.ref sl) (pure (n:Int))) Q E s:=by
 obtain⟨os,uI,MJ,hds⟩:=id hs;unfold Builtin.Slice.sliceApplied Builtin.Slice.sliceFields;refine wpAny_bind (wpAny_bind (wpAny_field uI hds (x:=vl) rfl (wpAny_bind (wpAny_field uI hds (x:=vu) rfl (wpAny_bind (wpAny_field uI hds (x:= .none) rfl (wpAny_pure ?_)))))));refine wpAny_bind (slicePart_none ?_);show wpAny _ _ (if((1:Int)==0)=true then _ else _) _ _ s
 rw[if_neg (by decide)]
 refine wpAny_bind (tV pl (wpAny_bind (tV pu (wpAny_bind (wpAny_pure ?_)))));show wpAny _ _ (match Builtin.Slice.sliceAdjust lo hi 1 (n:Int) with | (lo,hi)=>pure (lo,(1:Int),Builtin.Slice.slicePlaces lo hi 1)) _ _ s
 rw[zG lo hi n];show wpAny _ _ (pure (((eG n 0 lo:Nat):Int),(1:Int),Builtin.Slice.slicePlaces ((eG n 0 lo:Nat):Int) ((eG n n hi:Nat):Int) 1)) _ _ s;rw[zC];exact wpAny_pure h
theorem Ej(xs:Array Value)(i k:Nat):((List.range k).filterMap fun(m:Nat)=>xs[((i:Int)+(m:Int)*1).toNat]?).toArray=((xs.toList.drop i).take k).toArray:=by
 have e:(fun(m:Nat)=>xs[((i:Int)+(m:Int)*1).toNat]?)=fun m=>xs[i+m]?:=by
  funext m;have:((i:Int)+(m:Int)*1).toNat=i+m:=by omega
  rw[this]
 rw[e];have:=pick_run xs i k;rw[List.filterMap_map] at this;have e2:((fun x=>xs[x]?) ∘ fun x=>i+x)=fun m=>xs[i+m]?:=rfl
 rw[e2] at this;rw[this]
theorem px{t sl:Addr}{items:Array Value}{vl vu:Value}{lo hi:Option Int}{Q:Aab}(ht:IsTup s.heap t items)(hs:s.heap.IsSliceOf sl vl vu .none)(pl:IsPart vl lo)(pu:IsPart vu hi)
 (hw:¬(eG items.size 0 lo=0/\eG items.size items.size hi=items.size))
 (h:Q (.ref s.heap.objs.size) {s with heap:=s.heap.push {cls:= .type "tuple",data:= .seq ((items.toList.drop (eG items.size 0 lo)).take (eG items.size items.size hi - eG items.size 0 lo)).toArray}})
 (hsz:items.size<=sizeLine):wpAny (model prog w) A (getItem (.ref t) (.ref sl)) Q E s:=by
 have htake:sizeOk (.seq ((items.toList.drop (eG items.size 0 lo)).take (eG items.size items.size hi - eG items.size 0 lo)).toArray):=by
  show((items.toList.drop (eG items.size 0 lo)).take (eG items.size items.size hi - eG items.size 0 lo)).toArray.size<=sizeLine;rw[List.size_toArray,List.length_take,List.length_drop,Array.length_toList];omega
 have hj:eG items.size items.size hi<=items.size:=Lb _ _ (Nat.le_refl _) hi;obtain⟨os,uI,MJ,hds⟩:=id hs;have hTs:s.TypeIs (.ref sl) "slice":=⟨os,uI,MJ⟩;unfold getItem
 try with_reducible refine wpAny_holding ?_
 first | refine wpAny_bind (wpAny_pure ?_) | skip
 refine wpAny_bind (wpAny_sequenceKey ht.typeIs (by decide) ?_)
 refine wpAny_bind (wpAny_callSpecial?_slot (name:="__getitem__") ht.typeIs PyProof.Rows.slot_tuple_getitem
  (wpAny_call_entry PyProof.Rows.slot_tuple_getitem ht.typeIs entry_tuple_getitem ?_ (args_tuple_getitem _ _)))
 show wpAny _ _ (Builtin.Tuple.tupleItemsOf (.ref t) >>=_) _ _ s;refine wpAny_bind (tupleItemsOf_ ht ?_);refine wpAny_bind (wpAny_typeOf hTs ?_);rw[if_pos (by decide)]
 refine wpAny_bind (k_ hs pl pu ?_);have hno:¬((((eG items.size 0 lo:Nat):Int)==0 && (1:Int)==1 && (eG items.size items.size hi - eG items.size 0 lo)==items.size)=true):=by
  intro q;rw[Bool.and_eq_true,Bool.and_eq_true] at q;have q1:((eG items.size 0 lo:Nat):Int)=0:=eq_of_beq q.1.1;have q2:eG items.size items.size hi - eG items.size 0 lo=items.size:=eq_of_beq q.2;exact hw ⟨by omega,by omega⟩
 show wpAny _ _ (if(((eG items.size 0 lo:Nat):Int)==0 && (1:Int)==1 && (eG items.size items.size hi - eG items.size 0 lo)==items.size)=true then _ else _) _ _ s
 rw[if_neg hno,Ej]
 first
  | exact wpAny_bind (m:=Builtin.Tuple.tupleExact _) (wpAny_newObj_type (wpAny_pure ⟨_,rfl,wpAny_pure h⟩) htake)
  | exact wpAny_bind (m:=Builtin.Tuple.tupleExact _) (wpAny_newObj_type (wpAny_bind (wpAny_pure (wpAny_pure ⟨_,rfl,wpAny_pure h⟩))) htake)
  | exact wpAny_bind (wpAny_bind (m:=Builtin.Tuple.tupleExact _) (wpAny_newObj_type (wpAny_pure (wpAny_pure ⟨_,rfl,wpAny_pure h⟩)) htake))
  | exact wpAny_bind (wpAny_bind (m:=Builtin.Tuple.tupleExact _) (wpAny_newObj_type (wpAny_pure ⟨_,rfl,wpAny_pure h⟩) htake))
end
end HT
namespace L2
open PySem PySem.Spec PyProof.Rows
abbrev TO:=St->Hp->(Option Int->Hp->Prop)->Prop
def PO(X:Cx)(e:Option Expr)(t:TO):Prop:=
 ∀(pins:Aaa) (s:Shared) (σ:St) (H:Hp) (Q:Option Int->Hp->Prop),Inv X pins σ H s->t σ H Q->
  wpAny (model X.prog X.w) X.A (evalPart e X.env) (fun u s'=>∃o H',Inv X pins σ H' s'/\IsPart u o/\Q o H') X.xe s
def Iy:TO:=fun _ H Q=>Q none H
def OF(t:TE):TO:=fun σ H Q=>t σ H fun x H1=>∃i,x= .int i/\Q (some i) H1
section
variable {X:Cx} {e:Expr} {te:TE} {lo hi:Option Expr} {tl th:TO} {pos p2:Pos}
theorem Iq:PO X none Iy:=by
 intro pins s σ H Q I h;rw[evalPart_none];exact wpAny_pure ⟨none,H,I, .none,h⟩
theorem IL(h:PE X e te):PO X (some e) (OF te):=by
 intro pins s σ H Q I hw;rw[evalPart_some];refine c6 (h pins s σ H _ I hw) fun u s1 ⟨x,H1,I1,r1,q1⟩=>?_
 obtain⟨i,rfl,q⟩:=q1;obtain⟨t,rfl⟩:=r1;exact⟨some i,H1,I1, .int i t,q⟩
def Jw(X:Cx)(r:V->Option Int->Option Int->Hp->VK->Prop):Prop:=
 ∀(pins:Aaa) (s:Shared) (σ:St) (H:Hp) (x:V) (v vl vu:Value) (lo hi:Option Int) (sl:Addr) (Q:VK),Inv X pins σ H s->RelV x v->s.heap.IsSliceOf sl vl vu .none->IsPart vl lo->IsPart vu hi->r x lo hi H Q->
  ∃T id,typeLookup (.type T) "__getitem__"=pure (some (.builtin id))/\s.TypeIs v T/\wpAny (model X.prog X.w) X.A (getItem v (.ref sl)) (EP X pins σ Q) X.xe s
theorem Jw.or{r r':V->Option Int->Option Int->Hp->VK->Prop}(h:Jw X r)(h':Jw X r'):Jw X (fun x lo hi H Q=>r x lo hi H Q\/r' x lo hi H Q):=by
 intro pins s σ H x v vl vu lo hi sl Q I rx hs pl pu q;rcases q with q | q
 .exact h pins s σ H x v vl vu lo hi sl Q I rx hs pl pu q
 .exact h' pins s σ H x v vl vu lo hi sl Q I rx hs pl pu q
def XD(r:V->Option Int->Option Int->Hp->VK->Prop)(te:TE)(tl th:TO):TE:=fun σ H Q=>te σ H fun x H1=>tl σ H1 fun l H2=>th σ H2 fun u H3=>r x l u H3 Q
theorem yt{r:V->Option Int->Option Int->Hp->VK->Prop}(hr:Jw X r)(he:PE X e te)(hl:PO X lo tl)(hu:PO X hi th):PE X (.Subscript e (.Slice lo hi none p2) pos) (XD r te tl th):=by
 intro pins s σ H Q I h;refine Subscript_ (c6 (he pins s σ H _ I h) fun v s1 ⟨x,H1,I1,r1,q1⟩=>?_)
 refine wpAny_Slice (c6 (hl pins s1 σ H1 _ I1 q1) fun vl s2 ⟨l,H2,I2,pl,q2⟩=>c6 (hu pins s2 σ H2 _ I2 q2) fun vu s3 ⟨u,H3,I3,pu,q3⟩=>?_)
 rw[evalPart_none];refine wpAny_pure ?_;have I4:Inv X pins σ H3 {s3 with heap:=s3.heap.push {cls:= .type "slice",data:= .fields #[vl,vu, .none]}}:=I3.kept (t':=s3.toks) fun b ob q=>Heap.get?_push_of_some _ q
 obtain⟨T,id,hT,ht,hg⟩:=hr pins {s3 with heap:=s3.heap.push {cls:= .type "slice",data:= .fields #[vl,vu, .none]}} σ H3 x v vl vu l u s3.heap.objs.size Q I4 r1 (Heap.IsSliceOf.new ..) pl pu q3
 show wpAny (model X.prog X.w) X.A (subscriptTail e (.Slice lo hi none p2) v (.ref s3.heap.objs.size)) (EP X pins σ Q) X.xe {s3 with heap:=s3.heap.push {cls:= .type "slice",data:= .fields #[vl,vu, .none]}}
 exact tail_any (ops:=[.ref s3.heap.objs.size,v]) ht hT hg (by with_unfolding_all rfl)
def ym(xs:List V)(lo hi:Option Int):List V:=(xs.drop (HT.eG xs.length 0 lo)).take (HT.eG xs.length xs.length hi - HT.eG xs.length 0 lo)
theorem qJ(xs:List V)(lo hi:Option Int):(ym xs lo hi).length<=xs.length:=by
 unfold ym;rw[List.length_take,List.length_drop];omega
def Ri(K:W.Frag):V->Option Int->Option Int->Hp->VK->Prop:=fun x lo hi H Q=>∃a xs,x= .ref a/\p8 K H a xs/\
 ¬(HT.eG xs.length 0 lo=0/\HT.eG xs.length xs.length hi=xs.length)/\∀p,H p=none->Q (.ref p) (upd H p (.tup (ym xs lo hi)))
theorem Mr:Jw X (Ri X.K):=by
 intro pins s σ H x v vl vu lo hi sl Q I rx hs pl pu h;obtain⟨a,xs,rfl,hx,hw,q⟩:=h;cases rx;obtain⟨its,r,ht,hz⟩:=I.tuple hx;have hlen:its.toArray.size=xs.length:=by rw[List.size_toArray];exact r.length.symm
 refine⟨"tuple",_,PyProof.Rows.slot_tuple_getitem.lookup,ht.typeIs,?_⟩;refine HT.px ht hs pl pu (by rw[hlen];exact hw) ?_ (by rw[hlen];exact hz)
 rw[hlen];refine⟨.ref s.heap.objs.size,_,I.laid (t':=s.toks) (o:= .tup (ym xs lo hi)) (fun b ob q=>Heap.get?_push_of_some _ q) (Nat.le_refl _) ?_,rfl,q _ (I.hok.fresh (Nat.le_refl _))⟩
 exact⟨Nat.le_trans (qJ xs lo hi) hz,_,(r.drop (HT.eG xs.length 0 lo)).take (HT.eG xs.length xs.length hi - HT.eG xs.length 0 lo),IsTup.new _ _⟩
def Wa(K:W.Frag):R2:=fun x y H Q=>∃a b ns ms,x= .ref a/\y= .ref b/\p8 K H a (ns.map V.int)/\p8 K H b (ms.map V.int)/\Q (.bl (HT.lexLt ns ms)) H
def Uv(K:W.Frag):R2:=fun x y H Q=>∃a b xs ys,x= .ref a/\y= .ref b/\p8 K H a xs/\p8 K H b ys/\xs≠[]/\xs.length+ys.length<=sizeLine/\
 (ys=[]->Q (.ref a) H)/\(ys≠[]->∀p,H p=none->Q (.ref p) (upd H p (.tup (xs++ys))))
end
def yT(n:Nat)(i:Int):Option Nat:=if 0<=i then(if i < n then some i.toNat else none) else if -(n:Int)<=i then some (i+n).toNat else none
def rn{α:Type}(xs:List α)(i:Int):Option α:=(yT xs.length i).bind fun j=>xs[j]?
theorem Bs{n:Nat}{i:Int}{j:Nat}(h:yT n i=some j):seqIndex? i n=some j/\j < n/\ -(n:Int)<=i/\i < n:=by
 unfold yT at h;by_cases h0:0<=i
 .rw [if_pos h0] at h;by_cases h1:i < n
  .rw [if_pos h1] at h;have e:i.toNat=j:=Option.some.inj h;exact⟨by rw[seqIndex_of h0 h1,e],by omega,by omega,h1⟩
  .rw [if_neg h1] at h;cases h
 .rw [if_neg h0] at h;by_cases h1: -(n:Int)<=i
  .rw [if_pos h1] at h;have e:(i+n).toNat=j:=Option.some.inj h;exact⟨by rw[seqIndex_neg (by omega) h1,e],by omega,h1,by omega⟩
  .rw [if_neg h1] at h;cases h
theorem wt{α:Type}{xs:List α}{i:Int}{v:α}(h:rn xs i=some v):∃j,seqIndex? i xs.length=some j/\xs[j]? =some v/\j < xs.length/\ -(xs.length:Int)<=i/\i < xs.length:=by
 unfold rn at h;cases e:yT xs.length i with
 | none=>rw [e] at h;cases h
 | some j=>
   rw[e] at h;obtain⟨h1,h2,h3,h4⟩:=Bs e;exact⟨j,h1,h,h2,h3,h4⟩
def rO(b:Expr):Prop:=∀o i,subscripted b false o i=operate [o,i] (getItem o i)
def Jn(X:Cx)(r:R2):Prop:=
 ∀(value slice:Expr) (pins:Aaa) (s:Shared) (σ:St) (H:Hp) (x y:V) (v u:Value) (Q:VK),Inv X pins σ H s->RelV x v->RelV y u->r x y H Q->
  subscripted slice false v u=operate [v,u] (getItem v u)->wpAny (model X.prog X.w) X.A (subscriptTail value slice v u) (EP X pins σ Q) X.xe s
def U1(X:Cx)(id:String)(r:V->List V->Hp->VK->Prop):Prop:=
 ∀(pins:Aaa) (s:Shared) (σ:St) (H:Hp) (x:V) (xs:List V) (v:Value) (us:List Value) (Q:VK),Inv X pins σ H s->RelV x v->Vals xs us->r x xs H Q->
  wpAny (model X.prog X.w) X.A (call (.builtin id) (v ::us)) (EP X pins σ Q) X.xe s
section
variable {X:Cx} {a b:Expr} {ta tb:TE} {pos:Pos}
theorem Jn.or{r r':R2}(h:Jn X r)(h':Jn X r'):Jn X (fun x y H Q=>r x y H Q\/r' x y H Q):=by
 intro value slice pins s σ H x y v u Q I rx ry q hs;rcases q with q | q
 .exact h value slice pins s σ H x y v u Q I rx ry q hs
 .exact h' value slice pins s σ H x y v u Q I rx ry q hs
theorem J9{r:R2}(hr:Jn X r)(ha:PE X a ta)(hb:PE X b tb)(hs:rO b):PE X (.Subscript a b pos) (Nf r ta tb):=by
 intro pins s σ H Q I h;exact Subscript_ (Li ha hb I h fun v u s2 x y H2 I2 rx ry q=>hr a b pins s2 σ H2 x y v u Q I2 rx ry q (hs _ _))
def Oo(K:W.Frag):R2:=fun x y H Q=>∃p xs i v,x= .ref p/\y= .int i/\oR K H p xs/\rn xs i=some v/\Q v H
def Ol(K:W.Frag):R2:=fun x y H Q=>∃p xs i v,x= .ref p/\y= .int i/\p8 K H p xs/\rn xs i=some v/\Q v H
def Od:R2:=fun x y H Q=>∃z i c,x= .str z/\y= .int i/\z.length<=sizeLine/\rn z.cps.toList i=some c/\Q (.str ⟨#[c]⟩) H
theorem Jg:Jn X (Oo X.K):=by
 intro value slice pins s σ H x y v u Q I rx ry h hs;obtain⟨p,xs,i,z,rfl,rfl,hq,he,q⟩:=h;cases rx;obtain⟨t,rfl⟩:=ry;obtain⟨its,r,pl,hz⟩:=I.list hq;obtain⟨j,h1,h2,h3,h4,h5⟩:=wt he;obtain⟨w,ew,Dy⟩:=r.get h2;have hl:=r.length;have hn:=p_;have fin:EP X pins σ Q w s:=⟨z,H,I,Dy,q⟩;by_cases h0:0<=i
 .have hj:i.toNat=j:=by
   rw[seqIndex_of h0 h5] at h1;exact Option.some.inj h1
  exact item_listR pl.isList h0 (by omega) (by rw[hj];simpa using ew) fin hs
 .have hj:(i+(its.toArray.size:Int)).toNat=j:=by
   rw[seqIndex_neg (by omega) h4] at h1
   rw[List.size_toArray,<-hl];exact Option.some.inj h1
  exact subscriptTail_builtinR (x:=w) pl.isList.typeIs slot_list_getitem.lookup
   (wpAny_getItem_list_neg (Q:=fun r s'=>r=w/\EP X pins σ Q r s') pl.isList (by omega) (by rw[List.size_toArray] <;> omega) (by omega) (by rw[hj];simpa using ew) ⟨rfl,fin⟩) hs
theorem L0:Jn X (Ol X.K):=by
 intro value slice pins s σ H x y v u Q I rx ry h hs;obtain⟨p,xs,i,z,rfl,rfl,hq,he,q⟩:=h;cases rx;obtain⟨t,rfl⟩:=ry;obtain⟨its,r,pl,hz⟩:=I.tuple hq;obtain⟨j,h1,h2,h3,h4,h5⟩:=wt he;obtain⟨w,ew,Dy⟩:=r.get h2;have hl:=r.length;have hn:=p_;have fin:EP X pins σ Q w s:=⟨z,H,I,Dy,q⟩;exact subscriptTail_builtinR (x:=w) pl.typeIs slot_tuple_getitem.lookup
  (getItem_tuple (j:=j) (Q:=fun r s'=>r=w/\EP X pins σ Q r s') pl (by omega) (by omega) (by rw[List.size_toArray,<-hl];exact h1) (by simpa using ew) ⟨rfl,fin⟩) hs
theorem K5:Jn X Od:=by
 intro value slice pins s σ H x y v u Q I rx ry h hs;obtain⟨z,i,c,rfl,rfl,hz,he,q⟩:=h;obtain⟨t,rfl⟩:=rx;obtain⟨t',rfl⟩:=ry;obtain⟨j,h1,h2,h3,h4,h5⟩:=wt he;have hl:z.cps.toList.length=z.length:=by simp [Str.length]
 rw[hl] at h1 h4 h5;have hn:=p_;exact tail_any (typeIs_str s z t) slot_str_getitem.lookup (getItem_str (c:=c) (by
  have e1:decide (i < -(2 ^ 63:Int))=false:=decide_eq_false (by omega)
  have e2:decide (i>=2 ^ 63)=false:=decide_eq_false (by omega)
  rw[e1,e2,Bool.or_false]) (by rw[h1];simpa using h2) ⟨.str ⟨#[c]⟩,H,I.tok _,⟨_,rfl⟩,q⟩) hs
def QZ(K:W.Frag):R2:=fun x y H Q=>Oo K x y H Q\/Ol K x y H Q\/Od x y H Q
theorem Gp:Jn X (QZ X.K):=Jg.or (L0.or K5)
theorem zk(its:List Value)(n j:Nat)(u:Value):Obj.mapSeq (·.setIfInBounds j u) {cls:= .type "list",data:= .seq its.toArray n}={cls:= .type "list",data:= .seq (its.set j u).toArray n}:=by
 simp [Obj.mapSeq]
theorem Inv.lst{pins:Aaa}{H:Hp}{s:Shared}{p:Addr}{xs:List V}(I:Inv X pins σ H s)(h:H p=some (.lst xs)) :
 ∃(its:List Value) (n:Nat),Vals xs its/\s.heap.get? p=some {cls:= .type "list",data:= .seq its.toArray n}/\xs.length<=sizeLine:=by
 obtain⟨z,its,n,r,e⟩:=I.hok p _ h;exact⟨its,n,r,e,z⟩
theorem Inv.Mt{pins:Aaa}{σ:St}{H:Hp}{s:Shared}{p:Addr}{xs ys:List V}{its its':List Value}{n n':Nat}{f:Obj->Obj}(I:Inv X pins σ H s)(h:H p=some (.lst xs))
 (ho:s.heap.get? p=some {cls:= .type "list",data:= .seq its.toArray n}) (hf:f {cls:= .type "list",data:= .seq its.toArray n}={cls:= .type "list",data:= .seq its'.toArray n'}) (r:Vals ys its') (hz:ys.length<=sizeLine) (t:Nat) :
 Inv X pins σ (upd H p (.lst ys)) {s with heap:=s.heap.update p f,toks:=t}:=by
 have e:(s.heap.update p f).get? p=some {cls:= .type "list",data:= .seq its'.toArray n'}:=by
  rw[Heap.get?_update_self f ho (by rw[hf] <;> rfl),hf]
 refine I.write (x:=p) (e:=p) (by rw[h];trivial) (.inl rfl) (fun b u hb q=>(Heap.get?_update_other _ _ (Ne.symm hb)).trans q) ⟨_,e⟩ ?_
 exact⟨hz,its',n',r,e⟩
def Kg:V->V->V->Hp->(Hp->Prop)->Prop:=fun o i v H Q=>∃p xs k j,o= .ref p/\i= .int k/\H p=some (.lst xs)/\yT xs.length k=some j/\Q (upd H p (.lst (xs.set j v)))
theorem set_list:O1 X Kg:=by
 intro pins s σ H o i v ov iv u Q I ro ri rv h;obtain⟨p,xs,k,j,rfl,rfl,hp,hj,q⟩:=h;cases ro;obtain⟨t,rfl⟩:=ri;obtain⟨its,n,r,ho,hz⟩:=I.lst hp;obtain⟨h1,h2,h3,h4⟩:=Bs hj;have hl:=r.length;have hn:=p_;have I':Inv X pins σ (upd H p (.lst (xs.set j v))) {s with heap:=s.heap.update p (Obj.mapSeq (·.setIfInBounds j u))}:=
  I.Mt hp ho (zk its n j u) (r.set rv j) (by rw[List.length_set];exact hz) s.toks
 by_cases h0:0<=k
 .have hk:k.toNat=j:=by
   rw[seqIndex_of h0 h4] at h1;exact Option.some.inj h1
  exact PySem.W.ki_setAt ho h0 (by omega) (by rw[List.size_toArray,<-hl];exact h4) (by rw[hk];exact⟨_,I',q⟩)
 .have hk:(k+(its.toArray.size:Int)).toNat=j:=by
   rw[seqIndex_neg (by omega) h3] at h1
   rw[List.size_toArray,<-hl];exact Option.some.inj h1
  exact PySem.W.ki_setBack ho (by omega) (by rw[List.size_toArray,<-hl];exact h3) (by omega) (by rw[hk];exact⟨_,I',q⟩)
theorem wW(lo hi:Option Int)(n:Nat):(sliceBounds lo hi none n).1=((HT.eG n 0 lo:Nat):Int)/\(sliceBounds lo hi none n).2.1=((HT.eG n n hi:Nat):Int)/\(sliceBounds lo hi none n).2.2=1:=by
 refine⟨?_,?_,rfl⟩
 .cases lo with
  | none=>simp [sliceBounds,HT.eG]
  | some i=>
    simp only[sliceBounds,HT.eG,Option.getD_none,show(1:Int) > 0 by decide,if_true]
    by_cases h:i < 0
    .simp only[h,if_true] <;> omega
    .simp only[h,if_false] <;> omega
 .cases hi with
  | none=>simp [sliceBounds,HT.eG]
  | some i=>
    simp only[sliceBounds,HT.eG,Option.getD_none,show(1:Int) > 0 by decide,if_true]
    by_cases h:i < 0
    .simp only[h,if_true] <;> omega
    .simp only[h,if_false] <;> omega
theorem uA(its:List Value)(lo hi:Option Int):slicePick its.toArray lo hi none=((its.drop (HT.eG its.length 0 lo)).take (HT.eG its.length its.length hi - HT.eG its.length 0 lo)).toArray:=by
 obtain⟨h1,h2,h3⟩:=wW lo hi its.toArray.size;unfold slicePick;rw[h1,h2,h3];simp only[sliceRange_one,pick_run,List.size_toArray] <;> rfl
def QG(K:W.Frag):V->Option Int->Option Int->Hp->VK->Prop:=fun x lo hi H Q=>∃a xs,x= .ref a/\oR K H a xs/\∀p,H p=none->Q (.ref p) (upd H p (.lst (ym xs lo hi)))
theorem Jb:Jw X (QG X.K):=by
 intro pins s σ H x v vl vu lo hi sl Q I rx hs pl pu h;obtain⟨a,xs,rfl,hx,q⟩:=h;cases rx;obtain⟨its,r,ht,hz⟩:=I.list hx;have hlen:=r.length;refine⟨"list",_,slot_list_getitem.lookup,ht.isList.typeIs,?_⟩;refine wpAny_getItem_list_slice ht.isList hs pl pu .none (by simp) ?_ (by rw[List.size_toArray] <;> omega)
 rw[uA,<-hlen];refine⟨.ref s.heap.objs.size,_,I.laid (t':=s.toks) (o:= .lst (ym xs lo hi)) (fun b ob q=>Heap.get?_push_of_some _ q) (Nat.le_refl _) ?_,rfl,q _ (I.hok.fresh (Nat.le_refl _))⟩
 exact⟨Nat.le_trans (qJ xs lo hi) hz,_,0,(r.drop (HT.eG xs.length 0 lo)).take (HT.eG xs.length xs.length hi - HT.eG xs.length 0 lo),Heap.get?_push_size _ rfl⟩
def lV:V->Bool
 | .cR=>true
 | .bl _=>true
 | .int _=>true
 | .str _=>true
 | _=>false
def Kp:V->V->Bool
 | .cR, .cR=>true
 | .bl a, .bl b=>a==b
 | .bl a, .int b=>(if a then 1 else 0)==b
 | .int a, .bl b=>a==(if b then 1 else 0)
 | .int a, .int b=>a==b
 | .str a, .str b=>a==b
 | _,_=>false
theorem Mo{s:Shared}{y x:V}{u v:Value}(ry:RelV y u)(rx:RelV x v)(fy:lV y=true)(fx:lV x=true):SeqAt.EqAt A s u v (Kp y x):=by
 cases y with
 | cR=>
   cases ry;cases x with
   | cR=>cases rx;exact SeqAt.EqAt.same _
   | bl b=>cases rx;exact SeqAt.EqAt.none_bool b
   | int b=>obtain⟨t,rfl⟩:=rx;exact SeqAt.EqAt.none_int b t
   | str b=>obtain⟨t,rfl⟩:=rx;exact SeqAt.EqAt.none_str b t
   | _=>exact absurd (show false=true from fx) Bool.false_ne_true
 | bl a=>
   cases ry;cases x with
   | cR=>cases rx;exact SeqAt.EqAt.bool_none a
   | bl b=>cases rx;exact SeqAt.EqAt.bool_bool a b
   | int b=>obtain⟨t,rfl⟩:=rx;exact SeqAt.EqAt.bool_int a b t
   | str b=>obtain⟨t,rfl⟩:=rx;exact SeqAt.EqAt.bool_str a b t
   | _=>exact absurd (show false=true from fx) Bool.false_ne_true
 | int a=>
   obtain⟨t',rfl⟩:=ry;cases x with
   | cR=>cases rx;exact SeqAt.EqAt.int_none a t'
   | bl b=>cases rx;exact SeqAt.EqAt.int_bool a t' b
   | int b=>obtain⟨t,rfl⟩:=rx;exact SeqAt.EqAt.int_int a t' b t
   | str b=>obtain⟨t,rfl⟩:=rx;exact SeqAt.EqAt.int_str a t' b t
   | _=>exact absurd (show false=true from fx) Bool.false_ne_true
 | str a=>
   obtain⟨t',rfl⟩:=ry;cases x with
   | cR=>cases rx;exact SeqAt.EqAt.str_none a t'
   | bl b=>cases rx;exact SeqAt.EqAt.str_bool a t' b
   | int b=>obtain⟨t,rfl⟩:=rx;exact SeqAt.EqAt.str_int a t' b t
   | str b=>obtain⟨t,rfl⟩:=rx;exact SeqAt.EqAt.str_str a t' b t
   | _=>exact absurd (show false=true from fx) Bool.false_ne_true
 | _=>exact absurd (show false=true from fy) Bool.false_ne_true
def JE(x:V)(u:Value):Bool:=match u with
 | .none=>Kp .cR x
 | .bool b=>Kp (.bl b) x
 | .int i _=>Kp (.int i) x
 | .str z _=>Kp (.str z) x
 | _=>false
theorem Gf{x y:V}{u:Value}(r:RelV y u)(f:lV y=true):JE x u=Kp y x:=by
 cases y with
 | cR=>cases r;rfl
 | bl b=>cases r;rfl
 | int i=>obtain⟨t,rfl⟩:=r;rfl
 | str z=>obtain⟨t,rfl⟩:=r;rfl
 | _=>exact absurd (show false=true from f) Bool.false_ne_true
theorem v8{x:V}:∀{xs:List V} {us:List Value},Vals xs us->xs.all lV=true->us.any (JE x)=xs.any fun y=>Kp y x
 | _,_, .nil,_=>rfl
 | y ::xs,u ::us, .cons r t,f=>by
   rw[List.all_cons,Bool.and_eq_true] at f;rw[List.any_cons,List.any_cons,Gf r f.1,v8 t f.2]
theorem sZ{s:Shared}{x:V}{v:Value}(rx:RelV x v)(fx:lV x=true):∀{xs:List V} {us:List Value},Vals xs us->xs.all lV=true->∀u∈us,SeqAt.EqAt A s u v (JE x u)
 | _,_, .nil,_=>fun u hu=>by cases hu
 | y ::xs,u ::us, .cons r t,f=>fun u' hu=>by
   rw[List.all_cons,Bool.and_eq_true] at f;rcases List.mem_cons.mp hu with rfl | hu
   .rw [Gf r f.1];exact Mo r rx f.1 fx
   .exact sZ rx fx t f.2 u' hu
def J3(x:V)(xs:List V):Bool:=xs.any fun y=>Kp y x
def UZ(K:W.Frag)(neg:Bool):R2:=fun x y H Q=>∃p xs,y= .ref p/\(oR K H p xs\/p8 K H p xs)/\lV x=true/\xs.all lV=true/\Q (.bl (if neg then !J3 x xs else J3 x xs)) H
theorem Cq:l9 X (compareOp .In) (UZ X.K false):=by
 intro pins s σ H x y v u Q I rx ry h;obtain⟨p,xs,rfl,hq,fx,fs,q⟩:=h;cases ry;rcases hq with hq | hq
 .obtain⟨its,r,pl,hz⟩:=I.list hq;refine SeqAt.in_listAt (JE x) pl.isList (fun w hw=>sZ rx fx r fs w (by simpa using hw)) ⟨.bl _,H,I,rfl,?_⟩
  rw[show its.toArray.any (JE x)=its.any (JE x) by simp,v8 r fs]
  exact q
 .obtain⟨its,r,pl,hz⟩:=I.tuple hq;refine SeqAt.in_tupleAt (JE x) pl (fun w hw=>sZ rx fx r fs w (by simpa using hw)) ⟨.bl _,H,I,rfl,?_⟩
  rw[show its.toArray.any (JE x)=its.any (JE x) by simp,v8 r fs]
  exact q
theorem vI:lX X (.type "list") (fun xs H Q=>∃p ys,xs=[.ref p]/\(oR X.K H p ys\/p8 X.K H p ys)/\∀l,H l=none->Q (.ref l) (upd H l (.lst ys))):=by
 intro pins s σ H xs us Q I r h;obtain⟨p,ys,rfl,hq,q⟩:=h;obtain⟨u,rfl,rx⟩:=vals1 r;cases rx;have fin:∀(its:List Value),Vals ys its->ys.length<=sizeLine->∀(h':Heap) (c':Nat),(∀b o',s.heap.get? b=some o'->h'.get? b=some o')->
  h'.get? s.heap.objs.size=some {cls:= .type "list",dict:=none,data:= .seq its.toArray c',slots:=#[]}->EP X pins σ Q (.ref s.heap.objs.size) {s with heap:=h'}:=fun its r' hz h' c' kp e=>
  ⟨.ref s.heap.objs.size,_,I.laid (t':=s.toks) kp (Nat.le_refl _) (show cT X.prog X.w _ h' _ (.lst ys) from⟨hz,its,c',r',e⟩),rfl,q _ (I.hok.fresh (Nat.le_refl _))⟩
 rcases hq with hq | hq
 .obtain⟨its,r',pl,hz⟩:=I.list hq;have hlen:=r'.length;obtain⟨o,ho,hc,n,hd⟩:=pl.isList;exact call_list_seq p (.inl rfl) ho hc hd (fun h' c' kp e=>fin its r' hz h' c' kp e) (by simp only[List.size_toArray] <;> omega)
 .obtain⟨its,r',pl,hz⟩:=I.tuple hq;have hlen:=r'.length;obtain⟨o,ho,hc,n,hd⟩:=pl;exact call_list_seq p (.inr rfl) ho hc hd (fun h' c' kp e=>fin its r' hz h' c' kp e) (by simp only[List.size_toArray] <;> omega)
theorem uz:lX X (.type "tuple") (fun xs H Q=>∃p ys,xs=[.ref p]/\((oR X.K H p ys/\∀l,H l=none->Q (.ref l) (upd H l (.tup ys)))\/(p8 X.K H p ys/\Q (.ref p) H))):=by
 intro pins s σ H xs us Q I r h;obtain⟨p,ys,rfl,h⟩:=h;obtain⟨u,rfl,rx⟩:=vals1 r;cases rx;rcases h with⟨hq,q⟩ | ⟨hq,q⟩
 .obtain⟨its,r',pl,hz⟩:=I.list hq;have hlen:=r'.length;refine call_tuple_list pl.isList (fun h' kp=>?_) (by simp only[List.size_toArray] <;> omega)
  have I1:Inv X pins σ H {s with heap:=h'}:=I.kept (t':=s.toks) kp
  have I2:Inv X pins σ (upd H h'.objs.size (.tup ys)) {s with heap:=h'.push {cls:= .type "tuple",data:= .seq its.toArray}}:=
   I1.laid (t':=s.toks) (fun b o e=>Heap.get?_push_of_some _ e) (Nat.le_refl _) (show cT X.prog X.w _ _ _ (.tup ys) from⟨hz,its,r',IsTup.new _ _⟩)
  exact⟨.ref h'.objs.size,_,I2,rfl,q _ (I1.hok.fresh (Nat.le_refl _))⟩
 .obtain⟨its,r',pl,hz⟩:=I.tuple hq;exact call_tuple_same pl ⟨.ref p,H,I,rfl,q⟩
def Q9(K:W.Frag)(T:String)(x:V)(H:Hp):Prop:=match x with
 | .str _=>T="str"
 | .int _=>T="int"
 | .ref p=>(T="list"/\∃xs,oR K H p xs)\/(T="tuple"/\∃o,K.lookup p=some o/\o.cls= .type "tuple"/\o.dict=none)\/
    (T="dict"/\((∃aV,H p=some (.dK aV))\/∃aV,H p=some (.dT aV)))\/(T="set"/\∃S n,H p=some (.set S n))
 | _=>False
theorem K0{pins:Aaa}{s:Shared}{T:String}{x:V}{v:Value}(I:Inv X pins σ H s)(r:RelV x v)(ty:Q9 X.K T x H) :
 s.TypeIs v T/\∀a,v= .ref a->∃ob,s.heap.get? a=some ob/\ob.dict=none:=by
 cases x with
 | str z=>
   obtain⟨t,rfl⟩:=r;cases(show T="str" from ty)
   exact⟨typeIs_str s z t,fun _ e=>nomatch e⟩
 | int i=>
   obtain⟨t,rfl⟩:=r;cases(show T="int" from ty)
   exact⟨typeIs_int s i t,fun _ e=>nomatch e⟩
 | ref p=>
   cases r;rcases ty with⟨rfl,xs,hq⟩ | ⟨rfl,o,hk,hc,hd⟩ | ⟨rfl,hk⟩ | ⟨rfl,S,n,hk⟩
   .obtain⟨its,_,pl,_⟩:=I.list hq;refine⟨pl.isList.typeIs,fun a e=>?_⟩
    cases e;obtain⟨o,n,e,c,hd,_⟩:=pl;exact⟨o,e,hd⟩
   .refine⟨⟨o,I.pX p o hk,hc⟩,fun a e=>?_⟩
    cases e;exact⟨o,I.pX _ o hk,hd⟩
   .have z:∃o,s.heap.get? p=some o/\o.ExactDict:=by
     rcases hk with⟨aV,hk⟩ | ⟨aV,hk⟩
     .obtain⟨_,_,_,_,o,_,_,e,ex,_⟩:=I.hok p _ hk;exact⟨o,e,ex⟩
     .obtain⟨_,_,_,_,o,_,_,e,ex,_⟩:=I.hok p _ hk;exact⟨o,e,ex⟩
    obtain⟨o,e,ex⟩:=z;refine⟨⟨o,e,ex.1⟩,fun a e2=>?_⟩
    cases e2;exact⟨o,e,ex.2.1⟩
   .obtain⟨o,_,_,_,e,ex,_⟩:=I.hok p _ hk;refine⟨⟨o,e,ex.1⟩,fun a e2=>?_⟩
    cases e2;exact⟨o,e,ex.2.1⟩
 | _=>exact False.elim ty
def Xm(K:W.Frag)(T:String)(r:V->List V->Hp->VK->Prop)(to:TE):TE:=fun σ H Q=>to σ H fun x H1=>Q9 K T x H1/\r x [] H1 Q
def Wn(K:W.Frag)(T:String)(r:V->List V->Hp->VK->Prop)(to:TE)(t:TA):TE:=fun σ H Q=>to σ H fun x H1=>Q9 K T x H1/\t σ H1 fun xs H2=>r x xs H2 Q
variable {o e:Expr} {es:List Expr} {to:TE} {t:TA} {name:Str} {apos cx:Pos} {T id:String} {r:V->List V->Hp->VK->Prop}
theorem DN(pa:PlainAttrs T)(slot:Slot T name id)(SR:typeOf (.builtin id)=pure (.type "method_descriptor"))(hm:U1 X id r)(ho:PE X o to)(ha:PA X (e ::es) t)
 (mW:attributeBase o name X.env (eval o X.env)=eval o X.env:=by rfl)
 (uf:((backTo cx (starEach (e ::es) X.env)).all (fun x=>!x.1) && (backToKw cx (keywordEach [] X.env)).all (fun x=>x.1.isSome)
   && decide ((e ::es).length+([]:List Keyword).length+(if([]:List Keyword).isEmpty then 0 else 1) < 30))=true:=by rfl)
 (mY:(apos.endLine==cx.line)=true:=by rfl) (hs:starEach (e ::es) X.env=(false,eval e X.env) ::starEach es X.env:=by rfl) (Al:(backTo cx (starEach es X.env)).any (·.1)=false:=by rfl) :
 PE X (.Call (.Attribute o name apos) (e ::es) [] cx) (Wn X.K T r to t):=by
 intro pins s σ H Q I h;refine wpAny_Call_method_late mW uf mY rfl (c6 (ho pins s σ H _ I h) fun v s1 ⟨x,H1,I1,r1,ty,q1⟩=>?_)
 obtain⟨h1,h2⟩:=K0 I1 r1 ty;refine⟨T,id,pa,slot,SR,h1,h2,?_⟩;have hA:=ha cx pins s1 σ H1 _ I1 q1;rw[hs] at hA ⊢;refine Calls.callWith_builtin (by show(false || (backTo cx (starEach es X.env)).any (·.1))=false;rw [Al] <;> rfl) (Calls.evalArgs_plain ?_)
 exact c6 hA fun us s2 ⟨vs,H2,I2,r2,q2⟩=>hm pins s2 σ H2 x vs v us Q I2 r1 r2 q2
end
def Wt(X:Cx)(id:String)(r:V->List V->Hp->VK->Prop):Prop:=
 ∀(pins:Aaa) (s:Shared) (σ:St) (H:Hp) (x:V) (xs:List V) (v:Value) (us:List Value) (Q:VK),Inv X pins σ H s->RelV x v->Vals xs us->r x xs H Q->
  wpAny (model X.prog X.w) X.A (call (.builtin id) (v ::us)) (EP X pins σ Q) X.xe s
theorem Vals.one:∀{x:V} {us:List Value},Vals [x] us->∃u,us=[u]/\RelV x u
 | _,_, .cons r .nil=>⟨_,rfl,r⟩
theorem Vals.rep{xs:List V}{us:List Value}(h:Vals xs us):∀k:Nat,Vals (List.replicate k xs).flatten (List.replicate k us).flatten
 | 0=> .nil
 | k+1=>by
   rw[List.replicate_succ,List.replicate_succ,List.flatten_cons,List.flatten_cons];exact Vals.append h (Vals.rep h k)
theorem foldl_rep(its:List Value):∀(k:Nat) (acc:List Value),
 List.foldl (fun x1 x2=>x1++x2) acc.toArray (List.replicate k its.toArray)=(acc++(List.replicate k its).flatten).toArray
 | 0,acc=>by simp
 | k+1,acc=>by
   have e:acc.toArray++its.toArray=(acc++its).toArray:=by simp
   have e2:(acc++its)++(List.replicate k its).flatten=acc++(List.replicate (k+1) its).flatten:=by
    rw[List.replicate_succ,List.flatten_cons,List.append_assoc]
   rw[<-e2,<-foldl_rep its k (acc++its),<-e,List.replicate_succ,List.foldl_cons]
section
variable {X:Cx} {pins:Aaa} {σ:St} {H:Hp} {s:Shared} {l b:Addr} {xs ys zs:List V}
theorem Inv.QU{its its':List Value}{n:Nat}{f:Array Value->Array Value}{t':Nat}(I:Inv X pins σ H s)(hH:H l=some (.lst xs))
 (e:s.heap.get? l=some {cls:= .type "list",data:= .seq its.toArray n}) (hf:f its.toArray=its'.toArray) (hv:Vals ys its') (hz:ys.length<=sizeLine) :
 Inv X pins σ (upd H l (.lst ys)) {s with heap:=s.heap.update l (Obj.mapSeq f),toks:=t'}:=by
 have q:=PySem.IsL.update e f;rw[hf] at q;refine I.write (x:=l) (e:=l) (by rw[hH];exact trivial) (.inl rfl) (fun b' u hb hu=>(Heap.get?_update_other s.heap (Obj.mapSeq f) (Ne.symm hb)).trans hu) ⟨_,q⟩ ?_
 exact⟨hz,its',_,hv,q⟩
theorem Inv.Hn{its:List Value}{t':Nat}(I:Inv X pins σ H s)(hv:Vals ys its)(hz:ys.length<=sizeLine) :
 Inv X pins σ (upd H s.heap.objs.size (.lst ys)) {s with heap:=s.heap.push {cls:= .type "list",data:= .seq its.toArray},toks:=t'}:=
 I.laid (fun _ _ q=>Heap.get?_push_of_some _ q) (Nat.le_refl _) ⟨hz,its,0,hv,Heap.get?_push_size _ rfl⟩
theorem Inv.fresh(I:Inv X pins σ H s):H s.heap.objs.size=none:=I.hok.fresh (Nat.le_refl _)
theorem Inv.OW(I:Inv X pins σ H s)(hH:H l=some (.lst xs)):xs.length<=sizeLine/\∃(its:List Value) (n:Nat),Vals xs its/\xs.length=its.length/\s.heap.get? l=some {cls:= .type "list",data:= .seq its.toArray n}:=by
 obtain⟨z,its,n,r,e⟩:=I.hok l _ hH;exact⟨z,its,n,r,r.length,e⟩
theorem Fw{n:Nat}(h:n<=sizeLine):Builtin.List.listTooLong n=false:=by
 unfold Builtin.List.listTooLong;exact decide_eq_false (by omega)
end
section
variable {X:Cx}
def HP:V->List V->Hp->VK->Prop:=fun x vs H Q=>∃l xs y,x= .ref l/\vs=[y]/\H l=some (.lst xs)/\xs.length < sizeLine/\Q .cR (upd H l (.lst (xs++[y])))
theorem qr:Wt X "list.append" HP:=by
 intro pins s σ H x vs v us Q I rx rv h;obtain⟨l,xs,y,rfl,rfl,hH,hz,q⟩:=h;cases rx;obtain⟨u,rfl,ru⟩:=rv.one;obtain⟨z,its,n,r,hl,e⟩:=I.OW hH;refine call_meets F.slot_list_append ⟨_,e,rfl⟩ F.entry_list_append (F.args_list_append_2 _ _) (PySem.list_append l its.toArray n u (by rw[List.size_toArray];omega)) ⟨e,?_⟩
 refine⟨.cR,_,I.QU (its':=its++[u]) hH e (by simp) (r.append (.cons ru .nil)) ?_,rfl,q⟩
 rw[List.length_append,List.length_singleton];omega
def Qe:V->List V->Hp->VK->Prop:=fun x vs H Q=>∃l b xs zs,x= .ref l/\vs=[.ref b]/\H l=some (.lst xs)/\H b=some (.lst zs)/\xs.length+zs.length<=sizeLine/\Q .cR (upd H l (.lst (xs++zs)))
def VH:V->List V->Hp->VK->Prop:=fun x vs H Q=>∃l xs y,x= .ref l/\vs=[]/\H l=some (.lst xs)/\xs[xs.length - 1]? =some y/\Q y (upd H l (.lst xs.dropLast))
def RF:V->List V->Hp->VK->Prop:=fun x vs H Q=>∃l xs i k y,x= .ref l/\vs=[.int i]/\H l=some (.lst xs)/\ -(2 ^ 63)<=i/\i < 2 ^ 63/\seqIndex? i xs.length=some k/\xs[k]? =some y/\Q y (upd H l (.lst (xs.eraseIdx k)))
def Nv:V->List V->Hp->VK->Prop:=fun x vs H Q=>∃l xs,x= .ref l/\vs=[]/\H l=some (.lst xs)/\Q .cR (upd H l (.lst xs.reverse))
def RI:V->List V->Hp->VK->Prop:=fun x vs H Q=>∃l xs,x= .ref l/\vs=[]/\H l=some (.lst xs)/\Q .cR (upd H l (.lst []))
def WN:R2:=fun x y H Q=>∃l b xs zs,x= .ref l/\y= .ref b/\H l=some (.lst xs)/\H b=some (.lst zs)/\xs.length+zs.length<=sizeLine/\∀p,H p=none->Q (.ref p) (upd H p (.lst (xs++zs)))
def Rh:R2:=fun x y H Q=>∃l k xs,x= .ref l/\y= .int k/\H l=some (.lst xs)/\ -(2 ^ 63)<=k/\k < 2 ^ 63/\xs.length*k.toNat<=sizeLine/\
 ∀p,H p=none->Q (.ref p) (upd H p (.lst (List.replicate k.toNat xs).flatten))
theorem len_rep{α:Type}(xs:List α)(k:Nat):(List.replicate k xs).flatten.length=k*xs.length:=by
 induction k with
 | zero=>simp
 | succ k ih=>rw [List.replicate_succ,List.flatten_cons,List.length_append,ih,Nat.succ_mul,Nat.add_comm]
theorem Lr:l9 X (binaryOp .Mult) Rh:=by
 intro pins s σ H x y v u Q I rx ry h;obtain⟨l,k,xs,rfl,rfl,hH,h1,h2,hz,q⟩:=h;cases rx;obtain⟨t,rfl⟩:=ry;obtain⟨z,its,n,r,hl,e⟩:=I.OW hH;have hlen:its.toArray.size*k.toNat<=sizeLine:=by rw[List.size_toArray,<-hl];exact hz
 have hcap:¬its.toArray.size*k.toNat > (2 ^ 63 - 1) / 8:=by
  have:(sizeLine:Nat)<=(2 ^ 63 - 1) / 8:=by decide
  omega
 have hfit:¬(!Builtin.List.listFitsIndex k)=true:=by
  rw[fitsIndex_both h1 h2];exact Bool.false_ne_true
 have hlong:¬Builtin.List.listTooLong (its.toArray.size*k.toNat)=true:=by
  rw[Fw hlen];exact Bool.false_ne_true
 have hnew:List.foldl (fun x1 x2=>x1++x2) #[] (List.replicate (if its.toArray.isEmpty=true then 0 else k.toNat) its.toArray)=(List.replicate k.toNat its).flatten.toArray:=by
  have f0:∀m:Nat,List.foldl (fun x1 x2=>x1++x2) #[] (List.replicate m its.toArray)=(List.replicate m its).flatten.toArray:=fun m=>by
   have:=foldl_rep its m [];rw[List.nil_append] at this;exact this
  rw[f0];cases its with
  | nil=>simp
  | cons a r'=>rw [if_neg (by simp)]
 refine wpAny_binaryOp_repeat_ref (T:="list") (U:="int") (by decide) ⟨_,e,rfl⟩ (fun s'=>typeIs_int s' k t) noFill_list_mul F.fills_int_mul F.slot_int_rmul repeat_list F.slot_int_index.lookup
  (call_meets F.slot_int_rmul (typeIs_int s k t) F.entry_int_rmul (F.args_int_rmul_2 _ _) (int___rmul___int_list k t l its.toArray n)
    ⟨e,rfl,⟨_,e,rfl⟩,call_meets F.slot_list_mul ⟨_,e,rfl⟩ F.entry_list_mul (F.args_list_mul_2 _ _) (AutoListH.list___mul___list_int_3 l its.toArray n k t hfit hcap hlong) ⟨e,?_⟩⟩)
 rw[hnew];exact⟨.ref _,_,I.Hn (t':=s.toks) (r.rep k.toNat) (by rw[len_rep,Nat.mul_comm];exact hz),rfl,q _ I.fresh⟩
end
section
variable {prog:Program} {w:World} {A:Around} {E:Aab} {s:Shared}
set_option maxRecDepth 100000 in
end
section
variable {X:Cx}
end
end L2
namespace Att
open PySem PySem.W PySem.Calls PyProof.Rows
theorem rm{P:Params}:∀(ns:List Int) (vs:List Value),WellAll P h vs (ns.map WData.int)->IntsAre vs ns:=by
 intro ns
 induction ns with
 | nil=>
   intro vs w;rw[List.map_nil] at w;cases w;exact .nil
 | cons n ns ih=>
   intro vs w;rw[List.map_cons] at w;cases w with
   | cons a b=>
     cases a;exact .cons _ _ (ih _ b)
theorem CS{l:OpenLaw}{n:Nat}(hn:l.most=some n){P:Params}{h:Heap}{args:List WData}{vals:List Value}
 (JQ:l.row.toRowW.claim.pre args=true) (vB:WellAll P h vals args) :
 ∃a vs ns,vals=[Value.ref a]/\args=[WData.list (ns.map WData.int)]/\h.get? a=some {cls:= .type "list",data:= .seq vs.toArray}/\IntsAre vs ns/\ns.length<=n:=by
 have hsh:WShape.hasAll [] args [.list .int]=true:=(pre_splitW JQ).1;have hc:l.pre.holds [] {args:=args}=true:=(pre_splitW JQ).2;obtain⟨d,r,rfl,h1,h2⟩:=hasAllW_cons hsh;obtain rfl:=hasAllW_nil h2;obtain⟨xs,rfl,h3⟩:=hasW_list h1;obtain⟨ns,rfl⟩:=items_int h3;have hlen:ns.length<=n:=by
  unfold OpenLaw.pre at hc;have h4:(WTm.not (.lt (.lit (.int (n:Int))) (.len (.arg 0)))).holds [] {args:=[.list (ns.map .int)]}=true:=by
   have h4:=(holds_andW hc).1;rw[hn] at h4;exact h4
  have h5:=condW_of h4 (w_not (w_lt w_lit (w_len_list (w_arg rfl))));rw[List.length_map] at h5;refine Nat.le_of_not_lt fun q=>?_
  have q':(n:Int) < ((ns.length:Nat):Int):=by omega
  first
   | (rw [decide_eq_true q'] at h5;exact absurd h5 (by decide))
   | (simp at h5;omega)
 cases vB with
 | cons w1 w2=>
   cases w2;cases w1 with
   | list ho Dj=>exact⟨_,_,ns,rfl,rfl,ho,rm ns _ Dj,hlen⟩
theorem Ce(l:OpenLaw)(args:List WData):l.row.toRowW.claim.post args (.bool true) args=true:=
 postW_of (r:=l.row.toRowW) (X:=(true==true))
  (show WShape.has [] (.bool true) .bool=true by first | rfl | decide | simp [WShape.has,WShape.arms,WShape.armsAll])
  (show(WTm.eq .res (.lit (.bool true))).value [] {args:=args,res:=some (.bool true),after:=args}=some (.bool (true==true)) from w_eq_bool (w_res rfl) w_lit) rfl
theorem xq{l:OpenLaw}{n:Nat}{q:Program}{loose:List Str}{XP:(Str->Option Value)->Heap->Prop}{YP:World->Heap->Prop}{d:DefRec}
 (hn:l.most=some n) (Tz:d.params.defaults=[])
 (call:∀(w:World) (s₀ s₁:Shared) (mg mb:Aaf) (fa:Addr) (o:Obj) (pm cd doc:Value) (a:Addr) (vs:List Value) (ns:List Int),
   Ground q loose [] XP w s₀ mg mb s₁.heap->YP w s₁.heap->
   s₁.heap.get? fa=some o->o.data= .func (docDef d.name d.params d.body d.scope pm cd doc)->s₁.heap.CodeRec cd d.name->mg d.name=some (.ref fa)->
   s₁.heap.get? a=some {cls:= .type "list",data:= .seq vs.toArray}->IntsAre vs ns->ns.length<=n->s₁.gens=#[]->
   codeAny (model l.prog w) callerA (.call (.ref fa) ⟨[.ref a],[]⟩) (fun r s'=>r= .ok (.ret (.bool true))/\OldK s₁.heap s'.heap/\s'.os=s₁.os/\AllBare s'.gens) s₁) :
 WalkO q loose XP YP l.row.toRowW d [] (fun f vs=>PySem.call f vs):=by
 intro w s₀ s₁ mg mb G Y fa o pm cd doc dV kV ho hd uH hD Pz hg args vals as JQ hlay hrd vB hlo;obtain rfl:dV= .none:=Dflts.none hD Tz;obtain rfl:kV= .none:=Dflts.noKw hD;obtain⟨a,vs,ns,rfl,rfl,MK,hints,hlen⟩:=CS hn JQ vB;refine enter_call (codeAny_mono (call w s₀ s₁ mg mb fa o pm cd doc a vs ns G Y ho (fd_plain hd) uH Pz MK hints hlen hg) fun r s' hq=>?_)
 obtain⟨rfl,h2,h3,h4⟩:=hq;exact⟨.inl ⟨.bool true, .bool true,[],rfl,fun _=>rfl, .bool true,Ce l _,fun _=>⟨List.Pairwise.nil,fun _ hm=>(nomatch hm)⟩⟩,h2,h3,h4⟩
section
variable {prog:Program} {w:World} {A:Around} {E:Aab} {s:Shared} {K:Frag}
def Ra(h:Heap):Heap:={h with objs:=#[]}
def ledger(h:Heap)(L d:Addr):Aaa:=(List.range h.objs.size).filterMap fun a=>if a=L\/a=d then none else(h.get? a).map fun o=>(a,o)
end
end Att
namespace L2
open PySem PySem.Spec PyProof.Rows
theorem vA:∀{vs:List Value} {ns:List Int},IntsAre vs ns->Vals (ns.map V.int) vs
 | _,_, .nil=> .nil
 | _,_, .cons n t h=> .cons ⟨t,rfl⟩ (vA h)
def NC(H:Hp):Prop:=∀b,H b=none\/∃o xs,H b=some (.j4 o (.lst xs))
abbrev gU{K:W.Frag}{h:Heap}(_:K.In h):W.Frag:=K
def inClass(s:Stmt)(j:Nat):Stmt:=match s with
 | .ClassDef _ _ _ body _ _ _ _ _ _ _=>body.getD j (.Pass ⟨0,0,0,0⟩)
 | _=> .Pass ⟨0,0,0,0⟩
def eK(s:Stmt):Arguments:=match s with
 | .FunctionDef _ a _ _ _ _ _ _ _ _=>a
 | _=>{posonlyargs:=[],args:=[],vararg:=none,kwonlyargs:=[],kw_defaults:=[],kwarg:=none,defaults:=[]}
def aL(s:Stmt):List Stmt:=match s with
 | .FunctionDef _ _ b _ _ _ _ _ _ _=>b
 | _=>[]
def ax(s:Stmt):Scope:=match s with
 | .FunctionDef _ _ _ _ _ _ sc _ _ _=>sc
 | _=>{kind:= .function,names:=[],isGenerator:=false,isCoroutine:=false}
abbrev sx:Du:=fun _ _ _ _ _ _=>False
abbrev E0:XK:=fun _ _ _=>False
theorem xQ{X:Cx}:Passes sx X E0:=fun _ _ _ _ _ _ _ h=>h.elim
structure AV (K:W.Frag) (x qual:Str) (st:Stmt) (f:Addr) (fd:FuncData):Prop where
 ex:∃(oc:Value) (od:Option Addr) (kV doc pm:Value) (an:Option Addr) (fF ct:Value) (He:Array (Option Value)),
  fd=PySem.W.fnOf x qual (eK st) (aL st) (ax st) .none kV doc pm an fF ct/\K.lookup f=some ⟨oc,od, .func fd,He⟩/\PySem.W.codeIn K fF qual=true
 kp:PySem.W.keepIn K (.ref f)=true
section
variable {P:Program} {w:World} {K:W.Frag} {mg:Aaf} {base:Heap}
theorem AV.ok{x qual:Str}{st:Stmt}{f:Addr}{fd:FuncData}{N ps:List Str}{k:Nat}{sp:Sp}(F:AV K x qual st f fd)(S:a_ N ps (ax st))(len:∀vs H Q E,sp vs H Q E->vs.length=ps.length)
 (ij:∀(fF:Value) (A:Around) (outer:List Env) (s:Shared) (H:Hp) (vs:List V) (Q:VK) (E:XK),dW k (A.deeper (envOfC qual (ax st) s.heap.objs.size f fF))->sp vs H Q E->
   ∃t,u7 (p6 sx P w K mg base N qual (ax st) f fF A outer s H E).Eu (aL st) t/\t {nx:=fun _ H'=>Q .cR H',rt:=Q} (start N vs) H):ie P w K mg base sx (k+1) f fd ps sp:=by
 obtain⟨oc,od,kV,doc,pm,an,fF,ct,He,rfl,lk,uH⟩:=F.ex;refine NV lk uH S len fun A outer s H vs Q E hr Nk=>?_
 obtain⟨t,h,q⟩:=ij fF A outer s H vs Q E hr Nk;exact⟨t,h.Eu,q⟩
theorem AV.binds{x qual:Str}{st:Stmt}{f:Addr}{fd:FuncData}{ps:List Str}(F:AV K x qual st f fd)
 (h:∀(kV doc pm:Value) (an:Option Addr) (fF ct:Value) (us:List Value),us.length=ps.length->bindArgs (PySem.W.fnOf x qual (eK st) (aL st) (ax st) .none kV doc pm an fF ct) ⟨us,[]⟩=pure (ps.zip us)):Binds K fd ps []:=by
 obtain⟨oc,od,kV,doc,pm,an,fF,ct,He,rfl,lk,uH⟩:=F.ex;exact .all (h kV doc pm an fF ct)
theorem om{x qual:Str}{st:Stmt}{f:Addr}{oc:Value}{od an:Option Addr}{He:Array (Option Value)}{kV doc pm fF ct:Value}(l:K.lookup f=some ⟨oc,od, .func (PySem.W.fnOf x qual (eK st) (aL st) (ax st) .none kV doc pm an fF ct),He⟩)
 (c:PySem.W.codeIn K fF qual=true) (k:PySem.W.keepIn K (.ref f)=true):AV K x qual st f (PySem.W.fnOf x qual (eK st) (aL st) (ax st) .none kV doc pm an fF ct):=⟨⟨oc,od,kV,doc,pm,an,fF,ct,He,rfl,l,c⟩,k⟩
end
theorem Ov{A:Around}{k:Nat}(hr:dW k A):A.units+1 < cLine:=Nat.lt_of_le_of_lt (Nat.add_le_add_left (by decide:1<=64) _) hr.units
section
variable {X:Cx}
end
theorem FV{A B:Prop}(h:B):if false=true then A else B:=by
 rw[if_neg Bool.false_ne_true];exact h
theorem Fv{A B:Prop}(h:A):if true=true then A else B:=by
 rw[if_pos rfl];exact h
def aR(H H':Hp):Prop:=∀b o,H b=some o->H' b=some o
theorem aR.refl(H:Hp):aR H H:=fun _ _ h=>h
theorem aR.trans(a:aR H H1)(b:aR H1 H2):aR H H2:=fun c o h=>b c o (a c o h)
theorem aR.free{H H':Hp}(e:aR H H'){l:Addr}(h:H' l=Option.none):H l=Option.none:=by
 cases q:H l with
 | none=>rfl
 | some o=>
   rw[e l o q] at h;cases h
section
variable {κ:Type} [DecidableEq κ]
end
end L2
end
section
namespace L2
open PySem PySem.Spec PyProof.Rows
def nk(cells:List (Str × Addr)):List (Str × NameKind)->List (Str × Addr)->List (Str × Addr)
 | [],acc=>acc
 | (n,k) ::r,acc=>nk cells r (if k==NameKind.free then(n,(cells.lookup n).getD 0) ::acc else acc)
theorem lB{env:Env}:∀(names:List (Str × NameKind)) (acc:List (Str × Addr)),(∀y∈names,y.2= .free->∃c,env.cells.lookup y.1=some c)->
 (forIn names acc fun(x:Str × NameKind) (cs:List (Str × Addr))=>(match x with
   | (name,kind)=>if kind== .free then do let a <-cellOf env name;pure (ForInStep.yield ((name,a) ::cs)) else pure (ForInStep.yield cs):Sem (ForInStep (List (Str × Addr)))))=pure (nk env.cells names acc)
 | [],acc,_=>by simp [nk]
 | (n,k) ::r,acc,h=>by
   rw[List.forIn_cons];by_cases hk:k=NameKind.free
   .subst hk;obtain⟨c,hc⟩:=h (n, .free) List.mem_cons_self rfl;have e:cellOf env n=pure c:=by unfold cellOf;rw [hc]
    simp only[beq_self_eq_true,if_true,e,pure_bind,nk,hc,Option.getD_some];exact lB r _ fun y hy=>h y (List.mem_cons_of_mem _ hy)
   .have hb:(k==NameKind.free)=false:=by simpa using hk
    simp only[hb,Bool.false_eq_true,if_false,pure_bind,nk];exact lB r _ fun y hy=>h y (List.mem_cons_of_mem _ hy)
theorem lR{env:Env}{scope:Scope}(h:∀y∈scope.names,y.2= .free->∃c,env.cells.lookup y.1=some c):closureFor scope env=pure (nk env.cells scope.names []):=by
 unfold closureFor;have:=lB (env:=env) scope.names [] h;simp only[bind_pure];exact this
theorem jy{cells:List (Str × Addr)}:∀(names:List (Str × NameKind)) (acc:List (Str × Addr)) {x:Str} {c:Addr},(nk cells names acc).lookup x=some c->
 acc.lookup x=some c\/((x,NameKind.free)∈names/\c=(cells.lookup x).getD 0)
 | [],acc,x,c,h=> .inl h
 | (n,k) ::r,acc,x,c,h=>by
   rcases jy r _ h with q | ⟨q1,q2⟩
   .by_cases hk:k=NameKind.free
    .subst hk;simp only[beq_self_eq_true,if_true] at q;cases hx:x==n with
     | true=>
       have e:x=n:=by simpa using hx
       subst e;rw[List.lookup_cons,hx] at q;exact .inr ⟨List.mem_cons_self,(Option.some.inj q).symm⟩
     | false=>
       rw[List.lookup_cons,hx] at q;exact .inl q
    .have hb:(k==NameKind.free)=false:=by simpa using hk
     simp only[hb,Bool.false_eq_true,if_false] at q;exact .inl q
   .exact .inr ⟨List.mem_cons_of_mem _ q1,q2⟩
theorem xZ{cells:List (Str × Addr)}:∀(names:List (Str × NameKind)) (acc:List (Str × Addr)) {x:Str},((x,NameKind.free)∈names\/∃c,acc.lookup x=some c)->∃c,(nk cells names acc).lookup x=some c
 | [],acc,x,h=>by
   rcases h with h | h
   .simp at h
   .exact h
 | (n,k) ::r,acc,x,h=>by
   refine xZ r _ ?_;rcases h with h | ⟨c,h⟩
   .rcases List.mem_cons.mp h with e | e
    .cases e;exact .inr ⟨(cells.lookup n).getD 0,by simp [List.lookup_cons]⟩
    .exact .inl e
   .by_cases hk:k=NameKind.free
    .subst hk;simp only[beq_self_eq_true,if_true];cases hx:x==n with
     | true=>exact .inr ⟨(cells.lookup n).getD 0,by rw[List.lookup_cons,hx]⟩
     | false=>exact .inr ⟨c,by rw[List.lookup_cons,hx];exact h⟩
    .have hb:(k==NameKind.free)=false:=by simpa using hk
     simp only[hb,Bool.false_eq_true,if_false];exact .inr ⟨c,h⟩
theorem wL:∀(names:List (Str × NameKind)) (n:Nat) (acc:List (Str × Addr)) {x:Str},(x,NameKind.cell) ∉ names->(cellsFrom n names acc).lookup x=acc.lookup x
 | [],_,_,_,_=>rfl
 | (y,k) ::r,n,acc,x,h=>by
   unfold cellsFrom;split
   .rename_i hk;have hk:k= .cell:=by simpa using hk
    subst hk;rw[wL r _ _ fun z=>h (List.mem_cons_of_mem _ z),List.lookup_cons]
    cases hx:x==y with
    | true=>
      have e:x=y:=by simpa using hx
      subst e;exact absurd List.mem_cons_self h
    | false=>rfl
   .exact wL r _ _ fun z=>h (List.mem_cons_of_mem _ z)
theorem oj:∀(names:List (Str × NameKind)) (n:Nat) (acc:List (Str × Addr)),cellsFrom n names acc=cellsFrom n names []++acc
 | [],_,_=>rfl
 | (y,k) ::r,n,acc=>by
   unfold cellsFrom;split
   .rw [oj r (n+1) ((y,n) ::acc),oj r (n+1) [(y,n)],List.append_assoc];rfl
   .exact oj r n acc
theorem Ae{a b:List (Str × Addr)}{c:Addr}(h:(a++b).lookup x=some c):(x,c)∈a\/b.lookup x=some c:=by
 induction a with
 | nil=>exact .inr h
 | cons y r ih=>
   obtain⟨n,v⟩:=y;rw[List.cons_append,List.lookup_cons] at h;cases hx:x==n with
   | true=>
     rw[hx] at h;have e:x=n:=by simpa using hx
     subst e;cases h;exact .inl List.mem_cons_self
   | false=>
     rw[hx] at h;exact(ih h).imp (List.mem_cons_of_mem _) id
theorem mj{a b:List (Str × Addr)}(h:∃c,b.lookup x=some c):∃c,(a++b).lookup x=some c:=by
 induction a with
 | nil=>exact h
 | cons y r ih=>
   rw[List.cons_append,List.lookup_cons];cases x==y.1 with
   | true=>exact⟨_,rfl⟩
   | false=>exact ih
theorem vY{a b:List (Str × Addr)}{c:Addr}(h:a.lookup x=some c):∃c,(a++b).lookup x=some c:=by
 induction a with
 | nil=>cases h
 | cons y r ih=>
   rw[List.cons_append,List.lookup_cons];rw[List.lookup_cons] at h;cases hx:x==y.1 with
   | true=>exact⟨_,rfl⟩
   | false=>rw [hx] at h;exact ih h
theorem vn{M:Model}{A:Around}{E:Aab}{s:Shared}{scope:Scope}{cl:List (Str × Addr)}{qual:Str}{env:Env}{Q:Env->Shared->Prop}(hQ:∀h',h'.Ns s.heap.objs.size (fun _=>none)->(∀b o,s.heap.get? b=some o->h'.get? b=some o)->CellsOk h' (s.heap.objs.size+1) (cellsFrom (s.heap.objs.size+1) scope.names [])->
 Q (newEnv scope s.heap.objs.size env.globals (cellsFrom (s.heap.objs.size+1) scope.names cl) qual none .none (some env) builtinsNs) {s with heap:=h'}) :
 wpAny M A (newFunctionEnv scope env.globals cl [] qual none .none (some env)) Q E s:=by
 simp only[newFunctionEnv,Option.isSome_some,if_true];refine wpAny_bind (wpAny_alloc ?_);refine wpAny_bind (wpAny_layCells _ (fun name kind cells=>by cases hkc:kind==NameKind.cell <;> simp [hkc]) _ _ _ _ ?_)
 have ok:=cellsFrom_ok scope.names (s.heap.push {cls:= .type "dict",data:= .dict #[]}) (s.heap.objs.size+1) [] ⟨fun _ _ hm=>(nomatch hm),List.Pairwise.nil⟩ (by rw[Heap.size_push];exact Nat.le_refl _)
 rw[Heap.size_push] at ok;rw[show({s with heap:=s.heap.push {cls:= .type "dict",data:= .dict #[]}}:Shared).heap.objs.size=s.heap.objs.size+1 from Heap.size_push ..]
 rw[List.forIn_nil];refine wpAny_bind (wpAny_pure (wpAny_pure ?_));exact hQ _ ((Heap.Ns.new s.heap (.type "dict")).keeps (pushCells_keeps _ _)) (fun b o e=>pushCells_keeps _ _ b o (Heap.get?_push_of_some _ e)) ok
def bF(X:Cx)(scope:Scope)(N':List Str)(fp:List Addr)(s:Shared)(H:Hp):Cx where
 prog:=X.prog
 w:=X.w
 K:=X.K
 mg:=X.mg
 base:=X.base
 A:=X.A
 N:=N'
 s₀:=s
 H₀:=H
 env:=compEnvC scope (cellsFrom (s.heap.objs.size+1) scope.names (nk X.env.cells scope.names [])) s.heap.objs.size X.env
 outer:=X.stack
 stack:=X.stack
 ex:=fp
 fn:=fun x=>scope.names.lookup x==some .cell
 calm:=X.calm
 pn:=[]
 xe:=fun _ _=>False
structure gp (X:Cx) (scope:Scope) (own:List Str) (kp:List Nat) (kn:List Str):Prop where
 kind:scope.kind= .function
 cel:∀y∈scope.names,y.2= .cell->scope.names.lookup y.1=some .cell
 nd:∀y∈scope.names,y.2= .local->scope.names.lookup y.1=some .local
 free:∀y∈scope.names,y.2= .free->X.env.kindOf y.1=some .cell\/X.env.kindOf y.1=some .free
 frl:∀y∈scope.names,y.2= .free->scope.names.lookup y.1=some .free
 names:kn.length=kp.length
 at_:∀(j i:Nat) (x:Str),kp[j]? =some i->kn[j]? =some x->X.N[i]? =some x
 isfree:∀x∈kn,scope.names.lookup x=some .free
def dg(own:List Str)(kp:List Nat)(σ:St):St:=List.replicate own.length none++kp.map fun i=>(σ[i]?).getD none
section
variable {X:Cx} {scope:Scope} {own:List Str} {kp:List Nat} {kn:List Str}
theorem eD{env:Env}:∀{names:List (Str × NameKind)} {x:Str} {k:NameKind},
 (names.map fun(n,k)=>if(k==NameKind.free && env.scope.kind== .function && env.kindOf n==some .cell) then(n,NameKind.cell) else(n,k)).lookup x=some k->
 names.lookup x=some k\/(k= .cell/\names.lookup x=some .free)
 | [],_,_,h=>by simp at h
 | (n,k) ::r,x,k',h=>by
   have ih:=@eD env r x k';have h:List.lookup x ((if(k==NameKind.free && env.scope.kind== .function && env.kindOf n==some .cell)=true then(n,NameKind.cell) else(n,k)) ::_)=some k':=h
   by_cases hc:(k==NameKind.free && env.scope.kind== .function && env.kindOf n==some .cell)=true
   .rw [if_pos hc] at h;have hkf:k= .free:=by
     simp only[Bool.and_eq_true,beq_iff_eq] at hc;exact hc.1.1
    cases hx:x==n with
    | true=>
      rw[List.lookup_cons,hx] at h;cases h;exact .inr ⟨rfl,by rw[List.lookup_cons,hx,hkf]⟩
    | false=>
      rw[List.lookup_cons,hx] at h;rw[List.lookup_cons,hx];exact ih h
   .rw [if_neg hc] at h;cases hx:x==n with
    | true=>
      rw[List.lookup_cons,hx] at h;rw[List.lookup_cons,hx];exact .inl h
    | false=>
      rw[List.lookup_cons,hx] at h;rw[List.lookup_cons,hx];exact ih h
theorem oF{pins:Aaa}{s:Shared}(C:gp X scope own kp kn)(I:Inv X pins σ H s):∀y∈scope.names,y.2= .free->∃c,X.env.cells.lookup y.1=some c:=fun y hy hf=>
 I.ok.has y.1 (C.free y hy hf)
theorem F9{pins:Aaa}{σ:St}{H:Hp}{s:Shared}{fp:List Addr}{iF:Heap}{tk:Nat}(C:gp X scope own kp kn)(I:Inv X pins σ H s)(hf:∀b∈fp,rh X pins H b)(hb:∀b∈fp,b < s.heap.objs.size)
 (hn:iF.Ns s.heap.objs.size (fun _=>none)) (hk:∀b o,s.heap.get? b=some o->iF.get? b=some o) (hC:CellsOk iF (s.heap.objs.size+1) (cellsFrom (s.heap.objs.size+1) scope.names [])):Inv (bF X scope (own++kn) fp s H) [] (dg own kp σ) H {s with heap:=iF,toks:=tk}:=by
 have cl:∀x c,(nk X.env.cells scope.names []).lookup x=some c->X.env.cells.lookup x=some c:=fun x c e=>by
  rcases jy scope.names [] e with q | ⟨q1,q2⟩
  .simp at q
  .obtain⟨c',Dk⟩:=oF C I (x, .free) q1 rfl;have Dk:X.env.cells.lookup x=some c':=Dk;rw[Dk] at q2;rw[Dk,q2];rfl
 have clA:∀x c,(cellsFrom (s.heap.objs.size+1) scope.names (nk X.env.cells scope.names [])).lookup x=some c->(x,c)∈cellsFrom (s.heap.objs.size+1) scope.names []\/(nk X.env.cells scope.names []).lookup x=some c:=fun x c e=>by
  rw[oj] at e;exact Ae e
 have old:∀x c,(nk X.env.cells scope.names []).lookup x=some c->c < s.heap.objs.size:=fun x c e=>by
  obtain⟨v,h⟩:=I.cell x c (cl x c e);exact h.lt
 have new:∀x c,(x,c)∈cellsFrom (s.heap.objs.size+1) scope.names []->s.heap.objs.size<=c:=fun x c e=>Nat.le_of_lt (hC.empty x c e).2
 have clh:∀x,scope.names.lookup x=some .free->∃c,(nk X.env.cells scope.names []).lookup x=some c:=fun x hx=>xZ scope.names [] (.inl (PySem.mem_of_lookup hx))
 refine⟨⟨I.ok.mod,C.kind,I.ok.glob,I.ok.blt,Nat.le_refl _,fun x y c h1 h2=>?inj,fun x hx=>?_,fun x c hn h=>?cab,I.ok.hd,I.ok.frames, .inl rfl,fun b sf=>⟨Nat.ne_of_lt (hb b sf),fun x c e z=>?exf⟩,
  fun b o e=>I.bs b o e,Nat.le_trans I.ok.bsz I.sz,fun b o e sf=>?_,fun b sf hs=>?_,I.stack,I.Ax⟩,
  rfl,I.bare,Un.kept hk,⟨_,hn,fun i x v h1 h2 h3=>?_⟩,fun x c e=>?_,I.hok.fresh (Nat.le_refl _),fun x c e=>?frc,fun p hp=>(by cases hp),I.hok.kept hk,?_⟩
 case inj=>
  rcases clA x c h1 with a | a <;> rcases clA y c h2 with b | b
  .exact name_of_addr hC.apart a b
  .exact absurd (Nat.lt_of_lt_of_le (old y c b) (new x c a)) (Nat.lt_irrefl _)
  .exact absurd (Nat.lt_of_lt_of_le (old x c a) (new y c b)) (Nat.lt_irrefl _)
  .exact I.ok.inj x y c (cl x c a) (cl y c b)
 case cab=>
  have hn:(scope.names.lookup x==some .cell)=true:=hn;rcases clA x c h with a | a
  .exact new x c a
  .rcases jy scope.names [] a with q | ⟨q1,q2⟩
   .simp at q
   .have hx:scope.names.lookup x=some .cell:=by simpa using hn
    have h7:scope.names.lookup x=some .free:=C.frl _ q1 rfl;rw[hx] at h7;cases h7
 case exf=>
  rcases clA x c e with a | a
  .subst z;exact absurd (Nat.lt_of_lt_of_le (hb _ sf) (new x _ a)) (Nat.lt_irrefl _)
  .exact(hf b sf).2.2.2.2.1 x c (cl x c a) z
 case frc=>
  rcases clA x c e with a | a
  .exact I.hok.fresh (new x c a)
  .exact I.freeC x c (cl x c a)
 .have hx:(relabel scope X.env).names.lookup x=some .cell\/(relabel scope X.env).names.lookup x=some .free:=hx;show ∃c,(cellsFrom (s.heap.objs.size+1) scope.names (nk X.env.cells scope.names [])).lookup x=some c;rcases hx with hx | hx
  .rcases eD hx with q | ⟨_,q⟩
   .rw [oj];obtain⟨c,hc⟩:=sC (n:=s.heap.objs.size+1) q;exact vY hc
   .rw [oj];exact mj (clh x q)
  .rcases eD hx with q | ⟨q,_⟩
   .rw [oj];exact mj (clh x q)
   .cases q
 .rcases(hf b sf).2.2.2.1 with z | z
  .exact I.ok.noex b o e z
  .exact absurd (Nat.lt_of_lt_of_le (Heap.lt_size (I.ok.bs b o e).1) z) (Nat.lt_irrefl _)
 .rcases List.mem_cons.mp (I.zP b hs) with z | z
  .exact(hf b sf).2.1 z
  .exact(hf b sf).2.2.1 z
 .-- a kept name
  have h1:(own++kn)[i]? =some x:=h1;have h2:(dg own kp σ)[i]? =some (some v):=h2;unfold dg at h2;by_cases hi:i < own.length
  .rw [List.getElem?_append_left (by simpa using hi),List.getElem?_replicate] at h2
   split at h2 <;> cases h2
  .rw [List.getElem?_append_right (by simpa using hi),List.length_replicate,List.getElem?_map] at h2
   rw[List.getElem?_append_right (by simpa using hi)] at h1
   cases e:kp[i - own.length]? with
   | none=>rw [e] at h2;cases h2
   | some j=>
     rw[e] at h2;have h2:(σ[j]?).getD none=some v:=Option.some.inj h2;have hj:X.N[j]? =some x:=C.at_ _ j x e h1;have JP:σ[j]? =some (some v):=by
      cases q:σ[j]? with
      | none=>rw [q] at h2;cases h2
      | some y=>rw [q] at h2;exact congrArg some h2
     have hfree:scope.names.lookup x=some .free:=C.isfree x (List.mem_of_getElem? h1);have hkind:=C.free (x, .free) (PySem.mem_of_lookup hfree) rfl;obtain⟨m,hm,hl⟩:=I.loc;obtain⟨u,r,l⟩:=hl j x v hj JP (hkind.elim (fun q=>Or.inr (Or.inl q)) fun q=>Or.inr (Or.inr q))
     refine⟨u,r, .inr ⟨?_,?_⟩⟩
     .have h3:(relabel scope X.env).names.lookup x=some .local\/(relabel scope X.env).names.lookup x=some .cell\/(relabel scope X.env).names.lookup x=some .free:=h3;rcases h3 with q | q | q
      .rcases eD q with z | ⟨z,_⟩
       .rw [hfree] at z;cases z
       .cases z
      .exact .inl q
      .exact .inr q
     .rcases l with⟨k,_⟩ | ⟨_,c,hc,hcell⟩
      .rcases hkind with q | q
       .rw [show X.env.kindOf x=some .cell from q] at k;cases k
       .rw [show X.env.kindOf x=some .free from q] at k;cases k
      .obtain⟨c',Dk⟩:=clh x hfree;have:=cl x c' Dk;rw[hc] at this;cases this;obtain⟨o,ho,hd⟩:=hcell;exact⟨c,(wL _ _ _ fun z=>by have:=C.cel _ z rfl;rw [hfree] at this;cases this).trans Dk,o,hk c o ho,hd⟩
 .rcases clA x c e with a | a
  .exact⟨_,(hC.empty x c a).1⟩
  obtain⟨v,o,ho,hd⟩:=I.cell x c (cl x c a);exact⟨v,o,hk c o ho,hd⟩
 .show(dg own kp σ).length=(own++kn).length;unfold dg;rw[List.length_append,List.length_replicate,List.length_map,List.length_append,C.names]
theorem tE{pins:Aaa}{s s':Shared}{fp:List Addr}{N':List Str}(I:Inv X pins σ H s)(hf:∀b∈fp,rh X pins H b)(J:Inv (bF X scope N' fp s H) [] cN H' s'):Inv X pins σ H' s':=
 I.Nr (ch:=fp) J.os J.base J.hok J.bare fun b hb=>⟨(hf b hb).2.2.2.1,(hf b hb).2.1,(hf b hb).2.2.2.2.1,(hf b hb).2.2.2.2.2⟩
end
def qc(X:Cx)(ifs:List Expr)(t:TT):Prop:=
 ∀(pins:Aaa) (s:Shared) (σ:St) (H:Hp) (Q:Bool->Hp->Prop),Inv X pins σ H s->t σ H Q->
  wpAny (model X.prog X.w) X.A (forIn ifs true fun c r=>if r=true then do let ok <-isTrue c X.env (eval c X.env);pure (ForInStep.yield ok) else pure (ForInStep.yield r)) (TP X pins σ Q) X.xe s
def QI:TT:=fun _ H Q=>Q true H
theorem xH{X:Cx}:qc X [] QI:=fun _ _ _ H _ I h=>wpAny_tests_nil ⟨H,I,h⟩
theorem yC{X:Cx}{t:TT}(h:PT X c t):qc X [c] t:=fun pins s σ H Q I hq=>wpAny_tests_one (h pins s σ H Q I hq)
def AA(wi:TI)(g:TG)(tc:TT)(te:TE)(own:List Str)(kp:List Nat):TE:=fun σ H Q=>wi σ H fun J H1=>∀D,H1 D=none->
 ∃W:Nat->Nat->List V->Hp->Prop,(∃m,W 0 m [] (upd H1 D (.lst [])))/\∀i m ys H,W i m ys H->
  (J.stop i H/\Q (.ref D) H)\/(J.go i H/\∀x H',J.yld i H x H'->g x (dg own kp σ) H' fun w6 H2=>tc w6 H2 fun c H3=>
    if c=true then te w6 H3 fun y H4=>H4 D=some (.lst ys)/\ys.length < sizeLine/\∃m',m' < m/\W (i+1) m' (ys++[y]) (upd H4 D (.lst (ys++[y])))
    else ∃m',m' < m/\W (i+1) m' ys H3)
section
variable {X:Cx} {scope:Scope} {own:List Str} {kp:List Nat} {kn:List Str} {tg iter elt:Expr} {ifs:List Expr} {wi:TI} {g:TG} {tc:TT} {te:TE} {pos:Pos}
theorem yI{pins:Aaa}{σ:St}{H:Hp}{s:Shared}{fp:List Addr}{it D:Addr}{tn:Nat->Heap->Prop}{J:It}{Q:VK}{iF:Heap}{tk:Nat}{R:Result->Shared->Prop}
 (hc:X.calm=true) (C:gp X scope own kp kn) (I:Inv X pins σ H s) (hf:∀b∈fp,rh X pins H b) (hb:∀b∈fp,b < s.heap.objs.size) (T:Turn X.prog X.w X.K tg J fp it tn)
 (hg:PG (bF X scope (own++kn) fp s H) tg g) (hi:qc (bF X scope (own++kn) fp s H) ifs tc) (he:PE (bF X scope (own++kn) fp s H) elt te)
 (hn:iF.Ns s.heap.objs.size (fun _=>none)) (hk:∀b o,s.heap.get? b=some o->iF.get? b=some o) (hC:CellsOk iF (s.heap.objs.size+1) (cellsFrom (s.heap.objs.size+1) scope.names [])) (st:tn 0 s.heap)
 (W:Nat->Nat->List V->Hp->Prop) (w0:∃m,W 0 m [] H)
 (turn:∀i m ys H,W i m ys H->
   (J.stop i H/\Q (.ref D) H)\/(J.go i H/\∀x H',J.yld i H x H'->g x (dg own kp σ) H' fun w6 H2=>tc w6 H2 fun c H3=>
     if c=true then te w6 H3 fun y H4=>H4 D=some (.lst ys)/\ys.length < sizeLine/\∃m',m' < m/\W (i+1) m' (ys++[y]) (upd H4 D (.lst (ys++[y])))
     else ∃m',m' < m/\W (i+1) m' ys H3))
 (hR:∀H' s' cN,Inv (bF X scope (own++kn) fp s H) [] cN H' s'->Q (.ref D) H'->R (.ok .next) s') :
 codeAny (model X.prog X.w) X.A (.compStart (.ListComp elt [⟨tg,iter,ifs,0⟩] scope pos) 0 (.ref it) (.ref D) (bF X scope (own++kn) fp s H).env) R {s with heap:=iF,toks:=tk}:=by
 have I1:Inv (bF X scope (own++kn) fp s H) [] (dg own kp σ) H {s with heap:=iF,toks:=tk}:=F9 C I hf hb hn hk hC
 have Vs:tn 0 iF:=T.keep _ _ _ st fun b _ o e=>hk b o e
 have fp1:∀{H':Hp} {p:Aaa},(∀b∈fp,H' b=none)->(∀b∈fp,∀q∈p,q.1≠b)->∀b∈fp,rh (bF X scope (own++kn) fp s H) p H' b:=fun {H' p} hn hp b sf=>
  ⟨hn b sf,(I1.ok.exf b sf).1,I1.ok.exfs b sf, .inl sf,fun x c e=>(I1.ok.exf b sf).2 x c e,fun q hq=>hp b sf q hq⟩
 obtain⟨m0,w0⟩:=w0;have loop:codeAny (model X.prog X.w) X.A (.compLoop (.ListComp elt [⟨tg,iter,ifs,0⟩] scope pos) 0 (.ref it) (.ref D) (bF X scope (own++kn) fp s H).env) R {s with heap:=iF,toks:=tk}:=by
  refine codeAny_loop rfl (fun n s'=>∃i ys H',Inv (bF X scope (own++kn) fp s H) [] (dg own kp σ) H' s'/\tn i s'.heap/\(∀b∈fp,H' b=none)/\W i n ys H') (fun n s' hI=>?_) m0 ⟨0,[],H,I1,Vs,fun b sf=>(hf b sf).1,w0⟩
  obtain⟨i,ys,H3,I3,JO,Pk,w3⟩:=hI;show wpAny _ _ ((compTurn (.ListComp elt [⟨tg,iter,ifs,0⟩] scope pos) 0 (.ref it) (.ref D) (bF X scope (own++kn) fp s H).env).onRaise (fun x=>do noteFrame x (bF X scope (own++kn) fp s H).env;theTreesLotGoes x)) _ _ s'
  refine wpAny_noted (wpAny_noRaise ?_);rw[compTurn_list];refine wpAny_bind (wpAny_standAt (wpAny_bind ?_));rcases turn i n ys H3 w3 with⟨stop,q⟩ | ⟨go,step⟩
  .refine c6 (T.done (bF X scope (own++kn) fp s H) rfl rfl rfl hc i [] s' _ H3 _ I3 (fp1 Pk (fun _ _ q hq=>by cases hq)) JO stop) fun r s4 ⟨hr,I4⟩=>?_
   subst hr;exact wpAny_pure (hR H3 s4 _ I4 q)
  .refine c6 (T.item (bF X scope (own++kn) fp s H) rfl rfl rfl hc i [] s' _ H3 _ I3 (fp1 Pk (fun _ _ q hq=>by cases hq)) JO go) fun r s4 ⟨u,hr,h4⟩=>?_
   subst hr;refine wpAny_bind (c6 h4 fun _ s5 ⟨x,H5,I5,r5,y5,MZ,Ta⟩=>?_)
   have I5':=I5.pinned (fp1 Ta (fun _ _ q hq=>by cases hq)) (T.obj _ _ MZ)
   have keepIt:∀{yR:St} {H7:Hp} {s7:Shared},Inv (bF X scope (own++kn) fp s H) ([]++og fp s5.heap) yR H7 s7->tn (i+1) s7.heap/\∀b∈fp,H7 b=none:=fun {yR H7 s7} I7=>by
    refine⟨T.keep _ _ _ MZ fun b hb o e=>(I7.pin (b,o) (List.mem_append_right _ (List.mem_append_right _ (lj hb e)))).1,fun b hb=>?_⟩
    obtain⟨o,e,d⟩:=T.obj _ _ MZ b hb;exact(I7.pin (b,o) (List.mem_append_right _ (List.mem_append_right _ (lj hb e)))).2.1
   have reset:∀{yR:St} {H7:Hp} {s7:Shared},Inv (bF X scope (own++kn) fp s H) ([]++og fp s5.heap) yR H7 s7->Inv (bF X scope (own++kn) fp s H) [] (dg own kp σ) H7 s7:=fun {yR H7 s7} I7=>by
    have I8:=I7.pO;have hun:Un (BE X.stack) fp H H7 s.heap s7.heap:=I8.base;have I9:Inv X pins σ H7 s7:=tE I hf I8;refine⟨I8.ok,I8.os,I8.bare,I8.base,?_,I8.cell,I8.free,I8.freeC,I8.pin,I8.hok,I1.len⟩;obtain⟨m,hm,_⟩:=I8.loc;refine⟨m,hm,fun i x v h1 h2 h3=>?_⟩
    obtain⟨m1,Y8,xl⟩:=I1.loc;obtain⟨u1,r1,l1⟩:=xl i x v h1 h2 h3;have h1:(own++kn)[i]? =some x:=h1;have h2:(dg own kp σ)[i]? =some (some v):=h2;unfold dg at h2;by_cases hi:i < own.length
    .rw [List.getElem?_append_left (by simpa using hi),List.getElem?_replicate] at h2
     split at h2 <;> cases h2
    .rw [List.getElem?_append_right (by simpa using hi),List.length_replicate,List.getElem?_map] at h2
     rw[List.getElem?_append_right (by simpa using hi)] at h1
     cases e:kp[i - own.length]? with
     | none=>rw [e] at h2;cases h2
     | some j=>
       rw[e] at h2;have h2:(σ[j]?).getD none=some v:=Option.some.inj h2;have hj:X.N[j]? =some x:=C.at_ _ j x e h1;have JP:σ[j]? =some (some v):=by
        cases q:σ[j]? with
        | none=>rw [q] at h2;cases h2
        | some y=>rw [q] at h2;exact congrArg some h2
       have hfree:scope.names.lookup x=some .free:=C.isfree x (List.mem_of_getElem? h1);have hkind:=C.free (x, .free) (PySem.mem_of_lookup hfree) rfl;obtain⟨m9,ZZ,Yd⟩:=I9.loc;obtain⟨u,r,l⟩:=Yd j x v hj JP (hkind.elim (fun q=>Or.inr (Or.inl q)) fun q=>Or.inr (Or.inr q))
       refine⟨u,r, .inr ?_⟩;rcases l1 with⟨k,k2⟩ | ⟨k,c,hc,hcell⟩
       .have k:(relabel scope X.env).names.lookup x=some .local:=k;rcases eD k with z | ⟨z,_⟩
        .rw [hfree] at z;cases z
        .cases z
       .refine⟨k,c,hc,?_⟩;rcases l with⟨k',_⟩ | ⟨_,c',Dk,MI⟩
        .rcases hkind with q | q
         .rw [show X.env.kindOf x=some .cell from q] at k';cases k'
         .rw [show X.env.kindOf x=some .free from q] at k';cases k'
        .have hcl:(nk X.env.cells scope.names []).lookup x=some c:=(wL _ _ _ fun z=>by have:=C.cel _ z rfl;rw [hfree] at this;cases this).symm.trans hc
         rcases jy scope.names [] hcl with q | ⟨q1,q2⟩
         .simp at q
         .rw [Dk] at q2;have q2:c=c':=q2;rw[q2];exact MI
   have hmm:=hg ([]++og fp s5.heap) s5 (dg own kp σ) H5 x u _ I5' r5 (step x H5 y5);refine wpAny_bind (c6 hmm fun _ s6 ⟨Pd,H6,I6,q6⟩=>?_)
   refine wpAny_bind (c6 (hi _ s6 Pd H6 _ I6 q6) fun ok s7 ⟨H7,I7,q7⟩=>?_)
   cases ok with
   | false=>
     simp only[Bool.false_eq_true,if_false] at q7 ⊢;obtain⟨m',MU,w7⟩:=q7;obtain⟨a1,a2⟩:=keepIt I7;exact wpAny_pure ⟨rfl,m',MU,i+1,ys,H7,reset I7,a1,a2,w7⟩
   | true=>
     simp only[if_true] at q7 ⊢;refine wpAny_bind (wpAny_bind (c6 (he _ s7 Pd H7 _ I7 q7) fun yv s8 ⟨y,H8,I8,r8,hD,hlt,m',MU,w8⟩=>wpAny_bind ?_))
     obtain⟨a1,a2⟩:=keepIt I8;refine c6 (qr _ s8 Pd H8 (.ref D) [y] (.ref D) [yv] (fun v H9=>v= .cR/\H9=upd H8 D (.lst (ys++[y]))) I8 rfl (.cons r8 .nil) ⟨D,ys,y,rfl,rfl,hD,hlt,rfl,rfl⟩) fun _ s9 ⟨v9,H9,I9,_,_,e9⟩=>?_
     subst e9;obtain⟨b1,b2⟩:=keepIt I9;exact wpAny_pure (wpAny_pure ⟨rfl,m',MU,i+1,ys++[y],_,reset I9,b1,b2,w8⟩)
 exact codeAny_compStart_list loop (T.self _ _ _ _ _ Vs loop)
theorem A9(hc:X.calm=true)(C:gp X scope own kp kn)(hi:PI X tg iter wi)(hg:∀fp s H,PG (bF X scope (own++kn) fp s H) tg g)(GW:∀fp s H,qc (bF X scope (own++kn) fp s H) ifs tc)
 (he:∀fp s H,PE (bF X scope (own++kn) fp s H) elt te) (hs:∀x,foldedSetIterable iter X.env x=pure x:=by intro _;rfl):PE X (.ListComp elt [⟨tg,iter,ifs,0⟩] scope pos) (AA wi g tc te own kp):=by
 intro pins s σ H Q I h;rw[eval_ListComp];refine wpAny_comprehension_free (use:=none) rfl hs (lR (oF C I)) C.kind C.nd (c6 (hi pins s σ H _ I h) fun v s1 h1=>c6 h1 fun Qo s2 h2=>?_)
 obtain⟨it,fp,tn,J,H2,e,I2,T,Hf,f2,q⟩:=h2;subst e;refine wpAny_newObj_type ?_;have I3:Inv X pins σ (upd H2 s2.heap.objs.size (.lst [])) {s2 with heap:=s2.heap.push {cls:= .type "list",dict:=none,data:= .seq ([]:List Value).toArray}}:=I2.Hn (its:=[]) (t':=s2.toks) .nil (Nat.zero_le _)
 obtain⟨W,w0,turn⟩:=q s2.heap.objs.size I2.fresh;have fne:∀b∈fp,b < s2.heap.objs.size:=fun b hb=>let⟨o,e,_⟩:=T.obj _ _ Hf b hb;Heap.lt_size e
 have f3:∀b∈fp,rh X pins (upd H2 s2.heap.objs.size (.lst [])) b:=fun b hb=>⟨by rw[bg (Nat.ne_of_lt (fne b hb))];exact(f2 b hb).1,(f2 b hb).2⟩
 generalize hs3:({s2 with heap:=s2.heap.push {cls:= .type "list",dict:=none,data:= .seq ([]:List Value).toArray}}:Shared)=s3 at I3 ⊢
 have JO:tn 0 s3.heap:=by rw[<-hs3];exact T.keep _ _ _ Hf fun b _ o e=>Heap.get?_push_of_some _ e
 have fne3:∀b∈fp,b < s3.heap.objs.size:=fun b hb=>by rw[<-hs3];exact Nat.lt_of_lt_of_le (fne b hb) (by rw[Heap.size_push];exact Nat.le_succ _)
 refine vn fun iF An hk hC=>?_
 refine yI (D:=s2.heap.objs.size) hc C I3 f3 fne3 T (hg fp s3 _) (GW fp s3 _) (he fp s3 _) An hk hC JO W w0 turn fun H' s' cN J' hq=>?_
 have B:=tE I3 f3 J';obtain⟨m',MU,_⟩:=J'.loc;refine⟨m',MU,fun h' sb=>⟨.ref s2.heap.objs.size,H',?_,rfl,hq⟩⟩
 have fC:=I3.uD (H':=H') (b:=s3.heap.objs.size) (Nat.le_refl _) J'.free;exact B.turned (it:=s3.heap.objs.size) (t':=s'.toks) (fun b o hb e=>(sb.2 b hb).trans e) fC.1 fC.2.1 fC.2.2.2.1 fC.2.2.2.2.1 fC.2.2.2.2.2
theorem zh{i:Nat}{x:Str}{pos' rH:Pos}(hc:X.calm=true)(hN:X.N.Nodup)(hx:X.N[i]? =some x)(Qk:X.env.scope.names.lookup x=some .local)(C:gp X scope own kp kn)(hi:PI X tg iter wi)
 (hg:∀fp s H,PG (bF X scope (own++kn) fp s H) tg g) (GW:∀fp s H,qc (bF X scope (own++kn) fp s H) ifs tc)
 (he:∀fp s H,PE (bF X scope (own++kn) fp s H) elt te)
 (JK:swapsWith (.ListComp elt [⟨tg,iter,ifs,0⟩] scope pos) (some (.Name x pos')) rH.line X.env=pure true:=by rfl)
 (hs:∀x,foldedSetIterable iter X.env x=pure x:=by intro _;rfl) :
 PS X (.Assign [.Name x pos'] (.ListComp elt [⟨tg,iter,ifs,0⟩] scope pos) rH) (Dc (AA wi g tc te own kp) (sI i)):=by
 intro pins s σ H D I h;rw[exec_Assign_Name_used _ _ _ _ JK];refine wpAny_bind (wpAny_standAt (wpAny_bind ?_));show wpAny _ X.A (do let _ <-comprehension (.ListComp elt [⟨tg,iter,ifs,0⟩] scope pos) scope X.env _ (newList []) false (eval iter X.env) (some (assign (.Name x pos') X.env))) _ _ s
 refine wpAny_bind (wpAny_mono (wpAny_comprehension_free (use:=some (assign (.Name x pos') X.env)) (Q:=fun _ s'=>SP X pins D .next s') rfl hs (lR (oF C I)) C.kind C.nd
  (c6 (hi pins s σ H _ I h) fun v s1 h1=>c6 h1 fun Qo s2 h2=>?_)) (fun _ s' hq=>wpAny_pure (wpAny_pure hq)) fun _ _ e=>e)
 obtain⟨it,fp,tn,J,H2,e,I2,T,Hf,f2,q⟩:=h2;subst e;refine wpAny_newObj_type ?_;have I3:Inv X pins σ (upd H2 s2.heap.objs.size (.lst [])) {s2 with heap:=s2.heap.push {cls:= .type "list",dict:=none,data:= .seq ([]:List Value).toArray}}:=I2.Hn (its:=[]) (t':=s2.toks) .nil (Nat.zero_le _)
 obtain⟨W,w0,turn⟩:=q s2.heap.objs.size I2.fresh;have fne:∀b∈fp,b < s2.heap.objs.size:=fun b hb=>let⟨o,e,_⟩:=T.obj _ _ Hf b hb;Heap.lt_size e
 have f3:∀b∈fp,rh X pins (upd H2 s2.heap.objs.size (.lst [])) b:=fun b hb=>⟨by rw[bg (Nat.ne_of_lt (fne b hb))];exact(f2 b hb).1,(f2 b hb).2⟩
 generalize hs3:({s2 with heap:=s2.heap.push {cls:= .type "list",dict:=none,data:= .seq ([]:List Value).toArray}}:Shared)=s3 at I3 ⊢
 have JO:tn 0 s3.heap:=by rw[<-hs3];exact T.keep _ _ _ Hf fun b _ o e=>Heap.get?_push_of_some _ e
 have fne3:∀b∈fp,b < s3.heap.objs.size:=fun b hb=>by rw[<-hs3];exact Nat.lt_of_lt_of_le (fne b hb) (by rw[Heap.size_push];exact Nat.le_succ _)
 refine vn fun iF An hk hC=>?_
 refine yI (Q:=fun x H1=>sI i x σ H1 D.nx) (D:=s2.heap.objs.size) hc C I3 f3 fne3 T (hg fp s3 _) (GW fp s3 _) (he fp s3 _) An hk hC JO W w0 turn fun H' s' cN J' hq=>?_
 have B:=tE I3 f3 J';obtain⟨m',MU,_⟩:=J'.loc;have fC:=I3.uD (H':=H') (b:=s3.heap.objs.size) (Nat.le_refl _) J'.free;show wpAny _ X.A (assign (.Name x pos') X.env (.ref s2.heap.objs.size)) _ _ s';refine wpAny_assign_Name (ve B hN hx (.inl Qk) (v:= .ref s2.heap.objs.size) rfl (fun s4 I4 ⟨a,sb,ha⟩=>?_) (.inr Qk))
 have ha':s3.heap.objs.size≠a:=by
  rcases ha with rfl | z
  .exact fC.2.1
  .exact fun e=>fC.2.2.2.2.1 x a z e.symm
 refine⟨m',MU.sameBut sb ha',fun h' XT=>⟨_,H',?_,hq⟩⟩
 exact I4.turned (it:=s3.heap.objs.size) (t':=s4.toks) (fun b o hb e=>(XT.2 b hb).trans e) fC.1 fC.2.1 fC.2.2.2.1 fC.2.2.2.2.1 fC.2.2.2.2.2
end
end L2
end
section
namespace L2
open PySem PySem.Spec PyProof.Rows
inductive D where
 | cR | bl (b:Bool) | int (i:Int) | str (x:Str) | lst (ds:List D) | tup (ds:List D) | dct (ks:List Key) (ds:List D)
inductive R (α:Type) where
 | ok (a:α) | ex (c:Nat) | no
def R.bind{α β:Type}:R α->(α->R β)->R β
 | .ok a,f=>f a
 | .ex c,_=> .ex c
 | .no,_=> .no
theorem R.ai{α β:Type}{r:R α}{f:α->R β}{b:β}(h:r.bind f= .ok b):∃a,r= .ok a/\f a= .ok b:=by
 cases r with
 | ok a=>exact⟨a,rfl,h⟩
 | ex c=>cases h
 | no=>cases h
@[simp] theorem R.aH{α β:Type}(a:α)(f:α->R β):(R.ok a).bind f=f a:=rfl
def R.bh{α:Type}(c:Bool)(r:R α):R α:=if c then r else .no
theorem R.bf{α:Type}{c:Bool}{r:R α}{a:α}(h:R.bh c r= .ok a):c=true/\r= .ok a:=by
 cases c with
 | true=>exact⟨rfl,h⟩
 | false=>cases h
@[simp] theorem R.M7{α:Type}(r:R α):R.bh true r=r:=rfl
def uh(K:W.Frag)(B:List Addr)(H:Hp)(a:Addr)(xs:List V):Prop:=
 (a ∉ B/\Rd H a (.lst xs))\/∃(its:List Value) (n:Nat),K.lookup a=some {cls:= .type "list",data:= .seq its.toArray n}/\xs.length<=sizeLine/\Vals xs its
def uZ(K:W.Frag)(B:List Addr)(H:Hp)(a:Addr)(xs:List V):Prop:=
 (a ∉ B/\Rd H a (.tup xs))\/∃(o:Obj) (its:Array Value) (n:Nat),K.lookup a=some o/\o.cls= .type "tuple"/\o.data= .seq its n/\its.size<=sizeLine/\Vals xs its.toList
theorem uh.sq{K:W.Frag}{B:List Addr}{a:Addr}{xs:List V}(h:uh K B H a xs):oR K H a xs:=by
 rcases h with z | ⟨its,n,hk,hz,r⟩
 .exact .inl z.2
 .exact .inr ⟨_,its.toArray,n,hk,rfl,rfl,rfl,by rw[List.size_toArray,<-r.length];exact hz,by simpa using r⟩
theorem uZ.sq{K:W.Frag}{B:List Addr}{a:Addr}{xs:List V}(h:uZ K B H a xs):p8 K H a xs:=h.elim (fun z=> .inl z.2) .inr
mutual
def Rep(K:W.Frag)(B:List Addr)(H:Hp):D->V->Prop
 | .cR,v=>v= .cR
 | .bl b,v=>v= .bl b
 | .int i,v=>v= .int i
 | .str x,v=>v= .str x
 | .lst ds,v=>∃a xs,v= .ref a/\uh K B H a xs/\aF K B H ds xs
 | .tup ds,v=>∃a xs,v= .ref a/\uZ K B H a xs/\aF K B H ds xs
 | .dct ks ds,v=>∃(a:Addr) (aV:List (Key × V)),v= .ref a/\(a ∉ B/\H a=some (.dK aV))/\aV.map (·.1)=ks/\aF K B H ds (aV.map (·.2))
def aF(K:W.Frag)(B:List Addr)(H:Hp):List D->List V->Prop
 | [],xs=>xs=[]
 | d ::ds,xs=>∃x r,xs=x ::r/\Rep K B H d x/\aF K B H ds r
end
def dn(B:List Addr)(H:Hp)(B':List Addr)(H':Hp):Prop:=∀b o,H b=some o->b ∉ B->H' b=some o/\b ∉ B'
theorem dn.rd{B B':List Addr}(p:dn B H B' H'){a:Addr}{u:HO}(h:Rd H a u)(n:a ∉ B):Rd H' a u/\a ∉ B':=by
 rcases h with e | ⟨o,e⟩
 .exact⟨.inl (p a _ e n).1,(p a _ e n).2⟩
 .exact⟨.inr ⟨o,(p a _ e n).1⟩,(p a _ e n).2⟩
theorem dn.trans{B B' Pa:List Addr}(p:dn B H B' H')(q:dn B' H' Pa nB):dn B H Pa nB:=fun b o e n=>
 let⟨e1,n1⟩:=p b o e n;q b o e1 n1
theorem dn.same{B:List Addr}(s:aR H H'):dn B H B H':=fun b o e n=>⟨s b o e,n⟩
theorem dn.refl(B:List Addr)(H:Hp):dn B H B H:=dn.same (aR.refl H)
theorem uh.bj{K:W.Frag}{B B':List Addr}(p:dn B H B' H'){a:Addr}{xs:List V}(l:uh K B H a xs):uh K B' H' a xs:=
 l.elim (fun z=> .inl ⟨(p.rd z.2 z.1).2,(p.rd z.2 z.1).1⟩) .inr
mutual
theorem Rep.bj{K:W.Frag}{B B':List Addr}(p:dn B H B' H'):∀{d:D} {v:V},Rep K B H d v->Rep K B' H' d v
 | .cR,_,h=>h
 | .bl _,_,h=>h
 | .int _,_,h=>h
 | .str _,_,h=>h
 | .lst ds,v,h=>by
   unfold Rep at h ⊢;obtain⟨a,xs,e,l,r⟩:=h;exact⟨a,xs,e,l.bj p,aF.bj p r⟩
 | .tup ds,v,h=>by
   unfold Rep at h ⊢;obtain⟨a,xs,e,l,r⟩:=h;exact⟨a,xs,e,l.elim (fun z=> .inl ⟨(p.rd z.2 z.1).2,(p.rd z.2 z.1).1⟩) .inr,aF.bj p r⟩
 | .dct ks ds,v,h=>by
   unfold Rep at h ⊢;obtain⟨a,aV,e,⟨n,l⟩,k,r⟩:=h;exact⟨a,aV,e,⟨(p a _ l n).2,(p a _ l n).1⟩,k,aF.bj p r⟩
theorem aF.bj{K:W.Frag}{B B':List Addr}(p:dn B H B' H'):∀{ds:List D} {xs:List V},aF K B H ds xs->aF K B' H' ds xs
 | [],_,h=>h
 | d ::ds,xs,h=>by
   unfold aF at h ⊢;obtain⟨x,r,e,h1,h2⟩:=h;exact⟨x,r,e,Rep.bj p h1,aF.bj p h2⟩
end
theorem Rep.same{K:W.Frag}{B:List Addr}{d:D}{v:V}(h:Rep K B H d v)(s:aR H H'):Rep K B H' d v:=h.bj (dn.same s)
theorem aF.same{K:W.Frag}{B:List Addr}{d:List D}{v:List V}(h:aF K B H d v)(s:aR H H'):aF K B H' d v:=h.bj (dn.same s)
theorem aF.nil{K:W.Frag}{B:List Addr}:aF K B H [] []:=by unfold aF;rfl
theorem aF.cons{K:W.Frag}{B:List Addr}{d:D}{ds:List D}{x:V}{xs:List V}(h:Rep K B H d x)(t:aF K B H ds xs):aF K B H (d ::ds) (x ::xs):=by
 unfold aF;exact⟨x,xs,rfl,h,t⟩
theorem aF.cb{K:W.Frag}{B:List Addr}{d:D}{ds:List D}{xs:List V}(h:aF K B H (d ::ds) xs):∃x r,xs=x ::r/\Rep K B H d x/\aF K B H ds r:=by
 unfold aF at h;exact h
theorem aF.length{K:W.Frag}{B:List Addr}:∀{ds:List D} {xs:List V},aF K B H ds xs->ds.length=xs.length
 | [],_,h=>by unfold aF at h;rw [h];rfl
 | d ::ds,xs,h=>by
   obtain⟨x,r,rfl,_,h2⟩:=h.cb;simp [h2.length]
theorem aF.get{K:W.Frag}{B:List Addr}:∀{ds:List D} {xs:List V} {i:Nat} {d:D},aF K B H ds xs->ds[i]? =some d->∃x,xs[i]? =some x/\Rep K B H d x
 | [],_,_,_,_,e=>by simp at e
 | d ::ds,xs,0,d',h,e=>by
   obtain⟨x,r,rfl,h1,h2⟩:=h.cb;simp at e;subst e;exact⟨x,rfl,h1⟩
 | d ::ds,xs,i+1,d',h,e=>by
   obtain⟨x,r,rfl,h1,h2⟩:=h.cb;obtain⟨y,e1,e2⟩:=aF.get (i:=i) h2 (by simpa using e)
   exact⟨y,by simpa using e1,e2⟩
theorem aF.append{K:W.Frag}{B:List Addr}:∀{ds es:List D} {xs ys:List V},aF K B H ds xs->aF K B H es ys->aF K B H (ds++es) (xs++ys)
 | [],_,_,_,h,t=>by unfold aF at h;subst h;exact t
 | d ::ds,es,xs,ys,h,t=>by
   obtain⟨x,r,rfl,h1,h2⟩:=h.cb;exact aF.cons h1 (aF.append h2 t)
theorem aF.drop{K:W.Frag}{B:List Addr}:∀{ds:List D} {xs:List V} (n:Nat),aF K B H ds xs->aF K B H (ds.drop n) (xs.drop n)
 | _,_,0,h=>h
 | [],_,n+1,h=>by unfold aF at h;subst h;exact aF.nil
 | d ::ds,xs,n+1,h=>by
   obtain⟨x,r,rfl,h1,h2⟩:=h.cb;exact aF.drop n h2
theorem aF.take{K:W.Frag}{B:List Addr}:∀{ds:List D} {xs:List V} (n:Nat),aF K B H ds xs->aF K B H (ds.take n) (xs.take n)
 | _,_,0,h=>aF.nil
 | [],_,n+1,h=>by unfold aF at h;subst h;exact aF.nil
 | d ::ds,xs,n+1,h=>by
   obtain⟨x,r,rfl,h1,h2⟩:=h.cb;exact aF.cons h1 (aF.take n h2)
def D.atom:D->Bool
 | .cR=>true | .bl _=>true | .int _=>true | .str _=>true | _=>false
theorem Rep.atom{K:W.Frag}{B B':List Addr}{d:D}{v:V}(a:d.atom=true)(h:Rep K B H d v):Rep K B' H' d v:=by
 cases d <;> first | exact h | cases a
inductive Sl where
 | un | val (d:D) | bld (ds:List D)
abbrev au:=List Sl
structure dR (K:W.Frag) (Z B:List Addr) (H:Hp) (σ:St) (δ:au):Prop where
 len:δ.length=σ.length
 bs:∀a∈B,∃o,H a=some o
 zb:∀a∈Z,a∈B
 val:∀(i:Nat) (d:D),δ[i]? =some (.val d)->∃v,σ[i]? =some (some v)/\Rep K B H d v
 bld:∀(i:Nat) (ds:List D),δ[i]? =some (.bld ds)->∃a xs,σ[i]? =some (some (.ref a))/\a∈B/\a ∉ Z/\H a=some (.lst xs)/\aF K B H ds xs
 dis:∀(i j:Nat) (a:Addr) (ds es:List D),δ[i]? =some (.bld ds)->δ[j]? =some (.bld es)->σ[i]? =some (some (.ref a))->σ[j]? =some (some (.ref a))->i=j
theorem dR.same{K:W.Frag}{Z B:List Addr}{δ:au}(E:dR K Z B H σ δ)(s:aR H H'):dR K Z B H' σ δ where
 len:=E.len
 bs:=fun a ha=>let⟨o,e⟩:=E.bs a ha;⟨o,s a o e⟩
 zb:=E.zb
 val:=fun i d e=>let⟨v,h1,h2⟩:=E.val i d e;⟨v,h1,h2.same s⟩
 bld:=fun i ds e=>let⟨a,xs,h1,h2,h3,h4,h5⟩:=E.bld i ds e;⟨a,xs,h1,h2,h3,s a _ h4,h5.same s⟩
 dis:=E.dis
def OH(δ:au):au:=δ.map fun x=>match x with | .bld ds=> .val (.lst ds) | y=>y
theorem PE.imp{X:Cx}{t t':TE}(h:PE X e t)(w:∀σ H Q,t' σ H Q->t σ H Q):PE X e t':=fun pins s σ H Q I hq=>h pins s σ H Q I (w σ H Q hq)
theorem PT.imp{X:Cx}{t t':TT}(h:PT X e t)(w:∀σ H Q,t' σ H Q->t σ H Q):PT X e t':=fun pins s σ H Q I hq=>h pins s σ H Q I (w σ H Q hq)
theorem PA.imp{X:Cx}{t t':TA}(h:PA X e t)(w:∀σ H Q,t' σ H Q->t σ H Q):PA X e t':=fun pos pins s σ H Q I hq=>h pos pins s σ H Q I (w σ H Q hq)
theorem PS.imp{X:Cx}{t t':TS}(h:PS X e t)(w:∀D σ H,t' D σ H->t D σ H):PS X e t':=fun pins s σ H D I hq=>h pins s σ H D I (w D σ H hq)
theorem u7.imp{X:Cx}{t t':TS}(h:u7 X e t)(w:∀D σ H,t' D σ H->t D σ H):u7 X e t':=fun pins s σ H D I hq=>h pins s σ H D I (w D σ H hq)
theorem PG.imp{X:Cx}{t t':TG}(h:PG X e t)(w:∀v σ H Q,t' v σ H Q->t v σ H Q):PG X e t':=fun pins s σ H v u Q I r hq=>h pins s σ H v u Q I r (w v σ H Q hq)
theorem PI.imp{X:Cx}{t t':TI}(h:PI X tg e t)(w:∀σ H Q,t' σ H Q->t σ H Q):PI X tg e t':=fun pins s σ H Q I hq=>h pins s σ H Q I (w σ H Q hq)
abbrev FD:=au->R D
def tD(K:W.Frag)(f:FD):TE:=fun σ H Q=>∃Z B δ d,dR K Z B H σ δ/\f δ= .ok d/\∀v H',aR H H'->Rep K B H' d v->Q v H'
def tN(K:W.Frag)(f:au->R (List D)):TE:=fun σ H Q=>∃Z B δ ds,dR K Z B H σ δ/\f δ= .ok ds/\∀a xs H',aR H H'->H a=none->H' a=some (.lst xs)->aF K (a ::B) H' ds xs->Q (.ref a) H'
def Lq(K:W.Frag)(f:au->R Bool):TT:=fun σ H Q=>∃Z B δ b,dR K Z B H σ δ/\f δ= .ok b/\∀H',aR H H'->Q b H'
def UH(K:W.Frag)(f:au->R (List D)):TA:=fun σ H Q=>∃Z B δ ds,dR K Z B H σ δ/\f δ= .ok ds/\∀vs H',aR H H'->aF K B H' ds vs->Q vs H'
abbrev PD(X:Cx)(e:Expr)(f:FD):Prop:=PE X e (tD X.K f)
abbrev PN(X:Cx)(e:Expr)(f:au->R (List D)):Prop:=PE X e (tN X.K f)
abbrev PB(X:Cx)(e:Expr)(f:au->R Bool):Prop:=PT X e (Lq X.K f)
abbrev EA(X:Cx)(es:List Expr)(f:au->R (List D)):Prop:=PA X es (UH X.K f)
section
variable {X:Cx}
def eNew(f:au->R (List D)):FD:=fun δ=>(f δ).bind fun ds=> .ok (.lst ds)
theorem KC{f:au->R (List D)}(h:PN X e f):PD X e (eNew f):=h.imp fun σ H Q ⟨Z,B,δ,d,E,hf,q⟩=>by
 obtain⟨ds,h1,h2⟩:=R.ai hf;cases h2;refine⟨Z,B,δ,ds,E,h1,fun a xs H' s n e r=>q _ H' s ?_⟩
 unfold Rep;refine⟨a,xs,rfl, .inl ⟨fun ha=>?_, .inl e⟩,r.bj fun b o e nb=>⟨e,fun hb=>nb (List.mem_cons_of_mem _ hb)⟩⟩
 obtain⟨o,ho⟩:=E.bs a ha;rw[n] at ho;cases ho
theorem xX{B:List Addr}{H:Hp}{p:Addr}{o:HO}(h:H p=none):dn B H (p ::B) (upd H p o):=fun b u e nb=>
 ⟨by rw[bg (bW e h)];exact e,fun hb=>by
   rcases List.mem_cons.mp hb with z | z
   .exact bW e h z
   .exact nb z⟩
def UE(f:FD):FD:=fun δ=>(f (OH δ)).bind fun d=>R.bh d.atom (.ok d)
def UB(f:au->R Bool):au->R Bool:=fun δ=>f (OH δ)
def ag(i:Nat):FD:=fun δ=>match δ[i]? with | some (.val d)=> .ok d | _=> .no
def eC(d:D):FD:=fun _=> .ok d
theorem LK(i:Nat){x:Str}{pos:Pos}(hN:X.N[i]? =some x:=by rfl)(hv:Ka X.env.scope x:=by first | exact Or.inl rfl | exact Or.inr (Or.inl rfl) | exact Or.inr (Or.inr rfl))(hd:(x==("__debug__":Str))=false:=by decide)
 (uH:(x==("__classdict__":Str))=false:=by decide):PD X (.Name x pos) (ag i):=(wF hN hv hd uH).imp fun σ H Q ⟨Z,B,δ,d,E,hf,q⟩=>by
 unfold ag at hf;split at hf
 .rename_i d' e;cases hf;obtain⟨v,h1,h2⟩:=E.val i d e;exact⟨v,h1,q v H (aR.refl H) h2⟩
 .cases hf
theorem tR{v:V}{d:D}(h:PE X e (tC v))(r:∀B H,Rep X.K B H d v):PD X e (eC d):=h.imp fun σ H Q ⟨Z,B,δ,d',E,hf,q⟩=>by
 cases hf;exact q v H (aR.refl H) (r B H)
theorem KR{i j pos}:PD X (.Constant (.int i) j pos) (eC (.int i)):=tR tY fun _ _=>by unfold Rep;rfl
theorem Nw{b j pos}:PD X (.Constant (.bool b) j pos) (eC (.bl b)):=tR Of fun _ _=>by unfold Rep;rfl
theorem LV{x j pos}:PD X (.Constant (.str x) j pos) (eC (.str x)):=tR si fun _ _=>by unfold Rep;rfl
def Glob(K:W.Frag)(mg:Aaf)(x:Str)(d:D):Prop:=∃(u:Value) (v:V),mg x=some u/\RelV v u/\∀B H,Rep K B H d v
def aO:au->R (List D):=fun _=> .ok []
def ao(f:FD)(g:au->R (List D)):au->R (List D):=fun δ=>(f δ).bind fun d=>(g δ).bind fun ds=> .ok (d ::ds)
theorem HN:EA X [] aO:=ja.imp fun σ H Q ⟨Z,B,δ,d,E,hf,q⟩=>by
 cases hf;exact q [] H (aR.refl H) aF.nil
theorem Gg{g:au->R (List D)}(h:PD X e f)(t:EA X es g)(hs:starEach (e ::es) X.env=(false,eval e X.env) ::starEach es X.env:=by rfl):EA X (e ::es) (ao f g):=
 (fj h t hs).imp fun σ H Q ⟨Z,B,δ,d,E,hf,q⟩=>by
   obtain⟨d1,h1,h2⟩:=R.ai hf;obtain⟨ds,h3,h4⟩:=R.ai h2;cases h4;exact⟨Z,B,δ,d1,E,h1,fun v H1 s1 r1=>⟨Z,B,δ,ds,E.same s1,h3,fun vs H2 s2 r2=>q _ H2 (s1.trans s2) (aF.cons (r1.same s2) r2)⟩⟩
def eP(g:au->R (List D)):FD:=fun δ=>(g δ).bind fun ds=>R.bh (decide (ds.length<=sizeLine)) (.ok (.tup ds))
def fI(g:au->R (List D)):au->R (List D):=fun δ=>(g δ).bind fun ds=>R.bh (decide (ds.length<=sizeLine)) (.ok ds)
theorem aN{H:Hp}{p:Addr}{o:HO}(h:H p=none):aR H (upd H p o):=fun b u e=>by rw[bg (bW e h)];exact e
theorem LY{g:au->R (List D)}{x1 pos}(h:EA X es g):PD X (.Tuple es x1 pos) (eP g):=(EN h).imp fun σ H Q ⟨Z,B,δ,d,E,hf,q⟩=>by
 obtain⟨ds,h1,h2⟩:=R.ai hf;obtain⟨hl,h3⟩:=R.bf h2;cases h3;refine⟨Z,B,δ,ds,E,h1,fun vs H1 s1 r1=>⟨by rw[<-r1.length];exact of_decide_eq_true hl,fun p hp=>q _ _ (s1.trans (aN hp)) ?_⟩⟩
 unfold Rep;refine⟨p,vs,rfl, .inl ⟨fun ha=>?_, .inl aT⟩,r1.same (aN hp)⟩
 obtain⟨o,ho⟩:=(E.same s1).bs p ha;rw[hp] at ho;cases ho
theorem Mq{g:au->R (List D)}{pos}(h:EA X es g):PN X (.List es pos) (fI g):=(DL h).imp fun σ H Q ⟨Z,B,δ,d,E,hf,q⟩=>by
 obtain⟨ds,h1,h2⟩:=R.ai hf;obtain⟨hl,h3⟩:=R.bf h2;cases h3;exact⟨Z,B,δ,_,E,h1,fun vs H1 s1 r1=>⟨by rw[<-r1.length];exact of_decide_eq_true hl,fun p hp=>q p vs _ (s1.trans (aN hp)) (s1.free hp) aT (r1.bj (xX hp))⟩⟩
def jE(X:Cx)(f:Value->Value->Sem Value)(g:D->D->R D):Prop:=
 ∀(pins:Aaa) (s:Shared) (σ:St) (H:Hp) (B:List Addr) (da db d:D) (x y:V) (v u:Value),Inv X pins σ H s->(∀a∈B,∃o,H a=some o)->RelV x v->RelV y u->Rep X.K B H da x->Rep X.K B H db y->g da db= .ok d->
  wpAny (model X.prog X.w) X.A (f v u) (EP X pins σ fun z H'=>aR H H'/\Rep X.K B H' d z) X.xe s
def e2(g:D->D->R D)(fa fb:FD):FD:=fun δ=>(fa δ).bind fun a=>(fb δ).bind fun b=>g a b
theorem jE.r{f:Value->Value->Sem Value}{g:D->D->R D}(h:jE X f g):l9 X f (fun x y H Q=>∃B da db d,(∀a∈B,∃o,H a=some o)/\Rep X.K B H da x/\Rep X.K B H db y/\g da db= .ok d/\∀z H',aR H H'->Rep X.K B H' d z->Q z H'):=by
 intro pins s σ H x y v u Q I rx ry ⟨B,da,db,d,hb,ha,sf,hg,q⟩;exact c6 (h pins s σ H B da db d x y v u I hb rx ry ha sf hg) fun z s' ⟨zv,H',I',r',s1,r1⟩=>⟨zv,H',I',r',q zv H' s1 r1⟩
theorem L6{K:W.Frag}{g:D->D->R D}{Q:VK}(h:tD K (e2 g fa fb) σ H Q) :
 Nf (fun x y H Q=>∃B da db d,(∀a∈B,∃o,H a=some o)/\Rep K B H da x/\Rep K B H db y/\g da db= .ok d/\∀z H',aR H H'->Rep K B H' d z->Q z H') (tD K fa) (tD K fb) σ H Q:=by
 obtain⟨Z,B,δ,d,E,hf,q⟩:=h;obtain⟨d1,h1,h2⟩:=R.ai hf;obtain⟨d2,h3,h4⟩:=R.ai h2;exact⟨Z,B,δ,d1,E,h1,fun v1 H1 s1 r1=>⟨Z,B,δ,d2,E.same s1,h3,fun v2 H2 s2 r2=>⟨B,d1,d2,d,(E.same (s1.trans s2)).bs,r1.same s2,r2,h4,fun z H' s3 r3=>q z H' (s1.trans (s2.trans s3)) r3⟩⟩⟩
theorem N8{op:Operator}{g:D->D->R D}(ho:jE X (binaryOp op) g)(ha:PD X a fa)(hb:PD X b fb):PD X (.BinOp a op b pos) (e2 g fa fb):=
 (Br ho.r ha hb).imp fun σ H Q h=>L6 h
theorem Mw{op:CmpOp}{g:D->D->R D}(ho:jE X (compareOp op) g)(ha:PD X a fa)(hb:PD X b fb)(hm:behindInMarks op b=false):PD X (.Compare a [op] [b] pos) (e2 g fa fb):=
 (Bw ho.r ha hb hm).imp fun σ H Q h=>L6 h
def b2(g:D->D->R D)(fa fb:FD):au->R Bool:=fun δ=>(e2 g fa fb δ).bind fun d=>match d with | .bl b=> .ok b | _=> .no
theorem Mi{op:CmpOp}{g:D->D->R D}(ho:jE X (compareOp op) g)(ha:PD X a fa)(hb:PD X b fb)(hm:behindInMarks op b=false):PB X (.Compare a [op] [b] pos) (b2 g fa fb):=
 (AO ho.r ha hb hm).imp fun σ H Q ⟨Z,B,δ,b,E,hf,q⟩=>by
   obtain⟨d,h1,h2⟩:=R.ai hf;cases d with
   | bl k=>
     cases h2;exact L6 (g:=g) (Q:=fun x H'=>∃k,x= .bl k/\Q k H') ⟨Z,B,δ, .bl b,E,h1,fun v H' s r=>⟨b,by unfold Rep at r;exact r,q H' s⟩⟩
   | _=>cases h2
def tI(g g':D->D->R D)(fa fb fc:FD):FD:=fun δ=>(fa δ).bind fun a=>(fb δ).bind fun b=>(g a b).bind fun r=>match r with
 | .bl true=>(fc δ).bind fun c=>g' b c
 | .bl false=> .ok (.bl false)
 | _=> .no
theorem HG{K:W.Frag}{g g':D->D->R D}{Q:VK}(h:tD K (tI g g' fa fb fc) σ H Q) :
 Et (fun x y H Q=>∃B da db d,(∀a∈B,∃o,H a=some o)/\Rep K B H da x/\Rep K B H db y/\g da db= .ok d/\∀z H',aR H H'->Rep K B H' d z->Q z H')
  (fun x y H Q=>∃B da db d,(∀a∈B,∃o,H a=some o)/\Rep K B H da x/\Rep K B H db y/\g' da db= .ok d/\∀z H',aR H H'->Rep K B H' d z->Q z H') (tD K fa) (tD K fb) (tD K fc) σ H Q:=by
 obtain⟨Z,B,δ,d,E,hf,q⟩:=h;obtain⟨d1,h1,h2⟩:=R.ai hf;obtain⟨d2,h3,h4⟩:=R.ai h2;obtain⟨d3,h5,h6⟩:=R.ai h4;refine⟨Z,B,δ,d1,E,h1,fun v1 H1 s1 r1=>⟨Z,B,δ,d2,E.same s1,h3,fun v2 H2 s2 r2=>⟨B,d1,d2,d3,(E.same (s1.trans s2)).bs,r1.same s2,r2,h5,fun z H3 s3 r3=>?_⟩⟩⟩
 cases d3 with
 | bl k=>
   refine⟨k,by unfold Rep at r3;exact r3,?_⟩
   cases k with
   | true=>
     rw[if_pos rfl];obtain⟨d4,h7,h8⟩:=R.ai h6;exact⟨Z,B,δ,d4,E.same (s1.trans (s2.trans s3)),h7,fun v4 H4 s4 r4=>⟨B,d2,d4,d,(E.same (s1.trans (s2.trans (s3.trans s4)))).bs,r2.same (s3.trans s4),r4,h8,fun z H' s5 r5=>q z H' (s1.trans (s2.trans (s3.trans (s4.trans s5)))) r5⟩⟩
   | false=>
     rw[if_neg (by decide)]
     cases h6;exact q _ H3 (s1.trans (s2.trans s3)) (by unfold Rep;rfl)
 | _=>cases h6
theorem F6{op Aq:CmpOp}{g g':D->D->R D}{a b c:Expr}{fa fb fc:FD}{pos:Pos}(ho:jE X (compareOp op) g)(vC:jE X (compareOp Aq) g')(ha:PD X a fa)(hb:PD X b fb)(hc:PD X c fc)
 (hm:lastMarks [op,Aq] [b,c]=false:=by with_unfolding_all rfl):PB X (.Compare a [op,Aq] [b,c] pos) (fun δ=>(tI g g' fa fb fc δ).bind fun d=>match d with | .bl b=> .ok b | _=> .no):=
 (DT ho.r vC.r ha hb hc hm).imp fun σ H Q ⟨Z,B,δ,b,E,hf,q⟩=>by
   obtain⟨d,h1,h2⟩:=R.ai hf;cases d with
   | bl k=>
     cases h2;exact HG (g:=g) (g':=g') (Q:=fun x H'=>∃k,x= .bl k/\Q k H') ⟨Z,B,δ, .bl b,E,h1,fun v H' s r=>⟨b,by unfold Rep at r;exact r,q H' s⟩⟩
   | _=>cases h2
def I_:D->R Bool
 | .cR=> .ok false
 | .bl b=> .ok b
 | .int i=> .ok (i !=0)
 | .str x=>R.bh (decide (x.length<=sizeLine)) (.ok ((x.length:Int) !=0))
 | .lst ds=> .ok (!ds.isEmpty)
 | .tup ds=> .ok (!ds.isEmpty)
 | .dct _ _=> .no
def uw(f:FD):au->R Bool:=fun δ=>(f δ).bind I_
theorem aF.isEmpty{K:W.Frag}{B:List Addr}{ds:List D}{xs:List V}(h:aF K B H ds xs):ds.isEmpty=xs.isEmpty:=by
 have:=h.length;cases ds <;> cases xs <;> simp_all
theorem Gk{K:W.Frag}{B:List Addr}{d:D}{v:V}{b:Bool}(r:Rep K B H d v)(h:I_ d= .ok b):HF K v H b:=by
 cases d with
 | cR=>unfold Rep at r;subst r;cases h;exact rfl
 | bl k=>unfold Rep at r;subst r;cases h;exact rfl
 | int i=>unfold Rep at r;subst r;cases h;exact rfl
 | str x=>unfold Rep at r;subst r;obtain⟨h1,h2⟩:=R.bf h;cases h2;exact⟨of_decide_eq_true h1,rfl⟩
 | lst ds=>unfold Rep at r;obtain⟨a,xs,rfl,l,r⟩:=r;cases h;exact .inl ⟨xs,l.sq,by rw[r.isEmpty]⟩
 | tup ds=>unfold Rep at r;obtain⟨a,xs,rfl,l,r⟩:=r;cases h;exact .inr (.inl ⟨xs,l.sq,by rw[r.isEmpty]⟩)
 | dct _ _=>cases h
theorem Lw{a:Expr}(ha:PD X a f)(he:∀whole,isTrue a X.env whole=(do let v <-whole;standAt a.pos;holding [v] (truthy v)):=by intro _;rfl):PB X a (uw f):=
 (yj ha he).imp fun σ H Q ⟨Z,B,δ,b,E,hf,q⟩=>by
   obtain⟨d,h1,h2⟩:=R.ai hf;exact⟨Z,B,δ,d,E,h1,fun v H' s r=>⟨b,Gk r h2,q H' s⟩⟩
def sW(f g:au->R Bool):au->R Bool:=fun δ=>(f δ).bind fun b=>if b then g δ else .ok false
def CK(f g:au->R Bool):au->R Bool:=fun δ=>(f δ).bind fun b=>if b then .ok true else g δ
def ur(f:au->R Bool):au->R Bool:=fun δ=>(f δ).bind fun b=> .ok (!b)
def G6(X:Cx)(e:Expr)(f:au->R Bool):Prop:=PW X e (Lq X.K f)
theorem G6.pb{f:au->R Bool}(h:G6 X e f):PB X e f:=PW.pt h
theorem Fp{f:au->R Bool}(h:PB X a f):G6 X (.BoolOp .And [a] pos) f:=AW h
theorem JF{f:au->R Bool}(h:PB X a f):G6 X (.BoolOp .Or [a] pos) f:=FC h
theorem Jk{rest:List Expr}{f g:au->R Bool}(ha:PB X a f)(hb:G6 X (.BoolOp .And (b ::rest) pos) g):G6 X (.BoolOp .And (a ::b ::rest) pos) (sW f g):=by
 intro wh pins s σ H Q I ⟨Z,B,δ,k,E,hf,q⟩;refine Ez ha hb wh pins s σ H Q I ?_;obtain⟨c,h1,h2⟩:=R.ai hf;refine⟨Z,B,δ,c,E,h1,fun H1 s1=>?_⟩
 cases c with
 | true=>rw [if_pos rfl] at h2 ⊢;exact⟨Z,B,δ,k,E.same s1,h2,fun H' s2=>q H' (s1.trans s2)⟩
 | false=>rw [if_neg (by decide)] at h2 ⊢;cases h2;exact q H1 s1
theorem LF{rest:List Expr}{f g:au->R Bool}(ha:PB X a f)(hb:G6 X (.BoolOp .Or (b ::rest) pos) g):G6 X (.BoolOp .Or (a ::b ::rest) pos) (CK f g):=by
 intro wh pins s σ H Q I ⟨Z,B,δ,k,E,hf,q⟩;refine JZ ha hb wh pins s σ H Q I ?_;obtain⟨c,h1,h2⟩:=R.ai hf;refine⟨Z,B,δ,c,E,h1,fun H1 s1=>?_⟩
 cases c with
 | true=>rw [if_pos rfl] at h2 ⊢;cases h2;exact q H1 s1
 | false=>rw [if_neg (by decide)] at h2 ⊢;exact⟨Z,B,δ,k,E.same s1,h2,fun H' s2=>q H' (s1.trans s2)⟩
theorem Le{f:au->R Bool}(ha:PB X a f):PB X (.UnaryOp .Not a pos) (ur f):=(Er ha).imp fun σ H Q ⟨Z,B,δ,k,E,hf,q⟩=>by
 obtain⟨c,h1,h2⟩:=R.ai hf;cases h2;exact⟨Z,B,δ,c,E,h1,fun H1 s1=>q H1 s1⟩
def M8(f:FD):au->R Bool:=fun δ=>(f δ).bind fun d=>match d with | .bl b=> .ok b | _=> .no
def F4(f g:FD):FD:=fun δ=>(M8 f δ).bind fun b=>if b then g δ else .ok (.bl false)
def NB(f g:FD):FD:=fun δ=>(M8 f δ).bind fun b=>if b then .ok (.bl true) else g δ
def V6(f:FD):FD:=fun δ=>(M8 f δ).bind fun b=> .ok (.bl (!b))
theorem DD{f:FD}{δ:au}{b:Bool}(h:M8 f δ= .ok b):f δ= .ok (.bl b):=by
 obtain⟨d,h1,h2⟩:=R.ai h;cases d with
 | bl k=>cases h2;exact h1
 | _=>cases h2
theorem Ma{op}(h:PD X a f):PD X (.BoolOp op [a] pos) f:=Mg h
theorem KY{rest:List Expr}(ha:PD X a f)(hb:PD X (.BoolOp .And (b ::rest) pos) g):PD X (.BoolOp .And (a ::b ::rest) pos) (F4 f g):=(Mc ha hb).imp fun σ H Q ⟨Z,B,δ,k,E,hf,q⟩=>by
 obtain⟨c,h1,h2⟩:=R.ai hf;refine⟨Z,B,δ, .bl c,E,DD h1,fun v H1 s1 r1=>⟨c,by unfold Rep at r1;exact r1,?_⟩⟩
 cases c with
 | true=>rw [if_pos rfl] at h2 ⊢;exact⟨Z,B,δ,k,E.same s1,h2,fun v H' s2 r2=>q v H' (s1.trans s2) r2⟩
 | false=>rw [if_neg (by decide)] at h2 ⊢;cases h2;exact q _ H1 s1 (by unfold Rep;rfl)
theorem NR{rest:List Expr}(ha:PD X a f)(hb:PD X (.BoolOp .Or (b ::rest) pos) g):PD X (.BoolOp .Or (a ::b ::rest) pos) (NB f g):=(O0 ha hb).imp fun σ H Q ⟨Z,B,δ,k,E,hf,q⟩=>by
 obtain⟨c,h1,h2⟩:=R.ai hf;refine⟨Z,B,δ, .bl c,E,DD h1,fun v H1 s1 r1=>⟨c,by unfold Rep at r1;exact r1,?_⟩⟩
 cases c with
 | true=>rw [if_pos rfl] at h2 ⊢;cases h2;exact q _ H1 s1 (by unfold Rep;rfl)
 | false=>rw [if_neg (by decide)] at h2 ⊢;exact⟨Z,B,δ,k,E.same s1,h2,fun v H' s2 r2=>q v H' (s1.trans s2) r2⟩
def KH(c:au->R Bool)(f g:FD):FD:=fun δ=>(c δ).bind fun b=>if b then f δ else g δ
theorem O6{fc:au->R Bool}(hc:PB X c fc)(ha:PD X a f)(hb:PD X b g):PD X (.IfExp c a b pos) (KH fc f g):=(EH hc ha hb).imp fun σ H Q ⟨Z,B,δ,k,E,hf,q⟩=>by
 obtain⟨c,h1,h2⟩:=R.ai hf;refine⟨Z,B,δ,c,E,h1,fun H1 s1=>?_⟩
 cases c with
 | true=>rw [if_pos rfl] at h2 ⊢;exact⟨Z,B,δ,k,E.same s1,h2,fun v H' s2 r2=>q v H' (s1.trans s2) r2⟩
 | false=>rw [if_neg (by decide)] at h2 ⊢;exact⟨Z,B,δ,k,E.same s1,h2,fun v H' s2 r2=>q v H' (s1.trans s2) r2⟩
def c7(X:Cx)(f:Value)(g:List D->R D):Prop:=
 ∀(pins:Aaa) (s:Shared) (σ:St) (H:Hp) (B:List Addr) (ds:List D) (d:D) (xs:List V) (us:List Value),Inv X pins σ H s->(∀a∈B,∃o,H a=some o)->Vals xs us->aF X.K B H ds xs->g ds= .ok d->
  wpAny (model X.prog X.w) X.A (call f us) (EP X pins σ fun z H'=>aR H H'/\Rep X.K B H' d z) X.xe s
def aW(g:List D->R D)(fs:au->R (List D)):FD:=fun δ=>(fs δ).bind g
theorem c7.r{f:Value}{g:List D->R D}(h:c7 X f g):lX X f (fun xs H Q=>∃B ds d,(∀a∈B,∃o,H a=some o)/\aF X.K B H ds xs/\g ds= .ok d/\∀z H',aR H H'->Rep X.K B H' d z->Q z H'):=by
 intro pins s σ H xs us Q I rx ⟨B,ds,d,hb,hr,hg,q⟩;exact c6 (h pins s σ H B ds d xs us I hb rx hr hg) fun z s' ⟨zv,H',I',r',s1,r1⟩=>⟨zv,H',I',r',q zv H' s1 r1⟩
theorem AZ{K:W.Frag}{g:List D->R D}{fs:au->R (List D)}{Q:VK}(h:tD K (aW g fs) σ H Q) :
 UH K fs σ H fun vs H1=>∃B ds d,(∀a∈B,∃o,H1 a=some o)/\aF K B H1 ds vs/\g ds= .ok d/\∀z H',aR H1 H'->Rep K B H' d z->Q z H':=by
 obtain⟨Z,B,δ,d,E,hf,q⟩:=h;obtain⟨ds,h1,h2⟩:=R.ai hf;exact⟨Z,B,δ,ds,E,h1,fun vs H1 s1 r1=>⟨B,ds,d,(E.same s1).bs,r1,h2,fun z H' s2 r2=>q z H' (s1.trans s2) r2⟩⟩
theorem EF{g:List D->R D}{x:Str}{id:String}{p pos:Pos}{e:Expr}{es:List Expr}{fs:au->R (List D)}(hc:c7 X (.builtin id) g)(hg:Gl X x)(hm:X.mg x=none)(hv:bootBuiltins x=some (.builtin id))(ha:EA X (e ::es) fs)(hn:x≠"__name__":=by decide)(qw:(x==("__debug__":Str))=false:=by decide)
 (he:starEach (e ::es) X.env=(false,eval e X.env) ::starEach es X.env:=by rfl) (lM:(backTo pos (starEach es X.env)).any (·.1)=false:=by rfl):PD X (.Call (.Name x p) (e ::es) [] pos) (aW g fs):=
 (ye hc.r hg hm hv ha hn qw he lM).imp fun σ H Q h=>AZ h
theorem CH{g:List D->R D}{x:Str}{T:String}{p pos:Pos}{e:Expr}{es:List Expr}{fs:au->R (List D)}(hc:c7 X (.type T) g)(hg:Gl X x)(hm:X.mg x=none)(hv:bootBuiltins x=some (.type T))(ha:EA X (e ::es) fs)(hn:x≠"__name__":=by decide)(qw:(x==("__debug__":Str))=false:=by decide)
 (he:starEach (e ::es) X.env=(false,eval e X.env) ::starEach es X.env:=by rfl) (lM:(backTo pos (starEach es X.env)).any (·.1)=false:=by rfl):PD X (.Call (.Name x p) (e ::es) [] pos) (aW g fs):=
 (CD hc.r hg hm hv ha hn qw he lM).imp fun σ H Q h=>AZ h
def Es(K:W.Frag)(n:Nat)(g:List D->R D):Sp:=fun vs H Q _=>vs.length=n/\∃B ds d,(∀a∈B,∃o,H a=some o)/\aF K B H ds vs/\g ds= .ok d/\∀z H',aR H H'->Rep K B H' d z->Q z H'
theorem Ie{g:List D->R D}{k n:Nat}{f:Addr}{fd:FuncData}{ps:List Str}{x:Str}{p pos:Pos}{e:Expr}{es:List Expr}{fs:au->R (List D)}
 (F:ie X.prog X.w X.K X.mg X.base sx k f fd ps (Es X.K n g)) (hr:dW k X.A) (hg:Gl X x) (hm:X.mg x=some (.ref f)) (hk:PySem.W.keepIn X.K (.ref f)=true) (hb:Binds X.K fd ps []) (ha:EA X (e ::es) fs)
 (hn:∀δ ds,fs δ= .ok ds->ds.length=n) (qw:(x==("__debug__":Str))=false:=by decide) (he:starEach (e ::es) X.env=(false,eval e X.env) ::starEach es X.env:=by rfl) (lM:(backTo pos (starEach es X.env)).any (·.1)=false:=by rfl) :
 PD X (.Call (.Name x p) (e ::es) [] pos) (aW g fs):=
 (v7 F hr hg hm hk hb .nil xQ ha qw he lM).imp fun σ H Q ⟨Z,B,δ,d,E,hf,q⟩=>by
   obtain⟨ds,h1,h2⟩:=R.ai hf;refine⟨Z,B,δ,ds,E,h1,fun vs H1 s1 r1=>?_⟩
   show Es X.K n g (vs++[]) H1 Q E0;rw[List.append_nil];exact⟨by rw[<-r1.length];exact hn δ ds h1,B,ds,d,(E.same s1).bs,r1,h2,fun z H' s2 r2=>q z H' (s1.trans s2) r2⟩
end
end L2
end
section
namespace L2
open PySem PySem.Spec PyProof.Rows
inductive Out where
 | nx (δ:au) | rt (d:D)
abbrev FS:=au->R Out
structure Ev (Z B:List Addr) (H:Hp) (B':List Addr) (H':Hp):Prop where
 bj:dn B H B' H'
 zs:∀b o,H b=some o->b∈Z->H' b=some o/\b∈B'
theorem Ev.refl(Z B:List Addr)(H:Hp)(zb:∀a∈Z,a∈B):Ev Z B H B H:=⟨dn.refl B H,fun b o e z=>⟨e,zb b z⟩⟩
theorem Ev.trans{Z B B' Pa:List Addr}(a:Ev Z B H B' H')(b:Ev Z B' H' Pa nB):Ev Z B H Pa nB:=
 ⟨a.bj.trans b.bj,fun c o e z=>let⟨e1,_⟩:=a.zs c o e z;b.zs c o e1 z⟩
theorem Ev.same{Z B:List Addr}(zb:∀a∈Z,a∈B)(s:aR H H'):Ev Z B H B H':=⟨dn.same s,fun b o e z=>⟨s b o e,zb b z⟩⟩
def A6(K:W.Frag)(Z B:List Addr)(H:Hp)(D:Ends):Out->Prop
 | .nx dN=>∀cN B' H',Ev Z B H B' H'->dR K Z B' H' cN dN->D.nx cN H'
 | .rt d=>∀v B' H',Ev Z B H B' H'->(∀a∈Z,a∈B')->Rep K B' H' d v->D.rt v H'
theorem A6.ev{K:W.Frag}{Z B B1:List Addr}{D:Ends}{o:Out}(q:A6 K Z B H D o)(ev:Ev Z B H B1 H1):A6 K Z B1 H1 D o:=by
 cases o with
 | nx dN=>exact fun cN B' H' Dr E'=>q cN B' H' (ev.trans Dr) E'
 | rt d=>exact fun v B' H' Dr z r=>q v B' H' (ev.trans Dr) z r
def sD(K:W.Frag)(F:FS):TS:=fun D σ H=>∃Z B δ o,dR K Z B H σ δ/\F δ= .ok o/\A6 K Z B H D o
abbrev G0(X:Cx)(st:Stmt)(F:FS):Prop:=PS X st (sD X.K F)
abbrev rf(X:Cx)(st:List Stmt)(F:FS):Prop:=u7 X st (sD X.K F)
section
variable {X:Cx}
def rE:FS:=fun δ=> .ok (.nx δ)
def ji(F G:FS):FS:=fun δ=>(F δ).bind fun o=>match o with | .nx dN=>G dN | .rt d=> .ok (.rt d)
theorem H0:rf X [] rE:=AX.imp fun D σ H ⟨Z,B,δ,o,E,hf,q⟩=>by
 cases hf;exact q σ B H (Ev.refl Z B H E.zb) E
theorem KD{K:W.Frag}{F G:FS}{D:Ends}(h:sD K (ji F G) D σ H):N1 (sD K F) (sD K G) D σ H:=by
 obtain⟨Z,B,δ,o,E,hf,q⟩:=h;obtain⟨o1,h1,h2⟩:=R.ai hf;refine⟨Z,B,δ,o1,E,h1,?_⟩;cases o1 with
 | nx δ1=>
   intro Hh B1 H1 ev E1;refine⟨Z,B1,δ1,o,E1,h2,?_⟩;cases o with
   | nx dD=>exact fun cN B' H' Dr E'=>q cN B' H' (ev.trans Dr) E'
   | rt d=>exact fun v B' H' Dr z r=>q v B' H' (ev.trans Dr) z r
 | rt d=>
   cases h2;exact q
theorem Gi{st:Stmt}{rest:List Stmt}{F G:FS}(h1:G0 X st F)(h2:rf X rest G):rf X (st ::rest) (ji F G):=(xI h1 h2).imp fun D σ H h=>KD h
theorem Je{st:Stmt}{F:FS}(h1:G0 X st F):rf X [st] F:=AI h1
theorem dR.set{K:W.Frag}{Z B:List Addr}{σ:St}{δ:au}(E:dR K Z B H σ δ){i:Nat}{d:D}{v:V}(hi:i < σ.length)(r:Rep K B H d v):dR K Z B H (σ.set i (some v)) (δ.set i (.val d)) where
 len:=by rw[List.length_set,List.length_set];exact E.len
 bs:=E.bs
 zb:=E.zb
 val:=fun j d' e=>by
  by_cases h:i=j
  .subst h;rw[List.getElem?_set_self (by rw[E.len];exact hi)] at e
   cases e;exact⟨v,List.getElem?_set_self hi,r⟩
  .rw [List.getElem?_set_ne h] at e ⊢;exact E.val j d' e
 bld:=fun j ds e=>by
  by_cases h:i=j
  .subst h;rw[List.getElem?_set_self (by rw[E.len];exact hi)] at e
   cases e
  .rw [List.getElem?_set_ne h] at e ⊢;exact E.bld j ds e
 dis:=fun j k a ds es e1 e2 e3 e4=>by
  by_cases h:i=j
  .subst h;rw[List.getElem?_set_self (by rw[E.len];exact hi)] at e1
   cases e1
  .by_cases h':i=k
   .subst h';rw[List.getElem?_set_self (by rw[E.len];exact hi)] at e2
    cases e2
   .rw [List.getElem?_set_ne h] at e1 e3;rw[List.getElem?_set_ne h'] at e2 e4;exact E.dis j k a ds es e1 e2 e3 e4
theorem dR.setB{K:W.Frag}{Z B:List Addr}{H:Hp}{σ:St}{δ:au}(E:dR K Z B H σ δ){i:Nat}{ds:List D}{a:Addr}{xs:List V}(hi:i < σ.length)(hB:a∈B)(hZ:a ∉ Z)(hH:H a=some (.lst xs))(r:aF K B H ds xs)
 (new:∀j es,j≠i->δ[j]? =some (.bld es)->σ[j]?≠some (some (.ref a))):dR K Z B H (σ.set i (some (.ref a))) (δ.set i (.bld ds)) where
 len:=by rw[List.length_set,List.length_set];exact E.len
 bs:=E.bs
 zb:=E.zb
 val:=fun j d' e=>by
  by_cases h:i=j
  .subst h;rw[List.getElem?_set_self (by rw[E.len];exact hi)] at e
   cases e
  .rw [List.getElem?_set_ne h] at e ⊢;exact E.val j d' e
 bld:=fun j es e=>by
  by_cases h:i=j
  .subst h;rw[List.getElem?_set_self (by rw[E.len];exact hi)] at e
   cases e;exact⟨a,xs,List.getElem?_set_self hi,hB,hZ,hH,r⟩
  .rw [List.getElem?_set_ne h] at e ⊢;exact E.bld j es e
 dis:=fun j k b Pr Pn e1 e2 e3 e4=>by
  by_cases h:i=j
  .subst h;by_cases h':i=k
   .exact h'
   .rw [List.getElem?_set_self hi] at e3;cases e3;rw[List.getElem?_set_ne h'] at e2 e4;exact absurd e4 (new k Pn (Ne.symm h') e2)
  .by_cases h':i=k
   .subst h';rw[List.getElem?_set_self hi] at e4;cases e4;rw[List.getElem?_set_ne h] at e1 e3;exact absurd e3 (new j Pr (Ne.symm h) e1)
   .rw [List.getElem?_set_ne h] at e1 e3;rw[List.getElem?_set_ne h'] at e2 e4;exact E.dis j k b Pr Pn e1 e2 e3 e4
def yE(i:Nat)(f:FD):FS:=fun δ=>(f δ).bind fun d=>R.bh (decide (i < δ.length)) (.ok (.nx (δ.set i (.val d))))
theorem Md{K:W.Frag}{i:Nat}{D:Ends}(h:sD K (yE i f) D σ H):Dc (tD K f) (sI i) D σ H:=by
 obtain⟨Z,B,δ,o,E,hf,q⟩:=h;obtain⟨d,h1,h2⟩:=R.ai hf;obtain⟨hi,h3⟩:=R.bf h2;cases h3;refine⟨Z,B,δ,d,E,h1,fun v H1 s1 r1=>?_⟩
 exact q _ B H1 (Ev.same E.zb s1) ((E.same s1).set (by rw[<-E.len];exact of_decide_eq_true hi) r1)
theorem Iv{i:Nat}{pos pos':Pos}(hN:X.N.Nodup)(hi:X.N[i]? =some x)(hx:Loc X.env.scope x)(he:PD X e f)(hs:swapsWith e (some (.Name x pos')) pos.line X.env=pure false:=by rfl)(hf:X.fn x=true\/X.env.scope.names.lookup x=some .local:=by first | exact .inl rfl | exact .inr rfl | assumption) :
 G0 X (.Assign [.Name x pos'] e pos) (yE i f):=(zN hN hi hx he hs hf).imp fun D σ H h=>Md h
def De(i:Nat)(f:au->R (List D)):FS:=fun δ=>(f δ).bind fun ds=>R.bh (decide (i < δ.length)) (.ok (.nx (δ.set i (.bld ds))))
theorem KU{K:W.Frag}{i:Nat}{f:au->R (List D)}{D:Ends}(h:sD K (De i f) D σ H):Dc (tN K f) (sI i) D σ H:=by
 obtain⟨Z,B,δ,o,E,hf,q⟩:=h;obtain⟨ds,h1,h2⟩:=R.ai hf;obtain⟨hi,h3⟩:=R.bf h2;cases h3;refine⟨Z,B,δ,ds,E,h1,fun a xs H1 s1 n e r=>?_⟩
 have E1:=E.same s1;have aB:a ∉ B:=fun ha=>by obtain⟨o,ho⟩:=E.bs a ha;rw [n] at ho;cases ho
 have nZ:a ∉ Z:=fun ha=>aB (E.zb a ha)
 have p0:dn B H (a ::B) H1:=fun b o e' nb=>⟨s1 b o e',fun hb=>by
  rcases List.mem_cons.mp hb with z | z
  .subst z;rw [n] at e';cases e'
  .exact nb z⟩
 have E2:dR K Z (a ::B) H1 σ δ:={
  len:=E.len
  bs:=fun b hb=>by
   rcases List.mem_cons.mp hb with z | z
   .subst z;exact⟨_,e⟩
   .exact E1.bs b z
  zb:=fun b hb=>List.mem_cons_of_mem _ (E.zb b hb)
  val:=fun j d e=>let⟨v,q1,q2⟩:=E.val j d e;⟨v,q1,q2.bj p0⟩
  bld:=fun j es e=>let⟨b,ys,q1,q2,q3,q4,q5⟩:=E.bld j es e;⟨b,ys,q1,List.mem_cons_of_mem _ q2,q3,s1 b _ q4,q5.bj p0⟩
  dis:=E.dis}
 refine q _ (a ::B) H1 ⟨p0,fun b o e' hb=>⟨s1 b o e',List.mem_cons_of_mem _ (E.zb b hb)⟩⟩ (E2.setB (by rw[<-E.len];exact of_decide_eq_true hi) List.mem_cons_self nZ e r fun j es hj ej JP=>?_)
 obtain⟨b,ys,q1,_,_,q4,_⟩:=E.bld j es ej;rw[JP] at q1;cases q1;rw[n] at q4;cases q4
theorem IQ{i:Nat}{f:au->R (List D)}{pos pos':Pos}(hN:X.N.Nodup)(hi:X.N[i]? =some x)(hx:Loc X.env.scope x)(he:PN X e f)(hs:swapsWith e (some (.Name x pos')) pos.line X.env=pure false:=by rfl)(hf:X.fn x=true\/X.env.scope.names.lookup x=some .local:=by first | exact .inl rfl | exact .inr rfl | assumption) :
 G0 X (.Assign [.Name x pos'] e pos) (De i f):=(zN hN hi hx he hs hf).imp fun D σ H h=>KU h
theorem dR.grow{K:W.Frag}{Z B:List Addr}{H:Hp}{σ:St}{δ:au}(E:dR K Z B H σ δ){i:Nat}{ds es:List D}{a:Addr}{xs ys:List V}(hd:δ[i]? =some (.bld ds))(JP:σ[i]? =some (some (.ref a)))(hB:a∈B)(hH:H a=some (.lst xs))(r:aF K B H es ys) :
 dR K Z B (upd H a (.lst ys)) σ (δ.set i (.bld es))/\dn B H B (upd H a (.lst ys)):=by
 have p:dn B H B (upd H a (.lst ys)):=fun b o e nb=>⟨by rw[bg (fun(z:b=a)=>nb (by rw[z];exact hB))];exact e,nb⟩
 have hi:i < δ.length:=(List.getElem?_eq_some_iff.mp hd).1;refine⟨{
  len:=by rw[List.length_set];exact E.len
  bs:=fun b hb=>by
   by_cases z:b=a
   .subst z;exact⟨_,aT⟩
   .rw [bg z];exact E.bs b hb
  zb:=E.zb
  val:=fun j d e=>by
   by_cases h:i=j
   .subst h;rw [List.getElem?_set_self hi] at e;cases e
   .rw [List.getElem?_set_ne h] at e;obtain⟨v,q1,q2⟩:=E.val j d e;exact⟨v,q1,q2.bj p⟩
  bld:=fun j fs e=>by
   by_cases h:i=j
   .subst h;rw [List.getElem?_set_self hi] at e;cases e;obtain⟨b,zs,q1,q2,q3,_,_⟩:=E.bld i ds hd;rw[JP] at q1;cases q1;exact⟨a,ys,JP,hB,q3,aT,r.bj p⟩
   .rw [List.getElem?_set_ne h] at e;obtain⟨b,zs,q1,q2,q3,q4,q5⟩:=E.bld j fs e;have ne:b≠a:=fun z=>by subst z;exact h (E.dis i j b ds fs hd e JP q1)
    exact⟨b,zs,q1,q2,q3,by rw[bg ne];exact q4,q5.bj p⟩
  dis:=fun j k b Pr Pn e1 e2 e3 e4=>by
   have f1:∃fs,δ[j]? =some (.bld fs):=by
    by_cases h:i=j
    .subst h;exact⟨ds,hd⟩
    .rw [List.getElem?_set_ne h] at e1;exact⟨_,e1⟩
   have f2:∃fs,δ[k]? =some (.bld fs):=by
    by_cases h:i=k
    .subst h;exact⟨ds,hd⟩
    .rw [List.getElem?_set_ne h] at e2;exact⟨_,e2⟩
   obtain⟨_,f1⟩:=f1;obtain⟨_,f2⟩:=f2;exact E.dis j k b _ _ f1 f2 e3 e4},p⟩
theorem Ev.grow{Z B:List Addr}{a:Addr}{o:HO}(zb:∀a∈Z,a∈B)(hZ:a ∉ Z)(p:dn B H B (upd H a o)):Ev Z B H B (upd H a o):=
 ⟨p,fun b u e hb=>⟨by rw[bg (fun(z:b=a)=>hZ (by rw[<-z];exact hb))];exact e,zb b hb⟩⟩
def sM(δ:au)(i:Nat):R (List D):=match δ[i]? with | some (.bld ds)=> .ok ds | _=> .no
theorem DA{δ:au}{i:Nat}{ds:List D}(h:sM δ i= .ok ds):δ[i]? =some (.bld ds):=by
 unfold sM at h;split at h
 .rename_i q;cases h;exact q
 .cases h
def Em(i:Nat)(f:FD):FS:=fun δ=>(f δ).bind fun d=>(sM δ i).bind fun ds=>R.bh (decide (ds.length < sizeLine)) (.ok (.nx (δ.set i (.bld (ds++[d])))))
theorem Hx{i:Nat}{x:Str}{e:Expr}{f:FD}{mT apos cx pos:Pos}(hN:X.N[i]? =some x)(hv:Ka X.env.scope x)(he:PD X e f)
 (hd:(x==("__debug__":Str))=false:=by decide) (uH:(x==("__classdict__":Str))=false:=by decide)
 (hs:starEach [e] X.env=(false,eval e X.env) ::starEach [] X.env:=by rfl) (mY:(apos.endLine==cx.line)=true:=by rfl)
 (uf:((backTo cx (starEach [e] X.env)).all (fun x=>!x.1) && (backToKw cx (keywordEach [] X.env)).all (fun x=>x.1.isSome)
   && decide (([e]:List Expr).length+([]:List Keyword).length+(if([]:List Keyword).isEmpty then 0 else 1) < 30))=true:=by rfl)
 (JK:swapsWith (.Call (.Attribute (.Name x mT) "append" apos) [e] [] cx) none pos.line X.env=pure false:=by rfl)
 (mW:attributeBase (.Name x mT) "append" X.env (eval (.Name x mT) X.env)=eval (.Name x mT) X.env:=by rfl) :
 G0 X (.Expr (.Call (.Attribute (.Name x mT) "append" apos) [e] [] cx) pos) (Em i f):=by
 refine(AF (DN (X:=X) PySem.F.plainAttrs_list PySem.F.slot_list_append PySem.F.type_list_append qr (wF hN hv hd uH) (fj he ja hs) mW uf mY hs) JK).imp fun D σ H ⟨Z,B,δ,o,E,hf,q⟩=>?_
 obtain⟨d,h1,h2⟩:=R.ai hf;obtain⟨ds,h3,h4⟩:=R.ai h2;obtain⟨hl,h5⟩:=R.bf h4;cases h5;have hb:=DA h3;obtain⟨a,xs,q1,q2,q3,q4,q5⟩:=E.bld i ds hb;refine⟨.ref a,q1, .inl ⟨rfl,xs,oR.of q4⟩,⟨Z,B,δ,d,E,h1,fun v H1 s1 r1=>?_⟩⟩
 have E1:=E.same s1;refine⟨a,xs,v,rfl,rfl,s1 a _ q4,by rw[<-q5.length];exact of_decide_eq_true hl,?_⟩
 obtain⟨E2,p2⟩:=E1.grow (es:=ds++[d]) (ys:=xs++[v]) hb q1 q2 (s1 a _ q4) ((q5.same s1).append (aF.cons r1 aF.nil));exact q σ B _ ((Ev.same E.zb s1).trans (Ev.grow E.zb q3 p2)) E2
def WW(i:Nat)(f:au->R (List D)):FS:=fun δ=>(f δ).bind fun es=>(sM δ i).bind fun ds=>R.bh (decide (ds.length+es.length<=sizeLine)) (.ok (.nx (δ.set i (.bld (ds++es)))))
def j4(i:Nat)(δ:au):au:=match δ[i]? with | some (.bld ds)=>δ.set i (.val (.lst ds)) | _=>δ
theorem dR.j4{K:W.Frag}{Z B:List Addr}{δ:au}(E:dR K Z B H σ δ)(i:Nat):∃B',Ev Z B H B' H/\dR K Z B' H σ (j4 i δ):=by
 unfold L2.j4;cases hd:δ[i]? with
 | none=>exact⟨B,Ev.refl Z B H E.zb,E⟩
 | some x=>
   cases x with
   | un=>exact⟨B,Ev.refl Z B H E.zb,E⟩
   | val d=>exact⟨B,Ev.refl Z B H E.zb,E⟩
   | bld ds=>
     obtain⟨a,xs,q1,q2,q3,q4,q5⟩:=E.bld i ds hd;have hi:i < δ.length:=(List.getElem?_eq_some_iff.mp hd).1;have p:dn B H (B.filter fun b=>decide (b≠a)) H:=fun b o e nb=>⟨e,fun hb=>nb (List.mem_filter.mp hb).1⟩
     have zb:∀b∈Z,b∈B.filter fun b=>decide (b≠a):=fun b hb=>List.mem_filter.mpr ⟨E.zb b hb,decide_eq_true fun z=>q3 (z▸hb)⟩
     refine⟨B.filter fun b=>decide (b≠a),⟨p,fun b o e hb=>⟨e,zb b hb⟩⟩,{
      len:=by rw[List.length_set];exact E.len
      bs:=fun b hb=>E.bs b (List.mem_filter.mp hb).1
      zb:=zb
      val:=fun j d e=>by
       by_cases h:i=j
       .subst h;rw [List.getElem?_set_self hi] at e;cases e;refine⟨.ref a,q1,?_⟩;unfold Rep;exact⟨a,xs,rfl, .inl ⟨fun hb=>by simpa using(List.mem_filter.mp hb).2, .inl q4⟩,q5.bj p⟩
       .rw [List.getElem?_set_ne h] at e;obtain⟨v,z1,z2⟩:=E.val j d e;exact⟨v,z1,z2.bj p⟩
      bld:=fun j fs e=>by
       by_cases h:i=j
       .subst h;rw [List.getElem?_set_self hi] at e;cases e
       .rw [List.getElem?_set_ne h] at e;obtain⟨b,zs,z1,z2,z3,z4,z5⟩:=E.bld j fs e;exact⟨b,zs,z1,List.mem_filter.mpr ⟨z2,decide_eq_true fun z=>by subst z;exact h (E.dis i j b ds fs hd e q1 z1)⟩,z3,z4,z5.bj p⟩
      dis:=fun j k b Pr Pn e1 e2 e3 e4=>by
       by_cases h:i=j
       .subst h;rw [List.getElem?_set_self hi] at e1;cases e1
       .by_cases h':i=k
        .subst h';rw [List.getElem?_set_self hi] at e2;cases e2
        .rw [List.getElem?_set_ne h] at e1;rw[List.getElem?_set_ne h'] at e2;exact E.dis j k b Pr Pn e1 e2 e3 e4}⟩
def IU(i:Nat)(F:FS):FS:=fun δ=>F (j4 i δ)
theorem LN{K:W.Frag}{i:Nat}{F:FS}{D:Ends}(h:sD K (IU i F) D σ H):sD K F D σ H:=by
 obtain⟨Z,B,δ,o,E,hf,q⟩:=h;obtain⟨B1,ev,E1⟩:=E.j4 i;refine⟨Z,B1,L2.j4 i δ,o,E1,hf,?_⟩;cases o with
 | nx dN=>exact fun cN B' H' Dr E'=>q cN B' H' (ev.trans Dr) E'
 | rt d=>exact fun v B' H' Dr z r=>q v B' H' (ev.trans Dr) z r
theorem JC(i:Nat){F:FS}(h:rf X Kv F):rf X Kv (IU i F):=h.imp fun D σ H h=>LN h
def iy(f:FD):FS:=fun δ=>(f δ).bind fun d=> .ok (.rt d)
theorem Jm(he:PD X e f):G0 X (.Return (some e) pos) (iy f):=(Ga he).imp fun D σ H ⟨Z,B,δ,o,E,hf,q⟩=>by
 obtain⟨d,h1,h2⟩:=R.ai hf;cases h2;exact⟨Z,B,δ,d,E,h1,fun v H1 s1 r1=>q v B H1 (Ev.same E.zb s1) E.zb r1⟩
def yU(c:au->R Bool)(F G:FS):FS:=fun δ=>(c δ).bind fun b=>if b then F δ else G δ
theorem Mh{fc:au->R Bool}{F G:FS}(hc:PB X c fc)(ha:rf X a F)(hb:rf X b G):G0 X (.If c a b pos) (yU fc F G):=(JR hc ha hb).imp fun D σ H ⟨Z,B,δ,o,E,hf,q⟩=>by
 obtain⟨k,h1,h2⟩:=R.ai hf;refine⟨Z,B,δ,k,E,h1,fun H1 s1=>?_⟩
 have q':=q.ev (Ev.same E.zb s1);cases k with
 | true=>rw [if_pos rfl] at h2;exact Fv ⟨Z,B,δ,o,E.same s1,h2,q'⟩
 | false=>rw [if_neg (by decide)] at h2;exact FV ⟨Z,B,δ,o,E.same s1,h2,q'⟩
abbrev FT:=D->au->R au
def gD(K:W.Frag)(t:FT):TG:=fun v σ H Q=>∃Z B δ d dN,dR K Z B H σ δ/\Rep K B H d v/\t d δ= .ok dN/\∀cN H',aR H H'->dR K Z B H' cN dN->cN.length=σ.length->Q cN H'
abbrev Lp(X:Cx)(tg:Expr)(t:FT):Prop:=PG X tg (gD X.K t)
def bR(i:Nat):FT:=fun d δ=>R.bh (decide (i < δ.length)) (.ok (δ.set i (.val d)))
theorem ER{i:Nat}{pos:Pos}(hN:X.N.Nodup)(hi:X.N[i]? =some x)(hx:Loc X.env.scope x)(hf:X.fn x=true\/X.env.scope.names.lookup x=some .local:=by first | exact .inl rfl | exact .inr rfl | assumption):Lp X (.Name x pos) (bR i):=
 (Bp hN hi hx hf).imp fun v σ H Q ⟨Z,B,δ,d,dN,E,r,ht,q⟩=>by
   obtain⟨hi,h⟩:=R.bf ht;cases h;exact q _ H (aR.refl H) (E.set (by rw[<-E.len];exact of_decide_eq_true hi) r) (List.length_set ..)
abbrev Dt:=List D->au->R au
def VS(K:W.Frag)(t:Dt):Eh:=fun vs σ H Q=>∃Z B δ ds dN,dR K Z B H σ δ/\aF K B H ds vs/\t ds δ= .ok dN/\∀cN H',aR H H'->dR K Z B H' cN dN->cN.length=σ.length->Q cN H'
abbrev FL(X:Cx)(ts:List Expr)(t:Dt):Prop:=II X ts (VS X.K t)
theorem II.imp{X:Cx}{t t':Eh}(h:II X e t)(w:∀v σ H Q,t' v σ H Q->t v σ H Q):II X e t':=fun pins s σ H v u Q I r hq=>h pins s σ H v u Q I r (w v σ H Q hq)
def nQ:Dt:=fun ds δ=>match ds with | []=> .ok δ | _=> .no
def dH(t:FT)(u:Dt):Dt:=fun ds δ=>match ds with | d ::r=>(t d δ).bind fun dN=>u r dN | []=> .no
theorem Gy:FL X [] nQ:=A7.imp fun vs σ H Q ⟨Z,B,δ,ds,dN,E,r,ht,q⟩=>by
 cases ds with
 | nil=>unfold aF at r;cases ht;exact⟨r,q σ H (aR.refl H) E rfl⟩
 | cons=>cases ht
theorem Cu{u:Dt}(h1:Lp X e t)(h2:FL X es u)(hs:(assignEach (e ::es) X.env).map (·.2)=assign e X.env ::(assignEach es X.env).map (·.2):=by rfl):FL X (e ::es) (dH t u):=
 (yc h1 h2 hs).imp fun vs σ H Q ⟨Z,B,δ,ds,dN,E,r,ht,q⟩=>by
   cases ds with
   | nil=>cases ht
   | cons d ds=>
     obtain⟨x,xs,rfl,r1,r2⟩:=r.cb;obtain⟨δ1,h1,h2⟩:=R.ai ht;exact⟨x,xs,rfl,Z,B,δ,d,δ1,E,r1,h1,fun Hh H1 s1 E1 l1=>⟨Z,B,δ1,ds,dN,E1,r2.same s1,h2,fun w6 H2 s2 E2 l2=>q w6 H2 (s1.trans s2) E2 (l2.trans l1)⟩⟩
def nS(n:Nat)(t:Dt):FT:=fun d δ=>match d with | .tup ds=>R.bh (decide (ds.length=n)) (t ds δ) | _=> .no
theorem HK{k:Nat}{t:Dt}{n:Nat}{pos:Pos}(hc:X.calm=true)(h:FL X es t)(hn:(assignEach es X.env).length=n:=by rfl)(Ap:(assignEach es X.env).findIdx? (·.1)=none:=by rfl):Lp X (.Tuple es k pos) (nS n t):=
 (Fy hc h hn Ap).imp fun v σ H Q ⟨Z,B,δ,d,dN,E,r,ht,q⟩=>by
   cases d with
   | tup ds=>
     unfold Rep at r;obtain⟨a,xs,rfl,l,r⟩:=r;obtain⟨hl,h⟩:=R.bf ht;exact⟨a,xs,rfl,l.sq,by rw[<-r.length];exact of_decide_eq_true hl,Z,B,δ,ds,dN,E,r,h,q⟩
   | _=>cases ht
def MG(f:FD)(t:FT):FS:=fun δ=>(f δ).bind fun d=>(t d δ).bind fun dN=> .ok (.nx dN)
theorem Jh{tg e:Expr}{f:FD}{t:FT}{pos:Pos}(he:PD X e f)(hg:Lp X tg t)(hs:swapsWithSole [tg] e pos.line X.env=pure false:=by rfl)(hw:swappedStores [tg] e X.env=pure none:=by rfl)
 (h1:(assignEach [tg] X.env).map (·.2)=[assign tg X.env]:=by rfl):G0 X (.Assign [tg] e pos) (MG f t):=(zo he hg hs hw h1).imp fun D σ H ⟨Z,B,δ,o,E,hf,q⟩=>by
 obtain⟨d,h1,h2⟩:=R.ai hf;obtain⟨δ1,h3,h4⟩:=R.ai h2;cases h4;exact⟨Z,B,δ,d,E,h1,fun v H1 s1 r1=>⟨Z,B,δ,d,δ1,E.same s1,r1,h3,fun cN H2 s2 E2 _=>q cN B H2 (Ev.same E.zb (s1.trans s2)) E2⟩⟩
def FY(K:W.Frag)(B:List Addr)(H:Hp)(J:It)(ds:List D):Prop:=∀B' H',dn B H B' H'->(∀(i:Nat) (d:D),ds[i]? =some d->J.go i H'/\∀x nB,J.yld i H' x nB->(∀a∈B',∃o,H' a=some o)->aR H' nB/\Rep K B' nB d x)/\J.stop ds.length H'
def iD(K:W.Frag)(f:au->R (List D)):TI:=fun σ H R=>∃Z B δ ds,dR K Z B H σ δ/\f δ= .ok ds/\∀J H1,aR H H1->FY K B H1 J ds->R J H1
abbrev M9(X:Cx)(tg e:Expr)(f:au->R (List D)):Prop:=PI X tg e (iD X.K f)
def g_(f:FD):au->R (List D):=fun δ=>(f δ).bind fun d=>match d with | .lst ds=> .ok ds | .tup ds=> .ok ds | _=> .no
theorem HD(h:PD X e f):M9 X tg e (g_ f):=by
 intro pins s σ H RR I ⟨Z,B,δ,ds,E,hf,q⟩;obtain⟨d,h1,h2⟩:=R.ai hf;refine c6 (h pins s σ H (fun v H1=>aR H H1/\Rep X.K B H1 d v) I ⟨Z,B,δ,d,E,h1,fun v H1 s1 r1=>⟨s1,r1⟩⟩) fun v s1 ⟨x,H1,I1,r1,ss,rr⟩=>?_
 cases d with
 | lst es=>
   cases h2;unfold Rep at rr;obtain⟨a,xs,rfl,l,rr⟩:=rr;cases r1;obtain⟨its,rv,p,hz⟩:=I1.list l.sq;refine wpAny_pyIter_list p.isList ?_;refine⟨s1.heap.objs.size,[s1.heap.objs.size],_,_,H1,rfl,I1.kept (t':=s1.toks) fun b o e=>Heap.get?_push_of_some _ e,vb a _,⟨_,Heap.get?_push_size _ rfl,rfl,rfl⟩,fun b hb=>?_,q _ H1 ss fun B' H' pr=>?_⟩
   .have e:b=s1.heap.objs.size:=by simpa using hb
    subst e;exact I1.uD (Nat.le_refl _) (I1.hok.fresh (Nat.le_refl _))
   .have l':uh X.K B' H' a xs:=l.bj pr;have rr':=rr.bj pr;refine⟨fun i d hd=>?_,⟨xs,l'.sq,by rw[rr.length];exact Nat.le_refl _⟩⟩
    obtain⟨x,hx,rx⟩:=rr'.get hd;exact⟨⟨xs,x,l'.sq,hx⟩,fun y nB ⟨e1,e2⟩ _=>by
     subst e1;have:=e2 xs l'.sq;rw[hx] at this;cases this;exact⟨aR.refl _,rx⟩⟩
 | tup es=>
   cases h2;unfold Rep at rr;obtain⟨a,xs,rfl,l,rr⟩:=rr;cases r1;obtain⟨its,rv,p,hz⟩:=I1.tuple l.sq;refine wpAny_pyIter_tuple (show s1.heap.IsTuple a its.toArray from p) ?_
   refine⟨s1.heap.objs.size,[s1.heap.objs.size],_,_,H1,rfl,I1.kept (t':=s1.toks) fun b o e=>Heap.get?_push_of_some _ e,yY a _,⟨_,Heap.get?_push_size _ rfl,rfl,rfl⟩,fun b hb=>?_,q _ H1 ss fun B' H' pr=>?_⟩
   .have e:b=s1.heap.objs.size:=by simpa using hb
    subst e;exact I1.uD (Nat.le_refl _) (I1.hok.fresh (Nat.le_refl _))
   .have l':uZ X.K B' H' a xs:=l.elim (fun z=> .inl ⟨(pr.rd z.2 z.1).2,(pr.rd z.2 z.1).1⟩) .inr
    have rr':=rr.bj pr;refine⟨fun i d hd=>?_,⟨xs,l'.sq,by rw[rr.length];exact Nat.le_refl _⟩⟩
    obtain⟨x,hx,rx⟩:=rr'.get hd;exact⟨⟨xs,x,l'.sq,hx⟩,fun y nB ⟨e1,e2⟩ _=>by
     subst e1;have:=e2 xs l'.sq;rw[hx] at this;cases this;exact⟨aR.refl _,rx⟩⟩
 | _=>cases h2
def cC(lo:Int)(n:Nat):List D:=(List.range n).map fun(i:Nat)=>D.int (lo+i)
theorem El{K:W.Frag}{B:List Addr}(lo:Int)(n:Nat):FY K B H (O9 lo n) (cC lo n):=fun B' H' _=>by
 refine⟨fun i d hd=>?_,?_⟩
 .unfold cC at hd;rw[List.getElem?_map] at hd;cases e:(List.range n)[i]? with
  | none=>rw [e] at hd;cases hd
  | some j=>
    rw[e] at hd;cases hd;obtain⟨hi,ej⟩:=List.getElem?_eq_some_iff.mp e;rw[List.getElem_range] at ej;subst ej;rw[List.length_range] at hi;exact⟨hi,fun x nB ⟨e1,e2⟩ _=>by subst e1 e2;exact⟨aR.refl _,by unfold Rep;rfl⟩⟩
 .show n<=(cC lo n).length;unfold cC;rw[List.length_map,List.length_range];exact Nat.le_refl _
def ft(f:FD):au->R (List D):=fun δ=>(f δ).bind fun d=>match d with | .int j=>R.bh (decide (-(2 ^ 62)<=j/\j < 2 ^ 62)) (.ok (cC 0 j.toNat)) | _=> .no
theorem Ak{tg a:Expr}{p pos:Pos}(h:PD X a f)(hg:Gl X "range")(hm:X.mg "range"=none)(hs:starEach [a] X.env=[(false,eval a X.env)]:=by rfl):M9 X tg (.Call (.Name "range" p) [a] [] pos) (ft f):=
 (uV hg hm (fj h ja hs) hs).imp fun σ H RR ⟨Z,B,δ,ds,E,hf,q⟩=>by
   obtain⟨d,h1,h2⟩:=R.ai hf;cases d with
   | int j=>
     obtain⟨hb,h3⟩:=R.bf h2;cases h3;have hb:=of_decide_eq_true hb;refine⟨Z,B,δ, .int j,E,h1,fun v H1 s1 r1=>⟨j,?_,hb.1,hb.2,q _ H1 s1 (El 0 _)⟩⟩
     unfold Rep at r1;rw[r1]
   | _=>cases h2
def R5(f g:FD):au->R (List D):=fun δ=>(f δ).bind fun d=>(g δ).bind fun e=>match d,e with
 | .int i, .int j=>R.bh (decide (-(2 ^ 62)<=i/\i < 2 ^ 62/\ -(2 ^ 62)<=j/\j < 2 ^ 62)) (.ok (cC i (j - i).toNat)) | _,_=> .no
def qS(t:FT)(body:FS):List D->FS
 | [],δ=> .ok (.nx δ)
 | d ::ds,δ=>(t d δ).bind fun δ1=>(body δ1).bind fun o=>match o with | .nx dD=>qS t body ds dD | .rt r=> .ok (.rt r)
def zw(it:au->R (List D))(t:FT)(body:FS):FS:=fun δ=>(it δ).bind fun ds=>qS t body ds δ
theorem IW{tg iter:Expr}{body:List Stmt}{it:au->R (List D)}{t:FT}{F:FS}{pos:Pos}(hp:PassesOwn (model X.prog X.w) X.A X.env X.xe)(hc:X.calm=true)(hi:M9 X tg iter it)(hg:Lp X tg t)(hb:rf X body F)
 (hs:∀x,foldedSetIterable iter X.env x=pure x:=by intro _;rfl):G0 X (.For tg iter body [] pos) (zw it t F):=(EG hp hc hi hg hb hs).imp fun D σ H ⟨Z,B,δ,o,E,hf,q⟩=>by
 obtain⟨ds,h1,h2⟩:=R.ai hf;refine⟨Z,B,δ,ds,E,h1,fun J H1 s1 ir=>?_⟩
 refine⟨fun i m cN H'=>m=ds.length - i/\i<=ds.length/\∃B' dN,Ev Z B H1 B' H'/\dR X.K Z B' H' cN dN/\qS t F (ds.drop i) dN= .ok o,⟨ds.length,rfl,Nat.zero_le _,B,δ,Ev.refl Z B H1 E.zb,E.same s1,by simpa using h2⟩,?_⟩
 rintro i m cN H' ⟨rfl,hi,B',dN,ev,E',hl⟩;obtain⟨go,stop⟩:=ir B' H' ev.bj;by_cases hlt:i < ds.length
 .have hd:ds[i]? =some ds[i]:=List.getElem?_eq_getElem hlt;have hdrop:ds.drop i=ds[i] ::ds.drop (i+1):=List.drop_eq_getElem_cons hlt;rw[hdrop] at hl;obtain⟨δ1,h3,h4⟩:=R.ai hl;obtain⟨o1,h5,h6⟩:=R.ai h4;obtain⟨g1,g2⟩:=go i _ hd;refine .inr ⟨g1,fun w6 H2=>∃B2 dD,Ev Z B H1 B2 H2/\dR X.K Z B2 H2 w6 dD/\qS t F (ds.drop (i+1)) dD= .ok o,fun w6 H2 n=>⟨ds.length - (i+1),by omega,rfl,hlt,n⟩,fun x nB y=>?_⟩
  obtain⟨ss,rr⟩:=g2 x nB y E'.bs;refine⟨Z,B',dN,ds[i],δ1,E'.same ss,rr,h3,fun w6 H2 s2 E2 l2=>⟨Z,B',δ1,o1,E2,h5,?_⟩⟩
  have ev2:Ev Z B H1 B' H2:=ev.trans (Ev.same E'.zb (ss.trans s2));cases o1 with
  | nx dD=>exact fun yW B3 H3 Tu E3=>⟨B3,dD,ev2.trans Tu,E3,h6⟩
  | rt d=>
    cases h6;exact fun v B3 H3 Tu z r=>q v B3 H3 ((Ev.same E.zb s1).trans (ev2.trans Tu)) z r
 .have e:i=ds.length:=by omega
  subst e;rw[List.drop_length] at hl;cases hl;exact .inl ⟨stop,q cN B' H' ((Ev.same E.zb s1).trans ev) E'⟩
def Ge(c:au->R Bool)(body:FS):Nat->FS
 | 0,_=> .no
 | n+1,δ=>(c δ).bind fun b=>if b then(body δ).bind fun o=>match o with | .nx dD=>Ge c body n dD | .rt r=> .ok (.rt r) else .ok (.nx δ)
def R4(n:Nat)(c:au->R Bool)(body:FS):FS:=fun δ=>Ge c body n δ
def tJ(δ:au)(i:Nat):Sl:=match δ[i]? with | some (.val d)=> .val d | _=> .un
def um(own:List Str)(kp:List Nat)(δ:au):au:=List.replicate own.length .un++kp.map (tJ δ)
def pG(t:FT)(c:au->R Bool)(f:FD)(δ:au):List D->R (List D)
 | []=> .ok []
 | d ::ds=>(t d δ).bind fun δ1=>(c δ1).bind fun b=>if b then(f δ1).bind fun y=>(pG t c f δ ds).bind fun ys=> .ok (y ::ys) else pG t c f δ ds
def iJ(it:au->R (List D))(t:FT)(c:au->R Bool)(f:FD)(own:List Str)(kp:List Nat):au->R (List D):=fun δ=>(it δ).bind fun ds=>R.bh (decide (ds.length<=sizeLine)) (pG t c f (um own kp δ) ds)
theorem Kz{K:W.Frag}{Z B B':List Addr}{H H':Hp}{δ:au}{own:List Str}{kp:List Nat}(E:dR K Z B H σ δ)(p:dn B H B' H')(hB:∀a∈B',∃o,H' a=some o):dR K [] B' H' (dg own kp σ) (um own kp δ) where
 len:=by unfold dg um;simp
 bs:=hB
 zb:=fun a ha=>by cases ha
 val:=fun i d e=>by
  unfold um at e;unfold dg;by_cases hi:i < own.length
  .rw [List.getElem?_append_left (by simpa using hi),List.getElem?_replicate] at e
   split at e <;> cases e
  .rw [List.getElem?_append_right (by simpa using hi),List.length_replicate,List.getElem?_map] at e ⊢
   cases q:kp[i - own.length]? with
   | none=>rw [q] at e;cases e
   | some j=>
     rw[q] at e;have e:tJ δ j= .val d:=Option.some.inj e;unfold tJ at e;split at e
     .rename_i d' ed;cases e;obtain⟨v,h1,h2⟩:=E.val j d ed;exact⟨v,by simp [h1],h2.bj p⟩
     .cases e
 bld:=fun i ds e=>by
  unfold um at e;by_cases hi:i < own.length
  .rw [List.getElem?_append_left (by simpa using hi),List.getElem?_replicate] at e
   split at e <;> cases e
  .rw [List.getElem?_append_right (by simpa using hi),List.length_replicate,List.getElem?_map] at e
   cases q:kp[i - own.length]? with
   | none=>rw [q] at e;cases e
   | some j=>
     rw[q] at e;have e:tJ δ j= .bld ds:=Option.some.inj e;unfold tJ at e;split at e <;> cases e
 dis:=fun i j a ds es e=>by
  unfold um at e;by_cases hi:i < own.length
  .rw [List.getElem?_append_left (by simpa using hi),List.getElem?_replicate] at e
   split at e <;> cases e
  .rw [List.getElem?_append_right (by simpa using hi),List.length_replicate,List.getElem?_map] at e
   cases q:kp[i - own.length]? with
   | none=>rw [q] at e;cases e
   | some j=>
     rw[q] at e;have e:tJ δ j= .bld ds:=Option.some.inj e;unfold tJ at e;split at e <;> cases e
theorem Jq{K:W.Frag}{it:au->R (List D)}{c:au->R Bool}{own:List Str}{kp:List Nat}{Q:VK}(h:tN K (iJ it t c f own kp) σ H Q) :
 AA (iD K it) (gD K t) (Lq K c) (tD K f) own kp σ H Q:=by
 obtain⟨Z,B,δ,ds,E,hf,q⟩:=h;obtain⟨es,h1,h2⟩:=R.ai hf;obtain⟨hl,h3⟩:=R.bf h2;have hl:=of_decide_eq_true hl;refine⟨Z,B,δ,es,E,h1,fun J H1 s1 ir Dd hD=>?_⟩
 have E1:=E.same s1;have pD:dn B H1 (Dd ::B) (upd H1 Dd (.lst [])):=xX hD;refine⟨fun i m ys H'=>m=es.length - i/\i<=es.length/\ys.length<=i/\H' Dd=some (.lst ys)/\aR H1 H'/\∃done rest,ds=done++rest/\aF K (Dd ::B) H' done ys/\pG t c f (um own kp δ) (es.drop i)= .ok rest,
  ⟨es.length,rfl,Nat.zero_le _,Nat.le_refl _,aT,aN hD,[],ds,rfl,aF.nil,by simpa using h3⟩,?_⟩
 rintro i m ys H' ⟨rfl,hi,hy,hDl,ss,done,rest,rfl,rd,hc⟩;have dB:Dd ∉ B:=fun hb=>by obtain⟨o,ho⟩:=E1.bs Dd hb;rw [hD] at ho;cases ho
 have p':dn B H1 (Dd ::B) H':=fun b o e nb=>⟨ss b o e,fun hb=>by
  rcases List.mem_cons.mp hb with z | z
  .exact bW e hD z
  .exact nb z⟩
 have JL:∀a∈Dd ::B,∃o,H' a=some o:=fun a ha=>by
  rcases List.mem_cons.mp ha with z | z
  .subst z;exact⟨_,hDl⟩
  .obtain⟨o,ho⟩:=E1.bs a z;exact⟨o,ss a o ho⟩
 obtain⟨go,stop⟩:=ir (Dd ::B) H' p';by_cases hlt:i < es.length
 .have hd:es[i]? =some es[i]:=List.getElem?_eq_getElem hlt;have hdrop:es.drop i=es[i] ::es.drop (i+1):=List.drop_eq_getElem_cons hlt;rw[hdrop] at hc;obtain⟨δ1,h4,h5⟩:=R.ai hc;obtain⟨b,h6,h7⟩:=R.ai h5;obtain⟨g1,g2⟩:=go i _ hd;refine .inr ⟨g1,fun x H2 y=>?_⟩
  obtain⟨sy,ry⟩:=g2 x H2 y JL;have Ec:dR K [] (Dd ::B) H2 (dg own kp σ) (um own kp δ):=Kz E1 (p'.trans (dn.same sy)) fun a ha=>let⟨o,ho⟩:=JL a ha;⟨o,sy a o ho⟩
  refine⟨[],Dd ::B,um own kp δ,es[i],δ1,Ec,ry,h4,fun yW H3 s3 E3 _=>⟨[],Dd ::B,δ1,b,E3,h6,fun H4 s4=>?_⟩⟩
  have sAll:aR H' H4:=sy.trans (s3.trans s4);cases b with
  | true=>
    rw[if_pos rfl] at h7;refine Fv ?_;obtain⟨yv,h8,h9⟩:=R.ai h7;obtain⟨rs,SV,SK⟩:=R.ai h9;cases SK;refine⟨[],Dd ::B,δ1,yv,E3.same s4,h8,fun v H5 s5 r5=>?_⟩
    have s':aR H' H5:=sAll.trans s5;have Tt:H5 Dd=some (.lst ys):=s' Dd _ hDl;have pu:dn (Dd ::B) H5 (Dd ::B) (upd H5 Dd (.lst (ys++[v]))):=fun b o e nb=>⟨by rw[bg (fun(z:b=Dd)=>nb (by rw[z];exact List.mem_cons_self))];exact e,nb⟩
    refine⟨Tt,by omega,es.length - (i+1),by omega,rfl,hlt,by rw[List.length_append,List.length_singleton];omega,aT,fun b o e=>?_,done++[yv],rs,by simp,((rd.same s').append (aF.cons r5 aF.nil)).bj pu,SV⟩
    rw[bg (bW e hD)];exact s' b o (ss b o e)
  | false=>
    rw[if_neg (by decide)] at h7
    refine FV ?_;exact⟨es.length - (i+1),by omega,rfl,hlt,by omega,sAll Dd _ hDl,ss.trans sAll,done,rest,rfl,rd.same sAll,h7⟩
 .have e:i=es.length:=by omega
  subst e;rw[List.drop_length] at hc;cases hc;rw[List.append_nil] at q;exact .inl ⟨stop,q Dd ys H' (s1.trans ss) (s1.free hD) hDl rd⟩
theorem JI{scope:Scope}{own:List Str}{kp:List Nat}{kn:List Str}{tg iter elt:Expr}{ifs:List Expr}{it:au->R (List D)}{t:FT}{c:au->R Bool}{f:FD}{pos:Pos}(hc:X.calm=true)(C:gp X scope own kp kn)(hi:M9 X tg iter it)
 (hg:∀fp s H,Lp (bF X scope (own++kn) fp s H) tg t) (GW:∀fp s H,qc (bF X scope (own++kn) fp s H) ifs (Lq X.K c)) (he:∀fp s H,PD (bF X scope (own++kn) fp s H) elt f)
 (hs:∀x,foldedSetIterable iter X.env x=pure x:=by intro _;rfl):PN X (.ListComp elt [⟨tg,iter,ifs,0⟩] scope pos) (iJ it t c f own kp):=
 (A9 hc C hi hg GW he hs).imp fun σ H Q h=>Jq h
def wI:au->R Bool:=fun _=> .ok true
theorem Fz:qc X [] (Lq X.K wI):=fun pins s σ H Q I ⟨Z,B,δ,b,E,hf,q⟩=>xH pins s σ H Q I (by cases hf;exact q H (aR.refl H))
theorem Ji{c:au->R Bool}(h:PB X e c):qc X [e] (Lq X.K c):=yC h
end
def fP(N:List Str)(ds:List D):au:=ds.map .val++List.replicate (N.length - ds.length) .un
def wY(N:List Str)(F:FS):List D->R D:=fun ds=>(F (fP N ds)).bind fun o=>match o with | .rt d=> .ok d | .nx _=> .ok .cR
theorem IH{K:W.Frag}{B:List Addr}{H:Hp}{N:List Str}{ds:List D}{vs:List V}(hB:∀a∈B,∃o,H a=some o)(r:aF K B H ds vs):dR K B B H (start N vs) (fP N ds) where
 len:=by unfold start fP;simp [r.length]
 bs:=hB
 zb:=fun a ha=>ha
 val:=fun i d e=>by
  unfold fP at e;unfold start;by_cases hi:i < ds.length
  .rw [List.getElem?_append_left (by simpa using hi),List.getElem?_map] at e
   cases q:ds[i]? with
   | none=>rw [q] at e;cases e
   | some d'=>
     rw[q] at e;cases e;obtain⟨x,h1,h2⟩:=r.get q;exact⟨x,by rw[List.getElem?_append_left (by rw[List.length_map,<-r.length];exact hi),List.getElem?_map,h1];rfl,h2⟩
  .rw [List.getElem?_append_right (by simpa using hi),List.getElem?_replicate] at e
   split at e <;> cases e
 bld:=fun i es e=>by
  unfold fP at e;by_cases hi:i < ds.length
  .rw [List.getElem?_append_left (by simpa using hi),List.getElem?_map] at e
   cases q:ds[i]? with
   | none=>rw [q] at e;cases e
   | some d'=>rw [q] at e;cases e
  .rw [List.getElem?_append_right (by simpa using hi),List.getElem?_replicate] at e
   split at e <;> cases e
 dis:=fun i j a es fs e=>by
  unfold fP at e;by_cases hi:i < ds.length
  .rw [List.getElem?_append_left (by simpa using hi),List.getElem?_map] at e
   cases q:ds[i]? with
   | none=>rw [q] at e;cases e
   | some d'=>rw [q] at e;cases e
  .rw [List.getElem?_append_right (by simpa using hi),List.getElem?_replicate] at e
   split at e <;> cases e
theorem Ho{P:Program}{w:World}{K:W.Frag}{mg:Aaf}{base:Heap}{x qual:Str}{st:Stmt}{f:Addr}{fd:FuncData}{N ps:List Str}{k:Nat}{F:FS}(Fn:AV K x qual st f fd)(S:a_ N ps (ax st))
 (ij:∀(fF:Value) (A:Around) (outer:List Env) (s:Shared) (H:Hp) (E:XK),dW k (A.deeper (envOfC qual (ax st) s.heap.objs.size f fF))->
   rf (p6 sx P w K mg base N qual (ax st) f fF A outer s H E).Eu (aL st) F):ie P w K mg base sx (k+1) f fd ps (Es K ps.length (wY N F)):=by
 refine Fn.ok S (fun vs H Q E h=>h.1) (fun fF A outer s H vs Q E hr h=>⟨_,ij fF A outer s H E hr,?_⟩)
 obtain⟨_,B,ds,d,hB,r,hg,q⟩:=h;obtain⟨o,h1,h2⟩:=R.ai hg;refine⟨B,B,fP N ds,o,IH hB r,h1,?_⟩;have sm:∀{B':List Addr} {H':Hp},Ev B B H B' H'->aR H H':=fun {B' H'} ev b u e=>by
  by_cases hb:b∈B
  .exact(ev.zs b u e hb).1
  .exact(ev.bj b u e hb).1
 cases o with
 | nx dN=>
   cases h2;exact fun cN B' H' ev _=>q _ H' (sm ev) (by unfold Rep;rfl)
 | rt d'=>
   cases h2;exact fun v B' H' ev z rr=>q v H' (sm ev) (rr.bj fun b o e nb=>⟨e,fun hb=>nb (z b hb)⟩)
end L2
end
section
namespace L2
open PySem PySem.Spec PyProof.Rows
theorem Rep.int{K:W.Frag}{B:List Addr}{i:Int}{v:V}:Rep K B H (.int i) v↔v= .int i:=by unfold Rep;exact Iff.rfl
theorem Rep.bl{K:W.Frag}{B:List Addr}{i:Bool}{v:V}:Rep K B H (.bl i) v↔v= .bl i:=by unfold Rep;exact Iff.rfl
theorem Rep.str{K:W.Frag}{B:List Addr}{v:V}:Rep K B H (.str i) v↔v= .str i:=by unfold Rep;exact Iff.rfl
theorem Rep.cR{K:W.Frag}{B:List Addr}{v:V}:Rep K B H .cR v↔v= .cR:=by unfold Rep;exact Iff.rfl
theorem Rep.lst{K:W.Frag}{B:List Addr}{ds:List D}{v:V}:Rep K B H (.lst ds) v↔∃a xs,v= .ref a/\uh K B H a xs/\aF K B H ds xs:=by rw[Rep]
theorem Rep.tup{K:W.Frag}{B:List Addr}{ds:List D}{v:V}:Rep K B H (.tup ds) v↔∃a xs,v= .ref a/\uZ K B H a xs/\aF K B H ds xs:=by rw[Rep]
section
variable {X:Cx}
theorem jE.of{f:Value->Value->Sem Value}{r:R2}{g:D->D->R D}(h:l9 X f r)
 (w:∀(B:List Addr) (H:Hp) (da db d:D) (x y:V) (Q:VK),(∀a∈B,∃o,H a=some o)->Rep X.K B H da x->Rep X.K B H db y->g da db= .ok d->(∀z H',aR H H'->Rep X.K B H' d z->Q z H')->r x y H Q):jE X f g:=by
 intro pins s σ H B da db d x y v u I hb rx ry ra rb hg;exact h pins s σ H x y v u _ I rx ry (w B H da db d x y _ hb ra rb hg fun z H' s1 r1=>⟨s1,r1⟩)
theorem c7.of{f:Value}{r:List V->Hp->VK->Prop}{g:List D->R D}(h:lX X f r)
 (w:∀(B:List Addr) (H:Hp) (ds:List D) (d:D) (xs:List V) (Q:VK),(∀a∈B,∃o,H a=some o)->aF X.K B H ds xs->g ds= .ok d->(∀z H',aR H H'->Rep X.K B H' d z->Q z H')->r xs H Q):c7 X f g:=by
 intro pins s σ H B ds d xs us I hb rx rs hg;exact h pins s σ H xs us _ I rx (w B H ds d xs _ hb rs hg fun z H' s1 r1=>⟨s1,r1⟩)
theorem c7.or{f:Value}{g g1 g2:List D->R D}(h1:c7 X f g1)(h2:c7 X f g2)(e:∀a d,g a= .ok d->g1 a= .ok d\/g2 a= .ok d):c7 X f g:=by
 intro pins s σ H B ds d xs us I hb rx rs hg;rcases e ds d hg with q | q
 .exact h1 pins s σ H B ds d xs us I hb rx rs q
 .exact h2 pins s σ H B ds d xs us I hb rx rs q
def xk(C:Int->Int->Bool)(g:Int->Int->Int):D->D->R D
 | .int i, .int j=>R.bh (C i j) (.ok (.int (g i j)))
 | _,_=> .no
theorem BF{f:Value->Value->Sem Value}{C:Int->Int->Bool}{Cp:Int->Int->Prop}{g:Int->Int->Int}(h:l9 X f (rI Cp fun i j=> .int (g i j)))(hc:∀i j,C i j=true->Cp i j):jE X f (xk C g):=
 jE.of h fun B H da db d x y Q _ ra rb hg q=>by
  unfold xk at hg;split at hg
  .obtain⟨h1,h2⟩:=R.bf hg;cases h2;exact⟨_,_,Rep.int.mp ra,Rep.int.mp rb,hc _ _ h1,q _ H (aR.refl H) (Rep.int.mpr rfl)⟩
  .cases hg
def CI(g:Int->Int->Int):D->D->R D
 | .int i, .int j=> .ok (.int (g i j))
 | _,_=> .no
theorem wy{f:Value->Value->Sem Value}{g:Int->Int->Int}(h:l9 X f (Cr fun i j=> .int (g i j))):jE X f (CI g):=
 jE.of h fun B H da db d x y Q _ ra rb hg q=>by
  unfold CI at hg;split at hg
  .cases hg;exact⟨_,_,Rep.int.mp ra,Rep.int.mp rb,q _ H (aR.refl H) (Rep.int.mpr rfl)⟩
  .cases hg
def AG(g:Int->Int->Bool):D->D->R D
 | .int i, .int j=> .ok (.bl (g i j))
 | _,_=> .no
theorem Bi{f:Value->Value->Sem Value}{g:Int->Int->Bool}(h:l9 X f (Cr fun i j=> .bl (g i j))):jE X f (AG g):=
 jE.of h fun B H da db d x y Q _ ra rb hg q=>by
  unfold AG at hg;split at hg
  .cases hg;exact⟨_,_,Rep.int.mp ra,Rep.int.mp rb,q _ H (aR.refl H) (Rep.bl.mpr rfl)⟩
  .cases hg
abbrev rj:D->D->R D:=CI fun i j=>i - j
theorem qK:jE X (binaryOp .Sub) rj:=wy K4
abbrev U7:D->D->R D:=xk (fun _ j=>decide (0 < j/\j < 1073741824)) fun i j=>i / j
abbrev qt:D->D->R D:=xk (fun _ j=>decide (0 < j)) fun i j=>i % j
theorem oU:jE X (binaryOp .Mod) qt:=BF LB fun i j h=>of_decide_eq_true h
abbrev Lv:D->D->R D:=xk (fun i j=>decide (0<=j/\j<=1000000/\i.natAbs < 2 ^ 64)) fun i j=>i ^ j.toNat
theorem Kf:jE X (binaryOp .Pow) Lv:=BF Mj fun i j h=>(of_decide_eq_true h:0<=j/\j<=1000000/\i.natAbs < 2 ^ 64)
abbrev EW:D->D->R D:=xk (fun _ j=>decide (0<=j)) fun i j=>i / 2 ^ j.toNat
theorem NX:jE X (binaryOp .RShift) EW:=BF Mu fun i j h=>of_decide_eq_true h
abbrev Dv:D->D->R D:=CI fun i j=>Builtin.bitAnd i j
theorem yp:jE X (binaryOp .BitAnd) Dv:=wy K9
abbrev G7:D->D->R D:=CI fun i j=>Builtin.bitOr i j
theorem yq:jE X (binaryOp .BitOr) G7:=wy NH
abbrev Dw:D->D->R D:=CI fun i j=>Builtin.bitXor i j
theorem xW:jE X (binaryOp .BitXor) Dw:=wy L9
abbrev IP:D->D->R D:=AG fun i j=>decide (i < j)
theorem Fq:jE X (compareOp .Lt) IP:=Bi Oi
abbrev Qa:D->D->R D:=AG fun i j=>decide (i<=j)
theorem Rt:jE X (compareOp .LtE) Qa:=Bi OR
abbrev Nb:D->D->R D:=AG fun i j=>decide (j < i)
theorem Nx:jE X (compareOp .Gt) Nb:=Bi Np
abbrev U0:D->D->R D:=AG fun i j=>decide (j<=i)
theorem RN:jE X (compareOp .GtE) U0:=Bi OM
theorem uh.wa{K:W.Frag}{B:List Addr}{H:Hp}{a:Addr}{xs:List V}(h:H a=some (.lst xs))(n:a ∉ B):uh K B H a xs:= .inl ⟨n, .inl h⟩
theorem Inv.OO{pins:Aaa}{s:Shared}{a:Addr}{xs:List V}{B:List Addr}(I:Inv X pins σ H s)(h:uh X.K B H a xs):∃(its:List Value) (n:Nat),Vals xs its/\s.heap.get? a=some {cls:= .type "list",data:= .seq its.toArray n}/\xs.length<=sizeLine:=by
 rcases h with⟨_,h⟩ | ⟨its,n,hk,hz,r⟩
 .obtain⟨z,its,n,r,e⟩:=h.ok I.hok;exact⟨its,n,r,e,z⟩
 .exact⟨its,n,r,I.pX a _ hk,hz⟩
theorem Bt:l9 X (binaryOp .Add) (fun x y H Q=>∃B l b xs zs,x= .ref l/\y= .ref b/\uh X.K B H l xs/\uh X.K B H b zs/\xs.length+zs.length<=sizeLine/\∀p,H p=none->Q (.ref p) (upd H p (.lst (xs++zs)))):=by
 intro pins s σ H x y v u Q I rx ry h;obtain⟨B,l,b,xs,zs,rfl,rfl,hH,hB,hz,q⟩:=h;cases rx;cases ry;obtain⟨its,n,r,e,_⟩:=I.OO hH;obtain⟨JJ,n2,r2,e2,_⟩:=I.OO hB;have l1:=r.length;have l2:=r2.length;refine PySem.P.add_list e e2 ?_ (by rw[List.size_toArray,List.size_toArray];omega)
 have ea:its.toArray++JJ.toArray=(its++JJ).toArray:=by simp
 rw[ea];exact⟨.ref _,_,I.Hn (t':=s.toks) (r.append r2) (by rw[List.length_append];omega),rfl,q _ I.fresh⟩
def dE:D->D->R D
 | .int i, .int j=> .ok (.int (i+j))
 | .str a, .str b=>R.bh (decide (a.length+b.length<=sizeLine)) (.ok (.str (a++b)))
 | .lst a, .lst b=>R.bh (decide (a.length+b.length<=sizeLine)) (.ok (.lst (a++b)))
 | _,_=> .no
theorem eV:jE X (binaryOp .Add) dE:=by
 intro pins s σ H B da db d x y v u I hb rx ry ra rb hg;unfold dE at hg;split at hg
 .cases hg;exact Lj pins s σ H x y v u _ I rx ry ⟨_,_,Rep.int.mp ra,Rep.int.mp rb,aR.refl H,Rep.int.mpr rfl⟩
 .obtain⟨h1,h2⟩:=R.bf hg;cases h2;exact Ai pins s σ H x y v u _ I rx ry ⟨_,_,Rep.str.mp ra,Rep.str.mp rb,of_decide_eq_true h1,aR.refl H,Rep.str.mpr rfl⟩
 .obtain⟨h1,h2⟩:=R.bf hg;cases h2;obtain⟨a1,To,rfl,l1,r1⟩:=Rep.lst.mp ra;obtain⟨a2,So,rfl,l2,r2⟩:=Rep.lst.mp rb;refine Bt pins s σ H _ _ v u _ I rx ry ⟨B,a1,a2,To,So,rfl,rfl,l1,l2,by rw[<-r1.length,<-r2.length];exact of_decide_eq_true h1,fun p hp=>⟨aN hp,Rep.lst.mpr ⟨p,_,rfl, .wa aT fun ha=>?_,(r1.append r2).same (aN hp)⟩⟩⟩
  obtain⟨o,ho⟩:=hb p ha;rw[hp] at ho;cases ho
 .cases hg
theorem JG:l9 X (binaryOp .Mult) (fun x y H Q=>∃z n,x= .str z/\y= .int n/\MulOk z n/\Q (.str (Txt.mul z n)) H):=by
 intro pins s σ H x y v u Q I rx ry h;obtain⟨z,n,rfl,rfl,hm,q⟩:=h;obtain⟨t,rfl⟩:=rx;obtain⟨t',rfl⟩:=ry;exact SB.mul hm fun t2 k=>⟨.str _,H,I.tok _,⟨_,rfl⟩,q⟩
end
end L2
end
section
namespace L2
open PySem PySem.Spec PyProof.Rows
section
variable {X:Cx}
theorem mulOk_of{x:Str}{n:Int}(h1: -(2 ^ 63)<=n)(h2:n < 2 ^ 63)(h3:x.length*n.toNat<=sizeLine):MulOk x n:=by
 refine⟨by simp only[Bool.or_eq_false_iff,decide_eq_false_iff_not];omega,fun hn _=>?_,fun hn _=>?_⟩
 .have hz:sizeLine=16777216:=sizeLine_eq;have e:(n.toNat:Int)=n:=by omega
  have h4:(x.length:Int)*n<=16777216:=by
   have:((x.length*n.toNat:Nat):Int)<=((16777216:Nat):Int):=Int.ofNat_le.mpr (by omega)
   rw[Int.natCast_mul,e] at this;exact this
  have:(x.length:Int)<=(2 ^ 63 - 1) / n:=(Int.le_ediv_iff_mul_le (by omega)).mpr (by omega)
  omega
 .unfold Builtin.Str.tooLong;exact decide_eq_false (by omega)
def l3:D->D->R D
 | .int i, .int j=>R.bh (decide ((-(2 ^ 64) < i/\i < 2 ^ 64)\/(-(2 ^ 64) < j/\j < 2 ^ 64))) (.ok (.int (i*j)))
 | .str x, .int n=>R.bh (decide (-(2 ^ 63)<=n/\n < 2 ^ 63/\x.length*n.toNat<=sizeLine)) (.ok (.str (Txt.mul x n)))
 | _,_=> .no
theorem vf:jE X (binaryOp .Mult) l3:=by
 intro pins s σ H B da db d x y v u I hb rx ry ra rb hg;unfold l3 at hg;split at hg
 .obtain⟨h1,h2⟩:=R.bf hg;cases h2;have h1:=of_decide_eq_true h1;exact K7 pins s σ H x y v u _ I rx ry ⟨_,_,Rep.int.mp ra,Rep.int.mp rb,h1,aR.refl H,Rep.int.mpr rfl⟩
 .obtain⟨h1,h2⟩:=R.bf hg;cases h2;have h1:=of_decide_eq_true h1;exact JG pins s σ H x y v u _ I rx ry ⟨_,_,Rep.str.mp ra,Rep.int.mp rb,mulOk_of h1.1 h1.2.1 h1.2.2,aR.refl H,Rep.str.mpr rfl⟩
 .cases hg
mutual
def toPy:D->PyData
 | .cR=> .none
 | .bl b=> .bool b
 | .int i=> .int i
 | .str x=> .str x
 | .lst ds=> .list (lU ds)
 | .tup ds=> .tuple (lU ds)
 | .dct _ _=> .dict []
def lU:List D->List PyData
 | []=>[]
 | d ::ds=>toPy d ::lU ds
end
mutual
def d8:D->Bool
 | .dct _ _=>false
 | .lst ds=>jH ds
 | .tup ds=>jH ds
 | _=>true
def jH:List D->Bool
 | []=>true
 | d ::ds=>d8 d && jH ds
end
mutual
theorem Rep.reads{pins:Aaa}{s:Shared}{B:List Addr}(I:Inv X pins σ H s):∀{d:D} {v:V} {u:Value},d8 d=true->Rep X.K B H d v->RelV v u->∃as,Reads s.heap u (toPy d) as
 | .cR,v,u,_,r,q=>by rw[Rep.cR.mp r] at q;cases q;unfold toPy;exact⟨_, .none⟩
 | .bl b,v,u,_,r,q=>by rw[Rep.bl.mp r] at q;cases q;unfold toPy;exact⟨_, .bool b⟩
 | .int i,v,u,_,r,q=>by rw[Rep.int.mp r] at q;obtain⟨t,rfl⟩:=q;unfold toPy;exact⟨_, .int i t⟩
 | .str x,v,u,_,r,q=>by rw[Rep.str.mp r] at q;obtain⟨t,rfl⟩:=q;unfold toPy;exact⟨_, .str x t⟩
 | .lst ds,v,u,hp,r,q=>by
   obtain⟨a,xs,rfl,l,rs⟩:=Rep.lst.mp r;cases q;obtain⟨its,rv,⟨o,n,e,hc,hd,he⟩,_⟩:=I.list l.sq;obtain⟨as,ra⟩:=aF.reads I (by unfold d8 at hp;exact hp) rs rv
   unfold toPy;exact⟨_, .list e hc he (by simpa using ra)⟩
 | .tup ds,v,u,hp,r,q=>by
   obtain⟨a,xs,rfl,l,rs⟩:=Rep.tup.mp r;cases q;obtain⟨its,rv,⟨o,e,hc,n,hd⟩,_⟩:=I.tuple l.sq;obtain⟨as,ra⟩:=aF.reads I (by unfold d8 at hp;exact hp) rs rv
   unfold toPy;exact⟨_, .tuple e hc hd (by simpa using ra)⟩
 | .dct _ _,v,u,hp,r,q=>by unfold d8 at hp;cases hp
theorem aF.reads{pins:Aaa}{s:Shared}{B:List Addr}(I:Inv X pins σ H s):∀{ds:List D} {vs:List V} {us:List Value},jH ds=true->aF X.K B H ds vs->Vals vs us->∃as,ReadsAll s.heap us (lU ds) as
 | [],vs,us,_,r,q=>by unfold aF at r;subst r;cases q;unfold lU;exact⟨_, .nil⟩
 | d ::ds,vs,us,hp,r,q=>by
   obtain⟨x,xs,rfl,r1,r2⟩:=r.cb;cases q with
   | cons q1 q2=>
     unfold jH at hp;obtain⟨h1,h2⟩:=Bool.and_eq_true_iff.mp hp;obtain⟨as,a1⟩:=Rep.reads I h1 r1 q1;obtain⟨bs,a2⟩:=aF.reads I h2 r2 q2;unfold lU;exact⟨_, .cons a1 a2⟩
end
def G2:D->D->R Bool
 | .int i, .int j=> .ok (decide (i=j))
 | .str x, .str y=> .ok (decide (x=y))
 | .bl a, .bl b=> .ok (decide (a=b))
 | d,e=>R.bh (d8 d && d8 e && SeqAt.shaped (toPy d) && SeqAt.shaped (toPy e)) (.ok (PyData.eqv (toPy d) (toPy e)))
def il(d e:D):R D:=(G2 d e).bind fun b=> .ok (.bl b)
def yN(d e:D):R D:=(G2 d e).bind fun b=> .ok (.bl (!b))
theorem iB(hu:X.A.units+64 < cLine):jE X (compareOp .Eq) il:=by
 intro pins s σ H B da db d x y v u I hb rx ry ra rb hg;obtain⟨b,h1,h2⟩:=R.ai hg;cases h2;unfold G2 at h1;split at h1
 .cases h1;rename_i i j;have:=D9 pins s σ H x y v u (fun z H'=>aR H H'/\Rep X.K B H' (.bl (decide (i=j))) z) I rx ry
  rw[Rep.int.mp ra,Rep.int.mp rb] at this;refine this ⟨rfl,aR.refl H,Rep.bl.mpr ?_⟩;simp [V.int.injEq]
 .cases h1;rename_i i j;have:=D9 pins s σ H x y v u (fun z H'=>aR H H'/\Rep X.K B H' (.bl (decide (i=j))) z) I rx ry
  rw[Rep.str.mp ra,Rep.str.mp rb] at this;refine this ⟨rfl,aR.refl H,Rep.bl.mpr ?_⟩;simp [V.str.injEq]
 .cases h1;rename_i i j;have:=D9 pins s σ H x y v u (fun z H'=>aR H H'/\Rep X.K B H' (.bl (decide (i=j))) z) I rx ry
  rw[Rep.bl.mp ra,Rep.bl.mp rb] at this;refine this ⟨rfl,aR.refl H,Rep.bl.mpr ?_⟩;simp [V.bl.injEq]
 .obtain⟨h3,h4⟩:=R.bf h1;cases h4;simp only[Bool.and_eq_true] at h3;obtain⟨⟨⟨p1,p2⟩,s1⟩,s2⟩:=h3;obtain⟨as,r1⟩:=ra.reads I p1 rx;obtain⟨bs,r2⟩:=rb.reads I p2 ry;exact eq_dataH r1 r2 s1 s2 hu ⟨.bl _,H,I,rfl,aR.refl H,Rep.bl.mpr rfl⟩
theorem uk(hu:X.A.units+64 < cLine):jE X (compareOp .NotEq) yN:=by
 intro pins s σ H B da db d x y v u I hb rx ry ra rb hg;obtain⟨b,h1,h2⟩:=R.ai hg;cases h2;unfold G2 at h1;split at h1
 .cases h1;rename_i i j;have:=DH pins s σ H x y v u (fun z H'=>aR H H'/\Rep X.K B H' (.bl (!decide (i=j))) z) I rx ry
  rw[Rep.int.mp ra,Rep.int.mp rb] at this;refine this ⟨rfl,aR.refl H,Rep.bl.mpr ?_⟩;simp [V.int.injEq]
 .cases h1;rename_i i j;have:=DH pins s σ H x y v u (fun z H'=>aR H H'/\Rep X.K B H' (.bl (!decide (i=j))) z) I rx ry
  rw[Rep.str.mp ra,Rep.str.mp rb] at this;refine this ⟨rfl,aR.refl H,Rep.bl.mpr ?_⟩;simp [V.str.injEq]
 .cases h1;rename_i i j;have:=DH pins s σ H x y v u (fun z H'=>aR H H'/\Rep X.K B H' (.bl (!decide (i=j))) z) I rx ry
  rw[Rep.bl.mp ra,Rep.bl.mp rb] at this;refine this ⟨rfl,aR.refl H,Rep.bl.mpr ?_⟩;simp [V.bl.injEq]
 .obtain⟨h3,h4⟩:=R.bf h1;cases h4;simp only[Bool.and_eq_true] at h3;obtain⟨⟨⟨p1,p2⟩,s1⟩,s2⟩:=h3;obtain⟨as,r1⟩:=ra.reads I p1 rx;obtain⟨bs,r2⟩:=rb.reads I p2 ry;exact ne_dataH r1 r2 s1 s2 hu ⟨.bl _,H,I,rfl,aR.refl H,Rep.bl.mpr rfl⟩
def strs?:List D->Option (List Str)
 | []=>some []
 | .str x ::ds=>(strs? ds).map (x ::·)
 | _ ::_=>none
theorem kO{K:W.Frag}{B:List Addr}:∀{ds:List D} {xs:List V} {ss:List Str},aF K B H ds xs->strs? ds=some ss->xs=ss.map V.str
 | [],xs,ss,r,h=>by unfold aF at r;subst r;cases h;rfl
 | d ::ds,xs,ss,r,h=>by
   obtain⟨x,r',rfl,r1,r2⟩:=r.cb;cases d with
   | str z=>
     unfold strs? at h;cases e:strs? ds with
     | none=>rw [e] at h;cases h
     | some tt=>
       rw[e] at h;cases h;rw[Rep.str.mp r1,kO r2 e];rfl
   | _=>cases h
def ints?:List D->Option (List Int)
 | []=>some []
 | .int x ::ds=>(ints? ds).map (x ::·)
 | _ ::_=>none
theorem gf{K:W.Frag}{B:List Addr}:∀{ds:List D} {xs:List V} {ss:List Int},aF K B H ds xs->ints? ds=some ss->xs=ss.map V.int
 | [],xs,ss,r,h=>by unfold aF at r;subst r;cases h;rfl
 | d ::ds,xs,ss,r,h=>by
   obtain⟨x,r',rfl,r1,r2⟩:=r.cb;cases d with
   | int z=>
     unfold ints? at h;cases e:ints? ds with
     | none=>rw [e] at h;cases h
     | some tt=>
       rw[e] at h;cases h;rw[Rep.int.mp r1,gf r2 e];rfl
   | _=>cases h
def inD(d e:D):R Bool:=match d,e with
 | .str x, .lst ds=>(match strs? ds with | some ss=> .ok (ss.contains x) | none=> .no)
 | .str x, .tup ds=>(match strs? ds with | some ss=> .ok (ss.contains x) | none=> .no)
 | .str x, .str y=> .ok (!(Builtin.Str.occurrences y x 0 y.length 1).isEmpty)
 | .int x, .lst ds=>(match ints? ds with | some ss=> .ok (ss.contains x) | none=> .no)
 | .int x, .tup ds=>(match ints? ds with | some ss=> .ok (ss.contains x) | none=> .no)
 | _,_=> .no
def u0(d e:D):R D:=(inD d e).bind fun b=> .ok (.bl b)
def RS(d e:D):R D:=(inD d e).bind fun b=> .ok (.bl (!b))
theorem sP(x:Str):∀ss:List Str,J3 (.str x) (ss.map V.str)=ss.contains x
 | []=>rfl
 | y ::ss=>by
   unfold J3;rw[List.map_cons,List.any_cons];have ih:=sP x ss;unfold J3 at ih;rw[ih];show(y==x || ss.contains x)=_
   rw[List.contains_cons];congr 1;exact Bool.eq_iff_iff.mpr ⟨fun h=>by simpa using(beq_iff_eq.mp h).symm,fun h=>by simpa using(beq_iff_eq.mp h).symm⟩
theorem sJ(x:Int):∀ss:List Int,J3 (.int x) (ss.map V.int)=ss.contains x
 | []=>rfl
 | y ::ss=>by
   unfold J3;rw[List.map_cons,List.any_cons];have ih:=sJ x ss;unfold J3 at ih;rw[ih];show(y==x || ss.contains x)=_
   rw[List.contains_cons];congr 1;exact Bool.eq_iff_iff.mpr ⟨fun h=>by simpa using(beq_iff_eq.mp h).symm,fun h=>by simpa using(beq_iff_eq.mp h).symm⟩
theorem uK(ss:List Int):(ss.map V.int).all lV=true:=by
 rw[List.all_map];simp [List.all_eq_true,lV]
theorem vz(ss:List Str):(ss.map V.str).all lV=true:=by
 rw[List.all_map];simp [List.all_eq_true,lV]
theorem Lu{neg:Bool}{op:CmpOp}{g:D->D->R D}(h1:l9 X (compareOp op) (UZ X.K neg))(h2:l9 X (compareOp op) (fun x y H Q=>∃i j,x= .str i/\y= .str j/\Q (.bl (if neg then !(!(Builtin.Str.occurrences j i 0 j.length 1).isEmpty) else(!(Builtin.Str.occurrences j i 0 j.length 1).isEmpty))) H))
 (hg:∀d e r,g d e= .ok r->∃b,inD d e= .ok b/\r= .bl (if neg then !b else b)):jE X (compareOp op) g:=by
 intro pins s σ H B da db d x y v u I hb rx ry ra rb hg';obtain⟨b,hi,rfl⟩:=hg da db d hg';unfold inD at hi;split at hi
 .rename_i z ds;split at hi
  .rename_i ss e;cases hi;obtain⟨a,xs,rfl,l,rs⟩:=Rep.lst.mp rb;refine h1 pins s σ H x _ v u _ I rx ry ⟨a,xs,rfl, .inl l.sq,by rw[Rep.str.mp ra];rfl,by rw[kO rs e];exact vz _,aR.refl H,Rep.bl.mpr ?_⟩
   rw[kO rs e,Rep.str.mp ra,sP]
  .cases hi
 .rename_i z ds;split at hi
  .rename_i ss e;cases hi;obtain⟨a,xs,rfl,l,rs⟩:=Rep.tup.mp rb;refine h1 pins s σ H x _ v u _ I rx ry ⟨a,xs,rfl, .inr l.sq,by rw[Rep.str.mp ra];rfl,by rw[kO rs e];exact vz _,aR.refl H,Rep.bl.mpr ?_⟩
   rw[kO rs e,Rep.str.mp ra,sP]
  .cases hi
 .cases hi;exact h2 pins s σ H x y v u _ I rx ry ⟨_,_,Rep.str.mp ra,Rep.str.mp rb,aR.refl H,Rep.bl.mpr rfl⟩
 .rename_i z ds;split at hi
  .rename_i ss e;cases hi;obtain⟨a,xs,rfl,l,rs⟩:=Rep.lst.mp rb;refine h1 pins s σ H x _ v u _ I rx ry ⟨a,xs,rfl, .inl l.sq,by rw[Rep.int.mp ra];rfl,by rw[gf rs e];exact uK _,aR.refl H,Rep.bl.mpr ?_⟩
   rw[gf rs e,Rep.int.mp ra,sJ]
  .cases hi
 .rename_i z ds;split at hi
  .rename_i ss e;cases hi;obtain⟨a,xs,rfl,l,rs⟩:=Rep.tup.mp rb;refine h1 pins s σ H x _ v u _ I rx ry ⟨a,xs,rfl, .inr l.sq,by rw[Rep.int.mp ra];rfl,by rw[gf rs e];exact uK _,aR.refl H,Rep.bl.mpr ?_⟩
   rw[gf rs e,Rep.int.mp ra,sJ]
  .cases hi
 .cases hi
theorem C3:jE X (compareOp .In) u0:=Lu (neg:=false) Cq BS fun d e r h=>by
 obtain⟨b,h1,h2⟩:=R.ai h;cases h2;exact⟨b,h1,rfl⟩
def b_(d e:D):R D:=match d,e with
 | .lst ds, .int i=>(match rn ds i with | some x=> .ok x | none=> .no)
 | .tup ds, .int i=>(match rn ds i with | some x=> .ok x | none=> .no)
 | .str x, .int i=>R.bh (decide (x.length<=sizeLine)) (match rn x.cps.toList i with | some c=> .ok (.str ⟨#[c]⟩) | none=> .no)
 | _,_=> .no
theorem pq{K:W.Frag}{B:List Addr}{ds:List D}{xs:List V}{i:Int}{d:D}(r:aF K B H ds xs)(h:rn ds i=some d):∃x,rn xs i=some x/\Rep K B H d x:=by
 unfold rn at h ⊢;rw[<-r.length];cases e:yT ds.length i with
 | none=>rw [e] at h;cases h
 | some j=>
   rw[e] at h;exact r.get h
theorem Ow(ha:PD X a fa)(hb:PD X b fb)(hs:rO b):PD X (.Subscript a b pos) (e2 b_ fa fb):=by
 refine(J9 (r:=QZ X.K) Gp ha hb hs).imp fun σ H Q ⟨Z,B,δ,d,E,hf,q⟩=>?_
 obtain⟨d1,h1,h2⟩:=R.ai hf;obtain⟨d2,h3,h4⟩:=R.ai h2;refine⟨Z,B,δ,d1,E,h1,fun v1 H1 s1 r1=>⟨Z,B,δ,d2,E.same s1,h3,fun v2 H2 s2 r2=>?_⟩⟩
 have qX:=r1.same s2;unfold b_ at h4;split at h4
 .split at h4
  .rename_i e;cases h4;obtain⟨p,xs,rfl,l,rs⟩:=Rep.lst.mp qX;obtain⟨y,e1,e2⟩:=pq rs e;exact .inl ⟨p,xs,_,y,rfl,Rep.int.mp r2,l.sq,e1,q y H2 (s1.trans s2) e2⟩
  .cases h4
 .split at h4
  .rename_i e;cases h4;obtain⟨p,xs,rfl,l,rs⟩:=Rep.tup.mp qX;obtain⟨y,e1,e2⟩:=pq rs e;exact .inr (.inl ⟨p,xs,_,y,rfl,Rep.int.mp r2,l.sq,e1,q y H2 (s1.trans s2) e2⟩)
  .cases h4
 .obtain⟨hl,h5⟩:=R.bf h4;split at h5
  .rename_i e;cases h5;exact .inr (.inr ⟨_,_,_,Rep.str.mp qX,Rep.int.mp r2,of_decide_eq_true hl,e,q _ H2 (s1.trans s2) (Rep.str.mpr rfl)⟩)
  .cases h5
 .cases h4
abbrev FO:=au->R (Option Int)
def XM(K:W.Frag)(f:FO):TO:=fun σ H Q=>∃Z B δ o,dR K Z B H σ δ/\f δ= .ok o/\∀H',aR H H'->Q o H'
theorem PO.imp{X:Cx}{e:Option Expr}{t t':TO}(h:PO X e t)(w:∀σ H Q,t' σ H Q->t σ H Q):PO X e t':=fun pins s σ H Q I hq=>h pins s σ H Q I (w σ H Q hq)
abbrev PP(X:Cx)(e:Option Expr)(f:FO):Prop:=PO X e (XM X.K f)
def uM:FO:=fun _=> .ok none
def nL(f:FD):FO:=fun δ=>(f δ).bind fun d=>match d with | .int i=> .ok (some i) | _=> .no
theorem Ir:PP X none uM:=Iq.imp fun σ H Q ⟨Z,B,δ,o,E,hf,q⟩=>by cases hf;exact q H (aR.refl H)
theorem Ia(h:PD X e f):PP X (some e) (nL f):=(IL h).imp fun σ H Q ⟨Z,B,δ,o,E,hf,q⟩=>by
 obtain⟨d,h1,h2⟩:=R.ai hf;cases d with
 | int i=>cases h2;exact⟨Z,B,δ, .int i,E,h1,fun v H1 s1 r1=>⟨i,Rep.int.mp r1,q H1 s1⟩⟩
 | _=>cases h2
theorem Mm:Jw X (fun x lo hi H Q=>∃z,x= .str z/\z.length<=sizeLine/\Q (.str (Txt.slice z lo hi)) H):=by
 intro pins s σ H x v vl vu lo hi sl Q I rx hs pl pu h;obtain⟨z,rfl,hz,q⟩:=h;obtain⟨t,rfl⟩:=rx;refine⟨"str",_,F.slot_str_getitem.lookup,typeIs_str _ _ _,?_⟩;have fin:∀t' k,EP X pins σ Q (.str (Txt.slice z lo hi) t') {s with toks:=k}:=fun t' k=>⟨.str _,H,I.tok _,⟨_,rfl⟩,q⟩
 obtain⟨o,ho,hc,hd⟩:=hs;cases pl with
 | none=>
   cases pu with
   | none=>exact wpAny_getItem_str_slice (l:=none) (u:=none) (st:=none) ⟨o,ho,hc,hd⟩ rfl (post_val_or_str ⟨Nat.le_trans (Txt.slice_le z _ _) hz,fin⟩)
   | int j u=>exact wpAny_getItem_str_slice (l:=none) (u:=some (j,u)) (st:=none) ⟨o,ho,hc,hd⟩ rfl (post_val_or_str ⟨Nat.le_trans (Txt.slice_le z _ _) hz,fin⟩)
 | int i t1=>
   cases pu with
   | none=>exact wpAny_getItem_str_slice (l:=some (i,t1)) (u:=none) (st:=none) ⟨o,ho,hc,hd⟩ rfl (post_val_or_str ⟨Nat.le_trans (Txt.slice_le z _ _) hz,fin⟩)
   | int j u=>exact wpAny_getItem_str_slice (l:=some (i,t1)) (u:=some (j,u)) (st:=none) ⟨o,ho,hc,hd⟩ rfl (post_val_or_str ⟨Nat.le_trans (Txt.slice_le z _ _) hz,fin⟩)
def cutD{α:Type}(xs:List α)(lo hi:Option Int):List α:=(xs.drop (HT.eG xs.length 0 lo)).take (HT.eG xs.length xs.length hi - HT.eG xs.length 0 lo)
def LO(d:D)(lo hi:Option Int):R D:=match d with
 | .str x=>R.bh (decide (x.length<=sizeLine)) (.ok (.str (Txt.slice x lo hi)))
 | .lst ds=> .ok (.lst (cutD ds lo hi))
 | _=> .no
theorem xx{K:W.Frag}{B:List Addr}{ds:List D}{xs:List V}(r:aF K B H ds xs)(lo hi:Option Int):aF K B H (cutD ds lo hi) (ym xs lo hi):=by
 unfold cutD ym;rw[<-r.length];exact(r.drop _).take _
def JY(f:FD)(fl fh:FO):FD:=fun δ=>(f δ).bind fun d=>(fl δ).bind fun lo=>(fh δ).bind fun hi=>LO d lo hi
theorem OD{lo hi:Option Expr}{fl fh:FO}(he:PD X e f)(hl:PP X lo fl)(hh:PP X hi fh):PD X (.Subscript e (.Slice lo hi none p2) pos) (JY f fl fh):=by
 refine(yt (Mm.or Jb) he hl hh).imp fun σ H Q ⟨Z,B,δ,d,E,hf,q⟩=>?_
 obtain⟨d1,h1,h2⟩:=R.ai hf;obtain⟨l,h3,h4⟩:=R.ai h2;obtain⟨h,h5,h6⟩:=R.ai h4;refine⟨Z,B,δ,d1,E,h1,fun v1 H1 s1 r1=>⟨Z,B,δ,l,E.same s1,h3,fun H2 s2=>⟨Z,B,δ,h,(E.same s1).same s2,h5,fun H3 s3=>?_⟩⟩⟩
 have sA:aR H H3:=s1.trans (s2.trans s3);have qX:=r1.same (s2.trans s3);unfold LO at h6;split at h6
 .obtain⟨hz,h7⟩:=R.bf h6;cases h7;exact .inl ⟨_,Rep.str.mp qX,of_decide_eq_true hz,q _ H3 sA (Rep.str.mpr rfl)⟩
 .cases h6;obtain⟨a,xs,rfl,ls,rs⟩:=Rep.lst.mp qX;refine .inr ⟨a,xs,rfl,ls.sq,fun p hp=>q _ _ (sA.trans (aN hp)) (Rep.lst.mpr ⟨p,_,rfl, .wa aT fun ha=>?_,(xx rs l h).same (aN hp)⟩)⟩
  obtain⟨o,ho⟩:=(E.same sA).bs p ha;rw[hp] at ho;cases ho
 .cases h6
end
end L2
end
section
namespace L2
open PySem PySem.Spec PyProof.Rows
section
variable {X:Cx}
theorem aF.one{K:W.Frag}{B:List Addr}{d:D}{xs:List V}(h:aF K B H [d] xs):∃x,xs=[x]/\Rep K B H d x:=by
 obtain⟨x,r,rfl,h1,h2⟩:=h.cb;unfold aF at h2;subst h2;exact⟨x,rfl,h1⟩
theorem aF.two{K:W.Frag}{B:List Addr}{d e:D}{xs:List V}(h:aF K B H [d,e] xs):∃x y,xs=[x,y]/\Rep K B H d x/\Rep K B H e y:=by
 obtain⟨x,r,rfl,h1,h2⟩:=h.cb;obtain⟨y,rfl,h3⟩:=h2.one;exact⟨x,y,rfl,h1,h3⟩
def dh:List D->R D
 | [.str x]=>R.bh (decide (x.length<=sizeLine)) (.ok (.int x.length))
 | [.lst ds]=> .ok (.int ds.length)
 | [.tup ds]=> .ok (.int ds.length)
 | _=> .no
theorem dm:c7 X (.builtin "len") dh:=c7.of Ea fun B H ds d xs Q _ rs hg q=>by
 unfold dh at hg;split at hg
 .obtain⟨h1,h2⟩:=R.bf hg;cases h2;obtain⟨x,rfl,r⟩:=rs.one;exact⟨x,_,rfl,by rw[Rep.str.mp r];exact⟨of_decide_eq_true h1,rfl⟩,q _ H (aR.refl H) (Rep.int.mpr rfl)⟩
 .cases hg;obtain⟨x,rfl,r⟩:=rs.one;obtain⟨a,ys,rfl,l,r⟩:=Rep.lst.mp r;exact⟨_,_,rfl, .inl ⟨ys,l.sq,rfl⟩,q _ H (aR.refl H) (Rep.int.mpr (by rw[r.length]))⟩
 .cases hg;obtain⟨x,rfl,r⟩:=rs.one;obtain⟨a,ys,rfl,l,r⟩:=Rep.tup.mp r;exact⟨_,_,rfl, .inr ⟨ys,l.sq,rfl⟩,q _ H (aR.refl H) (Rep.int.mpr (by rw[r.length]))⟩
 .cases hg
def cInt:List D->R D
 | [.int i]=> .ok (.int i)
 | [.bl b]=> .ok (.int (if b then 1 else 0))
 | _=> .no
theorem Nu:c7 X (.type "int") cInt:=c7.of Cj fun B H ds d xs Q _ rs hg q=>by
 unfold cInt at hg;split at hg
 .cases hg;obtain⟨x,rfl,r⟩:=rs.one;exact .inl ⟨_,by rw[Rep.int.mp r],q _ H (aR.refl H) (Rep.int.mpr rfl)⟩
 .cases hg;obtain⟨x,rfl,r⟩:=rs.one;exact .inr ⟨_,by rw[Rep.bl.mp r],q _ H (aR.refl H) (Rep.int.mpr rfl)⟩
 .cases hg
def cStr:List D->R D
 | [.int i]=>R.bh (decide (i.natAbs.log2 < 1920)) (.ok (.str (toString i)))
 | _=> .no
def L7:List D->R D
 | [.int i, .int j]=> .ok (.int (if j < i then j else i))
 | _=> .no
theorem Nq(hc:X.calm=true):c7 X (.builtin "min") L7:=c7.of (BW hc) fun B H ds d xs Q _ rs hg q=>by
 unfold L7 at hg;split at hg
 .cases hg;obtain⟨x,y,rfl,r1,r2⟩:=rs.two;exact⟨_,_,by rw[Rep.int.mp r1,Rep.int.mp r2],q _ H (aR.refl H) (Rep.int.mpr rfl)⟩
 .cases hg
def RV:List D->R D
 | [.int i, .int j]=> .ok (.int (if j > i then j else i))
 | _=> .no
def oy:List D->R D
 | [.lst ds]=> .ok (.tup ds)
 | [.tup ds]=> .ok (.tup ds)
 | _=> .no
theorem rP:c7 X (.type "tuple") oy:=c7.of uz fun B H ds d xs Q hb rs hg q=>by
 unfold oy at hg;split at hg
 .cases hg;obtain⟨x,rfl,r⟩:=rs.one;obtain⟨a,ys,rfl,l,r⟩:=Rep.lst.mp r;refine⟨a,ys,rfl, .inl ⟨l.sq,fun p hp=>q _ _ (aN hp) (Rep.tup.mpr ⟨p,ys,rfl, .inl ⟨fun ha=>?_, .inl aT⟩,r.same (aN hp)⟩)⟩⟩
  obtain⟨o,ho⟩:=hb p ha;rw[hp] at ho;cases ho
 .cases hg;obtain⟨x,rfl,r⟩:=rs.one;have r0:=r;obtain⟨a,ys,rfl,l,r⟩:=Rep.tup.mp r;exact⟨a,ys,rfl, .inr ⟨l.sq,q _ H (aR.refl H) r0⟩⟩
 .cases hg
def FJ:List D->R D
 | [.lst ds]=> .ok (.lst ds)
 | [.tup ds]=> .ok (.lst ds)
 | _=> .no
theorem K8:c7 X (.type "list") FJ:=c7.of vI fun B H ds d xs Q hb rs hg q=>by
 unfold FJ at hg;split at hg
 .cases hg;obtain⟨x,rfl,r⟩:=rs.one;obtain⟨a,ys,rfl,l,r⟩:=Rep.lst.mp r;refine⟨a,ys,rfl, .inl l.sq,fun p hp=>q _ _ (aN hp) (Rep.lst.mpr ⟨p,ys,rfl, .wa aT fun ha=>?_,r.same (aN hp)⟩)⟩
  obtain⟨o,ho⟩:=hb p ha;rw[hp] at ho;cases ho
 .cases hg;obtain⟨x,rfl,r⟩:=rs.one;obtain⟨a,ys,rfl,l,r⟩:=Rep.tup.mp r;refine⟨a,ys,rfl, .inr l.sq,fun p hp=>q _ _ (aN hp) (Rep.lst.mpr ⟨p,ys,rfl, .wa aT fun ha=>?_,r.same (aN hp)⟩)⟩
  obtain⟨o,ho⟩:=hb p ha;rw[hp] at ho;cases ho
 .cases hg
def cAbs:List D->R D
 | [.int i]=> .ok (.int (if i < 0 then -i else i))
 | _=> .no
theorem N9:c7 X (.builtin "abs") cAbs:=c7.of Ex fun B H ds d xs Q _ rs hg q=>by
 unfold cAbs at hg;split at hg
 .cases hg;obtain⟨x,rfl,r⟩:=rs.one;exact⟨_,by rw[Rep.int.mp r],q _ H (aR.refl H) (Rep.int.mpr rfl)⟩
 .cases hg
def Q2:List D->R D
 | [.lst ds]=>(match ints? ds with | some ns=> .ok (.int ns.sum) | none=> .no)
 | _=> .no
theorem nD:∀{ns:List Int} {us:List Value},Vals (ns.map V.int) us->∃l:List (Int × Tok),us=l.map (fun p=>Value.int p.1 p.2)/\l.map (·.1)=ns
 | [],_, .nil=>⟨[],rfl,rfl⟩
 | n ::ns,_, .cons r t=>by
   obtain⟨l,rfl,e⟩:=nD t;obtain⟨tk,rfl⟩:=r;exact⟨(n,tk) ::l,rfl,by rw[List.map_cons,e]⟩
def tyName:D->String
 | .cR=>"NoneType" | .bl _=>"bool" | .int _=>"int" | .str _=>"str" | .lst _=>"list" | .tup _=>"tuple" | .dct _ _=>"dict"
def WI(T:String)(f:FD):FD:=fun δ=>(f δ).bind fun d=>R.bh (tyName d==T && d.atom) (.ok (.bl true))
def PU(X:Cx)(id:String)(g:D->List D->R D):Prop:=
 ∀(pins:Aaa) (s:Shared) (σ:St) (H:Hp) (B:List Addr) (da d:D) (ds:List D) (x:V) (xs:List V) (v:Value) (us:List Value),Inv X pins σ H s->(∀a∈B,∃o,H a=some o)->RelV x v->Vals xs us->Rep X.K B H da x->aF X.K B H ds xs->g da ds= .ok d->
  wpAny (model X.prog X.w) X.A (call (.builtin id) (v ::us)) (EP X pins σ fun z H'=>aR H H'/\Rep X.K B H' d z) X.xe s
def Nt(T:String)(g:D->List D->R D)(f:FD)(fs:au->R (List D)):FD:=fun δ=>(f δ).bind fun d=>R.bh (tyName d==T && (d.atom || T=="list")) ((fs δ).bind fun ds=>g d ds)
theorem PU.r{id:String}{g:D->List D->R D}(h:PU X id g):U1 X id (fun x xs H Q=>∃B da ds d,(∀a∈B,∃o,H a=some o)/\Rep X.K B H da x/\aF X.K B H ds xs/\g da ds= .ok d/\∀z H',aR H H'->Rep X.K B H' d z->Q z H'):=by
 intro pins s σ H x xs v us Q I rx rxs ⟨B,da,ds,d,hb,ra,rs,hg,q⟩;exact c6 (h pins s σ H B da d ds x xs v us I hb rx rxs ra rs hg) fun z s' ⟨zv,H',I',r',s1,r1⟩=>⟨zv,H',I',r',q zv H' s1 r1⟩
theorem OI{T id:String}{name:Str}{g:D->List D->R D}{o e:Expr}{es:List Expr}{f:FD}{fs:au->R (List D)}{apos cx:Pos}(pa:PlainAttrs T)(slot:Slot T name id)(SR:typeOf (.builtin id)=pure (.type "method_descriptor"))(hm:PU X id g)(ho:PD X o f)(ha:EA X (e ::es) fs)
 (hT:T="str"\/T="int"\/T="list")
 (mW:attributeBase o name X.env (eval o X.env)=eval o X.env:=by rfl)
 (uf:((backTo cx (starEach (e ::es) X.env)).all (fun x=>!x.1) && (backToKw cx (keywordEach [] X.env)).all (fun x=>x.1.isSome)
   && decide ((e ::es).length+([]:List Keyword).length+(if([]:List Keyword).isEmpty then 0 else 1) < 30))=true:=by rfl)
 (mY:(apos.endLine==cx.line)=true:=by rfl) (hs:starEach (e ::es) X.env=(false,eval e X.env) ::starEach es X.env:=by rfl) (Al:(backTo cx (starEach es X.env)).any (·.1)=false:=by rfl) :
 PD X (.Call (.Attribute o name apos) (e ::es) [] cx) (Nt T g f fs):=by
 refine(DN pa slot SR hm.r ho ha mW uf mY hs Al).imp fun σ H Q ⟨Z,B,δ,d,E,hf,q⟩=>?_
 obtain⟨d1,h1,h2⟩:=R.ai hf;obtain⟨h3,h4⟩:=R.bf h2;obtain⟨ds,h5,h6⟩:=R.ai h4;obtain⟨h7,h8⟩:=Bool.and_eq_true_iff.mp h3;have h7:tyName d1=T:=by simpa using h7
 refine⟨Z,B,δ,d1,E,h1,fun v1 H1 s1 r1=>⟨?_,Z,B,δ,ds,E.same s1,h5,fun vs H2 s2 r2=>⟨B,d1,ds,d,(E.same (s1.trans s2)).bs,r1.same s2,r2,h6,fun z H' s3 r3=>q z H' (s1.trans (s2.trans s3)) r3⟩⟩⟩
 cases d1 with
 | str z=>rw [Rep.str.mp r1];exact h7.symm
 | int i=>rw [Rep.int.mp r1];exact h7.symm
 | lst es=>obtain⟨a,xs,rfl,l,_⟩:=Rep.lst.mp r1;exact .inl ⟨h7.symm,xs,l.sq⟩
 | cR=>rcases hT with z | z | z <;> (rw [z] at h7;exact absurd (show("NoneType":String)=_ from h7) (by decide))
 | bl _=>rcases hT with z | z | z <;> (rw [z] at h7;exact absurd (show("bool":String)=_ from h7) (by decide))
 | tup _=>rcases hT with z | z | z <;> (rw [z] at h7;exact absurd (show("tuple":String)=_ from h7) (by decide))
 | dct _ _=>rcases hT with z | z | z <;> (rw [z] at h7;exact absurd (show("dict":String)=_ from h7) (by decide))
def UM(d:D)(ds:List D):R D:=match d,ds with
 | .str sep,[.lst es]=>(match strs? es with | some ss=>R.bh (JoinOk sep ss) (.ok (.str (Str.join sep ss))) | none=> .no)
 | _,_=> .no
abbrev PJ(X:Cx)(es:List Expr)(f:au->R (List Str)):Prop:=
 ∀(pins:Aaa) (s:Shared) (σ:St) (H:Hp) (Z B:List Addr) (δ:au) (acc:Str) (ss:List Str) (Q:VK),Inv X pins σ H s->dR X.K Z B H σ δ->f δ= .ok ss->(ss.foldl (·++·) acc).length<=sizeLine->(∀H',aR H H'->Q (.str (ss.foldl (·++·) acc)) H')->
  wpAny (model X.prog X.w) X.A (joinParts acc (evalEach es X.env)) (EP X pins σ Q) X.xe s
def XJ:au->R (List Str):=fun _=> .ok []
def T6(f:FD)(g:au->R (List Str)):au->R (List Str):=fun δ=>(f δ).bind fun d=>match d with | .str x=>(g δ).bind fun ss=> .ok (x ::ss) | _=> .no
def P8(g:au->R (List Str)):FD:=fun δ=>(g δ).bind fun ss=>R.bh (decide ((ss.foldl (·++·) Str.empty).length<=sizeLine)) (.ok (.str (ss.foldl (·++·) Str.empty)))
def Qx:D->R D
 | .str x=>R.bh (decide (x.length<=sizeLine)) (.ok (.str x))
 | .int i=>R.bh (decide (i.natAbs.log2 < 1920)) (.ok (.str (toString i)))
 | _=> .no
def V_(f:FD):FD:=fun δ=>(f δ).bind Qx
def Oz:List (D × D)->Str->R (Option D)
 | [],_=> .ok none
 | (.str y,d) ::r,x=>(Oz r x).bind fun o=> .ok (match o with | some e=>some e | none=>if y=x then some d else none)
 | _ ::_,_=> .no
def NL(x:Str):List D:=x.cps.toList.map fun c=> .str ⟨#[c]⟩
def ZM(x:Str):It:=⟨fun i _=>i < x.cps.size,fun i H v H'=>H'=H/\∃c,x.cps[i]? =some c/\v= .str ⟨#[c]⟩,fun i _=>x.cps.size<=i⟩
def U_(f:FD):au->R (List D):=fun δ=>(f δ).bind fun d=>match d with | .str x=> .ok (NL x) | _=> .no
def Xx(K:W.Frag)(a:Addr):It:=
 ⟨fun i H=>∃xs x,oR K H a xs/\xs[i]? =some x,fun i H v H'=>∃p x,H p=none/\v= .ref p/\(∀xs,oR K H a xs->xs[i]? =some x)/\H'=upd H p (.tup [.int i,x]),fun i H=>∃xs,oR K H a xs/\xs.length<=i⟩
theorem Df{K:W.Frag}{k:Nat}(a e it:Addr)(Nj:e≠it):Turn P w K (.Tuple elts k pos) (Xx K a) [e,it] e (fun i h=>(∃old,IsEnum h e it ((i:Nat):Int) old)/\h.IsListIter it a i) where
 mem:=by simp
 obj:=fun i h st b hb=>by
  obtain⟨⟨old,he⟩,o,ho,c,d⟩:=st;rcases List.mem_cons.mp hb with rfl | hb
  .exact⟨_,he,fun v z=>by cases z⟩
  .have e:b=it:=by simpa using hb
   subst e;exact⟨o,ho,fun v z=>by rw[d] at z;cases z⟩
 keep:=fun i h h' st k=>by
  obtain⟨⟨old,he⟩,hi⟩:=st;exact⟨⟨old,k e (by simp) _ he⟩,hi.at fun o x=>k it (by simp) o x⟩
 item:=by
  intro X hP hw hK hc i pins s σ H E I hf st hg;subst hP hw hK;obtain⟨xs,x,hq,hx⟩:=hg;obtain⟨its,rv,p,hz⟩:=I.list hq;obtain⟨u,hu,ru⟩:=rv.get hx;obtain⟨⟨old,he⟩,hit⟩:=st;obtain⟨f0,f1,f2,f3,f4,f5⟩:=hf e (by simp)
  obtain⟨g0,g1,g2,g3,g4,g5⟩:=hf it (by simp)
  refine wpAny_pyNext_enum_item he hit p.isList (x:=u) (by simpa using hu) Nj fun iF Hg Av GS nV vE=>⟨_,rfl,?_⟩
  refine wpAny_letOwnedTupleGo_enum Hg fun f_ GJ cM=>?_
  replace cM:Heap.SameBut e iF f_:=cM
  have hel:e < s.heap.objs.size:=Heap.lt_size he;have yS:f_.get? s.heap.objs.size=some {cls:= .type "tuple",data:= .seq #[.int i s.toks,u]}:=(cM.2 _ (Nat.ne_of_gt hel)).trans GS;have kk:∀b o,b≠e->b≠it->s.heap.get? b=some o->f_.get? b=some o:=fun b o h1 h2 q=>(cM.2 b h1).trans (vE b o h1 h2 q)
  have hn:H s.heap.objs.size=none:=I.fresh;have sm:aR H (upd H s.heap.objs.size (.tup [.int i,x])):=aN hn;have nit:∀b o,H b=some o->b≠e/\b≠it:=fun b o q=>⟨fun z=>(by rw[z,f0] at q;cases q),fun z=>(by rw[z,g0] at q;cases q)⟩
  have hok:nu X.prog X.w (upd H s.heap.objs.size (.tup [.int i,x])) f_:=fun b ob q=>by
   by_cases hb:b=s.heap.objs.size
   .subst hb;rw[aT] at q;cases q;exact⟨by show 2<=sizeLine;decide,[.int i s.toks,u], .cons ⟨_,rfl⟩ (.cons ru .nil),⟨_,yS,rfl,_,rfl⟩⟩
   .rw [bg hb] at q;refine(I.hok b ob q).vJ (fun c v hc z=>?_) (fun c z=>sm c _ z) fun c ys z=>sm c _ z
    rcases hc with rfl | hc
    .exact kk c v (nit c _ q).1 (nit c _ q).2 z
    .exact kk c v (nit c _ hc).1 (nit c _ hc).2 z
  have nch:∀b,b ∉ [e,it]->b≠e/\b≠it:=fun b hb=>⟨fun z=>hb (by simp [z]),fun z=>hb (by simp [z])⟩
  have I2:Inv X pins σ (upd H s.heap.objs.size (.tup [.int i,x])) {s with heap:=f_,toks:=s.toks+1}:=by
   refine I.step (g':=s.gens) (d':=s.drawn) (ch:=[e,it]) (fun b hb=>?_) (fun b o _ _ hb q _=>kk b o (nch b hb).1 (nch b hb).2 q) (fun b o _ _ hb q _=>⟨o.slots,kk b o (nch b hb).1 (nch b hb).2 q⟩)
    (fun b o hb q n=>by rw[bg (Nat.ne_of_lt (Heap.lt_size q))];exact n) (fun b o hb q=>⟨o,kk b o (nch b hb).1 (nch b hb).2 q⟩) (fun b ys z=>sm b _ z) (fun b o u z=>sm b _ z) (fun b ps z=>⟨#[],by rw[sm b _ z];simp⟩) (fun m hm=>?_) hok I.bare
   .rcases List.mem_cons.mp hb with rfl | hb
    .exact⟨f3,f1,f4,f5⟩
    .have z:b=it:=by simpa using hb
     subst z;exact⟨g3,g1,g4,g5⟩
   .obtain⟨o,es,ep,ho,r⟩:=hm;exact⟨o,es,ep,kk _ o (Ne.symm f1) (Ne.symm g1) ho,r⟩
  refine⟨.ref s.heap.objs.size,_,I2,rfl,⟨s.heap.objs.size,x,hn,rfl,fun ys hy=>(by rw[I.o_ hy hq];exact hx),rfl⟩,⟨⟨_,by simpa using GJ⟩,Av.at fun o q=>(cM.2 it (Ne.symm Nj)).trans q⟩,fun b hb=>?_⟩
  rcases List.mem_cons.mp hb with rfl | hb
  .rw [bg (Nat.ne_of_lt hel)];exact f0
  .have z:b=it:=by simpa using hb
   subst z;obtain⟨o,ho,_⟩:=hit;rw[bg (Nat.ne_of_lt (Heap.lt_size ho))];exact g0
 done:=by
  intro X hP hw hK hc i pins s σ H E I hf st hg;subst hP hw hK;obtain⟨xs,hq,hx⟩:=hg;obtain⟨its,rv,p,hz⟩:=I.list hq;obtain⟨⟨old,he⟩,hit⟩:=st;obtain⟨g0,g1,g2,g3,g4,g5⟩:=hf it (by simp)
  have hl:=rv.length;exact wpAny_pyNext_enum_end (I.ok.hd hc) he hit p.isList (by simp;omega) fun h' eb=>⟨rfl,I.turned (t':=s.toks) (fun b o hb q=>eb b o hb q) g0 g1 g3 g4 g5⟩
 self:=fun A i s Q E st h=>let⟨⟨_,he⟩,_⟩:=st;wpAny_pyIter_enum he h
def dk(ds:List D):List D:=ds.zipIdx.map fun p=> .tup [.int p.2,p.1]
def jP(f:FD):au->R (List D):=fun δ=>(f δ).bind fun d=>match d with | .lst ds=> .ok (dk ds) | _=> .no
theorem yH{elts:List Expr}{k:Nat}{ua:Pos}{p pos:Pos}(h:PD X a f)(hg:Gl X "enumerate")(hm:X.mg "enumerate"=none)(hs:starEach [a] X.env=[(false,eval a X.env)]:=by rfl):M9 X (.Tuple elts k ua) (.Call (.Name "enumerate" p) [a] [] pos) (jP f):=by
 intro pins s σ H RR I ⟨Z,B,δ,ds,E,hf,q⟩;obtain⟨d,h1,h2⟩:=R.ai hf;have hA:=fj h ja hs pos pins s σ H (fun vs H1=>aR H H1/\∃v,vs=[v]/\Rep X.K B H1 d v) I ⟨Z,B,δ,d,E,h1,fun v H1 s1 r1=>⟨s1,v,rfl,r1⟩⟩
 refine Call_ (iq I hg hm boot_enumerate (PyProof.Rows.callWith_type1 (c6 hA fun us s1 ⟨vs,H1,I1,r1,ss,v,ev,rr⟩=>?_) hs rfl))
 subst ev;obtain⟨u,rfl,ru⟩:=vals1 r1;cases d with
 | lst es=>
   cases h2;obtain⟨b,xs,rfl,l,rs⟩:=Rep.lst.mp rr;cases ru;obtain⟨its,n,rv,e1,hz⟩:=I1.OO l;refine call_enumerate_list (items:=its.toArray) ⟨_,e1,rfl,n,rfl⟩ fun h' he hit hsz kk=>wpAny_pyIter_enum he ?_
   have I2:Inv X pins σ H1 {s1 with heap:=h'}:=I1.kept (t':=s1.toks) kk
   refine⟨s1.heap.objs.size+1,[s1.heap.objs.size+1,s1.heap.objs.size],_,_,H1,rfl,I2,Df b (s1.heap.objs.size+1) s1.heap.objs.size (Nat.succ_ne_self _),⟨⟨_,he⟩,hit⟩,fun c hc=>?_,q _ H1 ss fun B' H' pr=>?_⟩
   .have hle:s1.heap.objs.size<=c:=by
     rcases List.mem_cons.mp hc with z | hc
     .rw [z];exact Nat.le_succ _
     .have z:c=s1.heap.objs.size:=by simpa using hc
      rw[z];exact Nat.le_refl _
    exact I1.uD hle (I1.hok.fresh hle)
   .have l':uh X.K B' H' b xs:=l.bj pr;have rs':=rs.bj pr;refine⟨fun i d hd=>?_,⟨xs,l'.sq,by rw[<-rs.length];unfold dk;simp⟩⟩
    unfold dk at hd;rw[List.getElem?_map,List.getElem?_zipIdx] at hd;cases e:es[i]? with
    | none=>rw [e] at hd;cases hd
    | some d0=>
      rw[e] at hd;have hd:D.tup [.int ((0+i:Nat):Int),d0]=d:=Option.some.inj hd;rw[Nat.zero_add] at hd;obtain⟨x,hx,rx⟩:=rs'.get e;refine⟨⟨xs,x,l'.sq,hx⟩,fun v nB y JL=>?_⟩
      obtain⟨p,y,hp,rfl,hy,rfl⟩:=y;refine⟨aN hp,?_⟩;subst hd;have Ds:=hy xs l'.sq;rw[hx] at Ds;cases Ds;refine Rep.tup.mpr ⟨p,_,rfl, .inl ⟨fun ha=>?_, .inl aT⟩,aF.cons (Rep.int.mpr rfl) (aF.cons (rx.same (aN hp)) aF.nil)⟩
      obtain⟨o,ho⟩:=JL p ha;rw[hp] at ho;cases ho
 | _=>cases h2
end
end L2
end
section
namespace L2
open PySem PySem.Spec PyProof.Rows
def Def(K:W.Frag)(mg:Aaf)(x:Str)(st:Stmt):Prop:=∃f fd,AV K x x st f fd/\mg x=some (.ref f)
def Callee(P:Program)(w:World)(K:W.Frag)(mg:Aaf)(base:Heap)(k:Nat)(x:Str)(n:Nat)(g:List D->R D):Prop:=
 ∃f fd ps,ie P w K mg base sx k f fd ps (Es K n g)/\mg x=some (.ref f)/\PySem.W.keepIn K (.ref f)=true/\Binds K fd ps []
theorem Ew:∀(δ:au) (ds:List D),aO δ= .ok ds->ds.length=0:=fun δ ds h=>by cases h;rfl
theorem B6{g:au->R (List D)}{n:Nat}(h:∀(δ:au) (ds:List D),g δ= .ok ds->ds.length=n):∀(δ:au) (ds:List D),ao f g δ= .ok ds->ds.length=n+1:=fun δ ds e=>by
 obtain⟨d,h1,h2⟩:=R.ai e;obtain⟨es,h3,h4⟩:=R.ai h2;cases h4;rw[List.length_cons,h δ es h3]
theorem Fm{P:Program}{w:World}{K:W.Frag}{mg:Aaf}{base:Heap}{x qual:Str}{st:Stmt}{f:Addr}{fd:FuncData}{N ps:List Str}{k:Nat}{F:FS}{b:List Stmt}{sc:Scope}(hb:aL st=b)(hs:ax st=sc)(Fn:AV K x qual st f fd)(S:a_ N ps sc)
 (ij:∀(fF:Value) (A:Around) (outer:List Env) (s:Shared) (H:Hp) (E:XK),dW k (A.deeper (envOfC qual sc s.heap.objs.size f fF))->
   rf (p6 sx P w K mg base N qual sc f fF A outer s H E).Eu b F):ie P w K mg base sx (k+1) f fd ps (Es K ps.length (wY N F)):=by
 subst hb hs;exact Ho Fn S ij
section
variable {X:Cx}
theorem GB{g:List D->R D}{k j n:Nat}{x:Str}{p pos:Pos}{e:Expr}{es:List Expr}{fs:au->R (List D)}(C:Callee X.prog X.w X.K X.mg X.base k x n g)(hr:dW j X.A)(hkj:k<=j)(hg:Gl X x)(ha:EA X (e ::es) fs)
 (hn:∀δ ds,fs δ= .ok ds->ds.length=n) (qw:(x==("__debug__":Str))=false:=by decide) (he:starEach (e ::es) X.env=(false,eval e X.env) ::starEach es X.env:=by rfl) (lM:(backTo pos (starEach es X.env)).any (·.1)=false:=by rfl) :
 PD X (.Call (.Name x p) (e ::es) [] pos) (aW g fs):=by
 obtain⟨f,fd,ps,F,hm,hk,hb⟩:=C;exact Ie F (hr.mono hkj) hg hm hk hb ha hn qw he lM
def MC(sc:Scope)(N:List Str)(scope:Scope)(kp:List Nat)(kn:List Str):Bool:=
 decide (scope.kind= .function) && scope.names.all (fun y=>decide (y.2= .cell->scope.names.lookup y.1=some .cell)) && scope.names.all (fun y=>decide (y.2= .local->scope.names.lookup y.1=some .local))
  && scope.names.all (fun y=>decide (y.2= .free->(sc.names.lookup y.1=some .cell\/sc.names.lookup y.1=some .free))) && scope.names.all (fun y=>decide (y.2= .free->scope.names.lookup y.1=some .free)) && decide (kn.length=kp.length)
  && (List.range kp.length).all (fun j=>decide ((kp[j]?).bind (N[·]?)=kn[j]?)) && kn.all (fun x=>decide (scope.names.lookup x=some .free))
theorem gp.of{own:List Str}{kp:List Nat}{kn:List Str}{N:List Str}(h1:X.env.scope=sc)(h2:X.N=N)(h:MC sc N scope kp kn=true):gp X scope own kp kn:=by
 unfold MC at h;simp only[Bool.and_eq_true,decide_eq_true_eq,List.all_eq_true] at h;obtain⟨⟨⟨⟨⟨⟨⟨a1,a2⟩,a3⟩,a4⟩,a8⟩,a5⟩,a6⟩,a7⟩:=h;refine⟨a1,a2,a3,fun y hy hf=>?_,a8,a5,fun j i x hj hx=>?_,a7⟩
 .have:=a4 y hy hf;unfold Env.kindOf;rw[h1];exact this
 .have hlt:j < kp.length:=(List.getElem?_eq_some_iff.mp hj).1;have:=a6 j (List.mem_range.mpr hlt);rw[hj] at this;rw[h2];exact this.trans hx
def rA(kp:List Nat)(N:List Str):List Str:=kp.map fun i=>N.getD i Str.empty
theorem Ro{own:List Str}{kp:List Nat}{kn:List Str}(h:MC X.env.scope X.N scope kp kn=true):gp X scope own kp kn:=gp.of rfl rfl h
def TV:List Str->Bool
 | []=>true
 | x ::l=>!l.contains x && TV l
theorem Lg:∀{l:List Str},TV l=true->l.Nodup
 | [],_=>List.nodup_nil
 | x ::l,h=>by
   obtain⟨h1,h2⟩:=Bool.and_eq_true_iff.mp h;exact List.nodup_cons.mpr ⟨fun q=>(by rw[List.contains_iff_mem.mpr q] at h1;cases h1),Lg h2⟩
def KA(aV:List (Key × V))(f g:FD):FD:=fun δ=>(f δ).bind fun k=>(g δ).bind fun d=>match k with
 | .str x=>(match mO (jN [] aV) (Sum.inr x) with | some (.int i)=> .ok (.int i) | none=> .ok d | _=> .no)
 | _=> .no
theorem LG{keys:List (Option Expr)}{values:List Expr}{vD:List (TE × TE)}{wZ apos cx:Pos}{e f:Expr}{fe ff:FD}{aV:List (Key × V)}(hu:X.A.units+1 < cLine)(h:Mn X wZ keys values vD)(Dj:keys.all (·.isSome)=true)(hl:keys.length=values.length)(h0:keys≠[])
 (hc:∀σ H Q,Q (aV.map fun kv=>(kV kv.1,kv.2)) H->pZ vD σ H Q) (hlen:aV.length<=15) (he:PD X e fe) (hf:PD X f ff) (m:M2 X (.Dict keys values wZ) "get" apos e f cx)
 (hd:PE X (.Dict keys values wZ) (Gz vD)):PD X (.Call (.Attribute (.Dict keys values wZ) "get" apos) [e,f] [] cx) (KA aV fe ff):=by
 refine(FU hu hd he hf m).imp fun σ H Q ⟨Z,B,δ,d,E,hfd,q⟩=>?_
 obtain⟨k,h1,h2⟩:=R.ai hfd;obtain⟨dd,h3,h4⟩:=R.ai h2;intro p hp;refine hc σ _ _ ⟨aT,aV,rfl,hlen,p,rfl, .inl ⟨_, .inl aT⟩,?_⟩;rw[Hy];have s0:aR H (upd H p (.dK (jN [] aV))):=aN hp;refine⟨Z,B,δ,k,E.same s0,h1,fun v1 H1 s1 r1=>⟨Z,B,δ,dd,(E.same s0).same s1,h3,fun v2 H2 s2 r2=>?_⟩⟩
 have hH2:H2 p=some (.dK (jN [] aV)):=s2 p _ (s1 p _ aT);have sA:aR H H2:=s0.trans (s1.trans s2);split at h4
 .rename_i x;refine⟨mO (jN [] aV) (Sum.inr x),?_,?_⟩
  .rw [Rep.str.mp r1];exact uq.k (k:=Sum.inr x) hH2
  .split at h4
   .rename_i i e1;cases h4;rw[e1];exact q _ H2 sA (Rep.int.mpr rfl)
   .rename_i e1;cases h4;rw[e1];exact q _ H2 sA r2
   .cases h4
 .cases h4
def Ug(i:Nat)(f:FD):FS:=fun δ=>(f δ).bind fun d=>match d with
 | .lst es=>(sM δ i).bind fun ds=>R.bh (decide (ds.length+es.length<=sizeLine)) (.ok (.nx (δ.set i (.bld (ds++es)))))
 | _=> .no
end
end L2
end
section
namespace L2
open PySem PySem.Spec PyProof.Rows
structure QD (X:Cx) (e:Expr) (f:FD):Prop where
 h:PD X e f
structure QN (X:Cx) (e:Expr) (f:au->R (List D)):Prop where
 h:PN X e f
structure QB (X:Cx) (e:Expr) (f:au->R Bool):Prop where
 h:PB X e f
structure KJ (X:Cx) (e:Expr) (f:au->R Bool):Prop where
 h:G6 X e f
structure Hm (X:Cx) (e:List Expr) (f:au->R (List D)):Prop where
 h:EA X e f
structure Ih (X:Cx) (e:Stmt) (f:FS):Prop where
 h:G0 X e f
structure sr (X:Cx) (e:List Stmt) (f:FS):Prop where
 h:rf X e f
structure M4 (X:Cx) (e:Expr) (f:FT):Prop where
 h:Lp X e f
structure Ig (X:Cx) (e:List Expr) (f:Dt):Prop where
 h:FL X e f
structure BH (X:Cx) (tg e:Expr) (f:au->R (List D)):Prop where
 h:M9 X tg e f
structure QP (X:Cx) (e:Option Expr) (f:FO):Prop where
 h:PP X e f
structure QJ (X:Cx) (e:List Expr) (f:au->R (List Str)):Prop where
 h:PJ X e f
structure Lh (X:Cx) (e:List Expr) (c:au->R Bool):Prop where
 h:qc X e (Lq X.K c)
section
variable {X:Cx}
theorem cj{f:au->R (List D)}(h:QN X e f):QD X e (eNew f):=⟨KC h.1⟩
theorem aa(i:Nat){pos:Pos}(hN:X.N[i]? =some x:=by rfl)(hv:Ka X.env.scope x:=by first | exact Or.inl rfl | exact Or.inr (Or.inl rfl) | exact Or.inr (Or.inr rfl))(hd:(x==("__debug__":Str))=false:=by decide)(uH:(x==("__classdict__":Str))=false:=by decide):QD X (.Name x pos) (ag i):=⟨LK i hN hv hd uH⟩
theorem af{i j pos}:QD X (.Constant (.int i) j pos) (eC (.int i)):=⟨KR⟩
theorem jR{b j pos}:QD X (.Constant (.bool b) j pos) (eC (.bl b)):=⟨Nw⟩
theorem aS{x j pos}:QD X (.Constant (.str x) j pos) (eC (.str x)):=⟨LV⟩
theorem aj:Hm X [] aO:=⟨HN⟩
theorem ab{g:au->R (List D)}(h:QD X e f)(t:Hm X es g)(hs:starEach (e ::es) X.env=(false,eval e X.env) ::starEach es X.env:=by rfl):Hm X (e ::es) (ao f g):=⟨Gg h.1 t.1 hs⟩
theorem bS{g:au->R (List D)}{x1 pos}(h:Hm X es g):QD X (.Tuple es x1 pos) (eP g):=⟨LY h.1⟩
theorem bY{g:au->R (List D)}{pos}(h:Hm X es g):QN X (.List es pos) (fI g):=⟨Mq h.1⟩
theorem aK{op:Operator}{g:D->D->R D}(ho:jE X (binaryOp op) g)(ha:QD X a fa)(hb:QD X b fb):QD X (.BinOp a op b pos) (e2 g fa fb):=⟨N8 ho ha.1 hb.1⟩
theorem rR{op:CmpOp}{g:D->D->R D}{pos:Pos}(ho:jE X (compareOp op) g)(ha:QD X a fa)(hb:QD X b fb)(hm:behindInMarks op b=false:=by first | exact jd _ | with_unfolding_all rfl):QD X (.Compare a [op] [b] pos) (e2 g fa fb):=⟨Mw ho ha.1 hb.1 hm⟩
theorem bq{op:CmpOp}{g:D->D->R D}{pos:Pos}(ho:jE X (compareOp op) g)(ha:QD X a fa)(hb:QD X b fb)(hm:behindInMarks op b=false:=by first | exact jd _ | with_unfolding_all rfl):QB X (.Compare a [op] [b] pos) (b2 g fa fb):=⟨Mi ho ha.1 hb.1 hm⟩
theorem Ca{op Aq:CmpOp}{g g':D->D->R D}{pos:Pos}(ho:jE X (compareOp op) g)(vC:jE X (compareOp Aq) g')(ha:QD X a fa)(hb:QD X b fb)(hc:QD X c fc)(hm:lastMarks [op,Aq] [b,c]=false:=by with_unfolding_all rfl):QB X (.Compare a [op,Aq] [b,c] pos) (fun δ=>(tI g g' fa fb fc δ).bind fun d=>match d with | .bl b=> .ok b | _=> .no):=⟨F6 ho vC ha.1 hb.1 hc.1 hm⟩
theorem oV{a:Expr}(ha:QD X a f)(he:∀whole,isTrue a X.env whole=(do let v <-whole;standAt a.pos;holding [v] (truthy v)):=by intro _;rfl):QB X a (uw f):=⟨Lw ha.1 he⟩
theorem lD{f:au->R Bool}(h:KJ X e f):QB X e f:=⟨G6.pb h.1⟩
theorem m8{f:au->R Bool}(h:QB X a f):KJ X (.BoolOp .And [a] pos) f:=⟨Fp h.1⟩
theorem sO{f:au->R Bool}(h:QB X a f):KJ X (.BoolOp .Or [a] pos) f:=⟨JF h.1⟩
theorem oZ{rest:List Expr}{f g:au->R Bool}(ha:QB X a f)(hb:KJ X (.BoolOp .And (b ::rest) pos) g):KJ X (.BoolOp .And (a ::b ::rest) pos) (sW f g):=⟨Jk ha.1 hb.1⟩
theorem pH{rest:List Expr}{f g:au->R Bool}(ha:QB X a f)(hb:KJ X (.BoolOp .Or (b ::rest) pos) g):KJ X (.BoolOp .Or (a ::b ::rest) pos) (CK f g):=⟨LF ha.1 hb.1⟩
theorem pj{f:au->R Bool}(ha:QB X a f):QB X (.UnaryOp .Not a pos) (ur f):=⟨Le ha.1⟩
theorem Bf{op}(h:QD X a f):QD X (.BoolOp op [a] pos) f:=⟨Ma h.1⟩
theorem IE{rest:List Expr}(ha:QD X a f)(hb:QD X (.BoolOp .And (b ::rest) pos) g):QD X (.BoolOp .And (a ::b ::rest) pos) (F4 f g):=⟨KY ha.1 hb.1⟩
theorem Ml{rest:List Expr}(ha:QD X a f)(hb:QD X (.BoolOp .Or (b ::rest) pos) g):QD X (.BoolOp .Or (a ::b ::rest) pos) (NB f g):=⟨NR ha.1 hb.1⟩
theorem zD{fc:au->R Bool}(hc:QB X c fc)(ha:QD X a f)(hb:QD X b g):QD X (.IfExp c a b pos) (KH fc f g):=⟨O6 hc.1 ha.1 hb.1⟩
theorem aZ{g:List D->R D}{id:String}{p pos:Pos}{fs:au->R (List D)}(hc:c7 X (.builtin id) g)(hg:Gl X x)(hm:X.mg x=none)(hv:bootBuiltins x=some (.builtin id))(ha:Hm X (e ::es) fs)(hn:x≠"__name__":=by decide)(qw:(x==("__debug__":Str))=false:=by decide)(he:starEach (e ::es) X.env=(false,eval e X.env) ::starEach es X.env:=by rfl)(lM:(backTo pos (starEach es X.env)).any (·.1)=false:=by rfl):QD X (.Call (.Name x p) (e ::es) [] pos) (aW g fs):=⟨EF hc hg hm hv ha.1 hn qw he lM⟩
theorem gm{g:List D->R D}{T:String}{p pos:Pos}{fs:au->R (List D)}(hc:c7 X (.type T) g)(hg:Gl X x)(hm:X.mg x=none)(hv:bootBuiltins x=some (.type T))(ha:Hm X (e ::es) fs)(hn:x≠"__name__":=by decide)(qw:(x==("__debug__":Str))=false:=by decide)(he:starEach (e ::es) X.env=(false,eval e X.env) ::starEach es X.env:=by rfl)(lM:(backTo pos (starEach es X.env)).any (·.1)=false:=by rfl):QD X (.Call (.Name x p) (e ::es) [] pos) (aW g fs):=⟨CH hc hg hm hv ha.1 hn qw he lM⟩
theorem fS:sr X [] rE:=⟨H0⟩
theorem cw{st:Stmt}{rest:List Stmt}{F G:FS}(h1:Ih X st F)(h2:sr X rest G):sr X (st ::rest) (ji F G):=⟨Gi h1.1 h2.1⟩
theorem bJ{st:Stmt}{F:FS}(h1:Ih X st F):sr X [st] F:=⟨Je h1.1⟩
theorem tT{i:Nat}{pos pos':Pos}(he:QD X e f)(hs:swapsWith e (some (.Name x pos')) pos.line X.env=pure false:=by rfl)(hf:X.fn x=true\/X.env.scope.names.lookup x=some .local:=by first | exact .inl rfl | exact .inr rfl | assumption)(hN:X.N.Nodup:=by first | assumption | exact Lg (by kernel_rfl))(hi:X.N[i]? =some x:=by rfl)(hx:Loc X.env.scope x:=by first | exact Or.inl rfl | exact Or.inr rfl):Ih X (.Assign [.Name x pos'] e pos) (yE i f):=⟨Iv hN hi hx he.1 hs hf⟩
theorem FI{i:Nat}{f:au->R (List D)}{pos pos':Pos}(he:QN X e f)(hs:swapsWith e (some (.Name x pos')) pos.line X.env=pure false:=by rfl)(hf:X.fn x=true\/X.env.scope.names.lookup x=some .local:=by first | exact .inl rfl | exact .inr rfl | assumption)(hN:X.N.Nodup:=by first | assumption | exact Lg (by kernel_rfl))(hi:X.N[i]? =some x:=by rfl)(hx:Loc X.env.scope x:=by first | exact Or.inl rfl | exact Or.inr rfl):Ih X (.Assign [.Name x pos'] e pos) (De i f):=⟨IQ hN hi hx he.1 hs hf⟩
theorem E9{i:Nat}{x:Str}{e:Expr}{f:FD}{mT apos cx pos:Pos}(he:QD X e f)(hd:(x==("__debug__":Str))=false:=by decide)(uH:(x==("__classdict__":Str))=false:=by decide)(hs:starEach [e] X.env=(false,eval e X.env) ::starEach [] X.env:=by rfl)(mY:(apos.endLine==cx.line)=true:=by rfl)(uf:((backTo cx (starEach [e] X.env)).all (fun x=>!x.1) && (backToKw cx (keywordEach [] X.env)).all (fun x=>x.1.isSome)
 && decide (([e]:List Expr).length+([]:List Keyword).length+(if([]:List Keyword).isEmpty then 0 else 1) < 30))=true:=by rfl) (JK:swapsWith (.Call (.Attribute (.Name x mT) "append" apos) [e] [] cx) none pos.line X.env=pure false:=by rfl) (mW:attributeBase (.Name x mT) "append" X.env (eval (.Name x mT) X.env)=eval (.Name x mT) X.env:=by rfl) (hN:X.N[i]? =some x:=by rfl) (hv:Ka X.env.scope x:=by first | exact Or.inl rfl | exact Or.inr (Or.inl rfl) | exact Or.inr (Or.inr rfl)):Ih X (.Expr (.Call (.Attribute (.Name x mT) "append" apos) [e] [] cx) pos) (Em i f):=⟨Hx hN hv he.1 hd uH hs mY uf JK mW⟩
theorem DG(i:Nat){F:FS}(h:sr X Kv F):sr X Kv (IU i F):=⟨JC i h.1⟩
theorem bX(he:QD X e f):Ih X (.Return (some e) pos) (iy f):=⟨Jm he.1⟩
theorem iO{fc:au->R Bool}{F G:FS}(hc:QB X c fc)(ha:sr X a F)(hb:sr X b G):Ih X (.If c a b pos) (yU fc F G):=⟨Mh hc.1 ha.1 hb.1⟩
theorem bG{i:Nat}{pos:Pos}(hf:X.fn x=true\/X.env.scope.names.lookup x=some .local:=by first | exact .inl rfl | exact .inr rfl | assumption)(hN:X.N.Nodup:=by first | assumption | exact Lg (by kernel_rfl))(hi:X.N[i]? =some x:=by rfl)(hx:Loc X.env.scope x:=by first | exact Or.inl rfl | exact Or.inr rfl):M4 X (.Name x pos) (bR i):=⟨ER hN hi hx hf⟩
theorem j6:Ig X [] nQ:=⟨Gy⟩
theorem cQ{u:Dt}(h1:M4 X e t)(h2:Ig X es u)(hs:(assignEach (e ::es) X.env).map (·.2)=assign e X.env ::(assignEach es X.env).map (·.2):=by rfl):Ig X (e ::es) (dH t u):=⟨Cu h1.1 h2.1 hs⟩
theorem mB{k:Nat}{t:Dt}{n:Nat}{pos:Pos}(h:Ig X es t)(hn:(assignEach es X.env).length=n:=by rfl)(Ap:(assignEach es X.env).findIdx? (·.1)=none:=by rfl)(hc:X.calm=true:=by rfl):M4 X (.Tuple es k pos) (nS n t):=⟨HK hc h.1 hn Ap⟩
theorem EK{pos:Pos}(he:QD X e f)(hg:M4 X tg t)(hs:swapsWithSole [tg] e pos.line X.env=pure false:=by rfl)(hw:swappedStores [tg] e X.env=pure none:=by rfl)(h1:(assignEach [tg] X.env).map (·.2)=[assign tg X.env]:=by rfl):Ih X (.Assign [tg] e pos) (MG f t):=⟨Jh he.1 hg.1 hs hw h1⟩
theorem eB(h:QD X e f):BH X tg e (g_ f):=⟨HD h.1⟩
theorem cX{tg a:Expr}{p pos:Pos}(h:QD X a f)(hg:Gl X "range")(hm:X.mg "range"=none)(hs:starEach [a] X.env=[(false,eval a X.env)]:=by rfl):BH X tg (.Call (.Name "range" p) [a] [] pos) (ft f):=⟨Ak h.1 hg hm hs⟩
theorem t9{it:au->R (List D)}{F:FS}{pos:Pos}(hi:BH X tg iter it)(hg:M4 X tg t)(hb:sr X body F)(hs:∀x,foldedSetIterable iter X.env x=pure x:=by intro _;rfl)(hp:PassesOwn (model X.prog X.w) X.A X.env X.xe:=by exact PassesOwn.never)(hc:X.calm=true:=by rfl):Ih X (.For tg iter body [] pos) (zw it t F):=⟨IW hp hc hi.1 hg.1 hb.1 hs⟩
theorem eX{own:List Str}{kp:List Nat}{it:au->R (List D)}{c:au->R Bool}{pos:Pos}(hi:BH X tg iter it)(hg:∀fp s H,M4 (bF X scope (own++(rA kp X.N)) fp s H) tg t)(GW:∀fp s H,Lh (bF X scope (own++(rA kp X.N)) fp s H) ifs c)(he:∀fp s H,QD (bF X scope (own++(rA kp X.N)) fp s H) elt f)(hs:∀x,foldedSetIterable iter X.env x=pure x:=by intro _;rfl)(hc:X.calm=true:=by rfl)(C:gp X scope own kp (rA kp X.N):=by exact Ro (by kernel_rfl)):QN X (.ListComp elt [⟨tg,iter,ifs,0⟩] scope pos) (iJ it t c f own kp):=⟨JI hc C hi.1 (fun fp s H=>(hg fp s H).1) (fun fp s H=>(GW fp s H).1) (fun fp s H=>(he fp s H).1) hs⟩
theorem gz:Lh X [] wI:=⟨Fz⟩
theorem tW{c:au->R Bool}(h:QB X e c):Lh X [e] c:=⟨Ji h.1⟩
theorem az{pos:Pos}(ha:QD X a fa)(hb:QD X b fb)(hs:rO b:=by intro _ _;rfl):QD X (.Subscript a b pos) (e2 b_ fa fb):=⟨Ow ha.1 hb.1 hs⟩
theorem pN:QP X none uM:=⟨Ir⟩
theorem kZ(h:QD X e f):QP X (some e) (nL f):=⟨Ia h.1⟩
theorem wJ{lo hi:Option Expr}{fl fh:FO}(he:QD X e f)(hl:QP X lo fl)(hh:QP X hi fh):QD X (.Subscript e (.Slice lo hi none p2) pos) (JY f fl fh):=⟨OD he.1 hl.1 hh.1⟩
theorem qh{elts:List Expr}{k:Nat}{ua:Pos}{p pos:Pos}(h:QD X a f)(hg:Gl X "enumerate")(hm:X.mg "enumerate"=none)(hs:starEach [a] X.env=[(false,eval a X.env)]:=by rfl):BH X (.Tuple elts k ua) (.Call (.Name "enumerate" p) [a] [] pos) (jP f):=⟨yH h.1 hg hm hs⟩
theorem vw{P:Program}{w:World}{K:W.Frag}{mg:Aaf}{base:Heap}{x qual:Str}{st:Stmt}{f:Addr}{fd:FuncData}{N ps:List Str}{k:Nat}{F:FS}{b:List Stmt}{sc:Scope}(hb:aL st=b)(hs:ax st=sc)(Fn:AV K x qual st f fd)(S:a_ N ps sc)(ij:∀(fF:Value) (A:Around) (outer:List Env) (s:Shared) (H:Hp) (E:XK),dW k (A.deeper (envOfC qual sc s.heap.objs.size f fF))->
 sr (p6 sx P w K mg base N qual sc f fF A outer s H E).Eu b F):ie P w K mg base sx (k+1) f fd ps (Es K ps.length (wY N F)):=Fm hb hs Fn S (fun fF A outer s H E hr=>(ij fF A outer s H E hr).1)
theorem GZ{K:W.Frag}{mg:Aaf}{st:Stmt}{N ps:List Str}{k:Nat}{F:FS}(h:Def K mg x st)(hb:aL st=b)(hs:ax st=sc)(S:a_ N ps sc)(ij:∀(f:Addr) (fF:Value) (A:Around) (outer:List Env) (s:Shared) (H:Hp) (E:XK),dW k (A.deeper (envOfC x sc s.heap.objs.size f fF))->N.Nodup->sr (p6 sx P w K mg base N x sc f fF A outer s H E).Eu b F)(bd:∀(kV doc pm:Value) (an:Option Addr) (fF ct:Value) (us:List Value),us.length=ps.length->bindArgs (PySem.W.fnOf x x (eK st) (aL st) (ax st) .none kV doc pm an fF ct) ⟨us,[]⟩=pure (ps.zip us):=by intro _ _ _ _ _ _ us hl;rcases us with _ | ⟨_,_ | ⟨_,_ | ⟨_,_ | ⟨_,_ | ⟨_,_ | ⟨_,_ | ⟨_,_⟩⟩⟩⟩⟩⟩⟩ <;> first | (simp at hl;done) | rfl):Callee P w K mg base (k+1) x ps.length (wY N F):=by
 obtain⟨f,fd,F,hm⟩:=h;exact⟨f,fd,_,vw hb hs F S (fun fF A outer s H E hr=>ij f fF A outer s H E hr S.nd),hm,F.kp,F.binds bd⟩
theorem cf{g:List D->R D}{k j n:Nat}{p pos:Pos}{fs:au->R (List D)}(C:Callee X.prog X.w X.K X.mg X.base k x n g)(ha:Hm X (e ::es) fs)(qw:(x==("__debug__":Str))=false:=by decide)(he:starEach (e ::es) X.env=(false,eval e X.env) ::starEach es X.env:=by rfl)(lM:(backTo pos (starEach es X.env)).any (·.1)=false:=by rfl)(hr:dW j X.A:=by assumption)(hkj:k<=j:=by decide)(hg:Gl X x:=by rfl)(hn:∀δ ds,fs δ= .ok ds->ds.length=n:=by(repeat apply B6);exact Ew):QD X (.Call (.Name x p) (e ::es) [] pos) (aW g fs):=⟨GB C hr hkj hg ha.1 hn qw he lM⟩
theorem HM{keys:List (Option Expr)}{values:List Expr}{vD:List (TE × TE)}{aV:List (Key × V)}(hu:X.A.units+1 < cLine)(h:Mn X wZ keys values vD)(Dj:keys.all (·.isSome)=true)(hl:keys.length=values.length)(h0:keys≠[])(hc:∀σ H Q,Q (aV.map fun kv=>(kV kv.1,kv.2)) H->pZ vD σ H Q)(hlen:aV.length<=15)(he:QD X e fe)(hf:QD X f ff)(m:M2 X (.Dict keys values wZ) "get" apos e f cx)(hd:PE X (.Dict keys values wZ) (Gz vD)):QD X (.Call (.Attribute (.Dict keys values wZ) "get" apos) [e,f] [] cx) (KA aV fe ff):=⟨LG hu h Dj hl h0 hc hlen he.1 hf.1 m hd⟩
end
end L2
end
section
namespace L2
open PySem PySem.Spec PyProof.Rows
theorem CN{P:Program}{w:World}{K:W.Frag}{mg mb:Aaf}{CX:Du}{k:Nat}{fa a:Addr}{fd:FuncData}{x:Str}{sp:Sp}{s₁:Shared}{vs:List Value}{ns:List Int}
 (KX:K.In s₁.heap) (Pw:s₁.heap.Ns mainGlobals mg) (hb:s₁.heap.Ns builtinsNs mb) (TK:∀x:Str,x≠"__name__"->mb x=bootBuiltins x) (Sw:s₁.heap.NoLimit) (hg:s₁.gens=#[])
 (ha:s₁.heap.get? a=some {cls:= .type "list",data:= .seq vs.toArray}) (hi:IntsAre vs ns) (hl:ns.length<=sizeLine) (hr:dW k callerA)
 (F:∀base:Heap,K.In base->base.Ns mainGlobals mg->ie P w K mg base CX k fa fd [x] sp) (Pg:∀(s:Shared) (u:Value),BindsTo s fd ⟨[u],[]⟩ [(x,u)])
 (Nk:∀H:Hp,NC H->uh K [] H a (ns.map V.int)->sp [.ref a] H (fun v _=>v= .bl true) fun _ _ _=>False)
 (Zf:∀H e s',CX [] H s₁ (fun _ _ _=>False) e s'->False) :
 codeAny (model P w) callerA (.call (.ref fa) ⟨[.ref a],[]⟩) (fun r s'=>r= .ok (.ret (.bool true))/\OldK s₁.heap s'.heap/\s'.os=s₁.os/\AllBare s'.gens) s₁:=by
 have rv:=vA hi;have lenV:=hi.length;have core:∀H:Hp,NC H->uh K [] H a (ns.map V.int)->nu P w H s₁.heap->(∀b,H b≠none->b=a)->(H a≠none->K.lookup a=none)->
  codeAny (model P w) callerA (.call (.ref fa) ⟨[.ref a],[]⟩) (fun r s'=>r= .ok (.ret (.bool true))/\OldK s₁.heap s'.heap/\s'.os=s₁.os/\AllBare s'.gens) s₁:=by
  intro H hO hS hok hA hK;have BP:∀{b:Addr} {o:Obj},s₁.heap.get? b=some o->H b=none->(wM s₁.heap H).get? b=some o:=fun e n=>Gx e n
  have noA:∀{b:Addr} {o:Obj} {es:Array DictEntry} {ep:Nat},s₁.heap.get? b=some o->o.data= .dict es ep->H b=none:=fun {b o es ep} e d=>by
   cases q:H b with
   | none=>rfl
   | some u=>
     have e':b=a:=hA b (by rw[q];simp)
     subst e';rw[ha] at e;cases e;have d':Data.seq vs.toArray _=Data.dict es ep:=d;cases d'
  have nsK:∀{b:Addr} {m:Aaf},s₁.heap.Ns b m->(wM s₁.heap H).Ns b m:=fun {b m} ⟨o,es,ep,e,d,r⟩=>⟨o,es,ep,BP e (noA e d),d,r⟩
  have hKb:K.In (wM s₁.heap H):=fun b o e=>BP (KX b o e) (by
   cases q:H b with
   | none=>rfl
   | some u=>
     have e':b=a:=hA b (by rw[q];simp)
     subst e';rw[hK (by rw[q];simp)] at e;cases e)
  have hM:Mod K mg (wM s₁.heap H):=⟨hKb,nsK Pw,⟨mb,nsK hb,TK⟩,let⟨mc,h1,h2⟩:=Sw;⟨mc,nsK h1,h2⟩⟩
  have e0:zO P w K mg (wM s₁.heap H) callerA [] s₁ H:=⟨rfl,hM,fun b o e=>Hq e,Nat.le_of_eq (CJ _ _),trivial,fun b hb=>absurd (show b∈([]:List Addr) from hb) (by simp),hok, .of_eq hg⟩
  refine codeAny_mono ((F _ hKb (nsK Pw)).run callerA [] s₁ H ⟨[.ref a],[]⟩ [.ref a] [.ref a] _ _ hr e0 (Pg s₁ (.ref a)) (.cons rfl .nil) (Nk H hO hS)) fun r s' h=>?_
  cases r with
  | error e=>exact(Zf H e s' h).elim
  | ok fl=>
    cases fl with
    | next=>exact False.elim h
    | brk=>exact False.elim h
    | cont=>exact False.elim h
    | ret u=>
      obtain⟨v,H',os,bare,un,Tx,r',q⟩:=h;have q':v= .bl true:=q;subst q';obtain rfl:u=Value.bool true:=r';refine⟨rfl,OldK.of_keep fun b o e=>?_,os,bare⟩
      cases q:H b with
      | none=>exact un.keep b o e q (by intro z;exact absurd (show b∈([]:List Addr) from z) (by simp)) (by simp)
      | some u=>
        rcases hO b with z | ⟨ob,xs,z⟩
        .rw [q] at z;cases z
        .have z2:=un.frzs b ob _ z;obtain⟨e1,_⟩:=hok b _ z;obtain⟨e2,_⟩:=Tx b _ z2;rw[e] at e1;cases e1;exact e2
 cases hk:K.lookup a with
 | some o=>
   have e:=KX a o hk;rw[ha] at e;cases e;refine core (fun _=>none) (fun _=> .inl rfl) (.inr ⟨vs,_,hk,by rw[List.length_map];exact hl,rv⟩) (fun b u z=>by have z':(none:Option HO)=some u:=z;cases z') (fun b z=>absurd rfl z) fun z=>absurd rfl z
 | none=>
   refine core (fun b=>if b=a then some (.j4 {cls:= .type "list",data:= .seq vs.toArray} (.lst (ns.map V.int))) else none) (fun b=>?_) (.inl ⟨by simp, .inr ⟨{cls:= .type "list",data:= .seq vs.toArray},if_pos rfl⟩⟩) (fun b u z=>?_) (fun b z=>?_) fun _=>hk
   .by_cases hb:b=a
    .exact .inr ⟨_,_,if_pos hb⟩
    .exact .inl (if_neg hb)
   .by_cases hb:b=a
    .have z':=(if_pos hb).symm.trans z;cases z';subst hb;exact⟨ha,by rw[List.length_map];exact hl,vs,_,rv,ha⟩
    .have z':=(if_neg hb).symm.trans z;cases z'
   .by_cases hb:b=a
    .exact hb
    .exact absurd (if_neg hb) z
theorem ints_rep{K:W.Frag}{B:List Addr}:∀ns:List Int,aF K B H (ns.map D.int) (ns.map V.int)
 | []=>aF.nil
 | n ::ns=>aF.cons (Rep.int.mpr rfl) (ints_rep ns)
theorem O2{l:PySem.W.OpenLaw}{n k:Nat}{q:Program}{loose:List Str}{XP:(Str->Option Value)->Heap->Prop}{YP:World->Heap->Prop}{d:DefRec}{K:Params->W.Frag}{x:Str}{g:List D->R D}
 (hn:l.most=some n) (Qj:n<=sizeLine) (Tz:d.params.defaults=[]) (hr:dW k callerA) (hY:∀(w:World) (h:Heap),YP w h->(K w.params).In h)
 (F:∀(w:World) (mg:Aaf) (fa:Addr) (h:Heap),(K w.params).In h->h.Ns mainGlobals mg->mg d.name=some (.ref fa)->
   ∃fd:FuncData,(∀(s:Shared) (u:Value),BindsTo s fd ⟨[u],[]⟩ [(x,u)])/\∀base:Heap,(K w.params).In base->base.Ns mainGlobals mg->ie l.prog w (K w.params) mg base sx k fa fd [x] (Es (K w.params) 1 g))
 (hg:∀ns:List Int,ns.length<=n->g [.lst (ns.map D.int)]= .ok (.bl true)):PySem.W.WalkO q loose XP YP l.row.toRowW d [] (fun f vs=>PySem.call f vs):=by
 refine Att.xq hn Tz fun w s₀ s₁ mg mb fa o pm cd doc a vs ns G Y ho hd uH Pz MK hints hlen TM=>?_
 have KX:=hY w _ Y;obtain⟨fd,hb,hF⟩:=F w mg fa _ KX G.T.g Pz;refine CN KX G.T.g G.T.b G.T.builtins G.T.nolimit TM MK hints (Nat.le_trans hlen Qj) hr hF hb (fun H hO hS=>?_) fun H e s' h=>h
 refine⟨rfl,[],[.lst (ns.map D.int)], .bl true,fun b hb=>(by cases hb),aF.cons (Rep.lst.mpr ⟨_,_,rfl,hS,ints_rep ns⟩) aF.nil,hg ns hlen,fun z H' _ r=>Rep.bl.mp r⟩
theorem cJ{K:W.Frag}{h:Heap}{mg:Aaf}{x:Str}{st:Stmt}{f:Addr}{oc:Value}{od an:Option Addr}{He:Array (Option Value)}{kV doc pm fF ct:Value}(X:K.In h)(G:h.Ns mainGlobals mg)(a:PySem.W.nsIn K mainGlobals x=some (some (.ref f)))
 (l:K.lookup f=some ⟨oc,od, .func (PySem.W.fnOf x x (eK st) (aL st) (ax st) .none kV doc pm an fF ct),He⟩) (c:PySem.W.codeIn K fF x=true) (k:PySem.W.keepIn K (.ref f)=true):Def K mg x st:=
 ⟨f,_,om l c k,PySem.W.mg_of X G a⟩
end L2
end
section
namespace L2
open PySem PySem.Spec PyProof.Rows
theorem so{t:FT}{body:FS}:∀(ds:List D) (n:Nat) (P:Nat->au->Prop) {δ:au},P n δ->
 (∀i d δ,ds[i]? =some d->P (n+i) δ->∃dN,((t d δ).bind body)= .ok (.nx dN)/\P (n+i+1) dN)->∃dN,qS t body ds δ= .ok (.nx dN)/\P (n+ds.length) dN
 | [],n,P,δ,h0,_=>⟨δ,rfl,h0⟩
 | d ::ds,n,P,δ,h0,hs=>by
   obtain⟨δ1,e1,p1⟩:=hs 0 d δ rfl h0;obtain⟨dD,e2,p2⟩:=so ds (n+1) P p1 (fun i d' dN hi hp=>by
    have:=hs (i+1) d' dN (by simpa using hi) (by rw[show n+(i+1)=n+1+i by omega];exact hp)
    rw[show n+(i+1)+1=n+1+i+1 by omega] at this
    exact this)
   refine⟨dD,?_,by rw[List.length_cons,show n+(ds.length+1)=n+1+ds.length by omega];exact p2⟩
   obtain⟨Z5,h1,h2⟩:=R.ai e1;show(t d δ).bind (fun δ1=>(body δ1).bind fun o=>match o with | .nx dD=>qS t body ds dD | .rt r=> .ok (.rt r))=_
   rw[h1,R.aH,h2,R.aH];exact e2
theorem qf{t:FT}{body:FS}{ds:List D}(P:Nat->au->Prop){δ:au}(h0:P 0 δ)
 (hs:∀i d δ,ds[i]? =some d->P i δ->∃dN,((t d δ).bind body)= .ok (.nx dN)/\P (i+1) dN):∃dN,qS t body ds δ= .ok (.nx dN)/\P ds.length dN:=by
 have:=so (t:=t) (body:=body) ds 0 P h0 (fun i d δ hi hp=>by simpa using hs i d δ hi (by simpa using hp))
 simpa using this
theorem E_{α:Type} [DecidableEq α]:∀(L F:List α),L.Nodup->(∀x∈L,x∈F)->L.length<=F.length
 | [],_,_,_=>Nat.zero_le _
 | x ::L,F,hn,hs=>by
   obtain⟨h1,h2⟩:=List.nodup_cons.mp hn;have hx:x∈F:=hs x List.mem_cons_self;have ih:=E_ L (F.erase x) h2 (fun y hy=>(List.mem_erase_of_ne (fun(e:y=x)=>h1 (by rw[<-e];exact hy))).mpr (hs y (List.mem_cons_of_mem _ hy)))
   rw[List.length_erase_of_mem hx] at ih;have:0 < F.length:=List.length_pos_of_mem hx;rw[List.length_cons];omega
theorem jk{α:Type}{xs:List α}{i:Int}(h0:0<=i)(h:i.toNat < xs.length):rn xs i=some xs[i.toNat]:=by
 unfold rn yT;rw[if_pos h0,if_pos (by omega)]
 simp [h]
theorem strs_map:∀ss:List Str,strs? (ss.map D.str)=some ss
 | []=>rfl
 | s ::ss=>by show(strs? (ss.map D.str)).map (s ::·)=_;rw [strs_map ss];rfl
theorem ints_map:∀ss:List Int,ints? (ss.map D.int)=some ss
 | []=>rfl
 | s ::ss=>by show(ints? (ss.map D.int)).map (s ::·)=_;rw [ints_map ss];rfl
theorem HX{a b:Str}(h:a.cps.toList=b.cps.toList):a=b:=by
 obtain⟨a⟩:=a;obtain⟨b⟩:=b;congr 1;exact Array.toList_inj.mp h
theorem rL(a b:Str):(a++b).cps.toList=a.cps.toList++b.cps.toList:=by
 show(a.cps++b.cps).toList=_;simp
theorem cc{F G:FS}{δ δ1:au}{r:R Out}(h:F δ= .ok (.nx δ1))(h2:G δ1=r):ji F G δ=r:=by unfold ji;rw [h,R.aH];exact h2
theorem c9{f:au->R (List D)}{δ:au}{ds:List D}(h:f δ= .ok ds):eNew f δ= .ok (.lst ds):=by unfold eNew;rw [h];rfl
theorem qT{c:au->R Bool}{F G:FS}{δ:au}{r:R Out}(h:c δ= .ok true)(h2:F δ=r):yU c F G δ=r:=by unfold yU;rw [h,R.aH,if_pos rfl];exact h2
theorem iL{c:au->R Bool}{F G:FS}{δ:au}{r:R Out}(h:c δ= .ok false)(h2:G δ=r):yU c F G δ=r:=by unfold yU;rw [h,R.aH,if_neg (by decide)];exact h2
theorem wQ{it:au->R (List D)}{F:FS}{δ:au}{ds:List D}{r:R Out}(h:it δ= .ok ds)(h2:qS t F ds δ=r):zw it t F δ=r:=by unfold zw;rw [h,R.aH];exact h2
theorem cO{f:FD}{δ:au}{d:D}(h:f δ= .ok d):iy f δ= .ok (.rt d):=by unfold iy;rw [h];rfl
theorem dv{N:List Str}{F:FS}{ds:List D}{d:D}(h:F (fP N ds)= .ok (.rt d)):wY N F ds= .ok d:=by unfold wY;rw [h];rfl
theorem bH{α:Type}{p:Prop} [Decidable p](r:R α)(h:p):R.bh (decide p) r=r:=by rw[decide_eq_true h];rfl
theorem rJ{i:Nat}{f:FD}{δ:au}{d:D}(h:f δ= .ok d)(hi:i < δ.length):yE i f δ= .ok (.nx (δ.set i (.val d))):=by unfold yE;rw [h,R.aH,bH _ hi]
theorem IK{i:Nat}{f:au->R (List D)}{δ:au}{ds:List D}(h:f δ= .ok ds)(hi:i < δ.length):De i f δ= .ok (.nx (δ.set i (.bld ds))):=by unfold De;rw [h,R.aH,bH _ hi]
theorem IB{i:Nat}{f:FD}{δ:au}{d:D}{ds:List D}(h:f δ= .ok d)(hb:δ[i]? =some (.bld ds))(hl:ds.length < sizeLine):Em i f δ= .ok (.nx (δ.set i (.bld (ds++[d])))):=by unfold Em sM;rw [h,R.aH,hb];show R.bh _ _=_;rw [bH _ hl]
theorem eT{it:au->R (List D)}{c:au->R Bool}{own:List Str}{kp:List Nat}{δ:au}{ds ys:List D}(h1:it δ= .ok ds)(h2:ds.length<=sizeLine)(h3:pG t c f (um own kp δ) ds= .ok ys):iJ it t c f own kp δ= .ok ys:=by unfold iJ;rw [h1,R.aH,bH _ h2,h3]
theorem jU{ds:List D}{i:Int}{d:D}(h:rn ds i=some d):b_ (.lst ds) (.int i)= .ok d:=by unfold b_;simp only[h]
theorem wH{ds:List D}{i:Int}{d:D}(h:rn ds i=some d):b_ (.tup ds) (.int i)= .ok d:=by unfold b_;simp only[h]
theorem DC{x:Str}{i:Int}{c:Nat}(hz:x.length<=sizeLine)(h:rn x.cps.toList i=some c):b_ (.str x) (.int i)= .ok (.str ⟨#[c]⟩):=by unfold b_;simp only[h,bH _ hz]
end L2
end
section
namespace L2
open PySem PySem.Spec PyProof.Rows
theorem ay{g:D->D->R D}{fa fb:FD}{δ:au}{a b:D}{r:R D}(ha:fa δ= .ok a)(hb:fb δ= .ok b)(h:g a b=r):e2 g fa fb δ=r:=by unfold e2;rw [ha,R.aH,hb,R.aH];exact h
theorem dj{g:D->D->R D}{fa fb:FD}{δ:au}{a b:D}{k:Bool}(ha:fa δ= .ok a)(hb:fb δ= .ok b)(h:g a b= .ok (.bl k)):b2 g fa fb δ= .ok k:=by unfold b2;rw [ay ha hb h];rfl
theorem aw{f:FD}{g:au->R (List D)}{δ:au}{d:D}{ds:List D}(h:f δ= .ok d)(h2:g δ= .ok ds):ao f g δ= .ok (d ::ds):=by unfold ao;rw [h,R.aH,h2];rfl
theorem aQ{g:List D->R D}{fs:au->R (List D)}{δ:au}{ds:List D}{r:R D}(h:fs δ= .ok ds)(h2:g ds=r):aW g fs δ=r:=by unfold aW;rw [h,R.aH];exact h2
theorem cD{g:au->R (List D)}{δ:au}{ds:List D}(h:g δ= .ok ds)(hl:ds.length<=sizeLine):eP g δ= .ok (.tup ds):=by unfold eP;rw [h,R.aH,bH _ hl]
theorem ll{g:au->R (List D)}{δ:au}{ds:List D}(h:g δ= .ok ds)(hl:ds.length<=sizeLine):fI g δ= .ok ds:=by unfold fI;rw [h,R.aH,bH _ hl]
theorem JD{g:D->List D->R D}{f:FD}{fs:au->R (List D)}{δ:au}{ds:List D}{r:R D}(h:f δ= .ok (.str x))(h2:fs δ= .ok ds)(h3:g (.str x) ds=r):Nt "str" g f fs δ=r:=by
 unfold Nt;rw [h,R.aH,h2,R.aH];exact h3
theorem we{f:FD}{fl fh:FO}{δ:au}{d:D}{lo hi:Option Int}{r:R D}(h:f δ= .ok d)(h1:fl δ= .ok lo)(h2:fh δ= .ok hi)(h3:LO d lo hi=r):JY f fl fh δ=r:=by unfold JY;rw [h,R.aH,h1,R.aH,h2,R.aH];exact h3
theorem xN{f:FD}{δ:au}{i:Int}(h:f δ= .ok (.int i)):nL f δ= .ok (some i):=by unfold nL;rw [h];rfl
theorem Ly{x:Str}{lo hi:Option Int}(h:x.length<=sizeLine):LO (.str x) lo hi= .ok (.str (Txt.slice x lo hi)):=by unfold LO;exact bH _ h
theorem AR{a b:Str}(h:a.length+b.length<=sizeLine):dE (.str a) (.str b)= .ok (.str (a++b)):=by unfold dE;exact bH _ h
theorem sd{a b:List D}(h:a.length+b.length<=sizeLine):dE (.lst a) (.lst b)= .ok (.lst (a++b)):=by unfold dE;exact bH _ h
theorem zR{a b:Int}(h:0 < b):qt (.int a) (.int b)= .ok (.int (a % b)):=by unfold qt xk;exact bH _ h
theorem jt{f:FD}{δ:au}{n:Nat}(h:f δ= .ok (.int n))(hn:n < 1000000):ft f δ= .ok (cC 0 n):=by
 unfold ft;rw [h,R.aH];show R.bh (decide (-(2 ^ 62)<=(n:Int)/\(n:Int) < 2 ^ 62)) _=_;rw[bH _ ⟨by omega,by omega⟩,Int.toNat_natCast]
theorem zc{f:FD}{δ:au}{ds:List D}(h:f δ= .ok (.lst ds)):g_ f δ= .ok ds:=by unfold g_;rw [h];rfl
theorem zZ{f:FD}{δ:au}{ds:List D}(h:f δ= .ok (.tup ds)):g_ f δ= .ok ds:=by unfold g_;rw [h];rfl
theorem K3{f:FD}{δ:au}{ds:List D}(h:f δ= .ok (.lst ds)):jP f δ= .ok (dk ds):=by unfold jP;rw [h];rfl
theorem Fi{f:FD}{δ:au}{b:Bool}(h:f δ= .ok (.bl b)):M8 f δ= .ok b:=by unfold M8;rw [h];rfl
theorem t6(ds:List D):dh [.lst ds]= .ok (.int ds.length):=rfl
end L2
end
section
namespace L3
open PySem PySem.Spec PyProof.Rows L2
inductive V3 where
 | d (x:D) | loc (k:Nat) | lst (vs:List V3) | tup (vs:List V3) | fn (x:Str)
inductive SO where
 | lst (ds:List D) | dct (aV:List (Key × D)) | ins (c:Nat) (fs:List (Str × V3)) | j4 | exc (c:Nat)
abbrev aI:=List SO
inductive R3 (α:Type) where
 | ok (a:α) (S:aI) | ex (c:Nat) (S:aI) | no
def R3.bind{α β:Type}:R3 α->(α->aI->R3 β)->R3 β
 | .ok a S,f=>f a S
 | .ex c S,_=> .ex c S
 | .no,_=> .no
theorem R3.ai{α β:Type}{r:R3 α}{f:α->aI->R3 β}{b:β}{S':aI}(h:r.bind f= .ok b S'):∃a S,r= .ok a S/\f a S= .ok b S':=by
 cases r with
 | ok a S=>exact⟨a,S,rfl,h⟩
 | ex c S=>cases h
 | no=>cases h
@[simp] theorem R3.aH{α β:Type}(a:α)(S:aI)(f:α->aI->R3 β):(R3.ok a S).bind f=f a S:=rfl
def R3.bh{α:Type}(c:Bool)(r:R3 α):R3 α:=if c then r else .no
theorem R3.bf{α:Type}{c:Bool}{r:R3 α}{a:α}{S:aI}(h:R3.bh c r= .ok a S):c=true/\r= .ok a S:=by
 cases c with
 | true=>exact⟨rfl,h⟩
 | false=>cases h
def R3.of{α:Type}(r:R α)(S:aI):R3 α:=match r with | .ok a=> .ok a S | _=> .no
theorem R3.of_ok{α:Type}{r:R α}{S S':aI}{a:α}(h:R3.of r S= .ok a S'):r= .ok a/\S'=S:=by
 cases r with
 | ok b=>cases h;exact⟨rfl,rfl⟩
 | ex c=>cases h
 | no=>cases h
structure P3 where
 r:List Addr
 z:List Addr
 f:List Addr
def P3.b(ρ:P3):List Addr:=ρ.r.filter (fun a=>!ρ.f.contains a)++ρ.z
theorem P3.dF{ρ:P3}{a:Addr}:a∈ρ.b↔(a∈ρ.r/\a ∉ ρ.f)\/a∈ρ.z:=by
 unfold P3.b;rw[List.mem_append,List.mem_filter];simp
def P3.push(ρ:P3)(a:Addr):P3:=⟨ρ.r++[a],ρ.z,ρ.f⟩
def P3.cut(ρ:P3)(n:Nat):P3:=⟨ρ.r.take n,ρ.z,ρ.f⟩
mutual
def bc(K:W.Frag)(ρ:P3)(H:Hp):V3->V->Prop
 | .d x,v=>Rep K ρ.b H x v
 | .loc k,v=>∃a,ρ.r[k]? =some a/\v= .ref a
 | .lst vs,v=>∃a xs,v= .ref a/\uh K ρ.b H a xs/\aD K ρ H vs xs
 | .tup vs,v=>∃a xs,v= .ref a/\uZ K ρ.b H a xs/\aD K ρ H vs xs
 | .fn x,v=>∃a,PySem.W.nsIn K mainGlobals x=some (some (.ref a))/\v= .ref a
def aD(K:W.Frag)(ρ:P3)(H:Hp):List V3->List V->Prop
 | [],xs=>xs=[]
 | d ::ds,xs=>∃x r,xs=x ::r/\bc K ρ H d x/\aD K ρ H ds r
end
structure Pre (ρ:P3) (H:Hp) (cn:P3) (H':Hp):Prop where
 bj:dn ρ.b H cn.b H'
 zz:cn.z=ρ.z
 zs:∀(b:Addr) (o:HO),b∈ρ.z->H b=some o->H' b=some o
 ext:∀(k:Nat) (a:Addr),ρ.r[k]? =some a->cn.r[k]? =some a
theorem Pre.refl(ρ:P3)(H:Hp):Pre ρ H ρ H:=⟨dn.refl ρ.b H,rfl,fun _ _ _ h=>h,fun _ _ h=>h⟩
theorem Pre.trans(a:Pre ρ H cn H')(b:Pre cn H' GN nB):Pre ρ H GN nB:=⟨a.bj.trans b.bj,b.zz.trans a.zz,fun c o hc h=>b.zs c o (by rw[a.zz];exact hc) (a.zs c o hc h),fun k x h=>b.ext k x (a.ext k x h)⟩
theorem Pre.same(s:aR H H'):Pre ρ H ρ H':=⟨dn.same s,rfl,fun b o _ h=>s b o h,fun _ _ h=>h⟩
theorem uZ.bj{K:W.Frag}{B B':List Addr}(p:dn B H B' H'){a:Addr}{xs:List V}(l:uZ K B H a xs):uZ K B' H' a xs:=
 l.elim (fun z=> .inl ⟨(p.rd z.2 z.1).2,(p.rd z.2 z.1).1⟩) .inr
mutual
theorem bc.pre{K:W.Frag}(p:Pre ρ H cn H'):∀{d:V3} {v:V},bc K ρ H d v->bc K cn H' d v
 | .d x,v,h=>by unfold bc at h ⊢;exact h.bj p.bj
 | .loc k,v,h=>by unfold bc at h ⊢;obtain⟨a,h1,h2⟩:=h;exact⟨a,p.ext k a h1,h2⟩
 | .lst vs,v,h=>by unfold bc at h ⊢;obtain⟨a,xs,e,l,r⟩:=h;exact⟨a,xs,e,l.bj p.bj,aD.pre p r⟩
 | .tup vs,v,h=>by unfold bc at h ⊢;obtain⟨a,xs,e,l,r⟩:=h;exact⟨a,xs,e,uZ.bj p.bj l,aD.pre p r⟩
 | .fn x,v,h=>by unfold bc at h ⊢;exact h
theorem aD.pre{K:W.Frag}(p:Pre ρ H cn H'):∀{ds:List V3} {xs:List V},aD K ρ H ds xs->aD K cn H' ds xs
 | [],_,h=>by unfold aD at h ⊢;exact h
 | d ::ds,xs,h=>by
   unfold aD at h ⊢;obtain⟨x,r,e,h1,h2⟩:=h;exact⟨x,r,e,bc.pre p h1,aD.pre p h2⟩
end
structure PW (ρ:P3) (H:Hp) (cn:P3) (H':Hp):Prop where
 bj:dn ρ.b H cn.b H'
 ext:∀(k:Nat) (a:Addr),ρ.r[k]? =some a->cn.r[k]? =some a
theorem Pre.pw(p:Pre ρ H cn H'):PW ρ H cn H':=⟨p.bj,p.ext⟩
theorem PW.trans(a:PW ρ H cn H')(b:PW cn H' GN nB):PW ρ H GN nB:=⟨a.bj.trans b.bj,fun k x h=>b.ext k x (a.ext k x h)⟩
mutual
theorem bc.pw{K:W.Frag}(p:PW ρ H cn H'):∀{d:V3} {v:V},bc K ρ H d v->bc K cn H' d v
 | .d x,v,h=>by unfold bc at h ⊢;exact h.bj p.bj
 | .loc k,v,h=>by unfold bc at h ⊢;obtain⟨a,h1,h2⟩:=h;exact⟨a,p.ext k a h1,h2⟩
 | .lst vs,v,h=>by unfold bc at h ⊢;obtain⟨a,xs,e,l,r⟩:=h;exact⟨a,xs,e,l.bj p.bj,aD.pw p r⟩
 | .tup vs,v,h=>by unfold bc at h ⊢;obtain⟨a,xs,e,l,r⟩:=h;exact⟨a,xs,e,uZ.bj p.bj l,aD.pw p r⟩
 | .fn x,v,h=>by unfold bc at h ⊢;exact h
theorem aD.pw{K:W.Frag}(p:PW ρ H cn H'):∀{ds:List V3} {xs:List V},aD K ρ H ds xs->aD K cn H' ds xs
 | [],_,h=>by unfold aD at h ⊢;exact h
 | d ::ds,xs,h=>by
   unfold aD at h ⊢;obtain⟨x,r,e,h1,h2⟩:=h;exact⟨x,r,e,bc.pw p h1,aD.pw p h2⟩
end
theorem aD.nil{K:W.Frag}:aD K ρ H [] []:=by unfold aD;rfl
theorem aD.cons{K:W.Frag}{d:V3}{ds:List V3}{x:V}{xs:List V}(h:bc K ρ H d x)(t:aD K ρ H ds xs):aD K ρ H (d ::ds) (x ::xs):=by
 unfold aD;exact⟨x,xs,rfl,h,t⟩
theorem aD.cb{K:W.Frag}{d:V3}{ds:List V3}{xs:List V}(h:aD K ρ H (d ::ds) xs):∃x r,xs=x ::r/\bc K ρ H d x/\aD K ρ H ds r:=by
 unfold aD at h;exact h
theorem aD.length{K:W.Frag}:∀{ds:List V3} {xs:List V},aD K ρ H ds xs->ds.length=xs.length
 | [],_,h=>by unfold aD at h;rw [h];rfl
 | d ::ds,xs,h=>by
   obtain⟨x,r,rfl,_,h2⟩:=h.cb;simp [h2.length]
theorem aD.of{K:W.Frag}{ρ:P3}:∀{ds:List D} {xs:List V},aF K ρ.b H ds xs->aD K ρ H (ds.map .d) xs
 | [],_,h=>by unfold aF at h;subst h;exact aD.nil
 | d ::ds,xs,h=>by
   obtain⟨x,r,rfl,h1,h2⟩:=h.cb;exact aD.cons (by unfold bc;exact h1) (aD.of h2)
theorem aD.to{K:W.Frag}{ρ:P3}:∀{ds:List D} {xs:List V},aD K ρ H (ds.map .d) xs->aF K ρ.b H ds xs
 | [],_,h=>by unfold aD at h;subst h;exact aF.nil
 | d ::ds,xs,h=>by
   obtain⟨x,r,rfl,h1,h2⟩:=aD.cb h;unfold bc at h1;exact aF.cons h1 (aD.to h2)
def isExc(C b:Addr):Heap->Prop:=fun h=>∃o,h.get? b=some o/\o.cls= .ref C
def DR(K:W.Frag)(cl:Aag)(ρ:P3)(H:Hp):SO->Option HO->Prop
 | .lst ds,h=>∃xs,h=some (.lst xs)/\aF K ρ.b H ds xs
 | .dct aV,h=>∃ys,h=some (.dK ys)/\ys.map (·.1)=aV.map (·.1)/\aF K ρ.b H (aV.map (·.2)) (ys.map (·.2))
 | .ins c fs,h=>∃dx ys,h=some (.ins (cl c) dx ys)/\ys.map (·.1)=fs.map (·.1)/\aD K ρ H (fs.map (·.2)) (ys.map (·.2))
 | .j4,h=>∃u,h=some u
 | .exc c,h=>∃b,h=some (.ext (isExc (cl c) b))
theorem DR.pre{K:W.Frag}{cl:Aag}(p:Pre ρ H cn H'){o:SO}{h:Option HO}(r:DR K cl ρ H o h):DR K cl cn H' o h:=by
 cases o with
 | lst ds=>obtain⟨xs,e,q⟩:=r;exact⟨xs,e,q.bj p.bj⟩
 | dct aV=>obtain⟨ys,e,e2,q⟩:=r;exact⟨ys,e,e2,q.bj p.bj⟩
 | ins c fs=>obtain⟨dx,ys,e,e2,q⟩:=r;exact⟨dx,ys,e,e2,q.pre p⟩
 | j4=>exact r
 | exc c=>exact r
theorem DR.pw{K:W.Frag}{cl:Aag}(p:PW ρ H cn H'){o:SO}{h:Option HO}(r:DR K cl ρ H o h):DR K cl cn H' o h:=by
 cases o with
 | lst ds=>obtain⟨xs,e,q⟩:=r;exact⟨xs,e,q.bj p.bj⟩
 | dct aV=>obtain⟨ys,e,e2,q⟩:=r;exact⟨ys,e,e2,q.bj p.bj⟩
 | ins c fs=>obtain⟨dx,ys,e,e2,q⟩:=r;exact⟨dx,ys,e,e2,q.pw p⟩
 | j4=>exact r
 | exc c=>exact r
theorem DR.some{K:W.Frag}{cl:Aag}{o:SO}{h:Option HO}(r:DR K cl ρ H o h):∃u,h=some u:=by
 cases o with
 | lst ds=>obtain⟨xs,e,q⟩:=r;exact⟨_,e⟩
 | dct aV=>obtain⟨ys,e,e2,q⟩:=r;exact⟨_,e⟩
 | ins c fs=>obtain⟨dx,ys,e,e2,q⟩:=r;exact⟨_,e⟩
 | j4=>exact r
 | exc c=>obtain⟨b,e⟩:=r;exact⟨_,e⟩
structure SW (K:W.Frag) (cl:Aag) (ρ:P3) (H:Hp) (S:aI):Prop where
 len:ρ.r.length=S.length
 nd:∀(i j:Nat) (a:Addr),ρ.r[i]? =some a->ρ.r[j]? =some a->i=j
 ob:∀(k:Nat) (a:Addr) (o:SO),ρ.r[k]? =some a->S[k]? =some o->DR K cl ρ H o (H a)
 zb:∀b∈ρ.z,(∃xs,H b=some (.lst xs))/\b ∉ ρ.r
 fz:∀(k:Nat) (a:Addr),ρ.r[k]? =some a->S[k]?≠some .j4->a ∉ ρ.f
 ff:∀a∈ρ.f,∃o,H a=some o
 fi:∀(k:Nat) (a:Addr),ρ.r[k]? =some a->S[k]? =some .j4->a∈ρ.f
theorem SW.rs{K:W.Frag}{cl:Aag}{ρ:P3}{H:Hp}{S:aI}(w:SW K cl ρ H S):∀a∈ρ.r,∃o,H a=some o:=fun a z=>by
 obtain⟨k,hk⟩:=List.getElem?_of_mem z;have hl:=(List.getElem?_eq_some_iff.mp hk).1;exact(w.ob k a _ hk (List.getElem?_eq_getElem (by rw[<-w.len];exact hl))).some
theorem SW.bs{K:W.Frag}{cl:Aag}{ρ:P3}{H:Hp}{S:aI}(w:SW K cl ρ H S):∀a∈ρ.b,∃o,H a=some o:=fun a ha=>by
 rcases P3.dF.mp ha with z | z
 .exact w.rs a z.1
 .obtain⟨xs,h⟩:=(w.zb a z).1;exact⟨_,h⟩
theorem SW.same{K:W.Frag}{cl:Aag}{S:aI}(w:SW K cl ρ H S)(s:aR H H'):SW K cl ρ H' S:=
 ⟨w.len,w.nd,fun k a o h1 h2=>by
   have r:=w.ob k a o h1 h2;obtain⟨u,hu⟩:=r.some;rw[s a u hu,<-hu];exact r.pre (Pre.same s),fun b hb=>let⟨⟨o,ho⟩,n⟩:=w.zb b hb;⟨⟨o,s b _ ho⟩,n⟩,w.fz,fun a ha=>let⟨o,ho⟩:=w.ff a ha;⟨o,s a o ho⟩,w.fi⟩
theorem P3.mem_push{ρ:P3}{a b:Addr}(h:b∈(ρ.push a).b):b∈ρ.b\/b=a:=by
 rcases P3.dF.mp h with⟨z,n⟩ | z
 .rcases List.mem_append.mp z with y | y
  .exact .inl (P3.dF.mpr (.inl ⟨y,n⟩))
  .exact .inr (List.mem_singleton.mp y)
 .exact .inl (P3.dF.mpr (.inr z))
theorem SW.new{K:W.Frag}{cl:Aag}{ρ:P3}{H H':Hp}{S:aI}(w:SW K cl ρ H S){a:Addr}{o:SO}(s:aR H H')(n:H a=none)(r:DR K cl (ρ.push a) H' o (H' a))(Dl:o≠SO.j4:=by intro h;cases h) :
 SW K cl (ρ.push a) H' (S++[o])/\Pre ρ H (ρ.push a) H':=by
 have na:a ∉ ρ.b:=fun ha=>by obtain⟨o,ho⟩:=w.bs a ha;rw [n] at ho;cases ho
 have nr:a ∉ ρ.r:=fun ha=>by obtain⟨o,ho⟩:=w.rs a ha;rw [n] at ho;cases ho
 have nf:a ∉ ρ.f:=fun ha=>by obtain⟨o,ho⟩:=w.ff a ha;rw [n] at ho;cases ho
 have p:Pre ρ H (ρ.push a) H':=⟨fun b u e nb=>⟨s b u e,fun hb=>by
  rcases P3.mem_push hb with z | z
  .exact nb z
  .subst z;rw [n] at e;cases e⟩,rfl,fun b o _ h=>s b o h,fun k x hx=>by
   show(ρ.r++[a])[k]? =_;rw[List.getElem?_append_left (List.getElem?_eq_some_iff.mp hx).1];exact hx⟩
 have last:∀(i:Nat) (b:Addr),(ρ.push a).r[i]? =some b->(i < ρ.r.length/\ρ.r[i]? =some b)\/(i=ρ.r.length/\b=a):=fun i b h=>by
  have h:(ρ.r++[a])[i]? =some b:=h;by_cases q:i < ρ.r.length
  .rw [List.getElem?_append_left q] at h;exact .inl ⟨q,h⟩
  .rw [List.getElem?_append_right (by omega)] at h
   have h0:i - ρ.r.length=0:=by
    have:=(List.getElem?_eq_some_iff.mp h).1;simp at this;omega
   rw[h0] at h;cases h;exact .inr ⟨by omega,rfl⟩
 refine⟨⟨by show(ρ.r++[a]).length=_;rw [List.length_append,List.length_append,w.len];rfl,fun i j b hi hj=>?_,fun k b u hk hu=>?_,fun b hb=>?_,fun k b hk hu=>?_,fun b hb=>?_,fun k b hk hu=>?_⟩,p⟩
 .rcases last i b hi with⟨q1,q2⟩ | ⟨q1,rfl⟩
  .rcases last j b hj with⟨z1,z2⟩ | ⟨z1,rfl⟩
   .exact w.nd i j b q2 z2
   .exact absurd (List.mem_of_getElem? q2) nr
  .rcases last j b hj with⟨z1,z2⟩ | ⟨z1,z3⟩
   .exact absurd (List.mem_of_getElem? z2) nr
   .omega
 .rcases last k b hk with⟨q1,q2⟩ | ⟨q1,rfl⟩
  .rw [List.getElem?_append_left (by rw[<-w.len];exact q1)] at hu
   have r0:=w.ob k b u q2 hu;obtain⟨x,hx⟩:=r0.some;rw[s b x hx,<-hx];exact r0.pre p
  .rw [List.getElem?_append_right (by rw[<-w.len];omega),q1,w.len,Nat.sub_self] at hu
   cases hu;exact r
 .obtain⟨⟨o,ho⟩,nb⟩:=w.zb b hb;refine⟨⟨o,s b _ ho⟩,fun h=>?_⟩
  rcases List.mem_append.mp h with y | y
  .exact nb y
  .rw [List.mem_singleton] at y;subst y;rw [n] at ho;cases ho
 .rcases last k b hk with⟨q1,q2⟩ | ⟨q1,rfl⟩
  .rw [List.getElem?_append_left (by rw[<-w.len];exact q1)] at hu
   exact w.fz k b q2 hu
  .exact nf
 .obtain⟨o,ho⟩:=w.ff b hb;exact⟨o,s b o ho⟩
 .rcases last k b hk with⟨q1,q2⟩ | ⟨q1,rfl⟩
  .rw [List.getElem?_append_left (by rw[<-w.len];exact q1)] at hu
   exact w.fi k b q2 hu
  .rw [List.getElem?_append_right (by rw[<-w.len];omega),q1,w.len,Nat.sub_self] at hu
   cases hu;exact absurd rfl Dl
theorem SW.put{K:W.Frag}{cl:Aag}{ρ:P3}{S:aI}(w:SW K cl ρ H S){k:Nat}{a:Addr}{o:SO}{u:HO}(hk:ρ.r[k]? =some a)(hf:a ∉ ρ.f)(r:DR K cl ρ H o (some u))(Dl:o≠SO.j4:=by intro h;cases h) :
 SW K cl ρ (upd H a u) (S.set k o)/\Pre ρ H ρ (upd H a u):=by
 have ha:a∈ρ.r:=List.mem_of_getElem? hk;have hb:a∈ρ.b:=P3.dF.mpr (.inl ⟨ha,hf⟩);have nz:∀b∈ρ.z,b≠a:=fun b hb z=>(w.zb b hb).2 (by rw[z];exact ha)
 have p:Pre ρ H ρ (upd H a u):=⟨fun b x e nb=>⟨by rw[bg (fun(z:b=a)=>nb (by rw[z];exact hb))];exact e,nb⟩,rfl,fun b o hb h=>by rw[bg (nz b hb)];exact h,fun _ _ h=>h⟩
 have hl:k < S.length:=by rw[<-w.len];exact(List.getElem?_eq_some_iff.mp hk).1
 refine⟨⟨by rw[List.length_set];exact w.len,w.nd,fun j b x hj hx=>?_,fun b hb=>?_,fun j b hj hx=>?_,fun b hb=>?_,fun j b hj hx=>?_⟩,p⟩
 .by_cases q:k=j
  .subst q;rw[hk] at hj;cases hj;rw[List.getElem?_set_self hl] at hx;cases hx;rw[aT];exact r.pre p
  .rw [List.getElem?_set_ne q] at hx;have ne:b≠a:=fun z=>by subst z;exact q (w.nd k j b hk hj)
   rw[bg ne];exact(w.ob j b x hj hx).pre p
 .obtain⟨⟨o,ho⟩,nb⟩:=w.zb b hb;exact⟨⟨o,by rw[bg (nz b hb)];exact ho⟩,nb⟩
 .by_cases q:k=j
  .subst q;rw[hk] at hj;cases hj;exact hf
  .rw [List.getElem?_set_ne q] at hx;exact w.fz j b hj hx
 .obtain⟨o,ho⟩:=w.ff b hb;exact⟨o,by rw[bg (fun z=>hf (by rw[<-z];exact hb))];exact ho⟩
 .by_cases q:k=j
  .subst q;rw[List.getElem?_set_self hl] at hx;cases hx;exact absurd rfl Dl
  .rw [List.getElem?_set_ne q] at hx;exact w.fi j b hj hx
theorem SW.j4{K:W.Frag}{cl:Aag}{ρ:P3}{S:aI}(w:SW K cl ρ H S){k:Nat}{a:Addr}{ds:List D}(hk:ρ.r[k]? =some a)(hS:S[k]? =some (.lst ds)) :
 SW K cl ⟨ρ.r,ρ.z,a ::ρ.f⟩ H (S.set k .j4)/\Pre ρ H ⟨ρ.r,ρ.z,a ::ρ.f⟩ H/\Rep K (⟨ρ.r,ρ.z,a ::ρ.f⟩:P3).b H (.lst ds) (.ref a):=by
 have hl:k < S.length:=by rw[<-w.len];exact(List.getElem?_eq_some_iff.mp hk).1
 have sub:∀b,b∈(⟨ρ.r,ρ.z,a ::ρ.f⟩:P3).b->b∈ρ.b:=fun b hb=>by
  rcases P3.dF.mp hb with⟨z,n⟩ | z
  .exact P3.dF.mpr (.inl ⟨z,fun h=>n (List.mem_cons_of_mem _ h)⟩)
  .exact P3.dF.mpr (.inr z)
 have p:Pre ρ H ⟨ρ.r,ρ.z,a ::ρ.f⟩ H:=⟨fun b o e nb=>⟨e,fun hb=>nb (sub b hb)⟩,rfl,fun _ _ _ h=>h,fun _ _ h=>h⟩
 obtain⟨xs,e1,r1⟩:=w.ob k a _ hk hS;refine⟨⟨by rw[List.length_set];exact w.len,w.nd,fun j b x hj hx=>?_,w.zb,fun j b hj hx=>?_,fun b hb=>?_,fun j b hj hx=>?_⟩,p,?_⟩
 .by_cases q:k=j
  .subst q;rw[List.getElem?_set_self hl] at hx;cases hx;rw[hk] at hj;cases hj;exact⟨_,e1⟩
  .rw [List.getElem?_set_ne q] at hx;exact(w.ob j b x hj hx).pre p
 .by_cases q:k=j
  .subst q;rw[List.getElem?_set_self hl] at hx;exact absurd rfl hx
  .rw [List.getElem?_set_ne q] at hx;intro h;rcases List.mem_cons.mp h with z | z
   .subst z;exact q (w.nd k j b hk hj)
   .exact w.fz j b hj hx z
 .rcases List.mem_cons.mp hb with z | z
  .subst z;exact⟨_,e1⟩
  .exact w.ff b z
 .by_cases q:k=j
  .subst q;rw[hk] at hj;cases hj;exact List.mem_cons_self
  .rw [List.getElem?_set_ne q] at hx;exact List.mem_cons_of_mem _ (w.fi j b hj hx)
 .refine Rep.lst.mpr ⟨a,xs,rfl, .inl ⟨fun hb=>?_, .inl e1⟩,r1.bj p.bj⟩
  rcases P3.dF.mp hb with⟨_,n⟩ | z
  .exact n List.mem_cons_self
  .exact(w.zb a z).2 (List.mem_of_getElem? hk)
mutual
def lq:D->Bool
 | .lst _=>false
 | .dct _ _=>false
 | .tup ds=>jA ds
 | _=>true
def jA:List D->Bool
 | []=>true
 | d ::ds=>lq d && jA ds
end
mutual
theorem Rep.yk{K:W.Frag}{B:List Addr}(hB:∀b∈B,∀xs,¬Rd H b (.tup xs)):∀{d:D} {v:V},lq d=true->Rep K [] H d v->Rep K B H d v
 | .cR,v,_,r=>Rep.cR.mpr (Rep.cR.mp r)
 | .bl _,v,_,r=>Rep.bl.mpr (Rep.bl.mp r)
 | .int _,v,_,r=>Rep.int.mpr (Rep.int.mp r)
 | .str _,v,_,r=>Rep.str.mpr (Rep.str.mp r)
 | .lst _,v,h,_=>by unfold lq at h;cases h
 | .dct _ _,v,h,_=>by unfold lq at h;cases h
 | .tup ds,v,h,r=>by
   unfold lq at h;obtain⟨a,xs,rfl,l,rs⟩:=Rep.tup.mp r;exact Rep.tup.mpr ⟨a,xs,rfl,l.elim (fun z=> .inl ⟨fun hb=>hB a hb xs z.2,z.2⟩) .inr,aF.yk hB h rs⟩
theorem aF.yk{K:W.Frag}{B:List Addr}(hB:∀b∈B,∀xs,¬Rd H b (.tup xs)):∀{ds:List D} {vs:List V},jA ds=true->aF K [] H ds vs->aF K B H ds vs
 | [],_,_,r=>by unfold aF at r;subst r;exact aF.nil
 | d ::ds,vs,h,r=>by
   unfold jA at h;obtain⟨h1,h2⟩:=Bool.and_eq_true_iff.mp h;obtain⟨x,xs,rfl,r1,r2⟩:=r.cb;exact aF.cons (Rep.yk hB h1 r1) (aF.yk hB h2 r2)
end
theorem SW.nt{K:W.Frag}{cl:Aag}{ρ:P3}{S:aI}(w:SW K cl ρ H S):∀b∈ρ.b,∀xs,¬Rd H b (.tup xs):=fun b hb xs h=>by
 have key:∀o,H b=some o->(∀xs,o≠ .tup xs)->(∀ob xs,o≠ .j4 ob (.tup xs))->False:=fun o e h1 h2=>by
  rcases h with z | ⟨ob,z⟩
  .rw [e] at z;cases z;exact h1 _ rfl
  .rw [e] at z;cases z;exact h2 _ _ rfl
 rcases P3.dF.mp hb with⟨z,n⟩ | z
 .obtain⟨k,hk⟩:=List.getElem?_of_mem z;have hl:=(List.getElem?_eq_some_iff.mp hk).1;have hS:S[k]? =some (S[k]'(by rw[<-w.len];exact hl)):=List.getElem?_eq_getElem (by rw[<-w.len];exact hl)
  have r:=w.ob k b _ hk hS;generalize S[k]'(by rw[<-w.len];exact hl)=o at r hS
  cases o with
  | lst ds=>obtain⟨ys,e,_⟩:=r;exact key _ e (fun _ q=>by cases q) (fun _ _ q=>by cases q)
  | dct aV=>obtain⟨ys,e,_⟩:=r;exact key _ e (fun _ q=>by cases q) (fun _ _ q=>by cases q)
  | ins c fs=>obtain⟨dx,ys,e,_⟩:=r;exact key _ e (fun _ q=>by cases q) (fun _ _ q=>by cases q)
  | j4=>exact n (w.fi k b hk hS)
  | exc c=>obtain⟨b',e⟩:=r;exact key _ e (fun _ q=>by cases q) (fun _ _ q=>by cases q)
 .obtain⟨⟨ys,e⟩,_⟩:=w.zb b z;exact key _ e (fun _ q=>by cases q) (fun _ _ q=>by cases q)
abbrev DE:=List (Option V3)
structure er (K:W.Frag) (cl:Aag) (ρ:P3) (H:Hp) (S:aI) (σ:L2.St) (δ:DE):Prop where
 len:δ.length=σ.length
 sw:SW K cl ρ H S
 val:∀(i:Nat) (d:V3),δ[i]? =some (some d)->∃v,σ[i]? =some (some v)/\bc K ρ H d v
theorem er.to{K:W.Frag}{cl:Aag}{S S':aI}{σ:L2.St}{δ:DE}(E:er K cl ρ H S σ δ)(p:Pre ρ H cn H')(w:SW K cl cn H' S'):er K cl cn H' S' σ δ:=
 ⟨E.len,w,fun i d e=>let⟨v,h1,h2⟩:=E.val i d e;⟨v,h1,h2.pre p⟩⟩
theorem er.set{K:W.Frag}{cl:Aag}{S:aI}{σ:L2.St}{δ:DE}(E:er K cl ρ H S σ δ){i:Nat}{d:V3}{v:V}(hi:i < σ.length)(r:bc K ρ H d v):er K cl ρ H S (σ.set i (some v)) (δ.set i (some d)):=
 ⟨by rw[List.length_set,List.length_set];exact E.len,E.sw,fun j d' e=>by
   by_cases h:i=j
   .subst h;rw[List.getElem?_set_self (by rw[E.len];exact hi)] at e
    cases e;exact⟨v,List.getElem?_set_self hi,r⟩
   .rw [List.getElem?_set_ne h] at e ⊢;exact E.val j d' e⟩
def down(δ:DE):au:=δ.map fun x=>match x with | some (.d d)=> .val d | _=> .un
theorem er.down{K:W.Frag}{cl:Aag}{ρ:P3}{S:aI}{σ:L2.St}{δ:DE}(E:er K cl ρ H S σ δ):dR K [] ρ.b H σ (down δ) where
 len:=by unfold L3.down;rw [List.length_map];exact E.len
 bs:=E.sw.bs
 zb:=fun a ha=>by cases ha
 val:=fun i d e=>by
  unfold L3.down at e;rw[List.getElem?_map] at e;cases q:δ[i]? with
  | none=>rw [q] at e;cases e
  | some x=>
    rw[q] at e
    match x,e,q with
    | some (.d y),e,q=>
      cases e;obtain⟨v,h1,h2⟩:=E.val i _ q;unfold bc at h2;exact⟨v,h1,h2⟩
    | some (.loc k),e,q=>cases e
    | some (.lst k),e,q=>cases e
    | some (.tup k),e,q=>cases e
    | none,e,q=>cases e
 bld:=fun i ds e=>by
  unfold L3.down at e;rw[List.getElem?_map] at e;cases q:δ[i]? with
  | none=>rw [q] at e;cases e
  | some x=>
    rw[q] at e
    match x,e with
    | some (.d y),e=>cases e
    | some (.loc k),e=>cases e
    | some (.lst k),e=>cases e
    | some (.tup k),e=>cases e
    | none,e=>cases e
 dis:=fun i j a ds es e=>by
  unfold L3.down at e;rw[List.getElem?_map] at e;cases q:δ[i]? with
  | none=>rw [q] at e;cases e
  | some x=>
    rw[q] at e
    match x,e with
    | some (.d y),e=>cases e
    | some (.loc k),e=>cases e
    | some (.lst k),e=>cases e
    | some (.tup k),e=>cases e
    | none,e=>cases e
mutual
def res(S:aI):V3->Option D
 | .d x=>some x
 | .loc k=>(match S[k]? with | some (.lst ds)=>some (.lst ds) | some (.dct aV)=>some (.dct (aV.map (·.1)) (aV.map (·.2))) | _=>none)
 | .lst vs=>(xM S vs).map D.lst
 | .tup vs=>(xM S vs).map D.tup
 | .fn _=>none
def xM(S:aI):List V3->Option (List D)
 | []=>some []
 | v ::vs=>(res S v).bind fun d=>(xM S vs).map (d ::·)
end
def bK(S:aI)(δ:DE):au:=δ.map fun x=>match x with | some v=>(match res S v with | some d=> .val d | none=> .un) | none=> .un
theorem qj{α β:Type}{o:Option α}{f:α->β}{b:β}(h:o.map f=some b):∃a,o=some a/\f a=b:=by
 cases o with
 | none=>cases h
 | some a=>cases h;exact⟨a,rfl,rfl⟩
theorem Ac{α β:Type}{o:Option α}{f:α->Option β}{b:β}(h:o.bind f=some b):∃a,o=some a/\f a=some b:=by
 cases o with
 | none=>cases h
 | some a=>exact⟨a,rfl,h⟩
mutual
def ei(n:Nat):V3->Bool
 | .d _=>true
 | .loc k=>decide (n<=k)
 | .lst vs=>pJ n vs
 | .tup vs=>pJ n vs
 | .fn _=>true
def pJ(n:Nat):List V3->Bool
 | []=>true
 | v ::vs=>ei n v && pJ n vs
end
mutual
theorem bc.resB{K:W.Frag}{cl:Aag}{ρ:P3}{S:aI}{B':List Addr}{n:Nat}(w:SW K cl ρ H S)(p:dn ρ.b H B' H)(hn:∀(k:Nat) (a:Addr),n<=k->ρ.r[k]? =some a->a ∉ B'):∀{v:V3} {d:D} {x:V},ei n v=true->res S v=some d->bc K ρ H v x->Rep K B' H d x
 | .d y,d,x,_,h,r=>by unfold L3.res at h;cases h;unfold bc at r;exact r.bj p
 | .fn y,d,x,_,h,r=>by unfold L3.res at h;cases h
 | .loc k,d,x,g,h,r=>by
   unfold L3.res at h;unfold bc at r;unfold ei at g;obtain⟨a,h1,rfl⟩:=r;split at h
   .rename_i ds e;cases h;obtain⟨xs,e2,q⟩:=w.ob k a _ h1 e;unfold Rep;exact⟨a,xs,rfl, .inl ⟨hn k a (of_decide_eq_true g) h1, .inl e2⟩,q.bj p⟩
   .rename_i aV e;cases h;obtain⟨ys,e2,e3,q⟩:=w.ob k a _ h1 e;unfold Rep;exact⟨a,ys,rfl,⟨hn k a (of_decide_eq_true g) h1,e2⟩,e3,q.bj p⟩
   .cases h
 | .lst vs,d,x,g,h,r=>by
   unfold L3.res at h;unfold ei at g;obtain⟨ds,e,rfl⟩:=qj h;unfold bc at r;obtain⟨a,xs,rfl,l,r⟩:=r;unfold Rep;exact⟨a,xs,rfl,l.bj p,aD.resB w p hn g e r⟩
 | .tup vs,d,x,g,h,r=>by
   unfold L3.res at h;unfold ei at g;obtain⟨ds,e,rfl⟩:=qj h;unfold bc at r;obtain⟨a,xs,rfl,l,r⟩:=r;unfold Rep;exact⟨a,xs,rfl,uZ.bj p l,aD.resB w p hn g e r⟩
theorem aD.resB{K:W.Frag}{cl:Aag}{ρ:P3}{S:aI}{B':List Addr}{n:Nat}(w:SW K cl ρ H S)(p:dn ρ.b H B' H)(hn:∀(k:Nat) (a:Addr),n<=k->ρ.r[k]? =some a->a ∉ B'):∀{vs:List V3} {ds:List D} {xs:List V},pJ n vs=true->xM S vs=some ds->aD K ρ H vs xs->aF K B' H ds xs
 | [],ds,xs,_,h,r=>by unfold xM at h;cases h;unfold aD at r;subst r;exact aF.nil
 | v ::vs,ds,xs,g,h,r=>by
   unfold xM at h;unfold pJ at g;obtain⟨g1,g2⟩:=Bool.and_eq_true_iff.mp g;obtain⟨d,e1,h2⟩:=Ac h;obtain⟨es,e2,rfl⟩:=qj h2;obtain⟨y,ys,rfl,r1,r2⟩:=r.cb;exact aF.cons (bc.resB w p hn g1 e1 r1) (aD.resB w p hn g2 e2 r2)
end
mutual
theorem vc:∀v:V3,ei 0 v=true
 | .d _=>by unfold ei;rfl
 | .loc k=>by unfold ei;exact decide_eq_true (Nat.zero_le _)
 | .lst vs=>by unfold ei;exact n6 vs
 | .tup vs=>by unfold ei;exact n6 vs
 | .fn _=>by unfold ei;rfl
theorem n6:∀vs:List V3,pJ 0 vs=true
 | []=>by unfold pJ;rfl
 | v ::vs=>by unfold pJ;rw [vc v,n6 vs];rfl
end
theorem bc.res{K:W.Frag}{cl:Aag}{S:aI}(w:SW K cl ρ H S){v:V3}{d:D}{x:V}(h:res S v=some d)(r:bc K ρ H v x):Rep K [] H d x:=
 r.resB w (fun b o e _=>⟨e,by simp⟩) (n:=0) (fun _ _ _ _=>by simp) (vc v) h
theorem qo{S:aI}{δ:DE}{i:Nat}{y:Sl}(e:(bK S δ)[i]? =some y):(∃v d,δ[i]? =some (some v)/\res S v=some d/\y= .val d)\/y= .un:=by
 unfold bK at e;rw[List.getElem?_map] at e;cases q:δ[i]? with
 | none=>rw [q] at e;cases e
 | some x=>
   rw[q] at e;cases x with
   | none=>cases e;exact .inr rfl
   | some v=>
     cases z:res S v with
     | none=>
       have e:some (match res S v with | some d=>Sl.val d | none=> .un)=some y:=e
       rw[z] at e;cases e;exact .inr rfl
     | some d=>
       have e:some (match res S v with | some d=>Sl.val d | none=> .un)=some y:=e
       rw[z] at e;cases e;exact .inl ⟨v,d,rfl,z,rfl⟩
theorem er.bK{K:W.Frag}{cl:Aag}{S:aI}{σ:L2.St}{δ:DE}(E:er K cl ρ H S σ δ):dR K [] [] H σ (bK S δ) where
 len:=by unfold L3.bK;rw [List.length_map];exact E.len
 bs:=fun a ha=>by cases ha
 zb:=fun a ha=>by cases ha
 val:=fun i d e=>by
  rcases qo e with⟨v,d',h1,h2,h3⟩ | h
  .cases h3;obtain⟨x,q1,q2⟩:=E.val i v h1;exact⟨x,q1,q2.res E.sw h2⟩
  .cases h
 bld:=fun i ds e=>by
  rcases qo e with⟨v,d',h1,h2,h3⟩ | h
  .cases h3
  .cases h
 dis:=fun i j a ds es e=>by
  rcases qo e with⟨v,d',h1,h2,h3⟩ | h
  .cases h3
  .cases h
abbrev FX:=DE->aI->R3 V3
abbrev FB:=DE->aI->R3 Bool
abbrev FA:=DE->aI->R3 (List V3)
def tX(K:W.Frag)(cl:Aag)(f:FX):TE:=fun σ H Q=>∃ρ S δ v S',er K cl ρ H S σ δ/\f δ S= .ok v S'/\∀u cn H',Pre ρ H cn H'->SW K cl cn H' S'->bc K cn H' v u->Q u H'
def Mb(K:W.Frag)(cl:Aag)(f:FB):TT:=fun σ H Q=>∃ρ S δ b S',er K cl ρ H S σ δ/\f δ S= .ok b S'/\∀cn H',Pre ρ H cn H'->SW K cl cn H' S'->Q b H'
def Wo(K:W.Frag)(cl:Aag)(f:FA):TA:=fun σ H Q=>∃ρ S δ vs S',er K cl ρ H S σ δ/\f δ S= .ok vs S'/\∀us cn H',Pre ρ H cn H'->SW K cl cn H' S'->aD K cn H' vs us->Q us H'
structure PX (X:Cx) (cl:Aag) (e:Expr) (f:FX):Prop where
 go:PE X e (tX X.K cl f)
structure Af (X:Cx) (cl:Aag) (e:Expr) (f:FB):Prop where
 go:PT X e (Mb X.K cl f)
structure HU (X:Cx) (cl:Aag) (es:List Expr) (f:FA):Prop where
 go:PA X es (Wo X.K cl f)
section
variable {X:Cx} {cl:Aag}
def xP(f:FD):FX:=fun δ S=>(R3.of (f (down δ)) S).bind fun d S=> .ok (.d d) S
theorem ah(h:QD X e f):PX X cl e (xP f):=⟨h.1.imp fun σ H Q ⟨ρ,S,δ,v,S',E,hf,q⟩=>by
 obtain⟨d,S1,h1,h2⟩:=R3.ai hf;obtain⟨h3,e3⟩:=R3.of_ok h1;cases h2;subst e3;exact⟨[],ρ.b,down δ,d,E.down,h3,fun v H' s r=>q v ρ H' (Pre.same s) (E.sw.same s) (by unfold bc;exact r)⟩⟩
def xT(f:FD):FX:=fun δ S=>(R3.of (f (bK S δ)) S).bind fun d S=>R3.bh (lq d) (.ok (.d d) S)
theorem ck(h:QD X e f):PX X cl e (xT f):=⟨h.1.imp fun σ H Q ⟨ρ,S,δ,v,S',E,hf,q⟩=>by
 obtain⟨d,S1,h1,h2⟩:=R3.ai hf;obtain⟨h4,e3⟩:=R3.of_ok h1;obtain⟨ha,h3⟩:=R3.bf h2;cases h3;subst e3;exact⟨[],[],bK _ δ,d,E.bK,h4,fun v H' s r=>q v ρ H' (Pre.same s) (E.sw.same s) (by unfold bc;exact Rep.yk (E.sw.same s).nt ha r)⟩⟩
def bP(f:au->R Bool):FB:=fun δ S=>R3.of (f (down δ)) S
theorem dP{f:au->R Bool}(h:QB X e f):Af X cl e (bP f):=⟨h.1.imp fun σ H Q ⟨ρ,S,δ,v,S',E,hf,q⟩=>by
 obtain⟨h1,e3⟩:=R3.of_ok hf;subst e3;exact⟨[],ρ.b,down δ,v,E.down,h1,fun H' s=>q ρ H' (Pre.same s) (E.sw.same s)⟩⟩
def bT(f:au->R Bool):FB:=fun δ S=>R3.of (f (bK S δ)) S
theorem mH{f:au->R Bool}(h:QB X e f):Af X cl e (bT f):=⟨h.1.imp fun σ H Q ⟨ρ,S,δ,v,S',E,hf,q⟩=>by
 obtain⟨h1,e3⟩:=R3.of_ok hf;subst e3;exact⟨[],[],bK _ δ,v,E.bK,h1,fun H' s=>q ρ H' (Pre.same s) (E.sw.same s)⟩⟩
def bz(i:Nat):FX:=fun δ S=>match δ[i]? with | some (some v)=> .ok v S | _=> .no
theorem aM(i:Nat){x:Str}{pos:Pos}(hN:X.N[i]? =some x:=by rfl)(hv:Ka X.env.scope x:=by first | exact Or.inl rfl | exact Or.inr (Or.inl rfl) | exact Or.inr (Or.inr rfl))(hd:(x==("__debug__":Str))=false:=by decide)
 (uH:(x==("__classdict__":Str))=false:=by decide):PX X cl (.Name x pos) (bz i):=⟨(wF hN hv hd uH).imp fun σ H Q ⟨ρ,S,δ,v,S',E,hf,q⟩=>by
 unfold bz at hf;split at hf
 .rename_i d' e;cases hf;obtain⟨u,h1,h2⟩:=E.val i _ e;exact⟨u,h1,q u ρ H (Pre.refl ρ H) E.sw h2⟩
 .cases hf⟩
def pS(f:au->R (List D)):FX:=fun δ S=>(R3.of (f (down δ)) S).bind fun ds S=> .ok (.loc S.length) (S++[.lst ds])
theorem ix{f:au->R (List D)}(h:QN X e f):PX X cl e (pS f):=⟨h.1.imp fun σ H Q ⟨ρ,S,δ,v,S',E,hf,q⟩=>by
 obtain⟨ds,S1,h1,h2⟩:=R3.ai hf;obtain⟨h3,e3⟩:=R3.of_ok h1;cases h2;subst e3;refine⟨[],ρ.b,down δ,ds,E.down,h3,fun a xs H' s n e r=>?_⟩
 have r':aF X.K (ρ.push a).b H' ds xs:=r.bj fun b o e nb=>⟨e,fun hb=>nb (by
  rcases P3.mem_push hb with z | z
  .exact List.mem_cons_of_mem _ z
  .subst z;exact List.mem_cons_self)⟩
 obtain⟨w,p⟩:=E.sw.new (o:= .lst ds) s n ⟨xs,e,r'⟩;exact q _ _ H' p w (by unfold bc;exact⟨a,by show(ρ.r++[a])[_]? =_;rw [<-E.sw.len,List.getElem?_append_right (by omega),Nat.sub_self];rfl,rfl⟩)⟩
end
end L3
end
section
namespace L3
open PySem PySem.Spec PyProof.Rows L2
section
variable {X:Cx} {cl:Aag}
def bC:FA:=fun _ S=> .ok [] S
def aq(f:FX)(g:FA):FA:=fun δ S=>(f δ S).bind fun v S1=>(g δ S1).bind fun vs S2=> .ok (v ::vs) S2
theorem aA:HU X cl [] bC:=⟨ja.imp fun σ H Q ⟨ρ,S,δ,v,S',E,hf,q⟩=>by
 cases hf;exact q [] ρ H (Pre.refl ρ H) E.sw aD.nil⟩
theorem ae(h:PX X cl e f)(t:HU X cl es g)(hs:starEach (e ::es) X.env=(false,eval e X.env) ::starEach es X.env:=by rfl):HU X cl (e ::es) (aq f g):=
 ⟨(fj h.1 t.1 hs).imp fun σ H Q ⟨ρ,S,δ,v,S',E,hf,q⟩=>by
   obtain⟨v1,S1,h1,h2⟩:=R3.ai hf;obtain⟨vs,S2,h3,h4⟩:=R3.ai h2;cases h4;exact⟨ρ,S,δ,v1,S1,E,h1,fun u bU H1 p1 w1 r1=>⟨bU,S1,δ,vs,_,E.to p1 w1,h3,fun us oT H2 p2 w2 r2=>q _ oT H2 (p1.trans p2) w2 (aD.cons (r1.pre p2) r2)⟩⟩⟩
def pY:List V3->Option (List D)
 | []=>some []
 | .d x ::r=>(pY r).map (x ::·)
 | _ ::_=>none
theorem lg:∀{vs:List V3} {ds:List D},pY vs=some ds->vs=ds.map .d
 | [],ds,h=>by cases h;rfl
 | .d x ::r,ds,h=>by
   cases e:pY r with
   | none=>have h:(pY r).map (x ::·)=some ds:=h;rw [e] at h;cases h
   | some es=>
     have h:(pY r).map (x ::·)=some ds:=h
     rw[e] at h;cases h;rw[lg e];rfl
 | .loc _ ::_,_,h=>by cases h
 | .lst _ ::_,_,h=>by cases h
 | .tup _ ::_,_,h=>by cases h
 | .fn _ ::_,_,h=>by cases h
theorem su:∀ds:List D,pY (ds.map .d)=some ds
 | []=>rfl
 | d ::ds=>by show(pY (ds.map .d)).map (d ::·)=_;rw [su ds];rfl
def AD(vs:List V3):V3:=match pY vs with | some ds=> .d (.tup ds) | none=> .tup vs
def tq(vs:List V3):V3:=match pY vs with | some ds=> .d (.lst ds) | none=> .lst vs
def Dh(g:FA):FX:=fun δ S=>(g δ S).bind fun vs S=>R3.bh (decide (vs.length<=sizeLine)) (.ok (AD vs) S)
theorem rV{H:Hp}{p:Addr}{o:HO}(hp:H p=none):Pre ρ H ρ (upd H p o):=Pre.same (aN hp)
theorem Cc{K:W.Frag}{ρ:P3}{vs:List V3}{xs:List V}{a:Addr}(l:uZ K ρ.b H a xs)(r:aD K ρ H vs xs):bc K ρ H (AD vs) (.ref a):=by
 unfold AD;split
 .rename_i ds e;rw[lg e] at r;unfold bc Rep;exact⟨a,xs,rfl,l,r.to⟩
 .unfold bc;exact⟨a,xs,rfl,l,r⟩
theorem uN{K:W.Frag}{ρ:P3}{vs:List V3}{xs:List V}{a:Addr}(l:uh K ρ.b H a xs)(r:aD K ρ H vs xs):bc K ρ H (tq vs) (.ref a):=by
 unfold tq;split
 .rename_i ds e;rw[lg e] at r;unfold bc Rep;exact⟨a,xs,rfl,l,r.to⟩
 .unfold bc;exact⟨a,xs,rfl,l,r⟩
theorem vX{x1 pos}(h:HU X cl es g):PX X cl (.Tuple es x1 pos) (Dh g):=⟨(EN h.1).imp fun σ H Q ⟨ρ,S,δ,v,S',E,hf,q⟩=>by
 obtain⟨vs,S1,h1,h2⟩:=R3.ai hf;obtain⟨hl,h3⟩:=R3.bf h2;cases h3;refine⟨ρ,S,δ,vs,_,E,h1,fun us bU H1 p1 w1 r1=>⟨by rw[<-r1.length];exact of_decide_eq_true hl,fun p hp=>q _ bU _ (p1.trans (rV hp)) (w1.same (aN hp)) ?_⟩⟩
 refine Cc (.inl ⟨fun ha=>?_, .inl aT⟩) (r1.pre (rV hp))
 obtain⟨o,ho⟩:=w1.bs p ha;rw[hp] at ho;cases ho⟩
def ME(g:FA):FX:=fun δ S=>(g δ S).bind fun vs S=>R3.bh (decide (vs.length<=sizeLine)) (.ok (tq vs) S)
theorem KS{pos}(h:HU X cl es g):PX X cl (.List es pos) (ME g):=⟨(DL h.1).imp fun σ H Q ⟨ρ,S,δ,v,S',E,hf,q⟩=>by
 obtain⟨vs,S1,h1,h2⟩:=R3.ai hf;obtain⟨hl,h3⟩:=R3.bf h2;cases h3;refine⟨ρ,S,δ,vs,_,E,h1,fun us bU H1 p1 w1 r1=>⟨by rw[<-r1.length];exact of_decide_eq_true hl,fun p hp=>q _ bU _ (p1.trans (rV hp)) (w1.same (aN hp)) ?_⟩⟩
 refine uN (.inl ⟨fun ha=>?_, .inl aT⟩) (r1.pre (rV hp))
 obtain⟨o,ho⟩:=w1.bs p ha;rw[hp] at ho;cases ho⟩
def x2(g:D->D->R D)(fa fb:FX):FX:=fun δ S=>(fa δ S).bind fun a S1=>(fb δ S1).bind fun b S2=>match a,b with
 | .d x, .d y=>(R3.of (g x y) S2).bind fun d S=> .ok (.d d) S
 | _,_=> .no
theorem Mx{K:W.Frag}{g:D->D->R D}{σ:L2.St}{Q:VK}(h:tX K cl (x2 g fa fb) σ H Q) :
 Nf (fun x y H Q=>∃B da db d,(∀a∈B,∃o,H a=some o)/\Rep K B H da x/\Rep K B H db y/\g da db= .ok d/\∀z H',aR H H'->Rep K B H' d z->Q z H') (tX K cl fa) (tX K cl fb) σ H Q:=by
 obtain⟨ρ,S,δ,v,S',E,hf,q⟩:=h;obtain⟨a,S1,h1,h2⟩:=R3.ai hf;obtain⟨b,S2,h3,h4⟩:=R3.ai h2
 match a,b,h1,h3,h4 with
 | .d x, .d y,h1,h3,h4=>
   obtain⟨d,S3,h5,h6⟩:=R3.ai h4;obtain⟨h7,e⟩:=R3.of_ok h5;cases h6;subst e;refine⟨ρ,S,δ, .d x,S1,E,h1,fun u1 bU H1 p1 w1 r1=>⟨bU,S1,δ, .d y,_,E.to p1 w1,h3,fun u2 oT H2 p2 w2 r2=>?_⟩⟩
   have qX:=r1.pre p2;unfold bc at qX r2;exact⟨oT.b,x,y,d,w2.bs,qX,r2,h7,fun z H' s r=>q z oT H' (p1.trans (p2.trans (Pre.same s))) (w2.same s) (by unfold bc;exact r)⟩
 | .d x, .loc _,_,_,h4=>cases h4
 | .d x, .lst _,_,_,h4=>cases h4
 | .d x, .tup _,_,_,h4=>cases h4
 | .d x, .fn _,_,_,h4=>cases h4
 | .loc _,_,_,_,h4=>cases h4
 | .lst _,_,_,_,h4=>cases h4
 | .tup _,_,_,_,h4=>cases h4
 | .fn _,_,_,_,h4=>cases h4
theorem pF{op:Operator}{g:D->D->R D}(ho:jE X (binaryOp op) g)(ha:PX X cl a fa)(hb:PX X cl b fb):PX X cl (.BinOp a op b pos) (x2 g fa fb):=
 ⟨(Br ho.r ha.1 hb.1).imp fun σ H Q h=>Mx h⟩
theorem vG{op:CmpOp}{g:D->D->R D}(ho:jE X (compareOp op) g)(ha:PX X cl a fa)(hb:PX X cl b fb)(hm:behindInMarks op b=false):PX X cl (.Compare a [op] [b] pos) (x2 g fa fb):=
 ⟨(Bw ho.r ha.1 hb.1 hm).imp fun σ H Q h=>Mx h⟩
def JS(g:D->D->R D)(fa fb:FX):FB:=fun δ S=>(x2 g fa fb δ S).bind fun v S=>match v with | .d (.bl b)=> .ok b S | _=> .no
theorem o5{op:CmpOp}{g:D->D->R D}(ho:jE X (compareOp op) g)(ha:PX X cl a fa)(hb:PX X cl b fb)(hm:behindInMarks op b=false):Af X cl (.Compare a [op] [b] pos) (JS g fa fb):=
 ⟨(AO ho.r ha.1 hb.1 hm).imp fun σ H Q ⟨ρ,S,δ,b,S',E,hf,q⟩=>by
   obtain⟨v,S1,h1,h2⟩:=R3.ai hf;have hv:v= .d (.bl b)/\S1=S':=by
    match v,h2 with
    | .d (.bl k),h2=>cases h2;exact⟨rfl,rfl⟩
    | .d .cR,h2=>cases h2
    | .d (.int _),h2=>cases h2
    | .d (.str _),h2=>cases h2
    | .d (.lst _),h2=>cases h2
    | .d (.tup _),h2=>cases h2
    | .d (.dct _ _),h2=>cases h2
    | .loc _,h2=>cases h2
    | .lst _,h2=>cases h2
    | .tup _,h2=>cases h2
    | .fn _,h2=>cases h2
   obtain⟨rfl,rfl⟩:=hv;exact Mx (g:=g) (Q:=fun x H'=>∃k,x= .bl k/\Q k H') ⟨ρ,S,δ,_,_,E,h1,fun u cn H' p w r=>⟨b,by unfold bc Rep at r;exact r,q cn H' p w⟩⟩⟩
inductive Ou where
 | nx (δ:DE) | rt (v:V3)
abbrev FZ:=DE->aI->R3 Ou
def CW(K:W.Frag)(cl:Aag)(ρ:P3)(H:Hp)(D:Ends)(S':aI):Ou->Prop
 | .nx dN=>∀cN cn H',Pre ρ H cn H'->er K cl cn H' S' cN dN->D.nx cN H'
 | .rt v=>∀u cn H',Pre ρ H cn H'->SW K cl cn H' S'->bc K cn H' v u->D.rt u H'
theorem CW.pre{K:W.Frag}{D:Ends}{S':aI}{o:Ou}(q:CW K cl ρ H D S' o)(p:Pre ρ H bU H1):CW K cl bU H1 D S' o:=by
 cases o with
 | nx dN=>exact fun cN cn H' p' E'=>q cN cn H' (p.trans p') E'
 | rt d=>exact fun v cn H' p' w r=>q v cn H' (p.trans p') w r
def sX(K:W.Frag)(cl:Aag)(F:FZ):TS:=fun D σ H=>∃ρ S δ o S',er K cl ρ H S σ δ/\F δ S= .ok o S'/\CW K cl ρ H D S' o
structure PZ (X:Cx) (cl:Aag) (st:Stmt) (F:FZ):Prop where
 go:PS X st (sX X.K cl F)
structure CV (X:Cx) (cl:Aag) (st:List Stmt) (F:FZ):Prop where
 go:u7 X st (sX X.K cl F)
def l8:FZ:=fun δ S=> .ok (.nx δ) S
def bp(F G:FZ):FZ:=fun δ S=>(F δ S).bind fun o S1=>match o with | .nx dN=>G dN S1 | .rt d=> .ok (.rt d) S1
theorem eM:CV X cl [] l8:=⟨AX.imp fun D σ H ⟨ρ,S,δ,o,S',E,hf,q⟩=>by
 cases hf;exact q σ ρ H (Pre.refl ρ H) E⟩
theorem ak{st:Stmt}{rest:List Stmt}(h1:PZ X cl st F)(h2:CV X cl rest G):CV X cl (st ::rest) (bp F G):=⟨(xI h1.1 h2.1).imp fun D σ H ⟨ρ,S,δ,o,S',E,hf,q⟩=>by
 obtain⟨o1,S1,h1,h2⟩:=R3.ai hf;refine⟨ρ,S,δ,o1,S1,E,h1,?_⟩;cases o1 with
 | nx δ1=>
   intro Hh bU H1 p1 E1;exact⟨bU,S1,δ1,o,S',E1,h2,q.pre p1⟩
 | rt d=>
   cases h2;exact q⟩
theorem aJ{st:Stmt}(h1:PZ X cl st F):CV X cl [st] F:=⟨AI h1.1⟩
def b3(i:Nat)(f:FX):FZ:=fun δ S=>(f δ S).bind fun v S=>R3.bh (decide (i < δ.length)) (.ok (.nx (δ.set i (some v))) S)
theorem aX{i:Nat}{pos pos':Pos}(he:PX X cl e f)(hs:swapsWith e (some (.Name x pos')) pos.line X.env=pure false:=by rfl)(hf:X.fn x=true\/X.env.scope.names.lookup x=some .local:=by first | exact .inl rfl | exact .inr rfl | assumption)(hN:X.N.Nodup:=by first | assumption | exact Lg (by kernel_rfl))(hi:X.N[i]? =some x:=by rfl)(hx:Loc X.env.scope x:=by first | exact Or.inl rfl | exact Or.inr rfl) :
 PZ X cl (.Assign [.Name x pos'] e pos) (b3 i f):=⟨(zN hN hi hx he.1 hs hf).imp fun D σ H ⟨ρ,S,δ,o,S',E,hf,q⟩=>by
 obtain⟨v,S1,h1,h2⟩:=R3.ai hf;obtain⟨hi,h3⟩:=R3.bf h2;cases h3;refine⟨ρ,S,δ,v,_,E,h1,fun u bU H1 p1 w1 r1=>?_⟩
 exact q _ bU H1 p1 ((E.to p1 w1).set (by rw[<-E.len];exact of_decide_eq_true hi) r1)⟩
def fH(f:FX):FZ:=fun δ S=>(f δ S).bind fun v S=> .ok (.rt v) S
theorem cu(he:PX X cl e f):PZ X cl (.Return (some e) pos) (fH f):=⟨(Ga he.1).imp fun D σ H ⟨ρ,S,δ,o,S',E,hf,q⟩=>by
 obtain⟨v,S1,h1,h2⟩:=R3.ai hf;cases h2;exact⟨ρ,S,δ,v,_,E,h1,fun u bU H1 p1 w1 r1=>q u bU H1 p1 w1 r1⟩⟩
def wX(c:FB)(F G:FZ):FZ:=fun δ S=>(c δ S).bind fun b S=>if b then F δ S else G δ S
theorem jb(hc:Af X cl c fc)(ha:CV X cl a F)(hb:CV X cl b G):PZ X cl (.If c a b pos) (wX fc F G):=⟨(JR hc.1 ha.1 hb.1).imp fun D σ H ⟨ρ,S,δ,o,S',E,hf,q⟩=>by
 obtain⟨k,S1,h1,h2⟩:=R3.ai hf;refine⟨ρ,S,δ,k,S1,E,h1,fun bU H1 p1 w1=>?_⟩
 cases k with
 | true=>rw [if_pos rfl] at h2;exact Fv ⟨bU,S1,δ,o,S',E.to p1 w1,h2,q.pre p1⟩
 | false=>rw [if_neg (by decide)] at h2;exact FV ⟨bU,S1,δ,o,S',E.to p1 w1,h2,q.pre p1⟩⟩
def UU(f:FX):FZ:=fun δ S=>(f δ S).bind fun _ S=> .ok (.nx δ) S
def ng(c:FB)(body:FZ):Nat->FZ
 | 0,_,_=> .no
 | n+1,δ,S=>(c δ S).bind fun b S=>if b then(body δ S).bind fun o S=>match o with | .nx dD=>ng c body n dD S | .rt r=> .ok (.rt r) S else .ok (.nx δ) S
def zt(n:Nat)(c:FB)(body:FZ):FZ:=fun δ S=>ng c body n δ S
theorem Ed(n:Nat)(hp:PassesOwn (model X.prog X.w) X.A X.env X.xe)(hc:Af X cl c fc)(hb:CV X cl body F):PZ X cl (.While c body [] pos) (zt n fc F):=
 ⟨(FK hp hc.1 hb.1).imp fun D σ H ⟨ρ,S,δ,o,S',E,hf,q⟩=>by
   refine⟨fun m cN H'=>∃bU S1 δ1,Pre ρ H bU H'/\er X.K cl bU H' S1 cN δ1/\ng fc F m δ1 S1= .ok o S',⟨n,ρ,S,δ,Pre.refl ρ H,E,hf⟩,?_⟩
   rintro m cN H' ⟨bU,S1,δ1,p1,E1,hw⟩;cases m with
   | zero=>cases hw
   | succ m=>
     obtain⟨b,S2,h1,h2⟩:=R3.ai hw;refine⟨bU,S1,δ1,b,S2,E1,h1,fun oT H2 p2 w2=>?_⟩
     cases b with
     | false=>
       rw[if_neg (by decide)] at h2
       cases h2;exact FV (q cN oT H2 (p1.trans p2) (E1.to p2 w2))
     | true=>
       rw[if_pos rfl] at h2;obtain⟨o1,S3,h3,h4⟩:=R3.ai h2;refine Fv ⟨fun Vz H4=>∃GU S4 Dx,Pre ρ H GU H4/\er X.K cl GU H4 S4 Vz Dx/\ng fc F m Dx S4= .ok o S',fun Vz H4 n=>⟨m,Nat.lt_succ_self _,n⟩,oT,S2,δ1,o1,S3,E1.to p2 w2,h3,?_⟩
       cases o1 with
       | nx dD=>exact fun yW Dp H3 p3 E3=>⟨Dp,S3,dD,(p1.trans p2).trans p3,E3,h4⟩
       | rt d=>
         cases h4;exact fun v Dp H3 p3 w r=>q v Dp H3 ((p1.trans p2).trans p3) w r⟩
end
end L3
end
section
namespace L3
open PySem PySem.Spec PyProof.Rows L2
theorem aD.get{K:W.Frag}:∀{ds:List V3} {xs:List V} {i:Nat} {d:V3},aD K ρ H ds xs->ds[i]? =some d->∃x,xs[i]? =some x/\bc K ρ H d x
 | [],_,_,_,_,e=>by simp at e
 | d ::ds,xs,0,d',h,e=>by
   obtain⟨x,r,rfl,h1,h2⟩:=h.cb;simp at e;subst e;exact⟨x,rfl,h1⟩
 | d ::ds,xs,i+1,d',h,e=>by
   obtain⟨x,r,rfl,h1,h2⟩:=h.cb;obtain⟨y,e1,e2⟩:=aD.get (i:=i) h2 (by simpa using e)
   exact⟨y,by simpa using e1,e2⟩
def M5(K:W.Frag)(ρ:P3)(H:Hp)(J:It)(vs:List V3):Prop:=∀cn H',PW ρ H cn H'->(∀a∈cn.b,∃o,H' a=some o)->(∀(i:Nat) (d:V3),vs[i]? =some d->J.go i H'/\∀x nB,J.yld i H' x nB->aR H' nB/\bc K cn nB d x)/\J.stop vs.length H'
theorem M5.of{K:W.Frag}{ρ:P3}{J:It}{ds:List D}(h:FY K ρ.b H J ds):M5 K ρ H J (ds.map .d):=fun cn H' p bs=>by
 obtain⟨h1,h2⟩:=h cn.b H' p.bj;refine⟨fun i v hv=>?_,by rw[List.length_map];exact h2⟩
 rw[List.getElem?_map] at hv;cases e:ds[i]? with
 | none=>rw [e] at hv;cases hv
 | some d=>
   rw[e] at hv;cases hv;obtain⟨g1,g2⟩:=h1 i d e;exact⟨g1,fun x nB y=>let⟨s,r⟩:=g2 x nB y bs;⟨s,by unfold bc;exact r⟩⟩
def U8(K:W.Frag)(cl:Aag)(f:FA):TI:=fun σ H R=>∃ρ S δ vs S',er K cl ρ H S σ δ/\f δ S= .ok vs S'/\∀J bU H1,Pre ρ H bU H1->SW K cl bU H1 S'->M5 K bU H1 J vs->R J H1
structure Mp (X:Cx) (cl:Aag) (tg e:Expr) (f:FA):Prop where
 go:PI X tg e (U8 X.K cl f)
section
variable {X:Cx} {cl:Aag}
def iP(f:au->R (List D)):FA:=fun δ S=>(R3.of (f (down δ)) S).bind fun ds S=> .ok (ds.map .d) S
theorem dS{f:au->R (List D)}(h:BH X tg e f):Mp X cl tg e (iP f):=⟨h.1.imp fun σ H Q ⟨ρ,S,δ,vs,S',E,hf,q⟩=>by
 obtain⟨ds,S1,h1,h2⟩:=R3.ai hf;obtain⟨h3,e3⟩:=R3.of_ok h1;cases h2;subst e3;exact⟨[],ρ.b,down δ,ds,E.down,h3,fun J H1 s r=>q J ρ H1 (Pre.same s) (E.sw.same s) (M5.of r)⟩⟩
def nT(f:FX):FA:=fun δ S=>(f δ S).bind fun v S=>match v with | .d (.int j)=>R3.bh (decide (-(2 ^ 62)<=j/\j < 2 ^ 62)) (.ok ((cC 0 j.toNat).map .d) S) | _=> .no
theorem gr{tg a:Expr}{p pos:Pos}(h:PX X cl a f)(hg:Gl X "range")(hm:X.mg "range"=none)(hs:starEach [a] X.env=[(false,eval a X.env)]:=by rfl):Mp X cl tg (.Call (.Name "range" p) [a] [] pos) (nT f):=
 ⟨(uV hg hm (fj h.1 ja hs) hs).imp fun σ H RR ⟨ρ,S,δ,vs,S',E,hf,q⟩=>by
   obtain⟨v,S1,h1,h2⟩:=R3.ai hf
   match v,h1,h2 with
   | .d (.int j),h1,h2=>
     obtain⟨hb,h3⟩:=R3.bf h2;cases h3;have hb:=of_decide_eq_true hb;refine⟨ρ,S,δ, .d (.int j),_,E,h1,fun u bU H1 p1 w1 r1=>⟨j,?_,hb.1,hb.2,q _ bU H1 p1 w1 (M5.of (El 0 _))⟩⟩
     unfold bc Rep at r1;rw[r1]
   | .d .cR,_,h2=>cases h2
   | .d (.bl _),_,h2=>cases h2
   | .d (.str _),_,h2=>cases h2
   | .d (.lst _),_,h2=>cases h2
   | .d (.tup _),_,h2=>cases h2
   | .d (.dct _ _),_,h2=>cases h2
   | .loc _,_,h2=>cases h2
   | .lst _,_,h2=>cases h2
   | .tup _,_,h2=>cases h2⟩
def Hl(f:FX):FA:=fun δ S=>(f δ S).bind fun v S=>match v with | .d (.lst ds)=> .ok (ds.map .d) S | .lst vs=> .ok vs S | _=> .no
theorem Bm(h:PX X cl e f):Mp X cl tg e (Hl f):=⟨by
 intro pins s σ H RR I ⟨ρ,S,δ,vs,S',E,hf,q⟩;obtain⟨v,S1,h1,h2⟩:=R3.ai hf;refine c6 (h.1 pins s σ H (fun u H1=>∃bU,Pre ρ H bU H1/\SW X.K cl bU H1 S1/\bc X.K bU H1 v u) I ⟨ρ,S,δ,v,S1,E,h1,fun u bU H1 p1 w1 r1=>⟨bU,p1,w1,r1⟩⟩) fun u s1 ⟨x,H1,I1,r1,bU,p1,w1,rr⟩=>?_
 have key:S1=S'/\∃a xs,x= .ref a/\uh X.K bU.b H1 a xs/\aD X.K bU H1 vs xs:=by
  match v,h2,rr with
  | .d (.lst ds),h2,rr=>
    cases h2;unfold bc Rep at rr;obtain⟨a,xs,e,l,r⟩:=rr;exact⟨rfl,a,xs,e,l,aD.of r⟩
  | .lst ws,h2,rr=>
    cases h2;unfold bc at rr;exact⟨rfl,rr⟩
  | .d .cR,h2,_=>cases h2
  | .d (.bl _),h2,_=>cases h2
  | .d (.int _),h2,_=>cases h2
  | .d (.str _),h2,_=>cases h2
  | .d (.tup _),h2,_=>cases h2
  | .d (.dct _ _),h2,_=>cases h2
  | .loc _,h2,_=>cases h2
  | .tup _,h2,_=>cases h2
 obtain⟨rfl,a,xs,rfl,l,rr⟩:=key;cases r1;obtain⟨its,rv,p,hz⟩:=I1.list l.sq;refine wpAny_pyIter_list p.isList ?_;refine⟨s1.heap.objs.size,[s1.heap.objs.size],_,_,H1,rfl,I1.kept (t':=s1.toks) fun b o e=>Heap.get?_push_of_some _ e,vb a _,⟨_,Heap.get?_push_size _ rfl,rfl,rfl⟩,fun b hb=>?_,q _ bU H1 p1 w1 fun cn H' pr bs=>?_⟩
 .have e:b=s1.heap.objs.size:=by simpa using hb
  subst e;exact I1.uD (Nat.le_refl _) (I1.hok.fresh (Nat.le_refl _))
 .have l':uh X.K cn.b H' a xs:=l.bj pr.bj;have rr':=rr.pw pr;refine⟨fun i d hd=>?_,⟨xs,l'.sq,by rw[rr.length];exact Nat.le_refl _⟩⟩
  obtain⟨x,hx,rx⟩:=rr'.get hd;exact⟨⟨xs,x,l'.sq,hx⟩,fun y nB ⟨e1,e2⟩=>by
   subst e1;have:=e2 xs l'.sq;rw[hx] at this;cases this;exact⟨aR.refl _,rx⟩⟩⟩
abbrev FG:=V3->DE->Option DE
abbrev HY:=List V3->DE->Option DE
def gX(K:W.Frag)(cl:Aag)(t:FG):TG:=fun v σ H Q=>∃ρ S δ x dN,er K cl ρ H S σ δ/\bc K ρ H x v/\t x δ=some dN/\∀cN H',aR H H'->er K cl ρ H' S cN dN->Q cN H'
def V5(K:W.Frag)(cl:Aag)(t:HY):Eh:=fun v σ H Q=>∃ρ S δ x dN,er K cl ρ H S σ δ/\aD K ρ H x v/\t x δ=some dN/\∀cN H',aR H H'->er K cl ρ H' S cN dN->Q cN H'
structure MD (X:Cx) (cl:Aag) (tg:Expr) (t:FG):Prop where
 go:PG X tg (gX X.K cl t)
structure Jy (X:Cx) (cl:Aag) (tg:List Expr) (t:HY):Prop where
 go:II X tg (V5 X.K cl t)
theorem er.same{K:W.Frag}{S:aI}{σ:L2.St}{δ:DE}(E:er K cl ρ H S σ δ)(s:aR H H'):er K cl ρ H' S σ δ:=E.to (Pre.same s) (E.sw.same s)
def oS(i:Nat):FG:=fun d δ=>if i < δ.length then some (δ.set i (some d)) else none
theorem bw{i:Nat}{pos:Pos}(hf:X.fn x=true\/X.env.scope.names.lookup x=some .local:=by first | exact .inl rfl | exact .inr rfl | assumption)(hN:X.N.Nodup:=by first | assumption | exact Lg (by kernel_rfl))(hi:X.N[i]? =some x:=by rfl)(hx:Loc X.env.scope x:=by first | exact Or.inl rfl | exact Or.inr rfl):MD X cl (.Name x pos) (oS i):=
 ⟨(Bp hN hi hx hf).imp fun v σ H Q ⟨ρ,S,δ,d,dN,E,r,ht,q⟩=>by
   unfold oS at ht;split at ht
   .rename_i hi;cases ht;exact q _ H (aR.refl H) (E.set (by rw[<-E.len];exact hi) r)
   .cases ht⟩
def Ny:HY:=fun ds δ=>match ds with | []=>some δ | _=>none
def G4(t:FG)(u:HY):HY:=fun ds δ=>match ds with | d ::r=>(t d δ).bind fun dN=>u r dN | []=>none
theorem pd:Jy X cl [] Ny:=⟨A7.imp fun vs σ H Q ⟨ρ,S,δ,ds,dN,E,r,ht,q⟩=>by
 cases ds with
 | nil=>unfold aD at r;cases ht;exact⟨r,q σ H (aR.refl H) E⟩
 | cons=>cases ht⟩
theorem eI{u:HY}(h1:MD X cl e t)(h2:Jy X cl es u)(hs:(assignEach (e ::es) X.env).map (·.2)=assign e X.env ::(assignEach es X.env).map (·.2):=by rfl):Jy X cl (e ::es) (G4 t u):=
 ⟨(yc h1.1 h2.1 hs).imp fun vs σ H Q ⟨ρ,S,δ,ds,dN,E,r,ht,q⟩=>by
   cases ds with
   | nil=>cases ht
   | cons d ds=>
     obtain⟨x,xs,rfl,r1,r2⟩:=r.cb;have ht:(t d δ).bind (fun dN=>u ds dN)=some dN:=ht
     cases e1:t d δ with
     | none=>rw [e1] at ht;cases ht
     | some δ1=>
       rw[e1] at ht;exact⟨x,xs,rfl,ρ,S,δ,d,δ1,E,r1,e1,fun Hh H1 s1 E1=>⟨ρ,S,δ1,ds,dN,E1,r2.pre (Pre.same s1),ht,fun w6 H2 s2 E2=>q w6 H2 (s1.trans s2) E2⟩⟩⟩
def M_(n:Nat)(t:HY):FG:=fun d δ=>match d with
 | .d (.tup ds)=>if ds.length=n then t (ds.map .d) δ else none
 | .tup vs=>if vs.length=n then t vs δ else none
 | _=>none
theorem rM{k:Nat}{t:HY}{n:Nat}{pos:Pos}(h:Jy X cl es t)(hn:(assignEach es X.env).length=n:=by rfl)(Ap:(assignEach es X.env).findIdx? (·.1)=none:=by rfl)(hc:X.calm=true:=by rfl):MD X cl (.Tuple es k pos) (M_ n t):=
 ⟨(Fy hc h.1 hn Ap).imp fun v σ H Q ⟨ρ,S,δ,d,dN,E,r,ht,q⟩=>by
   have key:∃vs a xs,v= .ref a/\uZ X.K ρ.b H a xs/\aD X.K ρ H vs xs/\vs.length=n/\t vs δ=some dN:=by
    unfold M_ at ht;split at ht
    .rename_i ds;split at ht
     .rename_i hl;unfold bc Rep at r;obtain⟨a,xs,e,l,r⟩:=r;exact⟨ds.map .d,a,xs,e,l,aD.of r,by rw[List.length_map];exact hl,ht⟩
     .cases ht
    .rename_i vs;split at ht
     .rename_i hl;unfold bc at r;obtain⟨a,xs,e,l,r⟩:=r;exact⟨vs,a,xs,e,l,r,hl,ht⟩
     .cases ht
    .cases ht
   obtain⟨vs,a,xs,rfl,l,r,hl,ht⟩:=key;exact⟨a,xs,rfl,l.sq,by rw[<-r.length];exact hl,ρ,S,δ,vs,dN,E,r,ht,q⟩⟩
def Lx(f:FX)(t:FG):FZ:=fun δ S=>(f δ S).bind fun d S=>match t d δ with | some dN=> .ok (.nx dN) S | none=> .no
theorem L4{tg e:Expr}{f:FX}{t:FG}{pos:Pos}(he:PX X cl e f)(hg:MD X cl tg t)(hs:swapsWithSole [tg] e pos.line X.env=pure false:=by rfl)(hw:swappedStores [tg] e X.env=pure none:=by rfl)
 (h1:(assignEach [tg] X.env).map (·.2)=[assign tg X.env]:=by rfl):PZ X cl (.Assign [tg] e pos) (Lx f t):=⟨(zo he.1 hg.1 hs hw h1).imp fun D σ H ⟨ρ,S,δ,o,S',E,hf,q⟩=>by
 obtain⟨d,S1,h1,h2⟩:=R3.ai hf;split at h2
 .rename_i δ1 e1;cases h2;exact⟨ρ,S,δ,d,_,E,h1,fun v bU H1 p1 w1 r1=>⟨bU,_,δ,d,δ1,E.to p1 w1,r1,e1,fun cN H2 s2 E2=>q cN bU H2 (p1.trans (Pre.same s2)) E2⟩⟩
 .cases h2⟩
def mN(t:FG)(body:FZ):List V3->FZ
 | [],δ,S=> .ok (.nx δ) S
 | d ::ds,δ,S=>match t d δ with
   | none=> .no
   | some δ1=>(body δ1 S).bind fun o S=>match o with | .nx dD=>mN t body ds dD S | .rt r=> .ok (.rt r) S
def l6(it:FA)(t:FG)(body:FZ):FZ:=fun δ S=>(it δ S).bind fun vs S=>mN t body vs δ S
theorem eR{pos:Pos}(hi:Mp X cl tg iter it)(hg:MD X cl tg t)(hb:CV X cl body F)(hs:∀x,foldedSetIterable iter X.env x=pure x:=by intro _;rfl)(hp:PassesOwn (model X.prog X.w) X.A X.env X.xe:=by exact PassesOwn.never)(hc:X.calm=true:=by rfl):PZ X cl (.For tg iter body [] pos) (l6 it t F):=⟨(EG hp hc hi.1 hg.1 hb.1 hs).imp fun D σ H ⟨ρ,S,δ,o,S',E,hf,q⟩=>by
 obtain⟨ds,S0,h1,h2⟩:=R3.ai hf;refine⟨ρ,S,δ,ds,S0,E,h1,fun J bU H1 p1 w1 ir=>?_⟩
 refine⟨fun i m cN H'=>m=ds.length - i/\i<=ds.length/\∃cn S1 dN,Pre bU H1 cn H'/\er X.K cl cn H' S1 cN dN/\mN t F (ds.drop i) dN S1= .ok o S',⟨ds.length,rfl,Nat.zero_le _,bU,S0,δ,Pre.refl bU H1,E.to p1 w1,by simpa using h2⟩,?_⟩
 rintro i m cN H' ⟨rfl,hi,cn,S1,dN,pv,E',hl⟩;obtain⟨go,stop⟩:=ir cn H' pv.pw E'.sw.bs;by_cases hlt:i < ds.length
 .have hd:ds[i]? =some ds[i]:=List.getElem?_eq_getElem hlt;have hdrop:ds.drop i=ds[i] ::ds.drop (i+1):=List.drop_eq_getElem_cons hlt;rw[hdrop] at hl;unfold mN at hl;split at hl
  .cases hl
  .rename_i δ1 h3;obtain⟨o1,S2,h5,h6⟩:=R3.ai hl;obtain⟨g1,g2⟩:=go i _ hd;refine .inr ⟨g1,fun w6 H2=>∃oT S2 dD,Pre bU H1 oT H2/\er X.K cl oT H2 S2 w6 dD/\mN t F (ds.drop (i+1)) dD S2= .ok o S',fun w6 H2 n=>⟨ds.length - (i+1),by omega,rfl,hlt,n⟩,fun x nB y=>?_⟩
   obtain⟨ss,rr⟩:=g2 x nB y;refine⟨cn,S1,dN,ds[i],δ1,E'.same ss,rr,h3,fun w6 H2 s2 E2=>⟨cn,S1,δ1,o1,S2,E2,h5,?_⟩⟩
   have pv2:Pre bU H1 cn H2:=pv.trans (Pre.same (ss.trans s2));cases o1 with
   | nx dD=>exact fun yW Dp H3 p3 E3=>⟨Dp,S2,dD,pv2.trans p3,E3,h6⟩
   | rt d=>
     cases h6;exact fun v Dp H3 p3 w r=>q v Dp H3 (p1.trans (pv2.trans p3)) w r
 .have e:i=ds.length:=by omega
  subst e;rw[List.drop_length] at hl;cases hl;exact .inl ⟨stop,q cN cn H' (p1.trans pv) E'⟩⟩
end
end L3
end
section
namespace L3
open PySem PySem.Spec PyProof.Rows L2
mutual
def yK(n:Nat):V3->Bool
 | .d _=>true
 | .loc k=>decide (k < n)
 | .lst vs=>oz n vs
 | .tup vs=>oz n vs
 | .fn _=>true
def oz(n:Nat):List V3->Bool
 | []=>true
 | v ::vs=>yK n v && oz n vs
end
def pI(n:Nat):SO->Bool
 | .ins _ fs=>oz n (fs.map (·.2))
 | _=>true
theorem Ic{ρ:P3}{n:Nat}{b:Addr}(h:b∈(ρ.cut n).b):b∈ρ.b:=by
 rcases P3.dF.mp h with z | z
 .exact P3.dF.mpr (.inl ⟨List.mem_of_mem_take z.1,z.2⟩)
 .exact P3.dF.mpr (.inr z)
theorem je{ρ:P3}(n:Nat):dn ρ.b H (ρ.cut n).b H:=fun b o e nb=>⟨e,fun hb=>nb (Ic hb)⟩
mutual
theorem bc.cut{K:W.Frag}{ρ:P3}{n:Nat}:∀{v:V3} {x:V},yK n v=true->bc K ρ H v x->bc K (ρ.cut n) H v x
 | .fn y,x,_,h=>by unfold bc at h ⊢;exact h
 | .d y,x,_,h=>by unfold bc at h ⊢;exact h.bj (je n)
 | .loc k,x,o,h=>by
   unfold bc at h ⊢;unfold yK at o;obtain⟨a,h1,h2⟩:=h;exact⟨a,by show(ρ.r.take n)[k]? =_;rw [List.getElem?_take_of_lt (of_decide_eq_true o)];exact h1,h2⟩
 | .lst vs,x,o,h=>by
   unfold bc at h ⊢;unfold yK at o;obtain⟨a,xs,e,l,r⟩:=h;exact⟨a,xs,e,l.bj (je n),aD.cut o r⟩
 | .tup vs,x,o,h=>by
   unfold bc at h ⊢;unfold yK at o;obtain⟨a,xs,e,l,r⟩:=h;exact⟨a,xs,e,uZ.bj (je n) l,aD.cut o r⟩
theorem aD.cut{K:W.Frag}{ρ:P3}{n:Nat}:∀{vs:List V3} {xs:List V},oz n vs=true->aD K ρ H vs xs->aD K (ρ.cut n) H vs xs
 | [],_,_,h=>by unfold aD at h ⊢;exact h
 | v ::vs,xs,o,h=>by
   unfold oz at o;obtain⟨o1,o2⟩:=Bool.and_eq_true_iff.mp o;obtain⟨x,r,rfl,h1,h2⟩:=h.cb;exact aD.cons (bc.cut o1 h1) (aD.cut o2 h2)
end
theorem SW.cut{K:W.Frag}{cl:Aag}{ρ:P3}{S:aI}(w:SW K cl ρ H S){n:Nat}(ok:(S.take n).all (pI n)=true):SW K cl (ρ.cut n) H (S.take n):=
 ⟨by show(ρ.r.take n).length=_;rw [List.length_take,List.length_take,w.len],fun i j a hi hj=>by
   have hi:(ρ.r.take n)[i]? =some a:=hi;have hj:(ρ.r.take n)[j]? =some a:=hj;have gi:ρ.r[i]? =some a:=by
    rw[List.getElem?_take] at hi;split at hi
    .exact hi
    .cases hi
   have gj:ρ.r[j]? =some a:=by
    rw[List.getElem?_take] at hj;split at hj
    .exact hj
    .cases hj
   exact w.nd i j a gi gj,fun k a o hk ho=>by
   have hk:(ρ.r.take n)[k]? =some a:=hk;have gk:ρ.r[k]? =some a:=by
    rw[List.getElem?_take] at hk;split at hk
    .exact hk
    .cases hk
   have go:S[k]? =some o:=by
    rw[List.getElem?_take] at ho;split at ho
    .exact ho
    .cases ho
   have r:=w.ob k a o gk go;have oo:pI n o=true:=List.all_eq_true.mp ok o (List.mem_of_getElem? ho);cases o with
   | lst ds=>obtain⟨xs,e,q⟩:=r;exact⟨xs,e,q.bj (je n)⟩
   | dct aV=>obtain⟨ys,e,e2,q⟩:=r;exact⟨ys,e,e2,q.bj (je n)⟩
   | ins c fs=>obtain⟨dx,ys,e,e2,q⟩:=r;exact⟨dx,ys,e,e2,q.cut oo⟩
   | exc c=>exact r
   | j4=>exact r,fun b hb=>let⟨h1,h2⟩:=w.zb b hb;⟨h1,fun h=>h2 (List.mem_of_mem_take h)⟩,(fun k a hk ho=>by
   have hk:(ρ.r.take n)[k]? =some a:=hk;rw[List.getElem?_take] at hk;split at hk
   .rename_i hlt;rw[List.getElem?_take_of_lt hlt] at ho;exact w.fz k a hk ho
   .cases hk),w.ff,(fun k a hk ho=>by
   have hk:(ρ.r.take n)[k]? =some a:=hk;rw[List.getElem?_take] at hk;split at hk
   .rename_i hlt;rw[List.getElem?_take_of_lt hlt] at ho;exact w.fi k a hk ho
   .cases hk)⟩
theorem SW.LQ{K:W.Frag}{cl:Aag}{ρ cn:P3}{n:Nat}(hn:ρ.r.length<=n)(p:Pre ρ H cn H'):Pre ρ H (cn.cut n) H':=
 ⟨p.bj.trans (je n),p.zz,p.zs,fun k a h=>by show(cn.r.take n)[k]? =_;rw [List.getElem?_take_of_lt (Nat.lt_of_lt_of_le (List.getElem?_eq_some_iff.mp h).1 hn)];exact p.ext k a h⟩
section
variable {X:Cx} {cl:Aag}
def cU(S:aI)(k:Nat):Option (List D):=match S[k]? with | some (.lst ds)=>some ds | _=>none
theorem fu{S:aI}{k:Nat}{ds:List D}(h:cU S k=some ds):S[k]? =some (.lst ds):=by
 unfold cU at h;split at h
 .rename_i e;cases h;exact e
 .cases h
def jh(δ:DE)(i:Nat):Option Nat:=match δ[i]? with | some (some (.loc k))=>some k | _=>none
theorem nX{δ:DE}{i k:Nat}(h:jh δ i=some k):δ[i]? =some (some (.loc k)):=by
 unfold jh at h;split at h
 .rename_i e;cases h;exact e
 .cases h
def kq(i:Nat)(f:FX):FZ:=fun δ S=>match jh δ i with
 | none=> .no
 | some k=>match cU S k with
   | none=> .no
   | some _=>(f δ S).bind fun v S1=>match v with
     | .d d=>(match cU S1 k with | some ds=>R3.bh (decide (ds.length < sizeLine)) (.ok (.nx δ) (S1.set k (.lst (ds++[d])))) | none=> .no)
     | _=> .no
theorem gu{i:Nat}{x:Str}{e:Expr}{f:FX}{mT apos cx pos:Pos}(he:PX X cl e f)(hd:(x==("__debug__":Str))=false:=by decide)(uH:(x==("__classdict__":Str))=false:=by decide)(hs:starEach [e] X.env=(false,eval e X.env) ::starEach [] X.env:=by rfl)(mY:(apos.endLine==cx.line)=true:=by rfl)(uf:((backTo cx (starEach [e] X.env)).all (fun x=>!x.1) && (backToKw cx (keywordEach [] X.env)).all (fun x=>x.1.isSome)
 && decide (([e]:List Expr).length+([]:List Keyword).length+(if([]:List Keyword).isEmpty then 0 else 1) < 30))=true:=by rfl) (JK:swapsWith (.Call (.Attribute (.Name x mT) "append" apos) [e] [] cx) none pos.line X.env=pure false:=by rfl) (mW:attributeBase (.Name x mT) "append" X.env (eval (.Name x mT) X.env)=eval (.Name x mT) X.env:=by rfl) (hN:X.N[i]? =some x:=by rfl) (hv:Ka X.env.scope x:=by first | exact Or.inl rfl | exact Or.inr (Or.inl rfl) | exact Or.inr (Or.inr rfl)) :
 PZ X cl (.Expr (.Call (.Attribute (.Name x mT) "append" apos) [e] [] cx) pos) (kq i f):=by
 refine⟨(AF (DN (X:=X) PySem.F.plainAttrs_list PySem.F.slot_list_append PySem.F.type_list_append qr (wF hN hv hd uH) (fj he.1 ja hs) mW uf mY hs) JK).imp fun D σ H ⟨ρ,S,δ,o,S',E,hf,q⟩=>?_⟩
 unfold kq at hf;split at hf
 .cases hf
 .rename_i k hk;split at hf
  .cases hf
  .rename_i ds0 h0;obtain⟨v,S1,h1,h2⟩:=R3.ai hf;split at h2
   .rename_i d;split at h2
    .rename_i ds h3;obtain⟨hl,h4⟩:=R3.bf h2;cases h4;obtain⟨u,u1,u2⟩:=E.val i _ (nX hk);unfold bc at u2;obtain⟨a,a1,rfl⟩:=u2;obtain⟨YR,x0,_⟩:=E.sw.ob k a _ a1 (fu h0);refine⟨.ref a,u1, .inl ⟨rfl,YR,oR.of x0⟩,⟨ρ,S,δ, .d d,S1,E,h1,fun y bU H1 p1 w1 r1=>?_⟩⟩
     have b1:=p1.ext k a a1;obtain⟨xs,x1,x2⟩:=w1.ob k a _ b1 (fu h3);refine⟨a,xs,y,rfl,rfl,x1,by rw[<-x2.length];exact of_decide_eq_true hl,?_⟩
     unfold bc at r1;obtain⟨w2,p2⟩:=w1.put (o:= .lst (ds++[d])) (u:= .lst (xs++[y])) b1 (w1.fz k a b1 (by rw[fu h3];intro h;cases h)) ⟨xs++[y],rfl,x2.append (aF.cons r1 aF.nil)⟩
     exact q σ bU _ (p1.trans p2) (E.to (p1.trans p2) w2)
    .cases h2
   .cases h2
def zJ(fo fi fe:FX):FZ:=fun δ S=>(fe δ S).bind fun v S1=>(fo δ S1).bind fun o S2=>(fi δ S2).bind fun j S3=>match v,o,j with
 | .d d, .loc k, .d (.int n)=>(match cU S3 k with
   | some ds=>(match yT ds.length n with | some m=> .ok (.nx δ) (S3.set k (.lst (ds.set m d))) | none=> .no)
   | none=> .no)
 | _,_,_=> .no
def Ei(K:W.Frag)(cl:Aag)(n:Nat)(g:List V3->aI->R3 V3):Sp:=fun vs H Q _=>vs.length=n/\∃ρ S xs v S',SW K cl ρ H S/\aD K ρ H xs vs/\g xs S= .ok v S'/\∀u cn H',Pre ρ H cn H'->SW K cl cn H' S'->bc K cn H' v u->Q u H'
def bt(g:List V3->aI->R3 V3)(fs:FA):FX:=fun δ S=>(fs δ S).bind g
def bu(P:Program)(w:World)(K:W.Frag)(mg:Aaf)(base:Heap)(cl:Aag)(k:Nat)(x:Str)(n:Nat)(g:List V3->aI->R3 V3):Prop:=
 ∃(f:Addr) (fd:FuncData) (ps:List Str),ie P w K mg base sx k f fd ps (Ei K cl n g)/\mg x=some (.ref f)/\PySem.W.keepIn K (.ref f)=true/\Binds K fd ps []
theorem aP{g:List V3->aI->R3 V3}{k j n:Nat}{p pos:Pos}(C:bu X.prog X.w X.K X.mg X.base cl k x n g)(ha:HU X cl (e ::es) fs)(qw:(x==("__debug__":Str))=false:=by decide)(he:starEach (e ::es) X.env=(false,eval e X.env) ::starEach es X.env:=by rfl)(lM:(backTo pos (starEach es X.env)).any (·.1)=false:=by rfl)(hr:dW j X.A:=by assumption)(hkj:k<=j:=by decide)(hg:Gl X x:=by rfl)(hn:∀δ S ds S',fs δ S= .ok ds S'->ds.length=n:=by(repeat apply cG);exact eY) :
 PX X cl (.Call (.Name x p) (e ::es) [] pos) (bt g fs):=by
 obtain⟨f,fd,ps,F,hm,hk,hb⟩:=C;refine⟨(v7 F (hr.mono hkj) hg hm hk hb .nil xQ ha.1 qw he lM).imp fun σ H Q ⟨ρ,S,δ,v,S',E,hf,q⟩=>?_⟩
 obtain⟨vs,S1,h1,h2⟩:=R3.ai hf;refine⟨ρ,S,δ,vs,S1,E,h1,fun us bU H1 p1 w1 r1=>?_⟩
 show Ei X.K cl n g (us++[]) H1 Q E0;rw[List.append_nil];exact⟨by rw[<-r1.length];exact hn δ S vs S1 h1,bU,S1,vs,v,S',w1,r1,h2,fun z oT H2 p2 w2 r2=>q z oT H2 (p1.trans p2) w2 r2⟩
end
def cq(N:List Str)(vs:List V3):DE:=vs.map some++List.replicate (N.length - vs.length) none
theorem F3{K:W.Frag}{cl:Aag}{S:aI}{N:List Str}{ds:List V3}{vs:List V}(w:SW K cl ρ H S)(r:aD K ρ H ds vs):er K cl ρ H S (L2.start N vs) (cq N ds) where
 len:=by unfold L2.start cq;simp [r.length]
 sw:=w
 val:=fun i d e=>by
  unfold cq at e;unfold L2.start;by_cases hi:i < ds.length
  .rw [List.getElem?_append_left (by simpa using hi),List.getElem?_map] at e
   cases q:ds[i]? with
   | none=>rw [q] at e;cases e
   | some d'=>
     rw[q] at e;cases e;obtain⟨x,h1,h2⟩:=r.get q;exact⟨x,by rw[List.getElem?_append_left (by rw[List.length_map,<-r.length];exact hi),List.getElem?_map,h1];rfl,h2⟩
  .rw [List.getElem?_append_right (by simpa using hi),List.getElem?_replicate] at e
   split at e <;> cases e
def nq(N:List Str)(F:FZ):List V3->aI->R3 V3:=fun vs S=>(F (cq N vs) S).bind fun o S'=>match o with | .rt v=> .ok v S' | .nx _=> .ok (.d .cR) S'
def pA(N:List Str)(F:FZ):List V3->aI->R3 V3:=fun vs S=>(nq N F vs S).bind fun v S'=>match res S' v with
 | some d=>R3.bh ((S'.take S.length).all (pI S.length) && ei S.length v) (.ok (.d d) (S'.take S.length))
 | none=> .no
theorem IA{P:Program}{w:World}{K:W.Frag}{mg:Aaf}{base:Heap}{cl:Aag}{x qual:Str}{st:Stmt}{f:Addr}{fd:FuncData}{N ps:List Str}{k:Nat}{F:FZ}(Fn:AV K x qual st f fd)(S:a_ N ps (ax st))
 (ij:∀(fF:Value) (A:Around) (outer:List Env) (s:Shared) (H:Hp) (E:XK),dW k (A.deeper (envOfC qual (ax st) s.heap.objs.size f fF))->
   CV (p6 sx P w K mg base N qual (ax st) f fF A outer s H E).Eu cl (aL st) F):ie P w K mg base sx (k+1) f fd ps (Ei K cl ps.length (nq N F)):=by
 refine Fn.ok S (fun vs H Q E h=>h.1) (fun fF A outer s H vs Q E hr h=>⟨_,(ij fF A outer s H E hr).1,?_⟩)
 obtain⟨_,ρ,S,ds,v,S',w,r,hg,q⟩:=h;obtain⟨o,S1,h1,h2⟩:=R3.ai hg;refine⟨ρ,S,cq N ds,o,S1,F3 w r,h1,?_⟩;cases o with
 | nx dN=>
   cases h2;exact fun cN cn H' p' E'=>q _ cn H' p' E'.sw (by unfold bc Rep;rfl)
 | rt d'=>
   cases h2;exact fun u cn H' p' w' r'=>q u cn H' p' w' r'
theorem zf{K:W.Frag}{cl:Aag}{N:List Str}{n:Nat}{vs:List V}{Q:VK}{E:XK}(h:Ei K cl n (pA N F) vs H Q E):Ei K cl n (nq N F) vs H Q E:=by
 obtain⟨hl,ρ,S,xs,v,S',w,r,hg,q⟩:=h;obtain⟨v1,S1,h1,h2⟩:=R3.ai hg;refine⟨hl,ρ,S,xs,v1,S1,w,r,h1,fun u bU H1 p1 w1 r1=>?_⟩
 have pc:Pre ρ H (bU.cut S.length) H1:=SW.LQ (K:=K) (cl:=cl) (by rw[w.len];exact Nat.le_refl _) p1
 split at h2
 .rename_i d e;obtain⟨ok,h3⟩:=R3.bf h2;obtain⟨ok,hk⟩:=Bool.and_eq_true_iff.mp ok;cases h3;refine q u _ H1 pc (w1.cut ok) ?_;unfold bc;refine r1.resB w1 (je _) (fun k a hk a1 ha=>?_) hk e
  rcases P3.dF.mp ha with⟨z,_⟩ | z
  .obtain⟨j,hj⟩:=List.getElem?_of_mem z;have hj:(bU.r.take S.length)[j]? =some a:=hj;rw[List.getElem?_take] at hj;split at hj
   .rename_i hjl;have:=w1.nd j k a hj a1;omega
   .cases hj
  .exact(w1.zb a z).2 (List.mem_of_getElem? a1)
 .cases h2
end L3
end
section
namespace L3
open PySem PySem.Spec PyProof.Rows L2
theorem aF.setAt{K:W.Frag}{ρ:P3}:∀{ds:List D} {xs:List V} {m:Nat} {d:D} {v:V},aF K ρ.b H ds xs->Rep K ρ.b H d v->aF K ρ.b H (ds.set m d) (xs.set m v)
 | [],_,_,_,_,h,_=>by unfold aF at h;subst h;exact aF.nil
 | e ::ds,xs,0,d,v,h,r=>by
   obtain⟨x,r',rfl,h1,h2⟩:=h.cb;exact aF.cons r h2
 | e ::ds,xs,m+1,d,v,h,r=>by
   obtain⟨x,r',rfl,h1,h2⟩:=h.cb;exact aF.cons h1 (aF.setAt h2 r)
section
variable {X:Cx} {cl:Aag}
theorem vL{o i e:Expr}{fo fi fe:FX}{rH pos:Pos}(he:PX X cl e fe)
 (hg:PG X (.Subscript o i rH) (OQ (tX X.K cl fo) (tX X.K cl fi) Kg))
 (hs:swapsWithSole [.Subscript o i rH] e pos.line X.env=pure false:=by rfl) (hw:swappedStores [.Subscript o i rH] e X.env=pure none:=by rfl)
 (h1:(assignEach [.Subscript o i rH] X.env).map (·.2)=[assign (.Subscript o i rH) X.env]:=by rfl):PZ X cl (.Assign [.Subscript o i rH] e pos) (zJ fo fi fe):=⟨(zo he.1 hg hs hw h1).imp fun D σ H ⟨ρ,S,δ,ou,S',E,hf,q⟩=>by
 obtain⟨v,S1,h1,h2⟩:=R3.ai hf;obtain⟨vo,S2,h3,h4⟩:=R3.ai h2;obtain⟨vi,S3,h5,h6⟩:=R3.ai h4;split at h6
 .rename_i d k n;split at h6
  .rename_i ds hds;split at h6
   .rename_i m hm;cases h6;refine⟨ρ,S,δ, .d d,S1,E,h1,fun u bU H1 p1 w1 r1=>⟨bU,S1,δ, .loc k,S2,E.to p1 w1,h3,fun u2 oT H2 p2 w2 r2=>⟨oT,S2,δ, .d (.int n),S3,(E.to p1 w1).to p2 w2,h5,fun u3 Dp H3 p3 w3 r3=>?_⟩⟩⟩
    unfold bc at r2;obtain⟨a,a1,rfl⟩:=r2;have a3:=p3.ext k a a1;obtain⟨xs,x1,x2⟩:=w3.ob k a _ a3 (fu hds);unfold bc Rep at r3;have qX:=r1.pre (p2.trans p3);unfold bc at qX;obtain⟨w4,p4⟩:=w3.put (o:= .lst (ds.set m d)) (u:= .lst (xs.set m u)) a3 (w3.fz k a a3 (by rw[fu hds];intro h;cases h)) ⟨xs.set m u,rfl,aF.setAt x2 qX⟩
    exact⟨a,xs,n,m,rfl,r3,x1,by rw[<-x2.length];exact hm,q σ Dp _ (((p1.trans p2).trans p3).trans p4) (E.to (((p1.trans p2).trans p3).trans p4) w4)⟩
   .cases h6
  .cases h6
 .cases h6⟩
def kX(δ:DE)(i:Nat):Option V3:=match δ[i]? with | some (some v)=>some v | _=>none
def mz(own:List Str)(kp:List Nat)(δ:DE):DE:=List.replicate own.length none++kp.map (kX δ)
theorem Jj{K:W.Frag}{S S':aI}{σ:L2.St}{δ:DE}{own:List Str}{kp:List Nat}(E:er K cl ρ H S σ δ)(p:PW ρ H cn H')(w:SW K cl cn H' S'):er K cl cn H' S' (dg own kp σ) (mz own kp δ) where
 len:=by unfold dg mz;simp
 sw:=w
 val:=fun i d e=>by
  unfold mz at e;unfold dg;by_cases hi:i < own.length
  .rw [List.getElem?_append_left (by simpa using hi),List.getElem?_replicate] at e
   split at e <;> cases e
  .rw [List.getElem?_append_right (by simpa using hi),List.length_replicate,List.getElem?_map] at e ⊢
   cases q:kp[i - own.length]? with
   | none=>rw [q] at e;cases e
   | some j=>
     rw[q] at e;have e:kX δ j=some d:=Option.some.inj e;unfold kX at e;split at e
     .rename_i d' ed;cases e;obtain⟨v,h1,h2⟩:=E.val j d ed;exact⟨v,by simp [h1],h2.pw p⟩
     .cases e
def mq(t:FG)(c:FB)(f:FX)(δ:DE):List V3->aI->R3 (List V3)
 | [],S=> .ok [] S
 | v ::vs,S=>match t v δ with
   | none=> .no
   | some δ1=>(c δ1 S).bind fun b S1=>if b then(f δ1 S1).bind fun y S2=>(mq t c f δ vs S2).bind fun ys S3=> .ok (y ::ys) S3 else mq t c f δ vs S1
def mC(it:FA)(t:FG)(c:FB)(f:FX)(own:List Str)(kp:List Nat):FX:=fun δ S=>(it δ S).bind fun vs S1=>R3.bh (decide (vs.length<=sizeLine)) ((mq t c f (mz own kp δ) vs S1).bind fun ys S2=> .ok (tq ys) S2)
theorem aD.append{K:W.Frag}:∀{ds es:List V3} {xs ys:List V},aD K ρ H ds xs->aD K ρ H es ys->aD K ρ H (ds++es) (xs++ys)
 | [],_,_,_,h,t=>by unfold aD at h;subst h;exact t
 | d ::ds,es,xs,ys,h,t=>by
   obtain⟨x,r,rfl,h1,h2⟩:=h.cb;exact aD.cons h1 (aD.append h2 t)
theorem A1{K:W.Frag}{own:List Str}{kp:List Nat}{σ:L2.St}{Q:VK}(h:tX K cl (mC it t c f own kp) σ H Q) :
 AA (U8 K cl it) (gX K cl t) (Mb K cl c) (tX K cl f) own kp σ H Q:=by
 obtain⟨ρ,S,δ,v,SF,E,hf,q⟩:=h;obtain⟨es,S1,h1,h2⟩:=R3.ai hf;obtain⟨hl,h3⟩:=R3.bf h2;have hl:=of_decide_eq_true hl;obtain⟨vs,S2,h4,h5⟩:=R3.ai h3;cases h5;refine⟨ρ,S,δ,es,S1,E,h1,fun J bU H1 p1 w1 ir Dd hD=>?_⟩
 have nDz:Dd ∉ bU.b:=fun hb=>by obtain⟨o,ho⟩:=w1.bs Dd hb;rw [hD] at ho;cases ho
 have nDr:Dd ∉ bU.r:=fun hb=>by obtain⟨o,ho⟩:=w1.rs Dd hb;rw [hD] at ho;cases ho
 have toZ:∀{r' f':List Addr} {H':Hp},Pre bU H1 ⟨r',bU.z,f'⟩ H'->PW bU H1 ⟨r',Dd ::bU.z,f'⟩ H':=fun {r' f' H'} p=>⟨fun b o e nb=>⟨(p.bj b o e nb).1,fun hb=>by
  rcases P3.dF.mp hb with z | z
  .exact(p.bj b o e nb).2 (P3.dF.mpr (.inl z))
  .rcases List.mem_cons.mp z with y | y
   .exact bW e hD y
   .exact(p.bj b o e nb).2 (P3.dF.mpr (.inr y))⟩,p.ext⟩
 have w0:SW K cl ⟨bU.r,Dd ::bU.z,bU.f⟩ (upd H1 Dd (.lst [])) S1:=by
  have s0:aR H1 (upd H1 Dd (.lst [])):=aN hD;have ws:=w1.same s0;refine⟨ws.len,ws.nd,fun k a o hk ho=>?_,fun b hb=>?_,ws.fz,ws.ff,ws.fi⟩
  .have r:=w1.ob k a o hk ho;obtain⟨u,hu⟩:=r.some;rw[s0 a u hu,<-hu];exact r.pw (toZ (Pre.same s0))
  .rcases List.mem_cons.mp hb with y | y
   .subst y;exact⟨⟨_,aT⟩,nDr⟩
   .exact ws.zb b y
 refine⟨fun i m ys H'=>m=es.length - i/\i<=es.length/\ys.length<=i/\H' Dd=some (.lst ys)/\∃r' f' S' done rest,Pre bU H1 ⟨r',bU.z,f'⟩ H'/\SW K cl ⟨r',Dd ::bU.z,f'⟩ H' S'/\vs=done++rest/\aD K ⟨r',Dd ::bU.z,f'⟩ H' done ys/\mq t c f (mz own kp δ) (es.drop i) S'= .ok rest SF,
  ⟨es.length,rfl,Nat.zero_le _,Nat.le_refl _,aT,bU.r,bU.f,S1,[],vs,Pre.same (aN hD),w0,rfl,aD.nil,by simpa using h4⟩,?_⟩
 rintro i m ys H' ⟨rfl,hi,hy,hDl,r',f',S',done,rest,pv,w',rfl,rd,hc⟩;obtain⟨go,stop⟩:=ir ⟨r',Dd ::bU.z,f'⟩ H' (toZ pv) w'.bs;have unZ:∀{GU:P3} {H4:Hp},Pre ⟨r',Dd ::bU.z,f'⟩ H' GU H4->Pre bU H1 ⟨GU.r,bU.z,GU.f⟩ H4:=fun {GU H4} p4=>⟨fun b o e nb=>by
  obtain⟨e1,n1⟩:=(toZ pv).bj b o e nb;obtain⟨g8,n2⟩:=p4.bj b o e1 n1;refine⟨g8,fun hb=>n2 ?_⟩
  rcases P3.dF.mp hb with z | z
  .exact P3.dF.mpr (.inl z)
  .exact P3.dF.mpr (.inr (by rw[p4.zz];exact List.mem_cons_of_mem _ z)),rfl,fun b o hb h=>p4.zs b o (List.mem_cons_of_mem _ hb) (pv.zs b o hb h),fun k a h=>p4.ext k a (pv.ext k a h)⟩
 by_cases hlt:i < es.length
 .have hd:es[i]? =some es[i]:=List.getElem?_eq_getElem hlt;have hdrop:es.drop i=es[i] ::es.drop (i+1):=List.drop_eq_getElem_cons hlt;rw[hdrop] at hc;unfold mq at hc;split at hc
  .cases hc
  .rename_i δ1 h6;obtain⟨b,T1,h7,h8⟩:=R3.ai hc;obtain⟨g1,g2⟩:=go i _ hd;refine .inr ⟨g1,fun x H2 y=>?_⟩
   obtain⟨sy,ry⟩:=g2 x H2 y;have Ec:er K cl ⟨r',Dd ::bU.z,f'⟩ H2 S' (dg own kp σ) (mz own kp δ):=Jj E (p1.pw.trans ((toZ pv).trans (Pre.same sy).pw)) (w'.same sy);refine⟨⟨r',Dd ::bU.z,f'⟩,S',mz own kp δ,es[i],δ1,Ec,ry,h6,fun yW H3 s3 E3=>⟨⟨r',Dd ::bU.z,f'⟩,S',δ1,b,T1,E3,h7,fun GU H4 p4 w4=>?_⟩⟩
   have Px:Pre ⟨r',Dd ::bU.z,f'⟩ H' GU H4:=(Pre.same (sy.trans s3)).trans p4;cases b with
   | true=>
     rw[if_pos rfl] at h8;refine Fv ?_;obtain⟨yv,T2,h9,SV⟩:=R3.ai h8;obtain⟨rs,T3,SK,XZ⟩:=R3.ai SV;cases XZ;refine⟨GU,T1,δ1,yv,T2,E3.to p4 w4,h9,fun v5 Vk H5 p5 w5 r5=>?_⟩
     have pv5:Pre ⟨r',Dd ::bU.z,f'⟩ H' Vk H5:=Px.trans p5;have Tt:H5 Dd=some (.lst ys):=pv5.zs Dd _ List.mem_cons_self hDl;have u5:=unZ pv5;obtain⟨Qi,z5,f5⟩:=Vk;have ez:z5=Dd ::bU.z:=pv5.zz;subst ez;have nr:Dd ∉ Qi:=(w5.zb Dd List.mem_cons_self).2;have pw:PW ⟨Qi,Dd ::bU.z,f5⟩ H5 ⟨Qi,Dd ::bU.z,f5⟩ (upd H5 Dd (.lst (ys++[v5]))):=⟨fun b o e nb=>⟨by rw[bg (fun(z:b=Dd)=>nb (by rw[z];exact P3.dF.mpr (.inr List.mem_cons_self)))];exact e,nb⟩,fun _ _ h=>h⟩
     refine⟨Tt,by omega,es.length - (i+1),by omega,rfl,hlt,by rw[List.length_append,List.length_singleton];omega,aT,Qi,f5,T2,done++[yv],rs,?_,?_,by simp,aD.append ((rd.pre pv5).pw pw) (aD.cons (r5.pw pw) aD.nil),SK⟩
     .refine⟨fun b o e nb=>⟨by rw[bg (bW e hD)];exact(u5.bj b o e nb).1,(u5.bj b o e nb).2⟩,rfl,fun b o hb h=>?_,u5.ext⟩
      rw[bg (bW h hD)];exact u5.zs b o hb h
     .refine⟨w5.len,w5.nd,fun k a o hk ho=>?_,fun b hb=>?_,w5.fz,fun b hb=>?_,w5.fi⟩
      .have ne:a≠Dd:=fun z=>nr (by rw[<-z];exact List.mem_of_getElem? hk)
       rw[bg ne];exact(w5.ob k a o hk ho).pw pw
      .obtain⟨⟨o,ho⟩,n⟩:=w5.zb b hb;refine⟨?_,n⟩;by_cases z:b=Dd
       .subst z;exact⟨_,aT⟩
       .rw [bg z];exact⟨o,ho⟩
      .obtain⟨o,ho⟩:=w5.ff b hb;by_cases z:b=Dd
       .subst z;exact⟨_,aT⟩
       .rw [bg z];exact⟨o,ho⟩
   | false=>
     rw[if_neg (by decide)] at h8
     refine FV ?_;have Yh:H4 Dd=some (.lst ys):=Px.zs Dd _ List.mem_cons_self hDl;have u4:=unZ Px;obtain⟨Yw,z4,f4⟩:=GU;have ez:z4=Dd ::bU.z:=Px.zz;subst ez;exact⟨es.length - (i+1),by omega,rfl,hlt,by omega,Yh,Yw,f4,T1,done,rest,u4,w4,rfl,rd.pre Px,h8⟩
 .have e:i=es.length:=by omega
  subst e;rw[List.drop_length] at hc;cases hc;rw[List.append_nil] at q;refine .inl ⟨stop,?_⟩;have back:PW ⟨r',Dd ::bU.z,f'⟩ H' ⟨r',bU.z,f'⟩ H':=⟨fun b o e nb=>⟨e,fun hb=>nb (by
   rcases P3.dF.mp hb with z | z
   .exact P3.dF.mpr (.inl z)
   .exact P3.dF.mpr (.inr (List.mem_cons_of_mem _ z)))⟩,fun _ _ h=>h⟩
  have wB:SW K cl ⟨r',bU.z,f'⟩ H' _:=⟨w'.len,w'.nd,fun k a o hk ho=>(w'.ob k a o hk ho).pw back,fun b hb=>w'.zb b (List.mem_cons_of_mem _ hb),w'.fz,w'.ff,w'.fi⟩
  refine q _ ⟨r',bU.z,f'⟩ H' (p1.trans pv) wB (uN (.inl ⟨fun hb=>?_, .inl hDl⟩) (rd.pw back))
  rcases P3.dF.mp hb with z | z
  .exact(w'.zb Dd List.mem_cons_self).2 z.1
  .exact nDz (P3.dF.mpr (.inr z))
end
end L3
end
section
namespace L3
open PySem PySem.Spec PyProof.Rows L2
section
variable {X:Cx} {cl:Aag}
theorem se{own:List Str}{kp:List Nat}{pos:Pos}(hi:Mp X cl tg iter it)(hg:∀fp s H,MD (bF X scope (own++(rA kp X.N)) fp s H) cl tg t)(GW:∀fp s H,qc (bF X scope (own++(rA kp X.N)) fp s H) ifs (Mb X.K cl c))(he:∀fp s H,PX (bF X scope (own++(rA kp X.N)) fp s H) cl elt f)(hs:∀x,foldedSetIterable iter X.env x=pure x:=by intro _;rfl)(hc:X.calm=true:=by rfl)(C:gp X scope own kp (rA kp X.N):=by exact Ro (by kernel_rfl)):PX X cl (.ListComp elt [⟨tg,iter,ifs,0⟩] scope pos) (mC it t c f own kp):=
 ⟨(A9 hc C hi.1 (fun fp s H=>(hg fp s H).1) GW (fun fp s H=>(he fp s H).1) hs).imp fun σ H Q h=>A1 h⟩
def IF:FB:=fun _ S=> .ok true S
theorem uX:qc X [] (Mb X.K cl IF):=fun pins s σ H Q I ⟨ρ,S,δ,b,S',E,hf,q⟩=>xH pins s σ H Q I (by cases hf;exact q ρ H (Pre.refl ρ H) E.sw)
theorem tm(h:Af X cl e c):qc X [e] (Mb X.K cl c):=yC h.1
theorem LH{K:W.Frag}{i:Nat}{D:Ends}{σ:L2.St}(h:sX K cl (b3 i f) D σ H):Dc (tX K cl f) (sI i) D σ H:=by
 obtain⟨ρ,S,δ,o,S',E,hf,q⟩:=h;obtain⟨v,S1,h1,h2⟩:=R3.ai hf;obtain⟨hi,h3⟩:=R3.bf h2;cases h3;refine⟨ρ,S,δ,v,_,E,h1,fun u bU H1 p1 w1 r1=>?_⟩
 exact q _ bU H1 p1 ((E.to p1 w1).set (by rw[<-E.len];exact of_decide_eq_true hi) r1)
theorem zi{i:Nat}{pos' rH:Pos}{own:List Str}{kp:List Nat}(hi:Mp X cl tg iter it)(hg:∀fp s H,MD (bF X scope (own++(rA kp X.N)) fp s H) cl tg t)(GW:∀fp s H,qc (bF X scope (own++(rA kp X.N)) fp s H) ifs (Mb X.K cl c))(he:∀fp s H,PX (bF X scope (own++(rA kp X.N)) fp s H) cl elt f)(JK:swapsWith (.ListComp elt [⟨tg,iter,ifs,0⟩] scope pos) (some (.Name x pos')) rH.line X.env=pure true:=by rfl)(hs:∀x,foldedSetIterable iter X.env x=pure x:=by intro _;rfl)(hc:X.calm=true:=by rfl)(hN:X.N.Nodup:=by first | assumption | exact Lg (by kernel_rfl))(hx:X.N[i]? =some x:=by rfl)(Qk:X.env.scope.names.lookup x=some .local:=by rfl)(C:gp X scope own kp (rA kp X.N):=by exact Ro (by kernel_rfl)):PZ X cl (.Assign [.Name x pos'] (.ListComp elt [⟨tg,iter,ifs,0⟩] scope pos) rH) (b3 i (mC it t c f own kp)):=
 ⟨(zh hc hN hx Qk C hi.1 (fun fp s H=>(hg fp s H).1) GW (fun fp s H=>(he fp s H).1) JK hs).imp fun D σ H h=>A1 (LH h)⟩
def ZD(g:FA):FX:=fun δ S=>(g δ S).bind fun vs S1=>match pY vs with
 | some ds=>R3.bh (decide (ds.length<=sizeLine)) (.ok (.loc S1.length) (S1++[.lst ds]))
 | none=> .no
end
end L3
end
section
namespace L3
open PySem PySem.Spec PyProof.Rows L2
section
variable {X:Cx} {cl:Aag}
def vH(g:List D->R D)(fs:FA):FX:=fun δ S=>(fs δ S).bind fun vs S1=>match pY vs with
 | some ds=>(R3.of (g ds) S1).bind fun d S=> .ok (.d d) S
 | none=> .no
def Zr(c:FB)(f g:FX):FX:=fun δ S=>(c δ S).bind fun b S=>if b then f δ S else g δ S
theorem eY:∀(δ:DE) (S:aI) (ds:List V3) (S':aI),bC δ S= .ok ds S'->ds.length=0:=fun δ S ds S' h=>by cases h;rfl
theorem cG{g:FA}{n:Nat}(h:∀(δ:DE) (S:aI) (ds:List V3) (S':aI),g δ S= .ok ds S'->ds.length=n):∀(δ:DE) (S:aI) (ds:List V3) (S':aI),aq f g δ S= .ok ds S'->ds.length=n+1:=fun δ S ds S' e=>by
 obtain⟨v,S1,h1,h2⟩:=R3.ai e;obtain⟨vs,S2,h3,h4⟩:=R3.ai h2;cases h4;rw[List.length_cons,h δ S1 vs _ h3]
end
end L3
end
section
namespace L3
open PySem PySem.Spec PyProof.Rows L2
theorem uO{K:W.Frag}{ds:List V3}{xs:List V}{i:Int}{d:V3}(r:aD K ρ H ds xs)(h:rn ds i=some d):∃x,rn xs i=some x/\bc K ρ H d x:=by
 unfold rn at h ⊢;rw[<-r.length];cases e:yT ds.length i with
 | none=>rw [e] at h;cases h
 | some j=>
   rw[e] at h;exact r.get h
section
variable {X:Cx} {cl:Aag}
def G1(fa fb:FX):FX:=fun δ S=>(fa δ S).bind fun a S1=>(fb δ S1).bind fun b S2=>match a,b with
 | .d x, .d y=>(R3.of (b_ x y) S2).bind fun d S=> .ok (.d d) S
 | .lst vs, .d (.int i)=>(match rn vs i with | some v=> .ok v S2 | none=> .no)
 | .tup vs, .d (.int i)=>(match rn vs i with | some v=> .ok v S2 | none=> .no)
 | _,_=> .no
theorem sG(ha:PX X cl a fa)(hb:PX X cl b fb)(hs:rO b):PX X cl (.Subscript a b pos) (G1 fa fb):=by
 refine⟨(J9 (r:=QZ X.K) Gp ha.1 hb.1 hs).imp fun σ H Q ⟨ρ,S,δ,v,S',E,hf,q⟩=>?_⟩
 obtain⟨v1,S1,h1,h2⟩:=R3.ai hf;obtain⟨v2,S2,h3,h4⟩:=R3.ai h2;refine⟨ρ,S,δ,v1,S1,E,h1,fun u1 bU H1 p1 w1 r1=>⟨bU,S1,δ,v2,S2,E.to p1 w1,h3,fun u2 oT H2 p2 w2 r2=>?_⟩⟩
 have qX:=r1.pre p2;have Pl:=p1.trans p2;split at h4
 .rename_i x y;obtain⟨d,S3,h5,h6⟩:=R3.ai h4;obtain⟨h7,e7⟩:=R3.of_ok h5;cases h6;subst e7;unfold bc at qX r2;unfold b_ at h7;split at h7
  .split at h7
   .rename_i e;cases h7;obtain⟨p,xs,rfl,l,rs⟩:=Rep.lst.mp qX;obtain⟨y,e1,e2⟩:=pq rs e;exact .inl ⟨p,xs,_,y,rfl,Rep.int.mp r2,l.sq,e1,q y oT H2 Pl w2 (by unfold bc;exact e2)⟩
   .cases h7
  .split at h7
   .rename_i e;cases h7;obtain⟨p,xs,rfl,l,rs⟩:=Rep.tup.mp qX;obtain⟨y,e1,e2⟩:=pq rs e;exact .inr (.inl ⟨p,xs,_,y,rfl,Rep.int.mp r2,l.sq,e1,q y oT H2 Pl w2 (by unfold bc;exact e2)⟩)
   .cases h7
  .obtain⟨hl,h8⟩:=R.bf h7;split at h8
   .rename_i e;cases h8;exact .inr (.inr ⟨_,_,_,Rep.str.mp qX,Rep.int.mp r2,of_decide_eq_true hl,e,q _ oT H2 Pl w2 (by unfold bc;exact Rep.str.mpr rfl)⟩)
   .cases h8
  .cases h7
 .split at h4
  .rename_i e;cases h4;unfold bc at qX r2;obtain⟨p,xs,rfl,l,rs⟩:=qX;obtain⟨y,e1,e2⟩:=uO rs e;exact .inl ⟨p,xs,_,y,rfl,Rep.int.mp r2,l.sq,e1,q y oT H2 Pl w2 e2⟩
  .cases h4
 .split at h4
  .rename_i e;cases h4;unfold bc at qX r2;obtain⟨p,xs,rfl,l,rs⟩:=qX;obtain⟨y,e1,e2⟩:=uO rs e;exact .inr (.inl ⟨p,xs,_,y,rfl,Rep.int.mp r2,l.sq,e1,q y oT H2 Pl w2 e2⟩)
  .cases h4
 .cases h4
end
end L3
end
section
namespace L3
open PySem PySem.Spec PyProof.Rows L2
section
variable {X:Cx} {cl:Aag}
structure CQ (X:Cx) (cl:Aag) (e:Expr) (f:FB):Prop where
 go:L2.PW X e (Mb X.K cl f)
theorem CQ.pb(h:CQ X cl e f):Af X cl e f:=⟨L2.PW.pt h.1⟩
def C_(f g:FB):FB:=fun δ S=>(f δ S).bind fun b S=>if b then g δ S else .ok false S
def P9(f g:FB):FB:=fun δ S=>(f δ S).bind fun b S=>if b then .ok true S else g δ S
def HH(f:FB):FB:=fun δ S=>(f δ S).bind fun b S=> .ok (!b) S
theorem tU(h:Af X cl a f):CQ X cl (.BoolOp .And [a] pos) f:=⟨AW h.1⟩
theorem Bv(h:Af X cl a f):CQ X cl (.BoolOp .Or [a] pos) f:=⟨FC h.1⟩
theorem wG{rest:List Expr}(ha:Af X cl a f)(hb:CQ X cl (.BoolOp .And (b ::rest) pos) g):CQ X cl (.BoolOp .And (a ::b ::rest) pos) (C_ f g):=⟨by
 intro wh pins s σ H Q I ⟨ρ,S,δ,k,S',E,hf,q⟩;refine Ez ha.1 hb.1 wh pins s σ H Q I ?_;obtain⟨c,S1,h1,h2⟩:=R3.ai hf;refine⟨ρ,S,δ,c,S1,E,h1,fun bU H1 p1 w1=>?_⟩
 cases c with
 | true=>rw [if_pos rfl] at h2 ⊢;exact⟨bU,S1,δ,k,S',E.to p1 w1,h2,fun oT H' p2 w2=>q oT H' (p1.trans p2) w2⟩
 | false=>rw [if_neg (by decide)] at h2 ⊢;cases h2;exact q bU H1 p1 w1⟩
theorem DW{rest:List Expr}(ha:Af X cl a f)(hb:CQ X cl (.BoolOp .Or (b ::rest) pos) g):CQ X cl (.BoolOp .Or (a ::b ::rest) pos) (P9 f g):=⟨by
 intro wh pins s σ H Q I ⟨ρ,S,δ,k,S',E,hf,q⟩;refine JZ ha.1 hb.1 wh pins s σ H Q I ?_;obtain⟨c,S1,h1,h2⟩:=R3.ai hf;refine⟨ρ,S,δ,c,S1,E,h1,fun bU H1 p1 w1=>?_⟩
 cases c with
 | true=>rw [if_pos rfl] at h2 ⊢;cases h2;exact q bU H1 p1 w1
 | false=>rw [if_neg (by decide)] at h2 ⊢;exact⟨bU,S1,δ,k,S',E.to p1 w1,h2,fun oT H' p2 w2=>q oT H' (p1.trans p2) w2⟩⟩
theorem Bk(ha:Af X cl a f):Af X cl (.UnaryOp .Not a pos) (HH f):=⟨(Er ha.1).imp fun σ H Q ⟨ρ,S,δ,k,S',E,hf,q⟩=>by
 obtain⟨c,S1,h1,h2⟩:=R3.ai hf;cases h2;exact⟨ρ,S,δ,c,_,E,h1,fun bU H1 p1 w1=>q bU H1 p1 w1⟩⟩
def Gm(f:FX):FB:=fun δ S=>(f δ S).bind fun v S=>match v with | .d d=>R3.of (I_ d) S | _=> .no
theorem HZ(ha:PX X cl a f)(ht:∀{t:TE},PE X a t->PT X a (fun σ H Q=>t σ H fun x H'=>∃b,HF X.K x H' b/\Q b H')):Af X cl a (Gm f):=
 ⟨(ht ha.1).imp fun σ H Q ⟨ρ,S,δ,b,S',E,hf,q⟩=>by
   obtain⟨v,S1,h1,h2⟩:=R3.ai hf;split at h2
   .rename_i d;obtain⟨h3,e3⟩:=R3.of_ok h2;subst e3;exact⟨ρ,S,δ, .d d,_,E,h1,fun u bU H1 p1 w1 r1=>⟨b,Gk (by unfold bc at r1;exact r1) h3,q bU H1 p1 w1⟩⟩
   .cases h2⟩
abbrev Nc:=DE->aI->R3 (Option Int)
def Xh(K:W.Frag)(cl:Aag)(f:Nc):TO:=fun σ H Q=>∃ρ S δ o S',er K cl ρ H S σ δ/\f δ S= .ok o S'/\∀cn H',Pre ρ H cn H'->SW K cl cn H' S'->Q o H'
structure Zw (X:Cx) (cl:Aag) (e:Option Expr) (f:Nc):Prop where
 go:PO X e (Xh X.K cl f)
def RE:Nc:=fun _ S=> .ok none S
def Ry(f:FX):Nc:=fun δ S=>(f δ S).bind fun v S=>match v with | .d (.int i)=> .ok (some i) S | _=> .no
def Zx(f:FX)(fl fh:Nc):FX:=fun δ S=>(f δ S).bind fun v S1=>(fl δ S1).bind fun lo S2=>(fh δ S2).bind fun hi S3=>match v with
 | .d d=>(R3.of (LO d lo hi) S3).bind fun r S=> .ok (.d r) S
 | _=> .no
end
end L3
end
section
namespace L2
open PySem PySem.Spec PyProof.Rows
section
variable {X:Cx}
def zd(t T:String):Bool:=t==T || (t=="bool" && T=="int")
theorem qm{K:W.Frag}(t T:String)(ht:t∈["NoneType","bool","int","str","list","tuple"])(hT:T∈["bool","int","str","list","tuple"]):PySem.W.kitOne K (.type t) (.type T)=some (zd t T):=by
 simp only[List.mem_cons,List.not_mem_nil,or_false] at ht hT;rcases ht with rfl | rfl | rfl | rfl | rfl | rfl <;> rcases hT with rfl | rfl | rfl | rfl | rfl <;> rfl
def Oh(T:String)(f:FD):FD:=fun δ=>(f δ).bind fun d=>match d with | .dct _ _=> .no | _=> .ok (.bl (zd (tyName d) T))
theorem HW{T:Str}{Ts:String}{p p2 pos:Pos}{e:Expr}{f:FD}(he:QD X e f)(hT:Ts∈["bool","int","str","list","tuple"])(hg:Gl X "isinstance")(hm:X.mg "isinstance"=none)(Yx:Gl X T)(YV:X.mg T=none)(Zk:bootBuiltins T=some (.type Ts))(Zh:T≠"__name__":=by decide)(Yk:(T==("__debug__":Str))=false:=by decide)
 (hs:starEach [e, .Name T p2] X.env=(false,eval e X.env) ::starEach [.Name T p2] X.env:=by rfl) (lM:(backTo pos (starEach [.Name T p2] X.env)).any (·.1)=false:=by rfl):QD X (.Call (.Name "isinstance" p) [e, .Name T p2] [] pos) (Oh Ts f):=by
 have hc:lX X (.builtin "isinstance") (fun xs H Q=>∃B d x,Rep X.K B H d x/\(∀a b,d≠ .dct a b)/\xs=[x, .ty Ts]/\Q (.bl (zd (tyName d) Ts)) H):=by
  intro pins s σ H xs us Q I r h;obtain⟨B,d,x,rd,ha,rfl,q⟩:=h;obtain⟨u,w',rfl,ru,Dy⟩:=vals2 r;cases Dy;have fin:∀tk,EP X pins σ Q (.bool (zd (tyName d) Ts)) {s with toks:=tk}:=fun tk=>⟨.bl _,H,I.tok _,rfl,q⟩
  cases d with
  | cR=>exact m6 I ru (by rw[Rep.cR.mp rd];exact .cR) (qm "NoneType" Ts (by decide) hT) fin
  | bl b=>exact m6 I ru (by rw[Rep.bl.mp rd];exact .bl b) (qm "bool" Ts (by decide) hT) fin
  | int i=>exact m6 I ru (by rw[Rep.int.mp rd];exact .int i) (qm "int" Ts (by decide) hT) fin
  | str z=>exact m6 I ru (by rw[Rep.str.mp rd];exact .str z) (qm "str" Ts (by decide) hT) fin
  | lst es=>
    obtain⟨a,ys,rfl,l,_⟩:=Rep.lst.mp rd;cases(show u=Value.ref a from ru)
    obtain⟨JJ,n2,r2,h1,z2⟩:=I.OO l;exact PySem.W.kia_one PySem.W.kitx_list I.pX ⟨_,h1,rfl⟩ (qm "list" Ts (by decide) hT) (fun z=>nomatch z) fin
  | tup es=>
    obtain⟨a,ys,rfl,l,_⟩:=Rep.tup.mp rd;cases(show u=Value.ref a from ru)
    obtain⟨its,rv,p,hz⟩:=I.tuple l.sq;obtain⟨o,h1,h2,_⟩:=p;exact PySem.W.kia_one PySem.W.kitx_tuple I.pX ⟨o,h1,h2⟩ (qm "tuple" Ts (by decide) hT) (fun z=>nomatch z) fin
  | dct a b=>exact absurd rfl (ha a b)
 refine⟨(ye hc hg hm boot_isinstance (fj he.1 (fj (Jt (v:= .ty Ts) Yx YV Zk rfl Zh Yk) ja) hs) (by decide) (by decide) hs lM).imp fun σ H Q ⟨Z,B,δ,d,E,hf,q⟩=>?_⟩
 obtain⟨d1,h1,h2⟩:=R.ai hf;have key:(∀a b,d1≠ .dct a b)/\d= .bl (zd (tyName d1) Ts):=by
  cases d1 with
  | dct a b=>cases h2
  | _=>cases h2;exact⟨fun _ _ z=>(by cases z),rfl⟩
 obtain⟨k1,rfl⟩:=key;exact⟨Z,B,δ,d1,E,h1,fun v H1 s1 r1=>⟨B,d1,v,r1,k1,rfl,q _ H1 s1 (Rep.bl.mpr rfl)⟩⟩
def nList(f:FD):au->R (List D):=fun δ=>(f δ).bind fun d=>match d with | .lst ds=> .ok ds | .tup ds=> .ok ds | _=> .no
end
end L2
namespace L3
open PySem PySem.Spec PyProof.Rows L2
theorem hJ{P:Program}{w:World}{K:W.Frag}{mg:Aaf}{base:Heap}{cl:Aag}{x qual:Str}{st:Stmt}{f:Addr}{fd:FuncData}{N ps:List Str}{k:Nat}{F:FZ}{b:List Stmt}{sc:Scope}(hb:aL st=b)(hs:ax st=sc)(Fn:AV K x qual st f fd)(S:a_ N ps sc)
 (ij:∀(fF:Value) (A:Around) (outer:List Env) (s:Shared) (H:Hp) (E:XK),dW k (A.deeper (envOfC qual sc s.heap.objs.size f fF))->
   CV (p6 sx P w K mg base N qual sc f fF A outer s H E).Eu cl b F):ie P w K mg base sx (k+1) f fd ps (Ei K cl ps.length (nq N F)):=by
 subst hb hs;exact IA Fn S ij
theorem B_{K:W.Frag}{mg:Aaf}{cl:Aag}{st:Stmt}{N ps:List Str}{k:Nat}(h:Def K mg x st)(hb:aL st=b)(hs:ax st=sc)(S:a_ N ps sc)(ij:∀(f:Addr) (fF:Value) (A:Around) (outer:List Env) (s:Shared) (H:Hp) (E:XK),dW k (A.deeper (envOfC x sc s.heap.objs.size f fF))->N.Nodup->CV (p6 sx P w K mg base N x sc f fF A outer s H E).Eu cl b F)(bd:∀(kV doc pm:Value) (an:Option Addr) (fF ct:Value) (us:List Value),us.length=ps.length->bindArgs (PySem.W.fnOf x x (eK st) (aL st) (ax st) .none kV doc pm an fF ct) ⟨us,[]⟩=pure (ps.zip us):=by intro _ _ _ _ _ _ us hl;rcases us with _ | ⟨_,_ | ⟨_,_ | ⟨_,_ | ⟨_,_ | ⟨_,_ | ⟨_,_ | ⟨_,_⟩⟩⟩⟩⟩⟩⟩ <;> first | (simp at hl;done) | rfl):bu P w K mg base cl (k+1) x ps.length (nq N F):=by
 obtain⟨f,fd,F,hm⟩:=h;exact⟨f,fd,_,hJ hb hs F S (fun fF A outer s H E hr=>ij f fF A outer s H E hr S.nd),hm,F.kp,F.binds bd⟩
theorem bu.p{K:W.Frag}{mg:Aaf}{cl:Aag}{k:Nat}{n:Nat}{N:List Str}(C:bu P w K mg base cl k x n (nq N F)):bu P w K mg base cl k x n (pA N F):=
 let⟨f,fd,ps,F,h⟩:=C;⟨f,fd,ps,F.imp fun _ _ _ _ h=>zf h,h⟩
def PV(N:List Str)(F:FZ):List D->R D:=fun ds=>match pA N F (ds.map .d) [] with
 | .ok (.d d) []=>R.bh d.atom (.ok d)
 | _=> .no
theorem Ll{K:W.Frag}{cl:Aag}{N:List Str}{n:Nat}{vs:List V}{Q:VK}{E:XK}(h:Es K n (PV N F) vs H Q E):Ei K cl n (nq N F) vs H Q E:=by
 obtain⟨hl,B,ds,d,hb,r,hg,q⟩:=h;unfold PV at hg;split at hg
 .rename_i d' e;obtain⟨ha,h2⟩:=R.bf hg;cases h2;have r0:aF K (⟨[],[],[]⟩:P3).b H ds vs:=r.bj fun b o e _=>⟨e,by simp [P3.b]⟩
  refine zf ⟨hl,⟨[],[],[]⟩,[],ds.map .d, .d d,[],⟨rfl,fun i j a hi=>by simp at hi,fun k a o hk=>by simp at hk,fun b hb=>by simp at hb,fun k a hk=>by simp at hk,fun b hb=>by simp at hb,fun k a hk=>by simp at hk⟩,aD.of r0,e,fun u cn H' p w' r'=>q u H' (fun b o eb=>?_) ?_⟩
  .exact(p.bj b o eb (by simp [P3.b])).1
  .unfold bc at r';exact r'.atom ha
 .cases hg
section
variable {X:Cx} {cl:Aag}
theorem yb{a:Expr}(ha:PX X cl a f)(he:∀whole,isTrue a X.env whole=(do let v <-whole;standAt a.pos;holding [v] (truthy v)):=by intro _;rfl):Af X cl a (Gm f):=HZ ha fun h=>yj h he
theorem yG{g:List D->R D}{k j n:Nat}{x:Str}{p pos:Pos}{e:Expr}{es:List Expr}{fs:FA}(C:Callee X.prog X.w X.K X.mg X.base k x n g)(hr:dW j X.A)(hkj:k<=j)(hg:Gl X x)(ha:HU X cl (e ::es) fs)
 (hn:∀δ S ds S',fs δ S= .ok ds S'->ds.length=n) (qw:(x==("__debug__":Str))=false:=by decide) (he:starEach (e ::es) X.env=(false,eval e X.env) ::starEach es X.env:=by rfl) (lM:(backTo pos (starEach es X.env)).any (·.1)=false:=by rfl) :
 PX X cl (.Call (.Name x p) (e ::es) [] pos) (vH g fs):=by
 obtain⟨f,fd,ps,F,hm,hk,hb⟩:=C;refine⟨(v7 F (hr.mono hkj) hg hm hk hb .nil xQ ha.1 qw he lM).imp fun σ H Q ⟨ρ,S,δ,v,S',E,hf,q⟩=>?_⟩
 obtain⟨vs,S1,h1,h2⟩:=R3.ai hf;split at h2
 .rename_i ds e;obtain⟨d,S2,h3,h4⟩:=R3.ai h2;obtain⟨h5,e5⟩:=R3.of_ok h3;cases h4;subst e5;refine⟨ρ,S,δ,vs,_,E,h1,fun us bU H1 p1 w1 r1=>?_⟩
  have hl:=hn δ S vs _ h1;rw[lg e] at r1;show Es X.K n g (us++[]) H1 Q E0;rw[List.append_nil];exact⟨by rw[<-r1.length,<-lg e];exact hl,bU.b,ds,d,w1.bs,r1.to,h5,fun z H' s r=>q z bU H' (p1.trans (Pre.same s)) (w1.same s) (by unfold bc;exact r)⟩
 .cases h2
def Q4(f:FX):FA:=fun δ S=>(f δ S).bind fun v S=>match v with | .d (.tup ds)=> .ok (ds.map .d) S | .tup vs=> .ok vs S | _=> .no
end
end L3
end
section
namespace L3
open PySem PySem.Spec PyProof.Rows L2
def W3{α:Type}(r:R3 α)(Q:α->aI->Prop):Prop:=∃a S,r= .ok a S/\Q a S
section
variable {α β:Type} {Q Q':α->aI->Prop} {S:aI} {δ:DE}
theorem W3.ok{a:α}(h:Q a S):W3 (.ok a S) Q:=⟨a,S,rfl,h⟩
theorem W3.bind{Q:β->aI->Prop}{r:R3 α}{f:α->aI->R3 β}(h:W3 r fun a S=>W3 (f a S) Q):W3 (r.bind f) Q:=by
 obtain⟨a,S1,e1,b,S2,h2,q⟩:=h;exact⟨b,S2,by rw[e1];exact h2,q⟩
theorem W3.mono{r:R3 α}(h:W3 r Q)(m:∀a S,Q a S->Q' a S):W3 r Q':=let⟨a,S,e,q⟩:=h;⟨a,S,e,m a S q⟩
theorem W3.eq{r:R3 α}{a:α}{S':aI}(e:r= .ok a S')(h:Q a S'):W3 r Q:=⟨a,S',e,h⟩
theorem W3.wh{c:Bool}{r:R3 α}(hc:c=true)(h:W3 r Q):W3 (R3.bh c r) Q:=by rw[hc];exact h
theorem W3.of{r:R α}{a:α}(e:r= .ok a)(h:Q a S):W3 (R3.of r S) Q:=by rw[e];exact⟨a,S,rfl,h⟩
end
section
variable {S:aI} {δ:DE} {QV:V3->aI->Prop} {QB:Bool->aI->Prop} {QA:List V3->aI->Prop} {QO:Ou->aI->Prop}
theorem bQ{f:FD}{d:D}(e:f (down δ)= .ok d)(h:QV (.d d) S):W3 (xP f δ S) QV:=W3.bind (W3.of e (W3.ok h))
theorem xj{f:FD}{d:D}(e:f (bK S δ)= .ok d)(ha:lq d=true)(h:QV (.d d) S):W3 (xT f δ S) QV:=W3.bind (W3.of e (W3.wh ha (W3.ok h)))
theorem pe{f:au->R Bool}{b:Bool}(e:f (down δ)= .ok b)(h:QB b S):W3 (bP f δ S) QB:=W3.of e h
theorem LJ{f:au->R Bool}{b:Bool}(e:f (bK S δ)= .ok b)(h:QB b S):W3 (bT f δ S) QB:=W3.of e h
theorem w_var{i:Nat}{v:V3}(e:δ[i]? =some (some v))(h:QV v S):W3 (bz i δ S) QV:=by unfold bz;rw [e];exact W3.ok h
theorem lY{f:au->R (List D)}{ds:List D}(e:f (down δ)= .ok ds)(h:QV (.loc S.length) (S++[.lst ds])):W3 (pS f δ S) QV:=W3.bind (W3.of e (W3.ok h))
theorem bO(h:QA [] S):W3 (bC δ S) QA:=W3.ok h
theorem av{f:FX}{g:FA}(h:W3 (f δ S) fun v S1=>W3 (g δ S1) fun vs S2=>QA (v ::vs) S2):W3 (aq f g δ S) QA:=W3.bind (h.mono fun _ _ h=>W3.bind (h.mono fun _ _ h=>W3.ok h))
theorem BM{g:FA}(h:W3 (g δ S) fun vs S1=>vs.length<=sizeLine/\QV (AD vs) S1):W3 (Dh g δ S) QV:=W3.bind (h.mono fun _ _ h=>W3.wh (decide_eq_true h.1) (W3.ok h.2))
theorem OG{g:FA}(h:W3 (g δ S) fun vs S1=>vs.length<=sizeLine/\QV (tq vs) S1):W3 (ME g δ S) QV:=W3.bind (h.mono fun _ _ h=>W3.wh (decide_eq_true h.1) (W3.ok h.2))
theorem CB{g:D->D->R D}{fa fb:FX}(h:W3 (fa δ S) fun a S1=>W3 (fb δ S1) fun b S2=>∃x y d,a= .d x/\b= .d y/\g x y= .ok d/\QV (.d d) S2):W3 (x2 g fa fb δ S) QV:=
 W3.bind (h.mono fun _ _ h=>W3.bind (h.mono fun _ _ ⟨_,_,_,e1,e2,e3,q⟩=>by subst e1 e2;exact W3.bind (W3.of e3 (W3.ok q))))
theorem C2{g:D->D->R D}{fa fb:FX}(h:W3 (fa δ S) fun a S1=>W3 (fb δ S1) fun b S2=>∃x y k,a= .d x/\b= .d y/\g x y= .ok (.bl k)/\QB k S2):W3 (JS g fa fb δ S) QB:=
 W3.bind (CB (h.mono fun _ _ h=>h.mono fun _ _ ⟨x,y,k,e1,e2,e3,q⟩=>⟨x,y, .bl k,e1,e2,e3,W3.ok q⟩))
theorem C5{fa fb:FX}(h:W3 (fa δ S) fun a S1=>W3 (fb δ S1) fun b S2=>∃x y d,a= .d x/\b= .d y/\b_ x y= .ok d/\QV (.d d) S2):W3 (G1 fa fb δ S) QV:=
 W3.bind (h.mono fun _ _ h=>W3.bind (h.mono fun _ _ ⟨_,_,_,e1,e2,e3,q⟩=>by subst e1 e2;exact W3.bind (W3.of e3 (W3.ok q))))
theorem bZ{g:List V3->aI->R3 V3}{fs:FA}(h:W3 (fs δ S) fun vs S1=>W3 (g vs S1) QV):W3 (bt g fs δ S) QV:=W3.bind h
theorem Be{g:List D->R D}{fs:FA}(h:W3 (fs δ S) fun vs S1=>∃ds d,vs=ds.map .d/\g ds= .ok d/\QV (.d d) S1):W3 (vH g fs δ S) QV:=
 W3.bind (h.mono fun _ _ ⟨ds,_,e1,e2,q⟩=>by subst e1;rw [su];exact W3.bind (W3.of e2 (W3.ok q)))
theorem KP{it:FA}{own:List Str}{kp:List Nat}(h:W3 (it δ S) fun vs S1=>vs.length<=sizeLine/\W3 (mq t c f (mz own kp δ) vs S1) fun ys S2=>QV (tq ys) S2):W3 (mC it t c f own kp δ S) QV:=
 W3.bind (h.mono fun _ _ h=>W3.wh (decide_eq_true h.1) (W3.bind (h.2.mono fun _ _ h=>W3.ok h)))
theorem J0{f:FX}(h:W3 (f δ S) fun v S1=>∃d b,v= .d d/\I_ d= .ok b/\QB b S1):W3 (Gm f δ S) QB:=W3.bind (h.mono fun _ _ ⟨_,_,e,e2,q⟩=>by subst e;exact W3.of e2 q)
theorem w_not{f:FB}(h:W3 (f δ S) fun b S1=>QB (!b) S1):W3 (HH f δ S) QB:=W3.bind (h.mono fun _ _ h=>W3.ok h)
theorem aU{F G:FZ}(h:W3 (F δ S) fun o S1=>∃δ1,o= .nx δ1/\W3 (G δ1 S1) QO):W3 (bp F G δ S) QO:=W3.bind (h.mono fun _ _ ⟨_,e,h⟩=>by subst e;exact h)
theorem LW{F G:FZ}(h:W3 (F δ S) fun o S1=>∃v,o= .rt v/\QO (.rt v) S1):W3 (bp F G δ S) QO:=W3.bind (h.mono fun _ _ ⟨_,e,h⟩=>by subst e;exact W3.ok h)
theorem br{i:Nat}{f:FX}(hi:i < δ.length)(h:W3 (f δ S) fun v S1=>QO (.nx (δ.set i (some v))) S1):W3 (b3 i f δ S) QO:=W3.bind (h.mono fun _ _ h=>W3.wh (decide_eq_true hi) (W3.ok h))
theorem fE{f:FX}(h:W3 (f δ S) fun v S1=>QO (.rt v) S1):W3 (fH f δ S) QO:=W3.bind (h.mono fun _ _ h=>W3.ok h)
theorem l4{c:FB}{F G:FZ}(h:W3 (c δ S) fun b S1=>if b then W3 (F δ S1) QO else W3 (G δ S1) QO):W3 (wX c F G δ S) QO:=W3.bind (h.mono fun b _ h=>by cases b <;> exact h)
theorem OL{f:FX}{t:FG}(h:W3 (f δ S) fun v S1=>∃δ1,t v δ=some δ1/\QO (.nx δ1) S1):W3 (Lx f t δ S) QO:=W3.bind (h.mono fun _ _ ⟨_,e,q⟩=>by rw[e];exact W3.ok q)
theorem iA(h:QO (.nx δ) S):W3 (l8 δ S) QO:=W3.ok h
theorem rG{f:au->R (List D)}{ds:List D}(e:f (down δ)= .ok ds)(h:QA (ds.map .d) S):W3 (iP f δ S) QA:=W3.bind (W3.of e (W3.ok h))
theorem qk{f:FX}(h:W3 (f δ S) fun v S1=>∃n:Nat,v= .d (.int n)/\n < 1000000/\QA ((cC 0 n).map .d) S1):W3 (nT f δ S) QA:=W3.bind (h.mono fun _ _ ⟨n,e,hn,q⟩=>by
 subst e;refine W3.wh (decide_eq_true ⟨by omega,by omega⟩) (W3.ok ?_)
 rw[Int.toNat_natCast];exact q)
theorem BD{f:FX}(h:W3 (f δ S) fun v S1=>∃ds,v= .d (.lst ds)/\QA (ds.map .d) S1):W3 (Hl f δ S) QA:=W3.bind (h.mono fun _ _ ⟨n,e,q⟩=>by subst e;exact W3.ok q)
theorem iK{it:FA}(h:W3 (it δ S) fun vs S1=>W3 (mN t F vs δ S1) QO):W3 (l6 it t F δ S) QO:=W3.bind h
theorem j_{i k:Nat}{f:FX}(hk:δ[i]? =some (some (.loc k)))(h0:∃ds,S[k]? =some (.lst ds))(h:W3 (f δ S) fun v S1=>∃d ds,v= .d d/\S1[k]? =some (.lst ds)/\ds.length < sizeLine/\QO (.nx δ) (S1.set k (.lst (ds++[d])))):W3 (kq i f δ S) QO:=by
 obtain⟨es,h0⟩:=h0;unfold kq;have e1:jh δ i=some k:=by unfold jh;rw [hk]
 have e2:cU S k=some es:=by unfold cU;simp only[h0]
 rw[e1];show W3 (match cU S k with | none=>_ | some _=>_) _
 rw[e2];refine W3.bind (h.mono fun v S1 ⟨d,ds,e,h1,hl,q⟩=>?_)
 subst e;have e3:cU S1 k=some ds:=by unfold cU;simp only[h1]
 show W3 (match cU S1 k with | some ds=>_ | none=>_) _
 rw[e3];exact W3.wh (decide_eq_true hl) (W3.ok q)
theorem D6{fo fi fe:FX}(h:W3 (fe δ S) fun v S1=>W3 (fo δ S1) fun o S2=>W3 (fi δ S2) fun j S3=>∃d k n ds m,v= .d d/\o= .loc k/\j= .d (.int n)/\S3[k]? =some (.lst ds)/\yT ds.length n=some m/\QO (.nx δ) (S3.set k (.lst (ds.set m d)))):W3 (zJ fo fi fe δ S) QO:=
 W3.bind (h.mono fun _ _ h=>W3.bind (h.mono fun _ _ h=>W3.bind (h.mono fun _ S3 ⟨d,k,n,ds,m,e1,e2,e3,h1,h2,q⟩=>by
  subst e1 e2 e3;have e3:cU S3 k=some ds:=by unfold cU;simp only[h1]
  show W3 (match cU S3 k with | some ds=>_ | none=>_) _
  rw[e3];show W3 (match yT ds.length n with | some m=>_ | none=>_) _
  rw[h2];exact W3.ok q)))
theorem tf{t:FG}{body:FZ}:∀(vs:List V3) (n:Nat) (P:Nat->DE->aI->Prop) {δ:DE} {S:aI},P n δ S->
 (∀i v δ S,vs[i]? =some v->P (n+i) δ S->∃δ1,t v δ=some δ1/\W3 (body δ1 S) fun o S1=>∃dD,o= .nx dD/\P (n+i+1) dD S1)->W3 (mN t body vs δ S) fun o S1=>∃dD,o= .nx dD/\P (n+vs.length) dD S1
 | [],n,P,δ,S,h0,_=>W3.ok ⟨δ,rfl,h0⟩
 | v ::vs,n,P,δ,S,h0,hs=>by
   obtain⟨δ1,e1,o,S1,e2,dD,rfl,p2⟩:=hs 0 v δ S rfl h0;have ih:=tf vs (n+1) P p2 (fun i v' dN S' hi hp=>by
    have:=hs (i+1) v' dN S' (by simpa using hi) (by rw[show n+(i+1)=n+1+i by omega];exact hp)
    rw[show n+(i+1)+1=n+1+i+1 by omega] at this
    exact this)
   rw[show n+1+vs.length=n+(v ::vs).length by rw[List.length_cons];omega] at ih
   unfold mN;rw[e1];refine W3.bind ⟨_,_,e2,?_⟩;exact ih
theorem cF{t:FG}{body:FZ}{vs:List V3}(P:Nat->DE->aI->Prop){δ:DE}{S:aI}(h0:P 0 δ S)
 (hs:∀i v δ S,vs[i]? =some v->P i δ S->∃δ1,t v δ=some δ1/\W3 (body δ1 S) fun o S1=>∃dD,o= .nx dD/\P (i+1) dD S1):W3 (mN t body vs δ S) fun o S1=>∃dD,o= .nx dD/\P vs.length dD S1:=by
 have:=tf (t:=t) (body:=body) vs 0 P h0 (fun i v δ S hi hp=>by simpa using hs i v δ S hi (by simpa using hp))
 simpa using this
theorem t5{t:FG}{c:FB}{f:FX}{δ:DE}:∀(vs:List V3) (n:Nat) (P:Nat->List V3->aI->Prop) {ys:List V3} {S:aI},P n ys S->
 (∀i v ys S,vs[i]? =some v->P (n+i) ys S->∃δ1,t v δ=some δ1/\W3 (c δ1 S) fun b S1=>if b then W3 (f δ1 S1) fun y S2=>P (n+i+1) (ys++[y]) S2 else P (n+i+1) ys S1)->W3 (mq t c f δ vs S) fun zs S1=>P (n+vs.length) (ys++zs) S1
 | [],n,P,ys,S,h0,_=>W3.ok (by rw[List.append_nil];exact h0)
 | v ::vs,n,P,ys,S,h0,hs=>by
   obtain⟨δ1,e1,b,S1,e2,h2⟩:=hs 0 v ys S rfl h0;have ih:∀{Pu S'},P (n+1) Pu S'->W3 (mq t c f δ vs S') fun zs S1=>P (n+(v ::vs).length) (Pu++zs) S1:=fun {Pu S'} p=>by
    have:=t5 (t:=t) (c:=c) (f:=f) (δ:=δ) vs (n+1) P p (fun i v' Pu S' hi hp=>by
     have:=hs (i+1) v' Pu S' (by simpa using hi) (by rw[show n+(i+1)=n+1+i by omega];exact hp)
     rw[show n+(i+1)+1=n+1+i+1 by omega] at this
     exact this)
    rw[show n+1+vs.length=n+(v ::vs).length by rw[List.length_cons];omega] at this
    exact this
   unfold mq;rw[e1];refine W3.bind ⟨b,S1,e2,?_⟩;cases b with
   | true=>
     rw[if_pos rfl] at h2 ⊢;exact W3.bind (h2.mono fun y S2 p=>W3.bind ((ih p).mono fun zs S3 q=>W3.ok (by rw[List.append_assoc] at q;exact q)))
   | false=>rw [if_neg (by decide)] at h2 ⊢;exact ih h2
theorem Cz{t:FG}{c:FB}{f:FX}{δ:DE}{vs:List V3}(P:Nat->List V3->aI->Prop){S:aI}(h0:P 0 [] S)
 (hs:∀i v ys S,vs[i]? =some v->P i ys S->∃δ1,t v δ=some δ1/\W3 (c δ1 S) fun b S1=>if b then W3 (f δ1 S1) fun y S2=>P (i+1) (ys++[y]) S2 else P (i+1) ys S1):W3 (mq t c f δ vs S) fun zs S1=>P vs.length zs S1:=by
 have:=t5 (t:=t) (c:=c) (f:=f) (δ:=δ) vs 0 P h0 (fun i v ys S hi hp=>by simpa using hs i v ys S hi (by simpa using hp))
 simpa using this
theorem Kl{QB:Bool->aI->Prop}(h:QB true S):W3 (IF δ S) QB:=W3.ok h
theorem xh{N:List Str}{F:FZ}{vs:List V3}{δ:DE}(e:cq N vs=δ)(h:W3 (F δ S) fun o S1=>∃v,o= .rt v/\QV v S1):W3 (nq N F vs S) QV:=by
 subst e;exact W3.bind (h.mono fun _ _ ⟨_,e,q⟩=>by subst e;exact W3.ok q)
def Vc(S:aI):Prop:=∀o∈S,∃ds,o=SO.lst ds
end
section
variable {S:aI} {δ:DE} {QV:V3->aI->Prop}
theorem rZ{it:FA}{t:FG}{c:FB}{f:FX}{own:List Str}{kp:List Nat}(P:Nat->List D->aI->Prop)(h:W3 (it δ S) fun vs S1=>vs.length<=sizeLine/\P 0 [] S1/\
 (∀i v ds S2,vs[i]? =some v->P i ds S2->∃δ1,t v (mz own kp δ)=some δ1/\W3 (c δ1 S2) fun b S3=>if b then W3 (f δ1 S3) fun y S4=>∃d,y= .d d/\P (i+1) (ds++[d]) S4 else P (i+1) ds S3)/\
 ∀ds S2,P vs.length ds S2->QV (.d (.lst ds)) S2):W3 (mC it t c f own kp δ S) QV:=by
 refine KP (h.mono fun vs S1 ⟨hl,h0,hs,hq⟩=>⟨hl,?_⟩)
 refine(Cz (fun i ys S=>∃ds,ys=ds.map V3.d/\P i ds S) ⟨[],rfl,h0⟩ ?_).mono fun zs S2 ⟨ds,e,p⟩=>?_
 .rintro i v ys S2 hv ⟨ds,rfl,p⟩;obtain⟨δ1,e1,h1⟩:=hs i v ds S2 hv p;refine⟨δ1,e1,h1.mono fun b S3 h3=>?_⟩
  cases b with
  | true=>
    rw[if_pos rfl] at h3 ⊢;exact h3.mono fun y S4 ⟨d,e,p⟩=>by subst e;exact⟨ds++[d],by simp,p⟩
  | false=>rw [if_neg (by decide)] at h3 ⊢;exact⟨ds,rfl,h3⟩
 .subst e;unfold tq;rw[su];exact hq ds S2 p
structure g6 (n:Nat) (d:D):Prop where
 pl:d8 d=true
 ly:(toPy d).canLay0=true
 dp:(toPy d).depth<=n
theorem g6.int(i:Int):g6 0 (.int i):=⟨by unfold d8;rfl,by unfold toPy PyData.canLay0;rfl,by unfold toPy PyData.depth;omega⟩
theorem g6.bl(b:Bool):g6 0 (.bl b):=⟨by unfold d8;rfl,by unfold toPy PyData.canLay0;rfl,by unfold toPy PyData.depth;omega⟩
theorem g6.str(h:(PyData.str s).canLay0=true):g6 0 (.str s):=⟨by unfold d8;rfl,by unfold toPy;exact h,by unfold toPy PyData.depth;omega⟩
theorem g6.mono{n m:Nat}{d:D}(h:g6 n d)(hm:n<=m):g6 m d:=⟨h.pl,h.ly,Nat.le_trans h.dp hm⟩
theorem g6.all{n:Nat}:∀{ds:List D},(∀d∈ds,g6 n d)->jH ds=true/\PyData.canLayAll0 (lU ds)=true/\PyData.depthAll (lU ds)<=n
 | [],_=>⟨by unfold jH;rfl,by unfold lU PyData.canLayAll0;rfl,by unfold lU PyData.depthAll;omega⟩
 | d ::ds,h=>by
   obtain⟨h1,h2,h3⟩:=g6.all (ds:=ds) fun x hx=>h x (List.mem_cons_of_mem _ hx)
   have f:=h d List.mem_cons_self;refine⟨by unfold jH;rw [f.pl,h1];rfl,by unfold lU PyData.canLayAll0;rw [f.ly,h2];rfl,?_⟩
   unfold lU PyData.depthAll;have:=f.dp;omega
theorem g6.lst{n:Nat}{ds:List D}(h:∀d∈ds,g6 n d):g6 (n+1) (.lst ds):=by
 obtain⟨h1,h2,h3⟩:=g6.all h;exact⟨by unfold d8;exact h1,by unfold toPy PyData.canLay0;exact h2,by unfold toPy PyData.depth;omega⟩
theorem g6.tup{n:Nat}{ds:List D}(h:∀d∈ds,g6 n d):g6 (n+1) (.tup ds):=by
 obtain⟨h1,h2,h3⟩:=g6.all h;exact⟨by unfold d8;exact h1,by unfold toPy PyData.canLay0;exact h2,by unfold toPy PyData.depth;omega⟩
theorem g6.sh{n:Nat}{d:D}(h:g6 n d)(hn:n<=64):SeqAt.shaped (toPy d)=true:=by
 unfold SeqAt.shaped;rw[h.ly,decide_eq_true (Nat.le_trans h.dp hn)];rfl
theorem Ff{d e:List D}:G2 (.lst d) (.lst e)=R.bh (d8 (.lst d) && d8 (.lst e) && SeqAt.shaped (toPy (.lst d)) && SeqAt.shaped (toPy (.lst e))) (.ok (PyData.eqv (toPy (.lst d)) (toPy (.lst e)))):=rfl
theorem EC{d e:List D}:G2 (.tup d) (.tup e)=R.bh (d8 (.tup d) && d8 (.tup e) && SeqAt.shaped (toPy (.tup d)) && SeqAt.shaped (toPy (.tup e))) (.ok (PyData.eqv (toPy (.tup d)) (toPy (.tup e)))):=rfl
theorem g6.eqT{n:Nat}{ds:List D}(h:g6 n (.tup ds))(hn:n<=64):G2 (.tup ds) (.tup ds)= .ok true:=by
 rw[EC,h.pl,h.sh hn,SeqAt.eqv_refl _ h.ly];rfl
theorem g6.Wg{n:Nat}{ds:List D}(h:g6 n (.lst ds))(hn:n<=64):G2 (.lst ds) (.lst ds)= .ok true:=by
 rw[Ff,h.pl,h.sh hn,SeqAt.eqv_refl _ h.ly];rfl
theorem g6.Ot(zs:List Int):g6 1 (.lst (zs.map .int)):=g6.lst fun d hd=>by obtain⟨x,_,rfl⟩:=List.mem_map.mp hd;exact g6.int x
end
end L3
end
section
namespace L2
open PySem PySem.Spec PyProof.Rows
section
variable {X:Cx}
def Kn:D->Bool | .cR=>true | _=>false
def ZQ(d e:D):R D:=match e with | .cR=> .ok (.bl (Kn d)) | _=> .no
def Xy(d e:D):R D:=match e with | .cR=> .ok (.bl (!Kn d)) | _=> .no
theorem Cy:lX X (.type "int") (fun xs H Q=>∃x n,xs=[.str x]/\PySem.intText? x=some n/\x.length<=640/\Q (.int n) H):=by
 intro pins s σ H xs us Q I r h;obtain⟨x,n,rfl,h1,h2,q⟩:=h;obtain⟨u,rfl,ru⟩:=vals1 r;obtain⟨t,rfl⟩:=ru;exact PySem.W.KIN.call_text h1 h2 ⟨.int n,H,I.tok _,⟨_,rfl⟩,q⟩
def Fo:List D->R D
 | [.str x]=>R.bh (decide (x.length<=640)) (match PySem.intText? x with | some n=> .ok (.int n) | none=> .no)
 | _=> .no
theorem Ln:c7 X (.type "int") Fo:=c7.of Cy fun B H ds d xs Q _ rs hg q=>by
 unfold Fo at hg;split at hg
 .obtain⟨h1,h2⟩:=R.bf hg;split at h2
  .rename_i e;cases h2;obtain⟨x,rfl,r⟩:=rs.one;exact⟨_,_,by rw[Rep.str.mp r],e,of_decide_eq_true h1,q _ H (aR.refl H) (Rep.int.mpr rfl)⟩
  .cases h2
 .cases hg
def D2(ds:List D):R D:=match ds with | [.str _]=>Fo ds | _=>cInt ds
theorem LI:c7 X (.type "int") D2:=c7.or Ln Nu fun a d h=>by
 unfold D2 at h;split at h
 .exact .inl h
 .exact .inr h
def MF(f:FD):FD:=fun δ=>(f δ).bind fun d=>match d with | .int i=> .ok (.int (-i)) | _=> .no
theorem AJ(h:QD X a f):QD X (.UnaryOp .USub a pos) (MF f):=⟨(Oa KO h.1).imp fun σ H Q ⟨Z,B,δ,d,E,hf,q⟩=>by
 obtain⟨d1,h1,h2⟩:=R.ai hf;split at h2
 .cases h2;exact⟨Z,B,δ,_,E,h1,fun v H1 s1 r1=>⟨_,Rep.int.mp r1,q _ H1 s1 (Rep.int.mpr rfl)⟩⟩
 .cases h2⟩
def AL(d:D)(ds:List D):R D:=match d,ds with
 | .str x,[.str y]=> .ok (.int (Txt.find x y))
 | _,_=> .no
theorem m_find:PU X "str.find" AL:=by
 intro pins s σ H B da d ds x xs v us I hb rx rxs ra rs hg;unfold AL at hg;split at hg
 .cases hg;rw[Rep.str.mp ra] at rx;obtain⟨t,rfl⟩:=rx;obtain⟨y,rfl,r⟩:=rs.one;rw[Rep.str.mp r] at rxs;obtain⟨u,rfl,ru⟩:=vals1 rxs;obtain⟨t2,rfl⟩:=ru;exact PySem.SC.find ⟨.int _,H,I.tok _,⟨_,rfl⟩,aR.refl H,Rep.int.mpr rfl⟩
 .cases hg
theorem DP{o e:Expr}{f:FD}{fs:au->R (List D)}{apos cx:Pos}(ho:QD X o f)(ha:Hm X [e] fs)
 (mW:attributeBase o "find" X.env (eval o X.env)=eval o X.env:=by rfl)
 (uf:((backTo cx (starEach [e] X.env)).all (fun x=>!x.1) && (backToKw cx (keywordEach [] X.env)).all (fun x=>x.1.isSome)
   && decide (([e]:List Expr).length+([]:List Keyword).length+(if([]:List Keyword).isEmpty then 0 else 1) < 30))=true:=by rfl)
 (mY:(apos.endLine==cx.line)=true:=by rfl) (hs:starEach [e] X.env=(false,eval e X.env) ::starEach [] X.env:=by rfl) :
 QD X (.Call (.Attribute o "find" apos) [e] [] cx) (Nt "str" AL f fs):=⟨OI F.plainAttrs_str F.slot_str_find F.type_str_find m_find ho.1 ha.1 (.inl rfl) mW uf mY hs⟩
def VZ(aV:List (Str × Str)):D:= .dct (aV.map fun p=>Sum.inr p.1) (aV.map fun p=> .str p.2)
def Zp(aV:List (Str × Str)):List (Key × V):=aV.map fun p=>((Sum.inr p.1:Key),V.str p.2)
def Wz(d k:D):R D:=match d,k with
 | .dct ks ds, .str x=>(match (ks.zip ds).find? fun p=>decide (p.1=Sum.inr x) with | some p=> .ok p.2 | none=> .no)
 | _,_=> .no
end
theorem NY{K:W.Frag}{mg:Aaf}{k n:Nat}{f:Addr}{fd:FuncData}{ps:List Str}:ie P w K mg base sx k f fd ps (Es K n fun _=> .no):=
 ⟨fun vs H Q E h=>(by obtain⟨_,_,_,_,_,_,h,_⟩:=h;cases h),fun A outer s H args us vs Q E _ _ _ _ h=>(by obtain⟨_,_,_,_,_,_,h,_⟩:=h;cases h)⟩
end L2
namespace L3
open PySem PySem.Spec PyProof.Rows L2
section
variable {X:Cx} {cl:Aag}
def U5(f:FX):FB:=fun δ S=>(f δ S).bind fun v S=>match v with | .d (.bl b)=> .ok b S | _=> .no
def Xo(f g:FX):FX:=fun δ S=>(U5 f δ S).bind fun b S=>if b then g δ S else .ok (.d (.bl false)) S
def ZN(f g:FX):FX:=fun δ S=>(U5 f δ S).bind fun b S=>if b then .ok (.d (.bl true)) S else g δ S
def Eb(i:Nat)(F:FZ):FZ:=fun δ S=>match jh δ i with
 | some k=>(match cU S k with | some ds=>F (δ.set i (some (.d (.lst ds)))) (S.set k .j4) | none=> .no)
 | none=> .no
theorem Ja(i:Nat)(h:CV X cl Kv F):CV X cl Kv (Eb i F):=⟨h.1.imp fun D σ H ⟨ρ,S,δ,o,S',E,hf,q⟩=>by
 unfold Eb at hf;split at hf
 .rename_i k hk;split at hf
  .rename_i ds hds;obtain⟨v,v1,v2⟩:=E.val i _ (nX hk);unfold bc at v2;obtain⟨a,a1,rfl⟩:=v2;obtain⟨w,p,r⟩:=E.sw.j4 a1 (fu hds);have E1:er X.K cl ⟨ρ.r,ρ.z,a ::ρ.f⟩ H (S.set k .j4) σ (δ.set i (some (.d (.lst ds)))):=⟨by rw[List.length_set];exact E.len,w,fun j d e=>by
    by_cases h:i=j
    .subst h;rw[List.getElem?_set_self (by obtain⟨h1,_⟩:=List.getElem?_eq_some_iff.mp (nX hk);exact h1)] at e
     cases e;exact⟨_,v1,by unfold bc;exact r⟩
    .rw [List.getElem?_set_ne h] at e;obtain⟨u,u1,u2⟩:=E.val j d e;exact⟨u,u1,u2.pre p⟩⟩
   exact⟨_,_,_,o,S',E1,hf,q.pre p⟩
  .cases hf
 .cases hf⟩
theorem N2{i k:Nat}{ds:List D}{F:FZ}{δ:DE}{S:aI}{QO:Ou->aI->Prop}(hk:δ[i]? =some (some (.loc k)))(hS:S[k]? =some (.lst ds))(h:W3 (F (δ.set i (some (.d (.lst ds)))) (S.set k .j4)) QO):W3 (Eb i F δ S) QO:=by
 unfold Eb;have e1:jh δ i=some k:=by unfold jh;rw [hk]
 have e2:cU S k=some ds:=by unfold cU;simp only[hS]
 simp only[e1,e2];exact h
end
def Flat(S:aI):Prop:=∀o∈S,∀n,pI n o=true
theorem Flat.all{S:aI}(h:Flat S)(n:Nat):(S.take n).all (pI n)=true:=List.all_eq_true.mpr fun o ho=>h o (List.mem_of_mem_take ho) n
theorem Flat.set{S:aI}(h:Flat S)(k:Nat){x:SO}(hx:∀n,pI n x=true):Flat (S.set k x):=fun o ho=>by
 rcases List.mem_or_eq_of_mem_set ho with z | z
 .exact h o z
 .rw [z];exact hx
theorem Flat.push{S:aI}(h:Flat S){x:SO}(hx:∀n,pI n x=true):Flat (S++[x]):=fun o ho=>by
 rcases List.mem_append.mp ho with z | z
 .exact h o z
 .rw [List.mem_singleton.mp z];exact hx
theorem Flat.take{S:aI}(h:Flat S)(n:Nat):Flat (S.take n):=fun o ho=>h o (List.mem_of_mem_take ho)
theorem Flat.nil:Flat []:=fun o ho=>by cases ho
theorem sY{N:List Str}{vs:List V3}{S:aI}{QV:V3->aI->Prop}(h:W3 (nq N F vs S) fun v S1=>Flat S1/\ei S.length v=true/\∃d,res S1 v=some d/\QV (.d d) (S1.take S.length)):W3 (pA N F vs S) QV:=
 W3.bind (h.mono fun v S1 ⟨hl,hg,d,e,q⟩=>by
  rw[e];exact W3.wh (by rw[hl.all,hg];rfl) (W3.ok q))
end L3
end
section
namespace PySem
open Sem (wp)
open AutoSeq1 (wpAny_loadPart')
section
variable {prog:Program} {w:World} {A:Around} {E:Aab} {s:Shared}
end
end PySem
namespace L2
open PySem PySem.Spec PyProof.Rows
section
variable {X:Cx}
def P6(f:FD):FD:=fun δ=>(f δ).bind fun d=>match d with
 | .int j=>R.bh (decide (-(2 ^ 62)<=j/\j < 16777216)) (.ok (.tup (cC 0 j.toNat)))
 | _=> .no
theorem yX{n:Nat}{acc:Array Value}(h:ItemsOf (fun i v=>∃t,v=Value.int (0+(i:Int)*1) t) acc n):Vals ((List.range n).map fun(i:Nat)=>V.int (0+(i:Int))) acc.toList:=by
 obtain⟨hl,h⟩:=h;have gen:∀(l:List Value) (m:Nat),(∀j v,l[j]? =some v->∃t,v=Value.int (((m+j:Nat):Int)) t)->Vals ((List.range' m l.length).map fun(i:Nat)=>V.int (0+(i:Int))) l:=by
  intro l
  induction l with
  | nil=>intro m _;exact .nil
  | cons x l ih=>
    intro m hv;rw[List.length_cons,List.range'_succ,List.map_cons];obtain⟨t,e⟩:=hv 0 x rfl;refine .cons ⟨t,by rw[e];simp⟩ (ih (m+1) fun j v hj=>?_)
    obtain⟨t,e⟩:=hv (j+1) v (by simpa using hj)
    exact⟨t,by rw[e];congr 1;omega⟩
 have:=gen acc.toList 0 fun j v hj=>by
  obtain⟨t,e⟩:=h j v (by rw[<-hj];simp)
  exact⟨t,by rw[e];congr 1;omega⟩
 rw[<-hl,List.range_eq_range'];simpa using this
theorem x6{K:W.Frag}{B:List Addr}:∀l:List Nat,aF K B H (l.map fun(i:Nat)=>D.int (0+(i:Int))) (l.map fun(i:Nat)=>V.int (0+(i:Int)))
 | []=>aF.nil
 | i ::l=>aF.cons (Rep.int.mpr rfl) (x6 l)
end
end L2
end
section
namespace PySem
open Sem (wp)
open AutoSeq1 (wpAny_loadPart')
section
variable {prog:Program} {w:World} {A:Around} {E:Aab} {s:Shared}
theorem lW{it l:Addr}{i:Nat}{items:Array Value}{x:Value}{Q:Aab}(hit:s.heap.IsTupleIter it l i)(hl:s.heap.IsTuple l items)(hx:items[i]? =some x)
 (hQ:∀h',h'.IsTupleIter it l (i+1)->Heap.SameBut it s.heap h'->Q x {s with heap:=h'}):wpAny (model prog w) A (Builtin.SmallTypes.nextOf (.ref it)) Q E s:=by
 obtain⟨o,ho,hc,hd⟩:=id hit;obtain⟨ol,Hd,_,nl,hdl⟩:=hl;unfold Builtin.SmallTypes.nextOf;refine wpAny_bind (wpAny_callSpecial?_slot (name:="__next__") hit.typeIs F.slot_tuple_iterator_next (wpAny_call_entry F.slot_tuple_iterator_next hit.typeIs F.entry_tuple_iterator_next ?_ (F.args_tuple_iterator_next_1 _)));show wpAny _ _ (field (.ref it) 0 >>=_) _ _ s;refine wpAny_bind (wpAny_field ho hd (x:= .ref l) rfl ?_);show wpAny _ _ (if(Value.ref l==Value.none)=true then _ else _) _ _ s;rw [if_neg (show ¬((Value.ref l==Value.none)=true) from Bool.false_ne_true)]
 show wpAny _ _ (field (.ref it) 1 >>=_) _ _ s;refine wpAny_bind (wpAny_field ho hd (x:= .int i 0) rfl ?_);show wpAny _ _ (seqItems? (.ref l) >>=_) _ _ s;refine wpAny_bind (wpAny_seqItems Hd hdl ?_);simp only[Int.toNat_natCast,hx];refine wpAny_bind (wpAny_setField ho hd (by simp) (wpAny_pure ⟨x,rfl,wpAny_pure (hQ _ ⟨_,Heap.get?_update_self _ ho (Obj.isFreed_of_fields (Obj.data_mapFields hd _)),(Obj.cls_mapFields ..).trans hc,by rw[Obj.data_mapFields hd];simp [rawInt]⟩ (Heap.SameBut.update ..))⟩))
theorem i7{it l:Addr}{i:Nat}{items:Array Value}{Q:Aab}(hh:A.handled=none)(hit:s.heap.IsTupleIter it l i)(hl:s.heap.IsTuple l items)(hx:items[i]? =none)
 (hE:∀h' e,Heap.ExtBut it s.heap h'->(∃o,h'.get? e=some o/\o.cls= .type "StopIteration")->E (.ref e) {s with heap:=h'}):wpAny (model prog w) A (Builtin.SmallTypes.nextOf (.ref it)) Q E s:=by
 obtain⟨o,ho,hc,hd⟩:=id hit;obtain⟨ol,Hd,_,nl,hdl⟩:=hl;unfold Builtin.SmallTypes.nextOf;refine wpAny_bind (wpAny_callSpecial?_slot (name:="__next__") hit.typeIs F.slot_tuple_iterator_next (wpAny_call_entry F.slot_tuple_iterator_next hit.typeIs F.entry_tuple_iterator_next ?_ (F.args_tuple_iterator_next_1 _)));show wpAny _ _ (field (.ref it) 0 >>=_) _ _ s;refine wpAny_bind (wpAny_field ho hd (x:= .ref l) rfl ?_);show wpAny _ _ (if(Value.ref l==Value.none)=true then _ else _) _ _ s;rw [if_neg (show ¬((Value.ref l==Value.none)=true) from Bool.false_ne_true)]
 show wpAny _ _ (field (.ref it) 1 >>=_) _ _ s;refine wpAny_bind (wpAny_field ho hd (x:= .int i 0) rfl ?_);show wpAny _ _ (seqItems? (.ref l) >>=_) _ _ s;refine wpAny_bind (wpAny_seqItems Hd hdl ?_);simp only[Int.toNat_natCast,hx];refine wpAny_bind (wpAny_rule (wpAny_bind (wpAny_setField ho hd (by simp) ?_)))
 show wpAny _ _ (newExc (.type "StopIteration") [] >>=_) _ _ _;refine wpAny_bind ?_;simp only[newExc,newTuple];refine wpAny_bind (wpAny_newObj_type ?_ (by size_fits))
 refine wpAny_bind (m:=firstArgMember _ _) (wpAny_of_eq (a:=Value.none) (by first | rfl | (simp only[firstArgMember];rfl)) ?_);refine wpAny_newObj_type ?_ (by size_fits)
 simp only[raiseNew];refine wpAny_bind (wpAny_handled ?_)
 first | rw[show A.in1.handled=none from hh] | rw[hh]
 exact wpAny_bind (wpAny_pure (wpAny_throw (hE _ _ (((Heap.SameBut.update ..).extBut.push _).push _) ⟨_,Heap.get?_push_size _ rfl,rfl⟩)))
end
theorem C9{prog:Program}{w:World}{A:Around}(hh:A.handled=none)(it l:Addr)(Dl:l≠it)(items:Array Value) :
 Draws prog w A it [it,l] items.size (fun i v=>items[i]? =some v) (fun i h=>h.IsTupleIter it l i/\h.IsTuple l items) where
 live:=fun _ _ st=>let⟨o,ho,_⟩:=st.1;⟨o,ho⟩
 frame:=fun _ _ _ st hk=>⟨st.1.at fun o e=>hk it (by simp) o e,Heap.IsTuple.at st.2 fun o e=>hk l (by simp) o e⟩
 item:=fun i s Q E hi st hQ=>lW st.1 st.2 (x:=items[i]) (by simp [hi]) fun h' TF Sj=>hQ _ h' s.toks (by simp [hi]) ⟨TF,st.2.extBut Sj.extBut Dl⟩ Sj
 done:=fun s Q E st hE=>i7 hh st.1 st.2 (by simp) hE
theorem rq(l:Addr)(items:Array Value)(o:Obj)(n:Nat)(hc:o.cls= .type "tuple")(hd:o.data= .seq items n) :
 Meets (Builtin.«enumerate.__new__» ⟨[.type "enumerate", .ref l],[]⟩) (fun _ R s=>s.heap.get? l=some o/\
  R (.ok (.ret (.ref (s.heap.push {cls:= .type "tuple_iterator",data:= .fields #[.ref l, .int 0 0]}).objs.size)))
   {s with heap:=(s.heap.push {cls:= .type "tuple_iterator",data:= .fields #[.ref l, .int 0 0]}).push {cls:= .type "enumerate",data:= .fields #[.none, .bool false, .ref s.heap.objs.size,rawInt 0, .none, .none]}}):=
 .of_wp fun prog w A R s h=>by
   obtain⟨hp,g,d,tk,os⟩:=s;obtain⟨hl,h⟩:=h;have hsub:=sub_enumerate;have hL:Heap.IsTuple (Shared.heap ⟨hp,g,d,tk,os⟩) l items:=⟨_,hl,hc,n,hd⟩
   wp_walk using wpAny_loadPart' hl
   refine wpAny_stack_any fun st=>wpAny_pure ?_
   split
   .rename_i c _ _ _ _ _;cases(c==Value.type "enumerate") <;> (wp_walk using wpAny_loadPart' hl,wpAny_pyIter_tuple hL;exact⟨_,rfl,h⟩)
   .wp_walk using wpAny_loadPart' hl,wpAny_pyIter_tuple hL
    exact⟨_,rfl,h⟩
theorem z_{prog:Program}{w:World}{A:Around}{E:Aab}{s:Shared}{l:Addr}{items:Array Value}{Q:Aab}(hL:s.heap.IsTuple l items)
 (h:∀h':Heap,IsEnum h' (s.heap.objs.size+1) s.heap.objs.size 0 .none->h'.IsTupleIter s.heap.objs.size l 0->(∀b o,s.heap.get? b=some o->h'.get? b=some o)->Q (.ref (s.heap.objs.size+1)) {s with heap:=h'}) :
 wpAny (model prog w) A (call (.type "enumerate") [.ref l]) Q E s:=by
 obtain⟨o,hl,hc,n,hd⟩:=hL;refine callType_new F.called_enumerate (by decide) (F.typeCall_enumerate_1 _) (F.newCall_enumerate_1 _) (fun obj=>F.args_object_init_2 obj _) F.entry_enumerate_new (rq l items o n hc hd) ⟨hl,?_⟩
 have hz:(s.heap.push {cls:= .type "tuple_iterator",data:= .fields #[.ref l, .int 0 0]}).objs.size=s.heap.objs.size+1:=Heap.size_push ..;show _/\_;rw [hz];have he:IsEnum ((s.heap.push {cls:= .type "tuple_iterator",data:= .fields #[.ref l, .int 0 0]}).push {cls:= .type "enumerate",data:= .fields #[.none, .bool false, .ref s.heap.objs.size,rawInt 0, .none, .none]}) (s.heap.objs.size+1) s.heap.objs.size 0 .none:=by
  have:=Heap.get?_push_size (s.heap.push {cls:= .type "tuple_iterator",data:= .fields #[.ref l, .int 0 0]}) (o:={cls:= .type "enumerate",data:= .fields #[.none, .bool false, .ref s.heap.objs.size,rawInt 0, .none, .none]}) rfl;rw[hz] at this;exact this
 exact⟨⟨_,he,rfl⟩,h _ he ⟨_,Heap.get?_push_of_some _ (Heap.get?_push_size _ rfl),rfl,rfl⟩ fun b o x=>Heap.get?_push_of_some _ (Heap.get?_push_of_some _ x)⟩
end PySem
namespace L2
open PySem PySem.Spec PyProof.Rows
def Rq(K:W.Frag)(a:Addr):It:=
 ⟨fun i H=>∃xs x,p8 K H a xs/\xs[i]? =some x,fun i H v H'=>∃p x,H p=none/\v= .ref p/\(∀xs,p8 K H a xs->xs[i]? =some x)/\H'=upd H p (.tup [.int i,x]),fun i H=>∃xs,p8 K H a xs/\xs.length<=i⟩
theorem zj{K:W.Frag}{k:Nat}(a e it:Addr)(Nj:e≠it):Turn P w K (.Tuple elts k pos) (Rq K a) [e,it] e (fun i h=>(∃old,IsEnum h e it ((i:Nat):Int) old)/\h.IsTupleIter it a i) where
 mem:=by simp
 obj:=fun i h st b hb=>by
  obtain⟨⟨old,he⟩,o,ho,c,d⟩:=st;rcases List.mem_cons.mp hb with rfl | hb
  .exact⟨_,he,fun v z=>by cases z⟩
  .have e:b=it:=by simpa using hb
   subst e;exact⟨o,ho,fun v z=>by rw[d] at z;cases z⟩
 keep:=fun i h h' st k=>by
  obtain⟨⟨old,he⟩,hi⟩:=st;exact⟨⟨old,k e (by simp) _ he⟩,hi.at fun o x=>k it (by simp) o x⟩
 item:=by
  intro X hP hw hK hc i pins s σ H E I hf st hg;subst hP hw hK;obtain⟨xs,x,hq,hx⟩:=hg;obtain⟨its,rv,p,hz⟩:=I.tuple hq;have p':s.heap.IsTuple a its.toArray:=p;obtain⟨u,hu,ru⟩:=rv.get hx;obtain⟨⟨old,he⟩,hit⟩:=st;obtain⟨f0,f1,f2,f3,f4,f5⟩:=hf e (by simp)
  obtain⟨g0,g1,g2,g3,g4,g5⟩:=hf it (by simp)
  have ha_it:a≠it:=fun z=>by
   obtain⟨o1,h1,c1,_⟩:=p';obtain⟨o2,h2,c2,_⟩:=hit;rw[z,h2] at h1;cases h1;rw[c2] at c1;exact absurd c1 (by decide)
  have ha_e:e ∉ [it,a]:=fun z=>by
   rcases List.mem_cons.mp z with q | q
   .exact Nj q
   .have q:e=a:=by simpa using q
    obtain⟨o1,h1,c1,_⟩:=p';rw[<-q,he] at h1;cases h1;exact absurd (show Value.type "enumerate"=Value.type "tuple" from c1) (by decide)
  refine wpAny_pyNext_enum_itemD (C9 (A:=X.A.in1) (I.ok.hd hc) it a ha_it its.toArray) he ⟨hit,p'⟩ (by have:=(List.getElem?_eq_some_iff.mp hu).1;simpa using this) Nj ha_e fun u2 iF tk Ye Hg PL GS nV vE=>⟨_,rfl,?_⟩
  obtain rfl:u2=u:=by
   have h1:its[i]? =some u2:=by simpa using Ye
   rw[hu] at h1;cases h1;rfl
  obtain⟨Av,_⟩:=PL;refine wpAny_letOwnedTupleGo_enum Hg fun f_ GJ cM=>?_
  replace cM:Heap.SameBut e iF f_:=cM
  have hel:e < s.heap.objs.size:=Heap.lt_size he;have yS:f_.get? s.heap.objs.size=some {cls:= .type "tuple",data:= .seq #[.int i tk,u2]}:=(cM.2 _ (Nat.ne_of_gt hel)).trans GS;have kk:∀b o,b≠e->b≠it->s.heap.get? b=some o->f_.get? b=some o:=fun b o h1 h2 q=>(cM.2 b h1).trans (vE b o h1 h2 q)
  have hn:H s.heap.objs.size=none:=I.fresh;have sm:aR H (upd H s.heap.objs.size (.tup [.int i,x])):=aN hn;have nit:∀b o,H b=some o->b≠e/\b≠it:=fun b o q=>⟨fun z=>(by rw[z,f0] at q;cases q),fun z=>(by rw[z,g0] at q;cases q)⟩
  have hok:nu X.prog X.w (upd H s.heap.objs.size (.tup [.int i,x])) f_:=fun b ob q=>by
   by_cases hb:b=s.heap.objs.size
   .subst hb;rw[aT] at q;cases q;exact⟨by show 2<=sizeLine;decide,[.int i tk,u2], .cons ⟨_,rfl⟩ (.cons ru .nil),⟨_,yS,rfl,_,rfl⟩⟩
   .rw [bg hb] at q;refine(I.hok b ob q).vJ (fun c v hc z=>?_) (fun c z=>sm c _ z) fun c ys z=>sm c _ z
    rcases hc with rfl | hc
    .exact kk c v (nit c _ q).1 (nit c _ q).2 z
    .exact kk c v (nit c _ hc).1 (nit c _ hc).2 z
  have nch:∀b,b ∉ [e,it]->b≠e/\b≠it:=fun b hb=>⟨fun z=>hb (by simp [z]),fun z=>hb (by simp [z])⟩
  have I2:Inv X pins σ (upd H s.heap.objs.size (.tup [.int i,x])) {s with heap:=f_,toks:=tk+1}:=by
   refine I.step (g':=s.gens) (d':=s.drawn) (ch:=[e,it]) (fun b hb=>?_) (fun b o _ _ hb q _=>kk b o (nch b hb).1 (nch b hb).2 q) (fun b o _ _ hb q _=>⟨o.slots,kk b o (nch b hb).1 (nch b hb).2 q⟩)
    (fun b o hb q n=>by rw[bg (Nat.ne_of_lt (Heap.lt_size q))];exact n) (fun b o hb q=>⟨o,kk b o (nch b hb).1 (nch b hb).2 q⟩) (fun b ys z=>sm b _ z) (fun b o u z=>sm b _ z) (fun b ps z=>⟨#[],by rw[sm b _ z];simp⟩) (fun m hm=>?_) hok I.bare
   .rcases List.mem_cons.mp hb with rfl | hb
    .exact⟨f3,f1,f4,f5⟩
    .have z:b=it:=by simpa using hb
     subst z;exact⟨g3,g1,g4,g5⟩
   .obtain⟨o,es,ep,ho,r⟩:=hm;exact⟨o,es,ep,kk _ o (Ne.symm f1) (Ne.symm g1) ho,r⟩
  refine⟨.ref s.heap.objs.size,_,I2,rfl,⟨s.heap.objs.size,x,hn,rfl,fun ys hy=>(by rw[I.qd hy hq];exact hx),rfl⟩,⟨⟨_,by simpa using GJ⟩,Av.at fun o q=>(cM.2 it (Ne.symm Nj)).trans q⟩,fun b hb=>?_⟩
  rcases List.mem_cons.mp hb with rfl | hb
  .rw [bg (Nat.ne_of_lt hel)];exact f0
  .have z:b=it:=by simpa using hb
   subst z;obtain⟨o,ho,_⟩:=hit;rw[bg (Nat.ne_of_lt (Heap.lt_size ho))];exact g0
 done:=by
  intro X hP hw hK hc i pins s σ H E I hf st hg;subst hP hw hK;obtain⟨xs,hq,hx⟩:=hg;obtain⟨its,rv,p,hz⟩:=I.tuple hq;have p':s.heap.IsTuple a its.toArray:=p;obtain⟨⟨old,he⟩,hit⟩:=st;obtain⟨g0,g1,g2,g3,g4,g5⟩:=hf it (by simp)
  have hl:=rv.length;have hT:s.TypeIs (.ref e) "enumerate":=⟨_,he,rfl⟩;unfold pyNext;refine wpAny_bind (wpAny_attempt (wpAny_callSpecial?_slot (name:="__next__") hT F.slot_enumerate_next (wpAny_call_entry F.slot_enumerate_next hT F.entry_enumerate_next ?_ (F.args_enumerate_next_1 _))));show wpAny _ _ (field (.ref e) 2 >>=_) _ _ _;refine wpAny_bind (wpAny_field he rfl (x:= .ref it) rfl ?_);refine wpAny_bind (i7 (A:=X.A.in1) (I.ok.hd hc) hit p' (by simp;omega) fun h' x SY X6=>?_)
  obtain⟨o,ho,hcl⟩:=X6;refine wpAny_bind (wpAny_isInstance (T:="StopIteration") (b:=true) ⟨o,ho,hcl⟩ isSubtype_stop ?_);exact wpAny_pure ⟨rfl,I.turned (t':=s.toks) (fun b o hb q=>SY b o hb q) g0 g1 g3 g4 g5⟩
 self:=fun A i s Q E st h=>let⟨⟨_,he⟩,_⟩:=st;wpAny_pyIter_enum he h
section
variable {X:Cx}
def wV(f:FD):au->R (List D):=fun δ=>(f δ).bind fun d=>match d with | .tup ds=> .ok (dk ds) | _=> .no
theorem zL{elts:List Expr}{k:Nat}{ua:Pos}{p pos:Pos}(h:QD X a f)(hg:Gl X "enumerate")(hm:X.mg "enumerate"=none)(hs:starEach [a] X.env=[(false,eval a X.env)]:=by rfl):BH X (.Tuple elts k ua) (.Call (.Name "enumerate" p) [a] [] pos) (wV f):=by
 refine⟨?_⟩;intro pins s σ H RR I ⟨Z,B,δ,ds,E,hf,q⟩;obtain⟨d,h1,h2⟩:=R.ai hf;have hA:=fj h.1 ja hs pos pins s σ H (fun vs H1=>aR H H1/\∃v,vs=[v]/\Rep X.K B H1 d v) I ⟨Z,B,δ,d,E,h1,fun v H1 s1 r1=>⟨s1,v,rfl,r1⟩⟩
 refine Call_ (iq I hg hm boot_enumerate (PyProof.Rows.callWith_type1 (c6 hA fun us s1 ⟨vs,H1,I1,r1,ss,v,ev,rr⟩=>?_) hs rfl))
 subst ev;obtain⟨u,rfl,ru⟩:=vals1 r1;cases d with
 | tup es=>
   cases h2;obtain⟨b,xs,rfl,l,rs⟩:=Rep.tup.mp rr;cases ru;obtain⟨its,rv,pt,hz⟩:=I1.tuple l.sq;refine z_ (items:=its.toArray) pt fun h' he hit kk=>wpAny_pyIter_enum he ?_
   have I2:Inv X pins σ H1 {s1 with heap:=h'}:=I1.kept (t':=s1.toks) kk
   refine⟨s1.heap.objs.size+1,[s1.heap.objs.size+1,s1.heap.objs.size],_,_,H1,rfl,I2,zj b (s1.heap.objs.size+1) s1.heap.objs.size (Nat.succ_ne_self _),⟨⟨_,he⟩,hit⟩,fun c hc=>?_,q _ H1 ss fun B' H' pr=>?_⟩
   .have hle:s1.heap.objs.size<=c:=by
     rcases List.mem_cons.mp hc with z | hc
     .rw [z];exact Nat.le_succ _
     .have z:c=s1.heap.objs.size:=by simpa using hc
      rw[z];exact Nat.le_refl _
    exact I1.uD hle (I1.hok.fresh hle)
   .have l':uZ X.K B' H' b xs:=l.elim (fun z=> .inl ⟨(pr.rd z.2 z.1).2,(pr.rd z.2 z.1).1⟩) .inr
    have rs':=rs.bj pr;refine⟨fun i d hd=>?_,⟨xs,l'.sq,by rw[<-rs.length];unfold dk;simp⟩⟩
    unfold dk at hd;rw[List.getElem?_map,List.getElem?_zipIdx] at hd;cases e:es[i]? with
    | none=>rw [e] at hd;cases hd
    | some d0=>
      rw[e] at hd;have hd:D.tup [.int ((0+i:Nat):Int),d0]=d:=Option.some.inj hd;rw[Nat.zero_add] at hd;obtain⟨x,hx,rx⟩:=rs'.get e;refine⟨⟨xs,x,l'.sq,hx⟩,fun v nB y JL=>?_⟩
      obtain⟨p,y,hp,rfl,hy,rfl⟩:=y;refine⟨aN hp,?_⟩;subst hd;have Ds:=hy xs l'.sq;rw[hx] at Ds;cases Ds;refine Rep.tup.mpr ⟨p,_,rfl, .inl ⟨fun ha=>?_, .inl aT⟩,aF.cons (Rep.int.mpr rfl) (aF.cons (rx.same (aN hp)) aF.nil)⟩
      obtain⟨o,ho⟩:=JL p ha;rw[hp] at ho;cases ho
 | _=>cases h2
end
end L2
end
section
namespace L2
open PySem PySem.Spec PyProof.Rows
section
variable {X:Cx}
theorem ES:l9 X (binaryOp .FloorDiv) (rI (fun _ j=>0 < j/\j.natAbs.log2 < 9000) fun i j=> .int (i / j)):=N7 fun i j _ _ _ _ _ hc q=>by
 have h1:(0:Int) < j:=hc.1;exact floordiv_int (by omega) (by rw[Int.fdiv_eq_ediv_of_nonneg i (by omega)];exact q) (.inl (PyProof.noPylong_of_log2 hc.2))
abbrev yF:D->D->R D:=xk (fun _ j=>decide (0 < j/\j.natAbs.log2 < 9000)) fun i j=>i / j
theorem Fh:jE X (binaryOp .FloorDiv) yF:=BF ES fun i j h=>(of_decide_eq_true h:0 < j/\j.natAbs.log2 < 9000)
theorem tw:∀{ns:List Int} {us:List Value},Vals (ns.map V.int) us->IntsAre us ns
 | [],_, .nil=> .nil
 | n ::ns,_, .cons r t=>by obtain⟨tk,rfl⟩:=r;exact .cons _ _ (tw t)
theorem DS:∀{ns:List Int} {us:List Value},IntsAre us ns->Vals (ns.map V.int) us:=fun h=>by
 induction h with
 | nil=>exact .nil
 | cons _ _ _ ih=>exact .cons ⟨_,rfl⟩ ih
theorem xy{K:W.Frag}{B:List Addr}{ds:List D}{xs:List V}(r:aF K B H ds xs):∀n:Nat,aF K B H (List.replicate n ds).flatten (List.replicate n xs).flatten
 | 0=>aF.nil
 | n+1=>by rw[List.replicate_succ,List.replicate_succ,List.flatten_cons,List.flatten_cons];exact r.append (xy r n)
def Jl(f:au->R (List D))(g:FD):au->R (List D):=fun δ=>(f δ).bind fun ds=>(g δ).bind fun d=>match d with
 | .int k=>R.bh (decide (0<=k/\k < 1000000/\ds.length*k.toNat<=sizeLine)) (.ok (List.replicate k.toNat ds).flatten)
 | _=> .no
theorem HL{f:au->R (List D)}(ha:QN X a f)(hb:QD X b g):QN X (.BinOp a .Mult b pos) (Jl f g):=by
 refine⟨(Br Lr ha.1 hb.1).imp fun σ H Q ⟨Z,B,δ,es,E,hf,q⟩=>?_⟩
 obtain⟨ds,h1,h2⟩:=R.ai hf;obtain⟨d,h3,h4⟩:=R.ai h2;split at h4
 .rename_i k;obtain⟨h5,h6⟩:=R.bf h4;cases h6;obtain⟨k0,k1,k2⟩:=of_decide_eq_true h5;refine⟨Z,B,δ,ds,E,h1,fun a xs H1 s1 n1 e1 r1=>⟨Z,B,δ, .int k,E.same s1,h3,fun v H2 s2 r2=>⟨a,k,xs,rfl,Rep.int.mp r2,s2 a _ e1,by omega,by omega,by rw[<-r1.length];exact k2,fun p hp=>?_⟩⟩⟩
  refine q p _ _ (s1.trans (s2.trans (aN hp))) ((s1.trans s2).free hp) aT ?_;refine(xy r1 k.toNat).bj fun b o e nb=>⟨(s2.trans (aN hp)) b o e,fun hm=>?_⟩
  rcases List.mem_cons.mp hm with z | z
  .rw [z] at e;rw [s2 p _ e] at hp;cases hp
  .exact nb (List.mem_cons_of_mem _ z)
 .cases h4
def nF(ns:List Int):List Int:=ns.mergeSort fun a b=>decide (a<=b)
theorem yn{a ns:List Int}(p:a.Perm ns)(o:a.Pairwise (·<=·)):a=nF ns:=by
 refine PySem.W.ksm_same (p.trans (List.mergeSort_perm ns _).symm) o ?_;have:=List.pairwise_mergeSort (le:=fun a b:Int=>decide (a<=b)) (fun a b c h1 h2=>by simp at*;omega) (fun a b=>by simp;omega) ns
 exact this.imp fun h=>by simpa using h
def P7:List D->R D
 | [.lst ds]=>(match ints? ds with | some ns=>R.bh (decide (ns.length < 64)) (.ok (.lst ((nF ns).map .int))) | none=> .no)
 | _=> .no
theorem getD_in{l:List Int}{i:Nat}(h:i < l.length):l.getD i 0∈l:=by
 have e:l.getD i 0=l[i]:=by simp [h]
 rw[e];exact List.getElem_mem h
theorem fold_min:∀(ns:List Int) (n:Int),ns.foldl min n∈n ::ns/\∀a∈n ::ns,ns.foldl min n<=a
 | [],n=>⟨by simp,fun a ha=>by simp at ha;subst ha;exact Int.le_refl _⟩
 | x ::ns,n=>by
   obtain⟨h1,h2⟩:=fold_min ns (min n x);rw[List.foldl_cons];refine⟨?_,fun a ha=>?_⟩
   .rcases List.mem_cons.mp h1 with z | z
    .rw [z];by_cases hc:n<=x
     .rw [Int.min_eq_left hc];simp
     .rw [Int.min_eq_right (by omega)];simp
    .exact List.mem_cons_of_mem _ (List.mem_cons_of_mem _ z)
   .have hm:=h2 _ List.mem_cons_self;rcases List.mem_cons.mp ha with z | z
    .subst z;omega
    .rcases List.mem_cons.mp z with z | z
     .subst z;omega
     .exact h2 a (List.mem_cons_of_mem _ z)
def x9:List D->R D
 | [.lst ds]=>(match ints? ds with | some (n ::ns)=> .ok (.int (ns.foldl min n)) | _=> .no)
 | ds=>L7 ds
def U2:List D->R D
 | [.lst ds]=>(match ints? ds with | some (n ::ns)=> .ok (.int (ns.foldl max n)) | _=> .no)
 | ds=>RV ds
theorem Mv(hc:X.calm=true):c7 X (.builtin "min") x9:=by
 intro pins s σ H B ds d xs us I hb rx rs hg;unfold x9 at hg;split at hg
 .split at hg
  .rename_i es n ns e;cases hg;obtain⟨x,rfl,r⟩:=rs.one;obtain⟨a,ys,rfl,l,r⟩:=Rep.lst.mp r;obtain⟨u,rfl,ru⟩:=vals1 rx;cases ru;obtain⟨its,k,rv,e1,hz⟩:=I.OO l;rw[gf r e] at rv;obtain⟨ps,rfl,hps⟩:=nD rv;have hl:s.heap.IsList a (intItems ps.toArray):=⟨_,e1,rfl,k,by simp [intItems]⟩
   have hlp:ps.length=ns.length+1:=by have:=congrArg List.length hps;simpa using this
   refine min_intList (I.ok.hd hc) hl (by simp;omega) fun v h' tk hv hk=>?_
   obtain⟨t,rfl⟩:=intItems_at hv;obtain⟨b1,b2⟩:=argBest_lt (numAt ps.toArray) (ps.toArray.size - 1);refine⟨.int _,H,I.kept hk,⟨t,rfl⟩,aR.refl H,Rep.int.mpr ?_⟩;obtain⟨m1,m2⟩:=fold_min ns n;have hge:∀j,j < ps.length->numAt ps.toArray j=(n ::ns).getD j 0:=fun j hj=>by rw[numAt_eq,<-hps]
   have Sq:numAt ps.toArray (argBest (fun i j=>decide (numAt ps.toArray i < numAt ps.toArray j)) (ps.toArray.size - 1))∈n ::ns:=by
    rw[hge _ (by simp at b1 ⊢;omega)];exact getD_in (by simp at b1 ⊢;omega)
   have hle:=m2 _ Sq;obtain⟨j,hj,ej⟩:=List.getElem_of_mem m1;have YS:j < ns.length+1:=by simpa using hj
   have h3:=b2 j (by simp;omega)
   rw[hge j (by omega)] at h3
   have h4:(n ::ns).getD j 0=ns.foldl min n:=by rw[<-ej,List.getD_eq_getElem?_getD,List.getElem?_eq_getElem hj];rfl
   rw[h4] at h3;congr 1;omega
  .cases hg
 .exact Nq hc pins s σ H B _ d xs us I hb rx rs hg
end
end L2
namespace L3
open PySem PySem.Spec PyProof.Rows L2
def z9(S:aI):V3->Option (List D)
 | .d (.lst ds)=>some ds
 | .loc k=>cU S k
 | _=>none
theorem F7{K:W.Frag}{cl:Aag}{ρ:P3}{S:aI}{v:V3}{x:V}{ds:List D}(w:SW K cl ρ H S)(h:z9 S v=some ds)(r:bc K ρ H v x):∃a xs,x= .ref a/\uh K [] H a xs/\aF K ρ.b H ds xs:=by
 unfold z9 at h;split at h
 .cases h;unfold bc Rep at r;obtain⟨a,xs,e,l,rs⟩:=r;exact⟨a,xs,e,l.bj (fun b o e _=>⟨e,by simp⟩),rs⟩
 .unfold bc at r;obtain⟨a,a1,rfl⟩:=r;obtain⟨xs,e,rs⟩:=w.ob _ a _ a1 (fu h);exact⟨a,xs,rfl, .inl ⟨by simp, .inl e⟩,rs⟩
 .cases h
section
variable {X:Cx} {cl:Aag}
def Hs(fa fb:FX):FX:=fun δ S=>(fa δ S).bind fun a S1=>(fb δ S1).bind fun b S2=>match z9 S2 a,z9 S2 b with
 | some ds,some es=>R3.bh (decide (ds.length+es.length<=sizeLine)) (.ok (.loc S2.length) (S2++[.lst (ds++es)]))
 | _,_=> .no
theorem D1(ha:PX X cl a fa)(hb:PX X cl b fb):PX X cl (.BinOp a .Add b pos) (Hs fa fb):=⟨(Br Bt ha.1 hb.1).imp fun σ H Q ⟨ρ,S,δ,v,S',E,hf,q⟩=>by
 obtain⟨a,S1,h1,h2⟩:=R3.ai hf;obtain⟨b,S2,h3,h4⟩:=R3.ai h2;split at h4
 .rename_i ds es e1 g8;obtain⟨hl,h5⟩:=R3.bf h4;cases h5;refine⟨ρ,S,δ,a,S1,E,h1,fun u1 bU H1 p1 w1 r1=>⟨bU,S1,δ,b,S2,E.to p1 w1,h3,fun u2 oT H2 p2 w2 r2=>?_⟩⟩
  obtain⟨la,xs,rfl,l1,PM⟩:=F7 w2 e1 (r1.pre p2);obtain⟨lb,ys,rfl,l2,PQ⟩:=F7 w2 g8 r2;refine⟨[],la,lb,xs,ys,rfl,rfl,l1,l2,by rw[<-PM.length,<-PQ.length];exact of_decide_eq_true hl,fun p hp=>?_⟩
  obtain⟨w3,p3⟩:=w2.new (a:=p) (o:= .lst (ds++es)) (aN (o:= .lst (xs++ys)) hp) hp ⟨xs++ys,aT,(PM.append PQ).bj (fun b o e nb=>⟨by rw[bg (bW e hp)];exact e,fun hb=>by
   rcases P3.mem_push hb with z | z
   .exact nb z
   .exact bW e hp z⟩)⟩
  exact q _ _ _ (p1.trans (p2.trans p3)) w3 (by unfold bc;exact⟨p,by show(oT.r++[p])[_]? =_;rw [<-w2.len,List.getElem?_append_right (Nat.le_refl _),Nat.sub_self];rfl,rfl⟩)
 .cases h4⟩
theorem J_{fa fb:FX}{δ:DE}{S:aI}{Q:V3->aI->Prop}(h:W3 (fa δ S) fun a S1=>W3 (fb δ S1) fun b S2=>∃ds es,z9 S2 a=some ds/\z9 S2 b=some es/\ds.length+es.length<=sizeLine/\Q (.loc S2.length) (S2++[.lst (ds++es)])):W3 (Hs fa fb δ S) Q:=
 W3.bind (h.mono fun _ _ h=>W3.bind (h.mono fun _ _ ⟨ds,es,e1,g8,hl,q⟩=>by
  simp only[e1,g8];exact W3.wh (decide_eq_true hl) (W3.ok q)))
def Ww(i:Nat):FZ:=fun δ S=>match jh δ i with
 | none=> .no
 | some k=>(match cU S k with | some _=> .ok (.nx δ) (S.set k (.lst [])) | none=> .no)
end
end L3
end
section
namespace L3
open PySem PySem.Spec PyProof.Rows L2
def me(S:aI)(c k:Nat):Option (List (Str × V3)):=match S[k]? with | some (.ins c' fs)=>(if c'=c then some fs else none) | _=>none
theorem lG{S:aI}{c k:Nat}{fs:List (Str × V3)}(h:me S c k=some fs):S[k]? =some (.ins c fs):=by
 unfold me at h;split at h
 .rename_i c' Ni e;split at h
  .rename_i hc;cases h;rw [e,hc]
  .cases h
 .cases h
theorem Aw{K:W.Frag}{v:V3}:∀{fs:List (Str × V3)} {ys:List (Str × V)},ys.map (·.1)=fs.map (·.1)->aD K ρ H (fs.map (·.2)) (ys.map (·.2))->fs.lookup f=some v->∃x,ys.lookup f=some x/\bc K ρ H v x
 | [],ys,_,_,h=>by simp at h
 | (g,w) ::fs,[],e,_,_=>by simp at e
 | (g,w) ::fs,(g',y) ::ys,e,r,h=>by
   obtain⟨e1,g8⟩:=List.cons.inj e;have e1:g'=g:=e1;subst e1;obtain⟨x,xs,ex,r1,r2⟩:=r.cb;cases ex;rw[List.lookup_cons] at h ⊢;cases hq:f==g' with
   | true=>rw [hq] at h;cases h;exact⟨y,rfl,r1⟩
   | false=>rw [hq] at h;exact Aw g8 r2 h
theorem xR:∀{fs:List (Str × V3)} {ys:List (Str × V)},ys.map (·.1)=fs.map (·.1)->fs.lookup f=none->ys.lookup f=none
 | [],[],_,_=>rfl
 | [],_ ::_,e,_=>by simp at e
 | _ ::_,[],e,_=>by simp at e
 | (g,w) ::fs,(g',y) ::ys,e,h=>by
   obtain⟨e1,g8⟩:=List.cons.inj e;have e1:g'=g:=e1;subst e1;rw[List.lookup_cons] at h ⊢;cases hq:f==g' with
   | true=>rw [hq] at h;cases h
   | false=>rw [hq] at h;exact xR g8 h
def xC(f:Str)(v:V3):List (Str × V3)->List (Str × V3)
 | []=>[(f,v)]
 | (g,x) ::r=>if g=f then(g,v) ::r else(g,x) ::xC f v r
theorem Bx{K:W.Frag}{f:Str}{v:V3}{u:V}(rv:bc K ρ H v u):∀{fs:List (Str × V3)} {ys:List (Str × V)},ys.map (·.1)=fs.map (·.1)->aD K ρ H (fs.map (·.2)) (ys.map (·.2))->
 (jS f u ys).map (·.1)=(xC f v fs).map (·.1)/\aD K ρ H ((xC f v fs).map (·.2)) ((jS f u ys).map (·.2))
 | [],[],_,_=>⟨rfl,aD.cons rv aD.nil⟩
 | [],_ ::_,e,_=>by simp at e
 | _ ::_,[],e,_=>by simp at e
 | (g,w) ::fs,(g',y) ::ys,e,r=>by
   obtain⟨e1,g8⟩:=List.cons.inj e;have e1:g'=g:=e1;subst e1;obtain⟨x,xs,ex,r1,r2⟩:=r.cb;cases ex;unfold xC jS;by_cases hg:g'=f
   .rw [if_pos hg,if_pos hg];exact⟨by rw[List.map_cons,List.map_cons,g8],aD.cons rv r2⟩
   .rw [if_neg hg,if_neg hg];obtain⟨h1,h2⟩:=Bx rv g8 r2;exact⟨by rw[List.map_cons,List.map_cons,h1],aD.cons r1 h2⟩
section
variable {X:Cx} {cl:Aag}
def p9(c:Nat)(f:Str)(g:FX):FX:=fun δ S=>(g δ S).bind fun v S1=>match v with
 | .loc k=>(match me S1 c k with | some fs=>(match fs.lookup f with | some v=> .ok v S1 | none=> .no) | none=> .no)
 | _=> .no
theorem jf{c:Nat}{pos:Pos}(hC:wc X.K (cl c))(hn:cP X.K (cl c) f)(he:PX X cl e g)(hb:attributeBase e f X.env (eval e X.env)=eval e X.env:=by rfl):PX X cl (.Attribute e f pos) (p9 c f g):=⟨(K_ he.1 hb).imp fun σ H Q ⟨ρ,S,δ,v,S',E,hf,q⟩=>by
 obtain⟨o,S1,h1,h2⟩:=R3.ai hf;split at h2
 .rename_i k;split at h2
  .rename_i fs e1;split at h2
   .rename_i w g8;cases h2;refine⟨ρ,S,δ, .loc k,_,E,h1,fun u bU H1 p1 w1 r1=>?_⟩
    unfold bc at r1;obtain⟨a,a1,rfl⟩:=r1;obtain⟨dx,ys,ey,ek,rs⟩:=w1.ob k a _ a1 (lG e1);obtain⟨x,hx,rx⟩:=Aw ek rs g8;exact⟨a,cl c,dx,ys,x,rfl,ey,hC,hn,hx,q x bU H1 p1 w1 rx⟩
   .cases h2
  .cases h2
 .cases h2⟩
theorem w_fld{c k:Nat}{g:FX}{δ:DE}{S:aI}{Q:V3->aI->Prop}(h:W3 (g δ S) fun v S1=>∃fs w,v= .loc k/\S1[k]? =some (.ins c fs)/\fs.lookup f=some w/\Q w S1):W3 (p9 c f g δ S) Q:=
 W3.bind (h.mono fun v S1 ⟨fs,w,e1,g8,e3,q⟩=>by
  subst e1;have e4:me S1 c k=some fs:=by unfold me;simp only[g8,if_true]
  simp only[e4,e3];exact W3.ok q)
def j7(P:Program)(w:World)(K:W.Frag)(mg:Aaf)(base:Heap)(cl:Aag)(k c:Nat)(m:Str)(n:Nat)(g:List V3->aI->R3 V3):Prop:=
 ∃(f:Addr) (fd:FuncData) (ps:List Str),wc K (cl c)/\Meth K (cl c) m f/\ie P w K mg base sx k f fd ps (Ei K cl (n+1) g)/\Binds K fd ps []
def tP(c:Nat)(m:Str)(g:List V3->aI->R3 V3)(fo:FX)(fs:FA):FX:=fun δ S=>(fo δ S).bind fun o S1=>match o with
 | .loc k=>(match me S1 c k with | some ys=>(match ys.lookup m with | none=>(fs δ S1).bind fun vs S2=>g (.loc k ::vs) S2 | some _=> .no) | none=> .no)
 | _=> .no
theorem pT{g:List V3->aI->R3 V3}{k j n c:Nat}{m:Str}{o e:Expr}{es:List Expr}{fo:FX}{fs:FA}{apos pos:Pos}{pl:Sem Bool}(M:j7 X.prog X.w X.K X.mg X.base cl k c m n g)(hr:dW j X.A)(hkj:k<=j)(ho:PX X cl o fo)(ha:HU X cl (e ::es) fs)(hn:∀δ S ds S',fs δ S= .ok ds S'->ds.length=n)
 (Ap:starEach (e ::es) X.env=(false,eval e X.env) ::starEach es X.env:=by rfl) (lM:(backTo pos (starEach es X.env)).any (·.1)=false:=by rfl)
 (ht:eval (.Call (.Attribute o m apos) (e ::es) [] pos) X.env=(do
   let ov <-eval o X.env
   standAt apos.atName
   let(f,first) <-holding [ov] (getMethod ov m pl)
   callWith pos f first (backTo pos (starEach (e ::es) X.env)) (backToKw pos (keywordEach [] X.env))):=by rfl) :
 PX X cl (.Call (.Attribute o m apos) (e ::es) [] pos) (tP c m g fo fs):=by
 obtain⟨f,fd,ps,hC,hm,F,hb⟩:=M;refine⟨(HV ho.1 hC hm F (hr.mono hkj) hb .nil xQ ha.1 Ap lM ht).imp fun σ H Q ⟨ρ,S,δ,v,S',E,hf,q⟩=>?_⟩
 obtain⟨ov,S1,h1,h2⟩:=R3.ai hf;split at h2
 .rename_i kk;split at h2
  .rename_i ys e1;split at h2
   .rename_i g8;obtain⟨vs,S2,h3,h4⟩:=R3.ai h2;refine⟨ρ,S,δ, .loc kk,S1,E,h1,fun u bU H1 p1 w1 r1=>?_⟩
    have qX:=r1;unfold bc at r1;obtain⟨a,a1,rfl⟩:=r1;obtain⟨dx,zs,ey,ek,rs⟩:=w1.ob kk a _ a1 (lG e1);refine⟨a,dx,zs,rfl,ey,xR ek g8,bU,S1,δ,vs,S2,E.to p1 w1,h3,fun us oT H2 p2 w2 r2=>?_⟩
    show Ei X.K cl (n+1) g (V.ref a ::(us++[])) H2 Q E0;rw[List.append_nil];exact⟨by rw[List.length_cons,<-r2.length,hn δ S1 vs S2 h3],oT,S2, .loc kk ::vs,v,S',w2,aD.cons (qX.pre p2) r2,h4,fun z Dp H3 p3 w3 r3=>q z Dp H3 (p1.trans (p2.trans p3)) w3 r3⟩
   .cases h2
  .cases h2
 .cases h2
def xG(P:Program)(w:World)(K:W.Frag)(mg:Aaf)(base:Heap)(cl:Aag)(k c:Nat)(x:Str)(n:Nat)(g:List V3->aI->R3 V3):Prop:=
 ∃(f:Addr) (fd:FuncData) (ps:List Str),Mk K (cl c) f/\ie P w K mg base sx k f fd ps (Ei K cl (n+1) g)/\mg x=some (.ref (cl c))/\Binds K fd ps []
def Ay(c:Nat)(g:List V3->aI->R3 V3)(fs:FA):FX:=fun δ S=>(fs δ S).bind fun vs S1=>(g (.loc S1.length ::vs) (S1++[.ins c []])).bind fun v S2=>match v with
 | .d .cR=> .ok (.loc S1.length) S2
 | _=> .no
theorem AU{g:List V3->aI->R3 V3}{k j n c:Nat}{x:Str}{p pos:Pos}{e:Expr}{es:List Expr}{fs:FA}(M:xG X.prog X.w X.K X.mg X.base cl k c x n g)(hr:dW j X.A)(hkj:k+1<=j)(hg:Gl X x)(ha:HU X cl (e ::es) fs)(hn:∀δ S ds S',fs δ S= .ok ds S'->ds.length=n)
 (qw:(x==("__debug__":Str))=false:=by decide) (he:starEach (e ::es) X.env=(false,eval e X.env) ::starEach es X.env:=by rfl) (lM:(backTo pos (starEach es X.env)).any (·.1)=false:=by rfl) :
 PX X cl (.Call (.Name x p) (e ::es) [] pos) (Ay c g fs):=by
 obtain⟨f,fd,ps,M,F,hm,hb⟩:=M;refine⟨(Jo M F (hr.mono hkj) hg hm hb .nil xQ ha.1 qw he lM).imp fun σ H Q ⟨ρ,S,δ,v,S',E,hf,q⟩=>?_⟩
 obtain⟨vs,S1,h1,h2⟩:=R3.ai hf;obtain⟨v0,S2,h3,h4⟩:=R3.ai h2;split at h4
 .cases h4;refine⟨ρ,S,δ,vs,S1,E,h1,fun us bU H1 p1 w1 r1 xa dx hx XX Dl=>?_⟩
  have hx1:upd H1 dx (.own xa) xa=none:=by rw[bg (fun z=>Dl z.symm)];exact hx
  have sm:aR H1 (upd (upd H1 dx (.own xa)) xa (.ins (cl c) dx [])):=(aN XX).trans (aN hx1);obtain⟨w2,p2⟩:=w1.new (a:=xa) (o:= .ins c []) sm hx ⟨dx,[],aT,rfl,aD.nil⟩;show Ei X.K cl (n+1) g (V.ref xa ::(us++[])) _ _ E0;rw[List.append_nil];have rl:bc X.K (bU.push xa) (upd (upd H1 dx (.own xa)) xa (.ins (cl c) dx [])) (.loc S1.length) (.ref xa):=by
   unfold bc;exact⟨xa,by show(bU.r++[xa])[_]? =_;rw [<-w1.len,List.getElem?_append_right (Nat.le_refl _),Nat.sub_self];rfl,rfl⟩
  exact⟨by rw[List.length_cons,<-r1.length,hn δ S vs S1 h1],_,_, .loc S1.length ::vs, .d .cR,_,w2,aD.cons rl (r1.pre p2),h3,fun z Dp H3 p3 w3 r3=>⟨by unfold bc Rep at r3;exact r3,q _ Dp H3 (p1.trans (p2.trans p3)) w3 (rl.pre p3)⟩⟩
 .cases h4
def wb(c:Nat)(f:Str)(fo fe:FX):FZ:=fun δ S=>(fe δ S).bind fun v S1=>(fo δ S1).bind fun o S2=>match o with
 | .loc k=>(match me S2 c k with | some fs=>R3.bh (decide (fs.length < 1000)) (.ok (.nx δ) (S2.set k (.ins c (xC f v fs)))) | none=> .no)
 | _=> .no
theorem ot{c:Nat}{pos pos':Pos}(hC:wc X.K (cl c))(hn:cP X.K (cl c) f)(ho:PX X cl o fo)(he:PX X cl value fe)(hs:swapsWith value (some (.Attribute o f pos')) pos.line X.env=pure false:=by rfl) :
 PZ X cl (.Assign [.Attribute o f pos'] value pos) (wb c f fo fe):=⟨(K2 ho.1 he.1 hs).imp fun D σ H ⟨ρ,S,δ,ou,S',E,hf,q⟩=>by
 obtain⟨v,S1,h1,h2⟩:=R3.ai hf;obtain⟨vo,S2,h3,h4⟩:=R3.ai h2;split at h4
 .rename_i k;split at h4
  .rename_i fs e1;obtain⟨hl,h5⟩:=R3.bf h4;cases h5;refine⟨ρ,S,δ,v,S1,E,h1,fun u bU H1 p1 w1 r1=>⟨bU,S1,δ, .loc k,S2,E.to p1 w1,h3,fun u2 oT H2 p2 w2 r2=>?_⟩⟩
   unfold bc at r2;obtain⟨a,a1,rfl⟩:=r2;obtain⟨dx,ys,ey,ek,rs⟩:=w2.ob k a _ a1 (lG e1);have hlen:ys.length=fs.length:=by have:=congrArg List.length ek;simpa using this
   obtain⟨k1,k2⟩:=Bx (f:=f) (r1.pre p2) ek rs;obtain⟨w3,p3⟩:=w2.put (o:= .ins c (xC f v fs)) (u:= .ins (cl c) dx (jS f u ys)) a1 (w2.fz k a a1 (by rw[lG e1];intro h;cases h)) ⟨dx,_,rfl,k1,k2⟩
   exact⟨a,cl c,dx,ys,rfl,ey,hC,hn,by rw[hlen];exact of_decide_eq_true hl,q σ oT _ (p1.trans (p2.trans p3)) (E.to (p1.trans (p2.trans p3)) w3)⟩
  .cases h4
 .cases h4⟩
theorem iX{c k:Nat}{fo fe:FX}{δ:DE}{S:aI}{QO:Ou->aI->Prop}(h:W3 (fe δ S) fun v S1=>W3 (fo δ S1) fun o S2=>∃fs,o= .loc k/\S2[k]? =some (.ins c fs)/\fs.length < 1000/\QO (.nx δ) (S2.set k (.ins c (xC f v fs)))):W3 (wb c f fo fe δ S) QO:=
 W3.bind (h.mono fun v S1 h=>W3.bind (h.mono fun o S2 ⟨fs,e1,g8,hl,q⟩=>by
  subst e1;have e4:me S2 c k=some fs:=by unfold me;simp only[g8,if_true]
  simp only[e4];exact W3.wh (decide_eq_true hl) (W3.ok q)))
theorem sL{c k:Nat}{g:List V3->aI->R3 V3}{fo:FX}{fs:FA}{δ:DE}{S:aI}{Q:V3->aI->Prop}(h:W3 (fo δ S) fun o S1=>∃ys,o= .loc k/\S1[k]? =some (.ins c ys)/\ys.lookup m=none/\W3 (fs δ S1) fun vs S2=>W3 (g (.loc k ::vs) S2) Q):W3 (tP c m g fo fs δ S) Q:=
 W3.bind (h.mono fun o S1 ⟨ys,e1,g8,e3,h⟩=>by
  subst e1;have e4:me S1 c k=some ys:=by unfold me;simp only[g8,if_true]
  simp only[e4,e3];exact W3.bind h)
theorem Gv{c:Nat}{g:List V3->aI->R3 V3}{fs:FA}{δ:DE}{S:aI}{Q:V3->aI->Prop}(h:W3 (fs δ S) fun vs S1=>W3 (g (.loc S1.length ::vs) (S1++[.ins c []])) fun v S2=>v= .d .cR/\Q (.loc S1.length) S2):W3 (Ay c g fs δ S) Q:=
 W3.bind (h.mono fun vs S1 h=>W3.bind (h.mono fun v S2 ⟨e,q⟩=>by subst e;exact W3.ok q))
end
end L3
end
section
namespace PySem
open Sem (wp)
def fM(t:Bool)(h:Heap)(i l:Addr)(k:Nat):Prop:=cond t (h.IsTupleIter i l k) (h.IsListIter i l k)
def jq(t:Bool)(h:Heap)(l:Addr)(xs:Array Value):Prop:=cond t (h.IsTuple l xs) (h.IsList l xs)
def tL(t:Bool):String:=cond t "tuple_iterator" "list_iterator"
theorem fM.at{t:Bool}{h h':Heap}{i l:Addr}{k:Nat}(x:fM t h i l k)(e:∀o,h.get? i=some o->h'.get? i=some o):fM t h' i l k:=by
 cases t with
 | true=>exact Heap.IsTupleIter.at x e
 | false=>exact Heap.IsListIter.at x e
theorem jq.at{t:Bool}{h h':Heap}{l:Addr}{xs:Array Value}(x:jq t h l xs)(e:∀o,h.get? l=some o->h'.get? l=some o):jq t h' l xs:=by
 cases t with
 | true=>exact Heap.IsTuple.at x e
 | false=>exact Heap.IsList.at x e
theorem fM.xb{t:Bool}{i l b:Addr}{k:Nat}(x:fM t h i l k)(hs:Heap.ExtBut b h h')(pV:i≠b):fM t h' i l k:=x.at fun o e=>hs i o pV e
theorem jq.xb{t:Bool}{l b:Addr}{xs:Array Value}(x:jq t h l xs)(hs:Heap.ExtBut b h h')(pV:l≠b):jq t h' l xs:=x.at fun o e=>hs l o pV e
theorem fM.ob{t:Bool}{h:Heap}{i l:Addr}{k:Nat}(x:fM t h i l k):∃o,h.get? i=some o/\∀v,o.data≠ .cell v:=by
 cases t with
 | true=>obtain⟨o,e,_,d⟩:=x;exact⟨o,e,fun v z=>by rw[d] at z;cases z⟩
 | false=>obtain⟨o,e,_,d⟩:=x;exact⟨o,e,fun v z=>by rw[d] at z;cases z⟩
theorem jq.lt{t:Bool}{h:Heap}{l:Addr}{xs:Array Value}(x:jq t h l xs):l < h.objs.size:=by
 cases t with
 | true=>obtain⟨o,e,_⟩:=x;exact Heap.lt_size e
 | false=>obtain⟨o,e,_⟩:=x;exact Heap.lt_size e
theorem fM.lt{t:Bool}{h:Heap}{i l:Addr}{k:Nat}(x:fM t h i l k):i < h.objs.size:=let⟨_,e,_⟩:=x.ob;Heap.lt_size e
section
variable {prog:Program} {w:World} {A:Around} {E:Aab} {s:Shared}
theorem jl{t:Bool}{it l:Addr}{i:Nat}{items:Array Value}{x:Value}{Q:Aab}(hit:fM t s.heap it l i)(hl:jq t s.heap l items)(hx:items[i]? =some x)
 (hQ:∀h',fM t h' it l (i+1)->Heap.SameBut it s.heap h'->Q x {s with heap:=h'}):wpAny (model prog w) A (Builtin.SmallTypes.nextOf (.ref it)) Q E s:=by
 cases t with
 | true=>exact lW hit hl hx hQ
 | false=>exact wpAny_nextOf_list_item hit hl hx hQ
theorem nG{t:Bool}{it l:Addr}{i:Nat}{items:Array Value}{Q:Aab}(hh:A.handled=none)(hit:fM t s.heap it l i)(hl:jq t s.heap l items)(hx:items[i]? =none)
 (hE:∀h' e,Heap.ExtBut it s.heap h'->(∃o,h'.get? e=some o/\o.cls= .type "StopIteration")->E (.ref e) {s with heap:=h'}):wpAny (model prog w) A (Builtin.SmallTypes.nextOf (.ref it)) Q E s:=by
 cases t with
 | true=>exact i7 hh hit hl hx hE
 | false=>exact wpAny_nextOf_list_end hh hit hl hx hE
theorem vt{t:Bool}{l:Addr}{items:Array Value}{Q:Aab}(hl:jq t s.heap l items)
 (hQ:Q (.ref s.heap.objs.size) {s with heap:=s.heap.push {cls:= .type (tL t),data:= .fields #[.ref l, .int 0 0]}}):wpAny (model prog w) A (pyIter (.ref l)) Q E s:=by
 cases t with
 | true=>exact wpAny_pyIter_tuple hl hQ
 | false=>exact wpAny_pyIter_list hl hQ
theorem CO{t u:Bool}{z TI TO i1 i2 l1 l2:Addr}{k1 k2:Nat}{xs ys:Array Value}{x y a b:Value}{Q:Aab}(D:ZipApart z TI TO i1 i2 l1 l2)(hz:IsZip s.heap z TI TO .none)(Ao:IsPair s.heap TI (.ref i1) (.ref i2))
 (BR:IsPair s.heap TO a b) (h1:fM t s.heap i1 l1 k1) (h2:fM u s.heap i2 l2 k2) (xl:jq t s.heap l1 xs) (yV:jq u s.heap l2 ys) (hx:xs[k1]? =some x) (hy:ys[k2]? =some y)
 (hQ:∀h',IsZip h' z TI TO (rawInt s.heap.objs.size)->IsPair h' TO x y->fM t h' i1 l1 (k1+1)->fM u h' i2 l2 (k2+1)->IsPair h' s.heap.objs.size x y->h'.objs.size=s.heap.objs.size+1->(∀c o,c≠z->c≠TO->c≠i1->c≠i2->s.heap.get? c=some o->h'.get? c=some o)->Q (.ref s.heap.objs.size) {s with heap:=h'}) :
 wpAny (model prog w) A (Builtin.«zip.__next__» ⟨[.ref z],[]⟩) (fun fin s'=>∃v,fin= .done (.ret v)/\Q v s') E s:=by
 show wpAny _ _ (field (.ref z) 2 >>=_) _ _ _;refine wpAny_bind (wpAny_field hz rfl (x:= .bool false) rfl ?_);show wpAny _ _ (field (.ref z) 3 >>=_) _ _ _;refine wpAny_bind (wpAny_field hz rfl (x:= .ref TI) rfl ?_);refine wpAny_bind (wpAny_seqItems Ao rfl ?_);show wpAny _ _ (Builtin.SmallTypes.ownedTupleIsFree (.ref z) >>=_) _ _ _;refine wpAny_bind ?_;unfold Builtin.SmallTypes.ownedTupleIsFree;refine wpAny_bind (wpAny_field hz rfl (x:= .none) rfl (wpAny_pure ?_));simp only[if_true];refine wpAny_bind (wpAny_rule ?_);refine wpAny_bind (wpAny_field hz rfl (x:= .ref TO) rfl ?_);refine wpAny_bind (wpAny_setField_rec hz (by simp) fun iF nV ik=>?_)
 replace nV:IsZip iF z TI TO .ellipsis:=nV;refine wpAny_bind ?_;simp only[List.zipIdx_cons,List.zipIdx_nil,List.forIn_cons,List.forIn_nil]
 refine wpAny_bind (wpAny_bind (wpAny_onRaise ?_));show wpAny _ _ (Builtin.SmallTypes.nextOf (.ref i1) >>=_) _ _ _;refine wpAny_bind (jl (h1.xb ik.extBut D.i1z) (xl.xb ik.extBut D.l1z) hx fun f_ Kw cM=>wpAny_pure ?_)
 have hTO₂:IsPair f_ TO a b:=cM.extBut _ _ D.TOi1 (ik.extBut _ _ D.TOz BR);refine wpAny_bind (wpAny_seqItems hTO₂ rfl ?_);refine wpAny_bind (wpAny_updateSeq_pair hTO₂ fun JN xf jJ=>?_)
 replace xf:IsPair JN TO x b:=xf;refine wpAny_bind (wpAny_letGo (wpAny_pure ?_));refine wpAny_bind (wpAny_bind (wpAny_onRaise ?_));show wpAny _ _ (Builtin.SmallTypes.nextOf (.ref i2) >>=_) _ _ _
 refine wpAny_bind (jl (((h2.xb ik.extBut D.i2z).xb cM.extBut D.i12.symm).xb jJ.extBut D.TOi2.symm) (((yV.xb ik.extBut D.l2z).xb cM.extBut D.l2i1).xb jJ.extBut D.l2TO) hy fun MW Pp qZ=>wpAny_pure ?_)
 have hTO₄:IsPair MW TO x b:=qZ.extBut _ _ D.TOi2 xf;refine wpAny_bind (wpAny_seqItems hTO₄ rfl ?_);refine wpAny_bind (wpAny_updateSeq_pair hTO₄ fun nC xc qY=>?_)
 replace xc:IsPair nC TO x y:=xc;refine wpAny_bind (wpAny_letGo (wpAny_pure (wpAny_pure ?_)));refine wpAny_bind (wpAny_seqItems xc rfl ?_);refine wpAny_bind (wpAny_newTuple ?_)
 have hsz:nC.objs.size=s.heap.objs.size:=(qY.1.trans (qZ.1.trans (jJ.1.trans (cM.1.trans ik.1))));have hz₅:IsZip nC z TI TO .ellipsis:=qY.extBut _ _ D.TOz.symm <| qZ.extBut _ _ D.i2z.symm <| jJ.extBut _ _ D.TOz.symm <| cM.extBut _ _ D.i1z.symm nV
 have hk₅:∀c o,c≠z->c≠TO->c≠i1->c≠i2->s.heap.get? c=some o->nC.get? c=some o:=fun c o c1 c2 c3 c4 e=>qY.extBut _ _ c2 <| qZ.extBut _ _ c4 <| jJ.extBut _ _ c2 <| cM.extBut _ _ c3 <| ik.extBut _ _ c1 e
 have h1₅:fM t nC i1 l1 (k1+1):=((Kw.xb jJ.extBut D.TOi1.symm).xb qZ.extBut D.i12).xb qY.extBut D.TOi1.symm;have h2₅:fM u nC i2 l2 (k2+1):=Pp.xb qY.extBut D.TOi2.symm;have hzlt:=Heap.lt_size hz₅;show wpAny _ _ (Builtin.SmallTypes.ownedTupleHandOut (.ref z) (.ref nC.objs.size) >>=_) _ _ _;refine wpAny_bind ?_;unfold Builtin.SmallTypes.ownedTupleHandOut;have hz₆:IsZip (nC.push {cls:= .type "tuple",data:= .seq #[x,y]}) z TI TO .ellipsis:=Heap.get?_push_of_some _ hz₅;refine wpAny_bind (wpAny_setField_rec hz₆ (by simp) fun Tw GQ GX=>?_)
 replace GQ:IsZip Tw z TI TO (rawInt nC.objs.size):=GQ;refine wpAny_setField_rec GQ (by simp) fun GO BO GI=>?_;replace BO:IsZip GO z TI TO (rawInt nC.objs.size):=BO
 have up:∀c o,c≠z->nC.get? c=some o->GO.get? c=some o:=fun c o c1 e=>GI.extBut _ _ c1 <| GX.extBut _ _ c1 (Heap.get?_push_of_some _ e)
 have hT₈:IsPair GO nC.objs.size x y:=GI.extBut _ _ (Nat.ne_of_gt hzlt) <| GX.extBut _ _ (Nat.ne_of_gt hzlt) (Heap.get?_push_size _ rfl)
 have hz8:GO.objs.size=nC.objs.size+1:=(GI.1.trans GX.1).trans (Heap.size_push ..);rw[hsz] at BO hT₈ hz8;refine wpAny_pure ⟨_,rfl,?_⟩;show Q (.ref nC.objs.size) _;rw [hsz];exact hQ GO BO (up _ _ D.TOz xc) (h1₅.at fun o e=>up _ o D.i1z e) (h2₅.at fun o e=>up _ o D.i2z e) hT₈ hz8 fun c o c1 c2 c3 c4 e=>up c o c1 (hk₅ c o c1 c2 c3 c4 e)
theorem Gw{t u:Bool}{z TI TO i1 i2 l1 l2:Addr}{k1 k2:Nat}{xs ys:Array Value}{a b:Value}{Q:Fin->Shared->Prop}(hh:A.handled=none)(D:ZipApart z TI TO i1 i2 l1 l2)(hz:IsZip s.heap z TI TO .none)
 (Ao:IsPair s.heap TI (.ref i1) (.ref i2)) (BR:IsPair s.heap TO a b) (h1:fM t s.heap i1 l1 k1) (h2:fM u s.heap i2 l2 k2) (xl:jq t s.heap l1 xs) (yV:jq u s.heap l2 ys) (Sn:xs[k1]? =none\/ys[k2]? =none)
 (hE:∀h' e,(∀c o,c≠z->c≠TO->c≠i1->c≠i2->s.heap.get? c=some o->h'.get? c=some o)->(∃o,h'.get? e=some o/\o.cls= .type "StopIteration")->E (.ref e) {s with heap:=h'}):wpAny (model prog w) A (Builtin.«zip.__next__» ⟨[.ref z],[]⟩) Q E s:=by
 show wpAny _ _ (field (.ref z) 2 >>=_) _ _ _;refine wpAny_bind (wpAny_field hz rfl (x:= .bool false) rfl ?_);show wpAny _ _ (field (.ref z) 3 >>=_) _ _ _;refine wpAny_bind (wpAny_field hz rfl (x:= .ref TI) rfl ?_);refine wpAny_bind (wpAny_seqItems Ao rfl ?_);show wpAny _ _ (Builtin.SmallTypes.ownedTupleIsFree (.ref z) >>=_) _ _ _;refine wpAny_bind ?_;unfold Builtin.SmallTypes.ownedTupleIsFree;refine wpAny_bind (wpAny_field hz rfl (x:= .none) rfl (wpAny_pure ?_));simp only[if_true];refine wpAny_bind (wpAny_rule ?_);refine wpAny_bind (wpAny_field hz rfl (x:= .ref TO) rfl ?_);refine wpAny_bind (wpAny_setField_rec hz (by simp) fun iF nV ik=>?_)
 replace nV:IsZip iF z TI TO .ellipsis:=nV;refine wpAny_bind ?_;simp only[List.zipIdx_cons,List.zipIdx_nil,List.forIn_cons,List.forIn_nil]
 refine wpAny_bind (wpAny_bind (wpAny_onRaise ?_));show wpAny _ _ (Builtin.SmallTypes.nextOf (.ref i1) >>=_) _ _ _;cases hx:xs[k1]? with
 | none=>
   refine wpAny_bind (nG hh (h1.xb ik.extBut D.i1z) (xl.xb ik.extBut D.l1z) hx fun f_ e cM he=>?_)
   obtain⟨oe,hoe,hce⟩:=he;have BQ:IsZip f_ z TI TO .ellipsis:=cM _ _ D.i1z.symm nV;have hez:e≠z:=fun x=>by {subst x;rw [BQ] at hoe;cases hoe;simp at hce}
   exact wpAny_setField_rec BQ (by simp) fun JN _ jJ=>hE JN e (fun c o c1 _ c3 _ x=>jJ.extBut _ _ c1 <| cM _ _ c3 <| ik.extBut _ _ c1 x) ⟨oe,jJ.extBut _ _ hez hoe,hce⟩
 | some x=>
   have hy:ys[k2]? =none:=Sn.resolve_left fun h=>by {rw [hx] at h;cases h}
   refine wpAny_bind (jl (h1.xb ik.extBut D.i1z) (xl.xb ik.extBut D.l1z) hx fun f_ Kw cM=>wpAny_pure ?_)
   have hTO₂:IsPair f_ TO a b:=cM.extBut _ _ D.TOi1 (ik.extBut _ _ D.TOz BR);refine wpAny_bind (wpAny_seqItems hTO₂ rfl ?_);refine wpAny_bind (wpAny_updateSeq_pair hTO₂ fun JN xf jJ=>?_)
   refine wpAny_bind (wpAny_letGo (wpAny_pure ?_));refine wpAny_bind (wpAny_bind (wpAny_onRaise ?_));show wpAny _ _ (Builtin.SmallTypes.nextOf (.ref i2) >>=_) _ _ _;refine wpAny_bind (nG hh (((h2.xb ik.extBut D.i2z).xb cM.extBut D.i12.symm).xb jJ.extBut D.TOi2.symm) (((yV.xb ik.extBut D.l2z).xb cM.extBut D.l2i1).xb jJ.extBut D.l2TO) hy fun MW e qZ he=>?_)
   obtain⟨oe,hoe,hce⟩:=he;have hz₄:IsZip MW z TI TO .ellipsis:=qZ _ _ D.i2z.symm <| jJ.extBut _ _ D.TOz.symm <| cM.extBut _ _ D.i1z.symm nV
   have hez:e≠z:=fun x=>by {subst x;rw [hz₄] at hoe;cases hoe;simp at hce}
   exact wpAny_setField_rec hz₄ (by simp) fun nC _ qY=>hE nC e (fun c o c1 c2 c3 c4 x=>qY.extBut _ _ c1 <| qZ _ _ c4 <| jJ.extBut _ _ c2 <| cM.extBut _ _ c3 <| ik.extBut _ _ c1 x) ⟨oe,qY.extBut _ _ hez hoe,hce⟩
end
abbrev P5(t:Bool)(h:Heap)(l1:Addr):Heap:=h.push {cls:= .type (tL t),data:= .fields #[.ref l1, .int 0 0]}
abbrev P0(t u:Bool)(h:Heap)(l1 l2:Addr):Heap:=(P5 t h l1).push {cls:= .type (tL u),data:= .fields #[.ref l2, .int 0 0]}
abbrev Qb(t u:Bool)(h:Heap)(l1 l2:Addr):Heap:=(P0 t u h l1 l2).push {cls:= .type "tuple",data:= .seq #[.ref h.objs.size, .ref (P5 t h l1).objs.size]}
abbrev Qd(t u:Bool)(h:Heap)(l1 l2:Addr):Heap:=(Qb t u h l1 l2).push {cls:= .type "tuple",data:= .seq #[.none, .none]}
abbrev Na(t u:Bool)(h:Heap)(l1 l2:Addr):Heap:=(Qd t u h l1 l2).push {cls:= .type "zip",data:= .fields #[.none, .bool false, .bool false, .ref (P0 t u h l1 l2).objs.size, .ref (Qb t u h l1 l2).objs.size]}
theorem z8(t u:Bool)(l1 l2:Addr)(xs ys:Array Value):Meets (Builtin.«zip.__new__» ⟨[.type "zip", .ref l1, .ref l2],[]⟩) (fun _ R s=>jq t s.heap l1 xs/\jq u s.heap l2 ys/\R (.ok (.ret (.ref (Qd t u s.heap l1 l2).objs.size))) {s with heap:=Na t u s.heap l1 l2}):=
 .of_wp fun prog w A R s h=>by
   obtain⟨hp,g,d,tk,os⟩:=s;obtain⟨xl,yV,h⟩:=h;have hsub:=sub_zip;have hL1:jq t (Shared.heap ⟨hp,g,d,tk,os⟩) l1 xs:=xl;have hL2:jq u (Shared.heap ⟨hp.push {cls:= .type (tL t),data:= .fields #[.ref l1, .int 0 0]},g,d,tk,os⟩) l2 ys:=yV.at fun o e=>Heap.get?_push_of_some _ e
   wp_walk using vt hL1,vt hL2
   exact⟨_,rfl,h⟩
theorem fM.new{t:Bool}{h:Heap}{i l:Addr}(e:h.get? i=some {cls:= .type (tL t),data:= .fields #[.ref l, .int 0 0]}):fM t h i l 0:=by
 cases t with
 | true=>exact⟨_,e,rfl,rfl⟩
 | false=>exact⟨_,e,rfl,rfl⟩
theorem C6{prog:Program}{w:World}{A:Around}{E:Aab}{s:Shared}{t u:Bool}{l1 l2:Addr}{xs ys:Array Value}{Q:Aab}(xl:jq t s.heap l1 xs)(yV:jq u s.heap l2 ys)
 (h:∀h',IsZip h' (s.heap.objs.size+4) (s.heap.objs.size+2) (s.heap.objs.size+3) .none->IsPair h' (s.heap.objs.size+2) (.ref s.heap.objs.size) (.ref (s.heap.objs.size+1))->IsPair h' (s.heap.objs.size+3) .none .none->
   fM t h' s.heap.objs.size l1 0->fM u h' (s.heap.objs.size+1) l2 0->(∀c o,s.heap.get? c=some o->h'.get? c=some o)->Q (.ref (s.heap.objs.size+4)) {s with heap:=h'}):wpAny (model prog w) A (call (.type "zip") [.ref l1, .ref l2]) Q E s:=by
 refine callType_new F.called_zip (by decide) (F.typeCall_zip_2 _ _) (F.newCall_zip_2 _ _) (fun obj=>F.args_object_init_3 obj _ _) F.entry_zip_new (z8 t u l1 l2 xs ys) ⟨xl,yV,?_⟩
 have z1:(P5 t s.heap l1).objs.size=s.heap.objs.size+1:=Heap.size_push ..;have z2:(P0 t u s.heap l1 l2).objs.size=s.heap.objs.size+2:=(Heap.size_push ..).trans (congrArg (·+1) z1)
 have z3:(Qb t u s.heap l1 l2).objs.size=s.heap.objs.size+3:=(Heap.size_push ..).trans (congrArg (·+1) z2)
 have z4:(Qd t u s.heap l1 l2).objs.size=s.heap.objs.size+4:=(Heap.size_push ..).trans (congrArg (·+1) z3)
 have g5:(Na t u s.heap l1 l2).get? (Qd t u s.heap l1 l2).objs.size=some _:=Heap.get?_push_size _ rfl;have g4:(Na t u s.heap l1 l2).get? (Qb t u s.heap l1 l2).objs.size=some _:=Heap.get?_push_of_some _ (Heap.get?_push_size _ rfl);have g3:(Na t u s.heap l1 l2).get? (P0 t u s.heap l1 l2).objs.size=some _:=Heap.get?_push_of_some _ <| Heap.get?_push_of_some _ (Heap.get?_push_size _ rfl)
 have g2:(Na t u s.heap l1 l2).get? (P5 t s.heap l1).objs.size=some _:=Heap.get?_push_of_some _ <| Heap.get?_push_of_some _ <| Heap.get?_push_of_some _ (Heap.get?_push_size _ rfl)
 have g1:(Na t u s.heap l1 l2).get? s.heap.objs.size=some _:=Heap.get?_push_of_some _ <| Heap.get?_push_of_some _ <| Heap.get?_push_of_some _ <| Heap.get?_push_of_some _ (Heap.get?_push_size _ rfl)
 show _/\_;rw[z2,z3,z4] at g5;rw [z1,z2] at g3;rw [z3] at g4;rw [z1] at g2;rw [z4];exact⟨⟨_,g5,rfl⟩,h _ g5 g3 g4 (fM.new g1) (fM.new g2) fun c o x=>Heap.get?_push_of_some _ <| Heap.get?_push_of_some _ <| Heap.get?_push_of_some _ <| Heap.get?_push_of_some _ <| Heap.get?_push_of_some _ x⟩
end PySem
namespace L2
open PySem PySem.Spec PyProof.Rows
def G8(t:Bool)(K:W.Frag)(H:Hp)(a:Addr)(xs:List V):Prop:=cond t (p8 K H a xs) (oR K H a xs)
theorem Inv.HQ{X:Cx}{pins:Aaa}{σ:L2.St}{s:Shared}{t:Bool}{a:Addr}{xs:List V}(I:Inv X pins σ H s)(h:G8 t X.K H a xs):∃its:List Value,Vals xs its/\jq t s.heap a its.toArray:=by
 cases t with
 | true=>obtain⟨its,r,p,_⟩:=I.tuple h;exact⟨its,r,p⟩
 | false=>obtain⟨its,r,p,_⟩:=I.list h;exact⟨its,r,p.isList⟩
theorem Inv.BC{X:Cx}{pins:Aaa}{σ:L2.St}{s:Shared}{t:Bool}{a:Addr}{xs ys:List V}(I:Inv X pins σ H s)(h:G8 t X.K H a xs)(h':G8 t X.K H a ys):xs=ys:=by
 cases t with
 | true=>exact I.qd h h'
 | false=>exact I.o_ h h'
def WT(K:W.Frag)(t u:Bool)(a b:Addr):It:=
 ⟨fun i H=>∃xs ys x y,G8 t K H a xs/\G8 u K H b ys/\xs[i]? =some x/\ys[i]? =some y,
  fun i H v H'=>∃p x y,H p=none/\v= .ref p/\(∀xs,G8 t K H a xs->xs[i]? =some x)/\(∀ys,G8 u K H b ys->ys[i]? =some y)/\H'=upd H p (.tup [x,y]),
  fun i H=>∃xs ys,G8 t K H a xs/\G8 u K H b ys/\(xs.length<=i\/ys.length<=i)⟩
theorem FW{K:W.Frag}{k:Nat}{t u:Bool}{z TI TO i1 i2 a b:Addr}(D:ZipApart z TI TO i1 i2 a b):Turn P w K (.Tuple elts k pos) (WT K t u a b) [z,TI,TO,i1,i2] z
 (fun i h=>IsZip h z TI TO .none/\IsPair h TI (.ref i1) (.ref i2)/\(∃x y,IsPair h TO x y)/\fM t h i1 a i/\fM u h i2 b i) where
 mem:=by simp
 obj:=fun i h st c hc=>by
  obtain⟨hz,Ao,⟨x,y,BR⟩,h1,h2⟩:=st;simp only[List.mem_cons,List.not_mem_nil,or_false] at hc;rcases hc with rfl | rfl | rfl | rfl | rfl
  .exact⟨_,hz,fun v z=>by cases z⟩
  .exact⟨_,Ao,fun v z=>by cases z⟩
  .exact⟨_,BR,fun v z=>by cases z⟩
  .exact h1.ob
  .exact h2.ob
 keep:=fun i h h' st k=>by
  obtain⟨hz,Ao,⟨x,y,BR⟩,h1,h2⟩:=st;exact⟨k z (by simp) _ hz,k TI (by simp) _ Ao,⟨x,y,k TO (by simp) _ BR⟩,h1.at fun o e=>k i1 (by simp) o e,h2.at fun o e=>k i2 (by simp) o e⟩
 item:=by
  intro X hP hw hK hc i pins s σ H E I hf st hg;subst hP hw hK;obtain⟨xs,ys,x,y,hq,hr,hx,hy⟩:=hg;obtain⟨its,rv,p⟩:=I.HQ hq;obtain⟨jts,Dy,p'⟩:=I.HQ hr;obtain⟨ux,hu,ru⟩:=rv.get hx;obtain⟨uy,Zd,TC⟩:=Dy.get hy;obtain⟨hz,Ao,⟨a0,b0,BR⟩,h1,h2⟩:=st;have hT:s.TypeIs (.ref z) "zip":=⟨_,hz,rfl⟩;unfold pyNext;refine wpAny_bind (wpAny_attempt (wpAny_callSpecial?_slot (name:="__next__") hT F.slot_zip_next (wpAny_call_entry F.slot_zip_next hT F.entry_zip_next (CO D hz Ao BR h1 h2 p p' (x:=ux) (y:=uy) (by simpa using hu) (by simpa using Zd) fun iF a1 a2 a3 a4 a5 a6 vE=>wpAny_pure ?_) (F.args_zip_next_1 _))))
  refine⟨_,rfl,wpAny_letOwnedTupleGo_zip a1 fun f_ BQ cM=>?_⟩
  replace cM:Heap.SameBut z iF f_:=cM
  have hzl:z < s.heap.objs.size:=Heap.lt_size hz;have yS:f_.get? s.heap.objs.size=some {cls:= .type "tuple",data:= .seq #[ux,uy]}:=(cM.2 _ (Nat.ne_of_gt hzl)).trans a5;have kk:∀b o,b≠z->b≠TO->b≠i1->b≠i2->s.heap.get? b=some o->f_.get? b=some o:=fun b o c1 c2 c3 c4 q=>(cM.2 b c1).trans (vE b o c1 c2 c3 c4 q)
  have hn:H s.heap.objs.size=none:=I.fresh;have sm:aR H (upd H s.heap.objs.size (.tup [x,y])):=aN hn;have f0:∀c∈[z,TI,TO,i1,i2],H c=none:=fun c hc=>(hf c hc).1
  have nit:∀b o,H b=some o->b≠z/\b≠TO/\b≠i1/\b≠i2:=fun b o q=>by
   refine⟨fun e=>?_,fun e=>?_,fun e=>?_,fun e=>?_⟩
   .rw [e,f0 z (by simp)] at q;cases q
   .rw [e,f0 TO (by simp)] at q;cases q
   .rw [e,f0 i1 (by simp)] at q;cases q
   .rw [e,f0 i2 (by simp)] at q;cases q
  have kH:∀b o q,H b=some q->s.heap.get? b=some o->f_.get? b=some o:=fun b o q hb e=>let⟨c1,c2,c3,c4⟩:=nit b q hb;kk b o c1 c2 c3 c4 e
  have hok:nu X.prog X.w (upd H s.heap.objs.size (.tup [x,y])) f_:=fun b ob q=>by
   by_cases hb:b=s.heap.objs.size
   .subst hb;rw[aT] at q;cases q;exact⟨by show 2<=sizeLine;decide,[ux,uy], .cons ru (.cons TC .nil),⟨_,yS,rfl,_,rfl⟩⟩
   .rw [bg hb] at q;refine(I.hok b ob q).vJ (fun c v hc e=>?_) (fun c e=>sm c _ e) fun c ys e=>sm c _ e
    rcases hc with rfl | hc
    .exact kH c v _ q e
    .exact kH c v _ hc e
  have nch:∀b,b ∉ [z,TI,TO,i1,i2]->b≠z/\b≠TO/\b≠i1/\b≠i2:=fun b hb=>⟨fun e=>hb (by simp [e]),fun e=>hb (by simp [e]),fun e=>hb (by simp [e]),fun e=>hb (by simp [e])⟩
  have kc:∀b o,b ∉ [z,TI,TO,i1,i2]->s.heap.get? b=some o->f_.get? b=some o:=fun b o hb e=>let⟨c1,c2,c3,c4⟩:=nch b hb;kk b o c1 c2 c3 c4 e
  have I2:Inv X pins σ (upd H s.heap.objs.size (.tup [x,y])) {s with heap:=f_,toks:=s.toks}:=by
   refine I.step (g':=s.gens) (d':=s.drawn) (ch:=[z,TI,TO,i1,i2]) (fun b hb=>?_) (fun b o _ _ hb q _=>kc b o hb q) (fun b o _ _ hb q _=>⟨o.slots,kc b o hb q⟩)
    (fun b o hb q n=>by rw[bg (Nat.ne_of_lt (Heap.lt_size q))];exact n) (fun b o hb q=>⟨o,kc b o hb q⟩) (fun b ys e=>sm b _ e) (fun b o u e=>sm b _ e) (fun b ps e=>⟨#[],by rw[sm b _ e];simp⟩) (fun m hm=>?_) hok I.bare
   .obtain⟨g0,g1,g2,g3,g4,g5⟩:=hf b hb;exact⟨g3,g1,g4,g5⟩
   .obtain⟨o,es,ep,ho,r⟩:=hm;refine⟨o,es,ep,kc _ o (fun hb=>?_) ho,r⟩
    exact(hf _ hb).2.1 rfl
  have up:∀c,c≠z->∀o,iF.get? c=some o->f_.get? c=some o:=fun c hc o e=>(cM.2 c hc).trans e
  refine⟨.ref s.heap.objs.size,_,I2,rfl,⟨s.heap.objs.size,x,y,hn,rfl,fun zs S9=>(by rw[I.BC S9 hq];exact hx),fun zs S9=>(by rw[I.BC S9 hr];exact hy),rfl⟩,
   ⟨BQ,up _ D.TIz _ (vE TI _ D.TIz D.TITO D.TIi1 D.TIi2 Ao),⟨_,_,up _ D.TOz _ a2⟩,a3.at fun o e=>up _ D.i1z o e,a4.at fun o e=>up _ D.i2z o e⟩,fun c hc=>?_⟩
  have hlt:c < s.heap.objs.size:=by
   simp only[List.mem_cons,List.not_mem_nil,or_false] at hc;rcases hc with rfl | rfl | rfl | rfl | rfl
   .exact hzl
   .exact Heap.lt_size Ao
   .exact Heap.lt_size BR
   .exact h1.lt
   .exact h2.lt
  rw[bg (Nat.ne_of_lt hlt)];exact f0 c hc
 done:=by
  intro X hP hw hK hc i pins s σ H E I hf st hg;subst hP hw hK;obtain⟨xs,ys,hq,hr,hl⟩:=hg;obtain⟨its,rv,p⟩:=I.HQ hq;obtain⟨jts,Dy,p'⟩:=I.HQ hr;obtain⟨hz,Ao,⟨a0,b0,BR⟩,h1,h2⟩:=st;have hT:s.TypeIs (.ref z) "zip":=⟨_,hz,rfl⟩;have l1:=rv.length;have l2:=Dy.length;unfold pyNext;refine wpAny_bind (wpAny_attempt (wpAny_callSpecial?_slot (name:="__next__") hT F.slot_zip_next (wpAny_call_entry F.slot_zip_next hT F.entry_zip_next (Gw (I.ok.hd hc) D hz Ao BR h1 h2 p p' ?_ fun h' e hk he=>?_) (F.args_zip_next_1 _))))
  .rcases hl with hl | hl
   .exact .inl (by simp;omega)
   .exact .inr (by simp;omega)
  obtain⟨o,ho,hcl⟩:=he;refine wpAny_bind (wpAny_isInstance (T:="StopIteration") (b:=true) ⟨o,ho,hcl⟩ isSubtype_stop ?_);have nch:∀b,b ∉ [z,TI,TO,i1,i2]->b≠z/\b≠TO/\b≠i1/\b≠i2:=fun b hb=>⟨fun e=>hb (by simp [e]),fun e=>hb (by simp [e]),fun e=>hb (by simp [e]),fun e=>hb (by simp [e])⟩
  have kc:∀b o,b ∉ [z,TI,TO,i1,i2]->s.heap.get? b=some o->h'.get? b=some o:=fun b o hb e=>let⟨c1,c2,c3,c4⟩:=nch b hb;hk b o c1 c2 c3 c4 e
  have f0:∀c∈[z,TI,TO,i1,i2],H c=none:=fun c hc=>(hf c hc).1
  have kH:∀b o q,H b=some q->s.heap.get? b=some o->h'.get? b=some o:=fun b o q hb e=>kc b o (fun z=>by rw[f0 b z] at hb;cases hb) e
  refine wpAny_pure ⟨rfl,?_⟩;refine I.step (h':=h') (H':=H) (g':=s.gens) (d':=s.drawn) (t':=s.toks) (ch:=[z,TI,TO,i1,i2]) (fun b hb=>?_) (fun b o _ _ hb q _=>kc b o hb q) (fun b o _ _ hb q _=>⟨o.slots,kc b o hb q⟩)
   (fun b o hb q n=>n) (fun b o hb q=>⟨o,kc b o hb q⟩) (fun b ys e=>e) (fun b o u e=>e) (fun b ps e=>⟨#[],by rw[e];simp⟩) (fun m hm=>?_) (fun b ob q=>?_) I.bare
  .obtain⟨g0,g1,g2,g3,g4,g5⟩:=hf b hb;exact⟨g3,g1,g4,g5⟩
  .obtain⟨o,es,ep,ho,r⟩:=hm;refine⟨o,es,ep,kc _ o (fun hb=>?_) ho,r⟩
   exact(hf _ hb).2.1 rfl
  .refine(I.hok b ob q).vJ (fun c v hc e=>?_) (fun c e=>e) fun c ys e=>e
   rcases hc with rfl | hc
   .exact kH c v _ q e
   .exact kH c v _ hc e
 self:=fun A i s Q E st h=>wpAny_pyIter_zip st.1 h
section
variable {X:Cx}
def xo(ds es:List D):List D:=(ds.zip es).map fun p=> .tup [p.1,p.2]
def seqD?:D->Option (List D)
 | .lst ds=>some ds
 | .tup ds=>some ds
 | _=>none
def Ud(f g:FD):au->R (List D):=fun δ=>(f δ).bind fun d=>(g δ).bind fun e=>match seqD? d,seqD? e with | some ds,some es=> .ok (xo ds es) | _,_=> .no
theorem Rep.HQ{K:W.Frag}{B:List Addr}{d:D}{v:V}{ds:List D}(r:Rep K B H d v)(h:seqD? d=some ds):∃t a xs,v= .ref a/\(∀B' H',dn B H B' H'->G8 t K H' a xs/\aF K B' H' ds xs):=by
 cases d with
 | lst es=>
   cases h;obtain⟨a,xs,rfl,l,rs⟩:=Rep.lst.mp r;exact⟨false,a,xs,rfl,fun B' H' p=>⟨(l.bj p).sq,rs.bj p⟩⟩
 | tup es=>
   cases h;obtain⟨a,xs,rfl,l,rs⟩:=Rep.tup.mp r;refine⟨true,a,xs,rfl,fun B' H' p=>⟨?_,rs.bj p⟩⟩
   have l':uZ K B' H' a xs:=l.elim (fun z=> .inl ⟨(p.rd z.2 z.1).2,(p.rd z.2 z.1).1⟩) .inr
   exact l'.sq
 | _=>cases h
def U9(T U:String)(f:FD):FD:=fun δ=>(f δ).bind fun d=>match d with | .dct _ _=> .no | _=> .ok (.bl (zd (tyName d) T || zd (tyName d) U))
def ZA(lo:Int)(n:Nat):It:=⟨fun i _=>i < n,fun i H x H'=>H'=H/\x= .int (lo - i),fun i _=>n<=i⟩
def Qt(lo:Int)(n:Nat):List D:=(List.range n).map fun(i:Nat)=>D.int (lo - i)
def Vf(f g h:FD):au->R (List D):=fun δ=>(f δ).bind fun d=>(g δ).bind fun e=>(h δ).bind fun k=>match d,e,k with
 | .int i, .int j, .int m=>R.bh (decide (m= -1/\ -(2 ^ 60)<=i/\i < 2 ^ 60/\ -(2 ^ 60)<=j/\j < 2 ^ 60)) (.ok (Qt i (i - j).toNat)) | _,_,_=> .no
def bls?:List D->Option (List Bool)
 | []=>some []
 | .bl b ::ds=>(bls? ds).map (b ::·)
 | _ ::_=>none
def WL:List D->R D
 | [.lst ds]=>(match bls? ds with | some bs=> .ok (.bl (bs.all id)) | none=> .no)
 | _=> .no
def VT:List D->R D
 | [.lst ds]=>(match bls? ds with | some bs=> .ok (.bl (bs.any id)) | none=> .no)
 | _=> .no
end
end L2
end
section
namespace L2
open PySem PySem.Spec PyProof.Rows
section
variable {X:Cx}
def ZC:FS:=fun _=> .no
def UJ(f:FD):FS:=fun δ=>(f δ).bind fun _=> .ok (.nx δ)
end
end L2
namespace L3
open PySem PySem.Spec PyProof.Rows L2
section
variable {X:Cx} {cl:Aag}
def Zq:FZ:=fun _ _=> .no
def Ut(f:au->R (List D)):FX:=fun δ S=>(R3.of (f (bK S δ)) S).bind fun ds S=>R3.bh (jA ds) (.ok (.loc S.length) (S++[.lst ds]))
def Xf(i:Nat)(f:FX):FZ:=fun δ S=>match jh δ i with
 | none=> .no
 | some k=>match cU S k with
   | none=> .no
   | some _=>(f δ S).bind fun v S1=>match v with
     | .d (.lst es)=>(match cU S1 k with
       | some ds=>R3.bh (decide (ds.length+es.length<=sizeLine)) (.ok (.nx δ) (S1.set k (.lst (ds++es))))
       | none=> .no)
     | _=> .no
end
end L3
end
section
namespace L2
open PySem PySem.Spec PyProof.Rows
section
variable {X:Cx}
theorem F0{prog:Program}{w:World}{A:Around}{E:Aab}{s:Shared}{t b:Addr}{vs ws:List Value}{Q:Aab}(ht:IsTup s.heap t vs.toArray)(hb:IsTup s.heap b ws.toArray)
 (h0:vs=[]->Q (.ref b) s) (h1:vs≠[]->ws=[]->Q (.ref t) s) (h2:vs≠[]->ws≠[]->Q (.ref s.heap.objs.size) {s with heap:=s.heap.push {cls:= .type "tuple",data:= .seq (vs++ws).toArray}})
 (hsz:vs.length+ws.length<=sizeLine):wpAny (model prog w) A (binaryOp .Add (.ref t) (.ref b)) Q E s:=by
 by_cases hv:vs=[]
 .obtain⟨⟨cls,dd,data,sl⟩,ho,hc,n,hd⟩:=id ht;obtain⟨⟨SE,Qr,data2,Nh⟩,MN,hc2,n2,hd2⟩:=id hb;simp only at hc hd hc2 hd2;subst hc hd hc2 hd2;exact concat_meets ⟨_,ho,rfl⟩ ⟨_,MN,rfl⟩ noFill_tuple_add seq_tuple_add PySem.F.slot_tuple_add PySem.F.entry_tuple_add (PySem.F.args_tuple_add_2 _ _) (tuple_addW0 t b vs.toArray ws.toArray n n2 dd Qr sl Nh (by simp [hv])) ⟨ho,MN,h0 hv⟩
 .exact HT.Hv ht hb hv (h1 hv) (h2 hv) hsz
def qU(d e:D):R D:=match d,e with
 | .tup a, .tup b=>R.bh (decide (a.length+b.length<=sizeLine)) (.ok (.tup (a++b)))
 | d,e=>dE d e
theorem uZ.fresh{K:W.Frag}{B:List Addr}{H:Hp}{p:Addr}{xs:List V}(hb:∀a∈B,∃o,H a=some o)(hp:H p=none):uZ K B (upd H p (.tup xs)) p xs:= .inl ⟨fun ha=>(by obtain⟨o,ho⟩:=hb p ha;rw [hp] at ho;cases ho), .inl aT⟩
theorem vS:jE X (binaryOp .Add) qU:=by
 intro pins s σ H B da db d x y v u I hb rx ry ra rb hg;by_cases ht:∃a b,da= .tup a/\db= .tup b
 .obtain⟨a,b,rfl,rfl⟩:=ht;have hg:R.bh (decide (a.length+b.length<=sizeLine)) (.ok (.tup (a++b)))= .ok d:=hg;obtain⟨h1,h2⟩:=R.bf hg;cases h2;have h1:=of_decide_eq_true h1;have ra':=ra;have rb':=rb;obtain⟨a1,To,rfl,l1,r1⟩:=Rep.tup.mp ra;obtain⟨a2,So,rfl,l2,r2⟩:=Rep.tup.mp rb;cases rx;cases ry;obtain⟨its,Vn,p1,_⟩:=I.tuple l1.sq;obtain⟨JJ,Vx,p2,_⟩:=I.tuple l2.sq;have e1:=Vn.length;have e2:=Vx.length;have e3:=r1.length;have e4:=r2.length;refine F0 p1 p2 (fun z=>⟨.ref a2,H,I,rfl,aR.refl H,?_⟩) (fun _ z=>⟨.ref a1,H,I,rfl,aR.refl H,?_⟩) (fun _ _=>?_) (by omega)
  .obtain rfl:a=[]:=List.eq_nil_of_length_eq_zero (by rw[e3,e1,z];rfl)
   exact rb'
  .obtain rfl:b=[]:=List.eq_nil_of_length_eq_zero (by rw[e4,e2,z];rfl)
   rw[List.append_nil];exact ra'
  .have hp:H s.heap.objs.size=none:=I.hok.fresh (Nat.le_refl _);refine⟨.ref s.heap.objs.size,_,I.laid (t':=s.toks) (o:= .tup (To++So)) (fun b ob q=>Heap.get?_push_of_some _ q) (Nat.le_refl _) ⟨by rw[List.length_append];omega,_,Vn.append Vx,IsTup.new _ _⟩,rfl,aN hp,Rep.tup.mpr ⟨_,_,rfl,uZ.fresh hb hp,(r1.append r2).same (aN hp)⟩⟩
 .have hg:dE da db= .ok d:=by
   unfold qU at hg;split at hg
   .exact absurd ⟨_,_,rfl,rfl⟩ ht
   .exact hg
  exact eV pins s σ H B da db d x y v u I hb rx ry ra rb hg
theorem BH.or{F F1 F2:au->R (List D)}(h1:BH X tg e F1)(h2:BH X tg e F2)(h:∀δ ds,F δ= .ok ds->F1 δ= .ok ds\/F2 δ= .ok ds):BH X tg e F:=
 ⟨fun pins s σ H R I ⟨Z,B,δ,ds,E,hf,q⟩=>(h δ ds hf).elim (fun z=>h1.1 pins s σ H R I ⟨Z,B,δ,ds,E,z,q⟩) fun z=>h2.1 pins s σ H R I ⟨Z,B,δ,ds,E,z,q⟩⟩
def Bl(f:FD):au->R (List D):=fun δ=>(f δ).bind fun d=>match d with | .lst ds=> .ok (dk ds) | .tup ds=> .ok (dk ds) | _=> .no
theorem zg{elts:List Expr}{k:Nat}{ua:Pos}{p pos:Pos}(h:QD X a f)(hg:Gl X "enumerate")(hm:X.mg "enumerate"=none)(hs:starEach [a] X.env=[(false,eval a X.env)]:=by rfl):BH X (.Tuple elts k ua) (.Call (.Name "enumerate" p) [a] [] pos) (Bl f):=
 BH.or (F1:=jP f) (F2:=wV f) ⟨yH h.1 hg hm hs⟩ (zL h hg hm hs) fun δ ds hf=>by
  obtain⟨d,h1,h2⟩:=R.ai hf;cases d with
  | lst es=>cases h2;exact .inl (by unfold jP;rw [h1];rfl)
  | tup es=>cases h2;exact .inr (by unfold wV;rw [h1];rfl)
  | _=>cases h2
def V2(K:W.Frag)(a:Addr)(n:Nat):It:=
 ⟨fun i H=>∃xs x,oR K H a xs/\xs.length=n/\i < n/\xs[n - 1 - i]? =some x,fun i H v H'=>H'=H/\∀xs,oR K H a xs->xs[n - 1 - i]? =some v,fun i H=>(∃xs,oR K H a xs)/\i=n⟩
theorem EL{K:W.Frag}(a it:Addr)(n:Nat):Turn P w K tg (V2 K a n) [it] it (fun i h=>h.IsRevIter it a ((n:Int) - 1 - (i:Int))) where
 mem:=by simp
 obj:=fun i h st b hb=>by
  have e:b=it:=by simpa using hb
  subst e;obtain⟨o,e,c,d⟩:=st;exact⟨o,e,fun v z=>by rw[d] at z;cases z⟩
 keep:=fun i h h' st k=>st.at fun o e=>k it (by simp) o e
 item:=by
  intro X hP hw hK hc i pins s σ H E I hf st hg;subst hP hw hK;obtain⟨xs,x,hq,hn,hi,hx⟩:=hg;obtain⟨its,rv,p,hz⟩:=I.list hq;obtain⟨u,hu,ru⟩:=rv.get hx;obtain⟨f0,f1,f2,f3,f4,f5⟩:=hf it (by simp)
  have e0:(n:Int) - 1 - (i:Int)=((n - 1 - i:Nat):Int):=by omega
  rw[e0] at st;refine wpAny_pyNext_rev_item st p.isList (x:=u) (by simpa using hu) fun h' GY sb=>?_
  have I1:Inv X pins σ H {s with heap:=h'}:=I.turned (t':=s.toks) (fun b o hb e=>(sb.2 b hb).trans e) f0 f1 f3 f4 f5
  have Hf:h'.IsRevIter it a ((n:Int) - 1 - ((i+1:Nat):Int)):=by
   rw[show((n - 1 - i:Nat):Int) - 1=(n:Int) - 1 - ((i+1:Nat):Int) by omega] at GY;exact GY
  obtain⟨o,e,c,d⟩:=id Hf;exact⟨u,rfl,Bc (s:={s with heap:=h'}) e c d (by decide) ⟨x,H,I1,ru,⟨rfl,fun ys hy=>by rw[I.o_ hy hq];exact hx⟩,Hf,fun b hb=>(hf b hb).1⟩⟩
 done:=by
  intro X hP hw hK hc i pins s σ H E I hf st hg;subst hP hw hK;obtain⟨_,rfl⟩:=hg;obtain⟨f0,f1,f2,f3,f4,f5⟩:=hf it (by simp)
  rw[show(i:Int) - 1 - (i:Int)= -1 by omega] at st
  exact wpAny_pyNext_rev_end (I.ok.hd hc) st fun h' eb=>⟨rfl,I.turned (t':=s.toks) (fun b o hb e=>eb b o hb e) f0 f1 f3 f4 f5⟩
 self:=fun _ _ _ _ _ st h=>wpAny_pyIter_revIter st h
def JX(f:FD):au->R (List D):=fun δ=>(f δ).bind fun d=>match d with | .lst ds=> .ok ds.reverse | _=> .no
theorem EO{tg a:Expr}{p pos:Pos}(h:QD X a f)(hg:Gl X "reversed")(hm:X.mg "reversed"=none)(hs:starEach [a] X.env=[(false,eval a X.env)]:=by rfl):BH X tg (.Call (.Name "reversed" p) [a] [] pos) (JX f):=by
 refine⟨?_⟩;intro pins s σ H RR I ⟨Z,B,δ,ds,E,hf,q⟩;obtain⟨d,h1,h2⟩:=R.ai hf;have hA:=fj h.1 ja hs pos pins s σ H (fun vs H1=>aR H H1/\∃v,vs=[v]/\Rep X.K B H1 d v) I ⟨Z,B,δ,d,E,h1,fun v H1 s1 r1=>⟨s1,v,rfl,r1⟩⟩
 refine Call_ (iq I hg hm boot_reversed (PyProof.Rows.callWith_type1 (c6 hA fun us s1 ⟨vs,H1,I1,r1,ss,v,ev,rr⟩=>?_) hs rfl))
 subst ev;obtain⟨u,rfl,ru⟩:=vals1 r1;cases d with
 | lst es=>
   cases h2;obtain⟨b,xs,rfl,l,rs⟩:=Rep.lst.mp rr;cases ru;obtain⟨its,rv,pl,hz⟩:=I1.list l.sq;have e1:=rv.length;have e2:=rs.length;refine call_reversed_list pl.isList (wpAny_pyIter_revIter (i:=(its.toArray.size:Int) - 1) ⟨_,Heap.get?_push_size _ rfl,rfl,rfl⟩ ?_);refine⟨s1.heap.objs.size,[s1.heap.objs.size],_,_,H1,rfl,I1.kept (t':=s1.toks) fun b o e=>Heap.get?_push_of_some _ e,EL b _ es.length,?_,fun c hc=>?_,q _ H1 ss fun B' H' pr=>?_⟩
   .refine⟨_,Heap.get?_push_size _ rfl,rfl,?_⟩;show Data.fields #[.ref b,rawInt ((its.toArray.size:Int) - 1)]=Data.fields #[.ref b,rawInt ((es.length:Int) - 1 - ((0:Nat):Int))];rw[List.size_toArray,<-e1,<-e2,show((es.length:Nat):Int) - 1 - ((0:Nat):Int)=(es.length:Int) - 1 by omega]
   .have e:c=s1.heap.objs.size:=by simpa using hc
    subst e;exact I1.uD (Nat.le_refl _) (I1.hok.fresh (Nat.le_refl _))
   .have l':uh X.K B' H' b xs:=l.bj pr;have rs':=rs.bj pr;refine⟨fun i d hd=>?_,⟨xs,l'.sq⟩,by rw[List.length_reverse]⟩
    have hi:i < es.length:=by have:=(List.getElem?_eq_some_iff.mp hd).1;rwa [List.length_reverse] at this
    rw[List.getElem?_reverse hi] at hd;obtain⟨x,hx,rx⟩:=rs'.get hd;refine⟨⟨xs,x,l'.sq,e2.symm,hi,hx⟩,fun v nB yl JL=>?_⟩
    obtain⟨rfl,hy⟩:=yl;have Ds:=hy xs l'.sq;rw[hx] at Ds;cases Ds;exact⟨aR.refl _,rx⟩
 | _=>cases h2
def q_(K:W.Frag)(C:Addr)(m qual:Str)(st:Stmt):Prop:=∃f fd,AV K m qual st f fd/\Meth K C m f
def CG(K:W.Frag)(C:Addr)(m qual:Str)(st:Stmt):Prop:=∃f fd,AV K m qual st f fd/\Mk K C f
end
end L2
namespace L3
open PySem PySem.Spec PyProof.Rows L2
section
variable {X:Cx} {cl:Aag}
theorem j7.p{K:W.Frag}{mg:Aaf}{cl:Aag}{k c:Nat}{n:Nat}{N:List Str}(C:j7 P w K mg base cl k c m n (nq N F)):j7 P w K mg base cl k c m n (pA N F):=
 let⟨f,fd,ps,c1,c2,F,h⟩:=C;⟨f,fd,ps,c1,c2,F.imp fun _ _ _ _ h=>zf h,h⟩
end
end L3
end
section
namespace L2
open PySem PySem.Spec PyProof.Rows
section
variable {X:Cx}
def Gd(f:FD):au->R (List D):=fun δ=>(f δ).bind fun d=>match d with | .int j=>R.bh (decide (-(2 ^ 62)<=j/\j < 16777216)) (.ok (cC 0 j.toNat)) | _=> .no
theorem IC{a:Expr}{f:FD}{p p2 pos GK:Pos}(hc:X.calm=true)(h:QD X a f)(hg:Gl X "list")(hm:X.mg "list"=none)(SD:Gl X "range")(Dn:X.mg "range"=none)(hs:starEach [a] X.env=[(false,eval a X.env)]:=by rfl)
 (hs2:starEach [.Call (.Name "range" p2) [a] [] GK] X.env=(false,eval (.Call (.Name "range" p2) [a] [] GK) X.env) ::starEach [] X.env:=by rfl) (lM:(backTo pos (starEach [] X.env)).any (·.1)=false:=by rfl) :
 QN X (.Call (.Name "list" p) [.Call (.Name "range" p2) [a] [] GK] [] pos) (Gd f):=by
 refine⟨?_⟩;intro pins s σ H Q I ⟨Z,B,δ,ds,E,hf,q⟩;obtain⟨d1,h1,h2⟩:=R.ai hf;have key:∃j:Int,d1= .int j/\ -(2 ^ 62)<=j/\j < 16777216/\ds=cC 0 j.toNat:=by
  split at h2
  .obtain⟨h3,h4⟩:=R.bf h2;cases h4;have h3:=of_decide_eq_true h3;exact⟨_,rfl,h3.1,h3.2,rfl⟩
  .cases h2
 obtain⟨j,rfl,VB,Vq,rfl⟩:=key;refine wpAny_Call_Name_kw (iq I hg hm boot_list ?_ (by decide) (by decide))
 refine PyProof.Rows.callWith_type1 ?_ hs2 lM;rw[hs2];show wpAny _ _ (spliced ((false,eval (.Call (.Name "range" p2) [a] [] GK) X.env) ::backTo pos (starEach [] X.env))) _ _ s;refine Calls.spliced_cons ?_;have hA:=fj h.1 ja hs GK pins s σ H (fun vs H1=>aR H H1/\vs=[.int j]) I ⟨Z,B,δ, .int j,E,h1,fun v H1 s1 r1=>⟨s1,by rw[Rep.int.mp r1]⟩⟩
 refine Call_ (iq I SD Dn boot_range (PyProof.Rows.callWith_type1 (c6 hA fun us s1 ⟨vs,H1,I1,r1,ss,ev⟩=>?_) hs rfl))
 subst ev;obtain⟨u,rfl,ru⟩:=vals1 r1;obtain⟨t,rfl⟩:=ru;refine call_range_1 ?_;have I2:Inv X pins σ H1 {s1 with heap:=s1.heap.push {cls:= .type "range",data:= .fields #[.int 0 s1.toks, .int j t, .int 1 (s1.toks+1)]},toks:=s1.toks+1+1}:=I1.kept fun b o e=>Heap.get?_push_of_some _ e
 refine Calls.spliced_nil ?_;have hsz:Builtin.Range.rangeSize 0 j 1=(j.toNat:Nat):=by rw[rangeSize_one];split <;> omega
 have hz:sizeLine=16777216:=sizeLine_eq;refine call_list_range (n:=j.toNat) (I2.ok.hd hc) (IsRange.new ..) (small_one (by omega) (by omega) (by omega) (by omega)) hsz (by omega) fun h' tk acc c' hk MH JM=>?_
 have rv:=yX JM;have hle:((List.range j.toNat).map fun(i:Nat)=>V.int (0+(i:Int))).length<=sizeLine:=by rw[List.length_map,List.length_range];omega
 have hf':H1 (s1.heap.push {cls:= .type "range",data:= .fields #[.int 0 s1.toks, .int j t, .int 1 (s1.toks+1)]}).objs.size=none:=I2.hok.fresh (Nat.le_refl _);have I4:=I2.laid (o:= .lst ((List.range j.toNat).map fun(i:Nat)=>V.int (0+(i:Int)))) (h':=h') (t':=tk) hk (Nat.le_refl _) (show cT X.prog X.w _ _ _ (.lst _) from⟨hle,acc.toList,c',rv,by simpa using MH⟩)
 exact⟨.ref _,_,I4,rfl,q _ _ _ (ss.trans (aN hf')) (ss.free hf') aT (x6 _)⟩
def XG(f:FD):FD:=fun δ=>(f δ).bind fun d=>match d with | .lst ds=> .ok (.lst ds.reverse) | _=> .no
end
end L2
end
section
namespace L2
open PySem PySem.Spec PyProof.Rows
section
variable {X:Cx}
def WG(K:W.Frag)(n:Nat)(t:Eh):TG:=fun v σ H Q=>∃a xs,v= .ref a/\oR K H a xs/\xs.length=n/\t xs σ H Q
end
end L2
namespace L3
open PySem PySem.Spec PyProof.Rows L2
section
variable {X:Cx} {cl:Aag}
def ZO(n:Nat)(t:HY):FG:=fun d δ=>match d with
 | .d (.lst ds)=>if ds.length=n then t (ds.map .d) δ else none
 | .lst vs=>if vs.length=n then t vs δ else none
 | _=>none
def LR(f g:FX):FA:=fun δ S=>(aq f (aq g bC) δ S).bind fun vs S1=>match vs with
 | [.d d, .d e]=>(match seqD? d,seqD? e with | some ds,some es=> .ok ((xo ds es).map .d) S1 | _,_=> .no)
 | _=> .no
theorem Im{elts:List Expr}{k:Nat}{ua:Pos}{p pos:Pos}(h:PX X cl a f)(h':PX X cl b g)(hg:Gl X "zip")(hm:X.mg "zip"=none)(hs:starEach [a,b] X.env=[(false,eval a X.env),(false,eval b X.env)]:=by rfl)(hs2:starEach [b] X.env=[(false,eval b X.env)]:=by rfl) :
 Mp X cl (.Tuple elts k ua) (.Call (.Name "zip" p) [a,b] [] pos) (LR f g):=by
 refine⟨?_⟩;intro pins s σ H RR I ⟨ρ,S,δ,vs,S',E,hf,q⟩;obtain⟨ws,S1,h1,h2⟩:=R3.ai hf;have hA:=(ae h (ae h' aA hs2) (by rw[hs,hs2])).1 pos pins s σ H (fun us H1=>∃bU,Pre ρ H bU H1/\SW X.K cl bU H1 S1/\aD X.K bU H1 ws us) I
  ⟨ρ,S,δ,ws,S1,E,h1,fun us bU H1 p1 w1 r1=>⟨bU,p1,w1,r1⟩⟩
 refine Call_ (iq I hg hm boot_zip (PyProof.Rows.callWith_type1 (c6 hA fun us s1 ⟨xs,H1,I1,r1,bU,p1,w1,rr⟩=>?_) (by rw[hs,hs2]) (by rw[hs2];rfl)))
 rcases hsh:ws with _ | ⟨w0,_ | ⟨w2,_ | ⟨w3,wr⟩⟩⟩ <;> subst hsh
 .cases h2
 .cases w0 <;> cases h2
 .rcases w0 with d | _ | _ | _ <;> rcases w2 with e | _ | _ | _ <;> try (cases h2;done)
  have h2:(match seqD? d,seqD? e with | some ds,some es=>R3.ok ((xo ds es).map V3.d) S1 | _,_=> .no)= .ok vs S':=h2
  cases e1:seqD? d with
  | none=>rw [e1] at h2;cases h2
  | some ls=>
    cases e2:seqD? e with
    | none=>rw [e1,e2] at h2;cases h2
    | some ms=>
      rw[e1,e2] at h2;cases h2;obtain⟨v,ys,ev,ra,rr⟩:=rr.cb;obtain⟨v',zs,Dr,rb,rr⟩:=rr.cb;unfold aD at rr;subst rr Dr ev;obtain⟨u,u',rfl,ru,TC⟩:=vals2 r1;unfold bc at ra rb;obtain⟨t,a,xs,rfl,k1⟩:=ra.HQ e1;obtain⟨w,b,ys,rfl,k2⟩:=rb.HQ e2;cases ru;cases TC;obtain⟨its,rv,pp⟩:=I1.HQ (k1 bU.b H1 (dn.refl _ H1)).1;obtain⟨jts,Dy,Vi⟩:=I1.HQ (k2 bU.b H1 (dn.refl _ H1)).1;have la:=pp.lt;have lb:=Vi.lt;refine C6 pp Vi fun f_ hz Ao BR YZ XN kk=>wpAny_pyIter_zip hz ?_
      have I2:Inv X pins σ H1 {s1 with heap:=f_}:=I1.kept (t':=s1.toks) kk
      refine⟨s1.heap.objs.size+4,[s1.heap.objs.size+4,s1.heap.objs.size+2,s1.heap.objs.size+3,s1.heap.objs.size,s1.heap.objs.size+1],_,_,H1,rfl,I2,FW (t:=t) (u:=w) (zipApart_new la lb),⟨hz,Ao,⟨_,_,BR⟩,YZ,XN⟩,fun c hc=>?_,q _ bU H1 p1 w1 (M5.of fun B' H' pr=>?_)⟩
      .have hle:s1.heap.objs.size<=c:=by
        simp only[List.mem_cons,List.not_mem_nil,or_false] at hc;rcases hc with rfl | rfl | rfl | rfl | rfl <;> omega
       exact I1.uD hle (I1.hok.fresh hle)
      .obtain⟨l1,PM⟩:=k1 B' H' pr;obtain⟨l2,PQ⟩:=k2 B' H' pr;refine⟨fun i d hd=>?_,⟨xs,ys,l1,l2,?_⟩⟩
       .unfold xo at hd;rw[List.getElem?_map] at hd;cases ez:(ls.zip ms)[i]? with
        | none=>rw [ez] at hd;cases hd
        | some pr'=>
          rw[ez] at hd;have hd:D.tup [pr'.1,pr'.2]=d:=Option.some.inj hd;obtain⟨ea,eb⟩:=List.getElem?_zip_eq_some.mp ez;obtain⟨x,hx,rx⟩:=PM.get ea;obtain⟨y,hy,ry⟩:=PQ.get eb;refine⟨⟨xs,ys,x,y,l1,l2,hx,hy⟩,fun v nB yl JL=>?_⟩
          obtain⟨p,x2,y2,hp,rfl,Hc,Ds,rfl⟩:=yl;refine⟨aN hp,?_⟩;subst hd;have Hc:=Hc xs l1;have Ds:=Ds ys l2;rw[hx] at Hc;cases Hc;rw[hy] at Ds;cases Ds;refine Rep.tup.mpr ⟨p,_,rfl, .inl ⟨fun ha=>?_, .inl aT⟩,aF.cons (rx.same (aN hp)) (aF.cons (ry.same (aN hp)) aF.nil)⟩
          obtain⟨o,ho⟩:=JL p ha;rw[hp] at ho;cases ho
       .rw [<-PM.length,<-PQ.length];unfold xo;rw[List.length_map,List.length_zip];omega
 .cases w0 <;> cases w2 <;> cases h2
theorem O8{f g:FX}{δ:DE}{S:aI}{Q:List V3->aI->Prop}(h:W3 (f δ S) fun v S1=>W3 (g δ S1) fun w S2=>∃d e ds es,v= .d d/\w= .d e/\seqD? d=some ds/\seqD? e=some es/\Q ((xo ds es).map .d) S2):W3 (LR f g δ S) Q:=
 W3.bind (W3.bind (h.mono fun v S1 h2=>W3.bind (W3.bind (h2.mono fun w S2 ⟨d,e,ds,es,e1,g8,e3,e4,q⟩=>by
  subst e1 g8;exact W3.bind (W3.ok (W3.ok (W3.ok (by simp only[e3,e4];exact W3.ok q))))))))
def C4(S:aI):Prop:=∀o∈S,pI S.length o=true
theorem Flat.clo{S:aI}(h:Flat S):C4 S:=fun o ho=>h o ho _
theorem NF{N:List Str}{vs:List V3}{S:aI}{QV:V3->aI->Prop}(h:W3 (nq N F vs S) fun v S1=>(∀o∈S1.take S.length,pI S.length o=true)/\ei S.length v=true/\∃d,res S1 v=some d/\QV (.d d) (S1.take S.length)):W3 (pA N F vs S) QV:=
 W3.bind (h.mono fun v S1 ⟨hl,hg,d,e,q⟩=>by
  rw[e];exact W3.wh (by rw[List.all_eq_true.mpr hl,hg];rfl) (W3.ok q))
theorem pk{N:List Str}{vs:List V3}{S:aI}{QV:V3->aI->Prop}(hS:C4 S)(h:W3 (nq N F vs S) fun v S1=>ei S.length v=true/\(∃T,S1=S++T)/\∃d,res S1 v=some d/\QV (.d d) S):W3 (pA N F vs S) QV:=
 NF (h.mono fun v S1 ⟨hg,⟨T,e1⟩,d,e,q⟩=>by
  subst e1;rw[List.take_append_of_le_length (Nat.le_refl _),List.take_length];exact⟨hS,hg,d,e,q⟩)
end
end L3
end
section
namespace L2
open PySem PySem.Spec PyProof.Rows
section
variable {X:Cx}
def ois?:List D->Option (List (Option Int))
 | []=>some []
 | .int i ::ds=>(ois? ds).map (some i ::·)
 | .cR ::ds=>(ois? ds).map (none ::·)
 | _ ::_=>none
def ZG:Option Int->V | some i=> .int i | none=> .cR
def Xr(d e:D):R Bool:=match d,e with
 | .cR, .lst ds=>(match ois? ds with | some ss=> .ok (ss.any (·.isNone)) | none=> .no)
 | _,_=> .no
def VJ(d e:D):R D:=(Xr d e).bind fun b=> .ok (.bl b)
end
end L2
end
section
namespace L2
open PySem PySem.Spec PyProof.Rows
section
variable {X:Cx}
def Rw(d:D)(ds:List D):R D:=match d,ds with
 | .lst es,[.int k]=>(match ints? es with | some ss=> .ok (.int (ss.count k:Nat)) | none=> .no)
 | _,_=> .no
end
end L2
end
section
namespace L2
open PySem PySem.Spec PyProof.Rows
section
variable {X:Cx}
abbrev We:D->D->R D:=xk (fun i j=>decide (0<=j/\j < 1000/\ -1000 < i/\i < 1000)) fun i j=>i*2 ^ j.toNat
def T7(d e:D):R D:=match d,e with | .bl a, .bl b=> .ok (.bl (a !=b)) | _,_=> .no
end
end L2
namespace L3
open PySem PySem.Spec PyProof.Rows L2
section
variable {X:Cx} {cl:Aag}
def Ue(fo f:FX):FZ:=fun δ S=>(fo δ S).bind fun o S0=>match o with
 | .loc k=>(match cU S0 k with
   | none=> .no
   | some _=>(f δ S0).bind fun v S1=>match v with
     | .d d=>(match cU S1 k with | some ds=>R3.bh (decide (ds.length < sizeLine)) (.ok (.nx δ) (S1.set k (.lst (ds++[d])))) | none=> .no)
     | _=> .no)
 | _=> .no
def T_(f:FX):FA:=fun δ S=>(aq f bC δ S).bind fun vs S1=>match vs with
 | [.d (.lst ds)]=> .ok ((dk ds).map .d) S1
 | _=> .no
end
end L3
end
section
namespace L2
open PySem PySem.Spec PyProof.Rows
section
variable {X:Cx}
end
end L2
end
section
namespace L3
open PySem PySem.Spec PyProof.Rows L2
section
variable {cl:Aag}
def RY(it:FA)(t:FG)(c:FB)(f:FX)(own:List Str)(kp:List Nat):FX:=fun δ S=>(it δ S).bind fun vs S1=>R3.bh (decide (vs.length<=sizeLine)) ((mq t c f (mz own kp δ) vs S1).bind fun ys S2=>match pY ys with | some ds=> .ok (.loc S2.length) (S2++[.lst ds]) | none=> .no)
end
section
variable {X:Cx} {cl:Aag}
end
end L3
end
section
namespace L3
open PySem PySem.Spec PyProof.Rows L2
section
variable {X:Cx} {cl:Aag}
def QC(g:List D->R D)(fs:FA):FX:=fun δ S=>(fs δ S).bind fun vs S1=>match xM S1 vs with
 | some ds=>(R3.of (g ds) S1).bind fun d S=>R3.bh (lq d) (.ok (.d d) S)
 | none=> .no
end
end L3
end
section
namespace L2
open PySem PySem.Spec PyProof.Rows
section
variable {X:Cx}
def VX(f:FD):FD:=fun δ=>(f δ).bind fun d=>match d with | .int i=> .ok (.int (-i - 1)) | _=> .no
def Xt(d:D)(lo hi:Option Int):R D:=match d with
 | .tup ds=>R.bh (decide (¬(HT.eG ds.length 0 lo=0/\HT.eG ds.length ds.length hi=ds.length))) (.ok (.tup (cutD ds lo hi)))
 | _=> .no
def Wi(f:FD)(fl fh:FO):FD:=fun δ=>(f δ).bind fun d=>(fl δ).bind fun lo=>(fh δ).bind fun hi=>Xt d lo hi
end
end L2
namespace L3
open PySem PySem.Spec PyProof.Rows L2
section
variable {X:Cx} {cl:Aag}
structure ZU (X:Cx) (cl:Aag) (st:List Stmt) (F:FZ):Prop where
 go:u7 X st (fun D σ H=>D.ct=D.nx/\sX X.K cl F D σ H)
end
end L3
end
section
namespace L2
open PySem PySem.Spec PyProof.Rows
end L2
namespace L3
open PySem PySem.Spec PyProof.Rows L2
section
variable {X:Cx} {cl:Aag}
def V4(i:Nat)(f:FX):FX:=fun δ S=>match jh δ i with
 | none=> .no
 | some k=>match cU S k with
   | none=> .no
   | some _=>(f δ S).bind fun v S1=>match v with
     | .d (.int j)=>(match cU S1 k with
       | some ds=>(match yT ds.length j with
         | some p=>(match ds[p]? with | some d=>R3.bh (decide (-(2 ^ 63)<=j/\j < 2 ^ 63)) (.ok (.d d) (S1.set k (.lst (ds.eraseIdx p)))) | none=> .no)
         | none=> .no)
       | none=> .no)
     | _=> .no
end
end L3
end
section
namespace L3
open PySem PySem.Spec PyProof.Rows L2
section
variable {X:Cx} {cl:Aag}
def Xj(f:FX)(fl fh:Nc):FX:=fun δ S=>(f δ S).bind fun v S1=>(fl δ S1).bind fun lo S2=>(fh δ S2).bind fun hi S3=>match v with
 | .lst vs=> .ok (.lst (L2.cutD vs lo hi)) S3
 | _=> .no
end
end L3
end
section
namespace L2
open PySem PySem.Spec PyProof.Rows
section
variable {X:Cx}
theorem yz:∀{ns:List Int} {us:List Value},us.length=ns.length->(∀(j:Nat) (v:Value) (n:Int),us[j]? =some v->ns[j]? =some n->∃t,v=Value.int n t)->Vals (ns.map V.int) us
 | [],[],_,_=> .nil
 | [],_ ::_,h,_=>by simp at h
 | _ ::_,[],h,_=>by simp at h
 | n ::ns,u ::us,h,hv=> .cons (hv 0 u n rfl rfl) (yz (by simpa using h) fun j v m h1 h2=>hv (j+1) v m h1 h2)
theorem gather{P:Program}{w:World}{B:Around}{E:Aab}{z:Shared}{ty:String}{src own:Addr}{len:Nat}{it:Nat->Value->Prop}{ok:Heap->Prop}{Y:List Value->Shared->Prop}(G:PySem.W.KdlSrc P w ty src own len it ok)(nh:B.handled=none)(o0:ok z.heap)(G5:len<=sizeLine)
 (fin:∀(g:Heap) (tk:Nat) (xs:Array Value),z.heap.objs.size < g.objs.size->(∀b o,z.heap.get? b=some o->g.get? b=some o)->ItemsOf it xs len->Y xs.toList {z with heap:=g,toks:=tk}):wpAny (model P w) B (collect (.ref src)) Y E z:=by
 obtain⟨l1,l2⟩:=G.there _ o0
 let z1:Shared:={z with heap:=z.heap.push {cls:= .type "list",data:= .seq ([]:List Value).toArray}}
 let Fn:Result->Shared->Prop:=fun q y=>∃g tk xs c,q= .ok (.ret (.ref z.heap.objs.size))/\y={z with heap:=g,toks:=tk}/\(∀b o,z.heap.get? b=some o->g.get? b=some o)/\g.get? z.heap.objs.size=some {cls:= .type "list",dict:=none,data:= .seq xs c,slots:=#[]}/\ItemsOf it xs len
 have mid:wpAny (model P w) B.in1 (Builtin.List.listExtendWith (.ref z.heap.objs.size) (.ref src) (.ref z.heap.objs.size)) (fun q y=>match q with | .done f=>Fn (.ok f) y | .again c=>c.quiet=true/\codeAny (model P w) B c Fn y) (fun e y=>Fn (.error e) y) z1:=
  PySem.W.kdl_extend (s:=z1) (R:=Fn) G nh (G.keep _ _ o0 fun b _ o e=>Heap.get?_push_of_some _ e) _ (Nat.ne_of_gt l1) (Nat.ne_of_gt l2) _ 0 (Heap.get?_push_size _ rfl)
   (fun g tk xs c hk hg hi=>⟨g,tk,xs,c,rfl,rfl,fun b o e=>hk b o (Nat.ne_of_lt (Heap.lt_size e)) (Heap.get?_push_of_some _ e),hg,hi⟩) G5
 have out:∀q y,Fn q y->q= .ok (.ret (.ref z.heap.objs.size))/\∃g tk xs c,y={z with heap:=g,toks:=tk}/\g.get? z.heap.objs.size=some {cls:= .type "list",dict:=none,data:= .seq xs c,slots:=#[]}/\Y xs.toList {z with heap:=g,toks:=tk}:=fun q y ⟨g,tk,xs,c,e1,e2,hk,hg,hi⟩=>⟨e1,g,tk,xs,c,e2,hg,fin g tk xs (Heap.lt_size hg) hk hi⟩
 unfold collect;refine wpAny_bind (wpAny_runValue (codeAny_builtin entry_proto_collect' ?_));rw[Around.under_plainId PySem.F.plain_proto_collect _];refine wpAny_bind (m:=newList []) (wpAny_newObj_type (wpAny_pure ⟨plainId_quiet PySem.F.plain_list_iadd _,codeAny_builtin entry_list_iadd' ?_⟩));rw[Around.under_plainId PySem.F.plain_list_iadd _];refine wpAny_mono mid (fun q y hq=>?_) fun e y he=>?_
 .cases q with
  | done f=>
    obtain⟨e1,g,tk,xs,c,rfl,hg,hy⟩:=out _ _ hq;cases e1;exact wpAny_bind (wpAny_load hg (wpAny_pure hy))
  | again c=>
    refine⟨hq.1,codeAny_mono hq.2 fun q y hq=>?_⟩
    obtain⟨rfl,g,tk,xs,c,rfl,hg,hy⟩:=out _ _ hq;exact wpAny_bind (wpAny_load hg (wpAny_pure hy))
 .obtain⟨e1,_⟩:=out _ _ he;cases e1
def Rc:List V->Hp->VK->Prop:=fun xs H Q=>∃a aV ns,xs=[V.ref a]/\H a=some (.dK aV)/\aV.map (·.1)=ns.map Sum.inl/\ns.length < 64/\∀p,H p=none->Q (.ref p) (upd H p (.lst ((nF ns).map V.int)))
end
end L2
end
section
namespace L3
open PySem PySem.Spec PyProof.Rows L2
section
variable {X:Cx} {cl:Aag}
def Ib(aV:List (Key × D))(k:Key)(d:D):List (Key × D):=if(aV.any fun kv=>decide (kv.1=k))=true then aV.map (fun kv=>if kv.1=k then(kv.1,d) else kv) else aV++[(k,d)]
def xJ(S:aI)(k:Nat):Option (List (Key × D)):=match S[k]? with | some (.dct aV)=>some aV | _=>none
def T8:FX:=fun δ S=> .ok (.loc S.length) (S++[.dct []])
def Uk(fo fi fe:FX):FZ:=fun δ S=>(fe δ S).bind fun v S1=>(fo δ S1).bind fun o S2=>(fi δ S2).bind fun j S3=>match v,o,j with
 | .d d, .loc k, .d (.int n)=>(match xJ S3 k with | some aV=>R3.bh (decide (aV.length < sizeLine)) (.ok (.nx δ) (S3.set k (.dct (Ib aV (Sum.inl n) d)))) | none=> .no)
 | _,_,_=> .no
def W5(fa fo:FX):FX:=fun δ S=>(fa δ S).bind fun j S1=>(fo δ S1).bind fun o S2=>match j,o with
 | .d (.int n), .loc k=>(match xJ S2 k with | some aV=> .ok (.d (.bl (aV.any fun kv=>decide (kv.1=Sum.inl n)))) S2 | none=> .no)
 | _,_=> .no
def intK?:List Key->Option (List Int)
 | []=>some []
 | .inl n ::ks=>(intK? ks).map (n ::·)
 | .inr _ ::_=>none
def Rr(f:FX):FX:=fun δ S=>(f δ S).bind fun o S1=>match o with
 | .loc k=>(match xJ S1 k with
   | some aV=>(match intK? (aV.map (·.1)) with | some ns=>R3.bh (decide (ns.length < 64)) (.ok (.d (.lst ((nF ns).map .int))) S1) | none=> .no)
   | none=> .no)
 | _=> .no
end
end L3
end
section
namespace L2
open PySem PySem.Spec PyProof.Rows
section
variable {X:Cx}
def P2:V->List V->Hp->VK->Prop:=fun x vs H Q=>∃(l:Addr) (xs:List V) (j:Int) (i:Nat) (y:V),x= .ref l/\vs=[.int j,y]/\H l=some (.lst xs)/\j=i/\i<=xs.length/\xs.length < sizeLine/\Q .cR (upd H l (.lst (xs.take i++y ::xs.drop i)))
end
end L2
namespace L3
open PySem PySem.Spec PyProof.Rows L2
section
variable {X:Cx} {cl:Aag}
def W9(i:Nat)(f g:FX):FZ:=fun δ S=>match jh δ i with
 | none=> .no
 | some k=>match cU S k with
   | none=> .no
   | some _=>(f δ S).bind fun v S1=>match v with
     | .d (.int j)=>(g δ S1).bind fun w S2=>(match w with
       | .d d=>(match cU S2 k with
         | some ds=>R3.bh (decide (0<=j/\j.toNat<=ds.length/\ds.length < sizeLine)) (.ok (.nx δ) (S2.set k (.lst (ds.take j.toNat++d ::ds.drop j.toNat))))
         | none=> .no)
       | _=> .no)
     | _=> .no
end
end L3
end
section
namespace L3
open PySem PySem.Spec PyProof.Rows L2
section
variable {X:Cx} {cl:Aag}
structure ZL (X:Cx) (pos:Pos) (keys:List (Option Expr)) (values:List Expr) (ks:List Str) (g:au->R (List D)):Prop where
 h:∃vD,Mn X pos keys values vD/\∀(σ:L2.St) (H:Hp) (Q:List (V × V)->Hp->Prop),(∃Z B δ ds,dR X.K Z B H σ δ/\g δ= .ok ds/\∀vs H',aR H H'->aF X.K B H' ds vs->Q ((ks.zip vs).map fun p=>(V.str p.1,p.2)) H')->pZ vD σ H Q
def LD(ks:List Str)(ns:List Int):List (Key × D):=(ks.zip ns).foldl (fun acc p=>Ib acc (Sum.inr p.1) (.int p.2)) []
def Rj(ks:List Str)(g:au->R (List D)):FX:=fun δ S=>(R3.of (g (down δ)) S).bind fun ds S=>match ints? ds with
 | some ns=>R3.bh (decide (ns.length=ks.length/\ks.length<=15)) (.ok (.loc S.length) (S++[.dct (LD ks ns)]))
 | none=> .no
def RT(aV:List (Key × D))(k:Key):Option D:=(aV.find? fun kv=>decide (kv.1=k)).map (·.2)
def US(i:Nat)(f g:FD):FX:=fun δ S=>match jh δ i with
 | none=> .no
 | some k=>match xJ S k with
   | none=> .no
   | some aV=>(R3.of (f (down δ)) S).bind fun kd S=>(R3.of (g (down δ)) S).bind fun d S=>match kd with
     | .str x=> .ok (.d ((RT aV (Sum.inr x)).getD d)) S
     | _=> .no
end
end L3
end
section
namespace L2
open PySem PySem.Spec PyProof.Rows
section
variable {X:Cx}
def Vd:List D->R D
 | [.tup ds]=>(match ints? ds with | some ns=> .ok (.int ns.sum) | none=> .no)
 | ds=>Q2 ds
end
end L2
end
section
namespace L2
open PySem PySem.Spec PyProof.Rows
section
variable {X:Cx}
def Vg(d e:D):R D:=match d,e with
 | .tup a, .int k=>R.bh (decide (2<=k/\k < 1000/\a≠[]/\a.length*k.toNat<=sizeLine)) (.ok (.tup (List.replicate k.toNat a).flatten))
 | d,e=>l3 d e
end
end L2
end
section
namespace L2
open PySem PySem.Spec PyProof.Rows
def Uq(P:Program)(w:World):Du:=fun outer H s E e s'=>
 ∃(a:Addr) (B:Heap) (cls a0:Value) (H':Hp),e= .ref a/\s'.os=s.os/\AllBare s'.gens/\Un (BE outer) [] H H' s.heap s'.heap/\nu P w H' s'.heap/\Heap.FlyingW B outer a cls a0 s'.heap/\
  (∀b o,s'.heap.get? b=some o->b ∉ BE outer->((∃u,s.heap.get? b=some u)\/∃u,H' b=some u)->B.get? b=some o)/\E cls none H'
section
variable {X:Cx} {pins:Aaa} {σ:St} {H1 H':Hp} {s1 s':Shared} {B ZY:Heap} {a:Addr} {cls a0:Value} {E:XK}
end
section
variable {P:Program} {w:World} {K:W.Frag} {mg:Aaf} {base:Heap} {N:List Str} {qual:Str} {scope:Scope} {f:Addr} {cd:Value} {A:Around} {outer:List Env} {s:Shared} {H:Hp} {E:XK}
end
end L2
end
section
namespace L2
open PySem PySem.Spec PyProof.Rows
def Xe:List Value:=[.type "ValueError", .type "Exception", .type "BaseException", .type "object"]
structure XC (K:W.Frag) (C:Addr):Prop where
 ex:PySem.W.excIn K C Xe "ValueError.__new__"=true
 ga:PySem.W.findIn K (.ref C) "__getattribute__"=some (some (.builtin "BaseException.__getattribute__"))
 gt:PySem.W.findIn K (.ref C) "__getattr__"=some none
 co:PySem.W.findIn K (.ref C) "__class__"=some (some (.builtin "object.__class__"))
 gs:PySem.W.specialIn K (.builtin "object.__class__") "__get__"=some (some (.builtin "getset_descriptor.__get__"))
 tk:PySem.W.takesIn K (.builtin "object.__class__")=some true
 mo:PySem.W.mroIn K C (.type "object")=some true
 mb:PySem.W.mroIn K C (.type "BaseException")=some true
 ic:(PySem.W.clsIn K C).isSome=true
def WU(x C:Addr)(h:Heap):Prop:=∃o,h.get? x=some o/\o.cls= .ref C
section
variable {prog:Program} {w:World} {A:Around} {E:Aab} {s:Shared} {K:W.Frag} {x C:Addr}
end
end L2
end
section
namespace L3
open PySem PySem.Spec PyProof.Rows L2
def M6{α:Type}(r:R3 α):R3 α:=match r with | .ex _ _=> .no | .ok a S=> .ok a S | .no=> .no
def OV(K:W.Frag)(cl:Aag)(E:XK)(ρ:P3)(H:Hp)(S':aI)(c:Nat):Prop:=∀cn H',Pre ρ H cn H'->SW K cl cn H' S'->E (.ref (cl c)) none H'
def WK(K:W.Frag)(cl:Aag)(E:XK)(f:FX):TE:=fun σ H Q=>∃ρ S δ,er K cl ρ H S σ δ/\((∃v S',f δ S= .ok v S'/\∀u cn H',Pre ρ H cn H'->SW K cl cn H' S'->bc K cn H' v u->Q u H')\/∃c S',f δ S= .ex c S'/\OV K cl E ρ H S' c)
def RB(K:W.Frag)(cl:Aag)(E:XK)(f:FA):TA:=fun σ H Q=>∃ρ S δ,er K cl ρ H S σ δ/\((∃vs S',f δ S= .ok vs S'/\∀us cn H',Pre ρ H cn H'->SW K cl cn H' S'->aD K cn H' vs us->Q us H')\/∃c S',f δ S= .ex c S'/\OV K cl E ρ H S' c)
def Uw(K:W.Frag)(cl:Aag)(E:XK)(F:FZ):TS:=fun D σ H=>∃ρ S δ,er K cl ρ H S σ δ/\((∃o S',F δ S= .ok o S'/\CW K cl ρ H D S' o)\/∃c S',F δ S= .ex c S'/\OV K cl E ρ H S' c)
structure Zu (X:Cx) (cl:Aag) (E:XK) (e:Expr) (f:FX):Prop where
 go:PE X e (WK X.K cl E f)
structure Xd (X:Cx) (cl:Aag) (E:XK) (es:List Expr) (f:FA):Prop where
 go:PA X es (RB X.K cl E f)
structure Zt (X:Cx) (cl:Aag) (E:XK) (st:Stmt) (F:FZ):Prop where
 go:PS X st (Uw X.K cl E F)
structure WV (X:Cx) (cl:Aag) (E:XK) (st:List Stmt) (F:FZ):Prop where
 go:u7 X st (Uw X.K cl E F)
section
variable {X:Cx} {cl:Aag} {E:XK}
def Zn(f:FX):FX:=fun δ S=>M6 (f δ S)
def Wb(f:FA):FA:=fun δ S=>M6 (f δ S)
def ZI(f:FZ):FZ:=fun δ S=>M6 (f δ S)
def OY(K:W.Frag)(cl:Aag)(n:Nat)(g:List V3->aI->R3 V3):Sp:=fun vs H Q E=>vs.length=n/\∃ρ S xs,SW K cl ρ H S/\aD K ρ H xs vs/\
 ((∃v S',g xs S= .ok v S'/\∀u cn H',Pre ρ H cn H'->SW K cl cn H' S'->bc K cn H' v u->Q u H')\/∃c S',g xs S= .ex c S'/\OV K cl E ρ H S' c)
def Hk(P:Program)(w:World)(K:W.Frag)(mg:Aaf)(base:Heap)(cl:Aag)(k:Nat)(x:Str)(n:Nat)(g:List V3->aI->R3 V3):Prop:=
 ∃(f:Addr) (fd:FuncData) (ps:List Str),ie P w K mg base (Uq P w) k f fd ps (OY K cl n g)/\mg x=some (.ref f)/\PySem.W.keepIn K (.ref f)=true/\Binds K fd ps []
def Zy(f:FB):FB:=fun δ S=>M6 (f δ S)
def RA(X:Cx)(E:XK):Prop:=∀(pins:Aaa) (σ:L2.St) (H:Hp) (s:Shared) (h':Heap) (a:Addr) (cls:Value) (vs:List Value),Inv X pins σ H s->Heap.MadeExcOf s.heap h' a cls vs->E cls none H->X.xe (.ref a) {s with heap:=h'}
def R1(c:Nat)(fs:FA):FZ:=fun δ S=>(fs δ S).bind fun vs S=>R3.bh (decide (vs.length<=sizeLine)) (.ex c S)
end
end L3
end
section
namespace L2
open PySem PySem.Spec PyProof.Rows
abbrev Cx.alt(X:Cx)(A:Around)(calm:Bool)(pn:Aaa)(xe:Aab):Cx:={X with A:=A,calm:=calm,pn:=pn,xe:=xe}
section
variable {X:Cx} {pins GP:Aaa} {σ:St} {H H1 H':Hp} {s s1 s':Shared}
end
end L2
namespace L3
open PySem PySem.Spec PyProof.Rows L2
section
variable {X:Cx} {cl:Aag}
def Xa(F:FZ)(ok:Nat->Bool)(i:Nat)(G:FZ):FZ:=fun δ S=>match F δ S with
 | .ok o S'=> .ok o S'
 | .ex c S'=>R3.bh (ok c) ((M6 (G ((List.replicate δ.length none).set i (some (.loc S'.length))) (S'++[.exc c]))).bind fun o S2=>match o with | .nx dN=> .ok (.nx (dN.set i none)) S2 | .rt v=> .ok (.rt v) S2)
 | .no=> .no
end
end L3
end
section
namespace L2
open PySem PySem.Spec PyProof.Rows
def Ag:V->Bool | .ref _=>true | .ty _=>true | _=>false
def KW:V->Value | .ref a=> .ref a | .ty n=> .type n | _=> .none
section
variable {X:Cx}
def VQ(K:W.Frag):List V->Hp->VK->Prop:=fun xs H Q=>∃a b C cv k,xs=[V.ref a,cv]/\H a=some (.ext (L3.isExc C b))/\XC K C/\Ag cv=true/\PySem.W.kitOne K (.ref C) (KW cv)=some k/\Q (.bl k) H
def Xb(K:W.Frag):List V->Hp->VK->Prop:=fun xs H Q=>∃cv k,xs=[V.cR,cv]/\Ag cv=true/\PySem.W.kitOne K (.type "NoneType") (KW cv)=some k/\Q (.bl k) H
def Xi(K:W.Frag):List V->Hp->VK->Prop:=fun xs H Q=>∃a b C tp Po k,xs=[V.ref a,V.ref tp]/\H a=some (.ext (L3.isExc C b))/\XC K C/\H tp=some (.tup Po)/\Po.all Ag=true/\PySem.W.kitAny K (.ref C) (Po.map KW)=some k/\Q (.bl k) H
end
end L2
namespace L3
open PySem PySem.Spec PyProof.Rows L2
section
variable {X:Cx} {cl:Aag} {E:XK}
def WX(f:FX)(tb:Nat->Option Bool):FX:=fun δ S=>(f δ S).bind fun v S1=>match v with
 | .loc k=>(match S1[k]? with | some (.exc c)=>(match tb c with | some b=> .ok (.d (.bl b)) S1 | none=> .no) | _=> .no)
 | .d .cR=> .ok (.d (.bl false)) S1
 | _=> .no
def VR(f:FX)(tb:Nat->Option Bool):FX:=fun δ S=>(f δ S).bind fun v S1=>match v with
 | .loc k=>(match S1[k]? with | some (.exc c)=>(match tb c with | some b=> .ok (.d (.bl b)) S1 | none=> .no) | _=> .no)
 | _=> .no
def Zv(Po:List V):TA:=fun _ H Q=>Q Po H
end
end L3
end
section
namespace L3
open PySem PySem.Spec PyProof.Rows L2
section
variable {α β:Type} {S S':aI} {δ:DE} {c:Nat}
end
end L3
end
section
namespace L3
open PySem PySem.Spec PyProof.Rows L2
def ZE(K:W.Frag)(mg:Aaf)(x:Str):Prop:=∃f,PySem.W.nsIn K mainGlobals x=some (some (.ref f))/\mg x=some (.ref f)
section
variable {X:Cx} {cl:Aag} {E:XK}
def ZK(x:Str):FX:=fun _ S=> .ok (.fn x) S
abbrev GT:=List (Str × (List V3->aI->R3 V3))
def Ft(P:Program)(w:World)(K:W.Frag)(mg:Aaf)(base:Heap)(cl:Aag)(j n:Nat)(l:GT):Prop:=∀x g,l.lookup x=some g->∃k,k<=j/\Hk P w K mg base cl k x n g
def Qv(i:Nat)(l:GT)(fs:FA):FX:=fun δ S=>match δ[i]? with
 | some (some (.fn x))=>(match l.lookup x with | some g=>(fs δ S).bind g | none=> .no)
 | _=> .no
end
end L3
end
section
namespace HT
open PySem PySem.Spec PyProof.Rows
section
variable {prog:Program} {w:World} {A:Around} {E:Aab} {s:Shared}
end
end HT
namespace L2
open PySem PySem.Spec PyProof.Rows
def CT:D->Option Key
 | .int n=>some (Sum.inl n)
 | .str x=>some (Sum.inr x)
 | _=>none
def OB(ks:List Key)(k:Key):Bool:=ks.any fun x=>decide (x=k)
def RJ(ks:List Key)(ds:List D)(k:Key):Option D:=((ks.zip ds).find? fun p=>decide (p.1=k)).map (·.2)
def WD(a b:D):R D:=match b with
 | .dct ks _=>(match CT a with | some k=> .ok (.bl (OB ks k)) | none=> .no)
 | _=> .no
def WB(a b:D):R D:=match b with
 | .dct ks _=>(match CT a with | some k=> .ok (.bl (!OB ks k)) | none=> .no)
 | _=> .no
def UK(d k:D):R D:=match d with
 | .dct ks ds=>(match CT k with | some k=>(match RJ ks ds k with | some x=> .ok x | none=> .no) | none=> .no)
 | _=> .no
section
variable {X:Cx}
def UW(f:FD):FD:=fun δ=>(f δ).bind fun d=>match d with | .tup ds=> .ok (.tup ds.reverse) | _=> .no
def T4(i:Nat)(f:FD):FS:=fun δ=>(f δ).bind fun d=>match seqD? d with
 | some es=>(sM δ i).bind fun ds=>R.bh (decide (ds.length+es.length<=sizeLine)) (.ok (.nx (δ.set i (.bld (ds++es)))))
 | none=> .no
def UX(f g:FD):au->R (List D):=fun δ=>(f δ).bind fun d=>(g δ).bind fun e=>match d,e with
 | .int i, .int j=>R.bh (decide (-(2 ^ 62)<=i/\i < 2 ^ 62/\ -(2 ^ 62)<=j/\j < 2 ^ 62/\j - i < 16777216)) (.ok (cC i (j - i).toNat))
 | _,_=> .no
end
end L2
namespace L3
open PySem PySem.Spec PyProof.Rows L2
section
variable {X:Cx} {cl:Aag}
def TY(i:Nat)(f:FX):FZ:=fun δ S=>match jh δ i with
 | none=> .no
 | some k=>match cU S k with
   | none=> .no
   | some _=>(f δ S).bind fun v S1=>match v with
     | .d d=>(match seqD? d with
       | some es=>(match cU S1 k with
         | some ds=>R3.bh (decide (ds.length+es.length<=sizeLine)) (.ok (.nx δ) (S1.set k (.lst (ds++es))))
         | none=> .no)
       | none=> .no)
     | _=> .no
def Q6(fo fi fe:FX):FZ:=fun δ S=>(fe δ S).bind fun v S1=>(fo δ S1).bind fun o S2=>(fi δ S2).bind fun j S3=>match v,o,j with
 | .d d, .loc k, .d n=>(match xJ S3 k,CT n with | some aV,some key=>R3.bh (decide (aV.length < sizeLine)) (.ok (.nx δ) (S3.set k (.dct (Ib aV key d)))) | _,_=> .no)
 | _,_,_=> .no
end
end L3
end
section
namespace PySem.W
open PySem PySem.Calls PyProof.Rows
def J2{α:Type}(n:Nat)(lt:Nat->Nat->Bool):KasT α->Option α
 | .ret a=>some a
 | .ask i j k=>if i < n/\j < n then J2 n lt (k (lt i j)) else none
section
variable {prog:Program} {w:World} {A:Around} {E:Aab} {s:Shared} {a:Addr} {vs:List Value} {κ:SortKind}
abbrev W2(h:Heap)(a:Addr)(vs:List Value):Heap:=((h.update a (Obj.mapSeq fun _=>(#[]:Array Value))).push (seqObj "tuple" vs.toArray 0)).push (seqObj "list" #[] 0)
end
end PySem.W
namespace L2
open PySem PySem.Spec PyProof.Rows
def VP:D->Option (Int × List Int)
 | .tup [.int a, .tup zs]=>(ints? zs).map fun ns=>(a,ns)
 | _=>none
def O3:List D->Option (List (Int × List Int))
 | []=>some []
 | d ::ds=>(VP d).bind fun p=>(O3 ds).map (p ::·)
def Xq(x y:Int × List Int):Bool:=if x.1=y.1 then(if x.2=y.2 then false else HT.lexLt x.2 y.2) else decide (x.1 < y.1)
def R6(ps:List (Int × List Int)):Option (Array Nat):=PySem.W.J2 ps.length (fun i j=>Xq (ps.getD i (0,[])) (ps.getD j (0,[]))) (PySem.W.kas_sort ps.length)
def Q3:List D->R D
 | [.lst ds]=>(match O3 ds with
   | some ps=>R.bh (decide (2<=ps.length/\ps.length < 64)) (match R6 ps with | some p=>R.bh (p.toList.all (fun i=>decide (i < ps.length)) && decide (p.toList.length < 64)) (.ok (.lst (p.toList.map fun i=>ds.getD i .cR))) | none=> .no)
   | none=> .no)
 | _=> .no
def XA(h:Heap)(v:Value)(p:Int × List Int):Prop:=
 ∃(x b:Addr) (t:Tok) (n:Nat) (o:Obj) (its:Array Value),v= .ref x/\h.get? x=some o/\o.cls= .type "tuple"/\o.data= .seq #[.int p.1 t, .ref b] n/\IsTup h b its/\IntsAre its.toList p.2
section
variable {X:Cx}
end
end L2
end
section
namespace L2
open PySem PySem.Spec PyProof.Rows
def Oe(d a:D):Bool:=PyData.eqv (toPy d) (toPy a)
def UO(d:D):Bool:=d8 d && (toPy d).canLay0 && decide ((toPy d).depth<=8)
def Uy(a b:D):R Bool:=match seqD? b with
 | some ds=>R.bh (UO a && ds.all UO) (.ok (ds.any fun d=>Oe d a))
 | none=> .no
def W6(a b:D):R D:=(Uy a b).bind fun x=> .ok (.bl x)
def V8(a b:D):R D:=(Uy a b).bind fun x=> .ok (.bl (!x))
section
variable {X:Cx}
open Classical in
def Ur(h:Heap)(a:D)(y:Value):Bool:=decide (∃d as,Reads h y (toPy d) as/\(toPy d).canLay0=true/\Oe d a=true)
open Classical in
theorem RG{a d:D}{y:Value}{as:List Addr}(r:Reads h y (toPy d) as)(hl:(toPy d).canLay0=true):Ur h a y=Oe d a:=by
 unfold Ur;cases q:Oe d a with
 | true=>exact decide_eq_true ⟨d,as,r,hl,q⟩
 | false=>
   refine decide_eq_false fun⟨d',YN,r',hl',q'⟩=>?_
   have:=SeqAt.Reads.unique _ _ y as YN hl r r';unfold Oe at q q';rw[<-this,q] at q';cases q'
end
end L2
end
section
set_option maxHeartbeats 1000000
namespace L3
open PySem PySem.Spec PyProof.Rows L2
section
variable {X:Cx} {cl:Aag}
def U6(i:Nat)(F:FZ):FZ:=fun δ S=>match jh δ i with
 | some k=>(match S[k]? with | some (.dct aV)=>F (δ.set i (some (.d (.dct (aV.map (·.1)) (aV.map (·.2)))))) (S.set k .j4) | _=> .no)
 | none=> .no
end
end L3
end
section
set_option maxHeartbeats 3200000
namespace PySem.W
open PySem PySem.Calls PyProof.Rows
namespace F2
end F2
section
variable {prog:Program} {w:World} {A:Around} {E:Aab} {s:Shared}
end
section
variable {prog:Program} {w:World} {K:Type} [DecidableEq K] {knd:KeyKind prog w K} {A:Around} {s:Shared}
def Sb(knd:KeyKind prog w K)(h:Heap)(v:Value)(q:K × Value):Prop:=
 ∃(x:Addr) (n:Nat) (o:Obj) (kv:Value),v= .ref x/\h.get? x=some o/\o.cls= .type "tuple"/\o.data= .seq #[kv,q.2] n/\knd.is q.1 kv=true
def fills(qs:List (K × Value))(aV:List (K × Value)):List (K × Value):=qs.foldl (fun acc q=>stored acc q.1 q.2) aV
end
end PySem.W
namespace L2
open PySem PySem.Spec PyProof.Rows
def WJ:D->Option (Key × D)
 | .tup [a,b]=>(CT a).map fun k=>(k,b)
 | _=>none
def OA:List D->Option (List (Key × D))
 | []=>some []
 | d ::ds=>(WJ d).bind fun p=>(OA ds).map (p ::·)
def Ko(qs:List (Key × D))(aV:List (Key × D)):List (Key × D):=qs.foldl (fun acc q=>L3.Ib acc q.1 q.2) aV
def Rb:List D->R D
 | [.lst ds]=>(match OA ds with
   | some qs=>R.bh (decide (ds.length<=1000000)) (.ok (.dct ((Ko qs []).map (·.1)) ((Ko qs []).map (·.2))))
   | none=> .no)
 | _=> .no
section
variable {X:Cx}
end
end L2
end
section
set_option maxHeartbeats 1000000
namespace L3
open PySem PySem.Spec PyProof.Rows L2
def ZJ(g:List V3->aI->R3 V3):List V3->aI->R3 V3:=fun vs S=>match g vs S with
 | .ok v S'=>(match res S' v with
   | some d=>R3.bh ((S'.take S.length).all (pI S.length) && ei S.length v) (.ok (.d d) (S'.take S.length))
   | none=> .no)
 | .ex c S'=>R3.bh ((S'.take S.length).all (pI S.length)) (.ex c (S'.take S.length))
 | .no=> .no
section
variable {X:Cx} {cl:Aag} {E:XK}
def VW(f:FX):FX:=fun δ S=>(f δ S).bind fun v S1=>match v with | .d (.bl b)=> .ok (.d (.bl (!b))) S1 | _=> .no
def Xg(K:W.Frag)(cl:Aag)(E:XK)(ρ:P3)(H:Hp)(D:Ends)(r:R3 Ou):Prop:=match r with
 | .ok o S'=>CW K cl ρ H D S' o
 | .ex c S'=>OV K cl E ρ H S' c
 | .no=>False
def Zm(f:FA):FA:=fun δ S=>M6 (f δ S)
def Uo(P:Program)(w:World)(K:W.Frag)(mg:Aaf)(base:Heap)(cl:Aag)(k c:Nat)(m:Str)(n:Nat)(g:List V3->aI->R3 V3):Prop:=
 ∃(f:Addr) (fd:FuncData) (ps:List Str),wc K (cl c)/\Meth K (cl c) m f/\ie P w K mg base (Uq P w) k f fd ps (OY K cl (n+1) g)/\Binds K fd ps []
def WE{α:Type}(r:R3 α)(Q:α->aI->Prop)(Y:Nat->aI->Prop):Prop:=(∃a S,r= .ok a S/\Q a S)\/∃c S,r= .ex c S/\Y c S
section
variable {α β:Type} {S:aI} {δ:DE} {Y:Nat->aI->Prop}
end
end
end L3
end
section
namespace L2
open PySem PySem.Spec PyProof.Rows
def gK(ks:List (Str × Int)):List (Key × V):=ks.map fun p=>(Sum.inr p.1,V.int p.2)
def UN(P:Program)(w:World)(K:W.Frag)(mg:Aaf)(x:Str)(ks:List (Str × Int)):Prop:=∃a,mg x=some (.ref a)/\∀(H:Hp) (h:Heap),K.In h->cT P w H h a (.dK (gK ks))
def Wj(w:World)(es:List (Str × Tok × Int × Tok)):List DictEntry:=es.map fun e=>⟨hashStr w e.1, .str e.1 e.2.1, .int e.2.2.1 e.2.2.2⟩
section
variable {X:Cx}
def Qc(ks:List (Str × Int))(d:D):R Bool:=match d with | .str x=> .ok (ks.lookup x).isSome | _=> .no
def XH(ks:List (Str × Int))(f:FD):FD:=fun δ=>(f δ).bind fun d=>(Qc ks d).bind fun b=> .ok (.bl b)
def VM(ks:List (Str × Int))(f:FD):FD:=fun δ=>(f δ).bind fun d=>(Qc ks d).bind fun b=> .ok (.bl (!b))
def Wx(ks:List (Str × Int))(f:FD):au->R Bool:=fun δ=>(f δ).bind fun d=>Qc ks d
def XE(ks:List (Str × Int))(f:FD):au->R Bool:=fun δ=>(f δ).bind fun d=>(Qc ks d).bind fun b=> .ok (!b)
def Us(ks:List (Str × Int))(f:FD):FD:=fun δ=>(f δ).bind fun d=>match d with | .str x=>(match ks.lookup x with | some i=> .ok (.int i) | none=> .no) | _=> .no
def W0(ks:List (Str × Int))(neg:Bool)(t:TE):TE:=fun σ H Q=>t σ H fun y H1=>∃x,y= .str x/\Q (.bl (neg !=(ks.lookup x).isSome)) H1
end
end L2
namespace L3
open PySem PySem.Spec PyProof.Rows L2
section
variable {X:Cx} {cl:Aag} {E:XK}
def Kb(S:aI)(k:Nat):Option Nat:=match S[k]? with | some (.lst ds)=>some ds.length | some (.dct aV)=>some aV.length | _=>none
def WR(f:FX):FX:=fun δ S=>(f δ S).bind fun v S1=>match v with | .loc k=>(match Kb S1 k with | some n=> .ok (.d (.int n)) S1 | none=> .no) | _=> .no
def UI(f:FX):FB:=fun δ S=>(f δ S).bind fun v S1=>match v with | .loc k=>(match Kb S1 k with | some n=> .ok (decide (n≠0)) S1 | none=> .no) | _=> .no
def MB(v o:V3)(S:aI):Option (Option D):=match v,o with
 | .d x, .loc k=>(match CT x,S[k]? with | some key,some (.dct aV)=>some ((aV.find? fun kv=>decide (kv.1=key)).map (·.2)) | _,_=>none)
 | _,_=>none
def W8(neg:Bool)(fa fb:FX):FX:=fun δ S=>(fa δ S).bind fun v S1=>(fb δ S1).bind fun o S2=>match MB v o S2 with | some r=> .ok (.d (.bl (neg !=r.isSome))) S2 | none=> .no
def Xl(neg:Bool)(fa fb:FX):FB:=fun δ S=>(fa δ S).bind fun v S1=>(fb δ S1).bind fun o S2=>match MB v o S2 with | some r=> .ok (neg !=r.isSome) S2 | none=> .no
def UQ(fo fi:FX):FX:=fun δ S=>(fo δ S).bind fun o S1=>(fi δ S1).bind fun v S2=>match MB v o S2 with | some (some d)=> .ok (.d d) S2 | _=> .no
end
end L3
end
section
namespace L2
open PySem PySem.Spec PyProof.Rows
section
variable {X:Cx}
def Ui(f:FD):FD:=fun δ=>(f δ).bind fun d=>match d with | .str x=>R.bh (decide ((reprText x).length<=sizeLine)) (.ok (.str (reprText x))) | _=> .no
end
end L2
end
section
namespace L3
open PySem PySem.Spec PyProof.Rows L2
section
variable {X:Cx} {cl:Aag} {E:XK}
section
variable {S:aI} {δ:DE} {Y:Nat->aI->Prop}
end
end
end L3
end
section
namespace L3
open PySem PySem.Spec PyProof.Rows L2
section
variable {X:Cx} {cl:Aag} {E:XK}
def WC(g:D->List D->R D)(fo:FX)(fs:FA):FX:=fun δ S=>(fo δ S).bind fun o S1=>match o with
 | .d (.str z)=>(fs δ S1).bind fun vs S2=>(match pY vs with | some ds=>(R3.of (g (.str z) ds) S2).bind fun d S=> .ok (.d d) S | none=> .no)
 | _=> .no
end
end L3
end
section
namespace L2
open PySem PySem.Spec PyProof.Rows Builtin Builtin.Str
section
variable {prog:Program} {w:World} {A:Around} {E:Aab} {s:Shared} {x:Str} {t:Tok} {Q:Aab}
def Oc(x y:Str):List Str:=match occurrences x y 0 x.length 1 with
 | i ::_=>[strSub x 0 i,y,strSub x (i+y.length) x.length]
 | []=>[x,Str.empty,Str.empty]
end
section
variable {X:Cx}
def QR(d:D)(ds:List D):R D:=match d,ds with
 | .str x,[.str y]=>R.bh (decide ((y.length==0)=false/\x.length<=sizeLine/\(Txt.split x y).length<=sizeLine/\(partsBetween x (occurrences x y 0 x.length (x.length+1)) y.length).length<=sizeLine)) (.ok (.lst ((Txt.split x y).map .str)))
 | _,_=> .no
def Um(d:D)(ds:List D):R D:=match d,ds with
 | .str x,[.str y]=>R.bh (decide ((y.length==0)=false/\x.length<=sizeLine)) (.ok (.tup ((Oc x y).map .str)))
 | _,_=> .no
end
end L2
end
section
namespace L2
open PySem PySem.Spec PyProof.Rows
section
variable {X:Cx}
def VY(aV:List (Str × Int)):D:= .dct (aV.map fun p=>Sum.inr p.1) (aV.map fun p=> .int p.2)
def ZW(aV:List (Str × Int)):List (Key × V):=aV.map fun p=>((Sum.inr p.1:Key),V.int p.2)
end
end L2
namespace L3
open PySem PySem.Spec PyProof.Rows L2
def ZS(l:List (Nat × Bool))(c:Nat):Option Bool:=l.lookup c
def VN(P:Nat->Bool->Prop):List (Nat × Bool)->Prop | []=>True | p ::l=>P p.1 p.2/\VN P l
def WH(P:Nat->Prop):List Nat->Prop | []=>True | c ::l=>P c/\WH P l
end L3
namespace L2
open PySem PySem.Spec PyProof.Rows
section
variable {X:Cx}
def PY(d:D)(ds:List D):R D:=match d,ds with
 | .lst es,[.str k]=>(match strs? es with | some ss=> .ok (.int (ss.count k:Nat)) | none=> .no)
 | _,_=> .no
end
section
variable {X:Cx}
def UD(n:Nat)(t:Dt):FT:=fun d δ=>match d with | .lst ds=>R.bh (decide (ds.length=n)) (t ds δ) | _=> .no
end
section
variable {X:Cx}
def Va(d e:D):R D:=match d,e with
 | .lst ds, .int k=>R.bh (decide (0<=k/\k < 1000000/\ds.length*k.toNat<=sizeLine)) (.ok (.lst (List.replicate k.toNat ds).flatten))
 | _,_=> .no
end
end L2
end
section
namespace L2
open PySem PySem.Spec PyProof.Rows
section
variable {X:Cx}
def RH(d:D)(ds:List D):R D:=match d,ds with
 | .lst es,[.str k]=>(match strs? es with | some ss=>(match ss.findIdx? (·==k) with | some j=>R.bh (decide (j < 1000000)) (.ok (.int (j:Nat))) | none=> .no) | none=> .no)
 | _,_=> .no
end
end L2
end
section
namespace HT
open PySem PySem.Spec PyProof.Rows
section
variable {prog:Program} {w:World} {A:Around} {E:Aab} {s:Shared}
theorem nA{t sl:Addr}{items:Array Value}{vl vu:Value}{lo hi:Option Int}{Q:Aab}(ht:IsTup s.heap t items)(hs:s.heap.IsSliceOf sl vl vu .none)(pl:IsPart vl lo)(pu:IsPart vu hi)
 (h0:eG items.size 0 lo=0) (h1:eG items.size items.size hi=items.size)
 (h:Q (.ref t) s):wpAny (model prog w) A (getItem (.ref t) (.ref sl)) Q E s:=by
 obtain⟨os,uI,MJ,hds⟩:=id hs;have hTs:s.TypeIs (.ref sl) "slice":=⟨os,uI,MJ⟩;unfold getItem
 try with_reducible refine wpAny_holding ?_
 first | refine wpAny_bind (wpAny_pure ?_) | skip
 refine wpAny_bind (wpAny_sequenceKey ht.typeIs (by decide) ?_)
 refine wpAny_bind (wpAny_callSpecial?_slot (name:="__getitem__") ht.typeIs PyProof.Rows.slot_tuple_getitem
  (wpAny_call_entry PyProof.Rows.slot_tuple_getitem ht.typeIs entry_tuple_getitem ?_ (args_tuple_getitem _ _)))
 show wpAny _ _ (Builtin.Tuple.tupleItemsOf (.ref t) >>=_) _ _ s;refine wpAny_bind (tupleItemsOf_ ht ?_);refine wpAny_bind (wpAny_typeOf hTs ?_);rw[if_pos (by decide)]
 refine wpAny_bind (k_ hs pl pu ?_);have hyes:(((eG items.size 0 lo:Nat):Int)==0 && (1:Int)==1 && (eG items.size items.size hi - eG items.size 0 lo)==items.size)=true:=by
  rw[h0,h1];simp
 show wpAny _ _ (if(((eG items.size 0 lo:Nat):Int)==0 && (1:Int)==1 && (eG items.size items.size hi - eG items.size 0 lo)==items.size)=true then _ else _) _ _ s
 rw[if_pos hyes];refine wpAny_bind ?_;unfold Builtin.Tuple.tupleIsExact;refine wpAny_bind (wpAny_typeOf ht.typeIs ?_);refine wpAny_pure ?_;rw[if_pos (by decide)]
 refine wpAny_bind (wpAny_rule ?_)
 first
  | exact wpAny_pure ⟨_,rfl,wpAny_pure h⟩
  | exact wpAny_bind (wpAny_pure (wpAny_pure ⟨_,rfl,wpAny_pure h⟩))
  | exact wpAny_bind (wpAny_pure ⟨_,rfl,wpAny_pure h⟩)
end
end HT
namespace L2
open PySem PySem.Spec PyProof.Rows
section
variable {X:Cx}
def RO(K:W.Frag):V->Option Int->Option Int->Hp->VK->Prop:=fun x lo hi H Q=>∃a xs,x= .ref a/\p8 K H a xs/\HT.eG xs.length 0 lo=0/\HT.eG xs.length xs.length hi=xs.length/\Q (.ref a) H
theorem Hi:Jw X (RO X.K):=by
 intro pins s σ H x v vl vu lo hi sl Q I rx hs pl pu h;obtain⟨a,xs,rfl,hx,h0,h1,q⟩:=h;cases rx;obtain⟨its,r,ht,hz⟩:=I.tuple hx;have hlen:its.toArray.size=xs.length:=by rw[List.size_toArray];exact r.length.symm
 refine⟨"tuple",_,PyProof.Rows.slot_tuple_getitem.lookup,ht.typeIs,?_⟩;refine HT.nA ht hs pl pu (by rw[hlen];exact h0) (by rw[hlen];exact h1) ?_
 exact⟨.ref a,H,I,rfl,q⟩
def Qw(d:D)(lo hi:Option Int):R D:=match d with
 | .tup ds=> .ok (.tup (cutD ds lo hi))
 | _=> .no
def OC(f:FD)(fl fh:FO):FD:=fun δ=>(f δ).bind fun d=>(fl δ).bind fun lo=>(fh δ).bind fun hi=>Qw d lo hi
theorem HE{lo hi:Option Expr}{fl fh:FO}(he:QD X e f)(hl:QP X lo fl)(hh:QP X hi fh):QD X (.Subscript e (.Slice lo hi none p2) pos) (OC f fl fh):=by
 refine⟨(yt (Mr.or Hi) he.1 hl.1 hh.1).imp fun σ H Q ⟨Z,B,δ,d,E,hf,q⟩=>?_⟩
 obtain⟨d1,h1,h2⟩:=R.ai hf;obtain⟨l,h3,h4⟩:=R.ai h2;obtain⟨h,h5,h6⟩:=R.ai h4;refine⟨Z,B,δ,d1,E,h1,fun v1 H1 s1 r1=>⟨Z,B,δ,l,E.same s1,h3,fun H2 s2=>⟨Z,B,δ,h,(E.same s1).same s2,h5,fun H3 s3=>?_⟩⟩⟩
 have sA:aR H H3:=s1.trans (s2.trans s3);have qX:=r1.same (s2.trans s3);unfold Qw at h6;split at h6
 .rename_i ds;cases h6;obtain⟨a,xs,rfl,ls,rs⟩:=Rep.tup.mp qX;by_cases hz:HT.eG xs.length 0 l=0/\HT.eG xs.length xs.length h=xs.length
  .refine .inr ⟨a,xs,rfl,ls.sq,hz.1,hz.2,q _ _ sA ?_⟩;have:cutD ds l h=ds:=by
    unfold cutD;rw[rs.length,hz.1,hz.2,List.drop_zero,Nat.sub_zero,List.take_of_length_le (by rw[rs.length];exact Nat.le_refl _)]
   rw[this];exact qX
  .refine .inl ⟨a,xs,rfl,ls.sq,hz,fun p hp=>q _ _ (sA.trans (aN hp)) (Rep.tup.mpr ⟨p,_,rfl, .inl ⟨fun ha=>?_,?_⟩,(xx rs l h).same (aN hp)⟩)⟩
   .obtain⟨o,ho⟩:=(E.same sA).bs p ha;rw[hp] at ho;cases ho
   .exact .of aT
 .cases h6
end
end L2
end
section
namespace L2
open PySem PySem.Spec PyProof.Rows Builtin Builtin.Str
section
variable {X:Cx}
def J6(v c y z:Str):Bool:=decide (v.length<=1000000) && (decide (c.length<=10) && (decide (z.length<=14) && !(y==z)))
def Wl(i:Nat)(c y z:Str):TA:=fun σ H Q=>∃v:Str,σ[i]? =some (some (.str v))/\J6 v c y z=true/\Q [.str (v++c), .str (Txt.replace v y z)] H
def Xn(i:Nat)(c y z:Str):au->R (List D):=fun δ=>match δ[i]? with | some (.val (.str v))=>R.bh (J6 v c y z) (.ok [.str (v++c), .str (Txt.replace v y z)]) | _=> .no
def RM(f:FD)(fs:au->R (List D)):au->R (List D):=fun δ=>(f δ).bind fun d=>(fs δ).bind fun ds=>match d,ds with
 | .str x,[.str y]=>R.bh (decide ((y.length==0)=false/\x.length<=sizeLine/\(Txt.split x y).length<=sizeLine/\(partsBetween x (occurrences x y 0 x.length (x.length+1)) y.length).length<=sizeLine)) (.ok ((Txt.split x y).map .str))
 | _,_=> .no
end
end L2
end
section
namespace L2
open PySem PySem.Spec PyProof.Rows
def ug(led:Bool)(p:List Nat):SetTable:={mask:=7,place:=p.toArray,dummies:=#[],finger:=0,led:=led,moves:=0,plain:=true}
def aY(m:Nat):List Nat:=(List.range 8).filter fun i=>m.testBit i
def sQ(led:Bool)(p:List Nat)(h:Nat):Nat:=match (ug led p).freeSlot (h:Int) with
 | some (slot,false)=>slot
 | _=>99
def G5(k:Nat):List Nat:=(List.range 256).filter fun m=>decide ((aY m).length<=k)
theorem Q0:((G5 3).all fun m=>(List.range 32).all fun h=>decide (sQ true (aY m) h < 8) && (!m.testBit (sQ true (aY m) h) && decide (sQ false (aY m) h=sQ true (aY m) h)))=true:=by decide+kernel
theorem Rl:((G5 3).all fun m=>(List.range 8).all fun s=>m.testBit s || (decide (m+2 ^ s < 256) && decide ((SetTable.insertAt (aY m).toArray (SetTable.below (aY m).toArray s) s).toList=aY (m+2 ^ s))))=true:=by decide+kernel
def Me(p:List Nat):Nat->Nat
 | 0=>0
 | j+1=>p.getD j 0+1
theorem Q1:((G5 4).all fun m=>(List.range ((aY m).length+1)).all fun i=>SetTable.below (aY m).toArray (Me (aY m) i)==i)=true:=by decide+kernel
theorem Rg:((G5 3).all fun m=>(List.range 8).all fun s=>m.testBit s || decide ((aY (m+2 ^ s)).length=(aY m).length+1))=true:=by decide+kernel
theorem sk:∀m:Nat,m < 32->hashInt (m:Int)=(m:Int):=by decide+kernel
end L2
end
section
namespace L2
open PySem PySem.Spec PyProof.Rows
theorem r9{m k:Nat}(h:m < 256)(hl:(aY m).length<=k):m∈G5 k:=List.mem_filter.mpr ⟨List.mem_range.mpr h,decide_eq_true hl⟩
theorem Jv{led:Bool}{m h:Nat}(hm:m < 256)(hl:(aY m).length<=3)(hh:h < 32):∃s,s < 8/\m.testBit s=false/\(ug led (aY m)).freeSlot (h:Int)=some (s,false):=by
 have h1:=List.all_eq_true.mp (List.all_eq_true.mp Q0 m (r9 hm hl)) h (List.mem_range.mpr hh);simp only[Bool.and_eq_true,decide_eq_true_eq,Bool.not_eq_true'] at h1;obtain⟨h2,h3,h4⟩:=h1;have key:∀led,sQ led (aY m) h < 8->(ug led (aY m)).freeSlot (h:Int)=some (sQ led (aY m) h,false):=by
  intro led hlt;unfold sQ at hlt ⊢;split at hlt
  .rename_i slot e;rw [e]
  .omega
 cases led with
 | true=>exact⟨_,h2,h3,key true h2⟩
 | false=>exact⟨_,h2,h3,by rw[<-h4];exact key false (by omega)⟩
theorem K6{led:Bool}{m s:Nat}(hm:m < 256)(hl:(aY m).length<=3)(hs:s < 8)(hb:m.testBit s=false) :
 m+2 ^ s < 256/\(aY (m+2 ^ s)).length=(aY m).length+1/\(ug led (aY m)).put s=(ug led (aY (m+2 ^ s)),SetTable.below (aY m).toArray s):=by
 have h1:=List.all_eq_true.mp (List.all_eq_true.mp Rl m (r9 hm hl)) s (List.mem_range.mpr hs);have h2:=List.all_eq_true.mp (List.all_eq_true.mp Rg m (r9 hm hl)) s (List.mem_range.mpr hs);rw[hb] at h1 h2;simp only[Bool.false_or,Bool.and_eq_true,decide_eq_true_eq] at h1 h2;refine⟨h1.1,h2,?_⟩;show(({ug led (aY m) with place:=SetTable.insertAt (aY m).toArray (SetTable.below (aY m).toArray s) s,dummies:=#[]}:SetTable),SetTable.below (aY m).toArray s)=_
 have e:SetTable.insertAt (aY m).toArray (SetTable.below (aY m).toArray s) s=(aY (m+2 ^ s)).toArray:=by rw[<-h1.2]
 rw[e];rfl
structure SI (h:Heap) (a:Addr) (led:Bool) (σ:List Nat) (es:Array (Int × Value)) (ep m:Nat):Prop where
 get:h.get? a=some {cls:= .type "set",dict:=none,data:= .set es ep (ug led (aY m)),slots:=#[]}
 m256:m < 256
 len:(aY m).length=es.size
 prm:(es.toList.map (·.1)).Perm (σ.map fun n:Nat=>(n:Int))
 el:∀e∈es.toList,∃(n:Nat) (t:Tok),n < 32/\e=((n:Int),Value.int n t)
section
variable {prog:Program} {w:World} {A:Around} {E:Aab} {s:Shared} {a:Addr} {led:Bool} {σ:List Nat} {es:Array (Int × Value)} {ep m:Nat}
theorem SI.size(S:SI h a led σ es ep m):es.size=σ.length:=by
 have:=S.prm.length_eq;rw[List.length_map,List.length_map,Array.length_toList] at this;exact this
theorem SI.fits(S:SI h a led σ es ep m)(hl:σ.length<=4):(ug led (aY m)).fits es.size=true:=by
 have h1:=S.len;have h2:=S.size;unfold SetTable.fits;rw[Bool.and_eq_true];refine⟨?_,?_⟩
 .show((aY m).toArray.size==es.size)=true;rw[List.size_toArray,h1];simp
 .show decide ((aY m).toArray.size+0<=7)=true;rw[List.size_toArray];exact decide_eq_true (by omega)
theorem SI.elems(S:SI h a led σ es ep m):ElemsOf (intKind prog w) es.toList:=fun e he=>by
 obtain⟨n,t,hn,rfl⟩:=S.el e he;exact⟨⟨(n:Int),intKind_is _ _ _ _,(sk n hn).symm⟩,rfl⟩
theorem Cn{n:Nat}{t:Tok}{Q:Bool->Shared->Prop}(S:SI s.heap a led σ es ep m)(hn:n < 32)(Pw:n ∉ σ)(hl:σ.length<=3)
 (hq:∀h' Dq m',Heap.SameBut a s.heap h'->SI h' a led (σ++[n]) Dq (ep+1) m'->Q true {s with heap:=h',toks:=s.toks+1}) :
 wpAny (model prog w) A (setAdd a (.int n t)) Q E s:=by
 have hsz:=S.size;have hf:=S.fits (by omega)
 have hel:ElemsOf (intKind prog w) es.toList:=S.elems;have hb:es.size < scanBound:=by unfold scanBound;omega
 have hkey:(intKind prog w).is (n:Int) (.int n t)=true:=intKind_is _ _ _ _;have hno:List.findIdx? (fun e:Int × Value=>(intKind prog w).is (n:Int) e.2) es.toList=none:=by
  rw[List.findIdx?_eq_none_iff];intro e he;obtain⟨k,u,hk,rfl⟩:=S.el e he;have hmem:(k:Int)∈σ.map fun n:Nat=>(n:Int):=S.prm.mem_iff.mp (List.mem_map_of_mem (f:=fun x:Int × Value=>x.1) he)
  obtain⟨j,hj,ej⟩:=List.mem_map.mp hmem;have ML:j=k:=by omega
  have Dl:(n:Int)≠(k:Int):=fun q=>Pw (by rw[show n=k by omega,<-ML];exact hj)
  have hk2:(intKind prog w).is (k:Int) (.int k u)=true:=intKind_is _ _ _ _;cases q:(intKind prog w).is (n:Int) (Value.int k u) with
  | false=>rfl
  | true=>exact absurd ((intKind prog w).inj _ _ _ q hk2) Dl
 obtain⟨sl,Sx,hbit,hfree⟩:=Jv (led:=led) S.m256 (by rw[S.len];omega) hn
 obtain⟨Dn,GR,hput⟩:=K6 (led:=led) S.m256 (by rw[S.len];omega) Sx hbit
 have hlay:layNew (ug led (aY m)) es (n:Int) (.int n t)=(SetTable.insertAt es (SetTable.below (aY m).toArray sl) ((n:Int), .int n t),ug led (aY (m+2 ^ sl)),false,false):=by
  unfold layNew;rw[hfree];simp only[hput];have e1:(SetTable.insertAt es (SetTable.below (aY m).toArray sl) ((n:Int),Value.int n t)).size=es.size+1:=by
   have:=(SetTable.insertAt_perm es (SetTable.below (aY m).toArray sl) ((n:Int),Value.int n t)).length_eq;rw[Array.length_toList,Array.length_toList,Array.size_push] at this;exact this
  have e2:(ug led (aY (m+2 ^ sl))).fits (es.size+1)=true:=by
   unfold SetTable.fits;rw[Bool.and_eq_true];have:=S.len;refine⟨?_,?_⟩
   .show((aY (m+2 ^ sl)).toArray.size==es.size+1)=true;rw[List.size_toArray,GR,S.len];simp
   .show decide ((aY (m+2 ^ sl)).toArray.size+0<=7)=true;rw[List.size_toArray];exact decide_eq_true (by omega)
  rw[e1];unfold SetTable.orStandIn;rw[e2];rfl
 have hperm:=SetTable.insertAt_perm es (SetTable.below (aY m).toArray sl) ((n:Int),Value.int n t);rw[Array.toList_push] at hperm;generalize hes':SetTable.insertAt es (SetTable.below (aY m).toArray sl) ((n:Int),Value.int n t)=Dq at hlay hperm;have hsz':Dq.size=es.size+1:=by
  have:=hperm.length_eq;rw[Array.length_toList,List.length_append,Array.length_toList] at this;exact this
 unfold setAdd;refine wpAny_holding (wpAny_bind ((intKind prog w).pyHash (k:=(n:Int)) hkey ?_));unfold setAddHashed setAddHashedIn;refine wpAny_holding (wpAny_bind (wpAny_setState_of (s:={s with toks:=s.toks+1}) S.get rfl hf ?_))
 dsimp only;rw[byScan_of (knd:=intKind prog w) (x:= .int n t) rfl hb hel];simp only[↓reduceIte];unfold setAddByScan;refine wpAny_bind ?_;refine wpAny_bind (wpAny_rule ?_);refine wpAny_bind (wpAny_setScan_of (knd:=intKind prog w) (s:={s with toks:=s.toks+1}) hkey S.get rfl hf hel ?_)
 rw[hno];dsimp only;rw[show(intKind prog w).hash (n:Int)=(n:Int) from sk n hn,hlay]
 dsimp only;refine wpAny_bind (wpAny_pure ?_);rw[if_pos (show(ug led (aY (m+2 ^ sl))).plain=true from rfl),hashByValue_scannable 8 (x:= .int n t) rfl]
 refine wpAny_bind (wpAny_pure ?_);rw[if_pos (show plainKind (Value.int n t)=true from rfl)]
 refine wpAny_bind (wpAny_storeSet_of (s:={s with toks:=s.toks+1}) S.get rfl ?_ (fits_of_scanBound (by unfold scanBound;omega)))
 have hful:(ug led (aY (m+2 ^ sl))).tooFull=false:=by
  show decide (((aY (m+2 ^ sl)).toArray.size+0)*5>=7*3)=false;rw[List.size_toArray,GR];have:=S.len;exact decide_eq_false (by omega)
 rw[hful];simp only[Bool.not_false,Bool.true_and,Bool.false_eq_true,↓reduceIte];refine wpAny_pure ?_;dsimp only;refine wpAny_pure (hq _ Dq (m+2 ^ sl) (Heap.SameBut.update s.heap a _) ⟨?_,Dn,by rw[GR,S.len,hsz'],?_,fun e he=>?_⟩)
 .have:=Heap.get?_update_self (Obj.putSet Dq (ug led (aY (m+2 ^ sl)))) S.get rfl;exact this
 .rw [List.map_append];refine(hperm.map (·.1)).trans ?_
  rw[List.map_append];exact S.prm.append (List.Perm.refl _)
 .rcases List.mem_append.mp (hperm.mem_iff.mp he) with z | z
  .exact S.el e z
  .rw [List.mem_singleton.mp z];exact⟨n,t,hn,rfl⟩
end
end L2
end
section
set_option maxHeartbeats 3200000
namespace L2
open PySem PySem.Spec PyProof.Rows
abbrev tF(w:World):Bool:=w.params.followText "set-order"
abbrev t4(led:Bool):Obj:={cls:= .type "set",dict:=none,data:= .set #[] 0 (.fresh 0 0 led)}
theorem VL{h:Heap}{a:Addr}{led:Bool}(e:h.get? a=some (t4 led)):SI h a led [] #[] 0 0:=⟨e,by omega,rfl,List.Perm.refl _,fun x hx=>by cases hx⟩
theorem SI.at{h h':Heap}{a:Addr}{led:Bool}{σ:List Nat}{es:Array (Int × Value)}{ep m:Nat}(S:SI h a led σ es ep m)(k:∀o,h.get? a=some o->h'.get? a=some o):SI h' a led σ es ep m:=⟨k _ S.get,S.m256,S.len,S.prm,S.el⟩
section
variable {prog:Program} {w:World} {A:Around} {E:Aab} {s:Shared}
theorem Hw(x:Value){Y:Aab}(h:Y (.ref s.heap.objs.size) {s with heap:=s.heap.push (t4 (!tF w))}):codeAny (model prog w) A (.call (.builtin "set.__new__") ⟨[.type "set",x],[]⟩) (wants Y E) s:=by
 refine codeAny_of_tree ?_;show wpAny _ A.in1 (do checkBuiltinCall "set.__new__" ⟨[.type "set",x],[]⟩;again (.builtin "set.__new__" ⟨[.type "set",x],[]⟩)) _ _ s
 refine wpAny_bind (wpAny_of_eq (F.newCall_set_1 x) (wpAny_pure ⟨plainId_quiet F.plain_set_new _,codeAny_builtin F.entry_set_new ?_⟩));rw[Around.under_plainId F.plain_set_new _];unfold Builtin.«set.__new__» Builtin.Frozenset.newClass;have q1:=PySem.sub_set_self;obtain⟨z1,z2,z3,z4,z5⟩:=s;dsimp only
 wp_walk
 refine wpAny_askSetting (wpAny_pure ?_);dsimp only;simp only[newObj];refine wpAny_bind (wpAny_alloc (wpAny_pure ?_));exact wpAny_pure h
end
section
variable {prog:Program} {w:World} {A:Around} {R:Result->Shared->Prop} {I:Addr} {fp wr:List Addr} {G:Array GenState->Array GenState->Prop} {P:Nat->Value->Prop} {St:Nat->Shared->Prop}
theorem BX{ns:List Nat}{led:Bool}(W:WalksS prog w A.in1 I fp wr G ns.length P St)(S:Addr)(Vw:S ∉ fp)(hv:∀i v,P i v->∃t,v= .int ((ns.getD i 0:Nat):Int) t)(nd:ns.Nodup)(h4:ns.length<=4)(PF:∀x∈ns,x < 32) :
 ∀(k i:Nat) (s:Shared) (es:Array (Int × Value)) (ep m:Nat),ns.length - i=k->i<=ns.length->St i s->SI s.heap S led (ns.take i) es ep m->
  (∀s' Dq MP m',Moved (S ::wr) G s s'->SI s'.heap S led ns Dq MP m'->R (.ok (.ret .none)) s')->codeAny (model prog w) A (.builtin "set.update.loop" ⟨[.ref S, .ref I],[]⟩) R s:=by
 have nw:S ∉ wr:=fun h=>Vw (W.sub _ h)
 have sb:∀b∈wr,b∈S ::wr:=fun b hb=>List.mem_cons_of_mem _ hb
 intro k
 induction k with
 | zero=>
   intro i s es ep m hk hi Ap hS hR;obtain rfl:i=ns.length:=by omega
   refine codeAny_builtin F.entry_set_update_loop ?_;rw[Around.under_plainId F.plain_set_update_loop _];show wpAny _ A.in1 (pyNext (.ref I) >>=_) _ _ s;refine wpAny_bind (W.done s _ _ Ap fun s' hm=>?_)
   rw[List.take_length] at hS;exact wpAny_pure (hR s' es ep m (hm.mono sb) (hS.at fun o e=>hm.heap S o nw e))
 | succ k ih=>
   intro i s es ep m hk hi Ap hS hR;have hlt:i < ns.length:=by omega
   refine codeAny_builtin F.entry_set_update_loop ?_;rw[Around.under_plainId F.plain_set_update_loop _];show wpAny _ A.in1 (pyNext (.ref I) >>=_) _ _ s;refine wpAny_bind (W.item i s _ _ hlt Ap fun v s' hP TU hm=>?_)
   obtain⟨t,rfl⟩:=hv i v hP;have hS':=hS.at (h':=s'.heap) fun o e=>hm.heap S o nw e
   have hx:ns[i]? =some ns[i]:=List.getElem?_eq_getElem hlt;have hg:ns.getD i 0=ns[i]:=by rw[List.getD_eq_getElem?_getD,hx];rfl
   rw[hg];have hno:ns[i] ∉ ns.take i:=fun q=>by
    obtain⟨j,hj⟩:=List.mem_iff_getElem?.mp q;rw[List.getElem?_take] at hj;split at hj
    .rename_i hji;obtain⟨VB,Vq⟩:=List.getElem?_eq_some_iff.mp hj;exact(List.pairwise_iff_getElem.mp (List.nodup_iff_pairwise_ne.mp nd)) j i VB hlt hji Vq
    .cases hj
   show wpAny _ A.in1 (holding [Value.int ((ns[i]:Nat):Int) t] (setAdd S (.int ((ns[i]:Nat):Int) t)) >>=_) _ _ s';refine wpAny_bind (wpAny_holding (Cn hS' (PF _ (List.getElem_mem hlt)) hno (by rw[List.length_take];omega) fun h' Dq m' Vr G_=>?_))
   rw[show ns.take i++[ns[i]]=ns.take (i+1) by rw[List.take_add_one,hx];rfl] at G_
   refine wpAny_pure ⟨plainId_quiet F.plain_set_update_loop _,ih (i+1) _ Dq (ep+1) m' (by omega) hlt (W.frame _ s' _ _ TU (Nat.le_succ _) fun b hb o e=>?_) G_ fun Py Y2 X0 m3 Sg TQ=>?_⟩
   .rw [Vr.2 b (fun h:b=S=>Vw (by rw[<-h];exact hb))];exact e
   .refine hR Py Y2 X0 m3 (Moved.trans W.gtrans ((hm.mono sb).then_heap (Nat.le_succ _) fun b o hb e=>?_) Sg) TQ
    rw[Vr.2 b (fun h:b=S=>hb (by rw[h];exact List.mem_cons_self))];exact e
end
end L2
end
section
namespace L2
open PySem PySem.Spec PyProof.Rows
theorem Ms:isSubtype (.type "tuple") (.type "set")=pure false:=by rw[isSubtype_type];kernel_rfl
theorem Lk:isSubtype (.type "tuple") (.type "frozenset")=pure false:=by rw[isSubtype_type];kernel_rfl
section
variable {prog:Program} {w:World} {A:Around} {E:Aab} {s:Shared}
theorem Ad{l:Addr}{items:Array Value}{ns:List Nat}{Q:Aab}(nh:A.handled=none)(tl:s.heap.IsTuple l items)(iv:∀(i:Nat) (v:Value),items[i]? =some v->∃t,v=Value.int ((ns.getD i 0:Nat):Int) t)(sz:items.size=ns.length)
 (nd:ns.Nodup) (h4:ns.length<=4) (PF:∀x∈ns,x < 32)
 (fin:∀(g:Heap) (tk:Nat) (es:Array (Int × Value)) (ep m:Nat),SI g s.heap.objs.size (!tF w) ns es ep m->(∀b o,s.heap.get? b=some o->g.get? b=some o)->Q (.ref s.heap.objs.size) {s with heap:=g,toks:=tk}) :
 wpAny (model prog w) A (call (.type "set") [.ref l]) Q E s:=by
 obtain⟨c1,c2,c3⟩:=F.called_set.mro;have d1:=F.called_set.made;have d2:=F.called_set.sub;refine wpAny_call (codeAny_of_tree ?_);show wpAny _ _ (callAny (.type "set") _) _ _ _;refine wpAny_pure ⟨Code.quiet_builtin _ (by decide+kernel),codeAny_builtin F.entry_type_call ?_⟩
 rw[Around.under_plain (weight_type_call_type "set" [.ref l] []) rfl];have d3:=F.called_set.notType;have d4:=F.called_set.canCreate;have d5:=F.typeCall_set_1 (.ref l)
 repeat (any_goals (first | assumption | wp_step))
 refine codeAny_mono (Hw (.ref l) (E:=E) (Y:=fun ob y=>ob= .ref s.heap.objs.size/\y={s with heap:=s.heap.push (t4 (!tF w))}) ⟨rfl,rfl⟩) fun r y hr=>?_
 cases r with
 | error e=>exact hr
 | ok fl=>
   cases fl with
   | ret ob=>
     obtain⟨rfl,rfl⟩:=hr;have g0:(s.heap.push (t4 (!tF w))).get? s.heap.objs.size=some (t4 (!tF w)):=Heap.get?_push_size _ rfl;have g1:Shared.TypeIs {s with heap:=s.heap.push (t4 (!tF w))} (.ref s.heap.objs.size) "set":=⟨_,g0,rfl⟩
     have d6:=F.called_set.init.lookup;have d7:=F.called_set.init.bind (.ref s.heap.objs.size)
     repeat (any_goals (first | assumption | wp_step))
     refine codeAny_mono (codeAny_call_builtin (R:=wants (fun r y=>r= .none/\∃g tk es ep m,y={s with heap:=g,toks:=tk}/\SI g s.heap.objs.size (!tF w) ns es ep m/\∀b o,s.heap.get? b=some o->g.get? b=some o) E) F.called_set.init.plain F.entry_set_init (check_set_init_1 g1 ?_)) fun r2 y2 TH=>?_
     .obtain⟨ol,o1,o2,on,o3⟩:=tl;obtain⟨oa,ob,oc,od⟩:=ol;simp only at o2 o3;subst o2 o3;have o4:(s.heap.push (t4 (!tF w))).get? l=some {cls:= .type "tuple",dict:=ob,data:= .seq items on,slots:=od}:=Heap.get?_push_of_some _ o1;have e1:=Ms;have e2:=Lk;have e3:(Value.type "tuple"==Value.type "dict")=false:=by decide
      have t1:(s.heap.push (t4 (!tF w))).IsTuple l items:=⟨_,o4,rfl,on,rfl⟩;unfold Builtin.«set.__init__» noKeywords Builtin.Frozenset.updateFrom;generalize hPI:pyIter=PI
      wp_walk
      subst hPI;refine wpAny_pyIter_tuple t1 ?_;refine wpAny_bind (wpAny_runValue ?_);have lS:l < s.heap.objs.size:=Heap.lt_size o1;have nh3:A.in1.in1.in1.handled=none:=by simp [nh]
      have nI:l≠(s.heap.push (t4 (!tF w))).objs.size:=by rw[Heap.size_push];exact Nat.ne_of_lt (Nat.lt_succ_of_lt lS)
      have nf:s.heap.objs.size ∉ [(s.heap.push (t4 (!tF w))).objs.size,l]:=by
       rw[Heap.size_push];simp only[List.mem_cons,List.not_mem_nil,or_false,not_or];exact⟨Nat.ne_of_lt (Nat.lt_succ_self _),Nat.ne_of_gt lS⟩
      have Wk:=(Walks.tuple (prog:=prog) (w:=w) nh3 (s.heap.push (t4 (!tF w))).objs.size l nI items).toS;rw[sz] at Wk;refine BX (led:=!tF w) Wk s.heap.objs.size nf iv nd h4 PF (ns.length - 0) 0 _ #[] 0 0 (by omega) (Nat.zero_le _) ⟨⟨_,Heap.get?_push_size _ rfl,rfl,rfl⟩,(t1.push _)⟩ (VL (Heap.get?_push_of_some _ g0)) ?_
      intro y es ep m mv S;obtain⟨y1,y2,y3,y4,y5⟩:=y;have a1:y2=s.gens:=mv.gens;have a2:y3=s.drawn:=mv.drawn;have a3:y5=s.os:=mv.os;subst a1 a2 a3;show wpAny _ _ _ _ _ _;refine wpAny_pure ?_;show wpAny _ _ (ret Value.none) _ _ _;refine wpAny_pure ⟨rfl,y1,y4,es,ep,m,rfl,S,fun b o e=>?_⟩
      have hb:=Heap.lt_size e;refine mv.heap b o ?_ (Heap.get?_push_of_some _ (Heap.get?_push_of_some _ e));simp only[List.mem_cons,List.not_mem_nil,or_false,not_or];refine⟨Nat.ne_of_lt hb,?_⟩;rw[Heap.size_push];exact Nat.ne_of_lt (Nat.lt_succ_of_lt hb)
     .cases r2 with
      | error e=>exact TH
      | ok fl2=>
        cases fl2 with
        | ret r=>
          obtain⟨rfl,g,tk,es,ep,m,rfl,S,kp⟩:=TH
          repeat (any_goals (first | assumption | wp_step))
          exact fin _ _ _ _ _ S kp
        | _=>exact TH.elim
   | _=>exact hr.elim
end
end L2
end
section
set_option maxHeartbeats 1000000
namespace L2
open PySem PySem.Spec PyProof.Rows
theorem zB{α:Type}{l:List α}{i:Nat}(h:i < l.length):List.Perm (l[i] ::l.eraseIdx i) l:=by
 have e:l=l.take i++l[i] ::l.drop (i+1):=by rw[List.getElem_cons_drop,List.take_append_drop]
 rw[List.eraseIdx_eq_take_drop_succ];refine List.perm_middle.symm.trans ?_;rw[<-e]
theorem uL{α:Type}(nx:Nat->Nat):∀(n k:Nat) (l:List α) (o:Array α),l.length=n->(pickOrder.go nx n k l o).toList.Perm (o.toList++l)
 | 0,k,l,o,h=>by
   rw[List.length_eq_zero_iff.mp h,List.append_nil];exact List.Perm.refl _
 | n+1,k,l,o,h=>by
   have hi:nx k % l.length < l.length:=Nat.mod_lt _ (by omega)
   unfold pickOrder.go;rw[List.getElem?_eq_getElem hi];refine(uL nx n (k+1) _ _ (by rw[List.length_eraseIdx_of_lt hi];omega)).trans ?_
   rw[Array.toList_push,List.append_assoc];exact List.Perm.append (List.Perm.refl _) (zB hi)
def uv(w:World)(a:Addr)(ep:Nat)(es:Array (Int × Value)):Array (Int × Value):=if tF w then pickOrder (w.params.setOrder a ep) es else es
theorem ql(w:World)(a:Addr)(ep:Nat)(es:Array (Int × Value)):(uv w a ep es).toList.Perm es.toList:=by
 unfold uv;split
 .have:=uL (w.params.setOrder a ep) es.size 0 es.toList #[] (by rw[Array.length_toList])
  simpa [pickOrder] using this
 .exact List.Perm.refl _
theorem qu(w:World)(a:Addr)(ep:Nat)(es:Array (Int × Value)):(uv w a ep es).size=es.size:=by
 have:=(ql w a ep es).length_eq
 rwa [Array.length_toList,Array.length_toList] at this
theorem RC:entryFor table "set.__iter__"=some Builtin.«frozenset.__iter__»:=entryFor_alias (id':="frozenset.__iter__") (by kernel_rfl) rfl (by decide+kernel) (by kernel_rfl)
theorem u6:Slot "set_iterator" "__next__" "set_iterator.__next__":=
 .of (owner:="set_iterator") (n:="__next__") (by rw[typeLookup_type,builtinLookup_eq_fast];kernel_rfl) (by decide+kernel) (by decide+kernel) (by decide+kernel) (by first | exact .inl (by decide+kernel) | exact .inr (by decide+kernel)) (by rw[isSubtype_type];kernel_rfl)
theorem ND:entryFor table "set_iterator.__next__"=some Builtin.«set_iterator.__next__»:=entryFor_of_tree (by kernel_rfl)
theorem J5:Manifest.owners.lookup (String.ofList ['r','o','t','a','r','e','t','i','_','t','e','s'].reverse)=some Manifest.sig_set_iterator:=by kernel_rfl
theorem Kk(a:Value):argsOk "set_iterator.__next__" ⟨[a],[]⟩:=by
 unfold argsOk;rw [signature?_of (id:="set_iterator.__next__") (n:=['_','_','t','x','e','n','_','_']) (o:=['r','o','t','a','r','e','t','i','_','t','e','s']) (by kernel_rfl) J5];kernel_rfl
theorem Km:Slot "set_iterator" "__iter__" "set_iterator.__iter__":=
 .of (owner:="set_iterator") (n:="__iter__") (by rw[typeLookup_type,builtinLookup_eq_fast];kernel_rfl) (by decide+kernel) (by decide+kernel) (by decide+kernel) (by first | exact .inl (by decide+kernel) | exact .inr (by decide+kernel)) (by rw[isSubtype_type];kernel_rfl)
theorem OX(a:Value):argsOk "set_iterator.__iter__" ⟨[a],[]⟩:=by
 unfold argsOk;rw [signature?_of (id:="set_iterator.__iter__") (n:=['_','_','r','e','t','i','_','_']) (o:=['r','o','t','a','r','e','t','i','_','t','e','s']) (by kernel_rfl) J5];kernel_rfl
theorem QX:entryFor table "set_iterator.__iter__"=some Builtin.«dict_keyiterator.__iter__»:=entryFor_alias (id':="dict_keyiterator.__iter__") (by kernel_rfl) rfl (by decide+kernel) (by kernel_rfl)
def Hj(h:Heap)(I d:Addr)(f i n ep:Nat):Prop:=h.get? I=some {cls:= .type "set_iterator",dict:=none,data:= .fields #[.int f 0, .int i 0, .ref d, .int n 0, .int ep 0],slots:=#[]}
def fz(w:World)(p:List Nat)(i:Nat):Nat:=if tF w then 0 else Me p i
section
variable {prog:Program} {w:World} {A:Around} {E:Aab} {s:Shared} {a I:Addr} {ns:List Nat} {es:Array (Int × Value)} {ep m:Nat}
theorem Hj.ty{f i n:Nat}(h:Hj s.heap I a f i n ep):s.TypeIs (.ref I) "set_iterator":=⟨_,h,rfl⟩
theorem SI.ty(S:SI s.heap a led ns es ep m):s.TypeIs (.ref a) "set":=⟨_,S.get,rfl⟩
theorem Ck{f i n:Nat}{Q:Aab}(h:Hj s.heap I a f i n ep)(q:Q (.ref I) s):wpAny (model prog w) A (pyIter (.ref I)) Q E s:=by
 refine wpAny_pyIter_slot h.ty Km (wpAny_call_entry Km h.ty QX ?_ (OX _));show wpAny _ _ (ret (.ref I)) _ _ s;exact wpAny_pure ⟨_,rfl,"set_iterator",_,h.ty,u6.lookup,q⟩
theorem FN{Q:Aab}(S:SI s.heap a (!tF w) ns es ep m)(h4:ns.length<=4)
 (q:Q (.ref s.heap.objs.size) {s with heap:=s.heap.push {cls:= .type "set_iterator",data:= .fields #[.int 0 0, .int 0 0, .ref a, .int es.size 0, .int ep 0]}}):wpAny (model prog w) A (pyIter (.ref a)) Q E s:=by
 have hf:=S.fits h4;refine wpAny_pyIter_slot S.ty F.slot_set_iter (wpAny_call_entry F.slot_set_iter S.ty RC ?_ (F.args_set_iter_1 _));unfold Builtin.«frozenset.__iter__» Builtin.Frozenset.slot0 slotArgs;simp only[List.isEmpty_nil,Bool.not_true,Bool.false_eq_true,↓reduceIte,bind_assoc,List.length_nil,bne_self_eq_false];unfold Builtin.Frozenset.addrOf Builtin.Frozenset.sizeOf;refine wpAny_bind (wpAny_pure ?_);dsimp only;refine wpAny_bind (wpAny_pure ?_);refine wpAny_bind (wpAny_bind (wpAny_setEntries_of S.get rfl hf (wpAny_pure ?_)));unfold setDrawn;refine wpAny_bind (wpAny_bind (wpAny_setState_of S.get rfl hf ?_));dsimp only;unfold setsByText;refine wpAny_bind (wpAny_bind (wpAny_askSetting (wpAny_pure ?_)));refine wpAny_pure ?_;refine wpAny_ite_split (fun hb=>absurd (show false=true from(Bool.and_eq_true_iff.mp hb).2) Bool.false_ne_true) fun _=>?_
 refine wpAny_bind (wpAny_pure ?_);refine wpAny_bind (wpAny_setEpoch_of S.get rfl hf ?_);refine wpAny_bind (wpAny_newObj_type (wpAny_pure ⟨_,rfl,"set_iterator",_,⟨_,Heap.get?_push_size _ rfl,rfl⟩,u6.lookup,?_⟩));simpa [rawInt] using q
theorem xn{i:Nat}{Q:Option (Value × Nat)->Shared->Prop}(S:SI s.heap a (!tF w) ns es ep m)(h4:ns.length<=4)(hi:i<=es.size)
 (q:Q (((uv w a ep es)[i]?).map fun e=>(e.2,fz w (aY m) (i+1))) s):wpAny (model prog w) A (setNext a (fz w (aY m) i) i ep) Q E s:=by
 have hf:=S.fits h4;have hsz:=S.size;unfold setNext;refine wpAny_bind (wpAny_setState_of S.get rfl hf ?_);dsimp only;unfold setsByText;refine wpAny_bind (wpAny_bind (wpAny_askSetting (wpAny_pure ?_)));unfold uv fz at q;unfold fz;cases hb:tF w with
 | true=>
   have sf:(model prog w).w.params.followText "set-order"=true:=hb;rw[hb] at q;simp only[sf,if_true] at q ⊢;rw[if_neg (by simp)]
   refine wpAny_bind ?_;unfold setWalk;refine wpAny_bind (wpAny_setState_of S.get rfl hf ?_);dsimp only;unfold setsByText;refine wpAny_bind (wpAny_bind (wpAny_askSetting (wpAny_pure ?_)));simp only[sf,if_true];refine wpAny_bind (wpAny_askSetting (wpAny_pure ?_));exact wpAny_pure q
 | false=>
   have sf:(model prog w).w.params.followText "set-order"=false:=hb;rw[hb] at q;simp only[sf,Bool.false_eq_true,if_false] at q ⊢;refine wpAny_ite_split (fun z=>absurd (show false=true from z) Bool.false_ne_true) fun _=>?_
   refine wpAny_bind (wpAny_of_eq (a:=()) rfl ?_);have hlen:=S.len;have hB:=List.all_eq_true.mp (List.all_eq_true.mp Q1 m (r9 S.m256 (k:=4) (by omega))) i (List.mem_range.mpr (by omega))
   have hB:SetTable.below (aY m).toArray (Me (aY m) i)=i:=by simpa using hB
   refine wpAny_pure ?_;show Q (match es[SetTable.below (aY m).toArray (Me (aY m) i)]?,(aY m).toArray[SetTable.below (aY m).toArray (Me (aY m) i)]? with | some (_,x),some j=>some (x,j+1) | _,_=>none) s
   rw[hB];by_cases hlt:i < es.size
   .have e1:es[i]? =some es[i]:=Array.getElem?_eq_getElem hlt;have yV:i < (aY m).length:=by omega
    have e2:(aY m).toArray[i]? =some (aY m)[i]:=by rw[List.getElem?_toArray,List.getElem?_eq_getElem yV]
    rw[e1] at q ⊢;rw[e2];have e3:Me (aY m) (i+1)=(aY m)[i]+1:=by
     show(aY m).getD i 0+1=_;rw[List.getD_eq_getElem?_getD,List.getElem?_eq_getElem yV];rfl
    rw[e3] at q;exact q
   .have e1:es[i]? =none:=Array.getElem?_eq_none (by omega)
    rw[e1] at q ⊢;exact q
end
end L2
end
section
namespace L2
open PySem PySem.Spec PyProof.Rows
section
variable {prog:Program} {w:World} {A:Around} {E:Aab} {s:Shared} {a I:Addr} {ns:List Nat} {es:Array (Int × Value)} {ep m:Nat}
theorem HA{i:Nat}{x:Value}{y:Int}{Q:Option Value->Shared->Prop}(T:Hj s.heap I a (fz w (aY m) i) i es.size ep)(S:SI s.heap a (!tF w) ns es ep m)(h4:ns.length<=4)(hi:i < es.size)(hx:(uv w a ep es)[i]? =some (y,x))
 (q:∀g,Hj g I a (fz w (aY m) (i+1)) (i+1) es.size ep->Heap.SameBut I s.heap g->Q (some x) {s with heap:=g}):wpAny (model prog w) A (pyNext (.ref I)) Q E s:=by
 have hf:=S.fits h4;unfold pyNext;refine wpAny_bind (wpAny_attempt (wpAny_callSpecial?_slot (name:="__next__") T.ty u6 (wpAny_call_entry u6 T.ty ND ?_ (Kk _))));unfold Builtin.«set_iterator.__next__» slotArgs;simp only[List.isEmpty_nil,Bool.not_true,Bool.false_eq_true,↓reduceIte,bind_assoc,List.length_nil,bne_self_eq_false];refine wpAny_bind (wpAny_pure ?_);dsimp only;refine wpAny_bind (wpAny_fieldsOf T rfl ?_);dsimp only;refine wpAny_bind (wpAny_setEntries_of S.get rfl hf ?_);rw[if_neg (by simp)]
 simp only[Int.toNat_natCast];refine wpAny_bind (xn S h4 (Nat.le_of_lt hi) ?_);rw[hx];show wpAny _ _ (setField (.ref I) 0 (rawInt (fz w (aY m) (i+1))) >>=_) _ _ s;refine wpAny_bind (wpAny_setField_rec T (by simp) fun g1 t1 b1=>?_)
 refine wpAny_bind (wpAny_setField_rec (s:={s with heap:=g1}) t1 (by simp) fun g2 t2 b2=>?_)
 refine wpAny_pure ⟨_,rfl,wpAny_pure (q g2 ?_ (b1.trans b2))⟩;unfold Hj;rw[t2];simp [rawInt]
theorem Mf{Q:Option Value->Shared->Prop}(nh:A.handled=none)(T:Hj s.heap I a (fz w (aY m) es.size) es.size es.size ep)(S:SI s.heap a (!tF w) ns es ep m)(h4:ns.length<=4)
 (q:∀g,Heap.ExtBut I s.heap g->Q none {s with heap:=g}):wpAny (model prog w) A (pyNext (.ref I)) Q E s:=by
 have hf:=S.fits h4;unfold pyNext;refine wpAny_bind (wpAny_attempt (wpAny_callSpecial?_slot (name:="__next__") T.ty u6 (wpAny_call_entry u6 T.ty ND ?_ (Kk _))));unfold Builtin.«set_iterator.__next__» slotArgs;simp only[List.isEmpty_nil,Bool.not_true,Bool.false_eq_true,↓reduceIte,bind_assoc,List.length_nil,bne_self_eq_false];refine wpAny_bind (wpAny_pure ?_);dsimp only;refine wpAny_bind (wpAny_fieldsOf T rfl ?_);dsimp only;refine wpAny_bind (wpAny_setEntries_of S.get rfl hf ?_);rw[if_neg (by simp)]
 simp only[Int.toNat_natCast];refine wpAny_bind (xn S h4 (Nat.le_refl _) ?_);rw[Array.getElem?_eq_none (by rw[qu];exact Nat.le_refl _)]
 show wpAny _ _ (setField (.ref I) 2 .none >>=_) _ _ s;refine wpAny_bind (wpAny_setField T rfl (by simp) ?_)
 show wpAny _ _ (newExc (.type "StopIteration") [] >>=_) _ _ _;refine wpAny_bind ?_;simp only[newExc,newTuple];refine wpAny_bind (wpAny_newObj_type ?_ (by size_fits))
 refine wpAny_bind (m:=firstArgMember _ _) (wpAny_of_eq (a:=Value.none) (by first | rfl | (simp only[firstArgMember];rfl)) ?_)
 refine wpAny_newObj_type ?_ (by size_fits)
 simp only[raiseNew];refine wpAny_bind (wpAny_handled ?_);rw[show A.in1.handled=none from nh]
 refine wpAny_bind (wpAny_pure (wpAny_throw ?_));refine wpAny_bind (wpAny_isInstance (T:="StopIteration") (b:=true) ⟨_,Heap.get?_push_size _ rfl,rfl⟩ isSubtype_stop ?_);exact wpAny_pure (q _ (((Heap.SameBut.update ..).extBut.push _).push _))
theorem CA(nh:A.handled=none)(ne:a≠I)(h4:ns.length<=4):Walks prog w A I [I,a] [I] es.size (fun i v=>∃y,(uv w a ep es)[i]? =some (y,v)) (fun i h=>Hj h I a (fz w (aY m) i) i es.size ep/\SI h a (!tF w) ns es ep m) where
 sub:=fun b hb=>by simp at hb;simp [hb]
 frame:=fun _ _ _ st hk=>⟨hk I (by simp) _ st.1,st.2.at fun o e=>hk a (by simp) o e⟩
 item:=fun i s Q E hi st hQ=>by
  obtain⟨⟨y,x⟩,hx⟩:∃p,(uv w a ep es)[i]? =some p:=⟨_,Array.getElem?_eq_getElem (by rw[qu];exact hi)⟩
  refine HA st.1 st.2 h4 hi hx fun g t b=>?_
  exact hQ x g s.toks ⟨y,hx⟩ ⟨t,st.2.at fun o e=>b.extBut a o ne e⟩ fun c o hc e=>b.extBut c o (fun h=>hc (by simp [h])) e
 done:=fun s Q E st hQ=>Mf nh st.1 st.2 h4 fun g he=>hQ g s.toks fun b o hb e=>he b o (fun h=>hb (by simp [h])) e
 self:=fun _ _ _ _ st hQ=>Ck st.1 hQ
theorem Ee{Q:Bool->Shared->Prop}(hT:s.TypeIs (.ref a) "set")(h:Q false s):wpAny (model prog w) A (Builtin.List.listLengthHint (.ref a)) Q E s:=by
 unfold Builtin.List.listLengthHint;refine wpAny_bind (wpAny_specialOf hT PySem.F.slot_set_len.lookup ?_);generalize hid:("set.__len__":String)=id0
 wp_delta
 rw[show splitId id0=some ("set","__len__") from by subst hid;decide+kernel]
 subst hid;refine wpAny_bind (wpAny_isInstance (T:="set") (b:=true) hT (by rw[isSubtype_type];kernel_rfl) ?_)
 refine wpAny_ite_split (fun pV=>absurd pV (by decide)) (fun _=>?_)
 refine wpAny_ite_split (fun _=>?_) (fun pV=>absurd (by decide+kernel) pV)
 refine wpAny_bind (wpAny_typeOf hT ?_);exact wpAny_pure h
theorem I0(h4:ns.length<=4):PySem.W.KdlSrc prog w "set" a a es.size (fun i v=>∃y,(uv w a ep es)[i]? =some (y,v)) (fun h=>SI h a (!tF w) ns es ep m) where
 type:=fun _ S=>S.ty
 there:=fun _ S=>⟨Heap.lt_size S.get,Heap.lt_size S.get⟩
 keep:=fun _ _ S hk=>S.at fun o e=>hk a (.inl rfl) o e
 notList:=by decide
 notTuple:=by decide
 hint:=fun _ _ _ _ S hq=>Ee S.ty hq
 iter:=fun _ s nh S=>⟨_,_,(fun _ _ hq=>FN S h4 hq),CA nh (Nat.ne_of_lt (Heap.lt_size S.get)) h4,⟨by
  unfold Hj;rw[Heap.get?_push_size _ rfl,show fz w (aY m) 0=0 by unfold fz Me;split <;> rfl];rfl,S.at fun o e=>Heap.get?_push_of_some _ e⟩⟩
theorem z6{Q:Aab}(nh:A.handled=none)(S:SI s.heap a (!tF w) ns es ep m)(h4:ns.length<=4)
 (q:∀(g:Heap) (tk c:Nat) (d:Addr) (out:Array Value),s.heap.objs.size<=d->(∀b o,s.heap.get? b=some o->g.get? b=some o)->g.get? d=some (seqObj "list" out c)->IntsAre out.toList (nF (ns.map fun n:Nat=>(n:Int)))->Q (.ref d) {s with heap:=g,toks:=tk}) :
 wpAny (model prog w) A (call (.builtin "sorted") [.ref a]) Q E s:=by
 have hz:sizeLine=16777216:=sizeLine_eq;have hsz:=S.size;refine Calls.call_function_entry kind_sorted plain_sorted entry_sorted (args_sorted1 _) ?_;unfold Builtin.«sorted»;refine wpAny_bind (m:=checkCount "sorted" 1 1 _) (wpAny_pure ?_);refine wpAny_bind (gather (I0 (prog:=prog) (w:=w) (a:=a) (ns:=ns) (es:=es) (ep:=ep) (m:=m) h4) nh S (by omega) fun h' tk acc X_ Qm JM=>?_)
 have hal:acc.toList.length=es.size:=by rw[Array.length_toList];exact JM.1
 have hI:IntsAre acc.toList ((uv w a ep es).toList.map (·.1)):=by
  refine tw (yz (by rw[hal,List.length_map,Array.length_toList,qu]) fun j v n h1 h2=>?_)
  obtain⟨y,h3⟩:=JM.2 j v (by rw[<-Array.getElem?_toList];exact h1)
  rw[<-Array.getElem?_toList] at h3;rw[List.getElem?_map,h3] at h2;have h2:y=n:=Option.some.inj h2;obtain⟨k,t,hk,e⟩:=S.el _ ((ql w a ep es).mem_iff.mp (List.mem_of_getElem? h3));have e1:y=(k:Int):=congrArg Prod.fst e;have e2:v=Value.int k t:=congrArg Prod.snd e;exact⟨t,by rw[e2,<-h2,e1]⟩
 refine wpAny_bind (wpAny_newList ?_ (by rw[hal];omega))
 have hoL:(h'.push (seqObj "list" acc.toList.toArray 0)).get? h'.objs.size=some (seqObj "list" acc.toList.toArray 0):=Heap.get?_push_size _ rfl;show wpAny _ _ _ _ _ {s with heap:=h'.push (seqObj "list" acc.toList.toArray 0),toks:=tk}
 refine wpAny_bind (wpAny_holding (wpAny_call_entry slot_list_sort ⟨_,hoL,rfl⟩ entry_list_sort (list_sort_tree hoL hI (by omega) fun out YE a1 a2 a3=>⟨_,rfl,?_⟩) (args_list_sort _)))
 refine wpAny_pure ⟨_,rfl,?_⟩;have hp:YE.Perm (ns.map fun n:Nat=>(n:Int)):=a2.trans (((ql w a ep es).map (·.1)).trans S.prm)
 have hs:=yn hp a3;subst hs;obtain⟨MP,SY⟩:=sortedHeap_at (out:=out) hoL;refine q _ tk MP h'.objs.size out (Nat.le_of_lt X_) (fun b o hb=>?_) (by simpa [seqObj] using SY) a1
 have hlt:=Heap.lt_size (Qm b o hb);rw[sortedHeap_old (Nat.ne_of_lt hlt) (by rw[size_push'];exact Nat.lt_succ_of_lt hlt)]
 exact Heap.get?_push_of_some _ (Qm b o hb)
end
end L2
end
section
namespace L2
open PySem PySem.Spec PyProof.Rows
section
variable {X:Cx}
def oB(ns:List Nat):List Int:=ns.map fun n:Nat=>(n:Int)
def tO(zs:List Int):Bool:=decide (zs.Nodup) && (decide (zs.length<=4) && zs.all fun z=>decide (0<=z/\z < 32))
theorem B4{zs:List Int}(h:tO zs=true):∃ns:List Nat,zs=oB ns/\ns.Nodup/\ns.length<=4/\∀x∈ns,x < 32:=by
 unfold tO at h;simp only[Bool.and_eq_true,decide_eq_true_eq,List.all_eq_true] at h;obtain⟨h1,h2,h3⟩:=h;have e:zs=oB (zs.map Int.toNat):=by
  unfold oB;rw[List.map_map]
  conv=>lhs;rw [<-List.map_id zs]
  exact List.map_congr_left fun z hz=>by have:=h3 z hz;show z=((z.toNat:Nat):Int);omega
 refine⟨zs.map Int.toNat,e,?_,by rw[List.length_map];exact h2,fun x hx=>?_⟩
 .rw [List.nodup_iff_pairwise_ne,List.pairwise_map];exact(List.nodup_iff_pairwise_ne.mp h1).imp_of_mem fun {a b} ha hb pV q=>pV (by have:=h3 a ha;have:=h3 b hb;omega)
 .obtain⟨z,hz,rfl⟩:=List.mem_map.mp hx;have:=h3 z hz;omega
def Nn(f:FD):FD:=fun δ=>(f δ).bind fun d=>match d with
 | .tup ds=>(match ints? ds with | some zs=>R.bh (tO zs) (.ok (.lst ((nF zs).map .int))) | none=> .no)
 | _=> .no
theorem D5{e:Expr}{f:FD}{p1 p2 q1 q2:Pos}(Yn:X.mg "sorted"=none)(Za:X.mg "set"=none)(h:QD X e f)(hc:X.calm=true:=by rfl)(SQ:Gl X "sorted":=by rfl)(SD:Gl X "set":=by rfl)
 (Vh:starEach [.Call (.Name "set" p2) [e] [] q2] X.env=(false,eval (.Call (.Name "set" p2) [e] [] q2) X.env) ::starEach [] X.env:=by rfl)
 (Vv:starEach [e] X.env=(false,eval e X.env) ::starEach [] X.env:=by rfl) (n1:(backTo q1 (starEach [] X.env)).any (·.1)=false:=by rfl) (n2:(backTo q2 (starEach [] X.env)).any (·.1)=false:=by rfl) :
 QD X (.Call (.Name "sorted" p1) [.Call (.Name "set" p2) [e] [] q2] [] q1) (Nn f):=by
 refine⟨?_⟩;intro pins s σ H Q I ⟨Z,B,δ,d,En,hf,q⟩;unfold Nn at hf;obtain⟨d1,h1,h2⟩:=R.ai hf;cases d1 with
 | tup ds=>
   simp only at h2;cases hi:ints? ds with
   | none=>rw [hi] at h2;cases h2
   | some zs=>
     rw[hi] at h2;obtain⟨hsm,h3⟩:=R.bf h2;cases h3;obtain⟨ns,rfl,nd,h4,PF⟩:=B4 hsm;refine wpAny_Call_Name_kw (iq I SQ Yn boot_sorted ?_);refine PyProof.Rows.callWith_builtin1 ?_ Vh n1;rw[Vh];show wpAny _ _ (spliced ((false,eval (.Call (.Name "set" p2) [e] [] q2) X.env) ::[])) _ _ s;refine Calls.spliced_cons (wpAny_Call_Name_kw (iq I SD Za PyProof.Rows.boot_set ?_));refine PyProof.Rows.callWith_type1 ?_ Vv n2;rw[Vv];show wpAny _ _ (spliced ((false,eval e X.env) ::[])) _ _ s;refine Calls.spliced_cons (c6 (h.1 pins s σ H _ I ⟨Z,B,δ, .tup ds,En,h1,fun v H1 s1 r1=>(⟨s1,r1⟩:aR H H1/\Rep X.K B H1 (.tup ds) v)⟩) fun u s1 ⟨v,H1,I1,ru,sm,rp⟩=>?_)
     refine Calls.spliced_nil ?_;obtain⟨a,xs,rfl,l,rs⟩:=Rep.tup.mp rp;cases ru;rw[gf rs hi] at l;obtain⟨its,rv,⟨o,o1,o2,o3⟩,hle⟩:=I1.tuple l.sq;have ia:=tw rv;have isz:its.length=ns.length:=by
      have:=ia.length;rw[this];unfold oB;rw [List.length_map]
     refine Ad (ns:=ns) (I1.ok.hd hc) ⟨o,o1,o2,o3⟩ (fun i v hv=>?_) (by simpa using isz) nd h4 PF fun g tk es ep m S kp=>?_
     .obtain⟨t,ht⟩:=IntsAre.int_at ia i v (by simpa using hv)
      refine⟨t,?_⟩;rw[ht];unfold oB;rw[List.getD_eq_getElem?_getD,List.getElem?_map,List.getD_eq_getElem?_getD];cases ns[i]? <;> rfl
     .refine Calls.spliced_nil ?_;refine z6 (s:={s1 with heap:=g,toks:=tk}) (I1.ok.hd hc) S h4 fun g2 Z2 c d2 out hd2 X4 MH XU=>?_
      have hbig:s1.heap.objs.size<=d2:=Nat.le_of_lt (Nat.lt_of_lt_of_le (Heap.lt_size S.get) hd2);have hn:H1 d2=none:=I1.hok.fresh hbig;have hzz:sizeLine=16777216:=sizeLine_eq;have hln:((nF (oB ns)).map V.int).length<=sizeLine:=by
       rw[List.length_map];unfold nF oB;rw[List.length_mergeSort,List.length_map];omega
      refine⟨.ref d2,upd H1 d2 (.lst ((nF (oB ns)).map V.int)),I1.laid (a:=d2) (fun b o' hb=>X4 b o' (kp b o' hb)) hbig (show cT X.prog X.w _ _ _ (.lst _) from⟨hln,out.toList,c,DS XU,by simpa [seqObj] using MH⟩),rfl,q _ _ (sm.trans (aN hn)) ?_⟩
      refine Rep.lst.mpr ⟨_,_,rfl, .inl ⟨fun ha=>?_, .inl aT⟩,ints_rep _⟩
      obtain⟨o',vC⟩:=(En.same sm).bs _ ha;rw[hn] at vC;cases vC
 | _=>cases h2
def vK(g g':D->D->R D)(fa fb fc:FD):au->R Bool:=fun δ=>(tI g g' fa fb fc δ).bind fun d=>match d with | .bl b=> .ok b | _=> .no
theorem zm{op Aq:CmpOp}{g g':D->D->R D}{pos:Pos}(ho:jE X (compareOp op) g)(vC:jE X (compareOp Aq) g')(ha:QD X a fa)(hb:QD X b fb)(hc:QD X c fc)(hm:lastMarks [op,Aq] [b,c]=false:=by with_unfolding_all rfl):QB X (.Compare a [op,Aq] [b,c] pos) (vK g g' fa fb fc):=Ca ho vC ha hb hc hm
end
end L2
end
section
set_option maxHeartbeats 4000000
namespace NT
def mx(f:Nat->Nat)(w:List Nat):Nat:=(w.map f).foldl max 0
structure BA (f:Nat->Nat) (M:Nat) (bs:List Int):Prop where
 a:∀(z:Nat) (v:Int),bs[z]? =some v->v= -1\/(0<=v/\v+f z<=M)
def BB(f:Nat->Nat)(M:Nat)(bs:List Int)(n:Nat):Prop:=∃(z:Nat) (v:Int),z < n/\bs[z]? =some v/\0<=v/\(M:Int)<=v+f z
def Up(bs VA:List Int):Prop:=VA.length=bs.length/\∀(z:Nat) (v:Int),bs[z]? =some v->∃v',VA[z]? =some v'/\v<=v'
end NT
namespace NT
open PySem PySem.Spec PyProof.Rows L2 L3
structure Gt where
 k:Str
 w:List Nat
 s:Bool
def nN(z:Nat):D:= .int z
def wN(w:List Nat):D:= .tup (w.map nN)
def gN(g:Gt):D:= .tup [.str g.k,wN g.w, .bl g.s]
def iN(x:Str × Nat):D:= .tup [.str x.1, .int x.2]
def oN(x:Str × List Nat):D:= .tup [.str x.1,wN x.2]
structure Net where
 i:Aac
 g:List Gt
 o:Aad
def Net.d(n:Net):D:= .tup [.lst (n.i.map iN), .lst (n.g.map gN), .lst (n.o.map oN)]
def Net.first(n:Net):Nat:=(n.i.map (·.2)).sum
structure U3 (n:Nat) (w:List Nat):Prop where
 ne:w≠[]
 le:w.length<=3
 lt:∀z∈w,z < n
structure Net.Ok (n:Net):Prop where
 i1:1<=n.i.length
 i6:n.i.length<=6
 iw:∀x∈n.i,1<=x.2/\x.2<=3
 is:∀x∈n.i,g6 0 (.str x.1)
 g60:n.g.length<=60
 gw:∀(p:Nat) (g:Gt),n.g[p]? =some g->U3 (n.first+p) g.w
 gs:∀g∈n.g,g6 0 (.str g.k)
 o1:1<=n.o.length
 o6:n.o.length<=6
 ow:∀x∈n.o,U3 (n.first+n.g.length) x.2
 os:∀x∈n.o,g6 0 (.str x.1)
theorem eq_self{n:Nat}{ds:List D}(h:g6 n (.tup ds))(hn:n<=64):il (.tup ds) (.tup ds)= .ok (.bl true):=by unfold il;rw [h.eqT hn];rfl
inductive Sm:Nat->D->Prop where
 | int (n:Nat) (i:Int):Sm n (.int i)
 | bl (n:Nat) (b:Bool):Sm n (.bl b)
 | str (n:Nat) (s:Str):Sm n (.str s)
 | lst {n:Nat} {ds:List D} (h:∀d∈ds,Sm n d) (hl:ds.length<=1000000):Sm (n+1) (.lst ds)
 | tup {n:Nat} {ds:List D} (h:∀d∈ds,Sm n d) (hl:ds.length<=1000000):Sm (n+1) (.tup ds)
theorem lx{F G:FS}{δ:au}{d:D}(h:F δ= .ok (.rt d)):ji F G δ= .ok (.rt d):=by unfold ji;rw [h];rfl
theorem tj{m i:Nat}{v:V3}(h:((cC 0 m).map V3.d)[i]? =some v):i < m/\v= .d (.int i):=by
 rw[List.getElem?_map,cC,List.getElem?_map] at h;cases q:(List.range m)[i]? with
 | none=>rw [q] at h;cases h
 | some j=>
   rw[q] at h;cases h;obtain⟨q1,q2⟩:=List.getElem?_eq_some_iff.mp q;rw[List.getElem_range] at q2;rw[List.length_range] at q1;subst q2;exact⟨q1,by simp⟩
theorem wO{α:Type}{l:List α}{f:α->D}{i:Nat}{v:V3}(h:((l.map f).map V3.d)[i]? =some v):∃x,l[i]? =some x/\v= .d (f x):=by
 rw[List.getElem?_map,List.getElem?_map] at h;cases q:l[i]? with
 | none=>rw [q] at h;cases h
 | some x=>rw [q] at h;cases h;exact⟨x,rfl,rfl⟩
theorem A_{α:Type}{l:List α}{f:α->D}{i:Nat}{v:D}(h:(l.map f)[i]? =some v):∃x,l[i]? =some x/\v=f x:=by
 rw[List.getElem?_map] at h;cases q:l[i]? with
 | none=>rw [q] at h;cases h
 | some x=>rw [q] at h;cases h;exact⟨x,rfl,rfl⟩
theorem eA{α:Type}{t:FT}{c:au->R Bool}{f:FD}{δ:au}(a b:α->D):∀{xs:List α},(∀x∈xs,∃δ1,t (a x) δ= .ok δ1/\c δ1= .ok true/\f δ1= .ok (b x))->pG t c f δ (xs.map a)= .ok (xs.map b)
 | [],_=>rfl
 | x ::xs,h=>by
   obtain⟨δ1,h1,h2,h3⟩:=h x List.mem_cons_self;have ih:=eA (t:=t) (c:=c) (f:=f) (δ:=δ) a b (xs:=xs) fun y hy=>h y (List.mem_cons_of_mem _ hy)
   rw[List.map_cons];unfold pG;rw[h1,R.aH,h2,R.aH,if_pos rfl,h3,R.aH,ih];rfl
theorem lC{α:Type}{t:FT}{c:au->R Bool}{f:FD}{δ:au}(p:α->Bool)(a b:α->D):∀{xs:List α},(∀x∈xs,∃δ1,t (a x) δ= .ok δ1/\c δ1= .ok (p x)/\(p x=true->f δ1= .ok (b x)))->pG t c f δ (xs.map a)= .ok ((xs.filter p).map b)
 | [],_=>rfl
 | x ::xs,h=>by
   obtain⟨δ1,h1,h2,h3⟩:=h x List.mem_cons_self;have ih:=lC (t:=t) (c:=c) (f:=f) (δ:=δ) p a b (xs:=xs) fun y hy=>h y (List.mem_cons_of_mem _ hy)
   rw[List.map_cons];unfold pG;rw[h1,R.aH,h2,R.aH];cases e:p x with
   | true=>rw [if_pos rfl,h3 e,R.aH,ih,List.filter_cons,if_pos e];rfl
   | false=>rw [if_neg (by decide),ih,List.filter_cons,if_neg (by rw[e];decide)]
theorem JB{n z:Nat}(h:z < n):yT n (z:Int)=some z:=by
 unfold yT;rw[if_pos (by omega),if_pos (by omega)]
 simp
theorem EY{α:Type}{xs:List α}{z:Nat}{x:α}(h:xs[z]? =some x):rn xs (z:Int)=some x:=by
 have hl:=(List.getElem?_eq_some_iff.mp h).1;unfold rn;rw[JB hl];exact h
theorem rK{ds:List D}{z:Nat}{x:D}(h:ds[z]? =some x):b_ (.lst ds) (.int z)= .ok x:=jU (EY h)
end NT
end
section
namespace MT
open PySem PySem.Spec PyProof.Rows L2 L3
abbrev M:=Nat->Bool
theorem NM{N:List Str}{F:FZ}{vs:List V3}{δ:DE}{S:aI}{QV:V3->aI->Prop}(e:cq N vs=δ)(h:W3 (F δ S) fun o S1=>∃dN,o= .nx dN/\QV (.d .cR) S1):W3 (nq N F vs S) QV:=by
 subst e;exact W3.bind (h.mono fun _ _ ⟨_,e,q⟩=>by subst e;exact W3.ok q)
def jo:Nat->M->Nat
 | 0,_=>0
 | N+1,f=>(if f 0 then 1 else 0)+2*jo N (fun i=>f (i+1))
theorem gS:∀(N:Nat) (f:M) (i:Nat),(jo N f).testBit i=(decide (i < N) && f i)
 | 0,f,i=>by unfold jo;simp
 | N+1,f,0=>by
   unfold jo;rw[Nat.testBit_zero];cases f 0 <;> simp <;> omega
 | N+1,f,i+1=>by
   unfold jo;rw[Nat.testBit_succ];have:((if f 0=true then 1 else 0)+2*jo N fun i=>f (i+1)) / 2=jo N fun i=>f (i+1):=by split <;> omega
   rw[this,gS N _ i];simp
theorem nc:∀{N:Nat} {f g:M},(∀i,i < N->f i=g i)->jo N f=jo N g
 | 0,_,_,_=>rfl
 | N+1,f,g,h=>by
   unfold jo;rw[h 0 (by omega),nc (N:=N) fun i hi=>h (i+1) (by omega)]
theorem Bq(N:Nat)(f g:M):jo N f &&& jo N g=jo N fun i=>f i && g i:=by
 refine Nat.eq_of_testBit_eq fun i=>?_
 rw[Nat.testBit_and,gS,gS,gS];cases decide (i < N) <;> simp
theorem Ef(N:Nat)(f g:M):jo N f ||| jo N g=jo N fun i=>f i || g i:=by
 refine Nat.eq_of_testBit_eq fun i=>?_
 rw[Nat.testBit_or,gS,gS,gS];cases decide (i < N) <;> simp
theorem Bu:∀(N:Nat) (f g:M),((jo N fun i=>f i || g i:Nat):Int) - (jo N fun i=>f i && g i:Nat)=(jo N fun i=>f i !=g i:Nat)
 | 0,f,g=>rfl
 | N+1,f,g=>by
   have ih:=Bu N (fun i=>f (i+1)) (fun i=>g (i+1))
   have e:∀h:M,jo (N+1) h=(if h 0 then 1 else 0)+2*jo N (fun i=>h (i+1)):=fun _=>rfl
   rw[e,e,e];generalize jo N (fun i=>f (i+1) || g (i+1))=a at ih ⊢
   generalize jo N (fun i=>f (i+1) && g (i+1))=b at ih ⊢
   generalize jo N (fun i=>f (i+1) !=g (i+1))=c at ih ⊢
   show(((if(f 0 || g 0) then 1 else 0)+2*a:Nat):Int) - ((if(f 0 && g 0) then 1 else 0)+2*b:Nat)=((if(f 0 !=g 0) then 1 else 0)+2*c:Nat)
   cases f 0 <;> cases g 0 <;> simp <;> omega
theorem sN(x y:Nat):Builtin.bitAnd (x:Int) (y:Int)=((x &&& y:Nat):Int):=by
 unfold Builtin.bitAnd;rw[decide_eq_true (by omega:(0:Int)<=x),decide_eq_true (by omega:(0:Int)<=y)]
 simp
theorem Bd(x y:Nat):Builtin.bitOr (x:Int) (y:Int)=((x ||| y:Nat):Int):=by
 unfold Builtin.bitOr Builtin.bitAnd Builtin.bitNot;rw[decide_eq_false (by omega:¬(0:Int)<= -(x:Int) - 1),decide_eq_false (by omega:¬(0:Int)<= -(y:Int) - 1)]
 show -(-(((-(-(x:Int) - 1) - 1).toNat ||| (-(-(y:Int) - 1) - 1).toNat:Nat):Int) - 1) - 1=_
 rw[show(-(-(x:Int) - 1) - 1).toNat=x by omega,show(-(-(y:Int) - 1) - 1).toNat=y by omega]
 omega
def mI(N:Nat)(f:M):D:= .int (jo N f:Nat)
theorem x3{N:Nat}{f g:M}(h:∀i,i < N->f i=g i):mI N f=mI N g:=by unfold mI;rw [nc h]
theorem sg(N:Nat)(f g:M):Dv (mI N f) (mI N g)= .ok (mI N fun i=>f i && g i):=by
 show R.ok (D.int (Builtin.bitAnd (jo N f:Int) (jo N g:Int)))=_;rw[sN,Bq];rfl
theorem yL(N:Nat)(f g:M):G7 (mI N f) (mI N g)= .ok (mI N fun i=>f i || g i):=by
 show R.ok (D.int (Builtin.bitOr (jo N f:Int) (jo N g:Int)))=_;rw[Bd,Ef];rfl
theorem BL(N:Nat)(f g:M):Dw (mI N f) (mI N g)= .ok (mI N fun i=>f i !=g i):=by
 show R.ok (D.int (Builtin.bitOr (jo N f:Int) (jo N g:Int) - Builtin.bitAnd (jo N f:Int) (jo N g:Int)))=_;rw[Bd,sN,Ef,Bq,Bu];rfl
def one:M:=fun _=>true
theorem yd(N:Nat)(f:M):Dw (mI N one) (mI N f)= .ok (mI N fun i=>!f i):=by
 rw[BL];have:(fun i=>one i !=f i)=fun i=>!f i:=by funext i;unfold one;simp
 rw[this]
theorem GD(N:Nat)(f:M)(c:Bool):(if c then Dw (mI N one) (mI N f) else .ok (mI N f))= .ok (mI N fun i=>f i !=c):=by
 cases c with
 | true=>
   rw[if_pos rfl,yd];have:(fun i=>!f i)=fun i=>f i !=true:=by funext i;cases f i <;> rfl
   rw[this]
 | false=>
   rw[if_neg (by decide)]
   have:f=fun i=>f i !=false:=by funext i;cases f i <;> rfl
   rw[<-this]
theorem xY{N:Nat}{f:M}:jo N f=0↔∀i,i < N->f i=false:=by
 constructor
 .intro h i hi;have:=gS N f i;rw[h,Nat.zero_testBit,decide_eq_true hi,Bool.true_and] at this;exact this.symm
 .intro h;refine Nat.eq_of_testBit_eq fun i=>?_
  rw[gS,Nat.zero_testBit];by_cases q:i < N
  .rw [h i q];simp
  .rw [decide_eq_false q];rfl
theorem Ox(N:Nat)(f:M)(n:Nat):(EW (mI N f) (.int n)).bind (fun d=>Dv d (.int 1))= .ok (.int (if decide (n < N) && f n then 1 else 0)):=by
 have h1:EW (mI N f) (.int n)= .ok (.int ((jo N f / 2 ^ n:Nat):Int)):=by
  show R.bh (decide ((0:Int)<=n)) (.ok (D.int ((jo N f:Int) / 2 ^ ((n:Int)).toNat)))=_;rw[bH _ (by omega),Int.toNat_natCast]
  congr 2
 rw[h1,R.aH];show R.ok (D.int (Builtin.bitAnd ((jo N f / 2 ^ n:Nat):Int) ((1:Nat):Int)))=_;rw[sN,Nat.and_one_is_mod,<-gS];congr 2;unfold Nat.testBit;rw[Nat.shiftRight_eq_div_pow,Nat.one_and_eq_mod_two];have:jo N f / 2 ^ n % 2=0\/jo N f / 2 ^ n % 2=1:=by omega
 rcases this with q | q <;> rw[q] <;> rfl
def bI(b:Bool):D:= .int (if b then 1 else 0)
def G3:List Bool->Nat
 | []=>0
 | b ::bs=>(if b then 1 else 0)+2*G3 bs
theorem DJ:∀bs:List Bool,G3 bs=jo bs.length fun i=>bs.getD i false
 | []=>rfl
 | b ::bs=>by
   unfold G3;rw[DJ bs];rfl
def nI(n:Nat):D:= .int (n:Int)
def kS:Nat->Str | 0=>"not" | 1=>"and" | 2=>"or" | 3=>"xor" | _=>"vote"
def ar:Nat->Nat | 0=>1 | 4=>3 | _=>2
theorem EE(k:Nat):ar k<=3:=by unfold ar;split <;> omega
def gv:Nat->List Bool->Bool
 | 0,[a]=>!a
 | 1,[a,b]=>a && b
 | 2,[a,b]=>a || b
 | 3,[a,b]=>a !=b
 | 4,[a,b,c]=>(a && b) || (a && c) || (b && c)
 | _,_=>false
def lh(ws:List M)(n:Nat):M:=ws.getD n fun _=>false
theorem wz{ws:List M}{b:M}{n:Nat}(h:n < ws.length):lh (ws++[b]) n=lh ws n:=by
 unfold lh;rw[List.getD_eq_getElem?_getD,List.getElem?_append_left h,List.getD_eq_getElem?_getD]
theorem yf(ws:List M)(b:M):lh (ws++[b]) ws.length=b:=by
 unfold lh;rw[List.getD_eq_getElem?_getD,List.getElem?_append_right (Nat.le_refl _),Nat.sub_self];rfl
abbrev Gt:=Nat × List Nat × Bool
def dO(g:Gt):D:= .tup [.str (kS g.1), .tup (g.2.1.map nI), .bl g.2.2]
def ny(n:Nat)(g:Gt):Prop:=g.1<=4/\g.2.1.length=ar g.1/\∀w∈g.2.1,w < n
def inD(x:Str × Nat):D:= .tup [.str x.1,nI x.2]
def pU(x:Str × List Nat):D:= .tup [.str x.1, .tup (x.2.map nI)]
def cg(ins:Aac)(gs:List Gt)(os:Aad):D:= .tup [.lst (ins.map inD), .lst (gs.map dO), .lst (os.map pU)]
def iz(ins:Aac):Nat:=(ins.map (·.2)).sum
def gF(g:Gt)(ws:List M):M:=fun p=>gv g.1 (g.2.1.map fun n=>lh ws n p)
def iI(bad:List Int)(b:M):Nat->List M->List M
 | 0,ws=>ws
 | n+1,ws=>iI bad b n ws++[fun p=>b p !=bad.contains ((iI bad b n ws).length:Int)]
theorem gh(bad:List Int)(b:M):∀n ws,(iI bad b n ws).length=ws.length+n
 | 0,ws=>rfl
 | n+1,ws=>by unfold iI;rw [List.length_append,gh bad b n ws];rfl
def di(ins:Aac)(bits:List M)(bad:List Int):Nat->List M
 | 0=>[]
 | i+1=>match ins[i]?,bits[i]? with | some x,some b=>iI bad b x.2 (di ins bits bad i) | _,_=>di ins bits bad i
theorem pR{ins:Aac}{bits:List M}{bad:List Int}(hb:bits.length=ins.length):∀i,i<=ins.length->(di ins bits bad i).length=iz (ins.take i)
 | 0,_=>rfl
 | i+1,hi=>by
   have h1:ins[i]? =some ins[i]:=List.getElem?_eq_getElem (by omega)
   have h2:bits[i]? =some bits[i]:=List.getElem?_eq_getElem (by omega)
   unfold di;rw[h1,h2];show(iI bad bits[i] ins[i].2 (di ins bits bad i)).length=_;rw[gh,pR hb i (by omega),List.take_add_one,h1]
   unfold iz;simp only[Option.toList_some,List.map_append,List.sum_append,List.map_cons,List.map_nil,List.sum_cons,List.sum_nil];omega
def nv(gs:List Gt)(turned:List Int)(w0:List M):Nat->List M
 | 0=>w0
 | i+1=>match gs[i]? with | some g=>nv gs turned w0 i++[fun p=>gF g (nv gs turned w0 i) p !=turned.contains (i:Int)] | none=>nv gs turned w0 i
theorem pM{gs:List Gt}{turned:List Int}{w0:List M}:∀i,i<=gs.length->(nv gs turned w0 i).length=w0.length+i
 | 0,_=>rfl
 | i+1,hi=>by
   have h1:gs[i]? =some gs[i]:=List.getElem?_eq_getElem (by omega)
   unfold nv;rw[h1];show(nv gs turned w0 i++[_]).length=_;rw[List.length_append,pM i (by omega)]
   rfl
structure eZ (ins:Aac) (gs:List Gt) (os:Aad):Prop where
 hi:ins.length < 100
 hw:∀x∈ins,x.2 < 100
 hg:gs.length < 1000
 g:∀(i:Nat) (x:Gt),gs[i]? =some x->ny (iz ins+i) x
 ho:os.length < 1000
 o:∀x∈os,x.2.length < 1000/\∀w∈x.2,w < iz ins+gs.length
def Ek(ins:Aac)(gs:List Gt)(bits:List M)(turned bad:List Int):List M:=nv gs turned (di ins bits bad ins.length) gs.length
theorem DB:∀{l:Aac},(∀x∈l,x.2 < 100)->iz l<=100*l.length
 | [],_=>by simp [iz]
 | x ::l,h=>by
   have ih:=DB (l:=l) fun y hy=>h y (List.mem_cons_of_mem _ hy)
   have:=h x List.mem_cons_self;unfold iz at ih ⊢;rw[List.map_cons,List.sum_cons,List.length_cons];omega
theorem yP{ins:Aac}{gs:List Gt}{bits:List M}{turned bad:List Int}(hb:bits.length=ins.length):(Ek ins gs bits turned bad).length=iz ins+gs.length:=by unfold Ek;rw [pM _ (Nat.le_refl _),pR hb _ (Nat.le_refl _),List.take_length]
def tell(ws:List M)(x:Str × List Nat):List M:=x.2.map (lh ws)
def NU:List Bool->Bool × Bool
 | [a]=>(!a,a)
 | [a,b]=>(!(a || b),a && b)
 | [a,b,c]=>let v:=(a && b) || (a && c) || (b && c);(!v,v)
 | _=>(false,false)
def brk(safe:Bool)(x y:Bool × Bool):Bool:=if safe then(x.1 && y.2) || (x.2 && y.1) else(x.1 !=y.1) || (x.2 !=y.2)
theorem wm(i:Int)(ps:List Int):u0 (.int i) (.tup (ps.map .int))= .ok (.bl (ps.contains i)):=by
 show((match ints? (ps.map D.int) with | some ss=>R.ok (ss.contains i) | none=> .no)).bind (fun b=>R.ok (D.bl b))=_
 rw[L2.ints_map];rfl
theorem vN{ds:List D}{i:Nat}{v:V3}(h:((dk ds).map V3.d)[i]? =some v):∃d,ds[i]? =some d/\v= .d (.tup [.int i,d]):=by
 rw[List.getElem?_map,dk,List.getElem?_map,List.getElem?_zipIdx] at h;cases q:ds[i]? with
 | none=>rw [q] at h;cases h
 | some d=>
   rw[q] at h;simp at h;exact⟨d,rfl,h.symm⟩
theorem wA{c:au->R Bool}{δ:au}{b:Bool}{r:R D}(h:c δ= .ok b)(h2:(if b then f δ else g δ)=r):KH c f g δ=r:=by unfold KH;rw [h,R.aH];exact h2
theorem fK(S:aI)(x y:SO):(S++[x]).set S.length y=S++[y]:=by
 rw[List.set_append_right _ _ (Nat.le_refl _),Nat.sub_self];rfl
theorem bx(S:aI)(x:SO):(S++[x])[S.length]? =some x:=by rw[List.getElem?_append_right (Nat.le_refl _),Nat.sub_self];rfl
theorem Lm{N:Nat}{ws:List M}{n:Nat}(h:n < ws.length):b_ (.lst (ws.map (mI N))) (nI n)= .ok (mI N (lh ws n)):=by
 refine NT.rK ?_;rw[List.getElem?_map,List.getElem?_eq_getElem h];unfold lh;rw[List.getD_eq_getElem?_getD,List.getElem?_eq_getElem h];rfl
theorem ox{α:Type}{t:FG}{body:FZ}{S:aI}(g:α->V3)(f:α->Option V3)(E:DE->Prop):∀{xs:List α} {δ:DE},E δ->
 (∀x∈xs,∀δ,E δ->∃δ1,t (g x) δ=some δ1/\W3 (body δ1 S) fun o S1=>S1=S/\(match f x with | some v=>o= .rt v | none=>∃dD,o= .nx dD/\E dD))->
 W3 (mN t body (xs.map g) δ S) fun o S1=>S1=S/\(match xs.findSome? f with | some v=>o= .rt v | none=>∃dD,o= .nx dD/\E dD)
 | [],δ,h0,_=>W3.ok ⟨rfl,δ,rfl,h0⟩
 | x ::xs,δ,h0,hs=>by
   obtain⟨δ1,e1,o,S1,e2,rfl,h2⟩:=hs x List.mem_cons_self δ h0;rw[List.map_cons];unfold mN;rw[e1];refine W3.bind ⟨_,_,e2,?_⟩;rw[List.findSome?_cons];cases hf:f x with
   | some v=>rw [hf] at h2;subst h2;exact W3.ok ⟨rfl,rfl⟩
   | none=>
     rw[hf] at h2;obtain⟨dD,rfl,h2⟩:=h2;exact ox g f E h2 fun y hy=>hs y (List.mem_cons_of_mem _ hy)
def iU:List Nat->Nat->Aae
 | _,0=>[[]]
 | ps,s+1=>(List.range ps.length).flatMap fun a=>(iU (ps.drop (a+1)) s).map (ps.getD a 0 ::·)
theorem wq:∀{s:Nat} {ps T:List Nat},T∈iU ps s->T.length=s/\∀x∈T,x∈ps
 | 0,ps,T,h=>by unfold iU at h;rw [List.mem_singleton.mp h];simp
 | s+1,ps,T,h=>by
   unfold iU at h;obtain⟨a,ha,h⟩:=List.mem_flatMap.mp h;obtain⟨R,hR,rfl⟩:=List.mem_map.mp h;rw[List.mem_range] at ha;obtain⟨h1,h2⟩:=wq hR;refine⟨by simp [h1],fun x hx=>?_⟩
   rcases List.mem_cons.mp hx with rfl | hx
   .rw [List.getD_eq_getElem?_getD,List.getElem?_eq_getElem ha];exact List.getElem_mem ha
   .exact List.mem_of_mem_drop (h2 x hx)
theorem y7:∀{l:List Nat} {m:Nat},(∀x∈l,x<=m)->l.sum<=l.length*m
 | [],_,_=>by simp
 | x ::l,m,h=>by
   have:=y7 (l:=l) (m:=m) fun y hy=>h y (List.mem_cons_of_mem _ hy)
   have h0:=h x List.mem_cons_self;rw[List.sum_cons,List.length_cons,Nat.add_mul];omega
theorem rS:∀{s:Nat} {ps:List Nat} {n:Nat},ps.length<=n->(iU ps s).length<=n ^ s
 | 0,ps,n,_=>by unfold iU;simp
 | s+1,ps,n,h=>by
   unfold iU;rw[List.length_flatMap,Nat.pow_succ];refine Nat.le_trans (y7 (m:=n ^ s) fun x hx=>?_) ?_
   .obtain⟨a,_,rfl⟩:=List.mem_map.mp hx;rw[List.length_map];exact rS (by rw[List.length_drop];omega)
   .rw [List.length_map,List.length_range,Nat.mul_comm];exact Nat.mul_le_mul_left _ h
theorem i8{F G:FZ}{δ:DE}{S:aI}{QO:Ou->aI->Prop}(h:W3 (F δ S) fun o S1=>match o with | .nx δ1=>W3 (G δ1 S1) QO | .rt v=>QO (.rt v) S1):W3 (bp F G δ S) QO:=
 W3.bind (h.mono fun o S1 q=>by cases o with | nx δ1=>exact q | rt v=>exact W3.ok q)
end MT
end
section
set_option maxHeartbeats 1000000
namespace JT
open PySem PySem.Spec PyProof.Rows L2 L3 MT
def gB(g:Gt)(ws:List Bool):Bool:=gv g.1 (g.2.1.map fun n=>ws.getD n false)
def vF:List Gt->(Nat->Bool)->List Bool->List Bool
 | [],_,ws=>ws
 | g ::gs,T,ws=>vF gs (fun i=>T (i+1)) (ws++[gB g ws !=T 0])
def NK(f:Nat->Nat)(g:Gt):Gt:=(g.1,g.2.1.map f,g.2.2)
def Xw(f:Nat->Nat)(x:Str × List Nat):Str × List Nat:=(x.1,x.2.map f)
def Sh(f:Nat->Nat)(v ws:List Bool):Prop:=∀w,w < v.length->f w < ws.length/\ws.getD (f w) false=v.getD w false
def ZT(p:Nat)(ws:List M):List Bool:=ws.map (· p)
def UP:List (Str × Nat)->List Bool->List Bool
 | x ::ins,b ::bits=>List.replicate x.2 b++UP ins bits
 | _,_=>[]
def DI(k:Nat)(bad:Nat->Bool):List Bool->List Bool
 | []=>[]
 | b ::bs=>(b !=bad k) ::DI (k+1) bad bs
def Ru(ins:Aac)(gs:List Gt)(bits:List Bool)(T bad:Nat->Bool):List Bool:=vF gs T (DI 0 bad (UP ins bits))
end JT
end
section
namespace JT
open PySem PySem.Spec PyProof.Rows L2 L3 MT
def yr(ws:List Bool)(ns:List Nat):List Bool:=ns.map fun n=>ws.getD n false
def Fc(f:Nat->List Bool):List (Option Nat × Nat)->List Bool->List Bool
 | [],_=>[]
 | (some o,_) ::r,l=>f o++Fc f r l
 | (none,w) ::r,l=>l.take w++Fc f r (l.drop w)
def Hz(f1:Nat->Nat)(os:Nat->List Nat):List (Option Nat × Nat)->Nat->List Nat
 | [],_=>[]
 | (some o,_) ::r,free=>(os o).map f1++Hz f1 os r free
 | (none,w) ::r,free=>List.range' free w++Hz f1 os r (free+w)
def tu:List (Option Nat × Nat)->Nat
 | []=>0
 | (some _,_) ::r=>tu r
 | (none,w) ::r=>w+tu r
def Rn(n1 l w:Nat):Nat:=if w < n1 then w else w+l
def UA(L:List Nat)(top w:Nat):Nat:=if w < L.length then L.getD w 0 else top+(w - L.length)
section
variable {gs1 Nm:List Gt} {φ:List (Option Nat × Nat)} {os:Nat->List Nat} {n1:Nat} {r1 rl:List Bool} {T:Nat->Bool}
def gJ(gs1 Nm:List Gt)(φ:List (Option Nat × Nat))(os:Nat->List Nat)(n1:Nat):List Gt:=
 gs1.map (NK (Rn n1 (tu φ)))++Nm.map (NK (UA (Hz (Rn n1 (tu φ)) os φ n1) (n1+tu φ+gs1.length)))
end
def Nd(bits:List Bool):List Bool:=bits.flatMap (List.replicate 3)
def Ul:List Bool->Bool
 | [a,b,c]=>(a && b) || (a && c) || (b && c)
 | _=>false
def UL:List Bool->Bool
 | [a,b,c]=>(a !=b) || (a !=c)
 | _=>false
def W4(xs ys:List Bool):List Bool:=List.zipWith (· !=·) xs ys
def lst(xs ys:List Bool):Bool:=Ul (W4 xs ys)
def OJ:List Bool->List Bool->Prop
 | [],r=>r=[]
 | b ::bs,r=>∃x y z r',r=x ::y ::z ::r'/\Ul [b !=x,b !=y,b !=z]=false/\OJ bs r'
def no:Nat->Bool:=fun _=>false
structure V9 (c:Nat) (gs:List Gt) (os:Aad):Prop where
 a:∀bits:List Bool,bits.length=c->∀x∈os,UL (yr (vF gs no (Nd bits)) x.2)=false
 b:∀bits:List Bool,bits.length=c->∀i g,gs[i]? =some g->g.2.2=false->∀x∈os,lst (yr (vF gs no (Nd bits)) x.2) (yr (vF gs (fun j=>j==i) (Nd bits)) x.2)=false
 c:∀bits row:List Bool,bits.length=c->OJ bits row->∀x∈os,lst (yr (vF gs no (Nd bits)) x.2) (yr (vF gs no row) x.2)=false
def AH(v:Nat->Bool):List (Option Nat × Nat)->List Bool->List Bool
 | [],_=>[]
 | (some o,_) ::r,l=>v o ::AH v r l
 | (none,_) ::r,l=>l.headD false ::AH v r l.tail
def many:List (Option Nat × Nat)->Nat
 | []=>0
 | (some _,_) ::r=>many r
 | (none,_) ::r=>many r+1
end JT
end
section
namespace JT
open PySem PySem.Spec PyProof.Rows L2 L3 MT
structure ZF (c1:Nat) (gs1 Nm:List Gt) (Ha Qq:Aad) (φ:List (Option Nat × Nat)) (os:Nat->List Nat):Prop where
 h3:∀x∈φ,x.2=3
 g1:∀i g,gs1[i]? =some g->∀w∈g.2.1,w < 3*c1+i
 g2:∀i g,Nm[i]? =some g->∀w∈g.2.1,w < 3*φ.length+i
 o1:∀x∈Ha,x.2.length=3/\∀n∈x.2,n < 3*c1+gs1.length
 o2:∀x∈Qq,x.2.length=3/\∀n∈x.2,n < 3*φ.length+Nm.length
 ho:∀o w,(some o,w)∈φ->∃x∈Ha,x.2=os o
section
variable {c1:Nat} {gs1 Nm:List Gt} {Ha Qq Vt:Aad} {φ:List (Option Nat × Nat)} {os:Nat->List Nat}
abbrev Uj(c1:Nat)(φ:List (Option Nat × Nat)):Nat->Nat:=Rn (3*c1) (tu φ)
abbrev Xc(c1:Nat)(gs1:List Gt)(φ:List (Option Nat × Nat))(os:Nat->List Nat):Nat->Nat:=UA (Hz (Uj c1 φ) os φ (3*c1)) (3*c1+tu φ+gs1.length)
def UC(c1:Nat)(gs1:List Gt)(Ha Qq Vt:Aad)(φ:List (Option Nat × Nat))(os:Nat->List Nat):Prop:=
 ∀x∈Vt,(∃y∈Ha,x.2=y.2.map (Uj c1 φ))\/∃y∈Qq,x.2=y.2.map (Xc c1 gs1 φ os)
end
end JT
end
section
namespace JT
open PySem PySem.Spec PyProof.Rows L2 L3 MT
def cH:Nat->List (List Bool)
 | 0=>[[]]
 | c+1=>(cH c).flatMap fun b=>[b++[false],b++[true]]
def N6(c j:Nat):M:=fun p=>((cH c).getD p []).getD j false
def uj(c:Nat):List M:=(List.range c).map (N6 c)
def Ki(c p:Nat):List Bool:=(cH c).getD p []
def UY(f e:Nat):Nat->Aae
 | 0=>[[]]
 | m+1=>(List.range' f (e - f)).flatMap fun w=>(UY ((w / 3+1)*3) e m).map (w ::·)
def Xu(f e:Nat):List Nat->Prop
 | []=>True
 | w ::B=>f<=w/\w < e/\Xu ((w / 3+1)*3) e B
def Q5(c:Nat)(gs:List Gt):List (List Nat × List Nat):=
 (gs.zipIdx.filter (fun x=>!x.1.2.2)).map (fun x=>(([]:List Nat),[x.2]))++(List.range' 1 c).flatMap fun m=>(UY 0 (3*c) m).map fun B=>(B,([]:List Nat))
def D0(c:Nat)(gs:List Gt)(p:Nat):List Bool:=vF gs no (Nd (Ki c p))
def L5(c:Nat)(gs:List Gt)(f:List Nat × List Nat)(p:Nat):List Bool:=vF gs (fun i=>f.2.contains i) (DI 0 (fun n=>f.1.contains n) (Nd (Ki c p)))
def QK(c:Nat)(gs:List Gt)(os:Aad)(p:Nat):Bool:=os.any fun x=>UL (yr (D0 c gs p) x.2)
def O_(c:Nat)(gs:List Gt)(os:Aad)(f:List Nat × List Nat)(p:Nat):Bool:=os.any fun x=>lst (yr (D0 c gs p) x.2) (yr (L5 c gs f p) x.2)
def Rv(c:Nat)(gs:List Gt)(os:Aad):Option (List Nat × List Nat × Nat):=
 match (List.range (2 ^ c)).find? (QK c gs os) with
 | some p=>some ([],[],p)
 | none=>(Q5 c gs).findSome? fun f=>((List.range (2 ^ c)).find? (O_ c gs os f)).map fun p=>(f.1,f.2,p)
end JT
end
section
namespace JT
open PySem PySem.Spec PyProof.Rows L2 L3 MT
theorem Kh(a b:Nat):dE (nI a) (nI b)= .ok (nI (a+b)):=rfl
theorem Rz(a b:Nat):il (nI a) (nI b)= .ok (.bl (decide (a=b))):=by
 show R.ok (D.bl ((a:Int)==(b:Int)))=_;congr 2;by_cases h:a=b
 .rw [decide_eq_true h];exact beq_iff_eq.mpr (by omega)
 .rw [decide_eq_false h];exact beq_eq_false_iff_ne.mpr (by omega)
theorem LA(a b:Nat):IP (nI a) (nI b)= .ok (.bl (decide (a < b))):=by
 show R.ok (D.bl (decide ((a:Int) < (b:Int))))=_;congr 2;by_cases h:a < b
 .rw [decide_eq_true h,decide_eq_true (by omega)]
 .rw [decide_eq_false h,decide_eq_false (by omega)]
theorem RP(a b:Nat):Qa (nI a) (nI b)= .ok (.bl (decide (a<=b))):=by
 show R.ok (D.bl (decide ((a:Int)<=(b:Int))))=_;congr 2;by_cases h:a<=b
 .rw [decide_eq_true h,decide_eq_true (by omega)]
 .rw [decide_eq_false h,decide_eq_false (by omega)]
theorem vU{ds:List D}:dh [.lst ds]= .ok (nI ds.length):=rfl
theorem LZ{ds:List D}:dh [.tup ds]= .ok (nI ds.length):=rfl
theorem NQ{f:FD}{δ:au}{n:Nat}(h:f δ= .ok (nI n))(hn:n < 1000000):ft f δ= .ok ((List.range n).map nI):=by
 rw[jt h hn];unfold cC;congr 1;refine List.map_congr_left fun i _=>?_
 show D.int (0+(i:Int))=D.int (i:Int);rw[Int.zero_add]
def Zs(T:List Nat):D:= .tup (T.map nI)
def kdN(r:Nat):Nat:=[1,2,3,4,0].getD (r % 5) 0
end JT
end
section
set_option maxHeartbeats 4000000
namespace K18
open PySem PySem.Spec PyProof.Rows L2 L3
variable {P:Program} {w:World} {K:W.Frag} {mg:Aaf} {base:Heap} {cl:Aag}
def top(i:Nat):Stmt:=PySem.Challenge.pw_bearfaults_k18_whole_levels_and_sure_gat.main.body.getD i (.Pass ⟨0,0,0,0⟩)
structure Tp (K:W.Frag) (mg:Aaf) (cl:Aag):Prop where
 z_enumerate:mg "enumerate"=none
 z_range:mg "range"=none
 z_len:mg "len"=none
 z_tuple:mg "tuple"=none
 z_reversed:mg "reversed"=none
 z_zip:mg "zip"=none
 z_abs:mg "abs"=none
 z_min:mg "min"=none
 z_isinstance:mg "isinstance"=none
 z_list:mg "list"=none
 z_sorted:mg "sorted"=none
 z_set:mg "set"=none
 z_int:mg "int"=none
 C_Bench:wc K (cl 0)
 N_Bench_net:cP K (cl 0) "net"
 N_Bench_many_inputs:cP K (cl 0) "many_inputs"
 N_Bench_full:cP K (cl 0) "full"
 N_Bench_in_masks:cP K (cl 0) "in_masks"
 M_Bench:mg "Bench"=some (.ref (cl 0))
 C_Trial:wc K (cl 1)
 N_Trial_bench:cP K (cl 1) "bench"
 N_Trial_plain:cP K (cl 1) "plain"
 N_Trial_unsure:cP K (cl 1) "unsure"
 M_Trial:mg "Trial"=some (.ref (cl 1))
abbrev j5:Stmt:=top 2
noncomputable abbrev vq:List Str:=["masks"]
noncomputable def zl:{b:List Stmt // aL j5=b}:=⟨_,by conv=>lhs;whnf⟩
noncomputable def tS:{b:Scope // ax j5=b}:=⟨_,by conv=>lhs;whnf⟩
theorem Co:a_ vq ["masks"] tS.1:=⟨rfl,rfl,rfl,by decide+kernel,rfl,by decide+kernel,by decide+kernel⟩
def vv:FS:=(iy (e2 G7 (e2 G7 (e2 Dv (e2 b_ (ag 0) (eC (.int 0))) (e2 b_ (ag 0) (eC (.int 1)))) (e2 Dv (e2 b_ (ag 0) (eC (.int 0))) (e2 b_ (ag 0) (eC (.int 2))))) (e2 Dv (e2 b_ (ag 0) (eC (.int 1))) (e2 b_ (ag 0) (eC (.int 2))))))
def gq:List D->R D:=wY vq vv
theorem Cs(T:Tp K mg cl)(h:Def K mg "vote_of" j5):Callee P w K mg base 1 "vote_of" 1 gq:=
 GZ h zl.2 tS.2 Co fun _ _ _ _ _ _ _ hr nd=>(bJ (bX (aK yq (aK yq (aK yp (az (aa 0) af) (az (aa 0) af)) (aK yp (az (aa 0) af) (az (aa 0) af))) (aK yp (az (aa 0) af) (az (aa 0) af)))))
abbrev hV:Stmt:=top 3
noncomputable abbrev my:List Str:=["kind","masks","full"]
noncomputable def wg:{b:List Stmt // aL hV=b}:=⟨_,by conv=>lhs;whnf⟩
noncomputable def pQ:{b:Scope // ax hV=b}:=⟨_,by conv=>lhs;whnf⟩
theorem yh:a_ my ["kind","masks","full"] pQ.1:=⟨rfl,rfl,rfl,by decide+kernel,rfl,by decide+kernel,by decide+kernel⟩
def qH:FS:=(ji (yU (b2 il (ag 0) (eC (.str "not"))) (iy (e2 Dw (ag 2) (e2 b_ (ag 1) (eC (.int 0))))) rE) (ji (yU (b2 il (ag 0) (eC (.str "and"))) (iy (e2 Dv (e2 b_ (ag 1) (eC (.int 0))) (e2 b_ (ag 1) (eC (.int 1))))) rE) (ji (yU (b2 il (ag 0) (eC (.str "or"))) (iy (e2 G7 (e2 b_ (ag 1) (eC (.int 0))) (e2 b_ (ag 1) (eC (.int 1))))) rE) (ji (yU (b2 il (ag 0) (eC (.str "xor"))) (iy (e2 Dw (e2 b_ (ag 1) (eC (.int 0))) (e2 b_ (ag 1) (eC (.int 1))))) rE) (iy (aW gq (ao (ag 1) aO)))))))
def hW:List D->R D:=wY my qH
theorem xF(T:Tp K mg cl)(h:Def K mg "gate_mask" hV)(iW:Callee P w K mg base 1 "vote_of" 1 gq):Callee P w K mg base 2 "gate_mask" 3 hW:=
 GZ h wg.2 pQ.2 yh fun _ _ _ _ _ _ _ hr nd=>(cw (iO (bq (iB hr.units) (aa 0) aS) (bJ (bX (aK xW (aa 2) (az (aa 1) af)))) fS) (cw (iO (bq (iB hr.units) (aa 0) aS) (bJ (bX (aK yp (az (aa 1) af) (az (aa 1) af)))) fS) (cw (iO (bq (iB hr.units) (aa 0) aS) (bJ (bX (aK yq (az (aa 1) af) (az (aa 1) af)))) fS) (cw (iO (bq (iB hr.units) (aa 0) aS) (bJ (bX (aK xW (az (aa 1) af) (az (aa 1) af)))) fS) (bJ (bX (cf iW (ab (aa 1) aj))))))))
abbrev dQ:Stmt:=top 4
noncomputable abbrev fg:List Str:=["ins","in_masks","full","bad","wires","place","mask","figure"]
noncomputable def p7:{b:List Stmt // aL dQ=b}:=⟨_,by conv=>lhs;whnf⟩
noncomputable def km:{b:Scope // ax dQ=b}:=⟨_,by conv=>lhs;whnf⟩
theorem rC:a_ fg ["ins","in_masks","full","bad"] km.1:=⟨rfl,rfl,rfl,by decide+kernel,rfl,by decide+kernel,by decide+kernel⟩
def fT:FZ:=(kq 4 (xT (KH (b2 u0 (aW dh (ao (ag 4) aO)) (ag 3)) (e2 Dw (ag 2) (ag 6)) (ag 6))))
def jB:FZ:=(l6 (iP (ft (e2 b_ (e2 b_ (ag 0) (ag 5)) (eC (.int 1))))) (oS 7) fT)
def ip:FZ:=(bp (b3 4 (pS (fI aO))) (bp (l6 (iP (Bl (ag 1))) (M_ 2 (G4 (oS 5) (G4 (oS 6) Ny))) jB) (fH (bz 4))))
def dq:List V3->aI->R3 V3:=nq fg ip
def CM:List V3->aI->R3 V3:=pA fg ip
theorem rF(T:Tp K mg cl)(h:Def K mg "in_wire_masks" dQ):bu P w K mg base cl 1 "in_wire_masks" 4 dq:=
 B_ h p7.2 km.2 rC fun _ _ _ _ _ _ _ hr nd=>(ak (aX (ix (bY aj))) (ak (eR (dS (zg (aa 1) rfl T.z_enumerate)) (rM (eI bw (eI bw pd))) (aJ (eR (dS (cX (az (az (aa 0) (aa 5)) af) rfl T.z_range)) bw (aJ (gu (ck (zD (bq C3 (aZ dm rfl T.z_len PySem.boot_len (ab (aa 4) aj)) (aa 3)) (aK xW (aa 2) (aa 6)) (aa 6)))))))) (aJ (cu (aM 4)))))
abbrev iY:Stmt:=top 5
noncomputable abbrev sR:List Str:=["wires","numbers"]
noncomputable def xA:{b:List Stmt // aL iY=b}:=⟨_,by conv=>lhs;whnf⟩
noncomputable def qL:{b:Scope // ax iY=b}:=⟨_,by conv=>lhs;whnf⟩
theorem zY:a_ sR ["wires","numbers"] qL.1:=⟨rfl,rfl,rfl,by decide+kernel,rfl,by decide+kernel,by decide+kernel⟩
def tH:FS:=(iy (aW oy (ao (eNew (iJ (g_ (ag 1)) (bR 0) wI (e2 b_ (ag 1) (ag 0)) ["number"] [0])) aO)))
def fq:List D->R D:=wY sR tH
theorem ze(T:Tp K mg cl)(h:Def K mg "masks_at" iY):Callee P w K mg base 1 "masks_at" 2 fq:=
 GZ h xA.2 qL.2 zY fun _ _ _ _ _ _ _ hr nd=>(bJ (bX (gm rP rfl T.z_tuple PyProof.Rows.boot_tuple (ab (cj (eX (eB (aa 1)) (fun _ _ _=>bG) (fun _ _ _=>gz) (fun _ _ _=>(az (aa 1) (aa 0))))) aj))))
abbrev fR:Stmt:=top 6
noncomputable abbrev iQ:List Str:=["net","in_masks","full","turned","bad","wires","place","gate","mask"]
noncomputable def uB:{b:List Stmt // aL fR=b}:=⟨_,by conv=>lhs;whnf⟩
noncomputable def nU:{b:Scope // ax fR=b}:=⟨_,by conv=>lhs;whnf⟩
theorem vW:a_ iQ ["net","in_masks","full","turned","bad"] nU.1:=⟨rfl,rfl,rfl,by decide+kernel,rfl,by decide+kernel,by decide+kernel⟩
def i9:FZ:=(bp (b3 8 (xT (aW hW (ao (e2 b_ (ag 7) (eC (.int 0))) (ao (aW fq (ao (ag 5) (ao (e2 b_ (ag 7) (eC (.int 1))) aO))) (ao (ag 2) aO)))))) (kq 5 (xP (KH (b2 u0 (ag 6) (ag 3)) (e2 Dw (ag 2) (ag 8)) (ag 8)))))
def lu:FZ:=(bp (b3 5 (bt dq (aq (xP (e2 b_ (ag 0) (eC (.int 0)))) (aq (xP (ag 1)) (aq (xP (ag 2)) (aq (xP (ag 4)) bC)))))) (bp (l6 (iP (jP (e2 b_ (ag 0) (eC (.int 1))))) (M_ 2 (G4 (oS 6) (G4 (oS 7) Ny))) i9) (fH (bz 5))))
def uE:List V3->aI->R3 V3:=nq iQ lu
def gZ:List V3->aI->R3 V3:=pA iQ lu
theorem vO(T:Tp K mg cl)(h:Def K mg "wire_masks" fR)(gA:Callee P w K mg base 1 "masks_at" 2 fq)(m4:Callee P w K mg base 2 "gate_mask" 3 hW)(eO:bu P w K mg base cl 1 "in_wire_masks" 4 dq):bu P w K mg base cl 3 "wire_masks" 5 uE:=
 B_ h uB.2 nU.2 vW fun _ _ _ _ _ _ _ hr nd=>(ak (aX (aP eO (ae (ah (az (aa 0) af)) (ae (ah (aa 1)) (ae (ah (aa 2)) (ae (ah (aa 4)) aA)))))) (ak (eR (dS (qh (az (aa 0) af) rfl T.z_enumerate)) (rM (eI bw (eI bw pd))) (ak (aX (ck (cf m4 (ab (az (aa 7) af) (ab (cf gA (ab (aa 5) (ab (az (aa 7) af) aj))) (ab (aa 2) aj)))))) (aJ (gu (ah (zD (bq C3 (aa 6) (aa 3)) (aK xW (aa 2) (aa 8)) (aa 8))))))) (aJ (cu (aM 5)))))
abbrev ib:Stmt:=top 7
noncomputable abbrev ju:List Str:=["net","wires"]
noncomputable def wj:{b:List Stmt // aL ib=b}:=⟨_,by conv=>lhs;whnf⟩
noncomputable def oX:{b:Scope // ax ib=b}:=⟨_,by conv=>lhs;whnf⟩
theorem xE:a_ ju ["net","wires"] oX.1:=⟨rfl,rfl,rfl,by decide+kernel,rfl,by decide+kernel,by decide+kernel⟩
def l_:FZ:=(fH (pS (iJ (g_ (e2 b_ (ag 0) (eC (.int 2)))) (nS 2 (dH (bR 0) (dH (bR 1) nQ))) wI (aW fq (ao (ag 2) (ao (ag 1) aO))) ["name","numbers"] [1])))
def wk:List V3->aI->R3 V3:=nq ju l_
def iR:List V3->aI->R3 V3:=pA ju l_
theorem yx(T:Tp K mg cl)(h:Def K mg "out_masks" ib)(gA:Callee P w K mg base 1 "masks_at" 2 fq):bu P w K mg base cl 2 "out_masks" 2 wk:=
 B_ h wj.2 oX.2 xE fun _ _ _ _ _ _ _ hr nd=>(aJ (cu (ix (eX (eB (az (aa 0) af)) (fun _ _ _=>(mB (cQ bG (cQ bG j6)))) (fun _ _ _=>gz) (fun _ _ _=>(cf gA (ab (aa 2) (ab (aa 1) aj))))))))
abbrev j8:Stmt:=top 8
noncomputable abbrev ni:List Str:=["masks","full","ones"]
noncomputable def za:{b:List Stmt // aL j8=b}:=⟨_,by conv=>lhs;whnf⟩
noncomputable def sV:{b:Scope // ax j8=b}:=⟨_,by conv=>lhs;whnf⟩
theorem B0:a_ ni ["masks","full"] sV.1:=⟨rfl,rfl,rfl,by decide+kernel,rfl,by decide+kernel,by decide+kernel⟩
def vd:FS:=(ji (yU (b2 il (aW dh (ao (ag 0) aO)) (eC (.int 2))) (iy (eP (ao (e2 Dw (ag 1) (e2 G7 (e2 b_ (ag 0) (eC (.int 0))) (e2 b_ (ag 0) (eC (.int 1))))) (ao (e2 Dv (e2 b_ (ag 0) (eC (.int 0))) (e2 b_ (ag 0) (eC (.int 1)))) aO)))) rE) (ji (yE 2 (KH (b2 il (aW dh (ao (ag 0) aO)) (eC (.int 1))) (e2 b_ (ag 0) (eC (.int 0))) (aW gq (ao (ag 0) aO)))) (iy (eP (ao (e2 Dw (ag 1) (ag 2)) (ao (ag 2) aO))))))
def kY:List D->R D:=wY ni vd
theorem Ct(T:Tp K mg cl)(h:Def K mg "reading" j8)(iW:Callee P w K mg base 1 "vote_of" 1 gq):Callee P w K mg base 2 "reading" 2 kY:=
 GZ h za.2 sV.2 B0 fun _ _ _ _ _ _ _ hr nd=>(cw (iO (bq (iB hr.units) (aZ dm rfl T.z_len PySem.boot_len (ab (aa 0) aj)) af) (bJ (bX (bS (ab (aK xW (aa 1) (aK yq (az (aa 0) af) (az (aa 0) af))) (ab (aK yp (az (aa 0) af) (az (aa 0) af)) aj))))) fS) (cw (tT (zD (bq (iB hr.units) (aZ dm rfl T.z_len PySem.boot_len (ab (aa 0) aj)) af) (az (aa 0) af) (cf iW (ab (aa 0) aj)))) (bJ (bX (bS (ab (aK xW (aa 1) (aa 2)) (ab (aa 2) aj)))))))
abbrev md:Stmt:=top 9
noncomputable abbrev yw:List Str:=["mask","number"]
noncomputable def Cv:{b:List Stmt // aL md=b}:=⟨_,by conv=>lhs;whnf⟩
noncomputable def uY:{b:Scope // ax md=b}:=⟨_,by conv=>lhs;whnf⟩
theorem Eo:a_ yw ["mask","number"] uY.1:=⟨rfl,rfl,rfl,by decide+kernel,rfl,by decide+kernel,by decide+kernel⟩
def x4:FS:=(iy (e2 Dv (e2 EW (ag 0) (ag 1)) (eC (.int 1))))
def mF:List D->R D:=wY yw x4
theorem F_(T:Tp K mg cl)(h:Def K mg "bit_at" md):Callee P w K mg base 1 "bit_at" 2 mF:=
 GZ h Cv.2 uY.2 Eo fun _ _ _ _ _ _ _ hr nd=>(bJ (bX (aK yp (aK NX (aa 0) (aa 1)) af)))
abbrev fL:Stmt:=top 10
noncomputable abbrev iM:List Str:=["count","inputs","place","longer","bits"]
noncomputable def uG:{b:List Stmt // aL fL=b}:=⟨_,by conv=>lhs;whnf⟩
noncomputable def nK:{b:Scope // ax fL=b}:=⟨_,by conv=>lhs;whnf⟩
theorem vQ:a_ iM ["count"] nK.1:=⟨rfl,rfl,rfl,by decide+kernel,rfl,by decide+kernel,by decide+kernel⟩
def mf:FZ:=(bp (kq 3 (xP (e2 qU (ag 4) (eP (ao (eC (.int 0)) aO))))) (kq 3 (xP (e2 qU (ag 4) (eP (ao (eC (.int 1)) aO))))))
def mw:FZ:=(Eb 1 (bp (b3 3 (pS (fI aO))) (bp (l6 (iP (g_ (ag 1))) (oS 4) mf) (b3 1 (bz 3)))))
def lp:FZ:=(bp (b3 1 (pS (fI (ao (eP aO) aO)))) (bp (l6 (iP (ft (ag 0))) (oS 2) mw) (fH (bz 1))))
def uu:List V3->aI->R3 V3:=nq iM lp
def gT:List V3->aI->R3 V3:=pA iM lp
theorem vR(T:Tp K mg cl)(h:Def K mg "all_inputs" fL):bu P w K mg base cl 1 "all_inputs" 1 uu:=
 B_ h uG.2 nK.2 vQ fun _ _ _ _ _ _ _ hr nd=>(ak (aX (ix (bY (ab (bS aj) aj)))) (ak (eR (dS (cX (aa 0) rfl T.z_range)) bw (Ja 1 (ak (aX (ix (bY aj))) (ak (eR (dS (eB (aa 1))) bw (ak (gu (ah (aK vS (aa 4) (bS (ab af aj))))) (aJ (gu (ah (aK vS (aa 4) (bS (ab af aj)))))))) (aJ (aX (aM 3))))))) (aJ (cu (aM 1)))))
abbrev ky:Stmt:=top 11
noncomputable abbrev qe:List Str:=["bits","mask","bit"]
noncomputable def Aj:{b:List Stmt // aL ky=b}:=⟨_,by conv=>lhs;whnf⟩
noncomputable def t8:{b:Scope // ax ky=b}:=⟨_,by conv=>lhs;whnf⟩
theorem CC:a_ qe ["bits"] t8.1:=⟨rfl,rfl,rfl,by decide+kernel,rfl,by decide+kernel,by decide+kernel⟩
def mP:FS:=(yE 1 (e2 dE (e2 l3 (ag 1) (eC (.int 2))) (ag 2)))
def uS:FS:=(ji (yE 1 (eC (.int 0))) (ji (zw (JX (ag 0)) (bR 2) mP) (iy (ag 1))))
def gc:List D->R D:=wY qe uS
theorem Cg(T:Tp K mg cl)(h:Def K mg "mask_of" ky):Callee P w K mg base 1 "mask_of" 1 gc:=
 GZ h Aj.2 t8.2 CC fun _ _ _ _ _ _ _ hr nd=>(cw (tT af) (cw (t9 (EO (aa 0) rfl T.z_reversed) bG (bJ (tT (aK eV (aK vf (aa 1) af) (aa 2))))) (bJ (bX (aa 1)))))
abbrev kg:Stmt:=top 12
noncomputable abbrev uP:List Str:=["inputs","place"]
noncomputable def zW:{b:List Stmt // aL kg=b}:=⟨_,by conv=>lhs;whnf⟩
noncomputable def sU:{b:Scope // ax kg=b}:=⟨_,by conv=>lhs;whnf⟩
theorem CP:a_ uP ["inputs","place"] sU.1:=⟨rfl,rfl,rfl,by decide+kernel,rfl,by decide+kernel,by decide+kernel⟩
def vp:FS:=(iy (aW gc (ao (eNew (iJ (g_ (ag 0)) (bR 0) wI (e2 b_ (ag 0) (ag 1)) ["bits"] [1])) aO)))
def kU:List D->R D:=wY uP vp
theorem Di(T:Tp K mg cl)(h:Def K mg "in_mask" kg)(iV:Callee P w K mg base 1 "mask_of" 1 gc):Callee P w K mg base 2 "in_mask" 2 kU:=
 GZ h zW.2 sU.2 CP fun _ _ _ _ _ _ _ hr nd=>(bJ (bX (cf iV (ab (cj (eX (eB (aa 0)) (fun _ _ _=>bG) (fun _ _ _=>gz) (fun _ _ _=>(az (aa 0) (aa 1))))) aj))))
abbrev kJ:Stmt:=top 15
noncomputable abbrev j9:List Str:=["places","size","found","ahead","place","rest"]
noncomputable def zX:{b:List Stmt // aL kJ=b}:=⟨_,by conv=>lhs;whnf⟩
noncomputable def t_:{b:Scope // ax kJ=b}:=⟨_,by conv=>lhs;whnf⟩
theorem vh:a_ j9 ["places","size"] t_.1:=⟨rfl,rfl,rfl,by decide+kernel,rfl,by decide+kernel,by decide+kernel⟩
def mQ(self:List D->R D):FS:=(Em 2 (e2 qU (eP (ao (ag 4) aO)) (ag 5)))
def mM(self:List D->R D):FS:=(zw (g_ (aW self (ao (JY (ag 0) (nL (e2 qU (ag 3) (eC (.int 1)))) uM) (ao (e2 rj (ag 1) (eC (.int 1))) aO)))) (bR 5) (mQ self))
def kz(self:List D->R D):FS:=(ji (yU (b2 il (ag 1) (eC (.int 0))) (iy (eNew (fI (ao (eP aO) aO)))) rE) (ji (De 2 (fI aO)) (ji (zw (jP (ag 0)) (nS 2 (dH (bR 3) (dH (bR 4) nQ))) (mM self)) (IU 2 (iy (ag 2))))))
def dY:Nat->List D->R D
 | 0=>fun _=> .no
 | n+1=>wY j9 (kz (dY n))
theorem vx(T:Tp K mg cl)(h:Def K mg "choices" kJ):∀n,Callee P w K mg base (1+n) "choices" 2 (dY n)
 | 0=>by
   obtain⟨f,fd,F,hm⟩:=h;exact⟨f,fd,["places","size"],NY,hm,F.kp,F.binds fun _ _ _ _ _ _ us hl=>match us,hl with | [_,_],_=>rfl⟩
 | n+1=>by
   have MR:=vx T h n;obtain⟨f,fd,F,hm⟩:=h;exact⟨f,fd,_,vw (k:=1+n) zX.2 t_.2 F vh (fun _ _ _ _ _ _ hr=>(have nd:=vh.nd;(cw (iO (bq (iB hr.units) (aa 1) af) (bJ (bX (cj (bY (ab (bS aj) aj))))) fS) (cw (FI (bY aj)) (cw (t9 (qh (aa 0) rfl T.z_enumerate) (mB (cQ bG (cQ bG j6))) (bJ (t9 (eB (cf MR (ab (wJ (aa 0) (kZ (aK vS (aa 3) af)) pN) (ab (aK qK (aa 1) af) aj)) (hkj:=(by omega)))) bG (bJ (E9 (aK vS (bS (ab (aa 4) aj)) (aa 5))))))) (DG 2 (bJ (bX (aa 2))))))))),hm,F.kp,F.binds fun _ _ _ _ _ _ us hl=>match us,hl with | [_,_],_=>rfl⟩
abbrev bM:Stmt:=inClass (top 13) 0
noncomputable abbrev eL:List Str:=["self","net","inputs"]
noncomputable def o9:{b:List Stmt // aL bM=b}:=⟨_,by conv=>lhs;whnf⟩
noncomputable def jw:{b:Scope // ax bM=b}:=⟨_,by conv=>lhs;whnf⟩
theorem kI:a_ eL ["self","net"] jw.1:=⟨rfl,rfl,rfl,by decide+kernel,rfl,by decide+kernel,by decide+kernel⟩
def gg:FZ:=(bp (b3 2 (bt gT (aq (xP (aW dh (ao (e2 b_ (ag 1) (eC (.int 0))) aO))) bC))) (bp (wb 0 "net" (bz 0) (xP (ag 1))) (bp (wb 0 "many_inputs" (bz 0) (xP (aW dh (ao (ag 2) aO)))) (bp (wb 0 "full" (bz 0) (xP (aW gc (ao (eNew (iJ (g_ (ag 2)) (bR 0) wI (eC (.int 1)) ["bits"] [])) aO)))) (wb 0 "in_masks" (bz 0) (xP (eNew (iJ (ft (aW dh (ao (e2 b_ (ag 1) (eC (.int 0))) aO))) (bR 0) wI (aW kU (ao (ag 1) (ao (ag 0) aO))) ["place"] [2]))))))))
def cW:List V3->aI->R3 V3:=nq eL gg
def AK:List V3->aI->R3 V3:=pA eL gg
theorem du(T:Tp K mg cl)(h:CG K (cl 0) "__init__" "Bench.__init__" bM)(iV:Callee P w K mg base 1 "mask_of" 1 gc)(qD:Callee P w K mg base 2 "in_mask" 2 kU)(jV:bu P w K mg base cl 1 "all_inputs" 1 gT):xG P w K mg base cl 3 0 "Bench" 1 cW:=by
 obtain⟨f,fd,F,hm⟩:=h;exact⟨f,fd,_,hm,hJ (k:=2) o9.2 jw.2 F kI (fun _ _ _ _ _ _ hr=>(have nd:=kI.nd;(ak (aX (aP jV (ae (ah (aZ dm rfl T.z_len PySem.boot_len (ab (az (aa 1) af) aj))) aA))) (ak (ot T.C_Bench T.N_Bench_net (aM 0) (ah (aa 1))) (ak (ot T.C_Bench T.N_Bench_many_inputs (aM 0) (ah (aZ dm rfl T.z_len PySem.boot_len (ab (aa 2) aj)))) (ak (ot T.C_Bench T.N_Bench_full (aM 0) (ah (cf iV (ab (cj (eX (eB (aa 2)) (fun _ _ _=>bG) (fun _ _ _=>gz) (fun _ _ _=>af))) aj)))) (aJ (ot T.C_Bench T.N_Bench_in_masks (aM 0) (ah (cj (eX (cX (aZ dm rfl T.z_len PySem.boot_len (ab (az (aa 1) af) aj)) rfl T.z_range) (fun _ _ _=>bG) (fun _ _ _=>gz) (fun _ _ _=>(cf qD (ab (aa 1) (ab (aa 0) aj))))))))))))))),T.M_Bench,F.binds fun _ _ _ _ _ _ us hl=>match us,hl with | [_,_],_=>rfl⟩
abbrev cy:Stmt:=inClass (top 13) 1
noncomputable abbrev gW:List Str:=["self","turned","bad"]
noncomputable def sS:{b:List Stmt // aL cy=b}:=⟨_,by conv=>lhs;whnf⟩
noncomputable def ml:{b:Scope // ax cy=b}:=⟨_,by conv=>lhs;whnf⟩
theorem nJ:a_ gW ["self","turned","bad"] ml.1:=⟨rfl,rfl,rfl,by decide+kernel,rfl,by decide+kernel,by decide+kernel⟩
def jQ:FZ:=(fH (bt iR (aq (p9 0 "net" (bz 0)) (aq (bt gZ (aq (p9 0 "net" (bz 0)) (aq (p9 0 "in_masks" (bz 0)) (aq (p9 0 "full" (bz 0)) (aq (xP (ag 1)) (aq (xP (ag 2)) bC)))))) bC))))
def sH:List V3->aI->R3 V3:=nq gW jQ
def fO:List V3->aI->R3 V3:=pA gW jQ
theorem eW(T:Tp K mg cl)(h:q_ K (cl 0) "tells" "Bench.tells" cy)(jZ:bu P w K mg base cl 3 "wire_masks" 5 gZ)(lI:bu P w K mg base cl 2 "out_masks" 2 iR):j7 P w K mg base cl 4 0 "tells" 2 sH:=by
 obtain⟨f,fd,F,hm⟩:=h;exact⟨f,fd,_,T.C_Bench,hm,hJ (k:=3) sS.2 ml.2 F nJ (fun _ _ _ _ _ _ hr=>(have nd:=nJ.nd;(aJ (cu (aP lI (ae (jf T.C_Bench T.N_Bench_net (aM 0)) (ae (aP jZ (ae (jf T.C_Bench T.N_Bench_net (aM 0)) (ae (jf T.C_Bench T.N_Bench_in_masks (aM 0)) (ae (jf T.C_Bench T.N_Bench_full (aM 0)) (ae (ah (aa 1)) (ae (ah (aa 2)) aA)))))) aA))))))),F.binds fun _ _ _ _ _ _ us hl=>match us,hl with | [_,_,_],_=>rfl⟩
abbrev bN:Stmt:=inClass (top 13) 2
noncomputable abbrev eH:List Str:=["self","turned"]
noncomputable def pL:{b:List Stmt // aL bN=b}:=⟨_,by conv=>lhs;whnf⟩
noncomputable def js:{b:Scope // ax bN=b}:=⟨_,by conv=>lhs;whnf⟩
theorem kE:a_ eH ["self","turned"] js.1:=⟨rfl,rfl,rfl,by decide+kernel,rfl,by decide+kernel,by decide+kernel⟩
def gd:FZ:=(fH (mC (Hl (tP 0 "tells" fO (bz 0) (aq (xP (ag 1)) (aq (xP (eP aO)) bC)))) (oS 0) IF (vH kY (aq (xP (ag 0)) (aq (p9 0 "full" (bz 1)) bC))) ["masks"] [0]))
def pC:List V3->aI->R3 V3:=nq eH gd
def cE:List V3->aI->R3 V3:=pA eH gd
theorem dt(T:Tp K mg cl)(h:q_ K (cl 0) "readings" "Bench.readings" bN)(qE:Callee P w K mg base 2 "reading" 2 kY)(jn:j7 P w K mg base cl 4 0 "tells" 2 fO):j7 P w K mg base cl 5 0 "readings" 1 pC:=by
 obtain⟨f,fd,F,hm⟩:=h;exact⟨f,fd,_,T.C_Bench,hm,hJ (k:=4) pL.2 js.2 F kE (fun _ _ _ _ _ _ hr=>(have nd:=kE.nd;(aJ (cu (se (Bm (pT jn hr (by decide) (aM 0) (ae (ah (aa 1)) (ae (ah (bS aj)) aA)) (cG (cG eY)))) (fun _ _ _=>bw) (fun _ _ _=>uX) (fun _ _ _=>(yG qE hr (by decide) rfl (ae (ah (aa 0)) (ae (jf T.C_Bench T.N_Bench_full (aM 1)) aA)) (cG (cG eY))))))))),F.binds fun _ _ _ _ _ _ us hl=>match us,hl with | [_,_],_=>rfl⟩
abbrev bL:Stmt:=inClass (top 16) 0
noncomputable abbrev eJ:List Str:=["self","net"]
noncomputable def o8:{b:List Stmt // aL bL=b}:=⟨_,by conv=>lhs;whnf⟩
noncomputable def jI:{b:Scope // ax bL=b}:=⟨_,by conv=>lhs;whnf⟩
theorem kL:a_ eJ ["self","net"] jI.1:=⟨rfl,rfl,rfl,by decide+kernel,rfl,by decide+kernel,by decide+kernel⟩
def gn:FZ:=(bp (wb 1 "bench" (bz 0) (Ay 0 cW (aq (xP (ag 1)) bC))) (bp (wb 1 "plain" (bz 0) (tP 0 "readings" cE (p9 1 "bench" (bz 0)) (aq (xP (eP aO)) bC))) (wb 1 "unsure" (bz 0) (xP (eNew (iJ (jP (e2 b_ (ag 1) (eC (.int 1)))) (nS 2 (dH (bR 0) (dH (bR 1) nQ))) (ur (uw (e2 b_ (ag 1) (eC (.int 2))))) (ag 0) ["place","gate"] []))))))
def cZ:List V3->aI->R3 V3:=nq eJ gn
def AE:List V3->aI->R3 V3:=pA eJ gn
theorem dw(T:Tp K mg cl)(h:CG K (cl 1) "__init__" "Trial.__init__" bL)(fU:xG P w K mg base cl 3 0 "Bench" 1 cW)(cI:j7 P w K mg base cl 5 0 "readings" 1 cE):xG P w K mg base cl 6 1 "Trial" 1 cZ:=by
 obtain⟨f,fd,F,hm⟩:=h;exact⟨f,fd,_,hm,hJ (k:=5) o8.2 jI.2 F kL (fun _ _ _ _ _ _ hr=>(have nd:=kL.nd;(ak (ot T.C_Trial T.N_Trial_bench (aM 0) (AU fU hr (by decide) rfl (ae (ah (aa 1)) aA) (cG eY))) (ak (ot T.C_Trial T.N_Trial_plain (aM 0) (pT cI hr (by decide) (jf T.C_Trial T.N_Trial_bench (aM 0)) (ae (ah (bS aj)) aA) (cG eY))) (aJ (ot T.C_Trial T.N_Trial_unsure (aM 0) (ah (cj (eX (qh (az (aa 1) af) rfl T.z_enumerate) (fun _ _ _=>(mB (cQ bG (cQ bG j6)))) (fun _ _ _=>(tW (pj (oV (az (aa 1) af))))) (fun _ _ _=>(aa 0))))))))))),T.M_Trial,F.binds fun _ _ _ _ _ _ us hl=>match us,hl with | [_,_],_=>rfl⟩
abbrev bA:Stmt:=inClass (top 16) 1
noncomputable abbrev ef:List Str:=["self","turned","level","mask","before","after"]
noncomputable def oH:{b:List Stmt // aL bA=b}:=⟨_,by conv=>lhs;whnf⟩
noncomputable def jc:{b:Scope // ax bA=b}:=⟨_,by conv=>lhs;whnf⟩
theorem jF:a_ ef ["self","turned","level"] jc.1:=⟨rfl,rfl,rfl,by decide+kernel,rfl,by decide+kernel,by decide+kernel⟩
def iH:FZ:=(wX (bP (b2 il (ag 2) (eC (.str "safe")))) (b3 3 (xP (e2 G7 (e2 G7 (ag 3) (e2 Dv (e2 b_ (ag 4) (eC (.int 0))) (e2 b_ (ag 5) (eC (.int 1))))) (e2 Dv (e2 b_ (ag 4) (eC (.int 1))) (e2 b_ (ag 5) (eC (.int 0))))))) (b3 3 (xP (e2 G7 (e2 G7 (ag 3) (e2 Dw (e2 b_ (ag 4) (eC (.int 0))) (e2 b_ (ag 5) (eC (.int 0))))) (e2 Dw (e2 b_ (ag 4) (eC (.int 1))) (e2 b_ (ag 5) (eC (.int 1))))))))
def fN:FZ:=(bp (b3 3 (xP (eC (.int 0)))) (bp (l6 (LR (p9 1 "plain" (bz 0)) (tP 0 "readings" cE (p9 1 "bench" (bz 0)) (aq (xP (ag 1)) bC))) (M_ 2 (G4 (oS 4) (G4 (oS 5) Ny))) iH) (fH (xP (ag 3)))))
def oC:List V3->aI->R3 V3:=nq ef fN
def dM:List V3->aI->R3 V3:=pA ef fN
theorem dc(T:Tp K mg cl)(h:q_ K (cl 1) "breaks_at" "Trial.breaks_at" bA)(cI:j7 P w K mg base cl 5 0 "readings" 1 cE):j7 P w K mg base cl 6 1 "breaks_at" 2 oC:=by
 obtain⟨f,fd,F,hm⟩:=h;exact⟨f,fd,_,T.C_Trial,hm,hJ (k:=5) oH.2 jc.2 F jF (fun _ _ _ _ _ _ hr=>(have nd:=jF.nd;(ak (aX (ah af)) (ak (eR (Im (jf T.C_Trial T.N_Trial_plain (aM 0)) (pT cI hr (by decide) (jf T.C_Trial T.N_Trial_bench (aM 0)) (ae (ah (aa 1)) aA) (cG eY)) rfl T.z_zip) (rM (eI bw (eI bw pd))) (aJ (jb (dP (bq (iB hr.units) (aa 2) aS)) (aJ (aX (ah (aK yq (aK yq (aa 3) (aK yp (az (aa 4) af) (az (aa 5) af))) (aK yp (az (aa 4) af) (az (aa 5) af)))))) (aJ (aX (ah (aK yq (aK yq (aa 3) (aK xW (az (aa 4) af) (az (aa 5) af))) (aK xW (az (aa 4) af) (az (aa 5) af))))))))) (aJ (cu (ah (aa 3)))))))),F.binds fun _ _ _ _ _ _ us hl=>match us,hl with | [_,_,_],_=>rfl⟩
abbrev bB:Stmt:=inClass (top 13) 4
noncomputable abbrev d_:List Str:=["self","mask"]
noncomputable def oG:{b:List Stmt // aL bB=b}:=⟨_,by conv=>lhs;whnf⟩
noncomputable def jj:{b:Scope // ax bB=b}:=⟨_,by conv=>lhs;whnf⟩
theorem jr:a_ d_ ["self","mask"] jj.1:=⟨rfl,rfl,rfl,by decide+kernel,rfl,by decide+kernel,by decide+kernel⟩
def fQ:FZ:=(fH (mC (nT (p9 0 "many_inputs" (bz 0))) (oS 0) (bP (b2 il (aW mF (ao (ag 1) (ao (ag 0) aO))) (eC (.int 1)))) (xP (ag 0)) ["number"] [1]))
def oi:List V3->aI->R3 V3:=nq d_ fQ
def dJ:List V3->aI->R3 V3:=pA d_ fQ
theorem c_(T:Tp K mg cl)(h:q_ K (cl 0) "inputs_in" "Bench.inputs_in" bB)(uc:Callee P w K mg base 1 "bit_at" 2 mF):j7 P w K mg base cl 2 0 "inputs_in" 1 oi:=by
 obtain⟨f,fd,F,hm⟩:=h;exact⟨f,fd,_,T.C_Bench,hm,hJ (k:=1) oG.2 jj.2 F jr (fun _ _ _ _ _ _ hr=>(have nd:=jr.nd;(aJ (cu (se (gr (jf T.C_Bench T.N_Bench_many_inputs (aM 0)) rfl T.z_range) (fun _ _ _=>bw) (fun _ _ _=>(tm (dP (bq (iB hr.units) (cf uc (ab (aa 1) (ab (aa 0) aj))) af)))) (fun _ _ _=>(ah (aa 0)))))))),F.binds fun _ _ _ _ _ _ us hl=>match us,hl with | [_,_],_=>rfl⟩
abbrev pP:Stmt:=top 17
noncomputable abbrev rT:List Str:=["net","many","level","trial","size","turned","mask"]
noncomputable def Ep:{b:List Stmt // aL pP=b}:=⟨_,by conv=>lhs;whnf⟩
noncomputable def yD:{b:Scope // ax pP=b}:=⟨_,by conv=>lhs;whnf⟩
theorem Jf:a_ rT ["net","many","level"] yD.1:=⟨rfl,rfl,rfl,by decide+kernel,rfl,by decide+kernel,by decide+kernel⟩
def qg:FZ:=(bp (b3 6 (tP 1 "breaks_at" dM (bz 3) (aq (xP (ag 5)) (aq (xP (ag 2)) bC)))) (wX (bP (b2 yN (ag 6) (eC (.int 0)))) (fH (Dh (aq (xP (eC (.str "breaks"))) (aq (xP (ag 5)) (aq (G1 (tP 0 "inputs_in" dJ (p9 1 "bench" (bz 3)) (aq (xP (ag 6)) bC)) (xP (eC (.int 0)))) bC))))) l8))
def uT:FZ:=(l6 (Hl (vH (dY 4) (aq (p9 1 "unsure" (bz 3)) (aq (xP (ag 4)) bC)))) (oS 5) qg)
def wR:FZ:=(bp (b3 3 (Ay 1 cZ (aq (xP (ag 0)) bC))) (bp (l6 (iP (ft (e2 dE (ag 1) (eC (.int 1))))) (oS 4) uT) (fH (xP (eP (ao (eC (.str "bears")) aO))))))
def EI:List V3->aI->R3 V3:=nq rT wR
def cA:List V3->aI->R3 V3:=pA rT wR
theorem Jz(T:Tp K mg cl)(h:Def K mg "bears" pP)(qy:Callee P w K mg base 5 "choices" 2 (dY 4))(fZ:xG P w K mg base cl 6 1 "Trial" 1 cZ)(fA:j7 P w K mg base cl 6 1 "breaks_at" 2 dM)(fB:j7 P w K mg base cl 2 0 "inputs_in" 1 dJ):bu P w K mg base cl 8 "bears" 3 EI:=
 B_ h Ep.2 yD.2 Jf fun _ _ _ _ _ _ _ hr nd=>(ak (aX (AU fZ hr (by decide) rfl (ae (ah (aa 0)) aA) (cG eY))) (ak (eR (dS (cX (aK eV (aa 1) af) rfl T.z_range)) bw (aJ (eR (Bm (yG qy hr (by decide) rfl (ae (jf T.C_Trial T.N_Trial_unsure (aM 3)) (ae (ah (aa 4)) aA)) (cG (cG eY)))) bw (ak (aX (pT fA hr (by decide) (aM 3) (ae (ah (aa 5)) (ae (ah (aa 2)) aA)) (cG (cG eY)))) (aJ (jb (dP (bq (uk hr.units) (aa 6) af)) (aJ (cu (vX (ae (ah aS) (ae (ah (aa 5)) (ae (sG (pT fB hr (by decide) (jf T.C_Trial T.N_Trial_bench (aM 3)) (ae (ah (aa 6)) aA) (cG eY)) (ah af) (fun _ _=>rfl)) aA)))))) eM)))))) (aJ (cu (ah (bS (ab aS aj)))))))
abbrev eU:Stmt:=top 19
noncomputable abbrev jK:List Str:=["script","k"]
noncomputable def tM:{b:List Stmt // aL eU=b}:=⟨_,by conv=>lhs;whnf⟩
noncomputable def mL:{b:Scope // ax eU=b}:=⟨_,by conv=>lhs;whnf⟩
theorem uo:a_ jK ["script","k"] mL.1:=⟨rfl,rfl,rfl,by decide+kernel,rfl,by decide+kernel,by decide+kernel⟩
def jL:FS:=(ji (yU (b2 IP (ag 1) (aW dh (ao (ag 0) aO))) (iy (e2 b_ (ag 0) (ag 1))) rE) (iy (eC (.int 0))))
def dX:List D->R D:=wY jK jL
theorem uF(T:Tp K mg cl)(h:Def K mg "_law_cell_at" eU):Callee P w K mg base 1 "_law_cell_at" 2 dX:=
 GZ h tM.2 mL.2 uo fun _ _ _ _ _ _ _ hr nd=>(cw (iO (bq Fq (aa 1) (aZ dm rfl T.z_len PySem.boot_len (ab (aa 0) aj))) (bJ (bX (az (aa 0) (aa 1)))) fS) (bJ (bX af)))
abbrev i5:Stmt:=top 20
noncomputable abbrev lr:List Str:=["cell"]
noncomputable def xV:{b:List Stmt // aL i5=b}:=⟨_,by conv=>lhs;whnf⟩
noncomputable def qI:{b:Scope // ax i5=b}:=⟨_,by conv=>lhs;whnf⟩
theorem zK:a_ lr ["cell"] qI.1:=⟨rfl,rfl,rfl,by decide+kernel,rfl,by decide+kernel,by decide+kernel⟩
def nW:FZ:=(fH (pS (fI (ao (aW cAbs (ao (ag 0) aO)) (ao (e2 qt (e2 l3 (e2 dE (e2 qt (ag 0) (eC (.int 2147483647))) (eC (.int 1))) (eC (.int 742938285))) (eC (.int 2147483647))) aO)))))
def eE:List V3->aI->R3 V3:=nq lr nW
def JU:List V3->aI->R3 V3:=pA lr nW
theorem zE(T:Tp K mg cl)(h:Def K mg "_law_reel" i5):bu P w K mg base cl 1 "_law_reel" 1 eE:=
 B_ h xV.2 qI.2 zK fun _ _ _ _ _ _ _ hr nd=>(aJ (cu (ix (bY (ab (aZ N9 rfl T.z_abs PyProof.Rows.boot_abs (ab (aa 0) aj)) (ab (aK oU (aK vf (aK eV (aK oU (aa 0) af) af) af) af) aj))))))
abbrev i_:Stmt:=top 21
noncomputable abbrev lz:List Str:=["reel","many","found","stir"]
noncomputable def xr:{b:List Stmt // aL i_=b}:=⟨_,by conv=>lhs;whnf⟩
noncomputable def qP:{b:Scope // ax i_=b}:=⟨_,by conv=>lhs;whnf⟩
theorem zQ:a_ lz ["reel","many"] qP.1:=⟨rfl,rfl,rfl,by decide+kernel,rfl,by decide+kernel,by decide+kernel⟩
def oh:FZ:=(bp (wX (bT (b2 U0 (e2 b_ (ag 0) (eC (.int 0))) (e2 Lv (eC (.int 10)) (eC (.int 18))))) (bp (b3 2 (xT (e2 qt (e2 b_ (ag 0) (eC (.int 0))) (ag 1)))) (bp (zJ (bz 0) (xP (eC (.int 0))) (xT (e2 yF (e2 b_ (ag 0) (eC (.int 0))) (ag 1)))) (fH (xP (ag 2))))) l8) (bp (zJ (bz 0) (xP (eC (.int 1))) (xT (e2 qt (e2 dE (e2 l3 (e2 b_ (ag 0) (eC (.int 1))) (eC (.int 48271))) (eC (.int 11))) (eC (.int 2147483647))))) (bp (b3 3 (xT (e2 qt (e2 l3 (e2 b_ (ag 0) (eC (.int 1))) (e2 b_ (ag 0) (eC (.int 1)))) (eC (.int 2147483629))))) (fH (xP (e2 qt (e2 yF (e2 qt (e2 l3 (ag 3) (eC (.int 69621))) (eC (.int 2147483587))) (eC (.int 8))) (ag 1)))))))
def yg:List V3->aI->R3 V3:=nq lz oh
def aC:List V3->aI->R3 V3:=pA lz oh
theorem y9(T:Tp K mg cl)(h:Def K mg "_law_take" i_):bu P w K mg base cl 1 "_law_take" 2 yg:=
 B_ h xr.2 qP.2 zQ fun _ _ _ _ _ _ _ hr nd=>(ak (jb (mH (bq RN (az (aa 0) af) (aK Kf af af))) (ak (aX (ck (aK oU (az (aa 0) af) (aa 1)))) (ak (vL (ck (aK Fh (az (aa 0) af) (aa 1))) (vM (PX.go (aM 0)) (PX.go (ah af)) set_list)) (aJ (cu (ah (aa 2)))))) eM) (ak (vL (ck (aK oU (aK eV (aK vf (az (aa 0) af) af) af) af)) (vM (PX.go (aM 0)) (PX.go (ah af)) set_list)) (ak (aX (ck (aK oU (aK vf (az (aa 0) af) (az (aa 0) af)) af))) (aJ (cu (ah (aK oU (aK Fh (aK oU (aK vf (aa 3) af) af) af) (aa 1))))))))
abbrev h_:Stmt:=top 22
noncomputable abbrev jG:List Str:=["reel","many","letters","words","names","k","name","j"]
noncomputable def vT:{b:List Stmt // aL h_=b}:=⟨_,by conv=>lhs;whnf⟩
noncomputable def pf:{b:Scope // ax h_=b}:=⟨_,by conv=>lhs;whnf⟩
theorem xU:a_ jG ["reel","many"] pf.1:=⟨rfl,rfl,rfl,by decide+kernel,rfl,by decide+kernel,by decide+kernel⟩
def nM:FZ:=(b3 6 (x2 dE (xP (ag 6)) (G1 (xP (ag 2)) (bt aC (aq (bz 0) (aq (xP (eC (.int 26))) bC))))))
def gY:FZ:=(b3 6 (xP (e2 dE (JY (ag 6) uM (nL (MF (eC (.int 1))))) (e2 b_ (ag 2) (e2 qt (e2 dE (Nt "str" AL (ag 2) (ao (e2 b_ (ag 6) (MF (eC (.int 1)))) aO)) (eC (.int 1))) (eC (.int 26)))))))
def jM:FZ:=(bp (b3 6 (G1 (xP (e2 dE (eNew (fI (ao (eC (.str "")) (ao (eC (.str "")) (ao (eC (.str "zz")) (ao (eC (.str "qrst")) aO)))))) (ag 3))) (bt aC (aq (bz 0) (aq (xP (eC (.int 13))) bC))))) (bp (l6 (nT (x2 dE (xP (eC (.int 1))) (bt aC (aq (bz 0) (aq (xP (eC (.int 4))) bC))))) (oS 7) nM) (bp (zt 1000 (bT (CK (b2 u0 (ag 6) (ag 4)) (b2 u0 (ag 6) (ag 3)))) gY) (kq 4 (xP (ag 6))))))
def mG:FZ:=(bp (b3 2 (xP (eC (.str "abcdefghijklmnopqrstuvwxyz")))) (bp (b3 3 (xP (eNew (fI (ao (eC (.str "in")) (ao (eC (.str "gate")) (ao (eC (.str "sure")) (ao (eC (.str "out")) (ao (eC (.str "not")) (ao (eC (.str "and")) (ao (eC (.str "or")) (ao (eC (.str "xor")) (ao (eC (.str "vote")) aO))))))))))))) (bp (b3 4 (pS (fI aO))) (bp (l6 (iP (ft (ag 1))) (oS 5) jM) (fH (bz 4))))))
def vZ:List V3->aI->R3 V3:=nq jG mG
def iS:List V3->aI->R3 V3:=pA jG mG
theorem yO(T:Tp K mg cl)(h:Def K mg "_law_names" h_)(aG:bu P w K mg base cl 1 "_law_take" 2 aC):bu P w K mg base cl 2 "_law_names" 2 vZ:=
 B_ h vT.2 pf.2 xU fun _ _ _ _ _ _ _ hr nd=>(ak (aX (ah aS)) (ak (aX (ah (cj (bY (ab aS (ab aS (ab aS (ab aS (ab aS (ab aS (ab aS (ab aS (ab aS aj))))))))))))) (ak (aX (ix (bY aj))) (ak (eR (dS (cX (aa 1) rfl T.z_range)) bw (ak (aX (sG (ah (aK eV (cj (bY (ab aS (ab aS (ab aS (ab aS aj)))))) (aa 3))) (aP aG (ae (aM 0) (ae (ah af) aA))) (fun _ _=>rfl))) (ak (eR (gr (pF eV (ah af) (aP aG (ae (aM 0) (ae (ah af) aA)))) rfl T.z_range) bw (aJ (aX (pF eV (ah (aa 6)) (sG (ah (aa 2)) (aP aG (ae (aM 0) (ae (ah af) aA))) (fun _ _=>rfl)))))) (ak (Ed 1000 PassesOwn.never (mH (lD (pH (bq C3 (aa 6) (aa 4)) (sO (bq C3 (aa 6) (aa 3)))))) (aJ (aX (ah (aK eV (wJ (aa 6) pN (kZ (AJ af))) (az (aa 2) (aK oU (aK eV (DP (aa 2) (ab (az (aa 6) (AJ af)) aj)) af) af))))))) (aJ (gu (ah (aa 6)))))))) (aJ (cu (aM 4)))))))
abbrev i3:Stmt:=top 23
noncomputable abbrev lF:List Str:=["reel","kinds","most_sure","kind","many","wires","k","back","wire"]
noncomputable def yB:{b:List Stmt // aL i3=b}:=⟨_,by conv=>lhs;whnf⟩
noncomputable def qO:{b:Scope // ax i3=b}:=⟨_,by conv=>lhs;whnf⟩
theorem zA:a_ lF ["reel","kinds","most_sure"] qO.1:=⟨rfl,rfl,rfl,by decide+kernel,rfl,by decide+kernel,by decide+kernel⟩
def pB:FZ:=(bp (b3 7 (bt aC (aq (bz 0) (aq (xP (eC (.int 2))) bC)))) (bp (b3 8 (bt aC (aq (bz 0) (aq (xT (aW dh (ao (ag 1) aO))) bC)))) (bp (wX (bP (b2 il (ag 7) (eC (.int 1)))) (b3 8 (xT (e2 rj (e2 rj (aW dh (ao (ag 1) aO)) (eC (.int 1))) (e2 qt (ag 8) (aW x9 (ao (aW dh (ao (ag 1) aO)) (ao (eC (.int 4)) aO))))))) l8) (kq 5 (xP (ag 8))))))
def n5:FZ:=(bp (b3 3 (G1 (xP (eNew (fI (ao (eC (.str "not")) (ao (eC (.str "and")) (ao (eC (.str "or")) (ao (eC (.str "xor")) (ao (eC (.str "vote")) (ao (eC (.str "xor")) (ao (eC (.str "and")) aO)))))))))) (bt aC (aq (bz 0) (aq (xP (eC (.int 7))) bC))))) (bp (b3 4 (xP (KA [((Sum.inr "not":Key),V.int 1),((Sum.inr "vote":Key),V.int 3)] (ag 3) (eC (.int 2))))) (bp (b3 5 (pS (fI aO))) (bp (l6 (iP (ft (ag 4))) (oS 6) pB) (fH (Dh (aq (xP (ag 3)) (aq (xT (aW oy (ao (ag 5) aO))) (aq (x2 IP (bt aC (aq (bz 0) (aq (xP (eC (.int 4))) bC))) (xP (ag 2))) bC)))))))))
def ya:List V3->aI->R3 V3:=nq lF n5
def g9:List V3->aI->R3 V3:=pA lF n5
theorem zT(T:Tp K mg cl)(h:Def K mg "_law_gate" i3)(aG:bu P w K mg base cl 1 "_law_take" 2 aC):bu P w K mg base cl 2 "_law_gate" 3 ya:=
 B_ h yB.2 qO.2 zA fun _ _ _ _ _ _ _ hr nd=>(ak (aX (sG (ah (cj (bY (ab aS (ab aS (ab aS (ab aS (ab aS (ab aS (ab aS aj)))))))))) (aP aG (ae (aM 0) (ae (ah af) aA))) (fun _ _=>rfl))) (ak (aX (ah (HM (Ov hr) (pE si tY (pE si tY Bb)) rfl rfl (by simp) (fun _ _ _ h=>h) (by decide) (aa 3) af ⟨rfl,rfl,rfl,rfl⟩ (IV (pE si tY (pE si tY Bb)) rfl rfl (by simp) (by decide))))) (ak (aX (ix (bY aj))) (ak (eR (dS (cX (aa 4) rfl T.z_range)) bw (ak (aX (aP aG (ae (aM 0) (ae (ah af) aA)))) (ak (aX (aP aG (ae (aM 0) (ae (ck (aZ dm rfl T.z_len PySem.boot_len (ab (aa 1) aj))) aA)))) (ak (jb (dP (bq (iB hr.units) (aa 7) af)) (aJ (aX (ck (aK qK (aK qK (aZ dm rfl T.z_len PySem.boot_len (ab (aa 1) aj)) af) (aK oU (aa 8) (aZ (Mv rfl) rfl T.z_min PyProof.Rows.boot_min (ab (aZ dm rfl T.z_len PySem.boot_len (ab (aa 1) aj)) (ab af aj)))))))) eM) (aJ (gu (ah (aa 8)))))))) (aJ (cu (vX (ae (ah (aa 3)) (ae (ck (gm rP rfl T.z_tuple PyProof.Rows.boot_tuple (ab (aa 5) aj))) (ae (vG Fq (aP aG (ae (aM 0) (ae (ah af) aA))) (ah (aa 2)) (jd _)) aA))))))))))
abbrev ig:Stmt:=top 24
noncomputable abbrev jz:List Str:=["reel","gate","kinds","wires","wire","same"]
noncomputable def wu:{b:List Stmt // aL ig=b}:=⟨_,by conv=>lhs;whnf⟩
noncomputable def o7:{b:Scope // ax ig=b}:=⟨_,by conv=>lhs;whnf⟩
theorem yo:a_ jz ["reel","gate","kinds"] o7.1:=⟨rfl,rfl,rfl,by decide+kernel,rfl,by decide+kernel,by decide+kernel⟩
def nO:FZ:=(bp (b3 5 (mC (nT (xT (aW dh (ao (ag 2) aO)))) (oS 0) (bT (b2 il (e2 b_ (ag 1) (ag 0)) (e2 b_ (ag 1) (ag 2)))) (xP (ag 0)) ["one"] [2,4])) (kq 3 (G1 (xP (ag 5)) (bt aC (aq (bz 0) (aq (xP (aW dh (ao (ag 5) aO))) bC))))))
def mr:FZ:=(bp (b3 3 (pS (fI aO))) (bp (l6 (iP (g_ (e2 b_ (ag 1) (eC (.int 1))))) (oS 4) nO) (fH (Dh (aq (xP (e2 b_ (ag 1) (eC (.int 0)))) (aq (xT (aW oy (ao (ag 3) aO))) (aq (x2 il (bt aC (aq (bz 0) (aq (xP (eC (.int 4))) bC))) (xP (eC (.int 0)))) bC)))))))
def wC:List V3->aI->R3 V3:=nq jz mr
def iT:List V3->aI->R3 V3:=pA jz mr
theorem xB(T:Tp K mg cl)(h:Def K mg "_law_again" ig)(aG:bu P w K mg base cl 1 "_law_take" 2 aC):bu P w K mg base cl 2 "_law_again" 3 wC:=
 B_ h wu.2 o7.2 yo fun _ _ _ _ _ _ _ hr nd=>(ak (aX (ix (bY aj))) (ak (eR (dS (eB (az (aa 1) af))) bw (ak (zi (gr (ck (aZ dm rfl T.z_len PySem.boot_len (ab (aa 2) aj))) rfl T.z_range) (fun _ _ _=>bw) (fun _ _ _=>(tm (mH (bq (iB hr.units) (az (aa 1) (aa 0)) (az (aa 1) (aa 2)))))) (fun _ _ _=>(ah (aa 0)))) (aJ (gu (sG (ah (aa 5)) (aP aG (ae (aM 0) (ae (ah (aZ dm rfl T.z_len PySem.boot_len (ab (aa 5) aj))) aA))) (fun _ _=>rfl)))))) (aJ (cu (vX (ae (ah (az (aa 1) af)) (ae (ck (gm rP rfl T.z_tuple PyProof.Rows.boot_tuple (ab (aa 3) aj))) (ae (vG (iB hr.units) (aP aG (ae (aM 0) (ae (ah af) aA))) (ah af) (jd _)) aA))))))))
abbrev jg:Stmt:=top 25
noncomputable abbrev lH:List Str:=["reel","kinds","names","most","outs","k","wire","same","width","some","way"]
noncomputable def yA:{b:List Stmt // aL jg=b}:=⟨_,by conv=>lhs;whnf⟩
noncomputable def qN:{b:Scope // ax jg=b}:=⟨_,by conv=>lhs;whnf⟩
theorem zx:a_ lH ["reel","kinds","names","most"] qN.1:=⟨rfl,rfl,rfl,by decide+kernel,rfl,by decide+kernel,by decide+kernel⟩
def lE:FZ:=(bp (b3 6 (x2 rj (xT (e2 rj (aW dh (ao (ag 1) aO)) (eC (.int 1)))) (bt aC (aq (bz 0) (aq (xT (aW dh (ao (ag 1) aO))) bC))))) (bp (b3 7 (mC (nT (xT (aW dh (ao (ag 1) aO)))) (oS 0) (bT (b2 il (e2 b_ (ag 1) (ag 0)) (e2 b_ (ag 1) (ag 2)))) (xP (ag 0)) ["one"] [1,6])) (bp (b3 8 (G1 (xP (eNew (fI (ao (eC (.int 1)) (ao (eC (.int 1)) (ao (eC (.int 2)) (ao (eC (.int 2)) (ao (eC (.int 3)) (ao (eC (.int 3)) aO))))))))) (bt aC (aq (bz 0) (aq (xP (eC (.int 6))) bC))))) (bp (b3 9 (Hs (xP (eNew (fI (ao (ag 6) aO)))) (mC (iP (ft (e2 rj (ag 8) (eC (.int 1))))) (oS 0) IF (G1 (xP (ag 2)) (bt aC (aq (bz 1) (aq (xP (aW dh (ao (ag 2) aO))) bC)))) ["j"] [0,7]))) (bp (b3 10 (bt aC (aq (bz 0) (aq (xP (eC (.int 3))) bC)))) (bp (wX (bP (sW (b2 il (ag 8) (eC (.int 3))) (b2 Nb (ag 10) (eC (.int 0))))) (zJ (bz 9) (xP (eC (.int 2))) (bt aC (aq (bz 0) (aq (xT (aW dh (ao (ag 1) aO))) bC)))) l8) (bp (wX (bP (sW (b2 il (ag 8) (eC (.int 3))) (b2 Nb (ag 10) (eC (.int 1))))) (zJ (bz 9) (xP (eC (.int 1))) (bt aC (aq (bz 0) (aq (xT (aW dh (ao (ag 1) aO))) bC)))) l8) (kq 4 (xT (eP (ao (e2 b_ (ag 2) (ag 5)) (ao (aW oy (ao (ag 9) aO)) aO))))))))))))
def n9:FZ:=(bp (b3 4 (pS (fI aO))) (bp (l6 (nT (x2 dE (xP (eC (.int 1))) (bt aC (aq (bz 0) (aq (xP (ag 3)) bC))))) (oS 5) lE) (fH (bz 4))))
def xO:List V3->aI->R3 V3:=nq lH n9
def jx:List V3->aI->R3 V3:=pA lH n9
theorem y_(T:Tp K mg cl)(h:Def K mg "_law_outs" jg)(aG:bu P w K mg base cl 1 "_law_take" 2 aC):bu P w K mg base cl 2 "_law_outs" 4 xO:=
 B_ h yA.2 qN.2 zx fun _ _ _ _ _ _ _ hr nd=>(ak (aX (ix (bY aj))) (ak (eR (gr (pF eV (ah af) (aP aG (ae (aM 0) (ae (ah (aa 3)) aA)))) rfl T.z_range) bw (ak (aX (pF qK (ck (aK qK (aZ dm rfl T.z_len PySem.boot_len (ab (aa 1) aj)) af)) (aP aG (ae (aM 0) (ae (ck (aZ dm rfl T.z_len PySem.boot_len (ab (aa 1) aj))) aA))))) (ak (aX (se (gr (ck (aZ dm rfl T.z_len PySem.boot_len (ab (aa 1) aj))) rfl T.z_range) (fun _ _ _=>bw) (fun _ _ _=>(tm (mH (bq (iB hr.units) (az (aa 1) (aa 0)) (az (aa 1) (aa 2)))))) (fun _ _ _=>(ah (aa 0))))) (ak (aX (sG (ah (cj (bY (ab af (ab af (ab af (ab af (ab af (ab af aj))))))))) (aP aG (ae (aM 0) (ae (ah af) aA))) (fun _ _=>rfl))) (ak (aX (D1 (ah (cj (bY (ab (aa 6) aj)))) (se (dS (cX (aK qK (aa 8) af) rfl T.z_range)) (fun _ _ _=>bw) (fun _ _ _=>uX) (fun _ _ _=>(sG (ah (aa 2)) (aP aG (ae (aM 1) (ae (ah (aZ dm rfl T.z_len PySem.boot_len (ab (aa 2) aj))) aA))) (fun _ _=>rfl)))))) (ak (aX (aP aG (ae (aM 0) (ae (ah af) aA)))) (ak (jb (dP (lD (oZ (bq (iB hr.units) (aa 8) af) (m8 (bq Nx (aa 10) af))))) (aJ (vL (aP aG (ae (aM 0) (ae (ck (aZ dm rfl T.z_len PySem.boot_len (ab (aa 1) aj))) aA))) (vM (PX.go (aM 9)) (PX.go (ah af)) set_list))) eM) (ak (jb (dP (lD (oZ (bq (iB hr.units) (aa 8) af) (m8 (bq Nx (aa 10) af))))) (aJ (vL (aP aG (ae (aM 0) (ae (ck (aZ dm rfl T.z_len PySem.boot_len (ab (aa 1) aj))) aA))) (vM (PX.go (aM 9)) (PX.go (ah af)) set_list))) eM) (aJ (gu (ck (bS (ab (az (aa 2) (aa 5)) (ab (gm rP rfl T.z_tuple PyProof.Rows.boot_tuple (ab (aa 9) aj)) aj)))))))))))))) (aJ (cu (aM 4)))))
abbrev kj:Stmt:=top 26
noncomputable abbrev nj:List Str:=["reel","cells","most_ins","most_sure","names","ins","kinds","k","width","ahead","gates","cell","own","place"]
noncomputable def zr:{b:List Stmt // aL kj=b}:=⟨_,by conv=>lhs;whnf⟩
noncomputable def tK:{b:Scope // ax kj=b}:=⟨_,by conv=>lhs;whnf⟩
theorem B7:a_ nj ["reel","cells","most_ins","most_sure"] tK.1:=⟨rfl,rfl,rfl,by decide+kernel,rfl,by decide+kernel,by decide+kernel⟩
def mh:FZ:=(bp (b3 8 (x2 dE (xP (eC (.int 1))) (bt aC (aq (bz 0) (aq (xP (eC (.int 3))) bC))))) (bp (kq 5 (xP (eP (ao (e2 b_ (ag 4) (e2 rj (eC (.int 7)) (ag 7))) (ao (ag 8) aO))))) (b3 6 (Hs (bz 6) (xP (eNew (Jl (fI (ao (ag 7) aO)) (ag 8))))))))
def mJ:FZ:=(bp (b3 12 (bt eE (aq (xP (ag 11)) bC))) (wX (C_ (bT (b2 yN (ag 10) (eNew (fI aO)))) (JS il (bt aC (aq (bz 12) (aq (xP (eC (.int 3))) bC))) (xP (eC (.int 0))))) (bp (b3 13 (bt aC (aq (bz 12) (aq (xT (aW dh (ao (ag 10) aO))) bC)))) (bp (kq 10 (bt iT (aq (bz 12) (aq (xT (e2 b_ (ag 10) (ag 13))) (aq (bz 6) bC))))) (kq 6 (xT (e2 b_ (ag 6) (e2 dE (ag 9) (ag 13))))))) (bp (kq 10 (bt g9 (aq (bz 12) (aq (bz 6) (aq (xP (ag 3)) bC))))) (kq 6 (xT (e2 dE (aW dh (ao (ag 6) aO)) (eC (.int 10))))))))
def qa:FZ:=(bp (b3 4 (bt iS (aq (bz 0) (aq (xP (eC (.int 8))) bC)))) (bp (b3 5 (pS (fI aO))) (bp (b3 6 (pS (fI aO))) (bp (l6 (nT (x2 dE (xP (eC (.int 1))) (bt aC (aq (bz 0) (aq (xP (ag 2)) bC))))) (oS 7) mh) (bp (b3 9 (xT (aW dh (ao (ag 6) aO)))) (bp (b3 10 (pS (fI aO))) (bp (l6 (iP (g_ (ag 1))) (oS 11) mJ) (fH (Dh (aq (bz 5) (aq (bz 10) (aq (bt jx (aq (bz 0) (aq (bz 6) (aq (xP (ag 4)) (aq (xP (eC (.int 6))) bC))))) bC))))))))))))
def y6:List V3->aI->R3 V3:=nq nj qa
def n_:List V3->aI->R3 V3:=pA nj qa
theorem B9(T:Tp K mg cl)(h:Def K mg "_law_net" kj)(lP:bu P w K mg base cl 2 "_law_names" 2 iS)(aG:bu P w K mg base cl 1 "_law_take" 2 aC)(fG:bu P w K mg base cl 1 "_law_reel" 1 eE)(lN:bu P w K mg base cl 2 "_law_again" 3 iT)(mU:bu P w K mg base cl 2 "_law_gate" 3 g9)(mR:bu P w K mg base cl 2 "_law_outs" 4 jx):bu P w K mg base cl 3 "_law_net" 4 y6:=
 B_ h zr.2 tK.2 B7 fun _ _ _ _ _ _ _ hr nd=>(ak (aX (aP lP (ae (aM 0) (ae (ah af) aA)))) (ak (aX (ix (bY aj))) (ak (aX (ix (bY aj))) (ak (eR (gr (pF eV (ah af) (aP aG (ae (aM 0) (ae (ah (aa 2)) aA)))) rfl T.z_range) bw (ak (aX (pF eV (ah af) (aP aG (ae (aM 0) (ae (ah af) aA))))) (ak (gu (ah (bS (ab (az (aa 4) (aK qK af (aa 7))) (ab (aa 8) aj))))) (aJ (aX (D1 (aM 6) (ah (cj (HL (bY (ab (aa 7) aj)) (aa 8)))))))))) (ak (aX (ck (aZ dm rfl T.z_len PySem.boot_len (ab (aa 6) aj)))) (ak (aX (ix (bY aj))) (ak (eR (dS (eB (aa 1))) bw (ak (aX (aP fG (ae (ah (aa 11)) aA))) (aJ (jb (CQ.pb (wG (mH (bq (uk hr.units) (aa 10) (cj (bY aj)))) (tU (o5 (iB hr.units) (aP aG (ae (aM 12) (ae (ah af) aA))) (ah af) (jd _))))) (ak (aX (aP aG (ae (aM 12) (ae (ck (aZ dm rfl T.z_len PySem.boot_len (ab (aa 10) aj))) aA)))) (ak (gu (aP lN (ae (aM 12) (ae (ck (az (aa 10) (aa 13))) (ae (aM 6) aA))))) (aJ (gu (ck (az (aa 6) (aK eV (aa 9) (aa 13)))))))) (ak (gu (aP mU (ae (aM 12) (ae (aM 6) (ae (ah (aa 3)) aA))))) (aJ (gu (ck (aK eV (aZ dm rfl T.z_len PySem.boot_len (ab (aa 6) aj)) af))))))))) (aJ (cu (vX (ae (aM 5) (ae (aM 10) (ae (aP mR (ae (aM 0) (ae (aM 6) (ae (ah (aa 4)) (ae (ah af) aA))))) aA)))))))))))))
abbrev iZ:Stmt:=top 27
noncomputable abbrev sT:List Str:=["answer","gates","many"]
noncomputable def x5:{b:List Stmt // aL iZ=b}:=⟨_,by conv=>lhs;whnf⟩
noncomputable def qW:{b:Scope // ax iZ=b}:=⟨_,by conv=>lhs;whnf⟩
theorem zU:a_ sT ["answer","gates","many"] qW.1:=⟨rfl,rfl,rfl,by decide+kernel,rfl,by decide+kernel,by decide+kernel⟩
def n8:FS:=(ji (yU (b2 il (ag 0) (eP (ao (eC (.str "bears")) aO))) (iy (eC (.bl true))) rE) (ji (yU (CK (ur (uw (Oh "tuple" (ag 0)))) (CK (b2 yN (aW dh (ao (ag 0) aO)) (eC (.int 3))) (CK (b2 yN (e2 b_ (ag 0) (eC (.int 0))) (eC (.str "breaks"))) (ur (vK IP Qa (eC (.int 0)) (aW dh (ao (e2 b_ (ag 0) (eC (.int 1))) aO)) (ag 2)))))) (iy (eC (.bl false))) rE) (iy (F4 (e2 il (eNew (iJ (g_ (e2 b_ (ag 0) (eC (.int 1)))) (bR 0) (uw (e2 b_ (e2 b_ (ag 1) (ag 0)) (eC (.int 2)))) (ag 0) ["place"] [1])) (eNew (fI aO))) (e2 il (aW FJ (ao (e2 b_ (ag 0) (eC (.int 1))) aO)) (Nn (e2 b_ (ag 0) (eC (.int 1)))))))))
def dI:List D->R D:=wY sT n8
theorem yZ(T:Tp K mg cl)(h:Def K mg "_law_told" iZ):Callee P w K mg base 1 "_law_told" 3 dI:=
 GZ h x5.2 qW.2 zU fun _ _ _ _ _ _ _ hr nd=>(cw (iO (bq (iB hr.units) (aa 0) (bS (ab aS aj))) (bJ (bX jR)) fS) (cw (iO (lD (pH (pj (oV (HW (aa 0) (by decide) rfl T.z_isinstance rfl T.z_tuple PyProof.Rows.boot_tuple))) (pH (bq (uk hr.units) (aZ dm rfl T.z_len PySem.boot_len (ab (aa 0) aj)) af) (pH (bq (uk hr.units) (az (aa 0) af) aS) (sO (pj (zm Fq Rt af (aZ dm rfl T.z_len PySem.boot_len (ab (az (aa 0) af) aj)) (aa 2)))))))) (bJ (bX jR)) fS) (bJ (bX (IE (rR (iB hr.units) (cj (eX (eB (az (aa 0) af)) (fun _ _ _=>bG) (fun _ _ _=>(tW (oV (az (az (aa 1) (aa 0)) af)))) (fun _ _ _=>(aa 0)))) (cj (bY aj))) (Bf (rR (iB hr.units) (gm K8 rfl T.z_list PyProof.Rows.boot_list (ab (az (aa 0) af) aj)) (D5 T.z_sorted T.z_set (az (aa 0) af)))))))))
abbrev dU:Stmt:=top 28
noncomputable abbrev lQ:List Str:=["net","places","ins","gates","outs"]
noncomputable def qb:{b:List Stmt // aL dU=b}:=⟨_,by conv=>lhs;whnf⟩
noncomputable def kh:{b:Scope // ax dU=b}:=⟨_,by conv=>lhs;whnf⟩
theorem q8:a_ lQ ["net","places"] kh.1:=⟨rfl,rfl,rfl,by decide+kernel,rfl,by decide+kernel,by decide+kernel⟩
def lT:FS:=(ji (MG (ag 0) (nS 3 (dH (bR 2) (dH (bR 3) (dH (bR 4) nQ))))) (iy (eP (ao (ag 2) (ao (eNew (iJ (ft (aW dh (ao (ag 3) aO))) (bR 0) wI (eP (ao (e2 b_ (e2 b_ (ag 2) (ag 0)) (eC (.int 0))) (ao (e2 b_ (e2 b_ (ag 2) (ag 0)) (eC (.int 1))) (ao (NB (e2 b_ (e2 b_ (ag 2) (ag 0)) (eC (.int 2))) (e2 u0 (ag 0) (ag 1))) aO)))) ["k"] [1,3])) (ao (ag 4) aO))))))
def cL:List D->R D:=wY lQ lT
theorem q9(T:Tp K mg cl)(h:Def K mg "_law_made_sure" dU):Callee P w K mg base 1 "_law_made_sure" 2 cL:=
 GZ h qb.2 kh.2 q8 fun _ _ _ _ _ _ _ hr nd=>(cw (EK (aa 0) (mB (cQ bG (cQ bG (cQ bG j6))))) (bJ (bX (bS (ab (aa 2) (ab (cj (eX (cX (aZ dm rfl T.z_len PySem.boot_len (ab (aa 3) aj)) rfl T.z_range) (fun _ _ _=>bG) (fun _ _ _=>gz) (fun _ _ _=>(bS (ab (az (az (aa 2) (aa 0)) af) (ab (az (az (aa 2) (aa 0)) af) (ab (Ml (az (az (aa 2) (aa 0)) af) (Bf (rR C3 (aa 0) (aa 1)))) aj))))))) (ab (aa 4) aj)))))))
abbrev cz:Stmt:=top 29
noncomputable abbrev cV:List Str:=["net","level","many","fewer","more","surer"]
noncomputable def l0:{b:List Stmt // aL cz=b}:=⟨_,by conv=>lhs;whnf⟩
noncomputable def gb:{b:Scope // ax cz=b}:=⟨_,by conv=>lhs;whnf⟩
theorem mK:a_ cV ["net","level","many"] gb.1:=⟨rfl,rfl,rfl,by decide+kernel,rfl,by decide+kernel,by decide+kernel⟩
def et:FZ:=(bp (b3 3 (bt cA (aq (xP (ag 0)) (aq (xP (ag 2)) (aq (xP (ag 1)) bC))))) (bp (b3 4 (bt cA (aq (xP (ag 0)) (aq (xP (e2 dE (ag 2) (eC (.int 1)))) (aq (xP (ag 1)) bC))))) (bp (wX (bP (CK (ur (uw (aW dI (ao (ag 3) (ao (e2 b_ (ag 0) (eC (.int 1))) (ao (ag 2) aO)))))) (ur (uw (aW dI (ao (ag 4) (ao (e2 b_ (ag 0) (eC (.int 1))) (ao (e2 dE (ag 2) (eC (.int 1))) aO)))))))) (fH (xP (eC (.bl false)))) l8) (bp (wX (P9 (bP (sW (b2 il (e2 b_ (ag 3) (eC (.int 0))) (eC (.str "breaks"))) (b2 yN (ag 4) (ag 3)))) (JS yN (bt cA (aq (xP (ag 0)) (aq (xP (eC (.int 0))) (aq (xP (ag 1)) bC)))) (xP (eP (ao (eC (.str "bears")) aO))))) (fH (xP (eC (.bl false)))) l8) (bp (wX (bP (b2 il (e2 b_ (ag 3) (eC (.int 0))) (eC (.str "breaks")))) (bp (b3 5 (bt cA (aq (xP (aW cL (ao (ag 0) (ao (e2 b_ (ag 3) (eC (.int 1))) aO)))) (aq (xP (ag 2)) (aq (xP (ag 1)) bC))))) (wX (bP (sW (b2 il (e2 b_ (ag 5) (eC (.int 0))) (eC (.str "breaks"))) (b2 yN (eNew (iJ (g_ (e2 b_ (ag 5) (eC (.int 1)))) (bR 0) (b2 u0 (ag 0) (e2 b_ (ag 1) (eC (.int 1)))) (ag 0) ["place"] [3])) (eNew (fI aO))))) (fH (xP (eC (.bl false)))) l8)) l8) (fH (x2 il (bt cA (aq (xP (aW cL (ao (ag 0) (ao (eNew (Gd (aW dh (ao (e2 b_ (ag 0) (eC (.int 1))) aO)))) aO)))) (aq (xP (eC (.int 2))) (aq (xP (ag 1)) bC)))) (xP (eP (ao (eC (.str "bears")) aO))))))))))
def l7:List V3->aI->R3 V3:=nq cV et
def cm:List V3->aI->R3 V3:=pA cV et
theorem mE(T:Tp K mg cl)(h:Def K mg "_law_fewer_and_more" cz)(lJ:Callee P w K mg base 1 "_law_told" 3 dI)(fk:Callee P w K mg base 1 "_law_made_sure" 2 cL)(dC:bu P w K mg base cl 8 "bears" 3 cA):bu P w K mg base cl 9 "_law_fewer_and_more" 3 l7:=
 B_ h l0.2 gb.2 mK fun _ _ _ _ _ _ _ hr nd=>(ak (aX (aP dC (ae (ah (aa 0)) (ae (ah (aa 2)) (ae (ah (aa 1)) aA))))) (ak (aX (aP dC (ae (ah (aa 0)) (ae (ah (aK eV (aa 2) af)) (ae (ah (aa 1)) aA))))) (ak (jb (dP (lD (pH (pj (oV (cf lJ (ab (aa 3) (ab (az (aa 0) af) (ab (aa 2) aj)))))) (sO (pj (oV (cf lJ (ab (aa 4) (ab (az (aa 0) af) (ab (aK eV (aa 2) af) aj)))))))))) (aJ (cu (ah jR))) eM) (ak (jb (CQ.pb (DW (dP (lD (oZ (bq (iB hr.units) (az (aa 3) af) aS) (m8 (bq (uk hr.units) (aa 4) (aa 3)))))) (Bv (o5 (uk hr.units) (aP dC (ae (ah (aa 0)) (ae (ah af) (ae (ah (aa 1)) aA)))) (ah (bS (ab aS aj))) (jd _))))) (aJ (cu (ah jR))) eM) (ak (jb (dP (bq (iB hr.units) (az (aa 3) af) aS)) (ak (aX (aP dC (ae (ah (cf fk (ab (aa 0) (ab (az (aa 3) af) aj)))) (ae (ah (aa 2)) (ae (ah (aa 1)) aA))))) (aJ (jb (dP (lD (oZ (bq (iB hr.units) (az (aa 5) af) aS) (m8 (bq (uk hr.units) (cj (eX (eB (az (aa 5) af)) (fun _ _ _=>bG) (fun _ _ _=>(tW (bq C3 (aa 0) (az (aa 1) af)))) (fun _ _ _=>(aa 0)))) (cj (bY aj))))))) (aJ (cu (ah jR))) eM))) eM) (aJ (cu (vG (iB hr.units) (aP dC (ae (ah (cf fk (ab (aa 0) (ab (cj (IC rfl (aZ dm rfl T.z_len PySem.boot_len (ab (az (aa 0) af) aj)) rfl T.z_list rfl T.z_range)) aj)))) (ae (ah af) (ae (ah (aa 1)) aA)))) (ah (bS (ab aS aj))) (jd _)))))))))
abbrev BI:Stmt:=top 30
noncomputable abbrev qQ:List Str:=["script","reel","cells","k","net","ins","gates","outs","many","right","idle","again","alone"]
noncomputable def L1:{b:List Stmt // aL BI=b}:=⟨_,by conv=>lhs;whnf⟩
noncomputable def D8:{b:Scope // ax BI=b}:=⟨_,by conv=>lhs;whnf⟩
theorem J7:a_ qQ ["script"] D8.1:=⟨rfl,rfl,rfl,by decide+kernel,rfl,by decide+kernel,by decide+kernel⟩
def Bo:FZ:=(b3 2 (x2 dE (xP (ag 2)) (ME (aq (bt aC (aq (bz 1) (aq (xP (e2 Lv (eC (.int 10)) (eC (.int 40)))) bC))) bC))))
def s_:FZ:=(bp (b3 1 (bt eE (aq (xP (aW dX (ao (ag 0) (ao (eC (.int 0)) aO)))) bC))) (bp (b3 2 (xP (JY (ag 0) (nL (eC (.int 2))) (nL (eC (.int 20)))))) (bp (l6 (iP (ft (e2 rj (eC (.int 2)) (aW dh (ao (ag 2) aO))))) (oS 3) Bo) (bp (b3 4 (bt n_ (aq (bz 1) (aq (xP (ag 2)) (aq (xP (eC (.int 5))) (aq (xP (eC (.int 1))) bC)))))) (bp (Lx (xP (ag 4)) (M_ 3 (G4 (oS 5) (G4 (oS 6) (G4 (oS 7) Ny))))) (bp (b3 1 (bt eE (aq (xP (aW dX (ao (ag 0) (ao (eC (.int 1)) aO)))) bC))) (bp (b3 8 (x2 dE (xP (eC (.int 1))) (x2 l3 (bt aC (aq (bz 1) (aq (xP (eC (.int 2))) bC))) (xP (aW D2 (ao (e2 IP (aW dh (ao (ag 6) aO)) (eC (.int 10))) aO)))))) (bp (wX (P9 (HH (Gm (bt cm (aq (xP (ag 4)) (aq (xP (eC (.str "right"))) (aq (xP (ag 8)) bC)))))) (HH (Gm (bt cm (aq (xP (ag 4)) (aq (xP (eC (.str "safe"))) (aq (xP (ag 8)) bC))))))) (fH (xP (eC (.bl false)))) l8) (bp (b3 9 (bt cA (aq (xP (ag 4)) (aq (xP (ag 8)) (aq (xP (eC (.str "right"))) bC))))) (bp (wX (C_ (bP (b2 il (ag 9) (eP (ao (eC (.str "bears")) aO)))) (JS yN (bt cA (aq (xP (ag 4)) (aq (xP (ag 8)) (aq (xP (eC (.str "safe"))) bC)))) (xP (ag 9)))) (fH (xP (eC (.bl false)))) l8) (bp (b3 10 (xP (eP (ao (ag 5) (ao (e2 dE (ag 6) (eNew (fI (ao (eP (ao (eC (.str "not")) (ao (eP (ao (eC (.int 0)) aO)) (ao (eC (.bl false)) aO)))) aO)))) (ao (ag 7) aO)))))) (bp (b3 11 (xP (eP (ao (ag 5) (ao (ag 6) (ao (e2 dE (JY (ag 7) uM (nL (eC (.int 5)))) (eNew (fI (ao (eP (ao (eC (.str "onceagai")) (ao (e2 b_ (e2 b_ (ag 7) (eC (.int 0))) (eC (.int 1))) aO))) aO)))) aO)))))) (bp (wX (JS yN (bt cA (aq (xP (ag 10)) (aq (xP (ag 8)) (aq (xP (eC (.str "right"))) bC)))) (xP (ag 9))) (fH (xP (eC (.bl false)))) l8) (bp (wX (C_ (bP (b2 IP (aW dh (ao (ag 7) aO)) (eC (.int 6)))) (JS yN (bt cA (aq (xP (ag 11)) (aq (xP (ag 8)) (aq (xP (eC (.str "right"))) bC)))) (xP (ag 9)))) (fH (xP (eC (.bl false)))) l8) (bp (b3 12 (xP (eP (ao (ag 5) (ao (ag 6) (ao (eNew (iJ (g_ (ag 7)) (nS 2 (dH (bR 0) (dH (bR 1) nQ))) wI (eP (ao (ag 0) (ao (OC (ag 1) uM (nL (eC (.int 1)))) aO))) ["name","wires"] [])) aO)))))) (fH (x2 il (bt cA (aq (xP (ag 12)) (aq (xP (ag 8)) (aq (xP (eC (.str "right"))) bC)))) (bt cA (aq (xP (ag 12)) (aq (xP (ag 8)) (aq (xP (eC (.str "safe"))) bC)))))))))))))))))))))
def RK:List V3->aI->R3 V3:=nq qQ s_
def QW:List V3->aI->R3 V3:=pA qQ s_
def BG:List D->R D:=PV qQ s_
structure Cf (K:W.Frag) (mg:Aaf) (cl:Aag):Prop where
 C_Bench:wc K (cl 0)
 N_Bench_net:cP K (cl 0) "net"
 N_Bench_many_inputs:cP K (cl 0) "many_inputs"
 N_Bench_full:cP K (cl 0) "full"
 N_Bench_in_masks:cP K (cl 0) "in_masks"
 M_Bench:mg "Bench"=some (.ref (cl 0))
 C_Trial:wc K (cl 1)
 N_Trial_bench:cP K (cl 1) "bench"
 N_Trial_plain:cP K (cl 1) "plain"
 N_Trial_unsure:cP K (cl 1) "unsure"
 M_Trial:mg "Trial"=some (.ref (cl 1))
 dy:CG K (cl 0) "__init__" "Bench.__init__" bM
 e_:q_ K (cl 0) "tells" "Bench.tells" cy
 dA:q_ K (cl 0) "readings" "Bench.readings" bN
 dz:CG K (cl 1) "__init__" "Trial.__init__" bL
 df:q_ K (cl 1) "breaks_at" "Trial.breaks_at" bA
 de:q_ K (cl 0) "inputs_in" "Bench.inputs_in" bB
theorem Om{K:W.Frag}{h:Heap}{mg:Aaf}(X:K.In h)(G:h.Ns mainGlobals mg){C0:Addr}{C1:Addr}{f0:Addr}{Yc Y5:Option Addr}{XR:Array (Option Value)}{Yr YX Ym Zb Vj Yu:Value}{f1:Addr}{X5 Y_:Option Addr}{Yo:Array (Option Value)}{Yf X7 YJ Yq VG Yy:Value}{f2:Addr}{YH YY:Option Addr}{Nh:Array (Option Value)}{Ze YB YL YD Vy YQ:Value}{f3:Addr}{Yj YM:Option Addr}{XO:Array (Option Value)}{Yt Zc Y1 X1 Vu X2:Value}{f4:Addr}{Zl XS:Option Addr}{Zj:Array (Option Value)}{XY Yb YK Y9 VE Y4:Value}{f5:Addr}{YA YO:Option Addr}{Ys:Array (Option Value)}{Y6 Y7 YG XQ Vl Y0:Value}(Sv:PySem.W.nsIn K mainGlobals "Bench"=some (some (.ref C0)))(Tj:PySem.W.plainGet K C0 Str.empty=true)(M0:PySem.W.hasDictIn K C0=true)(SJ:PySem.W.plainOver K C0=true)(Tg:PySem.W.findIn K (.ref C0) "__setattr__"=some (some (.builtin "object.__setattr__")))(Ti:PySem.W.makesIn K C0=true)(TL:PySem.W.keepIn K (.ref C0)=true)(As:PySem.W.findIn K (.ref C0) "net"=some none)(jm:PySem.W.findIn K (.ref C0) "many_inputs"=some none)(w_:PySem.W.findIn K (.ref C0) "full"=some none)(mX:PySem.W.findIn K (.ref C0) "in_masks"=some none)(Tv:PySem.W.nsIn K mainGlobals "Trial"=some (some (.ref C1)))(Tf:PySem.W.plainGet K C1 Str.empty=true)(SU:PySem.W.hasDictIn K C1=true)(TR:PySem.W.plainOver K C1=true)(Su:PySem.W.findIn K (.ref C1) "__setattr__"=some (some (.builtin "object.__setattr__")))(Tq:PySem.W.makesIn K C1=true)(Sz:PySem.W.keepIn K (.ref C1)=true)(ub:PySem.W.findIn K (.ref C1) "bench"=some none)(ud:PySem.W.findIn K (.ref C1) "plain"=some none)(qC:PySem.W.findIn K (.ref C1) "unsure"=some none)(gM:PySem.W.findIn K (.ref C0) "__init__"=some (some (.ref f0)))(gP:PySem.W.isFn K (.ref f0)=true)(gL:K.lookup f0=some ⟨Yr,Yc, .func (PySem.W.fnOf "__init__" "Bench.__init__" (eK bM) (aL bM) (ax bM) .none YX Ym Zb Y5 Vj Yu),XR⟩)(du:PySem.W.codeIn K Vj "Bench.__init__"=true)(gH:PySem.W.keepIn K (.ref f0)=true)(j0:PySem.W.findIn K (.ref C0) "tells"=some (some (.ref f1)))(jW:PySem.W.isFn K (.ref f1)=true)(jY:K.lookup f1=some ⟨Yf,X5, .func (PySem.W.fnOf "tells" "Bench.tells" (eK cy) (aL cy) (ax cy) .none X7 YJ Yq Y_ VG Yy),Yo⟩)(eW:PySem.W.codeIn K VG "Bench.tells"=true)(g7:PySem.W.keepIn K (.ref f1)=true)(gO:PySem.W.findIn K (.ref C0) "readings"=some (some (.ref f2)))(gC:PySem.W.isFn K (.ref f2)=true)(gE:K.lookup f2=some ⟨Ze,YH, .func (PySem.W.fnOf "readings" "Bench.readings" (eK bN) (aL bN) (ax bN) .none YB YL YD YY Vy YQ),Nh⟩)(dt:PySem.W.codeIn K Vy "Bench.readings"=true)(eN:PySem.W.keepIn K (.ref f2)=true)(gQ:PySem.W.findIn K (.ref C1) "__init__"=some (some (.ref f3)))(gI:PySem.W.isFn K (.ref f3)=true)(gR:K.lookup f3=some ⟨Yt,Yj, .func (PySem.W.fnOf "__init__" "Trial.__init__" (eK bL) (aL bL) (ax bL) .none Zc Y1 X1 YM Vu X2),XO⟩)(dw:PySem.W.codeIn K Vu "Trial.__init__"=true)(gG:PySem.W.keepIn K (.ref f3)=true)(fW:PySem.W.findIn K (.ref C1) "breaks_at"=some (some (.ref f4)))(f7:PySem.W.isFn K (.ref f4)=true)(fY:K.lookup f4=some ⟨XY,Zl, .func (PySem.W.fnOf "breaks_at" "Trial.breaks_at" (eK bA) (aL bA) (ax bA) .none Yb YK Y9 XS VE Y4),Zj⟩)(dc:PySem.W.codeIn K VE "Trial.breaks_at"=true)(eg:PySem.W.keepIn K (.ref f4)=true)(fV:PySem.W.findIn K (.ref C0) "inputs_in"=some (some (.ref f5)))(f6:PySem.W.isFn K (.ref f5)=true)(fX:K.lookup f5=some ⟨Y6,YA, .func (PySem.W.fnOf "inputs_in" "Bench.inputs_in" (eK bB) (aL bB) (ax bB) .none Y7 YG XQ YO Vl Y0),Ys⟩)(c_:PySem.W.codeIn K Vl "Bench.inputs_in"=true)(eh:PySem.W.keepIn K (.ref f5)=true):∃cl,Cf K mg cl:=by
 exact⟨fun n=>if n=0 then C0 else C1,⟨Tj,M0,SJ,Tg⟩,As,jm,w_,mX,PySem.W.mg_of X G Sv,⟨Tf,SU,TR,Su⟩,ub,ud,qC,PySem.W.mg_of X G Tv,⟨_,_,om (st:=bM) gL du gH,⟨Ti,gM,gP,TL⟩⟩,⟨_,_,om (st:=cy) jY eW g7,⟨j0,jW,g7⟩⟩,⟨_,_,om (st:=bN) gE dt eN,⟨gO,gC,eN⟩⟩,⟨_,_,om (st:=bL) gR dw gG,⟨Tq,gQ,gI,Sz⟩⟩,⟨_,_,om (st:=bA) fY dc eg,⟨fW,f7,eg⟩⟩,⟨_,_,om (st:=bB) fX c_ eh,⟨fV,f6,eh⟩⟩⟩
theorem La{K:W.Frag}{mg:Aaf}{f:Addr}{fd:FuncData}{cl:Aag}(T:Tp K mg cl)(qB:Def K mg "vote_of" j5)(m5:Def K mg "gate_mask" hV)(iC:Def K mg "in_wire_masks" dQ)(oM:Def K mg "masks_at" iY)(lK:Def K mg "wire_masks" fR)(mV:Def K mg "out_masks" ib)(qv:Def K mg "reading" j8)(ue:Def K mg "bit_at" md)(lL:Def K mg "all_inputs" fL)(qA:Def K mg "mask_of" ky)(qF:Def K mg "in_mask" kg)(qG:Def K mg "choices" kJ)(dy:CG K (cl 0) "__init__" "Bench.__init__" bM)(e_:q_ K (cl 0) "tells" "Bench.tells" cy)(dA:q_ K (cl 0) "readings" "Bench.readings" bN)(dz:CG K (cl 1) "__init__" "Trial.__init__" bL)(df:q_ K (cl 1) "breaks_at" "Trial.breaks_at" bA)(de:q_ K (cl 0) "inputs_in" "Bench.inputs_in" bB)(w9:Def K mg "bears" pP)(jX:Def K mg "_law_cell_at" eU)(oQ:Def K mg "_law_reel" i5)(oI:Def K mg "_law_take" i_)(mS:Def K mg "_law_names" h_)(oJ:Def K mg "_law_gate" i3)(mZ:Def K mg "_law_again" ig)(oK:Def K mg "_law_outs" jg)(qx:Def K mg "_law_net" kj)(oP:Def K mg "_law_told" iZ)(iG:Def K mg "_law_made_sure" dU)(eF:Def K mg "_law_fewer_and_more" cz)(F:AV K "law" "law" BI f fd):ie P w K mg base sx 10 f fd ["script"] (Es K 1 BG):=by
 have iW:=Cs (P:=P) (w:=w) (base:=base) T qB;have m4:=xF (P:=P) (w:=w) (base:=base) T m5 iW;have eO:=rF (P:=P) (w:=w) (base:=base) T iC;have XP_in_wire_masks:=eO.p;have gA:=ze (P:=P) (w:=w) (base:=base) T oM;have XK_wire_masks:=vO (P:=P) (w:=w) (base:=base) T lK gA m4 eO;have jZ:=XK_wire_masks.p;have XK_out_masks:=yx (P:=P) (w:=w) (base:=base) T mV gA;have lI:=XK_out_masks.p;have qE:=Ct (P:=P) (w:=w) (base:=base) T qv iW;have uc:=F_ (P:=P) (w:=w) (base:=base) T ue;have XK_all_inputs:=vR (P:=P) (w:=w) (base:=base) T lL;have jV:=XK_all_inputs.p;have iV:=Cg (P:=P) (w:=w) (base:=base) T qA;have qD:=Di (P:=P) (w:=w) (base:=base) T qF iV;have qy:=vx (P:=P) (w:=w) (base:=base) T qG 4;have fU:=du (P:=P) (w:=w) (base:=base) T dy iV qD jV;have XK_Bench_tells:=eW (P:=P) (w:=w) (base:=base) T e_ jZ lI;have jn:=XK_Bench_tells.p;have XK_Bench_readings:=dt (P:=P) (w:=w) (base:=base) T dA qE jn;have cI:=XK_Bench_readings.p;have fZ:=dw (P:=P) (w:=w) (base:=base) T dz fU cI;have XK_Trial_breaks_at:=dc (P:=P) (w:=w) (base:=base) T df cI;have fA:=XK_Trial_breaks_at.p;have XK_Bench_inputs_in:=c_ (P:=P) (w:=w) (base:=base) T de uc;have fB:=XK_Bench_inputs_in.p;have XK_bears:=Jz (P:=P) (w:=w) (base:=base) T w9 qy fZ fA fB;have dC:=XK_bears.p;have C_law_cell_at:=uF (P:=P) (w:=w) (base:=base) T jX;have fG:=zE (P:=P) (w:=w) (base:=base) T oQ;have XP_law_reel:=fG.p;have XK_law_take:=y9 (P:=P) (w:=w) (base:=base) T oI;have aG:=XK_law_take.p;have XK_law_names:=yO (P:=P) (w:=w) (base:=base) T mS aG;have lP:=XK_law_names.p;have XK_law_gate:=zT (P:=P) (w:=w) (base:=base) T oJ aG;have mU:=XK_law_gate.p;have XK_law_again:=xB (P:=P) (w:=w) (base:=base) T mZ aG;have lN:=XK_law_again.p;have XK_law_outs:=y_ (P:=P) (w:=w) (base:=base) T oK aG;have mR:=XK_law_outs.p;have XK_law_net:=B9 (P:=P) (w:=w) (base:=base) T qx lP aG fG lN mU mR;have XP_law_net:=XK_law_net.p;have lJ:=yZ (P:=P) (w:=w) (base:=base) T oP;have fk:=q9 (P:=P) (w:=w) (base:=base) T iG;have XK_law_fewer_and_more:=mE (P:=P) (w:=w) (base:=base) T eF lJ fk dC;have XP_law_fewer_and_more:=XK_law_fewer_and_more.p;exact(hJ (cl:=cl) (N:=qQ) (F:=s_) (k:=9) L1.2 D8.2 F J7 (fun _ _ _ _ _ _ hr=>(have nd:=J7.nd;(ak (aX (aP fG (ae (ah (cf C_law_cell_at (ab (aa 0) (ab af aj)))) aA))) (ak (aX (ah (wJ (aa 0) (kZ af) (kZ af)))) (ak (eR (dS (cX (aK qK af (aZ dm rfl T.z_len PySem.boot_len (ab (aa 2) aj))) rfl T.z_range)) bw (aJ (aX (pF eV (ah (aa 2)) (KS (ae (aP aG (ae (aM 1) (ae (ah (aK Kf af af)) aA))) aA)))))) (ak (aX (aP XP_law_net (ae (aM 1) (ae (ah (aa 2)) (ae (ah af) (ae (ah af) aA)))))) (ak (L4 (ah (aa 4)) (rM (eI bw (eI bw (eI bw pd))))) (ak (aX (aP fG (ae (ah (cf C_law_cell_at (ab (aa 0) (ab af aj)))) aA))) (ak (aX (pF eV (ah af) (pF vf (aP aG (ae (aM 1) (ae (ah af) aA))) (ah (gm LI rfl T.z_int PyProof.Rows.boot_int (ab (rR Fq (aZ dm rfl T.z_len PySem.boot_len (ab (aa 6) aj)) af) aj)))))) (ak (jb (CQ.pb (DW (Bk (yb (aP XP_law_fewer_and_more (ae (ah (aa 4)) (ae (ah aS) (ae (ah (aa 8)) aA)))))) (Bv (Bk (yb (aP XP_law_fewer_and_more (ae (ah (aa 4)) (ae (ah aS) (ae (ah (aa 8)) aA))))))))) (aJ (cu (ah jR))) eM) (ak (aX (aP dC (ae (ah (aa 4)) (ae (ah (aa 8)) (ae (ah aS) aA))))) (ak (jb (CQ.pb (wG (dP (bq (iB hr.units) (aa 9) (bS (ab aS aj)))) (tU (o5 (uk hr.units) (aP dC (ae (ah (aa 4)) (ae (ah (aa 8)) (ae (ah aS) aA)))) (ah (aa 9)) (jd _))))) (aJ (cu (ah jR))) eM) (ak (aX (ah (bS (ab (aa 5) (ab (aK eV (aa 6) (cj (bY (ab (bS (ab aS (ab (bS (ab af aj)) (ab jR aj)))) aj)))) (ab (aa 7) aj)))))) (ak (aX (ah (bS (ab (aa 5) (ab (aa 6) (ab (aK eV (wJ (aa 7) pN (kZ af)) (cj (bY (ab (bS (ab aS (ab (az (az (aa 7) af) af) aj))) aj)))) aj)))))) (ak (jb (o5 (uk hr.units) (aP dC (ae (ah (aa 10)) (ae (ah (aa 8)) (ae (ah aS) aA)))) (ah (aa 9)) (jd _)) (aJ (cu (ah jR))) eM) (ak (jb (CQ.pb (wG (dP (bq Fq (aZ dm rfl T.z_len PySem.boot_len (ab (aa 7) aj)) af)) (tU (o5 (uk hr.units) (aP dC (ae (ah (aa 11)) (ae (ah (aa 8)) (ae (ah aS) aA)))) (ah (aa 9)) (jd _))))) (aJ (cu (ah jR))) eM) (ak (aX (ah (bS (ab (aa 5) (ab (aa 6) (ab (cj (eX (eB (aa 7)) (fun _ _ _=>(mB (cQ bG (cQ bG j6)))) (fun _ _ _=>gz) (fun _ _ _=>(bS (ab (aa 0) (ab (HE (aa 1) pN (kZ af)) aj)))))) aj)))))) (aJ (cu (vG (iB hr.units) (aP dC (ae (ah (aa 12)) (ae (ah (aa 8)) (ae (ah aS) aA)))) (aP dC (ae (ah (aa 12)) (ae (ah (aa 8)) (ae (ah aS) aA)))) (jd _)))))))))))))))))))))).imp fun _ _ _ _ h=>Ll h
end K18
end
section
namespace K18
open PySem PySem.Spec PyProof.Rows L2 L3
theorem jC{S:aI}{k:Nat}{o x:SO}(h:S[k]? =some x):(S.set k o)[k]? =some o:=by
 obtain⟨h1,_⟩:=List.getElem?_eq_some_iff.mp h;rw[List.getElem?_set_self h1]
def rg(k:Nat)(S:aI):Prop:=Flat S/\∃a c,S[k]? =some (.lst [.int a, .int c])
structure Ev (k:Nat) (S S1:aI):Prop where
 p:rg k S1
 len:S1.length=S.length
 oth:∀j,j≠k->S1[j]? =S[j]?
theorem rg.lt{k:Nat}{S:aI}(p:rg k S):k < S.length:=by
 obtain⟨_,a,c,e⟩:=p;exact(List.getElem?_eq_some_iff.mp e).1
theorem nP(ds:List D):∀n,pI n (.lst ds)=true:=fun _=>rfl
theorem Bn{a b:Int}(h:0 < b)(h2:b.natAbs.log2 < 9000):yF (.int a) (.int b)= .ok (.int (a / b)):=by unfold yF xk;exact bH _ ⟨h,h2⟩
theorem uQ{m:Int}(h0:0 < m)(h:m < 1000000):m.natAbs.log2 < 9000:=by
 have h1:m.natAbs≠0:=by omega
 have:m.natAbs.log2 < 20:=(Nat.log2_lt h1).mpr (by omega)
 omega
theorem rN{S:aI}{k:Nat}{m:Int}(p:rg k S)(hm:0 < m)(Dn:m.natAbs.log2 < 9000){Q:V3->aI->Prop}
 (h:∀(r:Int) S1,0<=r->r < m->Ev k S S1->Q (.d (.int r)) S1):W3 (aC [.loc k, .d (.int m)] S) Q:=by
 obtain⟨hL,a,c,e⟩:=p;have fin:∀(r:Int) S2,0<=r->r < m->Ev k S S2->Flat S2/\ei S.length (.d (.int r))=true/\∃d,res S2 (.d (.int r))=some d/\Q (.d d) (S2.take S.length):=fun r S2 h1 h2 v=>by
  refine⟨v.p.1,by unfold ei;rfl, .int r,by unfold res;rfl,?_⟩
  rw[List.take_of_length_le (by have:=v.len;omega)]
  exact h r S2 h1 h2 v
 have h0:b_ (.lst [.int a, .int c]) (.int 0)= .ok (.int a):=rfl;have h1:b_ (.lst [.int a, .int c]) (.int 1)= .ok (.int c):=rfl;unfold aC;refine sY (xh rfl ?_);simp only[cq,lz,List.map,List.length,List.replicate,List.cons_append,List.nil_append,Nat.reduceAdd,Nat.reduceSub];unfold oh;by_cases hc:(1000000000000000000:Int)<=a
 .refine LW (l4 (LJ (b:=true) ?_ ?_))
  .simp (implicitDefEqProofs:=false) (disch:=first | omega | decide) only[ag,eC,e2,b2,dE,xk,AG,l3,R.aH,List.map_cons,List.getElem?_cons_zero,List.getElem?_cons_succ,down,bK,res,bH,decide_eq_true_eq,Int.reduceToNat,e,h0]
   simp [hc]
  rw[if_pos rfl];refine aU (br (by simp) (xj (d:= .int (a % m)) ?_ rfl ⟨_,rfl,?_⟩))
  .simp (implicitDefEqProofs:=false) (disch:=first | omega | decide) only[ag,eC,e2,b2,dE,xk,AG,l3,R.aH,List.map_cons,List.getElem?_cons_zero,List.getElem?_cons_succ,down,bK,res,bH,decide_eq_true_eq,Int.reduceToNat,e,h0]
  simp only[List.set];refine aU (D6 (xj (d:= .int (a / m)) ?_ rfl (w_var (v:= .loc k) rfl (bQ (d:= .int 0) rfl ⟨_,k,0,_,0,rfl,rfl,rfl,e,rfl,_,rfl,?_⟩))))
  .refine ay (a:= .int a) (b:= .int m) ?_ rfl (Bn hm Dn);simp (implicitDefEqProofs:=false) (disch:=first | omega | decide) only[ag,eC,e2,b2,dE,xk,AG,l3,R.aH,List.map_cons,List.getElem?_cons_zero,List.getElem?_cons_succ,down,bK,res,bH,decide_eq_true_eq,Int.reduceToNat,e,h0]
  refine fE (bQ (d:= .int (a % m)) rfl ⟨_,rfl,_,rfl,?_⟩);exact fin _ _ (Int.emod_nonneg _ (by omega)) (Int.emod_lt_of_pos _ hm) ⟨⟨hL.set _ (nP _),_,_,jC e⟩,List.length_set,fun j hj=>List.getElem?_set_ne (Ne.symm hj)⟩
 .refine aU (l4 (LJ (b:=false) ?_ ?_))
  .simp (implicitDefEqProofs:=false) (disch:=first | omega | decide) only[ag,eC,e2,b2,dE,xk,AG,l3,R.aH,List.map_cons,List.getElem?_cons_zero,List.getElem?_cons_succ,down,bK,res,bH,decide_eq_true_eq,Int.reduceToNat,e,h0]
   simp [hc]
  rw[if_neg (by decide)]
  refine iA ⟨_,rfl,?_⟩;refine aU (D6 (xj (d:= .int ((c*48271+11) % 2147483647)) ?_ rfl (w_var (v:= .loc k) rfl (bQ (d:= .int 1) rfl ⟨_,k,1,_,1,rfl,rfl,rfl,e,rfl,_,rfl,?_⟩))))
  .simp (implicitDefEqProofs:=false) (disch:=first | omega | decide) only[ag,eC,e2,b2,dE,xk,AG,l3,R.aH,List.map_cons,List.getElem?_cons_zero,List.getElem?_cons_succ,down,bK,res,bH,decide_eq_true_eq,Int.reduceToNat,e,h1]
  have hx1:0<=(c*48271+11) % 2147483647:=Int.emod_nonneg _ (by omega)
  have Hc:(c*48271+11) % 2147483647 < 2147483647:=Int.emod_lt_of_pos _ (by omega)
  generalize (c*48271+11) % 2147483647=x at hx1 Hc;simp only[List.set];have e1:(S.set k (.lst [.int a, .int x]))[k]? =some (.lst [.int a, .int x]):=jC e;have v1:Ev k S (S.set k (.lst [.int a, .int x])):=⟨⟨hL.set _ (nP _),_,_,e1⟩,List.length_set,fun j hj=>List.getElem?_set_ne (Ne.symm hj)⟩
  generalize S.set k (.lst [.int a, .int x])=S1 at e1 v1;refine aU (br (by simp) (xj (d:= .int (x*x % 2147483629)) ?_ rfl ⟨_,rfl,?_⟩))
  .have h2:b_ (.lst [.int a, .int x]) (.int 1)= .ok (.int x):=rfl;simp (implicitDefEqProofs:=false) (disch:=first | omega | decide) only[ag,eC,e2,b2,dE,xk,AG,l3,R.aH,List.map_cons,List.getElem?_cons_zero,List.getElem?_cons_succ,down,bK,res,bH,decide_eq_true_eq,Int.reduceToNat,e1,h2]
  simp only[List.set];generalize x*x % 2147483629=y;refine fE (bQ (d:= .int (y*69621 % 2147483587 / 8 % m)) ?_ ⟨_,rfl,?_⟩)
  .refine ay (a:= .int (y*69621 % 2147483587 / 8)) (b:= .int m) (ay (a:= .int (y*69621 % 2147483587)) (b:= .int 8) ?_ rfl (Bn (by omega) (by decide))) rfl (zR hm)
   simp (implicitDefEqProofs:=false) (disch:=first | omega | decide) only[ag,eC,e2,b2,dE,xk,AG,l3,R.aH,List.map_cons,List.getElem?_cons_zero,List.getElem?_cons_succ,down,bK,res,bH,decide_eq_true_eq,Int.reduceToNat]
  exact fin _ _ (Int.emod_nonneg _ (by omega)) (Int.emod_lt_of_pos _ hm) v1
section
variable {S:aI} {δ:DE} {k i:Nat}
theorem draw{Q:V3->aI->Prop}{f:FD}{m:Int}(hv:δ[i]? =some (some (.loc k)))(p:rg k S)(hf:f (down δ)= .ok (.int m))(hm:0 < m)(Dn:m < 1000000)
 (h:∀(r:Int) S1,0<=r->r < m->Ev k S S1->Q (.d (.int r)) S1):W3 (bt aC (aq (bz i) (aq (xP f) bC)) δ S) Q:=
 bZ (av (w_var hv (av (bQ hf (bO (rN p hm (uQ hm Dn) h))))))
theorem J4{Q:V3->aI->Prop}{m:Int}(hv:δ[i]? =some (some (.loc k)))(p:rg k S)(hm:0 < m)(Dn:m < 1000000)
 (h:∀(r:Nat) S1,1<=r->(r:Int)<=m->Ev k S S1->Q (.d (.int r)) S1):W3 (x2 dE (xP (eC (.int 1))) (bt aC (aq (bz i) (aq (xP (eC (.int m))) bC))) δ S) Q:=
 CB (bQ rfl (draw hv p rfl hm Dn fun r S1 h1 h2 v=>⟨_,_, .int ((1+r).toNat:Nat),rfl,rfl,by rw[Int.toNat_of_nonneg (by omega)];rfl,h _ S1 (by omega) (by omega) v⟩))
end
theorem wo(c:Int){S:aI}{Q:V3->aI->Prop}(hS:Flat S)(h:∀S1,rg S.length S1->S1.length=S.length+1->(∀j,j < S.length->S1[j]? =S[j]?)->Q (.loc S.length) S1):W3 (eE [.d (.int c)] S) Q:=by
 have hz:sizeLine=16777216:=sizeLine_eq;unfold eE;refine xh rfl ?_;simp only[cq,lr,List.map,List.length,List.replicate,List.cons_append,List.nil_append,Nat.reduceAdd,Nat.reduceSub];unfold nW;refine fE (lY (ds:=[.int (if c < 0 then -c else c), .int ((c % 2147483647+1)*742938285 % 2147483647)]) ?_ ⟨_,rfl,?_⟩)
 .simp (implicitDefEqProofs:=false) (disch:=first | omega | decide) only[fI,ao,aW,ag,down,List.map_cons,List.map_nil,List.getElem?_cons_zero,aO,R.aH,cAbs,e2,eC,qt,xk,bH,dE,l3,List.length_cons,List.length_nil,Nat.zero_add,Nat.reduceAdd]
 refine h _ ⟨hS.push (nP _),_,_,by rw[List.getElem?_append_right (Nat.le_refl _),Nat.sub_self];rfl⟩ (by simp) fun j hj=>List.getElem?_append_left hj
end K18
end
section
namespace K18
open PySem PySem.Spec PyProof.Rows L2 L3 MT
theorem B8{a:D}{r:List D}:b_ (.tup (a ::r)) (.int 0)= .ok a:=wH (by rw[jk (by omega) (by simp)];rfl)
theorem EV{a b:D}{r:List D}:b_ (.tup (a ::b ::r)) (.int 1)= .ok b:=wH (by rw[jk (by omega) (by simp)];rfl)
theorem UT{a b c:D}{r:List D}:b_ (.tup (a ::b ::c ::r)) (.int 2)= .ok c:=wH (by rw[jk (by omega) (by simp)];rfl)
theorem Ba{N:Nat}{a b c:M}:gq [.tup [mI N a,mI N b,mI N c]]= .ok (mI N fun p=>(a p && b p) || (a p && c p) || (b p && c p)):=by
 unfold gq vv;refine dv (cO ?_);exact ay (ay (ay (ay rfl rfl B8) (ay rfl rfl EV) (sg N a b)) (ay (ay rfl rfl B8) (ay rfl rfl UT) (sg N a c)) (yL N _ _)) (ay (ay rfl rfl EV) (ay rfl rfl UT) (sg N b c)) (yL N _ _)
theorem NW(k j:Nat)(hk:k<=4)(hj:j<=4):il (.str (kS k)) (.str (kS j))= .ok (.bl (decide (k=j))):=by
 show R.ok (D.bl (kS k==kS j))=_;congr 2
 revert hk hj
 have:∀a∈List.range 5,∀b∈List.range 5,(kS a==kS b)=decide (a=b):=by decide+kernel
 intro hk hj;exact this k (by rw[List.mem_range];omega) j (by rw[List.mem_range];omega)
theorem IJ{N kd:Nat}{xs:List M}(hk:kd<=4)(hx:xs.length=ar kd):hW [.str (kS kd), .tup (xs.map (mI N)),mI N one]= .ok (mI N fun p=>gv kd (xs.map (· p))):=by
 unfold hW qH;have q:∀j,j<=4->b2 il (ag 0) (eC (.str (kS j))) (fP my [.str (kS kd), .tup (xs.map (mI N)),mI N one])= .ok (decide (kd=j)):=fun j hj=>dj (a:= .str (kS kd)) (b:= .str (kS j)) rfl rfl (NW kd j hk hj)
 have q0:=q 0 (by omega)
 have q1:=q 1 (by omega)
 have q2:=q 2 (by omega)
 have q3:=q 3 (by omega)
 match kd,hk,xs,hx with
 | 0,_,[a],_=>
   refine dv (NT.lx (qT q0 (cO (ay (a:=mI N one) (b:=mI N a) rfl (ay rfl rfl B8) (yd N a)))))
 | 1,_,[a,b],_=>
   refine dv (cc (iL q0 rfl) (NT.lx (qT q1 (cO (ay (ay rfl rfl B8) (ay rfl rfl EV) (sg N a b))))))
 | 2,_,[a,b],_=>
   refine dv (cc (iL q0 rfl) (cc (iL q1 rfl) (NT.lx (qT q2 (cO (ay (ay rfl rfl B8) (ay rfl rfl EV) (yL N a b)))))))
 | 3,_,[a,b],_=>
   refine dv (cc (iL q0 rfl) (cc (iL q1 rfl) (cc (iL q2 rfl) (NT.lx (qT q3 (cO (ay (ay rfl rfl B8) (ay rfl rfl EV) (BL N a b))))))))
 | 4,_,[a,b,c],_=>
   refine dv (cc (iL q0 rfl) (cc (iL q1 rfl) (cc (iL q2 rfl) (cc (iL q3 rfl) (cO (aQ (ds:=[.tup [mI N a,mI N b,mI N c]]) rfl Ba))))))
theorem J1{N:Nat}{ws:List M}{ns:List Nat}(hn:∀n∈ns,n < ws.length)(hl:ns.length < 1000):fq [.lst (ws.map (mI N)), .tup (ns.map nI)]= .ok (.tup ((ns.map (lh ws)).map (mI N))):=by
 have hz:sizeLine=16777216:=sizeLine_eq;unfold fq tH;refine dv (cO (aQ (ds:=[.lst ((ns.map (lh ws)).map (mI N))]) (aw (c9 (eT (ds:=ns.map nI) (zZ rfl) (by rw[List.length_map];omega) ?_)) rfl) rfl))
 rw[List.map_map];exact NT.eA nI _ fun n M3=>⟨[.val (nI n), .val (.lst (ws.map (mI N)))],rfl,rfl,ay (a:= .lst (ws.map (mI N))) (b:=nI n) rfl rfl (Lm (hn n M3))⟩
def z7(N:Nat)(S:aI)(GV lZ Te:D)(a5 a6 a7:Option V3):DE:=[some (.d GV),some (.d lZ),some (.d (mI N one)),some (.d Te),some (.loc S.length),a5,a6,a7]
theorem DY{N:Nat}{S:aI}{GV lZ:D}{bad:List Int}{a5 a7:Option V3}{b:M}{ws:List M}(hl:ws.length < 10000) :
 W3 (fT (z7 N S GV lZ (.tup (bad.map .int)) a5 (some (.d (mI N b))) a7) (S++[.lst (ws.map (mI N))])) fun o S1=>o= .nx (z7 N S GV lZ (.tup (bad.map .int)) a5 (some (.d (mI N b))) a7)/\S1=S++[SO.lst ((ws++[fun p=>b p !=bad.contains (ws.length:Int)]).map (mI N))]:=by
 have hz:sizeLine=16777216:=sizeLine_eq;unfold fT;refine j_ (k:=S.length) rfl ⟨_,bx _ _⟩ (xj (d:=mI N fun p=>b p !=bad.contains (ws.length:Int)) ?_ rfl ⟨_,_,rfl,bx _ _,by rw[List.length_map];omega,rfl,?_⟩)
 .have h4:(bK (S++[.lst (ws.map (mI N))]) (z7 N S GV lZ (.tup (bad.map .int)) a5 (some (.d (mI N b))) a7))[4]? =some (.val (.lst (ws.map (mI N)))):=by
   unfold bK z7;show some (match res (S++[.lst (ws.map (mI N))]) (.loc S.length) with | some d=>Sl.val d | none=> .un)=_
   unfold res;rw[bx]
  refine wA (b:=bad.contains (ws.length:Int)) (dj (a:= .int ws.length) (b:= .tup (bad.map .int)) (aQ (ds:=[.lst (ws.map (mI N))]) (aw (by unfold ag;rw [h4]) rfl) (by rw[t6,List.length_map])) rfl (wm _ _)) ?_
  rw[<-GD];rfl
 .rw [fK,List.map_append];rfl
theorem x_{N:Nat}{S:aI}{bD:D}{ins:Aac}{bits:List M}{bad:List Int}(hB:bD= .lst (bits.map (mI N))\/bD= .tup (bits.map (mI N)))(hb:bits.length=ins.length)(hi:ins.length < 100)(hw:∀x∈ins,x.2 < 100){Q:V3->aI->Prop}
 (h:Q (.loc S.length) (S++[.lst ((di ins bits bad ins.length).map (mI N))])) :
 W3 (dq [.d (.lst (ins.map inD)), .d bD, .d (mI N one), .d (.tup (bad.map .int))] S) Q:=by
 have hz:sizeLine=16777216:=sizeLine_eq;unfold dq;refine xh rfl ?_;simp only[cq,fg,List.map,List.length,List.replicate,List.cons_append,List.nil_append,Nat.reduceAdd,Nat.reduceSub];unfold ip;refine aU (br (by simp) (lY (ds:=[]) rfl ⟨_,rfl,?_⟩))
 simp only[List.set];refine aU (iK (rG (ds:=dk (bits.map (mI N))) (by rcases hB with rfl | rfl <;> rfl) ?_))
 have big:∀i,i<=ins.length->(di ins bits bad i).length<=100*i:=by
  intro i hi'
  induction i with
  | zero=>simp [di]
  | succ i ih=>
    have ih:=ih (by omega)
    have h1:ins[i]? =some ins[i]:=List.getElem?_eq_getElem (by omega)
    have h2:bits[i]? =some bits[i]:=List.getElem?_eq_getElem (by omega)
    unfold di;rw[h1,h2];show(iI bad bits[i] ins[i].2 (di ins bits bad i)).length<=_;rw[gh];have:=hw ins[i] (List.getElem_mem _);omega
 refine(cF (fun i δ S2=>(∃a b c,δ=z7 N S (.lst (ins.map inD)) bD (.tup (bad.map .int)) a b c)/\S2=S++[SO.lst ((di ins bits bad i).map (mI N))])
  ⟨⟨_,_,_,rfl⟩,rfl⟩ ?_).mono fun o S2 ⟨dD,g8,⟨a,b,c,hδ⟩,hS⟩=>⟨dD,g8,?_⟩
 .rintro i v δ S2 hv ⟨⟨a,b,c,rfl⟩,rfl⟩;obtain⟨d,hd,rfl⟩:=vN hv;rw[List.getElem?_map] at hd;have hib:i < bits.length:=by
   have:=(List.getElem?_eq_some_iff.mp hv).1;simpa [dk] using this
  have h1:ins[i]? =some ins[i]:=List.getElem?_eq_getElem (by omega)
  have h2:bits[i]? =some bits[i]:=List.getElem?_eq_getElem hib;rw[h2] at hd;cases hd;refine⟨z7 N S (.lst (ins.map inD)) bD (.tup (bad.map .int)) (some (.d (.int i))) (some (.d (mI N bits[i]))) c,rfl,?_⟩;unfold jB;have Qp:=hw ins[i] (List.getElem_mem _);refine iK (rG (jt (n:=ins[i].2) ?_ (by omega)) ?_)
  .refine ay (a:=inD ins[i]) (b:= .int 1) (ay (a:= .lst (ins.map inD)) (b:= .int i) rfl rfl (jU ?_)) rfl rfl;rw[jk (by omega) (by rw[List.length_map,Int.toNat_natCast];omega)]
   simp
  refine(cF (fun j δ S3=>(∃c,δ=z7 N S (.lst (ins.map inD)) bD (.tup (bad.map .int)) (some (.d (.int i))) (some (.d (mI N bits[i]))) c)/\S3=S++[SO.lst ((iI bad bits[i] j (di ins bits bad i)).map (mI N))])
   ⟨⟨_,rfl⟩,rfl⟩ ?_).mono fun o S3 ⟨MX,e3,⟨c3,MS⟩,hS3⟩=>⟨MX,e3,⟨_,_,c3,MS⟩,?_⟩
  .rintro j v δ S3 hv ⟨⟨c3,rfl⟩,rfl⟩;refine⟨_,rfl,?_⟩;have hj:j < ins[i].2:=by
    have:=(List.getElem?_eq_some_iff.mp hv).1
    rwa [List.length_map,cC,List.length_map,List.length_range] at this
   refine(DY ?_).mono fun o S4 ⟨e4,e5⟩=>⟨_,e4,⟨_,rfl⟩,e5⟩
   rw[gh];have:=big i (by omega)
   omega
  .rw [hS3,List.length_map,cC,List.length_map,List.length_range];show _=S++[SO.lst ((match ins[i]?,bits[i]? with | some x,some b=>iI bad b x.2 (di ins bits bad i) | _,_=>di ins bits bad i).map (mI N))]
   rw[h1,h2]
 have hlen:((dk (bits.map (mI N))).map V3.d).length=ins.length:=by simp [dk,hb]
 rw[hlen] at hS;subst hδ hS;exact fE (w_var rfl ⟨_,rfl,h⟩)
section
variable {N:Nat} {ins:Aac} {gs:List Gt} {os:Aad} {bits:List M} {turned bad:List Int}
def xu(N:Nat)(S:aI)(nt lZ tD bD:D)(a6 a7 a8:Option V3):DE:=[some (.d nt),some (.d lZ),some (.d (mI N one)),some (.d tD),some (.d bD),some (.loc S.length),a6,a7,a8]
theorem C8{S:aI}{nt lZ bD:D}{a8:Option V3}{g:Gt}{i:Nat}{ws:List M}(hg:ny ws.length g)(hl:ws.length < 20000) :
 W3 (i9 (xu N S nt lZ (.tup (turned.map .int)) bD (some (.d (.int i))) (some (.d (dO g))) a8) (S++[.lst (ws.map (mI N))])) fun o S1=>(∃c,o= .nx (xu N S nt lZ (.tup (turned.map .int)) bD (some (.d (.int i))) (some (.d (dO g))) c))/\S1=S++[SO.lst ((ws++[fun p=>gF g ws p !=turned.contains (i:Int)]).map (mI N))]:=by
 have hz:sizeLine=16777216:=sizeLine_eq;have ha:=EE g.1;unfold i9;refine aU (br (by unfold xu;simp only[List.length_cons,List.length_nil];omega) (xj (d:=mI N (gF g ws)) ?_ rfl ⟨_,rfl,?_⟩))
 .have h5:(bK (S++[.lst (ws.map (mI N))]) (xu N S nt lZ (.tup (turned.map .int)) bD (some (.d (.int i))) (some (.d (dO g))) a8))[5]? =some (.val (.lst (ws.map (mI N)))):=by
   unfold bK xu;show some (match res (S++[.lst (ws.map (mI N))]) (.loc S.length) with | some d=>Sl.val d | none=> .un)=_
   unfold res;rw[bx]
  refine(aQ (ds:=[.str (kS g.1), .tup ((g.2.1.map (lh ws)).map (mI N)),mI N one]) (aw (ay (a:=dO g) (b:= .int 0) rfl rfl rfl) (aw ?_ (aw rfl rfl))) (IJ hg.1 (by rw[List.length_map];exact hg.2.1))).trans ?_
  .exact aQ (ds:=[.lst (ws.map (mI N)), .tup (g.2.1.map nI)]) (aw (by unfold ag;rw [h5]) (aw (ay (a:=dO g) (b:= .int 1) rfl rfl rfl) rfl)) (J1 hg.2.2 (by rw[hg.2.1];omega))
  .have:(fun p=>gv g.1 ((g.2.1.map (lh ws)).map (· p)))=gF g ws:=by funext p;unfold gF;rw [List.map_map];rfl
   rw[this]
 .show W3 (kq 5 _ (xu N S nt lZ (.tup (turned.map .int)) bD (some (.d (.int i))) (some (.d (dO g))) (some (.d (mI N (gF g ws))))) _) _;refine j_ (k:=S.length) rfl ⟨_,bx _ _⟩ (bQ (d:=mI N fun p=>gF g ws p !=turned.contains (i:Int)) ?_ ⟨_,_,rfl,bx _ _,by rw[List.length_map];omega,⟨_,rfl⟩,?_⟩)
  .refine wA (b:=turned.contains (i:Int)) (dj (a:= .int i) (b:= .tup (turned.map .int)) rfl rfl (wm _ _)) ?_;rw[<-GD];rfl
  .rw [fK,List.map_append];rfl
theorem EM{S:aI}{bD:D}(hB:bD= .lst (bits.map (mI N))\/bD= .tup (bits.map (mI N)))(NO:eZ ins gs os)(hb:bits.length=ins.length)(hS:C4 S){Q:V3->aI->Prop}(h:Q (.d (.lst ((Ek ins gs bits turned bad).map (mI N)))) S) :
 W3 (gZ [.d (cg ins gs os), .d bD, .d (mI N one), .d (.tup (turned.map .int)), .d (.tup (bad.map .int))] S) Q:=by
 have hz:sizeLine=16777216:=sizeLine_eq;unfold gZ;refine pk hS (xh rfl ?_);simp only[cq,iQ,List.map,List.length,List.replicate,List.cons_append,List.nil_append,Nat.reduceAdd,Nat.reduceSub];unfold lu;refine aU <| br (by simp) <| bZ <| av <| bQ (d:= .lst (ins.map inD)) rfl <| av <| bQ (d:=bD) rfl <| av <| bQ (d:=mI N one) rfl <| av <| bQ (d:= .tup (bad.map .int)) rfl <| bO <| x_ hB hb NO.hi NO.hw ⟨_,rfl,?_⟩
 simp only[List.set];have hwd:=DB NO.hw;have hN:=NO.hi;have hG:=NO.hg;refine aU (iK (rG (ds:=dk (gs.map dO)) rfl ?_));refine(cF (fun i δ S2=>(∃a b c,δ=xu N S (cg ins gs os) bD (.tup (turned.map .int)) (.tup (bad.map .int)) a b c)/\S2=S++[SO.lst ((nv gs turned (di ins bits bad ins.length) i).map (mI N))])
  ⟨⟨_,_,_,rfl⟩,rfl⟩ ?_).mono fun o S2 ⟨dD,g8,⟨a,b,c,hδ⟩,G_⟩=>⟨dD,g8,?_⟩
 .rintro i v δ S2 hv ⟨⟨a,b,c,rfl⟩,rfl⟩;obtain⟨d,hd,rfl⟩:=vN hv;rw[List.getElem?_map] at hd;cases q:gs[i]? with
  | none=>rw [q] at hd;cases hd
  | some g=>
    rw[q] at hd;cases hd;have hi:i < gs.length:=(List.getElem?_eq_some_iff.mp q).1;have hl:(nv gs turned (di ins bits bad ins.length) i).length=iz ins+i:=by rw[pM _ (by omega),pR hb _ (Nat.le_refl _),List.take_length]
    refine⟨xu N S (cg ins gs os) bD (.tup (turned.map .int)) (.tup (bad.map .int)) (some (.d (.int i))) (some (.d (dO g))) c,rfl,?_⟩;refine(C8 (by rw[hl];exact NO.g i g q) (by rw[hl];omega)).mono fun o S4 ⟨⟨c4,e4⟩,e5⟩=>⟨_,e4,⟨_,_,_,rfl⟩,?_⟩
    rw[e5];show _=S++[SO.lst ((match gs[i]? with | some g=>nv gs turned (di ins bits bad ins.length) i++[fun p=>gF g (nv gs turned (di ins bits bad ins.length) i) p !=turned.contains (i:Int)] | none=>nv gs turned (di ins bits bad ins.length) i).map (mI N))]
    rw[q]
 have hlen:((dk (gs.map dO)).map V3.d).length=gs.length:=by simp [dk]
 rw[hlen] at G_;subst hδ G_;exact fE (w_var rfl ⟨_,rfl,by unfold ei;exact decide_eq_true (Nat.le_refl _),⟨_,rfl⟩,_,by unfold res;rw [bx];rfl,h⟩)
def oq(N:Nat)(os:Aad)(ws:List M):List D:=os.map fun x=> .tup ((tell ws x).map (mI N))
theorem IM{S:aI}{ws:List M}(hO:os.length < 1000)(ho:∀x∈os,x.2.length < 1000/\∀w∈x.2,w < ws.length)(hS:C4 S){Q:V3->aI->Prop}(h:Q (.d (.lst (oq N os ws))) S) :
 W3 (iR [.d (cg ins gs os), .d (.lst (ws.map (mI N)))] S) Q:=by
 have hz:sizeLine=16777216:=sizeLine_eq;unfold iR;refine pk hS (xh rfl ?_);simp only[cq,ju,List.map,List.length,List.replicate,List.cons_append,List.nil_append,Nat.reduceAdd,Nat.reduceSub];unfold l_;refine fE (lY (ds:=oq N os ws) ?_ ⟨_,rfl,by unfold ei;exact decide_eq_true (Nat.le_refl _),⟨_,rfl⟩,_,by unfold res;rw [bx],h⟩)
 refine eT (ds:=os.map pU) (zc (ay (a:=cg ins gs os) (b:= .int 2) rfl rfl rfl)) (by rw[List.length_map];omega) ?_
 unfold oq;refine NT.eA pU _ fun(x:Str × List Nat) hx=>⟨[.val (.str x.1), .val (.tup (x.2.map nI)), .val (.lst (ws.map (mI N)))],rfl,rfl,?_⟩
 exact aQ (ds:=[.lst (ws.map (mI N)), .tup (x.2.map nI)]) rfl (J1 (ho x hx).2 (ho x hx).1)
end
end K18
end
section
namespace K18
open PySem PySem.Spec PyProof.Rows L2 L3 MT
def r0(xs:List M):M:=fun p=>(NU (xs.map (· p))).1
def r1(xs:List M):M:=fun p=>(NU (xs.map (· p))).2
theorem t7{n:Nat}{ds:List D}{δ:au}{j:Int}(h:ag 0 δ= .ok (.tup ds))(hl:ds.length=n):b2 il (aW dh (ao (ag 0) aO)) (eC (.int j)) δ= .ok (decide ((n:Int)=j)):=by
 refine dj (a:= .int n) (b:= .int j) (aQ (ds:=[.tup ds]) (aw h rfl) ?_) rfl ?_
 .show R.ok (D.int ds.length)=_;rw[hl]
 .show R.ok (D.bl ((n:Int)==j))=_;congr 2
theorem Aa{N:Nat}{xs:List M}(h:1<=xs.length/\xs.length<=3):kY [.tup (xs.map (mI N)),mI N one]= .ok (.tup [mI N (r0 xs),mI N (r1 xs)]):=by
 have hz:sizeLine=16777216:=sizeLine_eq;unfold kY vd
 match xs,h with
 | [a],_=>
   refine dv (cc (iL (t7 (n:=1) rfl rfl) rfl) (cc (rJ (d:=mI N a) (wA (t7 (n:=1) rfl rfl) (ay (a:= .tup [mI N a]) (b:= .int 0) rfl rfl B8)) (by simp [fP,ni])) (cO ?_)))
   exact cD (aw (ay (a:=mI N one) (b:=mI N a) rfl rfl (yd N a)) (aw rfl rfl)) (by simp;omega)
 | [a,b],_=>
   refine dv (NT.lx (qT (t7 (n:=2) rfl rfl) (cO ?_)));exact cD (aw (ay (a:=mI N one) (b:=mI N fun p=>a p || b p) rfl (ay (ay rfl rfl B8) (ay rfl rfl EV) (yL N a b)) (yd N _)) (aw (ay (ay rfl rfl B8) (ay rfl rfl EV) (sg N a b)) rfl)) (by simp;omega)
 | [a,b,c],_=>
   refine dv (cc (iL (t7 (n:=3) rfl rfl) rfl) (cc (rJ (d:=mI N fun p=>(a p && b p) || (a p && c p) || (b p && c p)) (wA (t7 (n:=3) rfl rfl) (aQ (ds:=[.tup [mI N a,mI N b,mI N c]]) rfl Ba)) (by simp [fP,ni])) (cO ?_)))
   exact cD (aw (ay (a:=mI N one) (b:=mI N fun p=>(a p && b p) || (a p && c p) || (b p && c p)) rfl rfl (yd N _)) (aw rfl rfl)) (by simp;omega)
theorem Ld{N n:Nat}{f:M}:mF [mI N f, .int n]= .ok (.int (if decide (n < N) && f n then 1 else 0)):=by
 unfold mF x4;refine dv (cO ?_);have h:=Ox N f n;show(R.bind (R.bind (R.ok (mI N f)) fun d=>R.bind (R.ok (D.int n)) fun e=>EW d e) fun d=>R.bind (R.ok (D.int 1)) fun e=>Dv d e)=_
 exact h
theorem tQ{bs:List Bool}(hl:bs.length < 100000):gc [.lst (bs.map bI)]= .ok (.int (G3 bs)):=by
 unfold gc uS;refine dv (cc (rJ (d:= .int 0) rfl (by simp [fP,qe])) ?_)
 obtain⟨δ1,e1,a2,GH⟩:=qf (t:=bR 2) (body:=mP) (ds:=(bs.map bI).reverse)
  (fun i δ=>∃a2,δ=[.val (.lst (bs.map bI)), .val (.int (G3 (bs.drop (bs.length - i)))),a2]) (δ:=[.val (.lst (bs.map bI)), .val (.int 0), .un]) ⟨.un,by simp [G3]⟩ (by
    rintro i d δ hd ⟨a2,rfl⟩;have hi:i < bs.length:=by
     have:=(List.getElem?_eq_some_iff.mp hd).1
     rwa [List.length_reverse,List.length_map] at this
    rw[List.getElem?_reverse (by rw[List.length_map];exact hi),List.length_map,List.getElem?_map,List.getElem?_eq_getElem (by omega:bs.length - 1 - i < bs.length)] at hd
    cases hd;have hdr:bs.drop (bs.length - (i+1))=bs[bs.length - 1 - i] ::bs.drop (bs.length - i):=by
     rw[show bs.length - (i+1)=bs.length - 1 - i by omega,List.drop_eq_getElem_cons (by omega:bs.length - 1 - i < bs.length),show bs.length - 1 - i+1=bs.length - i by omega]
    refine⟨_,?_,⟨.val (bI bs[bs.length - 1 - i]),rfl⟩⟩;have hm:(G3 (bs.drop (bs.length - (i+1))):Int)=(G3 (bs.drop (bs.length - i)):Int)*2+(if bs[bs.length - 1 - i] then 1 else 0):=by
     rw[hdr];show(((if bs[bs.length - 1 - i] then 1 else 0)+2*G3 (bs.drop (bs.length - i)):Nat):Int)=_
     cases bs[bs.length - 1 - i] <;> simp <;> omega
    rw[hm];generalize (G3 (bs.drop (bs.length - i)):Int)=m;generalize bs[bs.length - 1 - i]=x;generalize D.lst (bs.map bI)=y;rw[show bR 2 (bI x) [.val y, .val (.int m),a2]= .ok [.val y, .val (.int m), .val (bI x)] from rfl,R.aH]
    unfold mP;exact rJ (ay (a:= .int (m*2)) (b:=bI x) (ay (a:= .int m) (b:= .int 2) rfl rfl (bH _ (.inr ⟨by omega,by omega⟩))) rfl rfl) (by simp))
 refine cc (wQ (ds:=(bs.map bI).reverse) rfl e1) ?_;rw[List.length_reverse,List.length_map,Nat.sub_self,List.drop_zero] at GH;subst GH;exact cO rfl
def cH:Nat->List (List Bool)
 | 0=>[[]]
 | c+1=>(cH c).flatMap fun b=>[b++[false],b++[true]]
theorem dr:∀c,(cH c).length=2 ^ c
 | 0=>rfl
 | c+1=>by
   unfold cH;rw[List.length_flatMap];have:(cH c).map (fun b=>[b++[false],b++[true]].length)=(cH c).map fun _=>2:=rfl
   rw[this,List.map_const',List.sum_replicate_nat,dr c];omega
theorem qi:∀c,∀b∈cH c,b.length=c
 | 0,b,h=>by unfold cH at h;rw [List.mem_singleton.mp h];rfl
 | c+1,b,h=>by
   unfold cH at h;obtain⟨a,ha,hb⟩:=List.mem_flatMap.mp h;have:=qi c a ha;simp only[List.mem_cons,List.not_mem_nil,or_false] at hb;rcases hb with rfl | rfl <;> simp [this]
def f9(b:List Bool):D:= .tup (b.map bI)
def aE(c:Nat)(Yl:Option V3)(a2 a3 a4:Option V3):DE:=[some (.d (nI c)),Yl,a2,a3,a4]
theorem uC{c:Nat}{S:aI}(hc:c<=10)(hS:C4 S){Q:V3->aI->Prop}(h:Q (.d (.lst ((cH c).map f9))) S):W3 (gT [.d (nI c)] S) Q:=by
 have hz:sizeLine=16777216:=sizeLine_eq;unfold gT;refine pk hS (xh rfl ?_);simp only[cq,iM,List.map,List.length,List.replicate,List.cons_append,List.nil_append,Nat.reduceAdd,Nat.reduceSub];unfold lp;refine aU <| br (by simp) <| lY (ds:=(cH 0).map f9) rfl ⟨_,rfl,?_⟩
 simp only[List.set];refine aU <| iK <| rG (jt (n:=c) rfl (by omega)) ?_
 refine(cF (fun i δ S2=>∃(T:aI) (a2 a3 a4:Option V3),S2=S++T++[.lst ((cH i).map f9)]/\δ=aE c (some (.loc (S++T).length)) a2 a3 a4)
  ⟨[],none,none,none,by simp,by simp [aE]⟩ ?_).mono fun o S2 ⟨dD,g8,T,a2,a3,a4,G_,hδ⟩=>⟨dD,g8,?_⟩
 .rintro i v δ S2 hv ⟨T,a2,a3,a4,rfl,rfl⟩;have hi:i < c:=by
   have:=(List.getElem?_eq_some_iff.mp hv).1
   rwa [List.length_map,cC,List.length_map,List.length_range] at this
  have hpow:(cH i).length<=1024:=by
   rw[dr];exact Nat.pow_le_pow_right (by omega) (by omega:i<=10)
  refine⟨aE c (some (.loc (S++T).length)) (some v) a3 a4,rfl,?_⟩;unfold mw aE;refine N2 (i:=1) rfl (bx _ _) ?_;rw[fK];simp only[List.set];refine aU <| br (by simp) <| lY (ds:=[]) rfl ⟨_,rfl,?_⟩
  simp only[List.set];generalize hU:S++T++[SO.j4]=U;refine aU <| iK <| rG (ds:=(cH i).map f9) rfl ?_
  refine(cF (fun j δ S3=>(∃b4,δ=[some (.d (nI c)),some (.d (.lst ((cH i).map f9))),some v,some (.loc U.length),b4])/\S3=U++[.lst ((((cH i).take j).flatMap fun b=>[b++[false],b++[true]]).map f9)])
   ⟨⟨_,rfl⟩,by simp⟩ ?_).mono fun o S3 ⟨MX,e3,⟨b4,MS⟩,hS3⟩=>⟨MX,e3,?_⟩
  .rintro j v3 δ S3 hv3 ⟨⟨b4,rfl⟩,rfl⟩;obtain⟨b,hb,rfl⟩:=NT.wO hv3;have hj:=(List.getElem?_eq_some_iff.mp hb).1;have hbl:=qi i b (List.mem_of_getElem? hb);refine⟨[some (.d (nI c)),some (.d (.lst ((cH i).map f9))),some v,some (.loc U.length),some (.d (f9 b))],rfl,?_⟩;unfold mf;generalize hL:((((cH i).take j).flatMap fun b=>[b++[false],b++[true]]).map f9)=L
   have hLl:L.length<=2048:=by
    rw[<-hL,List.length_map,List.length_flatMap];have:((cH i).take j).map (fun b=>[b++[false],b++[true]].length)=((cH i).take j).map fun _=>2:=rfl
    rw[this,List.map_const',List.sum_replicate_nat,List.length_take];omega
   have add:∀(x:Bool) (δ:au),ag 4 δ= .ok (f9 b)->e2 qU (ag 4) (eP (ao (eC (bI x)) aO)) δ= .ok (f9 (b++[x])):=fun x δ h4=>by
    refine ay (a:=f9 b) (b:= .tup [bI x]) h4 (cD rfl (by simp;omega)) ?_
    show R.bh (decide ((b.map bI).length+[bI x].length<=sizeLine)) _=_;rw[bH _ (by rw[List.length_map];simp;omega)]
    unfold f9;rw[List.map_append];rfl
   refine aU <| j_ (k:=U.length) rfl ⟨_,bx _ _⟩ <| bQ (d:=f9 (b++[false])) (add false _ rfl) ⟨_,_,rfl,bx _ _,by omega,_,rfl,?_⟩
   rw[fK];refine j_ (k:=U.length) rfl ⟨_,bx _ _⟩ <| bQ (d:=f9 (b++[true])) (add true _ rfl) ⟨_,_,rfl,bx _ _,by rw[List.length_append];simp;omega,_,rfl,⟨_,rfl⟩,?_⟩
   rw[fK,List.take_add_one,hb,List.flatMap_append,List.map_append,hL];simp
  rw[List.length_map,List.length_map,List.take_length] at hS3;subst MS hS3;refine br (by simp) <| w_var (v:= .loc U.length) rfl ⟨_,rfl,T++[SO.j4],some v,some (.loc U.length),b4,?_,?_⟩
  .rw [<-hU,List.append_assoc S];rfl
  .rw [<-hU,List.append_assoc S];rfl
 have hlen:((cC 0 c).map V3.d).length=c:=by simp [cC]
 rw[hlen] at G_;subst hδ G_;unfold aE;refine fE (w_var rfl ⟨_,rfl,by unfold ei;exact decide_eq_true (by rw[List.length_append];omega),⟨T++[.lst ((cH c).map f9)],by rw[List.append_assoc]⟩,_,by unfold res;rw [bx],h⟩)
end K18
end
section
namespace K18
open PySem PySem.Spec PyProof.Rows L2 L3 MT
def N6(c j:Nat):M:=fun p=>((cH c).getD p []).getD j false
def uj(c:Nat):List M:=(List.range c).map (N6 c)
theorem L8{b:List Bool}{j:Nat}(h:j < b.length):b_ (f9 b) (.int j)= .ok (bI (b.getD j false)):=by
 refine wH ?_;rw[jk (by omega) (by rw[List.length_map,Int.toNat_natCast];exact h)]
 rw[List.getD_eq_getElem?_getD,List.getElem?_eq_getElem h];simp
theorem zM{c j:Nat}(hc:c<=10)(hj:j < c):kU [.lst ((cH c).map f9), .int j]= .ok (mI (2 ^ c) (N6 c j)):=by
 have hz:sizeLine=16777216:=sizeLine_eq;have hp:2 ^ c<=1024:=Nat.pow_le_pow_right (by omega) hc
 unfold kU vp;refine dv (cO (aQ (ds:=[.lst (((cH c).map fun b=>b.getD j false).map bI)]) (aw (c9 (eT (ds:=(cH c).map f9) rfl (by rw[List.length_map,dr];omega) ?_)) rfl) ?_))
 .rw [List.map_map];exact NT.eA f9 _ fun b hb=>⟨[.val (f9 b), .val (.int j)],rfl,rfl,ay (a:=f9 b) (b:= .int j) rfl rfl (L8 (by rw[qi c b hb];exact hj))⟩
 .rw [tQ (by rw[List.length_map,dr];omega),DJ,List.length_map,dr]
  unfold mI;congr 3;refine nc fun p Sf=>?_
  unfold N6;rw[List.getD_eq_getElem?_getD,List.getElem?_map,List.getD_eq_getElem?_getD (l:=cH c),List.getElem?_eq_getElem (by rw[dr];exact Sf)]
  rfl
section
variable {c:Nat} {ins:Aac} {gs:List Gt} {os:Aad}
abbrev Cm:=Str.ofString "net"
abbrev va:=Str.ofString "many_inputs"
abbrev uU:=Str.ofString "full"
abbrev qp:=Str.ofString "in_masks"
def dZ(c:Nat)(nt:D):List (Str × V3):=[(Cm, .d nt),(va, .d (nI (2 ^ c))),(uU, .d (mI (2 ^ c) one)),(qp, .d (.lst ((uj c).map (mI (2 ^ c)))))]
theorem IX{S:aI}(hc:ins.length=c)(Dz:c<=10)(hS:C4 (S++[.ins 0 []])){Q:V3->aI->Prop}(h:Q (.d .cR) (S++[.ins 0 (dZ c (cg ins gs os))])) :
 W3 (cW [.loc S.length, .d (cg ins gs os)] (S++[.ins 0 []])) Q:=by
 have hz:sizeLine=16777216:=sizeLine_eq;have hp:2 ^ c<=1024:=Nat.pow_le_pow_right (by omega) Dz
 unfold cW;refine NM rfl ?_;simp only[cq,eL,List.map,List.length,List.replicate,List.cons_append,List.nil_append,Nat.reduceAdd,Nat.reduceSub];unfold gg;refine aU <| br (by simp) <| bZ <| av <| bQ (d:=nI c) (aQ (ds:=[.lst (ins.map inD)]) rfl (by rw[t6,List.length_map,hc];rfl)) <| bO <| uC Dz hS ⟨_,rfl,?_⟩
 simp only[List.set];refine aU <| iX (k:=S.length) <| bQ (d:=cg ins gs os) rfl <| w_var (v:= .loc S.length) rfl ⟨_,rfl,bx _ _,by simp,_,rfl,?_⟩
 rw[fK];refine aU <| iX (k:=S.length) <| bQ (d:=nI (2 ^ c)) (aQ (ds:=[.lst ((cH c).map f9)]) rfl (by rw[t6,List.length_map,dr];rfl)) <| w_var (v:= .loc S.length) rfl ⟨_,rfl,bx _ _,by unfold xC;simp,_,rfl,?_⟩
 rw[fK];refine aU <| iX (k:=S.length) <| bQ (d:=mI (2 ^ c) one) (aQ (ds:=[.lst (((cH c).map fun _=>true).map bI)]) (aw (c9 (eT (ds:=(cH c).map f9) rfl (by rw[List.length_map,dr];omega) ?_)) rfl) ?_) <| w_var (v:= .loc S.length) rfl ⟨_,rfl,bx _ _,?_,_,rfl,?_⟩
 .rw [List.map_map];exact NT.eA f9 _ fun b hb=>⟨[.val (f9 b)],rfl,rfl,rfl⟩
 .rw [tQ (by rw[List.length_map,dr];omega),DJ,List.length_map,dr]
  unfold mI;congr 3;refine nc fun p Sf=>?_
  rw[List.getD_eq_getElem?_getD,List.getElem?_map,List.getElem?_eq_getElem (by rw[dr];exact Sf)]
  rfl
 .exact(by decide:2 < 1000)
 rw[fK];refine iX (k:=S.length) <| bQ (d:= .lst ((uj c).map (mI (2 ^ c)))) (c9 (eT (ds:=cC 0 c) (jt (n:=c) (aQ (ds:=[.lst (ins.map inD)]) rfl (by rw[t6,List.length_map,hc])) (by omega)) (by simp [cC];omega) ?_)) <| w_var (v:= .loc S.length) rfl ⟨_,rfl,bx _ _,?_,_,rfl,?_⟩
 .unfold uj;rw[List.map_map];unfold cC;refine NT.eA (fun i:Nat=>D.int (0+(i:Int))) _ fun j hj=>⟨[.val (.int (0+(j:Int))), .val (.lst ((cH c).map f9))],rfl,rfl,aQ (ds:=[.lst ((cH c).map f9), .int j]) ?_ (zM Dz (List.mem_range.mp hj))⟩
  rw[Int.zero_add];rfl
 .exact(by decide:3 < 1000)
 rw[fK];exact h
end
end K18
end
section
namespace K18
open PySem PySem.Spec PyProof.Rows L2 L3 MT
section
variable {c:Nat} {ins:Aac} {gs:List Gt} {os:Aad} {S:aI} {k:Nat} {turned bad:List Int}
theorem VO:(va==Cm)=false:=by decide+kernel
theorem WM:(uU==Cm)=false:=by decide+kernel
theorem XF:(uU==va)=false:=by decide+kernel
theorem WZ:(qp==Cm)=false:=by decide+kernel
theorem Ws:(qp==va)=false:=by decide+kernel
theorem WY:(qp==uU)=false:=by decide+kernel
theorem GA{nt:D}:(dZ c nt).lookup Cm=some (.d nt):=by unfold dZ;rw [List.lookup_cons,beq_self_eq_true]
theorem Jx{nt:D}:(dZ c nt).lookup va=some (.d (nI (2 ^ c))):=by unfold dZ;rw [List.lookup_cons,VO,List.lookup_cons,beq_self_eq_true]
theorem BJ{nt:D}:(dZ c nt).lookup uU=some (.d (mI (2 ^ c) one)):=by unfold dZ;rw [List.lookup_cons,WM,List.lookup_cons,XF,List.lookup_cons,beq_self_eq_true]
theorem Eg{nt:D}:(dZ c nt).lookup qp=some (.d (.lst ((uj c).map (mI (2 ^ c))))):=by unfold dZ;rw [List.lookup_cons,WZ,List.lookup_cons,Ws,List.lookup_cons,WY,List.lookup_cons,beq_self_eq_true]
theorem FE:(uj c).length=c:=by unfold uj;simp
abbrev Wd(c:Nat)(ins:Aac)(gs:List Gt)(turned bad:List Int):List M:=Ek ins gs (uj c) turned bad
theorem Jd(m:Str)(nt:D)(h1:(m==Cm)=false)(h2:(m==va)=false)(h3:(m==uU)=false)(h4:(m==qp)=false):(dZ c nt).lookup m=none:=by unfold dZ;rw [List.lookup_cons,h1,List.lookup_cons,h2,List.lookup_cons,h3,List.lookup_cons,h4];rfl
theorem Fx(NO:eZ ins gs os)(hc:ins.length=c)(hS:C4 S)(hb:S[k]? =some (.ins 0 (dZ c (cg ins gs os)))){Q:V3->aI->Prop}(h:Q (.d (.lst (oq (2 ^ c) os (Wd c ins gs turned bad)))) S) :
 W3 (fO [.loc k, .d (.tup (turned.map .int)), .d (.tup (bad.map .int))] S) Q:=by
 have hz:sizeLine=16777216:=sizeLine_eq;unfold fO;refine pk hS (xh rfl ?_);simp only[cq,gW,List.map,List.length,List.replicate,List.cons_append,List.nil_append,Nat.reduceAdd,Nat.reduceSub];unfold jQ;have hl:(uj c).length=ins.length:=by rw[FE,hc]
 refine fE <| bZ <| av <| w_fld (k:=k) <| w_var (v:= .loc k) rfl ⟨_,_,rfl,hb,GA,?_⟩
 refine av <| bZ <| av <| w_fld (k:=k) <| w_var (v:= .loc k) rfl ⟨_,_,rfl,hb,GA,?_⟩
 refine av <| w_fld (k:=k) <| w_var (v:= .loc k) rfl ⟨_,_,rfl,hb,Eg,?_⟩
 refine av <| w_fld (k:=k) <| w_var (v:= .loc k) rfl ⟨_,_,rfl,hb,BJ,?_⟩
 refine av <| bQ (d:= .tup (turned.map .int)) rfl <| av <| bQ (d:= .tup (bad.map .int)) rfl <| bO ?_
 refine EM (.inl rfl) NO hl hS (bO ?_);refine IM NO.ho (fun x hx=>⟨(NO.o x hx).1,fun w hw=>by rw[yP hl];exact(NO.o x hx).2 w hw⟩) hS ?_
 exact⟨_,rfl,by unfold ei;rfl,⟨[],by simp⟩,_,by unfold res;rfl,h⟩
def Ii(N:Nat)(os:Aad)(ws:List M):List D:=os.map fun x=> .tup [mI N (r0 (tell ws x)),mI N (r1 (tell ws x))]
theorem qM(NO:eZ ins gs os)(hc:ins.length=c)(ho:∀x∈os,1<=x.2.length/\x.2.length<=3)(hS:C4 S)(hb:S[k]? =some (.ins 0 (dZ c (cg ins gs os)))){Q:V3->aI->Prop}(h:Q (.d (.lst (Ii (2 ^ c) os (Wd c ins gs turned [])))) S) :
 W3 (cE [.loc k, .d (.tup (turned.map .int))] S) Q:=by
 have hz:sizeLine=16777216:=sizeLine_eq;have hO:=NO.ho;unfold cE;refine pk hS (xh rfl ?_);simp only[cq,eH,List.map,List.length,List.replicate,List.cons_append,List.nil_append,Nat.reduceAdd,Nat.reduceSub];unfold gd;refine fE <| rZ (fun j ds S2=>S2=S/\ds=(Ii (2 ^ c) os (Wd c ins gs turned [])).take j) ?_
 refine BD <| sL (k:=k) <| w_var (v:= .loc k) rfl ⟨_,rfl,hb,Jd _ _ (by decide+kernel) (by decide+kernel) (by decide+kernel) (by decide+kernel),?_⟩
 refine av <| bQ (d:= .tup (turned.map .int)) rfl <| av <| bQ (d:= .tup (([]:List Int).map .int)) rfl <| bO ?_
 refine Fx NO hc hS hb ⟨_,rfl,?_,⟨rfl,by simp⟩,?_,?_⟩
 .rw [List.length_map,oq,List.length_map];omega
 .rintro j v ds S2 hv ⟨rfl,rfl⟩;rw[oq] at hv;obtain⟨x,hx,rfl⟩:=NT.wO hv;refine⟨[some (.d (.tup ((tell (Wd c ins gs turned []) x).map (mI (2 ^ c))))),some (.loc k)],rfl,Kl ?_⟩;rw[if_pos rfl];refine Be <| av <| bQ (d:= .tup ((tell (Wd c ins gs turned []) x).map (mI (2 ^ c)))) rfl <| av <| w_fld (k:=k) <| w_var (v:= .loc k) rfl ⟨_,_,rfl,hb,BJ,bO ⟨[.tup ((tell (Wd c ins gs turned []) x).map (mI (2 ^ c))),mI (2 ^ c) one],_,rfl,Aa ?_,_,rfl,rfl,?_⟩⟩
  .unfold tell;rw [List.length_map];exact ho x (List.mem_of_getElem? hx)
  .unfold Ii;rw[List.take_add_one,List.getElem?_map,hx];rfl
 .rintro ds S2 ⟨rfl,rfl⟩;rw[List.length_map,oq,List.length_map,List.take_of_length_le (by rw[Ii,List.length_map];exact Nat.le_refl _)]
  exact⟨_,rfl,by unfold ei;rfl,⟨[],by simp⟩,_,by unfold res;rfl,h⟩
theorem wD{nt:D}{f:M}(hc:c<=10)(hS:C4 S)(hb:S[k]? =some (.ins 0 (dZ c nt))){Q:V3->aI->Prop}(h:Q (.d (.lst (((List.range (2 ^ c)).filter f).map nI))) S) :
 W3 (dJ [.loc k, .d (mI (2 ^ c) f)] S) Q:=by
 have hz:sizeLine=16777216:=sizeLine_eq;have hp:2 ^ c<=1024:=Nat.pow_le_pow_right (by omega) hc
 unfold dJ;refine pk hS (xh rfl ?_);simp only[cq,d_,List.map,List.length,List.replicate,List.cons_append,List.nil_append,Nat.reduceAdd,Nat.reduceSub];unfold fQ;refine fE <| rZ (fun j ds S2=>S2=S/\ds=((List.range j).filter f).map nI) ?_
 refine qk <| w_fld (k:=k) <| w_var (v:= .loc k) rfl ⟨_,_,rfl,hb,Jx,2 ^ c,rfl,by omega,?_⟩
 have hlen:((cC 0 (2 ^ c)).map V3.d).length=2 ^ c:=by simp [cC]
 rw[hlen];refine⟨by omega,⟨rfl,rfl⟩,?_,?_⟩
 .rintro j v ds S2 hv ⟨rfl,rfl⟩;obtain⟨hj,rfl⟩:=NT.tj hv;refine⟨[some (.d (.int j)),some (.d (mI (2 ^ c) f))],rfl,pe (b:=f j) ?_ ?_⟩
  .refine dj (a:= .int (if decide (j < 2 ^ c) && f j then 1 else 0)) (b:= .int 1) (aQ (ds:=[mI (2 ^ c) f, .int j]) rfl Ld) rfl ?_
   rw[decide_eq_true hj,Bool.true_and];cases f j <;> rfl
  .rw [List.range_succ,List.filter_append,List.map_append];cases hf:f j with
   | true=>rw [if_pos rfl];exact bQ (d:=nI j) rfl ⟨_,rfl,rfl,by simp [hf]⟩
   | false=>rw [if_neg (by decide)];exact⟨rfl,by simp [hf]⟩
 .rintro ds S2 ⟨rfl,rfl⟩;exact⟨_,rfl,by unfold ei;rfl,⟨[],by simp⟩,_,by unfold res;rfl,h⟩
end
end K18
end
section
namespace K18
open PySem PySem.Spec PyProof.Rows L2 L3 MT
theorem DU(n:Nat):cC 0 n=(List.range n).map nI:=by
 unfold cC;refine List.map_congr_left fun i _=>?_
 show D.int (0+(i:Int))=D.int (i:Int);rw[Int.zero_add]
def d9(T:List Nat):D:= .tup (T.map nI)
theorem HC{ps:List Nat}{a:Nat}(ha:a < ps.length):LO (.lst (ps.map nI)) (some ((a+1:Nat):Int)) none= .ok (.lst ((ps.drop (a+1)).map nI)):=by
 show R.ok (D.lst (L2.cutD (ps.map nI) (some ((a+1:Nat):Int)) none))=_;congr 2;unfold L2.cutD;rw[List.length_map,HT.ph,HT.tG,Nat.min_eq_left (by omega),<-List.map_drop,<-List.map_take,List.take_of_length_le (by rw[List.length_drop];omega)]
theorem LP{ds es:List D}(h:ds.length+es.length<=sizeLine):qU (.tup ds) (.tup es)= .ok (.tup (ds++es)):=bH _ h
theorem sF:∀(n s:Nat) (ps:List Nat),s<=n->n<=3->ps.length<=100->dY (n+1) [.lst (ps.map nI), .int s]= .ok (.lst ((iU ps s).map d9))
 | n,0,ps,_,_,_=>by
   show wY j9 (kz (dY n)) _=_;unfold kz;exact dv (NT.lx (qT (dj (a:= .int 0) (b:= .int 0) rfl rfl rfl) (cO rfl)))
 | 0,s+1,ps,h,_,_=>by omega
 | n+1,s+1,ps,h,hn,hp=>by
   have hz:sizeLine=16777216:=sizeLine_eq;show wY j9 (kz (dY (n+1))) _=_;unfold kz;have hcl:(iU ps (s+1)).length<=100 ^ (s+1):=rS hp;have hpow:∀m,m<=3->(100:Nat) ^ m<=1000000:=fun m hm=>Nat.pow_le_pow_right (by omega) hm
   refine dv (cc (iL (dj (a:= .int (s+1:Nat)) (b:= .int 0) (k:=false) rfl rfl ?_) rfl) ?_)
   .show R.ok (D.bl (((s+1:Nat):Int)==0))=_;congr 2
   refine cc (IK (ds:=[]) rfl (by simp [fP,j9])) ?_
   let F:Nat->Aae:=fun i=>(List.range i).flatMap fun a=>(iU (ps.drop (a+1)) s).map (ps.getD a 0 ::·)
   have hF:∀i,i<=ps.length->(F i).length<=i*100 ^ s:=fun i hi=>by
    show((List.range i).flatMap fun a=>(iU (ps.drop (a+1)) s).map (ps.getD a 0 ::·)).length<=_
    rw[List.length_flatMap];refine Nat.le_trans (y7 (m:=100 ^ s) fun x hx=>?_) (by rw[List.length_map,List.length_range];exact Nat.le_refl _)
    obtain⟨a,_,rfl⟩:=List.mem_map.mp hx;rw[List.length_map];exact rS (by rw[List.length_drop];omega)
   have hFs:∀i,F (i+1)=F i++(iU (ps.drop (i+1)) s).map (ps.getD i 0 ::·):=fun i=>by
    show(List.range (i+1)).flatMap _=_;rw[List.range_succ,List.flatMap_append];simp [F]
   obtain⟨δ1,e1,a3,a4,a5,GH⟩:=qf (t:=nS 2 (dH (bR 3) (dH (bR 4) nQ))) (body:=mM (dY (n+1))) (ds:=dk (ps.map nI))
    (fun i δ=>∃a3 a4 a5,δ=[.val (.lst (ps.map nI)), .val (.int (s+1:Nat)), .bld ((F i).map d9),a3,a4,a5]) (δ:=[.val (.lst (ps.map nI)), .val (.int (s+1:Nat)), .bld [], .un, .un, .un]) ⟨.un, .un, .un,by simp [F]⟩ (by
      rintro i d δ hd ⟨a3,a4,a5,rfl⟩;have hv:((dk (ps.map nI)).map V3.d)[i]? =some (.d d):=by rw[List.getElem?_map,hd];rfl
      obtain⟨d0,M0,ed⟩:=vN hv;cases ed;obtain⟨x,hx,rfl⟩:=NT.A_ M0;have hil:=(List.getElem?_eq_some_iff.mp hx).1;have hxd:ps.getD i 0=x:=by rw[List.getD_eq_getElem?_getD,hx];rfl
      have hFi:=hF i (by omega)
      have hFb:i*100 ^ s<=100*100 ^ s:=Nat.mul_le_mul_right _ (by omega)
      have hp2:=hpow (s+1) (by omega)
      rw[Nat.pow_succ,Nat.mul_comm] at hp2;rw[show nS 2 (dH (bR 3) (dH (bR 4) nQ)) (.tup [.int i,nI x]) [.val (.lst (ps.map nI)), .val (.int (s+1:Nat)), .bld ((F i).map d9),a3,a4,a5]= .ok [.val (.lst (ps.map nI)), .val (.int (s+1:Nat)), .bld ((F i).map d9), .val (.int i), .val (nI x),a5] from rfl,R.aH]
      unfold mM;have ihc:=sF n s (ps.drop (i+1)) (by omega) (by omega) (by rw[List.length_drop];omega)
      have hdl:(iU (ps.drop (i+1)) s).length<=100 ^ s:=rS (by rw[List.length_drop];omega)
      obtain⟨dD,g8,c5,Pt⟩:=qf (t:=bR 5) (body:=mQ (dY (n+1))) (ds:=(iU (ps.drop (i+1)) s).map d9)
       (fun j δ=>∃c5,δ=[.val (.lst (ps.map nI)), .val (.int (s+1:Nat)), .bld ((F i++((iU (ps.drop (i+1)) s).take j).map (x ::·)).map d9), .val (.int i), .val (nI x),c5]) (δ:=[.val (.lst (ps.map nI)), .val (.int (s+1:Nat)), .bld ((F i).map d9), .val (.int i), .val (nI x),a5]) ⟨a5,by simp⟩ (by
         rintro j d δ hd ⟨c5,rfl⟩;obtain⟨T,hT,rfl⟩:=NT.A_ hd;have hjl:=(List.getElem?_eq_some_iff.mp hT).1;have hTl:=(wq (List.mem_of_getElem? hT)).1;refine⟨[.val (.lst (ps.map nI)), .val (.int (s+1:Nat)), .bld ((F i++((iU (ps.drop (i+1)) s).take (j+1)).map (x ::·)).map d9), .val (.int i), .val (nI x), .val (d9 T)],?_,⟨_,rfl⟩⟩
         generalize hL:(F i++((iU (ps.drop (i+1)) s).take j).map (x ::·)).map d9=L
         have hLl:L.length < sizeLine:=by
          rw[<-hL,List.length_map,List.length_append,List.length_map,List.length_take];omega
         rw[show bR 5 (d9 T) [.val (.lst (ps.map nI)), .val (.int (s+1:Nat)), .bld L, .val (.int i), .val (nI x),c5]= .ok [.val (.lst (ps.map nI)), .val (.int (s+1:Nat)), .bld L, .val (.int i), .val (nI x), .val (d9 T)] from rfl,R.aH]
         unfold mQ;rw[IB (d:=d9 (x ::T)) (ds:=L) (ay (a:= .tup [nI x]) (b:=d9 T) (cD rfl (by simp;omega)) rfl (LP (by rw[List.length_map];simp;omega))) rfl hLl,<-hL,List.take_add_one,hT]
         simp [d9])
      refine⟨_,wQ (ds:=(iU (ps.drop (i+1)) s).map d9) (zc (aQ (ds:=[.lst ((ps.drop (i+1)).map nI), .int s]) (aw (we (d:= .lst (ps.map nI)) (lo:=some ((i+1:Nat):Int)) (hi:=none) rfl (xN (ay (a:= .int i) (b:= .int 1) rfl rfl rfl)) rfl (HC hil)) (aw (ay (a:= .int (s+1:Nat)) (b:= .int 1) rfl rfl ?_) rfl)) ihc)) g8,?_⟩
      .show R.ok (D.int (((s+1:Nat):Int) - 1))=_;congr 2;omega
      .rw [List.length_map,List.take_length] at Pt;refine⟨.val (.int i), .val (nI x),c5,?_⟩;rw[Pt,hFs,hxd])
   refine cc (wQ (ds:=dk (ps.map nI)) rfl e1) ?_;have hlen:(dk (ps.map nI)).length=ps.length:=by simp [dk]
   rw[hlen] at GH;subst GH;exact cO rfl
end K18
end
section
namespace K18
open PySem PySem.Spec PyProof.Rows L2 L3 MT
section
variable {c:Nat} {ins:Aac} {gs:List Gt} {os:Aad} {S:aI} {k:Nat} {turned:List Int} {safe:Bool}
abbrev n0:=Str.ofString "bench"
abbrev sj:=Str.ofString "plain"
abbrev oW:=Str.ofString "unsure"
def kW(gs:List Gt):List Nat:=(List.range gs.length).filter fun i=>match gs[i]? with | some g=>!g.2.2 | none=>false
def iu(c:Nat)(ins:Aac)(gs:List Gt)(os:Aad)(b:Nat):List (Str × V3):=[(n0, .loc b),(sj, .d (.lst (Ii (2 ^ c) os (Wd c ins gs [] [])))),(oW, .d (.lst ((kW gs).map nI)))]
theorem Xz:(sj==n0)=false:=by decide+kernel
theorem W_:(oW==n0)=false:=by decide+kernel
theorem V7:(oW==sj)=false:=by decide+kernel
theorem x8{b:Nat}:(iu c ins gs os b).lookup n0=some (.loc b):=by unfold iu;rw [List.lookup_cons,beq_self_eq_true]
theorem Fu{b:Nat}:(iu c ins gs os b).lookup sj=some (.d (.lst (Ii (2 ^ c) os (Wd c ins gs [] [])))):=by unfold iu;rw [List.lookup_cons,Xz,List.lookup_cons,beq_self_eq_true]
theorem Lo{b:Nat}:(iu c ins gs os b).lookup oW=some (.d (.lst ((kW gs).map nI))):=by unfold iu;rw [List.lookup_cons,W_,List.lookup_cons,V7,List.lookup_cons,beq_self_eq_true]
theorem OP{b:Nat}(m:Str)(h1:(m==n0)=false)(h2:(m==sj)=false)(h3:(m==oW)=false):(iu c ins gs os b).lookup m=none:=by unfold iu;rw [List.lookup_cons,h1,List.lookup_cons,h2,List.lookup_cons,h3];rfl
def TS(S:aI)(c:Nat)(ins:Aac)(gs:List Gt)(os:Aad):aI:=S++[.ins 1 (iu c ins gs os (S.length+1)), .ins 0 (dZ c (cg ins gs os))]
theorem My{S:aI}(hS:Flat S){x y:SO}(hx:pI (S.length+2) x=true)(hy:pI (S.length+2) y=true):C4 (S++[x,y]):=fun o ho=>by
 rw[show(S++[x,y]).length=S.length+2 by simp]
 rcases List.mem_append.mp ho with q | q
 .exact hS o q _
 .simp only[List.mem_cons,List.not_mem_nil,or_false] at q;rcases q with rfl | rfl
  .exact hx
  .exact hy
theorem Gs{δ:au}(hg:gs.length < 1000)(h1:ag 1 δ= .ok (cg ins gs os)):iJ (jP (e2 b_ (ag 1) (eC (.int 1)))) (nS 2 (dH (bR 0) (dH (bR 1) nQ))) (ur (uw (e2 b_ (ag 1) (eC (.int 2))))) (ag 0) [(Str.ofString "place"),(Str.ofString "gate")] [] δ= .ok ((kW gs).map nI):=by
 have hz:sizeLine=16777216:=sizeLine_eq;refine eT (ds:=dk (gs.map dO)) (K3 (ay (a:=cg ins gs os) (b:= .int 1) h1 rfl rfl)) (by simp [dk];omega) ?_
 have e:dk (gs.map dO)=(List.range gs.length).map fun i=> .tup [.int i,dO (gs.getD i (0,[],false))]:=by
  refine List.ext_getElem? fun i=>?_
  rw[List.getElem?_map,dk,List.getElem?_map,List.getElem?_zipIdx,List.getElem?_map];by_cases q:i < gs.length
  .rw [List.getElem?_eq_getElem q,List.getElem?_range q];show some (D.tup [.int ((0+i:Nat):Int),dO gs[i]])=some (D.tup [.int i,dO (gs.getD i (0,[],false))]);rw[Nat.zero_add,List.getD_eq_getElem?_getD,List.getElem?_eq_getElem q];rfl
  .rw [List.getElem?_eq_none (by omega),List.getElem?_eq_none (by simp;omega)];rfl
 rw[e];unfold kW;refine NT.lC (fun i:Nat=>match gs[i]? with | some g=>!g.2.2 | none=>false) (fun i:Nat=>D.tup [.int i,dO (gs.getD i (0,[],false))]) nI fun i hi=>?_
 rw[List.mem_range] at hi;refine⟨[.val (.int i), .val (dO (gs.getD i (0,[],false)))],rfl,?_,fun _=>rfl⟩
 rw[List.getElem?_eq_getElem hi,List.getD_eq_getElem?_getD,List.getElem?_eq_getElem hi];rfl
theorem Fd(NO:eZ ins gs os)(hc:ins.length=c)(Dz:c<=10)(ho:∀x∈os,1<=x.2.length/\x.2.length<=3)(hS:Flat S){Q:V3->aI->Prop}(h:Q (.d .cR) (TS S c ins gs os)) :
 W3 (cZ [.loc S.length, .d (cg ins gs os)] (S++[.ins 1 []])) Q:=by
 have hz:sizeLine=16777216:=sizeLine_eq;unfold cZ;refine NM rfl ?_;simp only[cq,eJ,List.map,List.length,List.replicate,List.cons_append,List.nil_append,Nat.reduceAdd,Nat.reduceSub];unfold gn;have l1:(S++[SO.ins 1 []]).length=S.length+1:=by simp
 have g0:∀(x y:SO),(S++[x,y])[S.length]? =some x:=fun x y=>by rw[List.getElem?_append_right (Nat.le_refl _),Nat.sub_self];rfl
 have g1:∀(x y:SO),(S++[x,y])[S.length+1]? =some y:=fun x y=>by rw[List.getElem?_append_right (by omega),show S.length+1 - S.length=1 by omega];rfl
 have st:∀(x y z:SO),(S++[x,y]).set S.length z=S++[z,y]:=fun x y z=>by rw[List.set_append_right _ _ (Nat.le_refl _),Nat.sub_self];rfl
 have ap:∀(x y:SO),S++[x]++[y]=S++[x,y]:=fun x y=>by simp
 refine aU <| iX (k:=S.length) <| Gv <| av <| bQ (d:=cg ins gs os) rfl <| bO <| IX hc Dz ?_ ⟨rfl,?_⟩
 .rw [ap];exact My hS rfl rfl
 rw[ap];refine w_var (v:= .loc S.length) rfl ⟨_,rfl,g0 _ _,by simp,_,rfl,?_⟩
 rw[st,l1];have hcl:∀fs:List (Str × V3),oz (S.length+2) (fs.map (·.2))=true->C4 (S++[.ins 1 fs, .ins 0 (dZ c (cg ins gs os))]):=fun fs hf=>My hS hf rfl
 refine aU <| iX (k:=S.length) <| sL (k:=S.length+1) <| w_fld (k:=S.length) <| w_var (v:= .loc S.length) rfl ⟨_,_,rfl,g0 _ _,(by show List.lookup n0 [(n0,V3.loc (S.length+1))]=_;rw [List.lookup_cons,beq_self_eq_true]),_,rfl,g1 _ _,Jd _ _ (by decide+kernel) (by decide+kernel) (by decide+kernel) (by decide+kernel),?_⟩
 refine av <| bQ (d:= .tup (([]:List Int).map .int)) rfl <| bO <| qM NO hc ho (hcl _ ?_) (g1 _ _) ?_
 .show(decide (S.length+1 < S.length+2) && true)=true;rw[decide_eq_true (by omega)];rfl
 refine w_var (v:= .loc S.length) rfl ⟨_,rfl,g0 _ _,(by decide:1 < 1000),_,rfl,?_⟩
 rw[st];refine iX (k:=S.length) <| bQ (d:= .lst ((kW gs).map nI)) (c9 (Gs NO.hg rfl)) <| w_var (v:= .loc S.length) rfl ⟨_,rfl,g0 _ _,?_,_,rfl,?_⟩
 .exact(by decide:2 < 1000)
 rw[st];exact h
def nR(safe:Bool):Str:=if safe then Str.ofString "safe" else Str.ofString "right"
def pt(ws:List M)(x:Str × List Nat)(p:Nat):Bool × Bool:=NU ((tell ws x).map (· p))
def Bz(safe:Bool)(c:Nat)(ins:Aac)(gs:List Gt)(os:Aad)(turned:List Int):M:=fun p=>os.any fun x=>brk safe (pt (Wd c ins gs [] []) x p) (pt (Wd c ins gs turned []) x p)
theorem BU{b:Nat}(NO:eZ ins gs os)(hc:ins.length=c)(ho:∀x∈os,1<=x.2.length/\x.2.length<=3)(hS:C4 S)(hk:S[k]? =some (.ins 1 (iu c ins gs os b)))(hb:S[b]? =some (.ins 0 (dZ c (cg ins gs os)))){Q:V3->aI->Prop}
 (h:Q (.d (mI (2 ^ c) (Bz safe c ins gs os turned))) S):W3 (dM [.loc k, .d (.tup (turned.map .int)), .d (.str (nR safe))] S) Q:=by
 have hz:sizeLine=16777216:=sizeLine_eq;unfold dM;refine pk hS (xh rfl ?_);simp only[cq,ef,List.map,List.length,List.replicate,List.cons_append,List.nil_append,Nat.reduceAdd,Nat.reduceSub];unfold fN;have h0:D.int 0=mI (2 ^ c) fun _=>false:=by
  unfold mI;rw[xY.mpr fun _ _=>rfl];rfl
 refine aU <| br (by simp) <| bQ (d:=mI (2 ^ c) fun _=>false) (by rw[<-h0];rfl) ⟨_,rfl,?_⟩
 simp only[List.set];refine aU <| iK <| O8 <| w_fld (k:=k) <| w_var (v:= .loc k) rfl ⟨_,_,rfl,hk,Fu,?_⟩
 refine sL (k:=b) <| w_fld (k:=k) <| w_var (v:= .loc k) rfl ⟨_,_,rfl,hk,x8,_,rfl,hb,Jd _ _ (by decide+kernel) (by decide+kernel) (by decide+kernel) (by decide+kernel),?_⟩
 refine av <| bQ (d:= .tup (turned.map .int)) rfl <| bO <| qM NO hc ho hS hb ⟨_,_,_,_,rfl,rfl,rfl,rfl,?_⟩
 have hzip:xo (Ii (2 ^ c) os (Wd c ins gs [] [])) (Ii (2 ^ c) os (Wd c ins gs turned []))=os.map fun x=> .tup [.tup [mI (2 ^ c) (r0 (tell (Wd c ins gs [] []) x)),mI (2 ^ c) (r1 (tell (Wd c ins gs [] []) x))], .tup [mI (2 ^ c) (r0 (tell (Wd c ins gs turned []) x)),mI (2 ^ c) (r1 (tell (Wd c ins gs turned []) x))]]:=by
  unfold xo Ii;rw[List.zip_map',List.map_map];rfl
 rw[hzip];refine(cF (fun i δ S2=>S2=S/\∃a4 a5,δ=[some (.loc k),some (.d (.tup (turned.map .int))),some (.d (.str (nR safe))),some (.d (mI (2 ^ c) fun p=>(os.take i).any fun x=>brk safe (pt (Wd c ins gs [] []) x p) (pt (Wd c ins gs turned []) x p))),a4,a5])
  ⟨rfl,none,none,rfl⟩ ?_).mono fun o S2 ⟨dD,g8,G_,a4,a5,hδ⟩=>⟨dD,g8,?_⟩
 .rintro i v δ S2 hv ⟨rfl,a4,a5,rfl⟩;obtain⟨x,hx,rfl⟩:=NT.wO hv;generalize hm:(fun p=>(os.take i).any fun x=>brk safe (pt (Wd c ins gs [] []) x p) (pt (Wd c ins gs turned []) x p))=m
  have hnext:(fun p=>(os.take (i+1)).any fun x=>brk safe (pt (Wd c ins gs [] []) x p) (pt (Wd c ins gs turned []) x p))=fun p=>m p || brk safe (pt (Wd c ins gs [] []) x p) (pt (Wd c ins gs turned []) x p):=by
   funext p;rw[List.take_add_one,hx,List.any_append,<-hm];simp
  rw[hnext];refine⟨[some (.loc k),some (.d (.tup (turned.map .int))),some (.d (.str (nR safe))),some (.d (mI (2 ^ c) m)),some (.d (.tup [mI (2 ^ c) (r0 (tell (Wd c ins gs [] []) x)),mI (2 ^ c) (r1 (tell (Wd c ins gs [] []) x))])),some (.d (.tup [mI (2 ^ c) (r0 (tell (Wd c ins gs turned []) x)),mI (2 ^ c) (r1 (tell (Wd c ins gs turned []) x))]))],rfl,?_⟩;unfold iH;refine l4 <| pe (b:=safe) (dj (a:= .str (nR safe)) (b:= .str (Str.ofString "safe")) rfl rfl ?_) ?_
  .show R.ok (D.bl (nR safe==Str.ofString "safe"))=_;congr 2;cases safe <;> decide+kernel
  cases safe with
  | true=>
    rw[if_pos rfl];refine br (by simp) <| bQ (ay (ay (a:=mI (2 ^ c) m) rfl (ay (ay rfl rfl B8) (ay rfl rfl EV) (sg _ _ _)) (yL _ _ _)) (ay (ay rfl rfl EV) (ay rfl rfl B8) (sg _ _ _)) (yL _ _ _)) ⟨_,rfl,rfl,some (.d (.tup [mI (2 ^ c) (r0 (tell (Wd c ins gs [] []) x)),mI (2 ^ c) (r1 (tell (Wd c ins gs [] []) x))])),some (.d (.tup [mI (2 ^ c) (r0 (tell (Wd c ins gs turned []) x)),mI (2 ^ c) (r1 (tell (Wd c ins gs turned []) x))])),?_⟩
    simp only[List.set];congr 6;refine x3 fun p _=>?_
    rw[Bool.or_assoc];rfl
  | false=>
    rw[if_neg (by decide)]
    refine br (by simp) <| bQ (ay (ay (a:=mI (2 ^ c) m) rfl (ay (ay rfl rfl B8) (ay rfl rfl B8) (BL _ _ _)) (yL _ _ _)) (ay (ay rfl rfl EV) (ay rfl rfl EV) (BL _ _ _)) (yL _ _ _)) ⟨_,rfl,rfl,some (.d (.tup [mI (2 ^ c) (r0 (tell (Wd c ins gs [] []) x)),mI (2 ^ c) (r1 (tell (Wd c ins gs [] []) x))])),some (.d (.tup [mI (2 ^ c) (r0 (tell (Wd c ins gs turned []) x)),mI (2 ^ c) (r1 (tell (Wd c ins gs turned []) x))])),?_⟩
    simp only[List.set];congr 6;refine x3 fun p _=>?_
    rw[Bool.or_assoc];rfl
 rw[List.length_map,List.length_map,List.take_length] at hδ;subst hδ G_;exact fE <| bQ (d:=mI (2 ^ c) (Bz safe c ins gs os turned)) rfl ⟨_,rfl,by unfold ei;rfl,⟨[],by simp⟩,_,by unfold res;rfl,h⟩
end
end K18
end
section
namespace K18
open PySem PySem.Spec PyProof.Rows L2 L3 MT
def nZ(ps:List Nat):List Int:=ps.map fun(n:Nat)=>(n:Int)
theorem LC(ps:List Nat):(nZ ps).map D.int=ps.map nI:=by unfold nZ;rw [List.map_map];rfl
theorem wU(ps:List Nat)(i:Nat):(nZ ps).contains (i:Int)=ps.contains i:=by
 rw[Bool.eq_iff_iff];unfold nZ;simp only[List.contains_iff_mem,List.mem_map];exact⟨fun⟨a,ha,e⟩=>(by rw[<-Int.ofNat_inj.mp e];exact ha),fun h=>⟨i,h,rfl⟩⟩
section
variable {c:Nat} {ins:Aac} {gs:List Gt} {os:Aad} {S:aI} {k:Nat} {safe:Bool}
def fJ(T:List Nat)(p:Nat):D:= .tup [.str (Str.ofString "breaks"),d9 T,nI p]
def dG:D:= .tup [.str (Str.ofString "bears")]
def eQ(safe:Bool)(c:Nat)(ins:Aac)(gs:List Gt)(os:Aad)(T:List Nat):Option D:=
 ((List.range (2 ^ c)).filter (Bz safe c ins gs os (nZ T))).head?.map (fJ T)
def bears(safe:Bool)(c:Nat)(ins:Aac)(gs:List Gt)(os:Aad)(m:Nat):D:=
 ((List.range (m+1)).findSome? fun s=>(iU (kW gs) s).findSome? (eQ safe c ins gs os)).getD dG
theorem Ij:(kW gs).length<=gs.length:=by
 unfold kW;exact Nat.le_trans (List.length_filter_le _ _) (by rw[List.length_range];exact Nat.le_refl _)
theorem vg{f:M}{N:Nat}:jo N f=0↔((List.range N).filter f).head? =none:=by
 rw[xY,List.head?_eq_none_iff,List.filter_eq_nil_iff];exact⟨fun h i hi=>by rw[h i (List.mem_range.mp hi)];decide,fun h i hi=>by have:=h i (List.mem_range.mpr hi);cases hf:f i with | false=>rfl | true=>exact absurd hf this⟩
theorem FF{VD sz a6:Option V3}{m:V3}{T:List Nat}(NO:eZ ins gs os)(hc:ins.length=c)(Dz:c<=10)(ho:∀x∈os,1<=x.2.length/\x.2.length<=3)(hS:Flat S) :
 W3 (qg [VD,some m,some (.d (.str (nR safe))),some (.loc S.length),sz,some (.d (d9 T)),a6] (TS S c ins gs os)) fun o S1=>S1=TS S c ins gs os/\(match (eQ safe c ins gs os T).map V3.d with | some v=>o= .rt v | none=>∃dD,o= .nx dD/\∃b6,dD=[VD,some m,some (.d (.str (nR safe))),some (.loc S.length),sz,some (.d (d9 T)),b6]):=by
 have hz:sizeLine=16777216:=sizeLine_eq;have hk:(TS S c ins gs os)[S.length]? =some (.ins 1 (iu c ins gs os (S.length+1))):=by unfold TS;rw [List.getElem?_append_right (Nat.le_refl _),Nat.sub_self];rfl
 have hb:(TS S c ins gs os)[S.length+1]? =some (.ins 0 (dZ c (cg ins gs os))):=by unfold TS;rw [List.getElem?_append_right (by omega),show S.length+1 - S.length=1 by omega];rfl
 have hcl:C4 (TS S c ins gs os):=My hS (by
  show(decide (S.length+1 < S.length+2) && true)=true;rw[decide_eq_true (by omega)];rfl) rfl
 unfold qg;refine aU <| br (by simp) <| sL (k:=S.length) <| w_var (v:= .loc S.length) rfl ⟨_,rfl,hk,OP _ (by decide+kernel) (by decide+kernel) (by decide+kernel),?_⟩
 refine av <| bQ (d:= .tup ((nZ T).map .int)) (by rw[LC];rfl) <| av <| bQ (d:= .str (nR safe)) rfl <| bO <| BU NO hc ho hcl hk hb ⟨_,rfl,?_⟩
 simp only[List.set];generalize hf:Bz safe c ins gs os (nZ T)=f;have htry:eQ safe c ins gs os T=((List.range (2 ^ c)).filter f).head?.map (fJ T):=by unfold eQ;rw [hf]
 refine l4 <| pe (b:=!(decide (jo (2 ^ c) f=0))) (dj (a:=mI (2 ^ c) f) (b:= .int 0) rfl rfl ?_) ?_
 .show R.ok (D.bl (!((jo (2 ^ c) f:Int)==0)))=_;congr 3;by_cases q:jo (2 ^ c) f=0
  .rw [q];rfl
  .rw [decide_eq_false q];exact beq_eq_false_iff_ne.mpr (by omega)
 cases hh:((List.range (2 ^ c)).filter f).head? with
 | none=>
   rw[htry,hh,decide_eq_true (vg.mpr hh),if_neg (by decide)]
   exact iA ⟨rfl,_,rfl,_,rfl⟩
 | some p=>
   have Dl:¬jo (2 ^ c) f=0:=fun q=>by rw[vg.mp q] at hh;cases hh
   rw[htry,hh,decide_eq_false Dl,if_pos (by decide)]
   refine fE <| BM <| av <| bQ (d:= .str (Str.ofString "breaks")) rfl <| av <| bQ (d:=d9 T) rfl <| av <| C5 <| sL (k:=S.length+1) <| w_fld (k:=S.length) <| w_var (v:= .loc S.length) rfl ⟨_,_,rfl,hk,x8,_,rfl,hb,Jd _ _ (by decide+kernel) (by decide+kernel) (by decide+kernel) (by decide+kernel),?_⟩
   refine av <| bQ (d:=mI (2 ^ c) f) rfl <| bO <| wD Dz hcl hb <| bQ (d:= .int 0) rfl ⟨_,_,nI p,rfl,rfl,?_,bO ⟨by simp;omega,rfl,rfl⟩⟩
   refine jU ?_;obtain⟨r,hr⟩:∃r,(List.range (2 ^ c)).filter f=p ::r:=by
    cases q:(List.range (2 ^ c)).filter f with
    | nil=>rw [q] at hh;cases hh
    | cons a r=>rw [q] at hh;cases hh;exact⟨r,rfl⟩
   rw[hr,jk (by omega) (by simp)]
   rfl
theorem yJ{m:Nat}(NO:eZ ins gs os)(hc:ins.length=c)(Dz:c<=10)(ho:∀x∈os,1<=x.2.length/\x.2.length<=3)(hg:gs.length<=100)(hm:m<=3)(hS:Flat S){Q:V3->aI->Prop}(h:Q (.d (bears safe c ins gs os m)) S) :
 W3 (cA [.d (cg ins gs os), .d (nI m), .d (.str (nR safe))] S) Q:=by
 have hz:sizeLine=16777216:=sizeLine_eq;have hk:(TS S c ins gs os)[S.length]? =some (.ins 1 (iu c ins gs os (S.length+1))):=by unfold TS;rw [List.getElem?_append_right (Nat.le_refl _),Nat.sub_self];rfl
 unfold cA;refine pk hS.clo (xh rfl ?_);simp only[cq,rT,List.map,List.length,List.replicate,List.cons_append,List.nil_append,Nat.reduceAdd,Nat.reduceSub];unfold wR;refine aU <| br (by simp) <| Gv <| av <| bQ (d:=cg ins gs os) rfl <| bO <| Fd NO hc Dz ho hS ⟨rfl,_,rfl,?_⟩
 simp only[List.set];refine i8 <| iK <| rG (ds:=(List.range (m+1)).map nI) ?_ ?_
 .rw [<-DU];exact jt (n:=m+1) (ay (a:=nI m) (b:= .int 1) rfl rfl rfl) (by omega)
 rw[List.map_map];refine(ox (S:=TS S c ins gs os) (V3.d ∘ nI) (fun s=>((iU (kW gs) s).findSome? (eQ safe c ins gs os)).map V3.d) (fun δ=>∃a4 a5 a6,δ=[some (.d (cg ins gs os)),some (.d (nI m)),some (.d (.str (nR safe))),some (.loc S.length),a4,a5,a6])
  ⟨_,_,_,rfl⟩ ?_).mono fun o S1 ⟨e1,h1⟩=>?_
 .rintro s hs δ ⟨a4,a5,a6,rfl⟩;rw[List.mem_range] at hs;have hul:(kW gs).length<=100:=Nat.le_trans Ij hg;have MJ:dY 4 [.lst ((kW gs).map nI), .int s]= .ok (.lst ((iU (kW gs) s).map d9)):=sF 3 s (kW gs) (by omega) (by omega) hul
  refine⟨[some (.d (cg ins gs os)),some (.d (nI m)),some (.d (.str (nR safe))),some (.loc S.length),some (.d (nI s)),a5,a6],rfl,?_⟩;unfold uT;refine iK <| BD <| Be <| av <| w_fld (k:=S.length) <| w_var (v:= .loc S.length) rfl ⟨_,_,rfl,hk,Lo,av <| bQ (d:= .int s) rfl <| bO ⟨[.lst ((kW gs).map nI), .int s],_,rfl,MJ,_,rfl,?_⟩⟩
  rw[List.map_map];refine(ox (S:=TS S c ins gs os) (V3.d ∘ d9) (fun T=>(eQ safe c ins gs os T).map V3.d) (fun δ=>∃a5 a6,δ=[some (.d (cg ins gs os)),some (.d (nI m)),some (.d (.str (nR safe))),some (.loc S.length),some (.d (nI s)),a5,a6])
   ⟨_,_,rfl⟩ ?_).mono fun o S1 ⟨e1,h1⟩=>⟨e1,?_⟩
  .rintro T hT δ ⟨a5,a6,rfl⟩;refine⟨[some (.d (cg ins gs os)),some (.d (nI m)),some (.d (.str (nR safe))),some (.loc S.length),some (.d (nI s)),some (.d (d9 T)),a6],rfl,?_⟩;refine(FF NO hc Dz ho hS).mono fun o S1 ⟨e1,h1⟩=>⟨e1,?_⟩
   cases htt:eQ safe c ins gs os T with
   | none=>rw [htt] at h1;obtain⟨dD,g8,b6,e3⟩:=h1;exact⟨dD,g8,_,b6,e3⟩
   | some d=>rw [htt] at h1;exact h1
  .have hfs:(iU (kW gs) s).findSome? (fun T=>(eQ safe c ins gs os T).map V3.d)=((iU (kW gs) s).findSome? (eQ safe c ins gs os)).map V3.d:=by
    rw[List.map_findSome?];rfl
   rw[hfs] at h1;cases htt:(iU (kW gs) s).findSome? (eQ safe c ins gs os) with
   | none=>rw [htt] at h1;obtain⟨dD,g8,b5,b6,e3⟩:=h1;exact⟨dD,g8,_,b5,b6,e3⟩
   | some d=>rw [htt] at h1;exact h1
 .subst e1;have hfs:(List.range (m+1)).findSome? (fun s=>((iU (kW gs) s).findSome? (eQ safe c ins gs os)).map V3.d)=((List.range (m+1)).findSome? fun s=>(iU (kW gs) s).findSome? (eQ safe c ins gs os)).map V3.d:=by
   rw[List.map_findSome?];rfl
  rw[hfs] at h1;unfold bears at h;cases htt:(List.range (m+1)).findSome? fun s=>(iU (kW gs) s).findSome? (eQ safe c ins gs os) with
  | none=>
    rw[htt] at h1 h;obtain⟨dD,rfl,b4,b5,b6,rfl⟩:=h1;exact fE <| bQ (d:=dG) rfl ⟨_,rfl,by unfold ei;rfl,⟨_,rfl⟩,_,by unfold res;rfl,h⟩
  | some d=>
    rw[htt] at h1 h;subst h1;exact⟨_,rfl,by unfold ei;rfl,⟨_,rfl⟩,_,by unfold res;rfl,h⟩
end
end K18
end
section
namespace K18
open PySem PySem.Spec PyProof.Rows L2 L3 MT
abbrev G9:Str:=Str.ofString "abcdefghijklmnopqrstuvwxyz"
abbrev nY:List Str:=[Str.ofString "in",Str.ofString "gate",Str.ofString "sure",Str.ofString "out",Str.ofString "not",Str.ofString "and",Str.ofString "or",Str.ofString "xor",Str.ofString "vote"]
def cB(i:Nat):Str:=⟨#[97+i]⟩
theorem Cb:G9.cps.toList=(List.range 26).map (97+·):=by decide+kernel
theorem IT:G9.length=26:=by decide+kernel
theorem Fs{i:Int}(h0:0<=i)(h:i < 26):b_ (.str G9) (.int i)= .ok (.str (cB i.toNat)):=by
 have hz:sizeLine=16777216:=sizeLine_eq;refine DC (by rw[IT];omega) ?_
 rw[Cb];rw[jk h0 (by simp;omega)]
 simp
theorem Fj:∀i:Nat,i < 26->Txt.find G9 (cB i)=(i:Int):=by decide+kernel
theorem fD(i:Nat):(cB i).length=1:=rfl
theorem m7(a b:Str):(a++b).length=a.length+b.length:=Str.length_append a b
theorem IY(p:Str)(i:Nat)(hp:p.length < 1000):b_ (.str (p++cB i)) (.int (-1))= .ok (.str (cB i)):=by
 have hz:sizeLine=16777216:=sizeLine_eq;refine DC (by rw[m7,fD];omega) ?_
 rw[rL];unfold rn yT;have hl:(p.cps.toList++(cB i).cps.toList).length=p.cps.toList.length+1:=by rw[List.length_append];rfl
 rw[if_neg (by omega),hl,if_pos (by omega)]
 show(p.cps.toList++(cB i).cps.toList)[((-1:Int)+((p.cps.toList.length+1:Nat):Int)).toNat]? =_;rw[show((-1:Int)+((p.cps.toList.length+1:Nat):Int)).toNat=p.cps.toList.length by omega,List.getElem?_append_right (Nat.le_refl _),Nat.sub_self]
 rfl
theorem Gj(p:Str)(i:Nat):Txt.slice (p++cB i) none (some (-1))=p:=by
 have h:=slice_closes_to_neg (x:=p++cB i) (j:= -1) (k:=p.length) (by omega) (by rw[m7,fD];omega) (by rw[m7,fD];omega)
 have e:=beq_iff_eq.mp h;rw[e];refine HX ?_;show((p++cB i).cps.toList.drop 0).take ((p.length:Int) - 0).toNat=_;rw[rL,List.drop_zero,show((p.length:Int) - 0).toNat=p.cps.toList.length by simp [Str.length],List.take_left]
theorem JH{p:Str}{i j:Nat}(h:p++cB i=p++cB j):i=j:=by
 have h1:(p++cB i).cps.toList=(p++cB j).cps.toList:=by rw[h]
 rw[rL,rL] at h1;have h2:[97+i]=[97+j]:=List.append_cancel_left h1;have h3:97+i=97+j:=by simpa using h2
 omega
theorem BY(ss:List Str)(hs:ss.length<=16)(p:Str)(c:Nat):∃t,t < 26/\¬(p++cB ((c+t) % 26))∈ss++nY:=by
 refine Classical.byContradiction fun hn=>?_
 have all:∀x∈(List.range 26).map (fun t=>p++cB ((c+t) % 26)),x∈ss++nY:=fun x hx=>by
  obtain⟨t,ht,rfl⟩:=List.mem_map.mp hx;rw[List.mem_range] at ht;refine Classical.byContradiction fun h=>hn ⟨t,ht,h⟩
 have nd:((List.range 26).map (fun t=>p++cB ((c+t) % 26))).Nodup:=by
  refine List.pairwise_map.mpr (List.Pairwise.imp_of_mem ?_ List.nodup_range);intro a b ha hb pV h;rw[List.mem_range] at ha hb;have:=JH h;exact pV (by omega)
 have:=L2.E_ _ _ nd all;rw[List.length_map,List.length_range,List.length_append] at this;have hb:nY.length=9:=rfl;omega
def jO(k n:Nat)(many:V3)(kk nm j:Option V3):DE:=[some (.loc k),some many,some (.d (.str G9)),some (.d (.lst (nY.map .str))),some (.loc n),kk,nm,j]
theorem AM(x:Str)(ss:List Str):u0 (.str x) (.lst (ss.map .str))= .ok (.bl (ss.contains x)):=by
 show((match strs? (ss.map D.str) with | some tt=>R.ok (tt.contains x) | none=> .no)).bind (fun b=>R.ok (D.bl b))=_
 rw[L2.strs_map];rfl
theorem HS{k n:Nat}{many:V3}{kk j:Option V3}{S:aI}{ss:List Str}{x:Str}(e:S[n]? =some (.lst (ss.map .str))) :
 bT (CK (b2 u0 (ag 6) (ag 4)) (b2 u0 (ag 6) (ag 3))) (jO k n many kk (some (.d (.str x))) j) S= .ok (decide (x∈ss++nY)) S:=by
 have h4:(bK S (jO k n many kk (some (.d (.str x))) j))[4]? =some (.val (.lst (ss.map .str))):=by
  unfold bK jO;show some (match res S (.loc n) with | some d=>Sl.val d | none=> .un)=_
  unfold res;simp only[e]
 have h3:(bK S (jO k n many kk (some (.d (.str x))) j))[3]? =some (.val (.lst (nY.map .str))):=rfl;have h6:(bK S (jO k n many kk (some (.d (.str x))) j))[6]? =some (.val (.str x)):=rfl;unfold bT;generalize bK S (jO k n many kk (some (.d (.str x))) j)=δ at h3 h4 h6;have e1:b2 u0 (ag 6) (ag 4) δ= .ok (ss.contains x):=dj (a:= .str x) (b:= .lst (ss.map .str)) (by unfold ag;rw [h6]) (by unfold ag;rw [h4]) (AM _ _)
 have e3:b2 u0 (ag 6) (ag 3) δ= .ok (nY.contains x):=dj (a:= .str x) (b:= .lst (nY.map .str)) (by unfold ag;rw [h6]) (by unfold ag;rw [h3]) (AM _ _)
 have:CK (b2 u0 (ag 6) (ag 4)) (b2 u0 (ag 6) (ag 3)) δ= .ok (decide (x∈ss++nY)):=by
  unfold CK;rw[e1,R.aH,e3];by_cases h:x∈ss
  .rw [if_pos (by simpa using h),decide_eq_true (List.mem_append_left _ h)]
  .rw [if_neg (by simpa using h)]
   congr 1;by_cases h2:x∈nY
   .rw [decide_eq_true (List.mem_append_right _ h2)];simpa using h2
   .rw [decide_eq_false (fun z=>(List.mem_append.mp z).elim h h2)];simpa using h2
 rw[this];rfl
theorem Jc{k n:Nat}{many:V3}{kk j:Option V3}{S:aI}{p:Str}{c:Nat}(hp:p.length < 500)(hc:c < 26) :
 W3 (gY (jO k n many kk (some (.d (.str (p++cB c)))) j) S) fun o S1=>o= .nx (jO k n many kk (some (.d (.str (p++cB ((c+1) % 26))))) j)/\S1=S:=by
 have hz:sizeLine=16777216:=sizeLine_eq;unfold gY;refine br (by unfold jO;simp only[List.length_cons,List.length_nil];omega) (bQ (d:= .str (p++cB ((c+1) % 26))) ?_ ⟨rfl,rfl⟩)
 refine ay (a:= .str p) (b:= .str (cB ((c+1) % 26))) ?_ ?_ (AR (by rw[fD];omega))
 .refine we (d:= .str (p++cB c)) (lo:=none) (hi:=some (-1)) rfl rfl rfl ?_;rw[Ly (by rw[m7,fD];omega),Gj]
 .refine ay (a:= .str G9) (b:= .int (((c:Int)+1) % 26)) rfl ?_ ?_
  .refine ay (a:= .int ((c:Int)+1)) (b:= .int 26) (ay (a:= .int c) (b:= .int 1) ?_ rfl rfl) rfl (zR (by omega))
   refine JD (x:=G9) (ds:=[.str (cB c)]) rfl (aw (ay (a:= .str (p++cB c)) (b:= .int (-1)) rfl rfl (IY p c (by omega))) rfl) ?_
   show R.ok (D.int (Txt.find G9 (cB c)))=_;rw[Fj c hc]
  .rw [Fs (by omega) (by omega)]
   congr 3
theorem xm{k n:Nat}{many:V3}{kk j:Option V3}{S:aI}{ss:List Str}{p:Str}(hp:p.length < 500)(e:S[n]? =some (.lst (ss.map .str))) :
 ∀(m ex c:Nat),c < 26->(∃t,t < m/\¬(p++cB ((c+t) % 26))∈ss++nY)->
 W3 (ng (bT (CK (b2 u0 (ag 6) (ag 4)) (b2 u0 (ag 6) (ag 3)))) gY (m+ex) (jO k n many kk (some (.d (.str (p++cB c)))) j) S) fun o S1=>∃c',c' < 26/\o= .nx (jO k n many kk (some (.d (.str (p++cB c')))) j)/\S1=S
 | 0,_,_,_,⟨t,ht,_⟩=>by omega
 | m+1,ex,c,hc,⟨t,ht,hf⟩=>by
   rw[show m+1+ex=(m+ex)+1 by omega]
   unfold ng;refine W3.bind (W3.eq (HS e) ?_);by_cases hx:(p++cB c)∈ss++nY
   .rw [decide_eq_true hx,if_pos rfl];refine W3.bind ((Jc hp hc).mono fun o S1 ⟨e1,g8⟩=>?_)
    subst e1 g8;have ht0:t≠0:=fun z=>by subst z;rw [Nat.add_zero,Nat.mod_eq_of_lt hc] at hf;exact hf hx
    refine xm hp e m ex ((c+1) % 26) (by omega) ⟨t - 1,by omega,?_⟩
    rw[show((c+1) % 26+(t - 1)) % 26=(c+t) % 26 by omega]
    exact hf
   .rw [decide_eq_false hx,if_neg (by decide)]
    exact W3.ok ⟨c,hc,rfl,rfl⟩
end K18
end
section
namespace K18
open PySem PySem.Spec PyProof.Rows L2 L3 MT
structure xi (k g:Nat) (L:List D) (S S1:aI):Prop where
 p:rg k S1
 len:S1.length=S.length
 oth:∀j,j≠k->j≠g->S1[j]? =S[j]?
 gl:S1[g]? =some (.lst L)
theorem xi.then{k g:Nat}{L:List D}{S S1 S2:aI}(a:xi k g L S S1)(h:g≠k)(b:Ev k S1 S2):xi k g L S S2:=⟨b.p,b.len.trans a.len,fun j h1 h2=>(b.oth j h1).trans (a.oth j h1 h2),(b.oth g h).trans a.gl⟩
theorem xi.put{k g:Nat}{L L':List D}{S S1:aI}(a:xi k g L S S1)(h:g≠k):xi k g L' S (S1.set g (.lst L')):=by
 obtain⟨hL,x,c,e⟩:=a.p;exact⟨⟨hL.set _ (nP _),x,c,by rw[List.getElem?_set_ne h];exact e⟩,by rw[List.length_set];exact a.len,fun j h1 h2=>by rw[List.getElem?_set_ne (Ne.symm h2)];exact a.oth j h1 h2,jC a.gl⟩
theorem rg.push{k:Nat}{S:aI}(p:rg k S)(L:List D):rg k (S++[.lst L]):=by
 have h:=p.lt;obtain⟨hL,a,c,e⟩:=p;exact⟨hL.push (nP _),a,c,by rw[List.getElem?_append_left h];exact e⟩
theorem xi.vP{k:Nat}{S:aI}(p:rg k S)(L:List D):xi k S.length L (S++[.lst L]) (S++[.lst L]):=⟨p.push L,rfl,fun _ _ _=>rfl,bx _ _⟩
def sE:List Str:=[Str.ofString "",Str.ofString "",Str.ofString "zz",Str.ofString "qrst"]++nY
theorem FQ(r:Int)(h0:0<=r)(h:r < 13):∃s:Str,s.length<=4/\b_ (.lst (sE.map .str)) (.int r)= .ok (.str s):=by
 have hl:sE.length=13:=rfl;have hlen:∀s∈sE,s.length<=4:=by decide+kernel
 refine⟨sE[r.toNat]'(by omega),hlen _ (List.getElem_mem _),jU ?_⟩
 rw[jk h0 (by rw[List.length_map];omega)]
 simp
theorem Dg{k n:Nat}{many:V3}{kk nm j:Option V3}{S S1:aI}{ss:List Str}(hn:n≠k)(hl:ss.length<=15)(E:xi k n (ss.map .str) S S1) :
 W3 (jM (jO k n many kk nm j) S1) fun o S2=>∃dD,o= .nx dD/\(∃a b,dD=jO k n many kk a b)/\∃x:Str,xi k n ((ss++[x]).map .str) S S2:=by
 have hz:sizeLine=16777216:=sizeLine_eq;unfold jM;refine aU (br (by unfold jO;simp only[List.length_cons,List.length_nil];omega) (C5 (bQ (d:= .lst (sE.map .str)) ?_ (draw (k:=k) rfl E.p rfl (by omega) (by omega) fun r S2 h1 h2 v2=>?_))))
 .exact ay (a:= .lst ([Str.ofString "",Str.ofString "",Str.ofString "zz",Str.ofString "qrst"].map .str)) (b:= .lst (nY.map .str)) (c9 (ll rfl (by simp;omega))) rfl (sd (by simp;omega))
 obtain⟨s,hs,es⟩:=FQ r h1 h2;refine⟨_,_,_,rfl,rfl,es,_,rfl,?_⟩;have E2:=E.then hn v2
 show W3 (bp _ _ (jO k n many kk (some (.d (.str s))) j) S2) _;refine aU (iK (qk (J4 (k:=k) rfl E2.p (by omega) (by omega) fun r2 S3 h3 h4 v3=>⟨r2,rfl,by omega,?_⟩)))
 have E3:=E2.then hn v3
 refine(cF (fun i δ S4=>∃(x:Str) (a:Option V3),δ=jO k n many kk (some (.d (.str x))) a/\x.length<=4+i/\(i=0\/∃p c,c < 26/\x=p++cB c)/\xi k n (ss.map .str) S S4)
  ⟨s,j,rfl,by omega, .inl rfl,E3⟩ ?_).mono fun o S4 ⟨Dx,e4,x,a,hδ,hx,Hc,E4⟩=>⟨Dx,e4,?_⟩
 .rintro i v δ S4 hv ⟨x,a,rfl,hx,Hc,E4⟩;refine⟨jO k n many kk (some (.d (.str x))) (some v),rfl,?_⟩;have hi:i < 10:=by
   have:=(List.getElem?_eq_some_iff.mp hv).1;rw[List.length_map,cC,List.length_map,List.length_range] at this;omega
  unfold nM;refine br (by unfold jO;simp only[List.length_cons,List.length_nil];omega) (CB (bQ (d:= .str x) rfl (C5 (bQ (d:= .str G9) rfl (draw (k:=k) rfl E4.p rfl (by omega) (by omega) fun r5 S5 h5 h6 v5=>?_)))))
  refine⟨_,_,_,rfl,rfl,Fs h5 h6,_,_, .str (x++cB r5.toNat),rfl,rfl,AR (by rw[fD];omega),_,rfl,x++cB r5.toNat,some v,rfl,by rw[m7,fD];omega, .inr ⟨x,r5.toNat,by omega,rfl⟩,E4.then hn v5⟩
 rw[List.length_map,cC,List.length_map,List.length_range] at hx Hc;subst hδ;obtain⟨p,c,hc,rfl⟩:∃p c,c < 26/\x=p++cB c:=Hc.resolve_left (by omega)
 have hp:p.length < 500:=by rw[m7,fD] at hx;omega
 refine aU ?_;unfold zt;refine(xm (n:=n) (ss:=ss) hp E4.gl 26 974 c hc (BY ss (by omega) p c)).mono fun o S5 ⟨c',Dk,e5,e6⟩=>⟨_,e5,?_⟩
 subst e6;refine j_ (k:=n) rfl ⟨_,E4.gl⟩ (bQ (d:= .str (p++cB c')) rfl ⟨_,_,rfl,E4.gl,by rw[List.length_map];omega,_,rfl,⟨_,_,rfl⟩,p++cB c',?_⟩)
 rw[List.map_append];exact E4.put hn
theorem EB{S:aI}{k:Nat}{m:Nat}(p:rg k S)(hm:m<=15){Q:V3->aI->Prop}(h:∀(ss:List Str) S1,ss.length=m->Ev k S S1->Q (.d (.lst (ss.map .str))) S1):W3 (iS [.loc k, .d (.int m)] S) Q:=by
 have hz:sizeLine=16777216:=sizeLine_eq;have hk:=p.lt;unfold iS;refine sY (xh rfl ?_);simp only[cq,jG,List.map,List.length,List.replicate,List.cons_append,List.nil_append,Nat.reduceAdd,Nat.reduceSub];unfold mG;refine aU (br (by simp) (bQ (d:= .str G9) rfl ⟨_,rfl,?_⟩))
 simp only[List.set];refine aU (br (by simp) (bQ (d:= .lst (nY.map .str)) (c9 (ll rfl (by simp;omega))) ⟨_,rfl,?_⟩))
 simp only[List.set];refine aU (br (by simp) (lY (ds:=[]) rfl ⟨_,rfl,?_⟩))
 simp only[List.set];have g0:=xi.vP p [];have SA:S.length≠k:=by omega
 refine aU (iK (rG (jt (n:=m) rfl (by omega)) ?_))
 refine(cF (fun i δ S4=>(∃a b c,δ=jO k S.length (.d (.int m)) a b c)/\∃ss:List Str,ss.length=i/\xi k S.length (ss.map .str) (S++[SO.lst []]) S4) ⟨⟨_,_,_,rfl⟩,[],rfl,g0⟩ ?_).mono fun o S4 ⟨Dx,e4,⟨a,b,c,hδ⟩,ss,hl,g4⟩=>⟨Dx,e4,?_⟩
 .rintro i v δ S4 hv ⟨⟨a,b,c,rfl⟩,ss,hl,g4⟩;have hi:i < 15:=by
   have:=(List.getElem?_eq_some_iff.mp hv).1;rw[List.length_map,cC,List.length_map,List.length_range] at this;omega
  refine⟨jO k S.length (.d (.int m)) (some v) b c,rfl,?_⟩;exact(Dg SA (by omega) g4).mono fun o S5 ⟨SN,e5,⟨a5,b5,h5⟩,x,g5⟩=>⟨SN,e5,⟨some v,a5,b5,h5⟩,ss++[x],by simp [hl],g5⟩
 rw[List.length_map,cC,List.length_map,List.length_range] at hl;subst hδ;unfold jO;refine fE (w_var rfl ⟨_,rfl,g4.p.1,?_, .lst (ss.map .str),?_,?_⟩)
 .unfold ei;exact decide_eq_true (Nat.le_refl _)
 .unfold res;simp only[g4.gl]
 .refine h ss _ hl ⟨⟨g4.p.1.take _,?_⟩,?_,?_⟩
  .obtain⟨_,a,c,e⟩:=g4.p;exact⟨a,c,by rw[List.getElem?_take_of_lt hk];exact e⟩
  .have:=g4.len;rw[List.length_append,List.length_singleton] at this;rw[List.length_take];omega
  .intro j hj;by_cases hjl:j < S.length
   .rw [List.getElem?_take_of_lt hjl,g4.oth _ hj (by omega),List.getElem?_append_left hjl]
   .have:=g4.len;rw[List.length_append,List.length_singleton] at this;rw[List.getElem?_eq_none (by rw[List.length_take];omega),List.getElem?_eq_none (by omega)]
end K18
end
section
namespace K18
open PySem PySem.Spec PyProof.Rows L2 L3 MT
theorem tj{n i:Nat}{d:D}(h:(cC 0 n)[i]? =some d):i < n/\d= .int i:=by
 rw[cC,List.getElem?_map] at h;cases q:(List.range n)[i]? with
 | none=>rw [q] at h;cases h
 | some j=>
   rw[q] at h;cases h;obtain⟨q1,q2⟩:=List.getElem?_eq_some_iff.mp q;rw[List.getElem_range] at q2;rw[List.length_range] at q1;subst q2;exact⟨q1,by simp⟩
theorem vV{ds:List D}{i:Nat}{x:D}(h:ds[i]? =some x):rn ds (i:Int)=some x:=by
 obtain⟨h1,h2⟩:=List.getElem?_eq_some_iff.mp h;rw[jk (by omega) (by rw[Int.toNat_natCast];exact h1)]
 simp [h2]
section
variable {gs:List Gt}
theorem NZ{i:Nat}{g:Gt}(h:gs[i]? =some g):b_ (.lst (gs.map dO)) (.int i)= .ok (dO g):=by
 obtain⟨h1,h2⟩:=List.getElem?_eq_some_iff.mp h;refine jU ?_;rw[jk (by omega) (by rw[List.length_map,Int.toNat_natCast];exact h1)]
 simp [h2]
end
section
variable {S:aI} {δ:DE} {k q i:Nat} {ks:List Int}
theorem Bg{Q:V3->aI->Prop}{f:FD}{m:Int}(hv:δ[i]? =some (some (.loc k)))(p:rg k S)(hf:f (bK S δ)= .ok (.int m))(hm:0 < m)(Dn:m < 1000000)
 (h:∀(r:Int) S1,0<=r->r < m->Ev k S S1->Q (.d (.int r)) S1):W3 (bt aC (aq (bz i) (aq (xT f) bC)) δ S) Q:=
 bZ (av (w_var hv (av (xj hf rfl (bO (rN p hm (uQ hm Dn) h))))))
theorem jv{ds:List D}(e:S[q]? =some (.lst ds)):res S (.loc q)=some (.lst ds):=by unfold res;rw [e]
theorem jT(e:S[q]? =some (.lst (ks.map .int)))(hi:δ[i]? =some (some (.loc q))):aW dh (ao (ag i) aO) (bK S δ)= .ok (.int ks.length):=by
 refine aQ (ds:=[.lst (ks.map .int)]) (aw ?_ rfl) (by rw[t6,List.length_map])
 unfold ag bK;rw[List.getElem?_map,hi];show(match some (match res S (.loc q) with | some d=>Sl.val d | none=> .un) with | some (.val d)=>R.ok d | _=> .no)=_
 rw[jv e]
theorem Gr{w:Nat}(h:w < ks.length):b_ (.lst (ks.map .int)) (nI w)= .ok (.int ks[w]):=jU (vV (by rw[List.getElem?_map,List.getElem?_eq_getElem h];rfl))
theorem A4{own:List Str}{kp:List Nat}{it:FA}{w:Nat}{Q:V3->aI->Prop}(e:S[q]? =some (.lst (ks.map .int)))(hw:w < ks.length)(hn:ks.length < 10000)(Qm:mz own kp δ=[none,some (.loc q),some (.d (nI w))])
 (hit:W3 (it δ S) fun vs S1=>vs=(cC 0 ks.length).map .d/\S1=S) (h:∀l:List Nat,0 < l.length->l.length < 10000->(∀x∈l,x < ks.length/\ks.getD x 0=ks.getD w 0)->Q (.d (.lst (l.map nI))) S) :
 W3 (mC it (oS 0) (bT (b2 il (e2 b_ (ag 1) (ag 0)) (e2 b_ (ag 1) (ag 2)))) (xP (ag 0)) own kp δ S) Q:=by
 have hz:sizeLine=16777216:=sizeLine_eq;refine rZ (fun i ds S2=>S2=S/\∃l:List Nat,ds=l.map nI/\(∀x∈l,x < ks.length/\ks.getD x 0=ks.getD w 0)/\l.length<=i/\(w < i->0 < l.length)) (hit.mono fun vs S1 ⟨e1,g8⟩=>?_)
 subst e1 g8;have hlen:((cC 0 ks.length).map V3.d).length=ks.length:=by simp [cC]
 rw[hlen];refine⟨by omega,⟨rfl,[],rfl,by simp,by simp,by omega⟩,?_,?_⟩
 .rintro i v ds S2 hv ⟨rfl,l,rfl,hl,hli,Ss⟩;rw[Qm];rw[List.getElem?_map] at hv;cases qq:(cC 0 ks.length)[i]? with
  | none=>rw [qq] at hv;cases hv
  | some d0=>
    rw[qq] at hv;obtain⟨hi,rfl⟩:=tj qq;cases hv;refine⟨[some (.d (.int i)),some (.loc q),some (.d (nI w))],rfl,LJ (b:=decide (ks[i]=ks[w])) ?_ ?_⟩
    .have hT:bK S2 [some (.d (.int i)),some (.loc q),some (.d (nI w))]=[.val (nI i), .val (.lst (ks.map .int)), .val (nI w)]:=by
      simp only[bK,List.map_cons,List.map_nil,jv e];rfl
     rw[hT];exact dj (a:= .int ks[i]) (b:= .int ks[w]) (ay (a:= .lst (ks.map .int)) (b:=nI i) rfl rfl (Gr hi)) (ay (a:= .lst (ks.map .int)) (b:=nI w) rfl rfl (Gr hw)) rfl
    .by_cases hc:ks[i]=ks[w]
     .rw [decide_eq_true hc,if_pos rfl];refine bQ rfl ⟨nI i,rfl,rfl,l++[i],by simp,?_,by simp;omega,by simp⟩
      intro x hx;rcases List.mem_append.mp hx with z | z
      .exact hl x z
      .rw [List.mem_singleton] at z;subst z;exact⟨hi,by rw[List.getD_eq_getElem?_getD,List.getD_eq_getElem?_getD,List.getElem?_eq_getElem hi,List.getElem?_eq_getElem hw,hc]⟩
     .rw [decide_eq_false hc,if_neg (by decide)]
      refine⟨rfl,l,rfl,hl,by omega,fun Qp=>Ss ?_⟩
      have:w≠i:=fun z=>hc (by subst z;rfl)
      omega
 .rintro ds S2 ⟨rfl,l,rfl,hl,hli,Ss⟩;exact h l (Ss hw) (by omega) hl
theorem AY{f:FX}{fm:FD}{l:List Nat}{Q:V3->aI->Prop}(hf:W3 (f δ S) fun v S1=>v= .d (.lst (l.map nI))/\S1=S)(hv:δ[i]? =some (some (.loc k)))(p:rg k S)(hm:fm (down δ)= .ok (.int l.length))(hl:0 < l.length)(yV:l.length < 10000)
 (h:∀x S1,x∈l->Ev k S S1->Q (.d (nI x)) S1):W3 (G1 f (bt aC (aq (bz i) (aq (xP fm) bC))) δ S) Q:=by
 refine C5 (hf.mono fun v S1 ⟨e1,g8⟩=>?_)
 subst e1 g8;refine draw hv p hm (by omega) (by omega) fun r S2 h1 h2 v2=>⟨_,_,nI (l[r.toNat]'(by omega)),rfl,rfl,jU ?_,h _ S2 (List.getElem_mem _) v2⟩
 rw[jk h1 (by rw[List.length_map];omega)]
 simp
end
def Kj:List D:=[.str (Str.ofString "not"), .str (Str.ofString "and"), .str (Str.ofString "or"), .str (Str.ofString "xor"), .str (Str.ofString "vote"), .str (Str.ofString "xor"), .str (Str.ofString "and")]
def Rf:List (Key × V):=[((Sum.inr (Str.ofString "not"):Key),V.int 1),((Sum.inr (Str.ofString "vote"):Key),V.int 3)]
theorem Ip(r:Nat)(h:r < 7):∃kd,kd<=4/\b_ (.lst Kj) (.int r)= .ok (.str (kS kd))/\(match mO (jN [] Rf) (Sum.inr (kS kd)) with | some (.int i)=>R.ok (D.int i) | none=> .ok (.int 2) | _=> .no)= .ok (.int (ar kd)):=by
 match r,h with
 | 0,_=>exact⟨0,by omega,rfl,rfl⟩
 | 1,_=>exact⟨1,by omega,rfl,rfl⟩
 | 2,_=>exact⟨2,by omega,rfl,rfl⟩
 | 3,_=>exact⟨3,by omega,rfl,rfl⟩
 | 4,_=>exact⟨4,by omega,rfl,rfl⟩
 | 5,_=>exact⟨3,by omega,rfl,rfl⟩
 | 6,_=>exact⟨1,by omega,rfl,rfl⟩
theorem zF{S:aI}{δ:DE}{i o:Nat}{ws:List Nat}(hi:δ[i]? =some (some (.loc o)))(e:S[o]? =some (.lst (ws.map nI))):aW oy (ao (ag i) aO) (bK S δ)= .ok (.tup (ws.map nI)):=by
 refine aQ (ds:=[.lst (ws.map nI)]) (aw ?_ rfl) rfl;unfold ag bK;rw[List.getElem?_map,hi];show(match some (match res S (.loc o) with | some d=>Sl.val d | none=> .un) with | some (.val d)=>R.ok d | _=> .no)=_
 rw[jv e]
theorem pK(ws:List Nat):lq (.tup (ws.map nI))=true:=by
 unfold lq
 induction ws with
 | nil=>unfold jA;rfl
 | cons w ws ih=>rw [List.map_cons];unfold jA;rw [ih];rfl
def Ob{S:aI}{k:Nat}{d:D}{Q:V3->aI->Prop}(h:∀S1,Ev k S S1->Q (.d d) S1){S2:aI}{L:List D}{g:Nat}(E:xi k g L (S++[SO.lst []]) S2)(hg:g=S.length)(hk:k < S.length):Flat S2/\ei S.length (.d d)=true/\∃d',res S2 (.d d)=some d'/\Q (.d d') (S2.take S.length):=by
 subst hg;refine⟨E.p.1,by unfold ei;rfl,d,by unfold res;rfl,h _ ⟨⟨E.p.1.take _,?_⟩,?_,?_⟩⟩
 .obtain⟨_,a,c,e⟩:=E.p;exact⟨a,c,by rw[List.getElem?_take_of_lt hk];exact e⟩
 .have:=E.len;rw[List.length_append,List.length_singleton] at this;rw[List.length_take];omega
 .intro j hj;by_cases hjl:j < S.length
  .rw [List.getElem?_take_of_lt hjl,E.oth _ hj (by omega),List.getElem?_append_left hjl]
  .have:=E.len;rw[List.length_append,List.length_singleton] at this;rw[List.getElem?_eq_none (by rw[List.length_take];omega),List.getElem?_eq_none (by omega)]
def Qh(k q o:Nat)(ms kd mn:D)(a6 a7 a8:Option V3):DE:=[some (.loc k),some (.loc q),some (.d ms),some (.d kd),some (.d mn),some (.loc o),a6,a7,a8]
theorem Ci{S:aI}{k q:Nat}{ks:List Int}{ms:Int}(p:rg k S)(hq:q≠k)(e:S[q]? =some (.lst (ks.map .int)))(h0:0 < ks.length)(hn:ks.length < 10000){Q:V3->aI->Prop}(h:∀g S1,ny ks.length g->Ev k S S1->Q (.d (dO g)) S1) :
 W3 (g9 [.loc k, .loc q, .d (.int ms)] S) Q:=by
 have hz:sizeLine=16777216:=sizeLine_eq;have hk:=p.lt;have hql:q < S.length:=(List.getElem?_eq_some_iff.mp e).1;unfold g9;refine sY (xh rfl ?_);simp only[cq,lF,List.map,List.length,List.replicate,List.cons_append,List.nil_append,Nat.reduceAdd,Nat.reduceSub];unfold n5;refine aU <| br (by simp) <| C5 <| bQ (d:= .lst Kj) rfl <| draw (k:=k) rfl p rfl (by omega) (by omega) fun r S1 h1 h2 v1=>?_
 obtain⟨kd,hkd,e1,g8⟩:=Ip r.toNat (by omega)
 rw[Int.toNat_of_nonneg h1] at e1;refine⟨_,_,_,rfl,rfl,e1,_,rfl,?_⟩;simp only[List.set];refine aU <| br (by simp) <| bQ (d:= .int (ar kd)) g8 ⟨_,rfl,?_⟩
 simp only[List.set];refine aU <| br (by simp) <| lY (ds:=[]) rfl ⟨_,rfl,?_⟩
 simp only[List.set];have har:=EE kd;have xl:=v1.len;have E1:=xi.vP v1.p [];have hok:S1.length≠k:=by omega
 have eq1:S1[q]? =some (.lst (ks.map .int)):=by rw[v1.oth q hq];exact e
 refine aU <| iK <| rG (jt (n:=ar kd) rfl (by omega)) ?_
 refine(cF (fun i δ S2=>(∃a b c,δ=Qh k q S1.length (.int ms) (.str (kS kd)) (.int (ar kd)) a b c)/\∃ws:List Nat,ws.length=i/\(∀w∈ws,w < ks.length)/\xi k S1.length (ws.map nI) (S1++[SO.lst []]) S2)
  ⟨⟨_,_,_,rfl⟩,[],rfl,by simp,E1⟩ ?_).mono fun o S2 ⟨dD,e3,⟨a,b,c,hδ⟩,ws,vB,Ar,E2⟩=>⟨dD,e3,?_⟩
 .rintro i v δ S2 hv ⟨⟨a,b,c,rfl⟩,ws,vB,Ar,E2⟩;have hi:i < 3:=by
   have:=(List.getElem?_eq_some_iff.mp hv).1;rw[List.length_map,cC,List.length_map,List.length_range] at this;omega
  refine⟨Qh k q S1.length (.int ms) (.str (kS kd)) (.int (ar kd)) (some v) b c,rfl,?_⟩;unfold pB Qh;refine aU <| br (by simp) <| draw (k:=k) rfl E2.p rfl (by omega) (by omega) fun r3 S3 h3 h4 v3=>⟨_,rfl,?_⟩
  simp only[List.set];have E3:=E2.then hok v3
  have eq3:S3[q]? =some (.lst (ks.map .int)):=by rw[E3.oth q hq (by omega),List.getElem?_append_left (by omega)];exact eq1
  refine aU <| br (by simp) <| Bg (k:=k) rfl E3.p (jT eq3 rfl) (by omega) (by omega) fun r4 S4 h5 h6 v4=>⟨_,rfl,?_⟩
  simp only[List.set];have E4:=E3.then hok v4
  have eq4:S4[q]? =some (.lst (ks.map .int)):=by rw[E4.oth q hq (by omega),List.getElem?_append_left (by omega)];exact eq1
  refine aU ?_;have kc:W3 (wX (bP (b2 il (ag 7) (eC (.int 1)))) (b3 8 (xT (e2 rj (e2 rj (aW dh (ao (ag 1) aO)) (eC (.int 1))) (e2 qt (ag 8) (aW x9 (ao (aW dh (ao (ag 1) aO)) (ao (eC (.int 4)) aO))))))) l8
   [some (.loc k),some (.loc q),some (.d (.int ms)),some (.d (.str (kS kd))),some (.d (.int (ar kd))),some (.loc S1.length),some v,some (.d (.int r3)),some (.d (.int r4))] S4)
   fun o S5=>S5=S4/\∃w:Nat,w < ks.length/\o= .nx [some (.loc k),some (.loc q),some (.d (.int ms)),some (.d (.str (kS kd))),some (.d (.int (ar kd))),some (.loc S1.length),some v,some (.d (.int r3)),some (.d (nI w))]:=by
   refine l4 (pe (b:=decide (r3=1)) rfl ?_);by_cases hr:r3=1
   .rw [decide_eq_true hr,if_pos rfl];have hmn:∃mn:Int,0 < mn/\mn<=ks.length/\x9 [.int ks.length, .int 4]= .ok (.int mn):=⟨if(4:Int) < ks.length then 4 else ks.length,by split <;> omega,by split <;> omega,rfl⟩
    obtain⟨mn,m1,m2,m3⟩:=hmn;have b1:0<=r4 % mn:=Int.emod_nonneg _ (by omega)
    have b2':r4 % mn < mn:=Int.emod_lt_of_pos _ m1;refine br (by simp) (xj (d:=nI ((ks.length:Int) - 1 - r4 % mn).toNat) ?_ rfl ⟨rfl,((ks.length:Int) - 1 - r4 % mn).toNat,by omega,rfl⟩)
    refine ay (a:= .int ((ks.length:Int) - 1)) (b:= .int (r4 % mn)) (ay (a:= .int ks.length) (b:= .int 1) (jT eq4 rfl) rfl rfl) (ay (a:= .int r4) (b:= .int mn) rfl (aQ (ds:=[.int ks.length, .int 4]) (aw (jT eq4 rfl) rfl) m3) (zR m1)) ?_;show R.ok (D.int ((ks.length:Int) - 1 - r4 % mn))=R.ok (D.int ((((ks.length:Int) - 1 - r4 % mn).toNat:Nat):Int));rw[Int.toNat_of_nonneg (by omega)]
   .rw [decide_eq_false hr,if_neg (by decide)]
    refine iA ⟨rfl,r4.toNat,by omega,?_⟩
    unfold nI;rw[Int.toNat_of_nonneg h5]
  refine kc.mono fun o S5 ⟨e5,w,hw,eo⟩=>⟨_,eo,?_⟩
  subst e5;refine j_ (k:=S1.length) rfl ⟨_,E4.gl⟩ (bQ (d:=nI w) rfl ⟨_,_,rfl,E4.gl,by rw[List.length_map];omega,_,rfl,⟨_,_,_,rfl⟩,ws++[w],by simp [vB],?_,?_⟩)
  .intro x hx;rcases List.mem_append.mp hx with z | z
   .exact Ar x z
   .rw [List.mem_singleton] at z;subst z;exact hw
  .rw [List.map_append];exact E4.put hok
 rw[List.length_map,cC,List.length_map,List.length_range] at vB;subst hδ;unfold Qh;refine fE <| BM <| av <| bQ (d:= .str (kS kd)) rfl <| av <| xj (d:= .tup (ws.map nI)) (zF rfl E2.gl) (pK ws) <| av <| CB <| draw (k:=k) rfl E2.p rfl (by omega) (by omega) fun r6 S6 h7 h8 v6=>bQ (d:= .int ms) rfl ⟨_,_, .bl (decide (r6 < ms)),rfl,rfl,rfl,bO ⟨by simp;omega,_,rfl,?_⟩⟩
 have E6:=E2.then hok v6
 show Flat S6/\ei S.length (.d (dO (kd,ws,decide (r6 < ms))))=true/\∃d',res S6 (.d (dO (kd,ws,decide (r6 < ms))))=some d'/\_;have X9:S6.length=S.length+1:=by rw[E6.len];simp [xl]
 refine⟨E6.p.1,by unfold ei;rfl,_,by unfold res;rfl,h _ _ ⟨hkd,vB,Ar⟩ ⟨⟨E6.p.1.take _,?_⟩,by rw[List.length_take];omega,fun j hj=>?_⟩⟩
 .obtain⟨_,a,c,e⟩:=E6.p;exact⟨a,c,by rw[List.getElem?_take_of_lt hk];exact e⟩
 .by_cases hjl:j < S.length
  .rw [List.getElem?_take_of_lt hjl,E6.oth _ hj (by omega),List.getElem?_append_left (by omega)]
   exact v1.oth j hj
  .rw [List.getElem?_eq_none (by rw[List.length_take];omega),List.getElem?_eq_none (by omega)]
end K18
end
section
namespace K18
open PySem PySem.Spec PyProof.Rows L2 L3 MT
def bE(k q o:Nat)(g:D)(a4 a5:Option V3):DE:=[some (.loc k),some (.d g),some (.loc q),some (.loc o),a4,a5]
theorem zp{S:aI}{k q:Nat}{ks:List Int}{g:Gt}(p:rg k S)(hq:q≠k)(e:S[q]? =some (.lst (ks.map .int)))(hg:ny ks.length g)(hn:ks.length < 10000){Q:V3->aI->Prop}(h:∀g' S1,ny ks.length g'->g'.1=g.1->g'.2.1.map (ks.getD · 0)=g.2.1.map (ks.getD · 0)->Ev k S S1->Q (.d (dO g')) S1) :
 W3 (iT [.loc k, .d (dO g), .loc q] S) Q:=by
 have hz:sizeLine=16777216:=sizeLine_eq;have hk:=p.lt;have har:=EE g.1;have hql:q < S.length:=(List.getElem?_eq_some_iff.mp e).1;unfold iT;refine sY (xh rfl ?_);simp only[cq,jz,List.map,List.length,List.replicate,List.cons_append,List.nil_append,Nat.reduceAdd,Nat.reduceSub];unfold mr;refine aU <| br (by simp) <| lY (ds:=[]) rfl ⟨_,rfl,?_⟩
 simp only[List.set];have E1:=xi.vP p [];have hok:S.length≠k:=by omega
 refine aU <| iK <| rG (ds:=g.2.1.map nI) rfl ?_
 refine(cF (fun i δ S2=>(∃a b,δ=bE k q S.length (dO g) a b)/\∃ws:List Nat,ws.length=i/\(∀w∈ws,w < ks.length)/\ws.map (ks.getD · 0)=(g.2.1.take i).map (ks.getD · 0)/\xi k S.length (ws.map nI) (S++[SO.lst []]) S2)
  ⟨⟨_,_,rfl⟩,[],rfl,by simp,by simp,E1⟩ ?_).mono fun o S2 ⟨dD,e3,⟨a,b,hδ⟩,ws,vB,Ar,hwk,E2⟩=>⟨dD,e3,?_⟩
 .rintro i v δ S2 hv ⟨⟨a,b,rfl⟩,ws,vB,Ar,hwk,E2⟩;have hi:i < 3:=by
   have:=(List.getElem?_eq_some_iff.mp hv).1;rw[List.length_map,List.length_map,hg.2.1] at this;omega
  obtain⟨w,Qp,rfl⟩:=NT.wO hv;have hwn:=hg.2.2 w (List.mem_of_getElem? Qp);have eq2:S2[q]? =some (.lst (ks.map .int)):=by rw[E2.oth q hq (by omega),List.getElem?_append_left hql];exact e
  refine⟨bE k q S.length (dO g) (some (.d (nI w))) b,rfl,?_⟩;unfold nO bE;refine aU <| br (by simp) <| A4 (q:=q) eq2 hwn hn rfl (qk (xj (d:= .int ks.length) (jT eq2 rfl) rfl ⟨ks.length,rfl,by omega,rfl,rfl⟩)) fun l SS xl yV=>⟨_,rfl,?_⟩
  simp only[List.set];refine j_ (k:=S.length) rfl ⟨_,E2.gl⟩ (AY (k:=k) (l:=l) (bQ rfl ⟨rfl,rfl⟩) rfl E2.p (aQ (ds:=[.lst (l.map nI)]) rfl (by rw[t6,List.length_map])) SS xl fun x S3 hx v3=>?_)
  have E3:=E2.then hok v3
  refine⟨nI x,_,rfl,E3.gl,by rw[List.length_map];omega,_,rfl,⟨_,_,rfl⟩,ws++[x],by simp [vB],?_,?_,?_⟩
  .intro y hy;rcases List.mem_append.mp hy with z | z
   .exact Ar y z
   .rw [List.mem_singleton] at z;subst z;exact(yV _ hx).1
  .rw [List.take_add_one,Qp,List.map_append,List.map_append,hwk];show _++[ks.getD x 0]=_++[ks.getD w 0];rw[(yV _ hx).2]
  .rw [List.map_append];exact E3.put hok
 rw[List.length_map,List.length_map] at vB hwk;rw[List.take_length] at hwk;subst hδ;unfold bE;refine fE <| BM <| av <| bQ (d:= .str (kS g.1)) rfl <| av <| xj (d:= .tup (ws.map nI)) (zF rfl E2.gl) (pK ws) <| av <| CB <| draw (k:=k) rfl E2.p rfl (by omega) (by omega) fun r6 S6 h7 h8 v6=>bQ (d:= .int 0) rfl ⟨_,_, .bl (decide (r6=0)),rfl,rfl,rfl,bO ⟨by simp;omega,_,rfl,?_⟩⟩
 have E6:=E2.then hok v6
 exact Ob (d:=dO (g.1,ws,decide (r6=0))) (fun S1 v=>h _ _ ⟨hg.1,by show ws.length=_;rw [vB];exact hg.2.1,Ar⟩ rfl hwk v) E6 rfl hk
structure OS (k o:Nat) (L:List D) (S S1:aI):Prop where
 p:rg k S1
 len:S.length+1<=S1.length
 oth:∀j,j < S.length->j≠k->S1[j]? =S[j]?
 gl:S1[o]? =some (.lst L)
theorem OS.then{k o:Nat}{L:List D}{S S1 S2:aI}(a:OS k o L S S1)(h:o≠k)(b:Ev k S1 S2):OS k o L S S2:=⟨b.p,by rw[b.len];exact a.len,fun j h1 h2=>(b.oth j h2).trans (a.oth j h1 h2),(b.oth o h).trans a.gl⟩
theorem OS.set{k o m:Nat}{L M:List D}{S S1:aI}(a:OS k o L S S1)(h1:m≠k)(h2:m≠o)(h3:S.length<=m):OS k o L S (S1.set m (.lst M)):=by
 obtain⟨f,x,c,e⟩:=a.p;exact⟨⟨f.set _ (nP _),x,c,by rw[List.getElem?_set_ne h1];exact e⟩,by rw[List.length_set];exact a.len,fun j hj hk=>by rw[List.getElem?_set_ne (by omega)];exact a.oth j hj hk,by rw[List.getElem?_set_ne h2];exact a.gl⟩
theorem OS.push{k o:Nat}{L M:List D}{S S1:aI}(a:OS k o L S S1)(ho:o < S1.length):OS k o L S (S1++[.lst M]):=
 ⟨a.p.push M,by rw[List.length_append];have:=a.len;omega,fun j hj hk=>by rw[List.getElem?_append_left (by have:=a.len;omega)];exact a.oth j hj hk,by rw[List.getElem?_append_left ho];exact a.gl⟩
theorem OS.put{k o:Nat}{L L':List D}{S S1:aI}(a:OS k o L S S1)(h1:o≠k)(h3:S.length<=o):OS k o L' S (S1.set o (.lst L')):=by
 obtain⟨f,x,c,e⟩:=a.p;exact⟨⟨f.set _ (nP _),x,c,by rw[List.getElem?_set_ne h1];exact e⟩,by rw[List.length_set];exact a.len,fun j hj hk=>by rw[List.getElem?_set_ne (by omega)];exact a.oth j hj hk,jC a.gl⟩
def oE(k q o:Nat)(ss:List Str)(a5 a6 a7 a8 a9 SG:Option V3):DE:=[some (.loc k),some (.loc q),some (.d (.lst (ss.map .str))),some (.d (.int 6)),some (.loc o),a5,a6,a7,a8,a9,SG]
def NJ:List D:=[.int 1, .int 1, .int 2, .int 2, .int 3, .int 3]
theorem Lc(r:Nat)(h:r < 6):∃w:Nat,1<=w/\w<=3/\b_ (.lst NJ) (.int r)= .ok (nI w):=by
 match r,h with
 | 0,_=>exact⟨1,by omega,by omega,rfl⟩
 | 1,_=>exact⟨1,by omega,by omega,rfl⟩
 | 2,_=>exact⟨2,by omega,by omega,rfl⟩
 | 3,_=>exact⟨2,by omega,by omega,rfl⟩
 | 4,_=>exact⟨3,by omega,by omega,rfl⟩
 | 5,_=>exact⟨3,by omega,by omega,rfl⟩
theorem anew{S S1:aI}{k q o m:Nat}{ks:List Int}{L:List D}{ss:List Str}{i wd:Nat}{way lim:Int}{at':Nat}{a6 a7:Option V3}{ws:List Nat}(hq:q≠k)(Pe:q < S.length)(ho:o≠k)(Kx:m≠k)(PH:m≠o)(hm:S.length<=m)(h0:0 < ks.length)(hn:ks.length < 10000)
 (eS:S[q]? =some (.lst (ks.map .int))) (vB:ws.length=wd) (ZX:at' < 3) (Ar:∀w∈ws,w < ks.length) (E:OS k o L S S1) (em:S1[m]? =some (.lst (ws.map nI))) :
 W3 (wX (bP (sW (b2 il (ag 8) (eC (.int 3))) (b2 Nb (ag 10) (eC (.int lim))))) (zJ (bz 9) (xP (eC (nI at'))) (bt aC (aq (bz 0) (aq (xT (aW dh (ao (ag 1) aO))) bC)))) l8
  (oE k q o ss (some (.d (nI i))) a6 a7 (some (.d (nI wd))) (some (.loc m)) (some (.d (.int way)))) S1)
  fun ou S2=>ou= .nx (oE k q o ss (some (.d (nI i))) a6 a7 (some (.d (nI wd))) (some (.loc m)) (some (.d (.int way))))/\OS k o L S S2/\∃ws':List Nat,ws'.length=wd/\(∀w∈ws',w < ks.length)/\(wd≠3->ws'=ws)/\S2[m]? =some (.lst (ws'.map nI)):=by
 have eq1:S1[q]? =some (.lst (ks.map .int)):=by rw[E.oth q Pe hq];exact eS
 obtain⟨c,hc,YI⟩:∃c:Bool,sW (b2 il (ag 8) (eC (.int 3))) (b2 Nb (ag 10) (eC (.int lim))) (down (oE k q o ss (some (.d (nI i))) a6 a7 (some (.d (nI wd))) (some (.loc m)) (some (.d (.int way)))))= .ok c/\(c=true->wd=3):=by
  have e1:b2 il (ag 8) (eC (.int 3)) (down (oE k q o ss (some (.d (nI i))) a6 a7 (some (.d (nI wd))) (some (.loc m)) (some (.d (.int way)))))= .ok (decide ((wd:Int)=3)):=rfl;have e3:b2 Nb (ag 10) (eC (.int lim)) (down (oE k q o ss (some (.d (nI i))) a6 a7 (some (.d (nI wd))) (some (.loc m)) (some (.d (.int way)))))= .ok (decide (lim < way)):=rfl;unfold sW;rw[e1,R.aH,e3];by_cases h3:(wd:Int)=3
  .exact⟨_,by rw[decide_eq_true h3,if_pos rfl],fun _=>by omega⟩
  .exact⟨false,by rw[decide_eq_false h3,if_neg (by decide)],fun z=>by cases z⟩
 refine l4 (pe hc ?_);cases c with
 | true=>
   rw[if_pos rfl];have hwd:=YI rfl;refine D6 (Bg (k:=k) rfl E.p (jT eq1 rfl) (by omega) (by omega) fun r S2 h1 h2 v2=>w_var (v:= .loc m) rfl (bQ (d:=nI at') rfl ⟨_,m,(at':Int),ws.map nI,at',rfl,rfl,rfl,by rw[v2.oth m Kx];exact em,?_,rfl,(E.then ho v2).set Kx PH hm,ws.set at' r.toNat,by rw[List.length_set];exact vB,?_,fun z=>absurd hwd z,?_⟩))
   .unfold yT;rw[if_pos (by omega),if_pos (by rw[List.length_map];omega)]
    simp
   .intro w hw;rcases List.mem_or_eq_of_mem_set hw with z | z
    .exact Ar w z
    .subst z;omega
   .rw [jC (x:= .lst (ws.map nI)) (by rw[v2.oth m Kx];exact em),List.map_set]
    unfold nI;rw[Int.toNat_of_nonneg h1]
 | false=>
   rw[if_neg (by decide)]
   exact iA ⟨rfl,E,ws,vB,Ar,fun _=>rfl,em⟩
theorem Gb{S S1:aI}{k q o:Nat}{ks:List Int}{ss:List Str}{i:Nat}{a6 a7 a8 a9 SG:Option V3}{os:Aad}(hq:q≠k)(hk:k < S.length)(ho:o=S.length)(h0:0 < ks.length)(hn:ks.length < 10000)(Kq:ss.length=8)(hi:i < 6)(hl:os.length < 100)(eS:S[q]? =some (.lst (ks.map .int)))(E:OS k o (os.map pU) S S1) :
 W3 (lE (oE k q o ss (some (.d (nI i))) a6 a7 a8 a9 SG) S1) fun ou S2=>∃dD,ou= .nx dD/\(∃b5 b6 b7 b8 b9 Nl,dD=oE k q o ss b5 b6 b7 b8 b9 Nl)/\∃x:Str × List Nat,((1<=x.2.length/\x.2.length<=3)/\(∀w∈x.2,w < ks.length)/\∀a b,x.2=[a,b]->ks.getD a 0=ks.getD b 0)/\OS k o ((os++[x]).map pU) S S2:=by
 have hz:sizeLine=16777216:=sizeLine_eq;have Pe:q < S.length:=(List.getElem?_eq_some_iff.mp eS).1;have hok:o≠k:=by omega
 have keq:∀{S2:aI} {L:List D},OS k o L S S2->S2[q]? =some (.lst (ks.map .int)):=fun E2=>by rw[E2.oth q Pe hq];exact eS
 unfold lE oE;refine aU <| br (by simp) <| CB <| xj (d:= .int ((ks.length:Int) - 1)) (ay (a:= .int ks.length) (b:= .int 1) (jT (keq E) rfl) rfl rfl) rfl <| Bg (k:=k) rfl E.p (jT (keq E) rfl) (by omega) (by omega) fun r S2 h1 h2 v2=>⟨_,_,nI ((ks.length:Int) - 1 - r).toNat,rfl,rfl,?_,_,rfl,?_⟩
 .show R.ok (D.int ((ks.length:Int) - 1 - r))=R.ok (D.int ((((ks.length:Int) - 1 - r).toNat:Nat):Int));rw[Int.toNat_of_nonneg (by omega)]
 simp only[List.set];have hw:((ks.length:Int) - 1 - r).toNat < ks.length:=by omega
 generalize ((ks.length:Int) - 1 - r).toNat=w at hw;have E2:=E.then hok v2
 refine aU <| br (by simp) <| A4 (q:=q) (keq E2) hw hn rfl (qk (xj (d:= .int ks.length) (jT (keq E2) rfl) rfl ⟨ks.length,rfl,by omega,rfl,rfl⟩)) fun l SS xl yV=>⟨_,rfl,?_⟩
 simp only[List.set];refine aU <| br (by simp) <| C5 <| bQ (d:= .lst NJ) rfl <| draw (k:=k) rfl E2.p rfl (by omega) (by omega) fun r3 S3 h3 h4 v3=>?_
 obtain⟨wd,Ql,S_,ewd⟩:=Lc r3.toNat (by omega)
 rw[Int.toNat_of_nonneg h3] at ewd;refine⟨_,_,_,rfl,rfl,ewd,_,rfl,?_⟩;simp only[List.set];have E3:=E2.then hok v3
 refine aU <| br (by simp) <| J_ <| bQ (d:= .lst [nI w]) rfl ?_
 refine rZ (fun j ds S4=>OS k o (os.map pU) S S4/\∃ws:List Nat,ds=ws.map nI/\(∀x∈ws,x < ks.length/\ks.getD x 0=ks.getD w 0)/\ws.length=j) (rG (jt (n:=wd - 1) ?_ (by omega)) ⟨by simp [cC];omega,⟨E3,[],rfl,by simp,rfl⟩,?_,?_⟩)
 .refine ay (a:=nI wd) (b:= .int 1) rfl rfl ?_;show R.ok (D.int ((wd:Int) - 1))=R.ok (D.int (((wd - 1:Nat)):Int));rw[Int.ofNat_sub Ql];rfl
 .rintro j v ds S4 hv ⟨E4,ws,rfl,Ar,vB⟩;refine⟨[some v,some (.loc k),some (.d (.lst (l.map nI)))],rfl,Kl ?_⟩;rw[if_pos rfl];refine AY (k:=k) (l:=l) (bQ rfl ⟨rfl,rfl⟩) rfl E4.p (aQ (ds:=[.lst (l.map nI)]) rfl (by rw[t6,List.length_map])) SS xl fun x S5 hx v5=>⟨nI x,rfl,E4.then hok v5,ws++[x],by simp,?_,by simp [vB]⟩
  intro y hy;rcases List.mem_append.mp hy with z | z
  .exact Ar y z
  .rw [List.mem_singleton] at z;subst z;exact yV _ hx
 .rintro ds S4 ⟨E4,ws,rfl,Ar,vB⟩;have hrl:((cC 0 (wd - 1)).map V3.d).length=wd - 1:=by simp [cC]
  rw[hrl] at vB;refine⟨[nI w],ws.map nI,rfl,rfl,by rw[List.length_map];simp;omega,_,rfl,?_⟩
  simp only[List.set];have hle:=E4.len;have ho4:o < S4.length:=(List.getElem?_eq_some_iff.mp E4.gl).1;have E5:=E4.push (M:=[nI w]++ws.map nI) ho4;have em5:(S4++[SO.lst ([nI w]++ws.map nI)])[S4.length]? =some (.lst ((w ::ws).map nI)):=bx _ _;have Kx:S4.length≠k:=by omega
  have PH:S4.length≠o:=by omega
  have hmS:S.length<=S4.length:=by omega
  have hws1:∀x∈w ::ws,x < ks.length:=fun x hx=>by
   rcases List.mem_cons.mp hx with z | z
   .subst z;exact hw
   .exact(Ar x z).1
  generalize S4++[SO.lst ([nI w]++ws.map nI)]=S5 at E5 em5;generalize S4.length=m at em5 Kx PH hmS;refine aU <| br (by simp) <| draw (k:=k) rfl E5.p rfl (by omega) (by omega) fun way S6 h5 h6 v6=>⟨_,rfl,?_⟩
  simp only[List.set];have E6:=E5.then hok v6
  have em6:S6[m]? =some (.lst ((w ::ws).map nI)):=by rw[v6.oth m Kx];exact em5
  refine aU ((anew (ss:=ss) (i:=i) (wd:=wd) (way:=way) (lim:=0) (at':=2) hq Pe hok Kx PH hmS h0 hn eS (by simp;omega) (by omega) hws1 E6 em6).mono fun ou S7 ⟨e7,E7,Z0,YW,Yp,YU,Yz⟩=>⟨_,e7,?_⟩)
  refine aU ((anew (ss:=ss) (i:=i) (wd:=wd) (way:=way) (lim:=1) (at':=1) hq Pe hok Kx PH hmS h0 hn eS YW (by omega) Yp E7 Yz).mono fun ou S8 ⟨e8,E8,Pf,Zi,YC,Sx,YT⟩=>⟨_,e8,?_⟩)
  unfold oE;refine j_ (k:=o) rfl ⟨_,E8.gl⟩ (xj (d:=pU (ss[i]'(by omega),Pf)) ?_ ?_ ⟨_,_,rfl,E8.gl,by rw[List.length_map];omega,_,rfl,⟨_,_,_,_,_,_,rfl⟩,(ss[i]'(by omega),Pf),⟨⟨by show 1<=Pf.length;omega,by show Pf.length<=3;omega⟩,YC,?_⟩,?_⟩)
  .refine cD (aw (ay (a:= .lst (ss.map .str)) (b:=nI i) rfl rfl (jU (vV (by rw[List.getElem?_map,List.getElem?_eq_getElem (by omega)];rfl)))) (aw (zF rfl YT) rfl)) (by simp;omega)
  .unfold pU lq jA;rw[show lq (.str _)=true from by unfold lq;rfl]
   unfold jA;rw[pK];unfold jA;rfl
  .intro a b pV;have pV:Pf=[a,b]:=pV;have h2:wd=2:=by rw[<-Zi,pV];rfl
   rw[Sx (by omega),YU (by omega)] at pV
   cases pV;exact((Ar b (by simp)).2).symm
  .rw [List.map_append];exact E8.put hok (by omega)
theorem C7{S:aI}{k q:Nat}{ks:List Int}{ss:List Str}(p:rg k S)(hq:q≠k)(e:S[q]? =some (.lst (ks.map .int)))(h0:0 < ks.length)(hn:ks.length < 10000)(Kq:ss.length=8){Q:V3->aI->Prop}
 (h:∀(os:Aad) S1,1<=os.length->os.length < 100->(∀x∈os,(1<=x.2.length/\x.2.length<=3)/\(∀w∈x.2,w < ks.length)/\∀a b,x.2=[a,b]->ks.getD a 0=ks.getD b 0)->Ev k S S1->Q (.d (.lst (os.map pU))) S1):W3 (jx [.loc k, .loc q, .d (.lst (ss.map .str)), .d (.int 6)] S) Q:=by
 have hz:sizeLine=16777216:=sizeLine_eq;have hk:=p.lt;unfold jx;refine sY (xh rfl ?_);simp only[cq,lH,List.map,List.length,List.replicate,List.cons_append,List.nil_append,Nat.reduceAdd,Nat.reduceSub];unfold n9;refine aU <| br (by simp) <| lY (ds:=[]) rfl ⟨_,rfl,?_⟩
 simp only[List.set];have E1:OS k S.length (([]:Aad).map pU) S (S++[.lst []]):=⟨p.push [],by simp,fun j hj _=>List.getElem?_append_left hj,bx _ _⟩
 refine aU <| iK <| qk <| CB <| bQ (d:= .int 1) rfl <| draw (k:=k) rfl E1.p rfl (by omega) (by omega) fun r S2 h1 h2 v2=>⟨_,_, .int ((1+r).toNat:Nat),rfl,rfl,by rw[Int.toNat_of_nonneg (by omega)];rfl,(1+r).toNat,rfl,by omega,?_⟩
 have E2:=E1.then (by omega) v2
 refine(cF (fun i δ S3=>(∃b5 b6 b7 b8 b9 Nl,δ=oE k q S.length ss b5 b6 b7 b8 b9 Nl)/\∃os:Aad,os.length=i/\(∀x∈os,(1<=x.2.length/\x.2.length<=3)/\(∀w∈x.2,w < ks.length)/\∀a b,x.2=[a,b]->ks.getD a 0=ks.getD b 0)/\OS k S.length (os.map pU) S S3)
  ⟨⟨_,_,_,_,_,_,rfl⟩,[],rfl,by simp,E2⟩ ?_).mono fun o S3 ⟨MX,e3,⟨b5,b6,b7,b8,b9,Nl,hδ⟩,os,Hd,uI,E3⟩=>⟨MX,e3,?_⟩
 .rintro i v δ S3 hv ⟨⟨b5,b6,b7,b8,b9,Nl,rfl⟩,os,Hd,uI,E3⟩;rw[List.getElem?_map] at hv;cases qq:(cC 0 (1+r).toNat)[i]? with
  | none=>rw [qq] at hv;cases hv
  | some d0=>
    rw[qq] at hv;obtain⟨hi,rfl⟩:=tj qq;cases hv;refine⟨oE k q S.length ss (some (.d (nI i))) b6 b7 b8 b9 Nl,rfl,?_⟩;refine(Gb hq hk rfl h0 hn Kq (by omega) (by omega) e E3).mono fun ou S4 ⟨Dx,e4,h4,x,hx,E4⟩=>⟨Dx,e4,h4,os++[x],by simp [Hd],?_,E4⟩
    intro y hy;rcases List.mem_append.mp hy with z | z
    .exact uI y z
    .rw [List.mem_singleton] at z;subst z;exact hx
 have hrl:((cC 0 (1+r).toNat).map V3.d).length=(1+r).toNat:=by simp [cC]
 rw[hrl] at Hd;subst hδ;unfold oE;refine fE (w_var rfl ⟨_,rfl,E3.p.1,by unfold ei;exact decide_eq_true (Nat.le_refl _),_,jv E3.gl,?_⟩)
 have hle:=E3.len;refine h os _ (by omega) (by omega) uI ⟨⟨E3.p.1.take _,?_⟩,by rw[List.length_take];omega,fun j hj=>?_⟩
 .obtain⟨_,a,c,e⟩:=E3.p;exact⟨a,c,by rw[List.getElem?_take_of_lt hk];exact e⟩
 .by_cases hjl:j < S.length
  .rw [List.getElem?_take_of_lt hjl,E3.oth _ hjl hj]
  .rw [List.getElem?_eq_none (by rw[List.length_take];omega),List.getElem?_eq_none (by omega)]
end K18
end
section
namespace K18
open PySem PySem.Spec PyProof.Rows L2 L3 MT
structure IS (k a b:Nat) (l:Aac) (ks:List Int) (S S1:aI):Prop where
 p:rg k S1
 len:S.length+2<=S1.length
 oth:∀j,j < S.length->j≠k->S1[j]? =S[j]?
 ea:S1[a]? =some (.lst (l.map MT.inD))
 eb:S1[b]? =some (.lst (ks.map .int))
 hb:S.length < b
def iE(mi:Int)(k a b:Nat)(cells:D)(ss:List Str)(a7 a8:Option V3):DE:=[some (.loc k),some (.d cells),some (.d (.int mi)),some (.d (.int 1)),some (.d (.lst (ss.map .str))),some (.loc a),some (.loc b),a7,a8,none,none,none,none,none]
theorem Gq(c:Int)(n:Nat):(List.replicate n [D.int c]).flatten=(List.replicate n c).map D.int:=by
 induction n with
 | zero=>rfl
 | succ n ih=>rw [List.replicate_succ,List.flatten_cons,ih,List.replicate_succ];rfl
theorem LX{f:au->R (List D)}{g:FD}{δ:au}{ds:List D}{n:Nat}(h1:f δ= .ok ds)(h2:g δ= .ok (.int n))(hn:n < 1000000)(hl:ds.length*n<=sizeLine):Jl f g δ= .ok (List.replicate n ds).flatten:=by
 unfold Jl;rw[h1,R.aH,h2,R.aH];show R.bh (decide (0<=(n:Int)/\(n:Int) < 1000000/\ds.length*(n:Int).toNat<=sizeLine)) _=_;rw[bH _ ⟨by omega,by omega,by rw[Int.toNat_natCast];exact hl⟩,Int.toNat_natCast]
theorem JA{mi:Int}{S S1:aI}{k a b i:Nat}{cells:D}{ss:List Str}{a8:Option V3}{l:Aac}{ks:List Int}(hk:k < S.length)(ha:a=S.length)(Kq:ss.length=8)(hi:i < 6)(hl:l.length < 100)(Kt:ks.length < 1000)(E:IS k a b l ks S S1) :
 W3 (mh (iE mi k a b cells ss (some (.d (nI i))) a8) S1) fun o S2=>∃dD,o= .nx dD/\∃b' Sk,dD=iE mi k a b' cells ss (some (.d (nI i))) Sk/\∃(s:Str) (w:Nat),1<=w/\w<=3/\IS k a b' (l++[(s,w)]) (ks++List.replicate w (i:Int)) S S2:=by
 have hz:sizeLine=16777216:=sizeLine_eq;have Pj:=E.hb;have hbl:b < S1.length:=(List.getElem?_eq_some_iff.mp E.eb).1;unfold mh iE;refine aU <| br (by simp) <| J4 (k:=k) rfl E.p (by omega) (by omega) fun w S2 h1 h2 v2=>⟨_,rfl,?_⟩
 simp only[List.set];have Th:S2[a]? =some (.lst (l.map MT.inD)):=by rw[v2.oth a (by omega)];exact E.ea
 have eb2:S2[b]? =some (.lst (ks.map .int)):=by rw[v2.oth b (by omega)];exact E.eb
 refine aU <| j_ (k:=a) rfl ⟨_,Th⟩ <| bQ (d:=MT.inD (ss[7 - i]'(by omega),w)) ?_ ⟨_,_,rfl,Th,by rw[List.length_map];omega,_,rfl,?_⟩
 .refine cD (aw (ay (a:= .lst (ss.map .str)) (b:=nI (7 - i)) rfl ?_ (jU (vV (by rw[List.getElem?_map,List.getElem?_eq_getElem (by omega)];rfl)))) (aw rfl rfl)) (by simp;omega)
  refine ay (a:= .int 7) (b:=nI i) rfl rfl ?_;show R.ok (D.int (7 - (i:Int)))=R.ok (D.int ((7 - i:Nat):Int));rw[Int.ofNat_sub (by omega)];rfl
 have eb3:(S2.set a (.lst (l.map MT.inD++[MT.inD (ss[7 - i]'(by omega),w)])))[b]? =some (.lst (ks.map .int)):=by rw[List.getElem?_set_ne (by omega)];exact eb2
 have ea3:(S2.set a (.lst (l.map MT.inD++[MT.inD (ss[7 - i]'(by omega),w)])))[a]? =some (.lst (l.map MT.inD++[MT.inD (ss[7 - i]'(by omega),w)])):=jC Th
 have p3:rg k (S2.set a (.lst (l.map MT.inD++[MT.inD (ss[7 - i]'(by omega),w)]))):=by
  obtain⟨f,x,c,e⟩:=v2.p;exact⟨f.set _ (nP _),x,c,by rw[List.getElem?_set_ne (by omega)];exact e⟩
 have hl3:(S2.set a (.lst (l.map MT.inD++[MT.inD (ss[7 - i]'(by omega),w)]))).length=S1.length:=by rw[List.length_set,v2.len]
 have Vo:∀j,j < S.length->j≠k->(S2.set a (.lst (l.map MT.inD++[MT.inD (ss[7 - i]'(by omega),w)])))[j]? =S[j]?:=fun j hj hk=>by rw[List.getElem?_set_ne (by omega),v2.oth j hk];exact E.oth j hj hk
 generalize S2.set a (.lst (l.map MT.inD++[MT.inD (ss[7 - i]'(by omega),w)]))=S3 at eb3 ea3 p3 hl3 Vo
 refine br (by simp) <| J_ <| w_var (v:= .loc b) rfl <| bQ (d:= .lst ((List.replicate w (i:Int)).map .int)) ?_ ⟨ks.map .int,(List.replicate w (i:Int)).map .int,by unfold z9 cU;simp only[eb3],rfl,by rw[List.length_map,List.length_map,List.length_replicate];omega,_,rfl,S3.length,_,rfl,ss[7 - i]'(by omega),w,h1,by omega,?_⟩
 .refine c9 ?_;rw[LX (n:=w) (ds:=[nI i]) (ll rfl (by simp;omega)) rfl (by omega) (by simp;omega)]
  unfold nI;rw[Gq]
 .have hE:=E.len;refine⟨p3.push _,by rw[List.length_append];omega,fun j hj hk=>by rw[List.getElem?_append_left (by omega)];exact Vo j hj hk,?_,?_,by omega⟩
  .rw [List.getElem?_append_left (by omega),List.map_append];exact ea3
  .rw [List.map_append];exact bx _ _
structure NS (k a b c:Nat) (l:Aac) (ks:List Int) (gs:List Gt) (S S1:aI):Prop where
 p:rg k S1
 len:S.length+3<=S1.length
 oth:∀j,j < S.length->j≠k->S1[j]? =S[j]?
 ea:S1[a]? =some (.lst (l.map MT.inD))
 eb:S1[b]? =some (.lst (ks.map .int))
 ec:S1[c]? =some (.lst (gs.map dO))
def nE(mi:Int)(k a b c n:Nat)(cells:D)(ss:List Str)(a7 a8 Yg Tn Kr:Option V3):DE:=[some (.loc k),some (.d cells),some (.d (.int mi)),some (.d (.int 1)),some (.d (.lst (ss.map .str))),some (.loc a),some (.loc b),a7,a8,some (.d (nI n)),some (.loc c),Yg,Tn,Kr]
theorem Ls(g:Gt):lq (dO g)=true:=by
 unfold dO lq jA;rw[show lq (.str _)=true from by unfold lq;rfl]
 unfold jA;rw[pK];unfold jA;rw[show lq (.bl _)=true from by unfold lq;rfl]
 unfold jA;rfl
theorem ne_nil(gs:List Gt)(hg:∀g∈gs,ny 100000 g):G2 (.lst (gs.map dO)) (.lst [])= .ok gs.isEmpty:=by
 have f:g6 4 (.lst (gs.map dO)):=g6.lst fun d hd=>by
  obtain⟨g,h,rfl⟩:=List.mem_map.mp hd;have hk:=(hg g h).1;refine g6.tup fun x hx=>?_
  simp only[List.mem_cons,List.not_mem_nil,or_false] at hx;rcases hx with rfl | rfl | rfl
  .refine(g6.str ?_).mono (by omega)
   match g.1,hk with
   | 0,_=>decide+kernel
   | 1,_=>decide+kernel
   | 2,_=>decide+kernel
   | 3,_=>decide+kernel
   | 4,_=>decide+kernel
  .refine(g6.tup (n:=0) fun y hy=>?_).mono (by omega)
   obtain⟨z,_,rfl⟩:=List.mem_map.mp hy;exact g6.int _
  .exact(g6.bl _).mono (by omega)
 rw[Ff,f.pl,f.sh (by omega),(g6.lst (n:=0) (ds:=[]) (by simp)).pl,(g6.lst (n:=0) (ds:=[]) (by simp)).sh (by omega)]
 cases gs with
 | nil=>rfl
 | cons g gs=>rfl
theorem NS.own{k a b c m:Nat}{l:Aac}{ks:List Int}{gs:List Gt}{S S1 S2:aI}(E:NS k a b c l ks gs S S1)(hm:S.length<=m)(hk:k < S.length)(ha:a≠m)(hb:b≠m)(hc:c≠m)(v:Ev m S1 S2):NS k a b c l ks gs S S2:=by
 obtain⟨f,x,y,e⟩:=E.p;exact⟨⟨v.p.1,x,y,by rw[v.oth k (by omega)];exact e⟩,by rw[v.len];exact E.len,fun j hj ML=>by rw[v.oth j (by omega)];exact E.oth j hj ML,by rw[v.oth a ha];exact E.ea,by rw[v.oth b hb];exact E.eb,by rw[v.oth c hc];exact E.ec⟩
theorem NS.add{k a b c:Nat}{l:Aac}{ks:List Int}{gs:List Gt}{g:Gt}{x:Int}{S S1:aI}(E:NS k a b c l ks gs S S1)(hk:k < S.length)(Pj:S.length<=b)(Td:S.length<=c)(pV:a≠b)(Qn:a≠c)(MM:b≠c) :
 NS k a b c l (ks++[x]) (gs++[g]) S ((S1.set c (.lst (gs.map dO++[dO g]))).set b (.lst (ks.map .int++[.int x]))):=by
 obtain⟨f,u,y,e⟩:=E.p;refine⟨⟨(f.set _ (nP _)).set _ (nP _),u,y,by rw[List.getElem?_set_ne (by omega),List.getElem?_set_ne (by omega)];exact e⟩,by rw[List.length_set,List.length_set];exact E.len,fun j hj ML=>by rw[List.getElem?_set_ne (by omega),List.getElem?_set_ne (by omega)];exact E.oth j hj ML,
  by rw[List.getElem?_set_ne (Ne.symm pV),List.getElem?_set_ne (Ne.symm Qn)];exact E.ea,?_,?_⟩
 .rw [List.map_append];exact jC (x:= .lst (ks.map .int)) (by rw[List.getElem?_set_ne (Ne.symm MM)];exact E.eb)
 .rw [List.getElem?_set_ne MM,List.map_append];exact jC E.ec
theorem K1{S:aI}{δ:DE}{i j c p:Nat}{gs:List Gt}{g:Gt}(hi:δ[i]? =some (some (.loc c)))(hj:δ[j]? =some (some (.d (nI p))))(e:S[c]? =some (.lst (gs.map dO)))(hg:gs[p]? =some g):e2 b_ (ag i) (ag j) (bK S δ)= .ok (dO g):=by
 refine ay (a:= .lst (gs.map dO)) (b:=nI p) ?_ ?_ (NZ hg)
 .unfold ag bK;rw[List.getElem?_map,hi];show(match some (match res S (.loc c) with | some d=>Sl.val d | none=> .un) with | some (.val d)=>R.ok d | _=> .no)=_
  rw[jv e]
 .unfold ag bK;rw[List.getElem?_map,hj];rfl
theorem GC{mi:Int}{S S1:aI}{k a b c n:Nat}{cells:D}{ss:List Str}{cell:Int}{a7 a8 Tn Kr:Option V3}{l:Aac}{ks:List Int}{gs:List Gt}(hk:k < S.length)(Z1:S.length<=a)(Pj:S.length<=b)(Td:S.length<=c)(pV:a≠b)(Qn:a≠c)(MM:b≠c)
 (hn:0 < n) (Pm:ks.length=n+gs.length) (Kt:ks.length < 10000) (Dm:∀(i:Nat) (g:Gt),gs[i]? =some g->ny (n+i) g) (E:NS k a b c l ks gs S S1) :
 W3 (mJ (nE mi k a b c n cells ss a7 a8 (some (.d (.int cell))) Tn Kr) S1) fun o S2=>∃dD,o= .nx dD/\(∃MY Ku Ks,dD=nE mi k a b c n cells ss a7 a8 MY Ku Ks)/\∃(g:Gt) (x:Int),ny ks.length g/\(x=(ks.length:Int)+10\/∃pl g0,gs[pl]? =some g0/\x=ks.getD (n+pl) 0/\g.1=g0.1/\g.2.1.map (ks.getD · 0)=g0.2.1.map (ks.getD · 0))/\NS k a b c l (ks++[x]) (gs++[g]) S S2:=by
 have hz:sizeLine=16777216:=sizeLine_eq;have Pb:gs.length < 10000:=by omega
 have la:a < S1.length:=(List.getElem?_eq_some_iff.mp E.ea).1;have lb:b < S1.length:=(List.getElem?_eq_some_iff.mp E.eb).1;have lc:c < S1.length:=(List.getElem?_eq_some_iff.mp E.ec).1;have hE:=E.len;unfold mJ nE;refine aU <| br (by simp) <| bZ <| av <| bQ (d:= .int cell) rfl <| bO <| wo cell E.p.1 fun S2 p2 l2 o2=>⟨_,rfl,?_⟩
 simp only[List.set];have E2:NS k a b c l ks gs S S2:=by
  obtain⟨f,u,y,e⟩:=E.p;exact⟨⟨p2.1,u,y,by rw[o2 k (by omega)];exact e⟩,by omega,fun j hj ML=>by rw[o2 j (by omega)];exact E.oth j hj ML,by rw[o2 a la];exact E.ea,by rw[o2 b lb];exact E.eb,by rw[o2 c lc];exact E.ec⟩
 have hmS:S.length<=S1.length:=by omega
 have ha:a≠S1.length:=by omega
 have hb:b≠S1.length:=by omega
 have hc:c≠S1.length:=by omega
 generalize S1.length=m at p2 l2 o2 hmS ha hb hc;have gate:∀(S3:aI),NS k a b c l ks gs S S3->rg m S3->∀(PR:Option V3),W3 (bp (kq 10 (bt g9 (aq (bz 12) (aq (bz 6) (aq (xP (ag 3)) bC))))) (kq 6 (xT (e2 dE (aW dh (ao (ag 6) aO)) (eC (.int 10)))))
  [some (.loc k),some (.d cells),some (.d (.int mi)),some (.d (.int 1)),some (.d (.lst (ss.map .str))),some (.loc a),some (.loc b),a7,a8,some (.d (nI n)),some (.loc c),some (.d (.int cell)),some (.loc m),PR] S3)
  fun o S4=>∃dD,o= .nx dD/\(∃MY Ku Ks,dD=nE mi k a b c n cells ss a7 a8 MY Ku Ks)/\∃(g:Gt) (x:Int),ny ks.length g/\(x=(ks.length:Int)+10\/∃pl g0,gs[pl]? =some g0/\x=ks.getD (n+pl) 0/\g.1=g0.1/\g.2.1.map (ks.getD · 0)=g0.2.1.map (ks.getD · 0))/\NS k a b c l (ks++[x]) (gs++[g]) S S4:=fun S3 E3 p3 PR=>by
  refine aU <| j_ (k:=c) rfl ⟨_,E3.ec⟩ <| bZ <| av <| w_var (v:= .loc m) rfl <| av <| w_var (v:= .loc b) rfl <| av <| bQ (d:= .int 1) rfl <| bO <| Ci (k:=m) p3 hb E3.eb (by omega) Kt fun g S4 hg v4=>?_
  have E4:=E3.own hmS hk ha hb hc v4;refine⟨dO g,_,rfl,E4.ec,by rw[List.length_map];omega,_,rfl,?_⟩
  have Tc:(S4.set c (.lst (gs.map dO++[dO g])))[b]? =some (.lst (ks.map .int)):=by rw[List.getElem?_set_ne (Ne.symm MM)];exact E4.eb
  refine j_ (k:=b) rfl ⟨_,Tc⟩ (xj (d:= .int ((ks.length:Int)+10)) (ay (a:= .int ks.length) (b:= .int 10) (jT Tc rfl) rfl rfl) rfl ⟨_,_,rfl,Tc,by rw[List.length_map];omega,_,rfl,⟨_,_,_,rfl⟩,g,(ks.length:Int)+10,hg, .inl rfl,E4.add hk Pj Td pV Qn MM⟩)
 have hT:∀{S3:aI},NS k a b c l ks gs S S3->bT (b2 yN (ag 10) (eNew (fI aO))) [some (.loc k),some (.d cells),some (.d (.int mi)),some (.d (.int 1)),some (.d (.lst (ss.map .str))),some (.loc a),some (.loc b),a7,a8,some (.d (nI n)),some (.loc c),some (.d (.int cell)),some (.loc m),Kr] S3= .ok (!gs.isEmpty) S3:=fun {S3} E3=>by
  unfold bT;have:b2 yN (ag 10) (eNew (fI aO)) (bK S3 [some (.loc k),some (.d cells),some (.d (.int mi)),some (.d (.int 1)),some (.d (.lst (ss.map .str))),some (.loc a),some (.loc b),a7,a8,some (.d (nI n)),some (.loc c),some (.d (.int cell)),some (.loc m),Kr])= .ok (!gs.isEmpty):=by
   refine dj (a:= .lst (gs.map dO)) (b:= .lst []) ?_ rfl ?_
   .unfold ag bK;show(match some (match res S3 (.loc c) with | some d=>Sl.val d | none=> .un) with | some (.val d)=>R.ok d | _=> .no)=_
    rw[jv E3.ec]
   .unfold yN;rw[ne_nil gs fun g hg=>?_]
    .rfl
    .obtain⟨i,hi⟩:=List.getElem?_of_mem hg;obtain⟨g1,g2,g3⟩:=Dm i g hi;have hil:=(List.getElem?_eq_some_iff.mp hi).1;exact⟨g1,g2,fun w hw=>by have:=g3 w hw;omega⟩
  rw[this];rfl
 refine l4 ?_;unfold C_;refine W3.bind (W3.eq (hT E2) ?_);cases hgs0:gs with
 | nil=>
   subst hgs0;exact W3.ok (gate S2 E2 p2 Kr)
 | cons g0 gs0=>
   rw[<-hgs0];have Dl:gs.isEmpty=false:=by rw[hgs0];rfl
   have hpos:0 < gs.length:=by rw[hgs0];simp
   rw[Dl];show W3 (JS _ _ _ _ S2) _;refine C2 <| draw (k:=m) rfl p2 rfl (by omega) (by omega) fun r S3 h1 h2 v3=>bQ (d:= .int 0) rfl ⟨_,_,decide (r=0),rfl,rfl,rfl,?_⟩
   have E3:=E2.own hmS hk ha hb hc v3;by_cases hr:r=0
   .rw [decide_eq_true hr,if_pos rfl];have lenG:aW dh (ao (ag 10) aO) (bK S3 [some (.loc k),some (.d cells),some (.d (.int mi)),some (.d (.int 1)),some (.d (.lst (ss.map .str))),some (.loc a),some (.loc b),a7,a8,some (.d (nI n)),some (.loc c),some (.d (.int cell)),some (.loc m),Kr])= .ok (.int gs.length):=by
     refine aQ (ds:=[.lst (gs.map dO)]) (aw ?_ rfl) (by rw[t6,List.length_map])
     unfold ag bK;show(match some (match res S3 (.loc c) with | some d=>Sl.val d | none=> .un) with | some (.val d)=>R.ok d | _=> .no)=_
     rw[jv E3.ec]
    refine aU <| br (by simp) <| Bg (k:=m) rfl v3.p lenG (by omega) (by omega) fun r4 S4 h3 h4 v4=>⟨_,rfl,?_⟩
    simp only[List.set];have E4:=E3.own hmS hk ha hb hc v4;obtain⟨pl,lM,epl⟩:∃pl:Nat,pl < gs.length/\D.int r4=nI pl:=⟨r4.toNat,by omega,by unfold nI;rw [Int.toNat_of_nonneg h3]⟩
    rw[epl];have SM:gs[pl]? =some gs[pl]:=List.getElem?_eq_getElem lM;obtain⟨q1,q2,q3⟩:=Dm pl _ SM;have hgo:ny ks.length gs[pl]:=⟨q1,q2,fun w hw=>by have:=q3 w hw;omega⟩
    refine aU <| j_ (k:=c) rfl ⟨_,E4.ec⟩ <| bZ <| av <| w_var (v:= .loc m) rfl <| av <| xj (d:=dO gs[pl]) (K1 rfl rfl E4.ec SM) (Ls _) <| av <| w_var (v:= .loc b) rfl <| bO <| zp (k:=m) v4.p hb E4.eb hgo Kt fun g S5 hg SQ SA v5=>?_
    have E5:=E4.own hmS hk ha hb hc v5;refine⟨dO g,_,rfl,E5.ec,by rw[List.length_map];omega,_,rfl,?_⟩
    have SH:(S5.set c (.lst (gs.map dO++[dO g])))[b]? =some (.lst (ks.map .int)):=by rw[List.getElem?_set_ne (Ne.symm MM)];exact E5.eb
    have hix:n+pl < ks.length:=by omega
    refine j_ (k:=b) rfl ⟨_,SH⟩ (xj (d:= .int ks[n+pl]) ?_ rfl ⟨_,_,rfl,SH,by rw[List.length_map];omega,_,rfl,⟨_,_,_,rfl⟩,g,ks[n+pl],hg, .inr ⟨pl,_,SM,by rw[List.getD_eq_getElem?_getD,List.getElem?_eq_getElem hix];rfl,SQ,SA⟩,E5.add hk Pj Td pV Qn MM⟩)
    refine ay (a:= .lst (ks.map .int)) (b:=nI (n+pl)) ?_ (ay (a:=nI n) (b:=nI pl) rfl rfl ?_) (Gr hix)
    .unfold ag bK;show(match some (match res (S5.set c (.lst (gs.map dO++[dO g]))) (.loc b) with | some d=>Sl.val d | none=> .un) with | some (.val d)=>R.ok d | _=> .no)=_
     rw[jv SH]
    .show R.ok (D.int ((n:Int)+(pl:Int)))=R.ok (D.int ((n+pl:Nat):Int));rw[Int.natCast_add]
   .rw [decide_eq_false hr,if_neg (by decide)]
    exact gate S3 E3 v3.p Kr
end K18
end
section
namespace K18
open PySem PySem.Spec PyProof.Rows L2 L3 MT
def pv(l:Aac)(gs:List Gt)(ms:List M)(p n:Nat):Bool:=lh (nv gs [] (di l ms [] l.length) gs.length) n p
theorem r_{gs:List Gt}{t:List Int}{w0:List M}{n:Nat}:∀{j i:Nat},i<=j->j<=gs.length->n < w0.length+i->lh (nv gs t w0 j) n=lh (nv gs t w0 i) n
 | 0,i,h,_,_=>by rw[show i=0 by omega]
 | j+1,i,h,hj,hn=>by
   by_cases q:i=j+1
   .rw [q]
   .rw [<-r_ (j:=j) (i:=i) (by omega) (by omega) hn]
    conv=>lhs;unfold nv
    rw[List.getElem?_eq_getElem (by omega:j < gs.length)]
    show lh (nv gs t w0 j++[_]) n=_;rw[wz (by rw[pM j (by omega)];omega)]
theorem AN{gs hs:List Gt}{t:List Int}{w0:List M}:∀i,i<=gs.length->nv (gs++hs) t w0 i=nv gs t w0 i
 | 0,_=>rfl
 | i+1,hi=>by
   unfold nv;rw[List.getElem?_append_left (by omega),List.getElem?_eq_getElem (by omega:i < gs.length),AN i (by omega)]
theorem xp{l:Aac}{x:Str × Nat}{ms:List M}{bad:List Int}:∀i,i<=l.length->di (l++[x]) ms bad i=di l ms bad i
 | 0,_=>rfl
 | i+1,hi=>by
   unfold di;rw[List.getElem?_append_left (by omega),xp i (by omega)]
theorem u9{l:Aac}{ms:List M}{bad:List Int}(hb:l.length<=ms.length):∀i,i<=l.length->(di l ms bad i).length=iz (l.take i)
 | 0,_=>rfl
 | i+1,hi=>by
   have h1:l[i]? =some l[i]:=List.getElem?_eq_getElem (by omega)
   have h2:ms[i]? =some ms[i]:=List.getElem?_eq_getElem (by omega)
   unfold di;rw[h1,h2];show(iI bad ms[i] l[i].2 (di l ms bad i)).length=_;rw[gh,u9 hb i (by omega),List.take_add_one,h1]
   unfold iz;simp only[Option.toList_some,List.map_append,List.sum_append,List.map_cons,List.map_nil,List.sum_cons,List.sum_nil];omega
theorem uR(b:M):∀m ws n,n < ws.length->lh (iI [] b m ws) n=lh ws n
 | 0,ws,n,h=>rfl
 | m+1,ws,n,h=>by unfold iI;rw [wz (by rw[gh];omega)];exact uR b m ws n h
theorem vj(b:M):∀m ws n,ws.length<=n->n < ws.length+m->lh (iI [] b m ws) n=b
 | 0,ws,n,h,h2=>by omega
 | m+1,ws,n,h,h2=>by
   have hl:=gh [] b m ws;unfold iI;by_cases q:n < ws.length+m
   .rw [wz (by omega)];exact vj b m ws n h q
   .rw [show n=(iI [] b m ws).length by omega,yf]
    funext p;simp
structure Iu (l:Aac) (ks:List Int):Prop where
 len:ks.length=iz l
 v:∀n,n < ks.length->∃j:Nat,j < l.length/\ks.getD n 0=(j:Int)/\∀ms:List M,l.length<=ms.length->lh (di l ms [] l.length) n=ms.getD j fun _=>false
theorem Iu.nil:Iu [] []:=⟨rfl,fun n h=>by simp at h⟩
theorem kr{ks:List Int}{xs:List Int}{n:Nat}(h:n < ks.length):(ks++xs).getD n 0=ks.getD n 0:=by rw[List.getD_eq_getElem?_getD,List.getElem?_append_left h,List.getD_eq_getElem?_getD]
theorem Iu.add{l:Aac}{ks:List Int}(h:Iu l ks)(s:Str)(w:Nat):Iu (l++[(s,w)]) (ks++List.replicate w (l.length:Int)):=by
 have hw:iz (l++[(s,w)])=iz l+w:=by simp [iz]
 refine⟨by rw[List.length_append,List.length_replicate,h.len,hw],fun n hn=>?_⟩
 rw[List.length_append,List.length_replicate] at hn;have step:∀ms:List M,(l++[(s,w)]).length<=ms.length->di (l++[(s,w)]) ms [] (l++[(s,w)]).length=iI [] (ms.getD l.length fun _=>false) w (di l ms [] l.length)/\(di l ms [] l.length).length=ks.length:=fun ms qz=>by
  rw[List.length_append] at qz ⊢;have qz:l.length < ms.length:=qz;refine⟨?_,by rw[u9 (by omega) _ (Nat.le_refl _),List.take_length,h.len]⟩
  show di (l++[(s,w)]) ms [] (l.length+1)=_
  conv=>lhs;unfold di
  rw[List.getElem?_append_right (Nat.le_refl _),Nat.sub_self,List.getElem?_eq_getElem qz,xp _ (Nat.le_refl _),List.getD_eq_getElem?_getD,List.getElem?_eq_getElem qz];rfl
 by_cases q:n < ks.length
 .obtain⟨j,hj,hk,hv⟩:=h.v n q;refine⟨j,by rw[List.length_append];omega,by rw[kr q];exact hk,fun ms qz=>?_⟩
  obtain⟨e1,e2⟩:=step ms qz;rw[e1,uR _ _ _ _ (by omega)]
  exact hv ms (by rw[List.length_append] at qz;omega)
 .refine⟨l.length,by rw[List.length_append];simp,?_,fun ms qz=>?_⟩
  .rw [List.getD_eq_getElem?_getD,List.getElem?_append_right (by omega),List.getElem?_replicate,if_pos (by omega)];rfl
  .obtain⟨e1,e2⟩:=step ms qz;rw[e1,vj _ _ _ _ (by omega) (by omega)]
structure KI (l:Aac) (gs:List Gt) (ks:List Int):Prop where
 len:ks.length=iz l+gs.length
 b:∀n,n < ks.length->ks.getD n 0 < (ks.length:Int)+10
 v:∀ms:List M,ms.length=l.length->∀p n n',n < ks.length->n' < ks.length->ks.getD n 0=ks.getD n' 0->pv l gs ms p n=pv l gs ms p n'
theorem Iu.ki{l:Aac}{ks:List Int}(h:Iu l ks)(hl:l.length<=9):KI l [] ks:=by
 refine⟨by rw[h.len];rfl,fun n hn=>?_,fun ms qz p n n' hn M3 e=>?_⟩
 .obtain⟨j,hj,hk,_⟩:=h.v n hn;rw[hk];omega
 .obtain⟨j,hj,hk,hv⟩:=h.v n hn;obtain⟨j',YS,hk',Si⟩:=h.v n' M3;have:j=j':=by rw[hk,hk'] at e;omega
  subst this;show lh (di l ms [] l.length) n p=lh (di l ms [] l.length) n' p;rw[hv ms (by omega),Si ms (by omega)]
section
variable {l:Aac} {gs:List Gt} {g:Gt} {ms:List M} {p n:Nat} {ks:List Int}
theorem F5(qz:ms.length=l.length):(di l ms [] l.length).length=iz l:=by rw[pR qz _ (Nat.le_refl _),List.take_length]
theorem Fb(qz:ms.length=l.length)(hn:n < iz l+gs.length):pv l (gs++[g]) ms p n=pv l gs ms p n:=by
 have h0:=F5 qz;unfold pv;rw[r_ (gs:=gs++[g]) (i:=gs.length) (by rw[List.length_append];omega) (Nat.le_refl _) (by omega),AN _ (Nat.le_refl _)]
theorem JV{i:Nat}(qz:ms.length=l.length)(h:gs[i]? =some g)(hg:ny (iz l+i) g):pv l gs ms p (iz l+i)=gv g.1 (g.2.1.map (pv l gs ms p)):=by
 have h0:=F5 qz;have hi:=(List.getElem?_eq_some_iff.mp h).1;unfold pv;rw[r_ (i:=i+1) (by omega) (Nat.le_refl _) (by omega)]
 conv=>lhs;unfold nv
 rw[h];show lh (nv gs [] (di l ms [] l.length) i++[fun p=>gF g (nv gs [] (di l ms [] l.length) i) p !=false]) (iz l+i) p=_
 have hl:=pM (gs:=gs) (turned:=[]) (w0:=di l ms [] l.length) i (by omega)
 rw[show iz l+i=(nv gs [] (di l ms [] l.length) i).length by omega,yf]
 show(gv g.1 (g.2.1.map fun n=>lh (nv gs [] (di l ms [] l.length) i) n p) !=false)=_
 have:g.2.1.map (fun n=>lh (nv gs [] (di l ms [] l.length) i) n p)=g.2.1.map fun n=>lh (nv gs [] (di l ms [] l.length) gs.length) n p:=List.map_congr_left fun z hz=>by
  rw[r_ (j:=gs.length) (i:=i) (by omega) (Nat.le_refl _) (by have:=hg.2.2 z hz;omega)]
 rw[this];simp
theorem ET{f:Nat->Bool}{ks:List Int}{N:Nat}(hf:∀a b,a < N->b < N->ks.getD a 0=ks.getD b 0->f a=f b):∀{u v:List Nat},(∀x∈u,x < N)->(∀x∈v,x < N)->u.map (ks.getD · 0)=v.map (ks.getD · 0)->u.map f=v.map f
 | [],[],_,_,_=>rfl
 | [],_ ::_,_,_,h=>by simp at h
 | _ ::_,[],_,_,h=>by simp at h
 | a ::u,b ::v,h1,h2,h=>by
   rw[List.map_cons,List.map_cons] at h;obtain⟨e1,e2⟩:=List.cons.inj h;rw[List.map_cons,List.map_cons,hf a b (h1 a List.mem_cons_self) (h2 b List.mem_cons_self) e1,ET hf (fun x hx=>h1 x (List.mem_cons_of_mem _ hx)) (fun x hx=>h2 x (List.mem_cons_of_mem _ hx)) e2]
theorem KI.add{x:Int}(h:KI l gs ks)(Dm:∀(i:Nat) (g:Gt),gs[i]? =some g->ny (iz l+i) g)(hg:ny ks.length g)
 (hx:x=(ks.length:Int)+10\/∃pl g0,gs[pl]? =some g0/\x=ks.getD (iz l+pl) 0/\g.1=g0.1/\g.2.1.map (ks.getD · 0)=g0.2.1.map (ks.getD · 0)):KI l (gs++[g]) (ks++[x]):=by
 have hl:=h.len;have hlast:(ks++[x]).getD ks.length 0=x:=by rw[List.getD_eq_getElem?_getD,List.getElem?_append_right (Nat.le_refl _),Nat.sub_self];rfl
 have hll:(ks++[x]).length=ks.length+1:=by simp
 refine⟨by rw[hll,hl,List.length_append];rfl,fun n hn=>?_,?_⟩
 .rw [hll] at hn ⊢;by_cases q:n < ks.length
  .rw [kr q];have:=h.b n q;omega
  .rw [show n=ks.length by omega,hlast]
   rcases hx with rfl | ⟨pl,g0,h0,rfl,_⟩
   .omega
   .have:=h.b (iz l+pl) (by have:=(List.getElem?_eq_some_iff.mp h0).1;omega);omega
 .intro ms qz p;have new:∀pl g0,gs[pl]? =some g0->x=ks.getD (iz l+pl) 0->g.1=g0.1->g.2.1.map (ks.getD · 0)=g0.2.1.map (ks.getD · 0)->pv l (gs++[g]) ms p ks.length=pv l gs ms p (iz l+pl):=fun pl g0 h0 _ e1 e2=>by
   have lM:=(List.getElem?_eq_some_iff.mp h0).1;have hgat:(gs++[g])[gs.length]? =some g:=by rw[List.getElem?_append_right (Nat.le_refl _),Nat.sub_self];rfl
   rw[hl,JV qz hgat (by rw[<-hl];exact hg),JV qz h0 (Dm pl g0 h0),e1]
   have e3:g.2.1.map (pv l (gs++[g]) ms p)=g.2.1.map (pv l gs ms p):=List.map_congr_left fun z hz=>Fb qz (by have:=hg.2.2 z hz;omega)
   rw[e3];congr 1;exact ET (N:=ks.length) (fun a b ha hb e=>h.v ms qz p a b ha hb e) hg.2.2 (fun z hz=>by have:=(Dm pl g0 h0).2.2 z hz;omega) e2
  have old:∀n,n < ks.length->pv l (gs++[g]) ms p n=pv l gs ms p n:=fun n hn=>Fb qz (by omega)
  have mix:∀n,n < ks.length->ks.getD n 0=x->pv l (gs++[g]) ms p n=pv l (gs++[g]) ms p ks.length:=fun n hn e=>by
   rcases hx with rfl | ⟨pl,g0,h0,hx,e1,e2⟩
   .have:=h.b n hn;omega
   .rw [new pl g0 h0 hx e1 e2,old n hn];exact h.v ms qz p n _ hn (by have:=(List.getElem?_eq_some_iff.mp h0).1;omega) (e.trans hx)
  intro n n' hn M3 e;rw[hll] at hn M3;by_cases q:n < ks.length
  .rw [kr q] at e;by_cases q':n' < ks.length
   .rw [kr q'] at e;rw[old n q,old n' q'];exact h.v ms qz p n n' q q' e
   .have en':n'=ks.length:=by omega
    subst en';rw[hlast] at e;exact mix n q e
  .have en:n=ks.length:=by omega
   subst en;by_cases q':n' < ks.length
   .rw [kr q',hlast] at e;exact(mix n' q' e.symm).symm
   .rw [show n'=ks.length by omega]
end
end K18
end
section
namespace K18
open PySem PySem.Spec PyProof.Rows L2 L3 MT
theorem DV{mi:Int}{S:aI}{k:Nat}{cs:List Int}(p:rg k S)(MJ:cs.length < 1000)(Z4:1<=mi/\mi<=6){Q:V3->aI->Prop}
 (h:∀(l:Aac) (gs:List Gt) (os:Aad) S1,(∀x∈l,1<=x.2/\x.2<=3)->1<=l.length->l.length<=6->gs.length=cs.length->(∀(i:Nat) (g:Gt),gs[i]? =some g->ny (iz l+i) g)->1<=os.length->os.length < 100->(∀x∈os,(1<=x.2.length/\x.2.length<=3)/\(∀w∈x.2,w < iz l+gs.length)/\∀a b,x.2=[a,b]->∀ms,ms.length=l.length->∀p,pv l gs ms p a=pv l gs ms p b)->Ev k S S1->Q (.d (cg l gs os)) S1) :
 W3 (n_ [.loc k, .d (.lst (cs.map .int)), .d (.int mi), .d (.int 1)] S) Q:=by
 have hz:sizeLine=16777216:=sizeLine_eq;have hk:=p.lt;unfold n_;refine sY (xh rfl ?_);simp only[cq,nj,List.map,List.length,List.replicate,List.cons_append,List.nil_append,Nat.reduceAdd,Nat.reduceSub];unfold qa;refine aU <| br (by simp) <| bZ <| av <| w_var (v:= .loc k) rfl <| av <| bQ (d:= .int 8) rfl <| bO <| EB (m:=8) p (by omega) fun ss S1 Kq v1=>⟨_,rfl,?_⟩
 simp only[List.set];have l1:=v1.len;refine aU <| br (by simp) <| lY (ds:=[]) rfl ⟨_,rfl,?_⟩
 simp only[List.set];refine aU <| br (by simp) <| lY (ds:=[]) rfl ⟨_,rfl,?_⟩
 simp only[List.set];rw[l1,show(S1++[SO.lst []]).length=S.length+1 by simp [l1]]
 have E0:IS k S.length (S.length+1) [] [] S (S1++[.lst []]++[.lst []]):=by
  refine⟨(v1.p.push []).push [],by simp [l1],fun j hj hk=>by rw[List.getElem?_append_left (by simp;omega),List.getElem?_append_left (by omega)];exact v1.oth j hk,?_,?_,by omega⟩
  .rw [List.getElem?_append_left (by simp;omega),<-l1];exact bx _ _
  .have:=bx (S1++[SO.lst []]) (SO.lst []);rw[show(S1++[SO.lst []]).length=S.length+1 by simp [l1]] at this
   exact this
 refine aU <| iK <| qk <| CB <| bQ (d:= .int 1) rfl <| draw (k:=k) rfl E0.p rfl (by omega) (by omega) fun r S2 h1 h2 v2=>⟨_,_, .int ((1+r).toNat:Nat),rfl,rfl,by rw[Int.toNat_of_nonneg (by omega)];rfl,(1+r).toNat,rfl,by omega,?_⟩
 have E2:IS k S.length (S.length+1) [] [] S S2:=⟨v2.p,by rw[v2.len];exact E0.len,fun j hj hk=>(v2.oth j hk).trans (E0.oth j hj hk),by rw[v2.oth _ (by omega)];exact E0.ea,by rw[v2.oth _ (by omega)];exact E0.eb,by omega⟩
 refine(cF (fun i δ S3=>∃b a7 a8,δ=iE mi k S.length b (.lst (cs.map .int)) ss a7 a8/\∃(l:Aac) (ks:List Int),l.length=i/\(∀x∈l,1<=x.2/\x.2<=3)/\ks.length=iz l/\iz l<=3*i/\i<=iz l/\Iu l ks/\IS k S.length b l ks S S3)
  ⟨S.length+1,_,_,rfl,[],[],rfl,by simp,rfl,by simp [iz],by omega,Iu.nil,E2⟩ ?_).mono fun o S3 ⟨MX,e3,b,a7,a8,hδ,l,ks,hl,Ng,Kt,S_,Ql,hKn,E3⟩=>⟨MX,e3,?_⟩
 .rintro i v δ S3 hv ⟨b,a7,a8,rfl,l,ks,hl,Ng,Kt,S_,Ql,hKn,E3⟩;rw[List.getElem?_map] at hv;cases qq:(cC 0 (1+r).toNat)[i]? with
  | none=>rw [qq] at hv;cases hv
  | some d0=>
    rw[qq] at hv;obtain⟨hi,rfl⟩:=tj qq;cases hv;refine⟨iE mi k S.length b (.lst (cs.map .int)) ss (some (.d (nI i))) a8,rfl,?_⟩;refine(JA hk rfl Kq (by omega) (by omega) (by omega) E3).mono fun o S4 ⟨Dx,e4,b',Sk,h4,s,w,Se,SX,E4⟩=>⟨Dx,e4,b',_,Sk,h4,l++[(s,w)],ks++List.replicate w (i:Int),by simp [hl],?_,?_,?_,?_,by rw[<-hl];exact hKn.add s w,E4⟩
    .intro x hx;rcases List.mem_append.mp hx with z | z
     .exact Ng x z
     .rw [List.mem_singleton] at z;subst z;exact⟨Se,SX⟩
    .rw [List.length_append,List.length_replicate,Kt];simp [iz]
    .have:iz (l++[(s,w)])=iz l+w:=by simp [iz]
     omega
    .have:iz (l++[(s,w)])=iz l+w:=by simp [iz]
     omega
 have hrl:((cC 0 (1+r).toNat).map V3.d).length=(1+r).toNat:=by simp [cC]
 rw[hrl] at hl S_ Ql;subst hδ;unfold iE;refine aU <| br (by simp) <| xj (d:=nI (iz l)) ?_ rfl ⟨_,rfl,?_⟩
 .refine(jT E3.eb rfl).trans ?_;rw[Kt];rfl
 simp only[List.set];refine aU <| br (by simp) <| lY (ds:=[]) rfl ⟨_,rfl,?_⟩
 simp only[List.set];have hE3:=E3.len;have la:S.length < S3.length:=(List.getElem?_eq_some_iff.mp E3.ea).1;have lb:b < S3.length:=(List.getElem?_eq_some_iff.mp E3.eb).1;have Pj:=E3.hb;have N0:NS k S.length b S3.length l ks ([]:List Gt) S (S3++[.lst []]):=⟨E3.p.push [],by simp;omega,fun j hj hk=>by rw[List.getElem?_append_left (by omega)];exact E3.oth j hj hk,by rw[List.getElem?_append_left la];exact E3.ea,by rw[List.getElem?_append_left lb];exact E3.eb,bx _ _⟩
 refine aU <| iK <| rG (ds:=cs.map .int) rfl ?_
 refine(cF (fun i δ S4=>(∃MY Ku Ks,δ=nE mi k S.length b S3.length (iz l) (.lst (cs.map .int)) ss a7 a8 MY Ku Ks)/\∃(ks:List Int) (gs:List Gt),gs.length=i/\ks.length=iz l+gs.length/\(∀(i:Nat) (g:Gt),gs[i]? =some g->ny (iz l+i) g)/\KI l gs ks/\NS k S.length b S3.length l ks gs S S4)
  ⟨⟨_,_,_,rfl⟩,ks,[],rfl,by simp [Kt],by simp,hKn.ki (by omega),N0⟩ ?_).mono fun o S4 ⟨Dx,e4,⟨MY,Ku,Ks,hδ⟩,ks,gs,Pb,Pm,Dm,hKI,N4⟩=>⟨Dx,e4,?_⟩
 .rintro i v δ S4 hv ⟨⟨MY,Ku,Ks,rfl⟩,ks,gs,Pb,Pm,Dm,hKI,N4⟩;have hi:i < 1000:=by
   have:=(List.getElem?_eq_some_iff.mp hv).1;rw[List.length_map,List.length_map] at this;omega
  obtain⟨d0,M0,rfl⟩:=List.mem_map.mp (List.mem_of_getElem? hv);obtain⟨c,_,rfl⟩:=List.mem_map.mp M0;refine⟨nE mi k S.length b S3.length (iz l) (.lst (cs.map .int)) ss a7 a8 (some (.d (.int c))) Ku Ks,rfl,?_⟩;refine(GC hk (by omega) (by omega) (by omega) (by omega) (by omega) (by omega) (by omega) Pm (by omega) Dm N4).mono fun o S5 ⟨SN,e5,h5,g,x,hg,hgx,N5⟩=>⟨SN,e5,h5,ks++[x],gs++[g],by simp [Pb],by simp [Pm];omega,?_,hKI.add Dm hg hgx,N5⟩
  intro j g' hj;by_cases hjl:j < gs.length
  .rw [List.getElem?_append_left hjl] at hj;exact Dm j g' hj
  .rw [List.getElem?_append_right (by omega)] at hj
   have h0:j - gs.length=0:=by
    have:=(List.getElem?_eq_some_iff.mp hj).1;simp at this;omega
   rw[h0] at hj;cases hj;rw[show iz l+j=ks.length by omega]
   exact hg
 rw[List.length_map,List.length_map] at Pb;subst hδ;unfold nE;refine fE <| BM <| av <| w_var (v:= .loc S.length) rfl <| av <| w_var (v:= .loc S3.length) rfl <| av <| bZ <| av <| w_var (v:= .loc k) rfl <| av <| w_var (v:= .loc b) rfl <| av <| bQ (d:= .lst (ss.map .str)) rfl <| av <| bQ (d:= .int 6) rfl <| bO <| C7 N4.p (by omega) N4.eb (by omega) (by omega) Kq fun os S5 MQ Hd uI v5=>bO ⟨by simp;omega,_,rfl,?_⟩
 have ea5:S5[S.length]? =some (.lst (l.map MT.inD)):=by rw[v5.oth _ (by omega)];exact N4.ea
 have ec5:S5[S3.length]? =some (.lst (gs.map dO)):=by rw[v5.oth _ (by omega)];exact N4.ec
 have hl5:=v5.len;have hN4:=N4.len;refine⟨v5.p.1,?_,cg l gs os,?_,?_⟩
 .show ei S.length (.tup [.loc S.length, .loc S3.length, .d (.lst (os.map pU))])=true;simp [ei,pJ];omega
 .show res S5 (.tup [.loc S.length, .loc S3.length, .d (.lst (os.map pU))])=_;simp [res,xM,ea5,ec5,cg]
 .refine h l gs os _ Ng (by omega) (by omega) (by omega) Dm MQ Hd (fun x hx=>⟨(uI x hx).1,by have:=(uI x hx).2.1;rw [Pm] at this;exact this,fun a b pV ms qz p=>hKI.v ms qz p a b ((uI x hx).2.1 a (by rw[pV];simp)) ((uI x hx).2.1 b (by rw[pV];simp)) ((uI x hx).2.2 a b pV)⟩) ⟨⟨v5.p.1.take _,?_⟩,by rw[List.length_take];omega,fun j hj=>?_⟩
  .obtain⟨_,x,c,e⟩:=v5.p;exact⟨x,c,by rw[List.getElem?_take_of_lt hk];exact e⟩
  .by_cases hjl:j < S.length
   .rw [List.getElem?_take_of_lt hjl,v5.oth j hj,N4.oth j hjl hj]
   .rw [List.getElem?_eq_none (by rw[List.length_take];omega),List.getElem?_eq_none (by omega)]
end K18
end
section
set_option maxHeartbeats 1000000
namespace K18
open PySem PySem.Spec PyProof.Rows L2 L3 MT
theorem yy:∀(s:Nat) (free T:List Nat),T∈iU free s->T.Sublist free
 | 0,free,T,h=>by
   unfold iU at h;rw[List.mem_singleton.mp h];exact List.nil_sublist _
 | s+1,free,T,h=>by
   unfold iU at h;obtain⟨a,ha,h⟩:=List.mem_flatMap.mp h;obtain⟨U,hU,rfl⟩:=List.mem_map.mp h;have ha:=List.mem_range.mp ha;have e:free.drop a=free.getD a 0 ::free.drop (a+1):=by
    rw[List.drop_eq_getElem_cons ha,List.getD_eq_getElem?_getD,List.getElem?_eq_getElem ha];rfl
   refine List.Sublist.trans ?_ (List.drop_sublist a free);rw[e];exact(yy s _ U hU).cons_cons _
theorem wx{α:Type}(f:List Nat->Option α)(x:Nat):∀l:Aae,(l.map (x ::·)).findSome? f=l.findSome? fun T=>f (x ::T)
 | []=>rfl
 | T ::l=>by rw[List.map_cons,List.findSome?_cons,List.findSome?_cons,wx f x l]
theorem v_{α β:Type}(f:β->Option α)(g:Nat->List β):∀xs:List Nat,(xs.flatMap g).findSome? f=xs.findSome? fun s=>(g s).findSome? f
 | []=>rfl
 | x ::xs=>by
   rw[List.flatMap_cons,List.findSome?_append,List.findSome?_cons,v_ f g xs];cases(g x).findSome? f <;> rfl
theorem pz{α β:Type}{f g:α->Option β}:∀{l:List α},(∀x∈l,f x=g x)->l.findSome? f=l.findSome? g
 | [],_=>rfl
 | x ::l,h=>by rw[List.findSome?_cons,List.findSome?_cons,h x List.mem_cons_self,pz fun y hy=>h y (List.mem_cons_of_mem _ hy)]
theorem xS{α:Type}(n:Nat):∀(s:Nat) (xs:List Nat) (f:List Nat->Option α),(∀s',s=s'+1->∀T∈iU xs s',f (T++[n])=none)->(iU (xs++[n]) s).findSome? f=(iU xs s).findSome? f
 | 0,xs,f,_=>by unfold iU;rfl
 | s+1,xs,f,h=>by
   unfold iU;rw[v_,v_,List.length_append,show xs.length+[n].length=xs.length+1 from rfl,List.range_succ,List.findSome?_append]
   have e1:(List.range xs.length).findSome? (fun a=>((iU ((xs++[n]).drop (a+1)) s).map ((xs++[n]).getD a 0 ::·)).findSome? f)=(List.range xs.length).findSome? fun a=>((iU (xs.drop (a+1)) s).map (xs.getD a 0 ::·)).findSome? f:=by
    refine pz fun a ha=>?_
    have ha:=List.mem_range.mp ha;have g1:(xs++[n]).getD a 0=xs.getD a 0:=by rw[List.getD_eq_getElem?_getD,List.getD_eq_getElem?_getD,List.getElem?_append_left ha]
    have g2:(xs++[n]).drop (a+1)=xs.drop (a+1)++[n]:=by rw[List.drop_append_of_le_length (by omega)]
    rw[g1,g2,wx,wx];refine xS n s _ _ fun s' hs T hT=>?_
    subst hs;refine h (s'+1) rfl (xs.getD a 0 ::T) ?_;unfold iU;exact List.mem_flatMap.mpr ⟨a,List.mem_range.mpr ha,List.mem_map.mpr ⟨T,hT,rfl⟩⟩
   have e2:[xs.length].findSome? (fun a=>((iU ((xs++[n]).drop (a+1)) s).map ((xs++[n]).getD a 0 ::·)).findSome? f)=none:=by
    have g1:(xs++[n]).drop (xs.length+1)=[]:=List.drop_of_length_le (by simp)
    have g2:(xs++[n]).getD xs.length 0=n:=by rw[List.getD_eq_getElem?_getD,List.getElem?_append_right (Nat.le_refl _),Nat.sub_self];rfl
    rw[List.findSome?_cons,g1,g2,wx];have g3:(iU [] s).findSome? (fun T=>f (n ::T))=none:=by
     cases s with
     | zero=>
       show [[]].findSome? (fun T=>f (n ::T))=none
       rw[List.findSome?_cons];have:=h 0 rfl [] (by unfold iU;simp)
       rw[show f (n ::[])=none from this];rfl
     | succ s=>rfl
    rw[g3];rfl
   rw[e1,e2];cases(List.range xs.length).findSome? fun a=>((iU (xs.drop (a+1)) s).map (xs.getD a 0 ::·)).findSome? f <;> rfl
theorem KZ(l:List Bool):((NU l).1 && (NU l).2)=false:=by
 match l with
 | []=>rfl
 | [a]=>cases a <;> rfl
 | [a,b]=>cases a <;> cases b <;> rfl
 | [a,b,d]=>cases a <;> cases b <;> cases d <;> rfl
 | _ ::_ ::_ ::_ ::_=>rfl
section
variable {c m:Nat} {ins:Aac} {gs:List Gt} {os:Aad} {safe:Bool}
theorem Kc(ws:List M)(x:Str × List Nat)(p:Nat):((pt ws x p).1 && (pt ws x p).2)=false:=KZ _
theorem Io:eQ safe c ins gs os []=none:=by
 unfold eQ;have e:Bz safe c ins gs os (nZ [])=fun _=>false:=funext fun p=>by
  show(os.any fun x=>brk safe (pt (Wd c ins gs [] []) x p) (pt (Wd c ins gs [] []) x p))=false
  rw[List.any_eq_false];intro x hx;have h:=Kc (Wd c ins gs [] []) x p;generalize pt (Wd c ins gs [] []) x p=A at h ⊢;obtain⟨a,b⟩:=A;cases a <;> cases b <;> cases safe <;> first | decide | (exact absurd h (by decide))
 rw[e];have:(List.range (2 ^ c)).filter (fun _=>false)=[]:=by rw[List.filter_eq_nil_iff];intro a _;decide
 rw[this];rfl
def bo(safe:Bool)(c:Nat)(ins:Aac)(gs:List Gt)(os:Aad)(m:Nat):Option D:=(List.range (m+1)).findSome? fun s=>(iU (kW gs) s).findSome? (eQ safe c ins gs os)
theorem eu:bears safe c ins gs os m=(bo safe c ins gs os m).getD dG:=rfl
theorem Lz{T:List Nat}{d:D}(h:eQ safe c ins gs os T=some d):∃p,d=fJ T p:=by
 unfold eQ at h;obtain⟨p,_,e⟩:=Option.map_eq_some_iff.mp h;exact⟨p,e.symm⟩
theorem jD{d:D}(h:bo safe c ins gs os m=some d):∃T p,d=fJ T p/\T.Sublist (kW gs)/\1<=T.length/\T.length<=m:=by
 unfold bo at h;obtain⟨s,hs,h⟩:=List.exists_of_findSome?_eq_some h;obtain⟨T,hT,h⟩:=List.exists_of_findSome?_eq_some h;obtain⟨p,rfl⟩:=Lz h;have hl:=(wq hT).1;have:=List.mem_range.mp hs;refine⟨T,p,rfl,yy s _ T hT,?_,by omega⟩
 rcases Nat.lt_or_ge 0 T.length with q | q
 .exact q
 .rw [List.length_eq_zero_iff.mp (by omega:T.length=0),Io] at h;cases h
theorem ID{d:D}(h:bo safe c ins gs os m=some d):bo safe c ins gs os (m+1)=some d:=by
 unfold bo at*;rw[List.range_succ,List.findSome?_append,h];rfl
theorem HJ:bo safe c ins gs os 0=none:=by
 cases e:bo safe c ins gs os 0 with
 | none=>rfl
 | some d=>obtain⟨T,p,_,_,h1,h2⟩:=jD e;omega
theorem HR(h:kW gs=[]):bo safe c ins gs os m=none:=by
 cases e:bo safe c ins gs os m with
 | none=>rfl
 | some d=>
   obtain⟨T,p,_,h0,h1,h2⟩:=jD e;rw[h] at h0;rw[List.sublist_nil.mp h0] at h1;simp at h1
theorem xv{T:List Nat}:eQ safe c ins gs os T=none↔∀p,p < 2 ^ c->Bz safe c ins gs os (nZ T) p=false:=by
 unfold eQ;rw[Option.map_eq_none_iff,List.head?_eq_none_iff,List.filter_eq_nil_iff];exact⟨fun h p hp=>by have:=h p (List.mem_range.mpr hp);simpa using this,fun h p hp=>by rw[h p (List.mem_range.mp hp)];decide⟩
theorem Ju:bo safe c ins gs os m=none↔∀s,s < m+1->∀T∈iU (kW gs) s,eQ safe c ins gs os T=none:=by
 unfold bo;rw[List.findSome?_eq_none_iff];exact⟨fun h s hs=>List.findSome?_eq_none_iff.mp (h s (List.mem_range.mpr hs)),fun h s hs=>List.findSome?_eq_none_iff.mpr (h s (List.mem_range.mp hs))⟩
theorem D3{A B:Bool × Bool}(hA:(A.1 && A.2)=false)(h:brk false A B=false):brk true A B=false:=by
 obtain⟨a,b⟩:=A;obtain⟨d,e⟩:=B;cases a <;> cases b <;> cases d <;> cases e <;> first | rfl | (exact absurd hA (by decide)) | (exact absurd h (by decide))
theorem Jp(h:bo false c ins gs os m=none):bo true c ins gs os m=none:=by
 rw[Ju] at h ⊢;intro s hs T hT;have h1:=h s hs T hT;rw[xv] at h1 ⊢;intro p hp;have h2:=h1 p hp;unfold Bz at h2 ⊢;rw[List.any_eq_false] at h2 ⊢;intro x hx;have h3:=h2 x hx;rw[Bool.not_eq_true] at h3 ⊢;exact D3 (Kc _ _ _) h3
theorem JW{Au:Aad}{GL:Bool}(h:∀t,Bz safe c ins gs os t=Bz GL c ins gs Au t):bo safe c ins gs os m=bo GL c ins gs Au m:=by
 have:eQ safe c ins gs os=eQ GL c ins gs Au:=funext fun T=>by unfold eQ;rw [h]
 unfold bo;rw[this]
theorem DF{x:Str × List Nat}(hx:x∈os):bo safe c ins gs (os++[(nm,x.2)]) m=bo safe c ins gs os m:=JW fun t=>funext fun p=>by
 unfold Bz;rw[List.any_append];have e:([(nm,x.2)].any fun y:Str × List Nat=>brk safe (pt (Wd c ins gs [] []) y p) (pt (Wd c ins gs t []) y p))=brk safe (pt (Wd c ins gs [] []) x p) (pt (Wd c ins gs t []) x p):=by
  rw[List.any_cons,List.any_nil,Bool.or_false];rfl
 rw[e];cases q:brk safe (pt (Wd c ins gs [] []) x p) (pt (Wd c ins gs t []) x p) with
 | false=>rw [Bool.or_false]
 | true=>
   rw[Bool.or_true];exact(List.any_eq_true.mpr ⟨x,hx,q⟩).symm
theorem DO(h:∀x∈os,x.2.length=1):bo false c ins gs os m=bo true c ins gs os m:=JW fun t=>funext fun p=>by
 unfold Bz;rw[Bool.eq_iff_iff,List.any_eq_true,List.any_eq_true];have key:∀x∈os,brk false (pt (Wd c ins gs [] []) x p) (pt (Wd c ins gs t []) x p)=brk true (pt (Wd c ins gs [] []) x p) (pt (Wd c ins gs t []) x p):=fun x hx=>by
  obtain⟨nm,ws⟩:=x;have h1:ws.length=1:=h _ hx
  match ws,h1 with
  | [w],_=>
    show brk false (!(lh (Wd c ins gs [] []) w p),lh (Wd c ins gs [] []) w p) (!(lh (Wd c ins gs t []) w p),lh (Wd c ins gs t []) w p)=brk true (!(lh (Wd c ins gs [] []) w p),lh (Wd c ins gs [] []) w p) (!(lh (Wd c ins gs t []) w p),lh (Wd c ins gs t []) w p);generalize lh (Wd c ins gs [] []) w p=a;generalize lh (Wd c ins gs t []) w p=b;cases a <;> cases b <;> rfl
 exact⟨fun⟨x,hx,e⟩=>⟨x,hx,by rw[<-key x hx];exact e⟩,fun⟨x,hx,e⟩=>⟨x,hx,by rw[key x hx];exact e⟩⟩
end
end K18
end
section
namespace K18
open PySem PySem.Spec PyProof.Rows L2 L3 MT
def mk(T:List Nat)(gs:List Gt):List Gt:=gs.mapIdx fun i g=>(g.1,g.2.1,g.2.2 || T.contains i)
section
variable {c m:Nat} {ins:Aac} {gs:List Gt} {os:Aad} {safe:Bool} {T:List Nat}
theorem mD:(mk T gs).length=gs.length:=by unfold mk;simp
theorem zy(i:Nat):(mk T gs)[i]? =(gs[i]?).map fun g=>(g.1,g.2.1,g.2.2 || T.contains i):=by unfold mk;rw [List.getElem?_mapIdx]
theorem DX(NO:eZ ins gs os):eZ ins (mk T gs) os:=⟨NO.hi,NO.hw,by rw[mD];exact NO.hg,fun i x h=>by
 rw[zy] at h;cases q:gs[i]? with
 | none=>rw [q] at h;cases h
 | some g=>rw [q] at h;cases h;exact NO.g i g q,NO.ho,by rw[mD];exact NO.o⟩
theorem DQ:kW (mk T gs)=(kW gs).filter fun x=>!T.contains x:=by
 unfold kW;rw[mD,List.filter_filter];refine List.filter_congr fun i _=>?_
 rw[zy];cases gs[i]? with
 | none=>simp
 | some g=>
   show(!(g.2.2 || T.contains i))=(!T.contains i && !g.2.2)
   cases g.2.2 <;> cases T.contains i <;> rfl
theorem zu:∀x∈kW gs,x < gs.length/\∃g,gs[x]? =some g/\g.2.2=false:=fun x hx=>by
 unfold kW at hx;obtain⟨h1,h2⟩:=List.mem_filter.mp hx;have hl:=List.mem_range.mp h1;refine⟨hl,gs[x],List.getElem?_eq_getElem hl,?_⟩;rw[List.getElem?_eq_getElem hl] at h2;simpa using h2
theorem Iz:kW (mk (List.range gs.length) gs)=[]:=by
 rw[DQ,List.filter_eq_nil_iff];intro x hx;have:=(zu x hx).1;simp [this]
theorem GF:(kW gs).Pairwise (· < ·):=by
 unfold kW;exact List.pairwise_lt_range.filter _
theorem Oq{d:D}(h:bo safe c ins (mk T gs) os m=some d):∃U p,d=fJ U p/\∀x∈U,x ∉ T:=by
 obtain⟨U,p,rfl,h1,_,_⟩:=jD h;refine⟨U,p,rfl,fun x hx q=>?_⟩
 have:=h1.subset hx;rw[DQ] at this;have:=(List.mem_filter.mp this).2;simp at this;exact this q
variable {g:Gt}
theorem A5{t t':List Int}{w0:List M}:∀i,i<=gs.length->(∀j:Nat,j < i->t'.contains (j:Int)=t.contains (j:Int))->nv (gs++[g]) t' w0 i=nv gs t w0 i
 | 0,_,_=>rfl
 | i+1,hi,h=>by
   unfold nv;rw[List.getElem?_append_left (by omega:i < gs.length),A5 i (by omega) fun j hj=>h j (by omega)]
   cases gs[i]? with
   | none=>rfl
   | some x=>
     show _++[_]=_++[_];rw[h i (by omega)]
theorem EZ(hg:g.2.2=false):kW (gs++[g])=kW gs++[gs.length]:=by
 unfold kW;rw[List.length_append,show gs.length+[g].length=gs.length+1 from rfl,List.range_succ,List.filter_append]
 congr 1
 .refine List.filter_congr fun i hi=>?_
  rw[List.getElem?_append_left (List.mem_range.mp hi)]
 .rw [List.filter_cons,List.getElem?_append_right (Nat.le_refl _),Nat.sub_self];show(if(!g.2.2)=true then _ else _)=_
  rw[hg];rfl
theorem EU{t t':List Int}(NO:eZ ins gs os)(hc:ins.length=c)(h:∀j:Nat,j < gs.length->t'.contains (j:Int)=t.contains (j:Int)){x:Str × List Nat}(hx:x∈os)(p:Nat):pt (Wd c ins (gs++[g]) t' []) x p=pt (Wd c ins gs t []) x p:=by
 have e:Wd c ins (gs++[g]) t' []=Wd c ins gs t []++[(fun p=>gF g (Wd c ins gs t []) p !=t'.contains (gs.length:Int))]:=by
  unfold Wd Ek;rw[List.length_append,show gs.length+[g].length=gs.length+1 from rfl]
  conv=>lhs;unfold nv
  rw[List.getElem?_append_right (Nat.le_refl _),Nat.sub_self];show nv (gs++[g]) t' _ gs.length++[fun p=>gF g (nv (gs++[g]) t' _ gs.length) p !=t'.contains (gs.length:Int)]=_
  rw[A5 gs.length (Nat.le_refl _) h]
 have hl:(Wd c ins gs t []).length=iz ins+gs.length:=yP (by unfold uj;simp [hc])
 unfold pt;congr 1;unfold tell;rw[List.map_map,List.map_map];refine List.map_congr_left fun w hw=>?_
 have hw:=(NO.o x hx).2 w hw;show lh (Wd c ins (gs++[g]) t' []) w p=lh (Wd c ins gs t []) w p;rw[e];unfold lh;rw[List.getD_eq_getElem?_getD,List.getD_eq_getElem?_getD,List.getElem?_append_left (by omega)]
theorem AB{t t':List Int}(NO:eZ ins gs os)(hc:ins.length=c)(h:∀j:Nat,j < gs.length->t'.contains (j:Int)=t.contains (j:Int)):Bz safe c ins (gs++[g]) os t'=Bz safe c ins gs os t:=funext fun p=>by
 unfold Bz;rw[Bool.eq_iff_iff,List.any_eq_true,List.any_eq_true];have key:∀x∈os,brk safe (pt (Wd c ins (gs++[g]) [] []) x p) (pt (Wd c ins (gs++[g]) t' []) x p)=brk safe (pt (Wd c ins gs [] []) x p) (pt (Wd c ins gs t []) x p):=fun x hx=>by
  rw[EU NO hc (t:=[]) (t':=[]) (fun _ _=>rfl) hx,EU NO hc h hx]
 exact⟨fun⟨x,hx,e⟩=>⟨x,hx,by rw[<-key x hx];exact e⟩,fun⟨x,hx,e⟩=>⟨x,hx,by rw[key x hx];exact e⟩⟩
theorem Jr(NO:eZ ins gs os)(hc:ins.length=c)(hg:g.2.2=false):bo safe c ins (gs++[g]) os m=bo safe c ins gs os m:=by
 have e1:∀T:List Nat,(∀x∈T,x < gs.length)->eQ safe c ins (gs++[g]) os T=eQ safe c ins gs os T:=fun T _=>by
  unfold eQ;rw[AB NO hc (t:=nZ T) (t':=nZ T) fun _ _=>rfl]
 have e2:∀T:List Nat,eQ safe c ins gs os T=none->eQ safe c ins (gs++[g]) os (T++[gs.length])=none:=fun T h=>by
  rw[xv] at h ⊢;intro p hp;rw[AB NO hc (t:=nZ T) fun j hj=>by
   rw[wU,wU,Bool.eq_iff_iff,List.contains_iff_mem,List.contains_iff_mem,List.mem_append,List.mem_singleton];exact⟨fun q=>q.elim id fun q=>by omega, .inl⟩]
  exact h p hp
 have main:∀k,(List.range k).findSome? (fun s=>(iU (kW (gs++[g])) s).findSome? (eQ safe c ins (gs++[g]) os))=(List.range k).findSome? fun s=>(iU (kW gs) s).findSome? (eQ safe c ins gs os):=by
  intro k
  induction k with
  | zero=>rfl
  | succ k ih=>
    rw[List.range_succ,List.findSome?_append,List.findSome?_append,ih];cases q:(List.range k).findSome? fun s=>(iU (kW gs) s).findSome? (eQ safe c ins gs os) with
    | some d=>rfl
    | none=>
      have hn:∀s,s < k->∀T∈iU (kW gs) s,eQ safe c ins gs os T=none:=fun s hs=>List.findSome?_eq_none_iff.mp (List.findSome?_eq_none_iff.mp q s (List.mem_range.mpr hs))
      rw[Option.none_or,Option.none_or];refine pz fun s hs=>?_
      rw[List.mem_singleton.mp hs,EZ hg,xS gs.length k (kW gs) _ fun s' Sj T hT=>e2 T (hn s' (by omega) T hT)]
      exact pz fun T hT=>e1 T fun x hx=>(zu x ((wq hT).2 x hx)).1
 exact main (m+1)
end
end K18
end
section
namespace K18
open PySem PySem.Spec PyProof.Rows L2 L3 MT JT
theorem AQ{T:List Nat}{p:Nat}:g6 3 (fJ T p):=by
 unfold fJ;refine g6.tup fun d hd=>?_
 simp only[List.mem_cons,List.not_mem_nil,or_false] at hd;rcases hd with rfl | rfl | rfl
 .exact(g6.str (by decide+kernel)).mono (by omega)
 .unfold d9;exact(g6.tup (n:=0) fun y hy=>by obtain⟨z,_,rfl⟩:=List.mem_map.mp hy;exact g6.int _).mono (by omega)
 .exact(g6.int _).mono (by omega)
theorem xt:g6 3 dG:=by
 unfold dG;exact(g6.tup (n:=0) fun d hd=>by rw[List.mem_singleton.mp hd];exact g6.str (by decide+kernel)).mono (by omega)
theorem m_:il dG dG= .ok (.bl true):=NT.eq_self xt (by omega)
theorem Bh{T:List Nat}{p:Nat}:il (fJ T p) (fJ T p)= .ok (.bl true):=NT.eq_self AQ (by omega)
theorem EX{T:List Nat}{p:Nat}:il (fJ T p) dG= .ok (.bl false):=by
 have f1:=AQ (T:=T) (p:=p);have f2:=xt;unfold il;unfold fJ at f1 ⊢;unfold dG at f2 ⊢;rw[EC,f1.pl,f1.sh (by omega),f2.pl,f2.sh (by omega)]
 rfl
theorem i4{a b:D}{k:Bool}(h:il a b= .ok (.bl k)):yN a b= .ok (.bl (!k)):=by
 unfold il at h;unfold yN;cases q:G2 a b with
 | ok d=>rw [q] at h;cases h;rfl
 | no=>rw [q] at h;cases h
 | ex _=>rw [q] at h;cases h
section
variable {f g:FD} {p q:au->R Bool} {δ:au} {a b:Bool}
theorem wK(h:p δ= .ok a)(h2:a=false->q δ= .ok b):CK p q δ= .ok (a || b):=by
 unfold CK;rw [h,R.aH];cases a with
 | true=>rfl
 | false=>rw [if_neg (by decide)];exact h2 rfl
theorem Hu(h:f δ= .ok (.bl a))(h2:a=true->g δ= .ok (.bl b)):F4 f g δ= .ok (.bl (a && b)):=by
 unfold F4;rw [Fi h,R.aH];cases a with
 | true=>rw [if_pos rfl];exact h2 rfl
 | false=>rfl
theorem rW(h:p δ= .ok a):ur p δ= .ok (!a):=by unfold ur;rw [h];rfl
theorem rY(h:f δ= .ok (.bl a)):uw f δ= .ok a:=by unfold uw;rw [h];rfl
end
theorem Fg{fa fb fc:FD}{δ:au}{a b d:Nat}(h1:fa δ= .ok (nI a))(h2:fb δ= .ok (nI b))(h3:fc δ= .ok (nI d))(h:a < b/\b<=d):vK IP Qa fa fb fc δ= .ok true:=by
 unfold vK tI;rw[h1,R.aH,h2,R.aH,LA,decide_eq_true h.1,R.aH];simp only;rw[h3,R.aH,RP,decide_eq_true h.2];rfl
theorem CZ{G mm:D}:dI [dG,G,mm]= .ok (.bl true):=by
 have hz:sizeLine=16777216:=sizeLine_eq;unfold dI n8;refine dv (NT.lx (qT (dj (a:=dG) (b:=dG) rfl (cD rfl (by show 1<=sizeLine;omega)) m_) (cO rfl)))
theorem BZ{T:List Nat}(h:T.Pairwise (· < ·)):nF (oB T)=oB T:=by
 refine(yn (List.Perm.refl _) ?_).symm;unfold oB;rw[List.pairwise_map];exact h.imp fun pV=>by omega
theorem Gh{gs:List Gt}{T:List Nat}{p m:Nat}(hT:T.Sublist (kW gs))(h1:1<=T.length)(h2:T.length<=m)(hm:m<=3)(hg:gs.length < 32):dI [fJ T p, .lst (gs.map dO),nI m]= .ok (.bl true):=by
 have hz:sizeLine=16777216:=sizeLine_eq;have hri:T.Pairwise (· < ·):=GF.sublist hT
 have hlt:∀x∈T,x < gs.length/\∃g,gs[x]? =some g/\g.2.2=false:=fun x hx=>zu x (hT.subset hx)
 have hsm:tO (oB T)=true:=by
  unfold tO oB;rw[Bool.and_eq_true,Bool.and_eq_true,decide_eq_true_eq,decide_eq_true_eq,List.all_eq_true];refine⟨?_,by rw[List.length_map];omega,fun z YF=>?_⟩
  .rw [List.nodup_iff_pairwise_ne,List.pairwise_map];exact hri.imp fun pV=>by omega
  .obtain⟨x,hx,rfl⟩:=List.mem_map.mp YF;have:=(hlt x hx).1;exact decide_eq_true ⟨by omega,by omega⟩
 have hnI:T.map nI=(oB T).map D.int:=by unfold oB;rw [List.map_map];rfl
 have Kq:∀(f:FD) (δ:au),f δ= .ok (d9 T)->Nn f δ= .ok (.lst (T.map nI)):=fun f δ hf=>by
  unfold Nn;rw[hf,R.aH];unfold d9;simp only[hnI,L2.ints_map,hsm,BZ hri];rfl
 unfold dI n8;refine dv (cc (iL (dj (a:=fJ T p) (b:=dG) rfl (cD rfl (by show 1<=sizeLine;omega)) EX) rfl) ?_)
 have sne:yN (.str (Str.ofString "breaks")) (.str (Str.ofString "breaks"))= .ok (.bl false):=by
  show R.ok (D.bl (!(Str.ofString "breaks"==Str.ofString "breaks")))=_;rw[beq_self_eq_true];rfl
 have i1:∀δ:au,ag 0 δ= .ok (fJ T p)->e2 b_ (ag 0) (eC (.int 1)) δ= .ok (d9 T):=fun δ h=>ay (a:=fJ T p) (b:= .int 1) h rfl rfl
 refine cc (iL ((wK (rW (rY (a:=true) rfl)) fun _=>wK (dj (a:=nI 3) (b:=nI 3) (aQ (ds:=[fJ T p]) rfl rfl) rfl (i4 (Rz 3 3))) fun _=>wK (dj (a:= .str (Str.ofString "breaks")) (b:= .str (Str.ofString "breaks")) (ay (a:=fJ T p) (b:= .int 0) rfl rfl rfl) rfl sne) fun _=>rW (Fg (a:=0) (b:=T.length) (d:=m) rfl (aQ (ds:=[d9 T]) (aw (i1 _ rfl) rfl) (by unfold d9;rw [LZ,List.length_map])) rfl ⟨by omega,h2⟩))) rfl) ?_
 refine cO ?_;refine(Hu (a:=true) (b:=true) (ay (a:= .lst []) (b:= .lst []) (c9 (eT (ds:=T.map nI) (zZ (i1 _ rfl)) (by rw[List.length_map];omega) ?_)) (c9 (ll rfl (by show 0<=sizeLine;omega))) rfl) fun _=>ay (a:= .lst (T.map nI)) (b:= .lst (T.map nI)) (aQ (ds:=[d9 T]) (aw (i1 _ rfl) rfl) rfl) (Kq _ _ (i1 _ rfl)) ?_)
 .have e:([]:List D)=(T.filter fun _=>false).map nI:=by
   rw[List.filter_eq_nil_iff.mpr (by intro a _;decide)];rfl
  rw[e];refine NT.lC (fun _=>false) nI nI fun x hx=>⟨[.val (nI x), .val (.lst (gs.map dO))],rfl,?_,fun z=>by cases z⟩
  obtain⟨_,g,e1,g8⟩:=hlt x hx;refine rY (ay (a:=dO g) (b:= .int 2) (ay (a:= .lst (gs.map dO)) (b:=nI x) rfl rfl (NT.rK (by rw[List.getElem?_map,e1];rfl))) rfl ?_)
  rw[<-g8];rfl
 .rw [hnI];unfold il;rw [g6.Wg (g6.Ot _) (by omega)];rfl
end K18
end
section
namespace K18
open PySem PySem.Spec PyProof.Rows L2 L3 MT JT
theorem Hr{f:FD}{δ:au}{n:Nat}(h:f δ= .ok (nI n))(hn:n < 1000000):Gd f δ= .ok ((List.range n).map nI):=by
 unfold Gd;rw [h,R.aH];show R.bh _ _=_;rw [bH _ ⟨by omega,by omega⟩,Int.toNat_natCast,DU]
theorem rQ{p q:au->R Bool}{δ:au}{a b:Bool}(h:p δ= .ok a)(h2:a=true->q δ= .ok b):sW p q δ= .ok (a && b):=by
 unfold sW;rw [h,R.aH];cases a with
 | true=>rw [if_pos rfl];exact h2 rfl
 | false=>rfl
theorem KG{f g:FD}{δ:au}{a b:Bool}(h:f δ= .ok (.bl a))(h2:a=false->g δ= .ok (.bl b)):NB f g δ= .ok (.bl (a || b)):=by
 unfold NB;rw [Fi h,R.aH];cases a with
 | true=>rfl
 | false=>rw [if_neg (by decide)];exact h2 rfl
theorem ED{f g:FB}{δ:DE}{S:aI}{QB:Bool->aI->Prop}(h:W3 (f δ S) fun b S1=>b=false/\W3 (g δ S1) QB):W3 (P9 f g δ S) QB:=W3.bind (h.mono fun b S1 ⟨e,h⟩=>by
 subst e;exact h)
theorem EJ{f g:FB}{δ:DE}{S:aI}{QB:Bool->aI->Prop}(h:W3 (f δ S) fun b S1=>if b then W3 (g δ S1) QB else QB false S1):W3 (C_ f g δ S) QB:=W3.bind (h.mono fun b S1 h=>by
 cases b with
 | true=>exact h
 | false=>exact W3.ok h)
section
variable {c m:Nat} {ins:Aac} {gs:List Gt} {os:Aad} {safe:Bool} {T:List Nat}
theorem By{pl:D}(hl:gs.length < 1000)(Sq:∀i,i < gs.length->u0 (nI i) pl= .ok (.bl (T.contains i))):cL [cg ins gs os,pl]= .ok (cg ins (mk T gs) os):=by
 have hz:sizeLine=16777216:=sizeLine_eq;unfold cL lT;refine dv (cc (δ1:=[.val (cg ins gs os), .val pl, .val (.lst (ins.map MT.inD)), .val (.lst (gs.map dO)), .val (.lst (os.map pU))]) rfl (cO (cD (ds:=[.lst (ins.map MT.inD), .lst ((mk T gs).map dO), .lst (os.map pU)]) (aw rfl (aw (c9 (eT (ds:=(List.range gs.length).map nI) (NQ (n:=gs.length) (aQ (ds:=[.lst (gs.map dO)]) rfl (by rw[vU,List.length_map])) (by omega)) (by simp;omega) ?_)) rfl)) (by show 3<=sizeLine;omega))))
 have e:(mk T gs).map dO=(List.range gs.length).map fun i=>dO ((mk T gs).getD i (0,[],false)):=by
  refine List.ext_getElem? fun i=>?_
  rw[List.getElem?_map,List.getElem?_map];by_cases hi:i < gs.length
  .rw [List.getElem?_range hi,List.getElem?_eq_getElem (by rw[mD];exact hi)]
   simp [List.getD_eq_getElem?_getD,List.getElem?_eq_getElem (show i < (mk T gs).length by rw[mD];exact hi)]
  .rw [List.getElem?_eq_none (by rw[mD];omega),List.getElem?_eq_none (by rw[List.length_range];omega)];rfl
 rw[e];refine NT.eA nI _ fun i hi=>⟨[.val (nI i), .val pl, .val (.lst (gs.map dO))],rfl,rfl,?_⟩
 have hi:=List.mem_range.mp hi;obtain⟨g,hg⟩:∃g,gs[i]? =some g:=⟨_,List.getElem?_eq_getElem hi⟩;have hm:(mk T gs).getD i (0,[],false)=(g.1,g.2.1,g.2.2 || T.contains i):=by rw[List.getD_eq_getElem?_getD,zy,hg];rfl
 have gi:∀δ:au,ag 2 δ= .ok (.lst (gs.map dO))->ag 0 δ= .ok (nI i)->e2 b_ (ag 2) (ag 0) δ= .ok (dO g):=fun δ h1 h2=>ay h1 h2 (NT.rK (by rw[List.getElem?_map,hg];rfl))
 rw[hm];exact cD (ds:=[.str (kS g.1), .tup (g.2.1.map nI), .bl (g.2.2 || T.contains i)]) (aw (ay (a:=dO g) (b:= .int 0) (gi _ rfl rfl) rfl rfl) (aw (ay (a:=dO g) (b:= .int 1) (gi _ rfl rfl) rfl rfl) (aw (KG (ay (a:=dO g) (b:= .int 2) (gi _ rfl rfl) rfl rfl) fun _=>ay (a:=nI i) (b:=pl) rfl rfl (Sq i hi)) rfl))) (by show 3<=sizeLine;omega)
theorem BN(i:Nat):u0 (nI i) (d9 T)= .ok (.bl (T.contains i)):=by
 unfold d9;rw[<-LC];exact(wm (i:Int) (nZ T)).trans (by rw[wU])
theorem Ht(i:Nat):u0 (nI i) (.lst (T.map nI))= .ok (.bl (T.contains i)):=by
 rw[<-LC];show((match ints? ((nZ T).map D.int) with | some ss=>R.ok (ss.contains (i:Int)) | none=> .no)).bind (fun b=>R.ok (D.bl b))=_
 rw[L2.ints_map];show R.ok (D.bl ((nZ T).contains (i:Int)))=_;rw[wU]
variable {S:aI}
theorem D7(NO:eZ ins gs os)(hc:ins.length=c)(Dz:c<=10)(ho:∀x∈os,1<=x.2.length/\x.2.length<=3)(hg:gs.length < 32)(hm:m<=2)(hS:Flat S){Q:V3->aI->Prop}(h:Q (.d (.bl true)) S) :
 W3 (cm [.d (cg ins gs os), .d (.str (nR safe)), .d (nI m)] S) Q:=by
 have hz:sizeLine=16777216:=sizeLine_eq;have bk:∀(Am:List Gt) (k:Nat) {Q:V3->aI->Prop},eZ ins Am os->Am.length=gs.length->k<=3->Q (.d (bears safe c ins Am os k)) S->W3 (cA [.d (cg ins Am os), .d (nI k), .d (.str (nR safe))] S) Q:=fun Am k Q N hl hk hq=>yJ N hc Dz ho (by omega) hk hS hq
 have tb:∀δ:au,eP (ao (eC (.str (Str.ofString "bears"))) aO) δ= .ok dG:=fun δ=>cD rfl (by show 1<=sizeLine;omega)
 have last:∀(a5:Option V3) (A B:D),W3 (fH (x2 il (bt cA (aq (xP (aW cL (ao (ag 0) (ao (eNew (Gd (aW dh (ao (e2 b_ (ag 0) (eC (.int 1))) aO)))) aO)))) (aq (xP (eC (.int 2))) (aq (xP (ag 1)) bC)))) (xP (eP (ao (eC (.str (Str.ofString "bears"))) aO)))) [some (.d (cg ins gs os)),some (.d (.str (nR safe))),some (.d (nI m)),some (.d A),some (.d B),a5] S) fun o S1=>∃v,o= .rt v/\ei S.length v=true/\(∃T',S1=S++T')/\∃d,res S1 v=some d/\Q (.d d) S:=fun a5 A B=>by
  refine fE <| CB <| bZ <| av <| bQ (d:=cg ins (mk (List.range gs.length) gs) os) (aQ (ds:=[cg ins gs os, .lst ((List.range gs.length).map nI)]) (aw rfl (aw (c9 (Hr (n:=gs.length) (aQ (ds:=[.lst (gs.map dO)]) (aw (ay (a:=cg ins gs os) (b:= .int 1) rfl rfl rfl) rfl) (by rw[vU,List.length_map])) (by omega))) rfl)) (By (by omega) fun i _=>Ht i)) <| av <| bQ (d:=nI 2) rfl <| av <| bQ (d:= .str (nR safe)) rfl <| bO <| bk _ 2 (DX NO) mD (by omega) ?_
  rw[eu,HR Iz];exact bQ (d:=dG) (tb _) ⟨_,_, .bl true,rfl,rfl,m_,_,rfl,rfl,⟨[],by simp⟩,_,rfl,h⟩
 unfold cm;refine pk hS.clo (xh rfl ?_);simp only[cq,cV,List.map,List.length,List.replicate,List.cons_append,List.nil_append,Nat.reduceAdd,Nat.reduceSub];unfold et;refine aU <| br (by simp) <| bZ <| av <| bQ (d:=cg ins gs os) rfl <| av <| bQ (d:=nI m) rfl <| av <| bQ (d:= .str (nR safe)) rfl <| bO <| bk gs m NO rfl (by omega) ⟨_,rfl,?_⟩
 simp only[List.set];refine aU <| br (by simp) <| bZ <| av <| bQ (d:=cg ins gs os) rfl <| av <| bQ (d:=nI (m+1)) (ay (a:=nI m) (b:=nI 1) rfl rfl (Kh _ _)) <| av <| bQ (d:= .str (nR safe)) rfl <| bO <| bk gs (m+1) NO rfl (by omega) ⟨_,rfl,?_⟩
 simp only[List.set];have told:∀k,k<=3->dI [bears safe c ins gs os k, .lst (gs.map dO),nI k]= .ok (.bl true):=fun k hk=>by
  rw[eu];cases q:bo safe c ins gs os k with
  | none=>exact CZ
  | some d=>
    obtain⟨T,p,rfl,h1,h2,h3⟩:=jD q;exact Gh h1 h2 h3 hk hg
 have g1:∀δ:au,ag 0 δ= .ok (cg ins gs os)->e2 b_ (ag 0) (eC (.int 1)) δ= .ok (.lst (gs.map dO)):=fun δ h=>ay (a:=cg ins gs os) (b:= .int 1) h rfl rfl
 refine i8 <| l4 <| pe (b:=false) (wK (rW (rY (aQ (ds:=[bears safe c ins gs os m, .lst (gs.map dO),nI m]) (aw rfl (aw (g1 _ rfl) rfl)) (told m (by omega))))) fun _=>rW (rY (aQ (ds:=[bears safe c ins gs os (m+1), .lst (gs.map dO),nI (m+1)]) (aw rfl (aw (g1 _ rfl) (aw (ay (a:=nI m) (b:=nI 1) rfl rfl (Kh _ _)) rfl))) (told (m+1) (by omega))))) ?_
 rw[if_neg (by decide)]
 refine iA ?_;have z0:bears safe c ins gs os 0=dG:=by rw[eu,HJ];rfl
 cases q:bo safe c ins gs os m with
 | none=>
   have e1:bears safe c ins gs os m=dG:=by rw[eu,q];rfl
   rw[e1];have i0:il (.str (Str.ofString "bears")) (.str (Str.ofString "breaks"))= .ok (.bl false):=by
    show R.ok (D.bl (Str.ofString "bears"==Str.ofString "breaks"))=_;rw[show(Str.ofString "bears"==Str.ofString "breaks")=false by decide+kernel]
   have x0:∀δ:au,ag 3 δ= .ok dG->b2 il (e2 b_ (ag 3) (eC (.int 0))) (eC (.str (Str.ofString "breaks"))) δ= .ok false:=fun δ h=>dj (a:= .str (Str.ofString "bears")) (b:= .str (Str.ofString "breaks")) (ay (a:=dG) (b:= .int 0) h rfl rfl) rfl i0
   refine i8 <| l4 <| ED <| pe (b:=false) (rQ (b:=false) (x0 _ rfl) fun z=>by cases z) ⟨rfl,?_⟩
   refine C2 <| bZ <| av <| bQ (d:=cg ins gs os) rfl <| av <| bQ (d:=nI 0) rfl <| av <| bQ (d:= .str (nR safe)) rfl <| bO <| bk gs 0 NO rfl (by omega) ?_
   rw[z0];refine bQ (d:=dG) (tb _) ⟨_,_,false,rfl,rfl,i4 m_,?_⟩;rw[if_neg (by decide)]
   refine iA ?_;refine i8 <| l4 <| pe (b:=false) (x0 _ rfl) ?_
   rw[if_neg (by decide)]
   exact iA (last none _ _)
 | some d=>
   obtain⟨T,p,rfl,h1,h2,h3⟩:=jD q;have e1:bears safe c ins gs os m=fJ T p:=by rw[eu,q];rfl
   have g8:bears safe c ins gs os (m+1)=fJ T p:=by rw[eu,ID q];rfl
   rw[e1,g8];have i0:il (.str (Str.ofString "breaks")) (.str (Str.ofString "breaks"))= .ok (.bl true):=by
    show R.ok (D.bl (Str.ofString "breaks"==Str.ofString "breaks"))=_;rw[beq_self_eq_true]
   have x0:∀δ:au,ag 3 δ= .ok (fJ T p)->b2 il (e2 b_ (ag 3) (eC (.int 0))) (eC (.str (Str.ofString "breaks"))) δ= .ok true:=fun δ h=>dj (a:= .str (Str.ofString "breaks")) (b:= .str (Str.ofString "breaks")) (ay (a:=fJ T p) (b:= .int 0) h rfl rfl) rfl i0
   refine i8 <| l4 <| ED <| pe (b:=false) (rQ (x0 _ rfl) fun _=>dj (a:=fJ T p) (b:=fJ T p) rfl rfl (i4 Bh)) ⟨rfl,?_⟩
   refine C2 <| bZ <| av <| bQ (d:=cg ins gs os) rfl <| av <| bQ (d:=nI 0) rfl <| av <| bQ (d:= .str (nR safe)) rfl <| bO <| bk gs 0 NO rfl (by omega) ?_
   rw[z0];refine bQ (d:=dG) (tb _) ⟨_,_,false,rfl,rfl,i4 m_,?_⟩;rw[if_neg (by decide)]
   refine iA ?_;refine i8 <| l4 <| pe (b:=true) (x0 _ rfl) ?_
   rw[if_pos rfl];refine i8 <| br (by simp) <| bZ <| av <| bQ (d:=cg ins (mk T gs) os) (aQ (ds:=[cg ins gs os,d9 T]) (aw rfl (aw (ay (a:=fJ T p) (b:= .int 1) rfl rfl rfl) rfl)) (By (by omega) fun i _=>BN i)) <| av <| bQ (d:=nI m) rfl <| av <| bQ (d:= .str (nR safe)) rfl <| bO <| bk _ m (DX NO) mD (by omega) ?_
   show W3 _ _;cases q2:bo safe c ins (mk T gs) os m with
   | none=>
     have e3:bears safe c ins (mk T gs) os m=dG:=by rw[eu,q2];rfl
     rw[e3];simp only[List.set];have i1:il (.str (Str.ofString "bears")) (.str (Str.ofString "breaks"))= .ok (.bl false):=by
      show R.ok (D.bl (Str.ofString "bears"==Str.ofString "breaks"))=_;rw[show(Str.ofString "bears"==Str.ofString "breaks")=false by decide+kernel]
     refine l4 <| pe (b:=false) (rQ (a:=false) (b:=false) (dj (a:= .str (Str.ofString "bears")) (b:= .str (Str.ofString "breaks")) (ay (a:=dG) (b:= .int 0) rfl rfl rfl) rfl i1) fun z=>by cases z) ?_
     rw[if_neg (by decide)]
     exact iA (last _ _ _)
   | some d=>
     obtain⟨U,p2,rfl,hU⟩:=Oq q2;have e3:bears safe c ins (mk T gs) os m=fJ U p2:=by rw[eu,q2];rfl
     have hUl:U.length<=m:=by
      obtain⟨U',p',e,_,_,h3⟩:=jD q2;have:d9 U=d9 U':=by
       unfold fJ at e;injection e with e
       injection e with _ e
       injection e with e _
      have:U.map nI=U'.map nI:=by unfold d9 at this;injection this
      have:=congrArg List.length this;rw[List.length_map,List.length_map] at this;omega
     rw[e3];simp only[List.set];refine l4 <| pe (b:=false) (rQ (b:=false) (dj (a:= .str (Str.ofString "breaks")) (b:= .str (Str.ofString "breaks")) (ay (a:=fJ U p2) (b:= .int 0) rfl rfl rfl) rfl i0) fun _=>dj (a:= .lst []) (b:= .lst []) (c9 (eT (ds:=U.map nI) (zZ (ay (a:=fJ U p2) (b:= .int 1) rfl rfl rfl)) (by rw[List.length_map];omega) ?_)) (c9 (ll rfl (by show 0<=sizeLine;omega))) rfl) ?_
     .have e:([]:List D)=(U.filter fun _=>false).map nI:=by
       rw[List.filter_eq_nil_iff.mpr (by intro a _;decide)];rfl
      rw[e];refine NT.lC (fun _=>false) nI nI fun x hx=>⟨[.val (nI x), .val (fJ T p)],rfl,?_,fun z=>by cases z⟩
      refine dj (a:=nI x) (b:=d9 T) rfl (ay (a:=fJ T p) (b:= .int 1) rfl rfl rfl) ((BN x).trans ?_);rw[show T.contains x=false by simpa using hU x hx]
     .rw [if_neg (by decide)]
      exact iA (last _ _ _)
end
end K18
end
section
namespace K18
open PySem PySem.Spec PyProof.Rows L2 L3 MT JT
theorem Az(ns:List Int)(k:Nat):∃c:Int,dX [.lst (ns.map .int), .int k]= .ok (.int c):=by
 by_cases h:k < ns.length
 .refine⟨ns[k],?_⟩;unfold dX jL;refine dv ?_;have e:yU (b2 IP (ag 1) (aW dh (ao (ag 0) aO))) (iy (e2 b_ (ag 0) (ag 1))) rE (fP jK [.lst (ns.map .int), .int k])= .ok (.rt (.int ns[k])):=by
   refine qT ?_ (cO (ay (a:= .lst (ns.map .int)) (b:= .int k) rfl rfl (jU (vV (by rw[List.getElem?_map,List.getElem?_eq_getElem h];rfl)))))
   refine dj (a:= .int k) (b:= .int ns.length) rfl (aQ (ds:=[.lst (ns.map .int)]) rfl (by rw[t6,List.length_map])) ?_
   show R.ok (D.bl (decide ((k:Int) < (ns.length:Int))))=_;rw[decide_eq_true (by omega)]
  unfold ji;rw[e];rfl
 .refine⟨0,?_⟩;unfold dX jL;refine dv (cc (iL ?_ rfl) rfl);refine dj (a:= .int k) (b:= .int ns.length) rfl (aQ (ds:=[.lst (ns.map .int)]) rfl (by rw[t6,List.length_map])) ?_
  show R.ok (D.bl (decide ((k:Int) < (ns.length:Int))))=_;rw[decide_eq_false (by omega)]
theorem Ik(ns:List Int)(lo hi:Option Int):L2.cutD (ns.map D.int) lo hi=(L2.cutD ns lo hi).map D.int:=by
 unfold L2.cutD;rw[List.length_map,List.map_take,List.map_drop]
theorem HB:(10000000000000000000000000000000000000000:Int).natAbs.log2 < 9000:=by decide+kernel
theorem A8{c m:Nat}{ins MO:Aac}{gs Am:List Gt}{os Au:Aad}{s s':Bool}(h:bo s c ins gs os m=bo s' c MO Am Au m):il (bears s c ins gs os m) (bears s' c MO Am Au m)= .ok (.bl true):=by
 rw[eu,eu,h];cases q:bo s' c MO Am Au m with
 | none=>exact m_
 | some d=>
   obtain⟨T,p,rfl,_⟩:=jD q;exact Bh
def IG:Gt:=(0,[0],false)
theorem R_:dO IG= .tup [.str (Str.ofString "not"), .tup [.int 0], .bl false]:=by
 have:kS 0=Str.ofString "not":=by decide+kernel
 show D.tup [.str (kS 0),_,_]=_;rw[this];rfl
theorem Fe{ins:Aac}{gs:List Gt}{os:Aad}{g:Gt}(N:eZ ins gs os)(hg:ny (iz ins+gs.length) g)(hl:gs.length+1 < 1000):eZ ins (gs++[g]) os:=⟨N.hi,N.hw,by rw[List.length_append];exact hl,fun i x h=>by
 by_cases q:i < gs.length
 .rw [List.getElem?_append_left q] at h;exact N.g i x h
 .rw [List.getElem?_append_right (by omega)] at h
  have h0:i - gs.length=0:=by
   have:=(List.getElem?_eq_some_iff.mp h).1;simp at this;omega
  rw[h0] at h;cases h;rw[show i=gs.length by omega];exact hg,N.ho,fun x hx=>⟨(N.o x hx).1,fun w hw=>by have:=(N.o x hx).2 w hw;rw [List.length_append];omega⟩⟩
theorem FH(ns:List Int)(Pw:ns.length<=63):BG [.lst (ns.map D.int)]= .ok (.bl true):=by
 have hz:sizeLine=16777216:=sizeLine_eq;have key:W3 (pA qQ s_ [.d (.lst (ns.map .int))] []) fun v S1=>v= .d (.bl true)/\S1=[]:=by
  refine sY (xh rfl ?_);simp only[cq,qQ,List.map,List.length,List.replicate,List.cons_append,List.nil_append,Nat.reduceAdd,Nat.reduceSub];unfold s_;obtain⟨c0,Yi⟩:=Az ns 0;obtain⟨c1,Yv⟩:=Az ns 1;refine aU <| br (by simp) <| bZ <| av <| bQ (d:= .int c0) (aQ (ds:=[.lst (ns.map .int), .int 0]) rfl Yi) <| bO <| wo c0 Flat.nil fun S1 p1 l1 _=>⟨_,rfl,?_⟩
  simp only[List.set];simp only[List.length_nil] at p1 l1 ⊢;refine aU <| br (by simp) <| bQ (d:= .lst ((L2.cutD ns (some 2) (some 20)).map .int)) ?_ ⟨_,rfl,?_⟩
  .refine we (d:= .lst (ns.map .int)) (lo:=some 2) (hi:=some 20) rfl rfl rfl ?_;show R.ok (D.lst (L2.cutD (ns.map D.int) (some 2) (some 20)))=_;rw[Ik]
  simp only[List.set];have hcl:(L2.cutD ns (some 2) (some 20)).length<=18:=by
   unfold L2.cutD;rw[show(some (2:Int))=some ((2:Nat):Int) from rfl,show(some (20:Int))=some ((20:Nat):Int) from rfl,HT.ph,HT.ph,List.length_take]
   omega
  generalize L2.cutD ns (some 2) (some 20)=cs at hcl;refine aU <| iK <| rG (ds:=cC 0 (2 - (cs.length:Int)).toNat) ?_ ?_
  .have e:e2 rj (eC (.int 2)) (aW dh (ao (ag 2) aO)) (down [some (.d (.lst (ns.map .int))),some (.loc 0),some (.d (.lst (cs.map .int))),none,none,none,none,none,none,none,none,none,none])= .ok (.int (2 - (cs.length:Int))):=
    ay (a:= .int 2) (b:= .int cs.length) rfl (aQ (ds:=[.lst (cs.map .int)]) rfl (by rw[t6,List.length_map])) rfl
   unfold ft;rw[e,R.aH];show R.bh (decide (-(2 ^ 62)<=2 - (cs.length:Int)/\2 - (cs.length:Int) < 2 ^ 62)) _=_;rw[bH _ ⟨by omega,by omega⟩]
  refine(cF (fun i δ S2=>rg 0 S2/\∃(ds:List Int) (a3:Option V3),ds.length=cs.length+i/\δ=[some (.d (.lst (ns.map .int))),some (.loc 0),some (.d (.lst (ds.map .int))),a3,none,none,none,none,none,none,none,none,none])
   ⟨p1,cs,none,rfl,rfl⟩ ?_).mono fun o S2 ⟨dD,g8,p2,ds,a3,hds,hδ⟩=>⟨dD,g8,?_⟩
  .rintro i v δ S2 hv ⟨p2,ds,a3,hds,rfl⟩;have hi:i < 4:=by
    have:=(List.getElem?_eq_some_iff.mp hv).1;rw[List.length_map,cC,List.length_map,List.length_range] at this;omega
   refine⟨_,rfl,?_⟩;unfold Bo;refine br (by simp) <| CB <| bQ (d:= .lst (ds.map .int)) rfl <| OG <| av <| bZ <| av <| w_var (v:= .loc 0) rfl <| av <| bQ (d:= .int 10000000000000000000000000000000000000000) ?_ <| bO <| rN p2 (by omega) HB fun r S3 h1 h2 v3=>bO ⟨by simp;omega,_,_, .lst ((ds++[r]).map .int),rfl,rfl,?_,_,rfl,v3.p,ds++[r],some v,by simp [hds];omega,rfl⟩
   .exact rfl
   .rw [List.map_append];exact sd (by rw[List.length_map];simp;omega)
  have hdl:ds.length<=20/\2<=ds.length:=by
   rw[List.length_map,cC,List.length_map,List.length_range] at hds;omega
  subst hδ;refine aU <| br (by simp) <| bZ <| av <| w_var (v:= .loc 0) rfl <| av <| bQ (d:= .lst (ds.map .int)) rfl <| av <| bQ (d:= .int 5) rfl <| av <| bQ (d:= .int 1) rfl <| bO <| DV p2 (by omega) ⟨by omega,by omega⟩ fun l gs os S4 Ng xl X9 Pb Dm MQ Hd uI v4=>⟨_,rfl,?_⟩
  simp only[List.set];have NO:eZ l gs os:=⟨by omega,fun x hx=>by have:=Ng x hx;omega,by omega,Dm,by omega,fun x hx=>⟨by have:=(uI x hx).1;omega,(uI x hx).2.1⟩⟩
  have ho:∀x∈os,1<=x.2.length/\x.2.length<=3:=fun x hx=>(uI x hx).1
  refine aU <| OL <| bQ (d:=cg l gs os) rfl ⟨_,rfl,⟨_,rfl,?_⟩⟩
  simp only[List.set];refine aU <| br (by simp) <| bZ <| av <| bQ (d:= .int c1) (aQ (ds:=[.lst (ns.map .int), .int 1]) rfl Yv) <| bO <| wo c1 v4.p.1 fun S5 p5 l5 _=>⟨_,rfl,?_⟩
  simp only[List.set];generalize S4.length=kk at p5 l5;refine aU <| br (by simp) <| CB <| bQ (d:= .int 1) rfl <| CB <| bZ <| av <| w_var (v:= .loc kk) rfl <| av <| bQ (d:= .int 2) rfl <| bO <| rN p5 (by omega) (by decide+kernel) fun r S6 h1 h2 v6=>?_
  obtain⟨b,hb⟩:∃b:Bool,decide (gs.length < 10)=b:=⟨_,rfl⟩;obtain⟨m,Y8,Dn,Zg,Y3⟩:∃m:Nat,1<=m/\m<=2/\l3 (.int r) (.int (if b then 1 else 0))= .ok (.int (r*(if b then 1 else 0)))/\dE (.int 1) (.int (r*(if b then 1 else 0)))= .ok (nI m):=by
   obtain q | q:r=0\/r=1:=by omega
   .subst q;cases b
    .exact⟨1,by omega,by omega,rfl,rfl⟩
    .exact⟨1,by omega,by omega,rfl,rfl⟩
   .subst q;cases b
    .exact⟨1,by omega,by omega,rfl,rfl⟩
    .exact⟨2,by omega,by omega,rfl,rfl⟩
  refine bQ (d:= .int (if b then 1 else 0)) (aQ (ds:=[.bl b]) (aw ((ay (a:=nI gs.length) (b:=nI 10) (aQ (ds:=[.lst (gs.map dO)]) rfl (by rw[vU,List.length_map])) rfl (LA _ _)).trans (by rw[hb])) rfl) (by cases b <;> rfl)) ⟨_,_,_,rfl,rfl,Zg,⟨_,_,nI m,rfl,rfl,Y3,⟨_,rfl,?_⟩⟩⟩
  simp only[List.set];have hF:Flat S6:=v6.p.1;have bk:∀(safe:Bool) (Am:List Gt) (Au:Aad) {Q:V3->aI->Prop},eZ l Am Au->Am.length<=100->(∀x∈Au,1<=x.2.length/\x.2.length<=3)->Q (.d (bears safe l.length l Am Au m)) S6->W3 (cA [.d (cg l Am Au), .d (nI m), .d (.str (nR safe))] S6) Q:=fun safe Am Au Q N hl vC hq=>yJ N rfl (by omega) vC hl (by omega) hF hq
  have fw:∀(safe:Bool) {Q:V3->aI->Prop},Q (.d (.bl true)) S6->W3 (cm [.d (cg l gs os), .d (.str (nR safe)), .d (nI m)] S6) Q:=fun safe Q hq=>D7 (c:=l.length) NO rfl (by omega) ho (by omega) Dn hF hq
  refine i8 <| l4 <| ED <| w_not <| J0 <| bZ <| av <| bQ (d:=cg l gs os) rfl <| av <| bQ (d:= .str (nR false)) rfl <| av <| bQ (d:=nI m) rfl <| bO <| fw false ⟨_,true,rfl,rfl,rfl,?_⟩
  refine w_not <| J0 <| bZ <| av <| bQ (d:=cg l gs os) rfl <| av <| bQ (d:= .str (nR true)) rfl <| av <| bQ (d:=nI m) rfl <| bO <| fw true ⟨_,true,rfl,rfl,?_⟩
  rw[if_neg (by decide)]
  refine iA ?_;refine aU <| br (by simp) <| bZ <| av <| bQ (d:=cg l gs os) rfl <| av <| bQ (d:=nI m) rfl <| av <| bQ (d:= .str (nR false)) rfl <| bO <| bk false gs os NO (by omega) ho ⟨_,rfl,?_⟩
  simp only[List.set];have tb:∀δ:au,eP (ao (eC (.str (Str.ofString "bears"))) aO) δ= .ok dG:=fun δ=>cD rfl (by show 1<=sizeLine;omega)
  have ob:∃bb:Bool,il (bears false l.length l gs os m) dG= .ok (.bl bb)/\(bb=true->bo true l.length l gs os m=bo false l.length l gs os m):=by
   rw[eu];cases q:bo false l.length l gs os m with
   | none=>exact⟨true,m_,fun _=>Jp q⟩
   | some d=>
     obtain⟨T,p,rfl,_⟩:=jD q;exact⟨false,EX,fun z=>by cases z⟩
  obtain⟨bb,eb,TK⟩:=ob;refine i8 <| l4 <| EJ <| pe (b:=bb) (dj (a:=bears false l.length l gs os m) (b:=dG) rfl (tb _) eb) ?_
  have go:∀{QO:Ou->aI->Prop} {F:FZ} {δ:DE},QO (.nx δ) S6->(if false=true then W3 (F δ S6) QO else W3 (l8 δ S6) QO):=fun h=>iA h
  refine(show ∀{x y:Prop},(bb=true->x)->(bb=false->y)->(if bb=true then x else y) from fun h1 h2=>by cases bb with | true=>exact h1 rfl | false=>exact h2 rfl) (fun Sr=>C2 <| bZ <| av <| bQ (d:=cg l gs os) rfl <| av <| bQ (d:=nI m) rfl <| av <| bQ (d:= .str (nR true)) rfl <| bO <| bk true gs os NO (by omega) ho <| bQ (d:=bears false l.length l gs os m) rfl ⟨_,_,false,rfl,rfl,i4 (A8 (TK Sr)),go ?_⟩) (fun _=>go ?_)
  all_goals
   have wp:1<=iz l:=by
    cases l with
    | nil=>simp at xl
    | cons x l'=>
      have:=Ng x List.mem_cons_self;unfold iz;rw[List.map_cons,List.sum_cons];omega
   have NI:eZ l (gs++[IG]) os:=Fe NO ⟨by decide,rfl,fun w hw=>by rw[List.mem_singleton.mp hw];omega⟩ (by omega)
   refine aU <| br (by simp) <| bQ (d:=cg l (gs++[IG]) os) (cD (ds:=[.lst (l.map MT.inD), .lst ((gs++[IG]).map dO), .lst (os.map pU)]) (aw rfl (aw (ay (a:= .lst (gs.map dO)) (b:= .lst [dO IG]) rfl (c9 (ll (ds:=[dO IG]) (aw (by rw[R_];exact cD (aw rfl (aw (cD (ds:=[.int 0]) rfl (by show 1<=sizeLine;omega)) rfl)) (by show 3<=sizeLine;omega)) rfl) (by show 1<=sizeLine;omega))) ((sd (by rw[List.length_map];show _+1<=_;omega)).trans (by rw[List.map_append];rfl))) rfl)) (by show 3<=sizeLine;omega)) ⟨_,rfl,?_⟩
   simp only[List.set];obtain⟨x0,Ha,eos⟩:∃x0 Ha,os=x0 ::Ha:=by
    cases os with
    | nil=>simp at MQ
    | cons x Ha=>exact⟨x,Ha,rfl⟩
   have Tb:x0∈os:=by rw[eos];exact List.mem_cons_self
   obtain⟨oA,hoA⟩:∃oA,os.take 5++[(Str.ofString "onceagai",x0.2)]=oA:=⟨_,rfl⟩;have hA:∀x∈oA,x∈os\/x=(Str.ofString "onceagai",x0.2):=fun x hx=>by
    rw[<-hoA] at hx;rcases List.mem_append.mp hx with z | z
    .exact .inl (List.mem_of_mem_take z)
    .exact .inr (List.mem_singleton.mp z)
   have lA:oA.length<=6:=by rw[<-hoA,List.length_append,List.length_take];show _+1<=_;omega
   have NA:eZ l gs oA:=⟨NO.hi,NO.hw,NO.hg,NO.g,by omega,fun x hx=>(hA x hx).elim (NO.o x) fun e=>by rw[e];exact NO.o x0 Tb⟩
   refine aU <| br (by simp) <| bQ (d:=cg l gs oA) (cD (ds:=[.lst (l.map MT.inD), .lst (gs.map dO), .lst (oA.map pU)]) (aw rfl (aw rfl (aw (ay (a:= .lst ((os.take 5).map pU)) (b:= .lst [pU (Str.ofString "onceagai",x0.2)]) (we (d:= .lst (os.map pU)) (lo:=none) (hi:=some 5) rfl rfl (xN rfl) ?_) (c9 (ll (ds:=[pU (Str.ofString "onceagai",x0.2)]) (aw (cD (ds:=[.str (Str.ofString "onceagai"), .tup (x0.2.map nI)]) (aw rfl (aw (ay (a:=pU x0) (b:= .int 1) (ay (a:= .lst (os.map pU)) (b:= .int 0) rfl rfl (NT.rK (z:=0) (by rw[eos];rfl))) rfl rfl) rfl)) (by show 2<=sizeLine;omega)) rfl) (by show 1<=sizeLine;omega))) ((sd (by rw[List.length_map,List.length_take];show _+1<=_;omega)).trans (by rw[<-hoA,List.map_append];rfl))) rfl))) (by show 3<=sizeLine;omega)) ⟨_,rfl,?_⟩
   .show R.ok (D.lst (L2.cutD (os.map pU) none (some ((5:Nat):Int))))=_;unfold L2.cutD;rw[HT.ph,HT.tG,List.drop_zero,List.map_take,List.length_map,Nat.sub_zero];by_cases q:5<=os.length
    .rw [Nat.min_eq_left q]
    .rw [Nat.min_eq_right (by omega),List.take_of_length_le (by simp),List.take_of_length_le (by simp;omega)]
   simp only[List.set];refine i8 <| l4 <| C2 <| bZ <| av <| bQ (d:=cg l (gs++[IG]) os) rfl <| av <| bQ (d:=nI m) rfl <| av <| bQ (d:= .str (nR false)) rfl <| bO <| bk false (gs++[IG]) os NI (by rw[List.length_append];show _+1<=_;omega) ho <| bQ (d:=bears false l.length l gs os m) rfl ⟨_,_,false,rfl,rfl,i4 (A8 (Jr NO rfl rfl)),go ?_⟩
   obtain⟨b6,Tr⟩:∃b:Bool,decide (os.length < 6)=b:=⟨_,rfl⟩;refine i8 <| l4 <| EJ <| pe (b:=b6) ((dj (a:=nI os.length) (b:=nI 6) (aQ (ds:=[.lst (os.map pU)]) rfl (by rw[vU,List.length_map])) rfl (LA _ _)).trans (by rw[Tr])) ?_
   refine(show ∀{x y:Prop},(b6=true->x)->(b6=false->y)->(if b6=true then x else y) from fun h1 h2=>by cases b6 with | true=>exact h1 rfl | false=>exact h2 rfl) (fun Sr=>C2 <| bZ <| av <| bQ (d:=cg l gs oA) rfl <| av <| bQ (d:=nI m) rfl <| av <| bQ (d:= .str (nR false)) rfl <| bO <| bk false gs oA NA (by omega) (fun x hx=>(hA x hx).elim (ho x) fun e=>by rw[e];exact ho x0 Tb) <| bQ (d:=bears false l.length l gs os m) rfl ⟨_,_,false,rfl,rfl,i4 (A8 (by rw[<-hoA,List.take_of_length_le (by rw[Sr] at Tr;have:=of_decide_eq_true Tr;omega)];exact DF Tb)),go ?_⟩) (fun _=>go ?_)
   all_goals
    obtain⟨oO,hoO⟩:∃oO,(os.map fun x:Str × List Nat=>(x.1,x.2.take 1))=oO:=⟨_,rfl⟩
    have hO:∀x∈oO,x.2.length=1/\∀w∈x.2,w < iz l+gs.length:=fun x hx=>by
     rw[<-hoO] at hx;obtain⟨y,hy,rfl⟩:=List.mem_map.mp hx;refine⟨?_,fun w hw=>(NO.o y hy).2 w (List.mem_of_mem_take hw)⟩
     have:=ho y hy;rw[List.length_take];omega
    have lO:oO.length=os.length:=by rw[<-hoO,List.length_map]
    have NN:eZ l gs oO:=⟨NO.hi,NO.hw,NO.hg,NO.g,by omega,fun x hx=>⟨by have:=(hO x hx).1;omega,(hO x hx).2⟩⟩
    have h13:∀x∈oO,1<=x.2.length/\x.2.length<=3:=fun x hx=>by have:=(hO x hx).1;omega
    refine aU <| br (by simp) <| bQ (d:=cg l gs oO) (cD (ds:=[.lst (l.map MT.inD), .lst (gs.map dO), .lst (oO.map pU)]) (aw rfl (aw rfl (aw (c9 (eT (ds:=os.map pU) (zc rfl) (by rw[List.length_map];omega) ?_)) rfl))) (by show 3<=sizeLine;omega)) ⟨_,rfl,?_⟩
    .rw [<-hoO,List.map_map];refine NT.eA pU _ fun x hx=>⟨[.val (.str x.1), .val (.tup (x.2.map nI))],rfl,rfl,cD (ds:=[.str x.1, .tup ((x.2.take 1).map nI)]) (aw rfl (aw ?_ rfl)) (by show 2<=sizeLine;omega)⟩
     show Qw (.tup (x.2.map nI)) none (some ((1:Nat):Int))=_;show R.ok (D.tup (L2.cutD (x.2.map nI) none (some ((1:Nat):Int))))=_;unfold L2.cutD;have:=ho x hx;rw[HT.ph,HT.tG,List.drop_zero,List.map_take,List.length_map,Nat.sub_zero,Nat.min_eq_left (by omega)]
    simp only[List.set];exact fE <| CB <| bZ <| av <| bQ (d:=cg l gs oO) rfl <| av <| bQ (d:=nI m) rfl <| av <| bQ (d:= .str (nR false)) rfl <| bO <| bk false gs oO NN (by omega) h13 <| bZ <| av <| bQ (d:=cg l gs oO) rfl <| av <| bQ (d:=nI m) rfl <| av <| bQ (d:= .str (nR true)) rfl <| bO <| bk true gs oO NN (by omega) h13 ⟨_,_, .bl true,rfl,rfl,A8 (DO fun x hx=>(hO x hx).1),_,rfl,hF,rfl,_,rfl,rfl,by simp⟩
 obtain⟨v,S1,e1,g8,e3⟩:=key;unfold BG PV;show(match pA qQ s_ ([D.lst (ns.map D.int)].map V3.d) [] with | .ok (.d d) []=>R.bh d.atom (R.ok d) | _=> .no)=_
 rw[show [D.lst (ns.map D.int)].map V3.d=[V3.d (.lst (ns.map .int))] from rfl,e1,g8,e3]
 rfl
end K18
end
open PySem PySem.W PyProof.Rows
set_option maxRecDepth 100000 in
set_option maxHeartbeats 0 in
theorem PySem.Challenge.cw_bearfaults_k18_whole_levels_and_sure_gat_holds : PySem.Challenge.rw_bearfaults_k18_whole_levels_and_sure_gat.Holds := by
 w_on;o_law;k_head;(case hw=>w_witness2)
 k_fill
 refine L2.O2 (l:=PySem.Challenge.rw_bearfaults_k18_whole_levels_and_sure_gat) (n:=63) (k:=10) (x:="script") (g:=K18.BG) rfl (by decide) rfl ⟨rfl,by decide,by decide⟩ (fun w h Y=>PySem.W.kIn_of Y) ?F K18.FH
 case F=>
  intro w mg fa h KX G Pz
  have qB:L2.Def (L2.gU KX) mg "vote_of" K18.j5:=by
   dsimp only[L2.gU]
   refine' L2.cJ KX G ?a ?l ?c ?k
   (case a=>k_is);(case l=>k_is);(case c=>k_is);(case k=>k_is)
  have m5:L2.Def (L2.gU KX) mg "gate_mask" K18.hV:=by
   dsimp only[L2.gU]
   refine' L2.cJ KX G ?a ?l ?c ?k
   (case a=>k_is);(case l=>k_is);(case c=>k_is);(case k=>k_is)
  have iC:L2.Def (L2.gU KX) mg "in_wire_masks" K18.dQ:=by
   dsimp only[L2.gU]
   refine' L2.cJ KX G ?a ?l ?c ?k
   (case a=>k_is);(case l=>k_is);(case c=>k_is);(case k=>k_is)
  have oM:L2.Def (L2.gU KX) mg "masks_at" K18.iY:=by
   dsimp only[L2.gU]
   refine' L2.cJ KX G ?a ?l ?c ?k
   (case a=>k_is);(case l=>k_is);(case c=>k_is);(case k=>k_is)
  have lK:L2.Def (L2.gU KX) mg "wire_masks" K18.fR:=by
   dsimp only[L2.gU]
   refine' L2.cJ KX G ?a ?l ?c ?k
   (case a=>k_is);(case l=>k_is);(case c=>k_is);(case k=>k_is)
  have mV:L2.Def (L2.gU KX) mg "out_masks" K18.ib:=by
   dsimp only[L2.gU]
   refine' L2.cJ KX G ?a ?l ?c ?k
   (case a=>k_is);(case l=>k_is);(case c=>k_is);(case k=>k_is)
  have qv:L2.Def (L2.gU KX) mg "reading" K18.j8:=by
   dsimp only[L2.gU]
   refine' L2.cJ KX G ?a ?l ?c ?k
   (case a=>k_is);(case l=>k_is);(case c=>k_is);(case k=>k_is)
  have ue:L2.Def (L2.gU KX) mg "bit_at" K18.md:=by
   dsimp only[L2.gU]
   refine' L2.cJ KX G ?a ?l ?c ?k
   (case a=>k_is);(case l=>k_is);(case c=>k_is);(case k=>k_is)
  have lL:L2.Def (L2.gU KX) mg "all_inputs" K18.fL:=by
   dsimp only[L2.gU]
   refine' L2.cJ KX G ?a ?l ?c ?k
   (case a=>k_is);(case l=>k_is);(case c=>k_is);(case k=>k_is)
  have qA:L2.Def (L2.gU KX) mg "mask_of" K18.ky:=by
   dsimp only[L2.gU]
   refine' L2.cJ KX G ?a ?l ?c ?k
   (case a=>k_is);(case l=>k_is);(case c=>k_is);(case k=>k_is)
  have qF:L2.Def (L2.gU KX) mg "in_mask" K18.kg:=by
   dsimp only[L2.gU]
   refine' L2.cJ KX G ?a ?l ?c ?k
   (case a=>k_is);(case l=>k_is);(case c=>k_is);(case k=>k_is)
  have qG:L2.Def (L2.gU KX) mg "choices" K18.kJ:=by
   dsimp only[L2.gU]
   refine' L2.cJ KX G ?a ?l ?c ?k
   (case a=>k_is);(case l=>k_is);(case c=>k_is);(case k=>k_is)
  have w9:L2.Def (L2.gU KX) mg "bears" K18.pP:=by
   dsimp only[L2.gU]
   refine' L2.cJ KX G ?a ?l ?c ?k
   (case a=>k_is);(case l=>k_is);(case c=>k_is);(case k=>k_is)
  have jX:L2.Def (L2.gU KX) mg "_law_cell_at" K18.eU:=by
   dsimp only[L2.gU]
   refine' L2.cJ KX G ?a ?l ?c ?k
   (case a=>k_is);(case l=>k_is);(case c=>k_is);(case k=>k_is)
  have oQ:L2.Def (L2.gU KX) mg "_law_reel" K18.i5:=by
   dsimp only[L2.gU]
   refine' L2.cJ KX G ?a ?l ?c ?k
   (case a=>k_is);(case l=>k_is);(case c=>k_is);(case k=>k_is)
  have oI:L2.Def (L2.gU KX) mg "_law_take" K18.i_:=by
   dsimp only[L2.gU]
   refine' L2.cJ KX G ?a ?l ?c ?k
   (case a=>k_is);(case l=>k_is);(case c=>k_is);(case k=>k_is)
  have mS:L2.Def (L2.gU KX) mg "_law_names" K18.h_:=by
   dsimp only[L2.gU]
   refine' L2.cJ KX G ?a ?l ?c ?k
   (case a=>k_is);(case l=>k_is);(case c=>k_is);(case k=>k_is)
  have oJ:L2.Def (L2.gU KX) mg "_law_gate" K18.i3:=by
   dsimp only[L2.gU]
   refine' L2.cJ KX G ?a ?l ?c ?k
   (case a=>k_is);(case l=>k_is);(case c=>k_is);(case k=>k_is)
  have mZ:L2.Def (L2.gU KX) mg "_law_again" K18.ig:=by
   dsimp only[L2.gU]
   refine' L2.cJ KX G ?a ?l ?c ?k
   (case a=>k_is);(case l=>k_is);(case c=>k_is);(case k=>k_is)
  have oK:L2.Def (L2.gU KX) mg "_law_outs" K18.jg:=by
   dsimp only[L2.gU]
   refine' L2.cJ KX G ?a ?l ?c ?k
   (case a=>k_is);(case l=>k_is);(case c=>k_is);(case k=>k_is)
  have qx:L2.Def (L2.gU KX) mg "_law_net" K18.kj:=by
   dsimp only[L2.gU]
   refine' L2.cJ KX G ?a ?l ?c ?k
   (case a=>k_is);(case l=>k_is);(case c=>k_is);(case k=>k_is)
  have oP:L2.Def (L2.gU KX) mg "_law_told" K18.iZ:=by
   dsimp only[L2.gU]
   refine' L2.cJ KX G ?a ?l ?c ?k
   (case a=>k_is);(case l=>k_is);(case c=>k_is);(case k=>k_is)
  have iG:L2.Def (L2.gU KX) mg "_law_made_sure" K18.dU:=by
   dsimp only[L2.gU]
   refine' L2.cJ KX G ?a ?l ?c ?k
   (case a=>k_is);(case l=>k_is);(case c=>k_is);(case k=>k_is)
  have eF:L2.Def (L2.gU KX) mg "_law_fewer_and_more" K18.cz:=by
   dsimp only[L2.gU]
   refine' L2.cJ KX G ?a ?l ?c ?k
   (case a=>k_is);(case l=>k_is);(case c=>k_is);(case k=>k_is)
  have D_law:L2.Def (L2.gU KX) mg "law" K18.BI:=by
   dsimp only[L2.gU]
   refine' L2.cJ KX G ?a ?l ?c ?k
   (case a=>k_is);(case l=>k_is);(case c=>k_is);(case k=>k_is)
  obtain⟨cl,CF⟩:∃cl,K18.Cf (L2.gU KX) mg cl:=by
   dsimp only[L2.gU]
   refine' K18.Om KX G ?Sv ?Tj ?M0 ?SJ ?Tg ?Ti ?TL ?As ?jm ?w_ ?mX ?Tv ?Tf ?SU ?TR ?Su ?Tq ?Sz ?ub ?ud ?qC ?gM ?gP ?gL ?du ?gH ?j0 ?jW ?jY ?eW ?g7 ?gO ?gC ?gE ?dt ?eN ?gQ ?gI ?gR ?dw ?gG ?fW ?f7 ?fY ?dc ?eg ?fV ?f6 ?fX ?c_ ?eh
   (case Sv=>k_is)
   (case Tj=>k_is)
   (case M0=>k_is)
   (case SJ=>k_is)
   (case Tg=>k_is)
   (case Ti=>k_is)
   (case TL=>k_is)
   (case As=>k_is)
   (case jm=>k_is)
   (case w_=>k_is)
   (case mX=>k_is)
   (case Tv=>k_is)
   (case Tf=>k_is)
   (case SU=>k_is)
   (case TR=>k_is)
   (case Su=>k_is)
   (case Tq=>k_is)
   (case Sz=>k_is)
   (case ub=>k_is)
   (case ud=>k_is)
   (case qC=>k_is)
   (case gM=>k_is)
   (case gP=>k_is)
   (case gL=>k_is)
   (case du=>k_is)
   (case gH=>k_is)
   (case j0=>k_is)
   (case jW=>k_is)
   (case jY=>k_is)
   (case eW=>k_is)
   (case g7=>k_is)
   (case gO=>k_is)
   (case gC=>k_is)
   (case gE=>k_is)
   (case dt=>k_is)
   (case eN=>k_is)
   (case gQ=>k_is)
   (case gI=>k_is)
   (case gR=>k_is)
   (case dw=>k_is)
   (case gG=>k_is)
   (case fW=>k_is)
   (case f7=>k_is)
   (case fY=>k_is)
   (case dc=>k_is)
   (case eg=>k_is)
   (case fV=>k_is)
   (case f6=>k_is)
   (case fX=>k_is)
   (case c_=>k_is)
   (case eh=>k_is)
  have dy:=CF.dy
  have e_:=CF.e_
  have dA:=CF.dA
  have dz:=CF.dz
  have df:=CF.df
  have de:=CF.de
  have T:K18.Tp (L2.gU KX) mg cl:=by
   dsimp only[L2.gU]
   refine' ⟨PySem.W.mg_none_of KX G ?z_enumerate,PySem.W.mg_none_of KX G ?z_range,PySem.W.mg_none_of KX G ?z_len,PySem.W.mg_none_of KX G ?z_tuple,PySem.W.mg_none_of KX G ?z_reversed,PySem.W.mg_none_of KX G ?z_zip,PySem.W.mg_none_of KX G ?z_abs,PySem.W.mg_none_of KX G ?z_min,PySem.W.mg_none_of KX G ?z_isinstance,PySem.W.mg_none_of KX G ?z_list,PySem.W.mg_none_of KX G ?z_sorted,PySem.W.mg_none_of KX G ?z_set,PySem.W.mg_none_of KX G ?z_int,CF.C_Bench,CF.N_Bench_net,CF.N_Bench_many_inputs,CF.N_Bench_full,CF.N_Bench_in_masks,CF.M_Bench,CF.C_Trial,CF.N_Trial_bench,CF.N_Trial_plain,CF.N_Trial_unsure,CF.M_Trial⟩
   (case z_enumerate=>k_is);(case z_range=>k_is);(case z_len=>k_is);(case z_tuple=>k_is);(case z_reversed=>k_is);(case z_zip=>k_is);(case z_abs=>k_is);(case z_min=>k_is);(case z_isinstance=>k_is);(case z_list=>k_is);(case z_sorted=>k_is);(case z_set=>k_is);(case z_int=>k_is)
  obtain⟨fl,fd,Fl,hl⟩:=D_law
  have e0:=Pz.symm.trans hl
  cases e0
  refine' ⟨fd,?b,fun base kb nb=>K18.La T qB m5 iC oM lK mV qv ue lL qA qF qG dy e_ dA dz df de w9 jX oQ oI mS oJ mZ oK qx oP iG eF Fl⟩
  obtain⟨_,_,_,_,_,_,_,_,_,e,_,_⟩:=Fl.ex
  subst e
  exact fun s u=> .of_eq rfl
