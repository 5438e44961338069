import PyProof.Rows.All
import Wide.All
import OpenK.AllK
import Wide.FinOn
import Lean
import PyProof.EqAt
import PyProof.EqKinds
import PyProof.TupleCall
import PyProof.Rows.StrJoin2
import PyProof.TupleOfGen
import PyProof.ListRange
import PyProof.Draws
import PyProof.Rows.StrClose3
import KE.KSortedM
import PyProof.Rows.SortWalk
import PyProof.WalkInts
import PyProof.Rows.Range3
import PyProof.ZipIter
import PyProof.ConsumeWalk
import PyProof.Rows.SeqMore
import KE.KRevIter
import KE.KRevSl
import KE.KUnpack
import KE.KDictSum
import KE.KTupSum
import KE.KSortTup
import KE.KDictOf
import OpenK.KRaise
import KE.KTryMore
import PyProof.ExcArgs
import PyProof.ExcBaseAll.ValueError
import PyProof.NsDelKeeps
import PyProof.AttrMissSeq
import PyProof.FString4
import PyProof.StrLawsRepr
import PyProof.Rows.StrSplitAre
import PyProof.Rows.StrNews2
import PyProof.StrLawsChain
import PyProof.StrLawsTight
import PyProof.Rows.StrJoinRep
import PySem.Challenge.RW_bearfaults_k05_faults_together
noncomputable section
set_option bootstrap.genMatcherCode false
section
open PySem
abbrev Aaa:=List (Addr×Obj)
abbrev Aab:=Value->Shared->Prop
abbrev Aac:=List (Str×Nat)
abbrev Aad:=List (Str×List Nat)
abbrev Aae:=List (List Nat)
abbrev Aaf:=Str->Option Value
abbrev Aag:=Nat->Addr
end
def PySem.W.Fast.tw9391750028157289358:=0
def PySem.W.Fast.tw16624202721578341475:=0
def PySem.W.Fast.tw14633185023854192499:=0
def PySem.W.Fast.tw1606550944732618291:=0
def PySem.W.Fast.tw9481032265017827447:=0
def PySem.W.Fast.tw11241175505136151812:=0
def PySem.W.Fast.tw7456565241731517617:=0
def PySem.W.Fast.tw5223453953255561142:=0
def PySem.W.Fast.tw11161870472539646293:=0
def PySem.W.Fast.tw15413586929430162447:=0
def PySem.W.Fast.tw7922468705696081269:=0
def PySem.W.Fast.tw5672831676512081113:=0
def PySem.W.Fast.tw6790588871189154892:=0
def PySem.W.Fast.tw8469429598648582014:=0
def PySem.W.Fast.tw286960776583747604:=0
def PySem.W.Fast.tw12290427157887247961:=0
def PySem.W.Fast.tw1550005602177327981:=0
def PySem.W.Fast.tw3103751999828706020:=0
def PySem.W.Fast.tw5110705278820902395:=0
def PySem.W.Fast.tw16154855074959739692:=0
def PySem.W.Fast.tw4234132682061918192:=0
def PySem.W.Fast.tw3867517307053489500:=0
def PySem.W.Fast.tw6222554085412791664:=0
def PySem.W.Fast.tw16133300595486743935:=0
def PySem.W.Fast.tw17172414159550146133:=0
def PySem.W.Fast.tw16707273061299650336:=0
def PySem.W.Fast.tw17345908493657742269:=0
def PySem.W.Fast.tw2951890750837155694:=0
def PySem.W.Fast.tw12810058846537200087:=0
def PySem.W.Fast.tw6411358148942325716:=0
def PySem.W.Fast.tw17396083573019489714:=0
def PySem.W.Fast.tw16672338817670897166:=0
def PySem.W.Fast.tw16242220352588116310:=0
def PySem.W.Fast.tw11098890047211447395:=0
def PySem.W.Fast.tw3804090239081475310:=0
def PySem.W.Fast.tw1594044064736068658:=0
def PySem.W.Fast.tw17182145488620582416:=0
def PySem.W.Fast.tw16557943065821899169:=0
def PySem.W.Fast.tw11087825419925628174:=0
def PySem.W.Fast.tw8840519915071342182:=0
set_option Elab.async false
set_option linter.all false
set_option maxRecDepth 100000
set_option maxHeartbeats 4000000
section
namespace L2
open PySem PySem.Spec PyProof.Rows
abbrev Key:=Sum Int Str
def vA:Key->Value->Bool
 | .inl k,v=>Value.isInt k v
 | .inr x,v=>Value.isStrOf x v
def SK(w:World):Key->Int
 | .inl k=>hashInt k
 | .inr x=>hashStr w x
theorem c0:∀{k:Key} {v:Value},vA k v=true->(∃i t,k=Sum.inl i/\v=Value.int i t)\/(∃x t,k=Sum.inr x/\v=Value.str x t)
 | .inl i,v,h=>by
   obtain⟨t,e⟩:=Value.isInt_shape (k:=i) (v:=v) h;exact .inl ⟨i,t,rfl,e⟩
 | .inr x,v,h=>by
   obtain⟨t,e⟩:=Value.isStrOf_shape (x:=x) (v:=v) h;exact .inr ⟨x,t,rfl,e⟩
theorem Cy(i:Int)(t:Tok):vA (.inl i) (.int i t)=true:=by simp [vA,Value.isInt]
theorem Dh(x:Str)(t:Tok):vA (.inr x) (.str x t)=true:=by simp [vA,Value.isStrOf]
theorem LY(a b:Int):decide ((Sum.inl a:Key)=Sum.inl b)=(a==b):=by
 by_cases e:a=b
 .subst e;simp
 .have h:¬(Sum.inl a:Key)=Sum.inl b:=fun q=>e (Sum.inl.inj q)
  rw[decide_eq_false h];exact(beq_eq_false_iff_ne.mpr e).symm
theorem MI(a b:Str):decide ((Sum.inr a:Key)=Sum.inr b)=decide (a=b):=by
 by_cases e:a=b
 .subst e;simp
 .have h:¬(Sum.inr a:Key)=Sum.inr b:=fun q=>e (Sum.inr.inj q)
  rw[decide_eq_false h,decide_eq_false e]
theorem Mz(a:Int)(b:Str):decide ((Sum.inl a:Key)=Sum.inr b)=false:=decide_eq_false (fun q=>nomatch q)
theorem Lo(a:Str)(b:Int):decide ((Sum.inr a:Key)=Sum.inl b)=false:=decide_eq_false (fun q=>nomatch q)
def cT(prog:Program)(w:World):PySem.KeyKind prog w Key where
 is:=vA
 hash:=SK w
 inj:=fun v a b ha hb=>by
  rcases c0 ha with⟨i,t,rfl,rfl⟩ | ⟨x,t,rfl,rfl⟩
  .rcases c0 hb with⟨j,u,rfl,e⟩ | ⟨y,u,rfl,e⟩
   .injection e with e1 _;rw [e1]
   .exact nomatch e
  .rcases c0 hb with⟨j,u,rfl,e⟩ | ⟨y,u,rfl,e⟩
   .exact nomatch e
   .injection e with e1 _;rw [e1]
 byValue:=fun k v h=>by
  rcases c0 h with⟨i,t,rfl,rfl⟩ | ⟨x,t,rfl,rfl⟩ <;> rfl
 pyHash:=fun hv h=>by
  rcases c0 hv with⟨i,t,rfl,rfl⟩ | ⟨x,t,rfl,rfl⟩
  .exact wpAny_pyHash_int h
  .exact wpAny_pyHash_str h
 eqBool:=fun hu hv h=>by
  rcases c0 hu with⟨i,t,rfl,rfl⟩ | ⟨x,t,rfl,rfl⟩
  .rcases c0 hv with⟨j,u,rfl,rfl⟩ | ⟨y,u,rfl,rfl⟩
   .rw [LY] at h;exact wpAny_eqBool_int h
   .rw [Mz] at h;exact SeqAt.EqAt.int_str i t y u _ _ _ _ h
  .rcases c0 hv with⟨j,u,rfl,rfl⟩ | ⟨y,u,rfl,rfl⟩
   .rw [Lo] at h;exact SeqAt.EqAt.str_int x t j u _ _ _ _ h
   .rw [MI] at h;exact wpAny_eqBool_str h
 «strs»:=fun k x t v h=>by
  rcases c0 h with⟨i,u,rfl,e⟩ | ⟨y,u,rfl,e⟩
  .exact nomatch e
  .injection e with e1 _
   subst e1;cases v <;> rfl
theorem yS(prog:Program)(w:World)(i:Int)(t:Tok):(cT prog w).is (.inl i) (.int i t)=true:=Cy i t
theorem nU(prog:Program)(w:World)(x:Str)(t:Tok):(cT prog w).is (.inr x) (.str x t)=true:=Dh x t
inductive V where
 | cN | bl (b:Bool) | int (i:Int) | str (x:Str) | byt (b:Array UInt8) | flt (b:UInt64) | ref (a:Addr) | ty (n:String)
 deriving DecidableEq
def RelV:V->Value->Prop
 | .cN,u=>u=Value.none
 | .bl b,u=>u=Value.bool b
 | .int i,u=>∃t,u=Value.int i t
 | .str x,u=>∃t,u=Value.str x t
 | .byt b,u=>∃t,u=Value.bytes b t
 | .flt b,u=>∃t,u=Value.float b t
 | .ref a,u=>u=Value.ref a
 | .ty n,u=>u=Value.type n
abbrev Vals:List V->List Value->Prop:=Paired RelV
theorem Vals.length{xs:List V}{us:List Value}(r:Vals xs us):xs.length=us.length:=Paired.length r
theorem Vals.get:∀{xs:List V} {us:List Value} {i:Nat} {x:V},Vals xs us->xs[i]? =some x->∃u,us[i]? =some u/\RelV x u
 | _,_,_,_, .nil,e=>by simp at e
 | _,_,0,_, .cons r _,e=>by simp at e;subst e;exact⟨_,rfl,r⟩
 | _,_,i+1,x, .cons _ t,e=>by
   obtain⟨u,h1,h2⟩:=Vals.get (i:=i) (x:=x) t (by simpa using e)
   exact⟨u,by simpa using h1,h2⟩
theorem Vals.append:∀{xs ys:List V} {us ws:List Value},Vals xs us->Vals ys ws->Vals (xs++ys) (us++ws)
 | _,_,_,_, .nil,s=>s
 | _,_,_,_, .cons r t,s=> .cons r (Vals.append t s)
theorem Vals.take:∀{xs:List V} {us:List Value} (n:Nat),Vals xs us->Vals (xs.take n) (us.take n)
 | _,_,0,_=> .nil
 | _,_,_+1, .nil=> .nil
 | _,_,n+1, .cons r t=> .cons r (Vals.take n t)
theorem Vals.drop:∀{xs:List V} {us:List Value} (n:Nat),Vals xs us->Vals (xs.drop n) (us.drop n)
 | _,_,0,r=>r
 | _,_,_+1, .nil=> .nil
 | _,_,n+1, .cons _ t=>Vals.drop n t
def mQ:Option V->Option Value->Prop
 | some v,some u=>RelV v u
 | none,none=>True
 | _,_=>False
def KV{κ:Type}:List (κ × V)->List (κ × Value)->Prop:=Paired fun(p:κ × V) (q:κ × Value)=>p.1=q.1/\RelV p.2 q.2
def kV:Key->V
 | .inl i=> .int i
 | .inr x=> .str x
inductive HO where
 | lst (xs:List V)
 | tup (xs:List V)
 | dK (aC:List (Key × V)) | dT (aC:List (List Key × V))
 | set (S:Int->Bool) (n:Nat)
 | ins (C dx:Addr) (fs:List (Str × V))
 | own (x:Addr)
 | xd (fs:List (Str × V))
 | met (f x:Addr)
 | rng (lo hi:Int)
 | ik (o:Obj) (u:HO)
 | tbl (ps:Array Value)
 | ext (φ:Heap->Prop)
abbrev Hp:=Addr->Option HO
def upd(H:Hp)(a:Addr)(o:HO):Hp:=fun b=>if b=a then some o else H b
theorem ba{a:Addr}{o:HO}:upd H a o a=some o:=by unfold upd;rw [if_pos rfl]
theorem bt{H:Hp}{a b:Addr}{o:HO}(h:b≠a):upd H a o b=H b:=by unfold upd;rw [if_neg h]
theorem By{a:Addr}{o u:HO}:upd (upd H a o) a u=upd H a u:=by
 funext b;unfold upd;split <;> rfl
theorem Og{H:Hp}{a b:Addr}{o u:HO}(h:H a=some o)(h':H b=some u)(d:o≠u):a≠b:=by
 intro e;subst e;rw [h] at h';exact d (Option.some.inj h')
theorem bK{H:Hp}{a b:Addr}{o:HO}(h:H a=some o)(h':H b=none):a≠b:=by
 intro e;subst e;rw [h] at h';cases h'
section
variable (P:Program) (w:World)
def d3(H:Hp)(h:Heap)(a:Addr):HO->Prop
 | .lst xs=>xs.length<=sizeLine/\∃(its:List Value) (n:Nat),Vals xs its/\h.get? a=some {cls:= .type "list",data:= .seq its.toArray n}
 | .tup xs=>xs.length<=sizeLine/\∃its:List Value,Vals xs its/\IsTup h a its.toArray
 | .dK aC=>aC.length<=sizeLine/\(a==sysModules)=false/\∃vs,KV aC vs/\h.DictOf (cT P w) a vs
 | .dT aC=>aC.length<=sizeLine/\(a==sysModules)=false/\∃xs:List (List Key × Addr × Value),
    Paired (fun(p:List Key × V) (q:List Key × Addr × Value)=>p.1=q.1/\H q.2.1=some (.tup (p.1.map kV))/\RelV p.2 q.2.2) aC xs/\
    ∃o es ep,h.get? a=some o/\o.ExactDict/\o.data= .dict es ep/\es.toList=xs.map (entryOfKey (tupleKind (cT P w)))/\(xs.map (·.1)).Nodup
 | .set S n=>h.SetOf (intKind P w) a S n
 | .ins C dx fs=>H dx=some (.own a)/\fs.length<=1000/\dx≠a/\h.get? a=some (PySem.W.instObj C dx)/\
    ∃mA,h.Ns1 dx mA/\(∀f,mQ (fs.lookup f) (mA f))/\PySem.Within mA (fs.map (·.1))
 | .own _=>∃o,h.get? a=some o
 | .xd fs=>∃mA,h.Ns1 a mA/\∀f,mQ (fs.lookup f) (mA f)
 | .rng lo hi=>∃t u v,h.get? a=some {cls:= .type "range",data:= .fields #[.int lo t, .int hi u, .int 1 v]}
 | .ik o u=>h.get? a=some o/\d3 H h a u
 | .tbl ps=>h.get? a=some {cls:= .none,data:= .fields ps}
 | .met f x=>h.get? a=some (PySem.W.methodObj (.ref f) (.ref x))
 | .ext φ=>φ h/\(∃o,h.get? a=some o)/\∀h1 h2:Heap,φ h1->(∀o,h1.get? a=some o->h2.get? a=some o)->φ h2
def nK(H:Hp)(h:Heap):Prop:=∀a o,H a=some o->d3 P w H h a o
end
section
variable {P:Program} {w:World} {H H':Hp} {h h':Heap} {a:Addr} {o:HO}
theorem d3.lt(x:d3 P w H h a o):a < h.objs.size:=by
 cases o with
 | lst xs=>obtain⟨_,_,_,_,e⟩:=x;exact Heap.lt_size e
 | tup xs=>obtain⟨_,_,_,p⟩:=x;exact p.lt
 | dK aC=>obtain⟨_,_,_,_,o,_,_,e,_⟩:=x;exact Heap.lt_size e
 | dT aC=>obtain⟨_,_,_,_,o,_,_,e,_⟩:=x;exact Heap.lt_size e
 | set S n=>obtain⟨o,_,_,_,e,_⟩:=x;exact Heap.lt_size e
 | ins C dx fs=>obtain⟨_,_,_,e,_⟩:=x;exact Heap.lt_size e
 | own y=>obtain⟨_,e⟩:=x;exact Heap.lt_size e
 | xd fs=>obtain⟨_,⟨_,_,_,e,_⟩,_⟩:=x;exact Heap.lt_size e
 | rng lo hi=>obtain⟨_,_,_,e⟩:=x;exact Heap.lt_size e
 | ik ob u=>obtain⟨e,_⟩:=x;exact Heap.lt_size e
 | tbl ps=>exact Heap.lt_size (show h.get? a=some _ from x)
 | met f y=>exact Heap.lt_size (show h.get? a=some _ from x)
 | ext φ=>obtain⟨_,⟨_,e⟩,_⟩:=x;exact Heap.lt_size e
theorem Paired.KJ{α β:Type}{F G:α->β->Prop}:∀{Qy:List α} {Qs:List β},Paired F Qy Qs->(∀a b,F a b->G a b)->Paired G Qy Qs
 | _,_, .nil,_=> .nil
 | _,_, .cons r t,f=> .cons (f _ _ r) (Paired.KJ t f)
theorem d3.yh(x:d3 P w H h a o)(k:∀b u,(b=a\/H b=some (.own a))->h.get? b=some u->h'.get? b=some u)
 (ho:∀b,H b=some (.own a)->H' b=some (.own a)) (ht:∀b xs,H b=some (.tup xs)->H' b=some (.tup xs)):d3 P w H' h' a o:=by
 induction o with
 | lst xs=>obtain⟨z,its,n,r,e⟩:=x;exact⟨z,its,n,r,k _ _ (.inl rfl) e⟩
 | tup xs=>obtain⟨z,its,r,ob,e,c⟩:=x;exact⟨z,its,r,ob,k _ _ (.inl rfl) e,c⟩
 | dK aC=>obtain⟨z,y,vs,r,ob,es,ep,e,c⟩:=x;exact⟨z,y,vs,r,ob,es,ep,k _ _ (.inl rfl) e,c⟩
 | dT aC=>
   obtain⟨z,y,xs,r,ob,es,ep,e,c⟩:=x;exact⟨z,y,xs,Paired.KJ r fun p q z=>⟨z.1,ht _ _ z.2.1,z.2.2⟩,ob,es,ep,k _ _ (.inl rfl) e,c⟩
 | set S n=>obtain⟨ob,es,ep,t,e,c⟩:=x;exact⟨ob,es,ep,t,k _ _ (.inl rfl) e,c⟩
 | ins C dx fs=>
   obtain⟨d,z,ne,e,mA,⟨od,es,ep,e2,c⟩,r⟩:=x;exact⟨ho _ d,z,ne,k _ _ (.inl rfl) e,mA,⟨od,es,ep,k _ _ (.inr d) e2,c⟩,r⟩
 | own y=>obtain⟨ob,e⟩:=x;exact⟨ob,k _ _ (.inl rfl) e⟩
 | xd fs=>obtain⟨mA,⟨od,es,ep,e,c⟩,r⟩:=x;exact⟨mA,⟨od,es,ep,k _ _ (.inl rfl) e,c⟩,r⟩
 | rng lo hi=>obtain⟨t,u,v,e⟩:=x;exact⟨t,u,v,k _ _ (.inl rfl) e⟩
 | ik ob u ih=>obtain⟨e,q⟩:=x;exact⟨k _ _ (.inl rfl) e,ih q⟩
 | tbl ps=>
   have e:h.get? a=some {cls:= .none,data:= .fields ps}:=x;show h'.get? a=some {cls:= .none,data:= .fields ps};exact k a _ (.inl rfl) e
 | met f y=>
   have e:h.get? a=some (PySem.W.methodObj (.ref f) (.ref y)):=x;show h'.get? a=some (PySem.W.methodObj (.ref f) (.ref y));exact k a _ (.inl rfl) e
 | ext φ=>obtain⟨p,⟨o,e⟩,st⟩:=x;exact⟨st _ _ p fun o q=>k _ _ (.inl rfl) q,⟨o,k _ _ (.inl rfl) e⟩,st⟩
theorem nK.lt(x:nK P w H h)(e:H a=some o):a < h.objs.size:=(x a o e).lt
theorem nK.fresh(x:nK P w H h)(e:h.objs.size<=a):H a=none:=by
 cases q:H a with
 | none=>rfl
 | some u=>exact absurd (Nat.lt_of_lt_of_le (x.lt q) e) (Nat.lt_irrefl _)
theorem nK.kept(x:nK P w H h)(k:∀b u,h.get? b=some u->h'.get? b=some u):nK P w H h':=fun a o e=>
 (x a o e).yh (fun b u _ q=>k b u q) (fun _ q=>q) fun _ _ q=>q
theorem nK.laid(x:nK P w H h)(k:∀b u,h.get? b=some u->h'.get? b=some u)(hp:h.objs.size<=a)(new:d3 P w (upd H a o) h' a o):nK P w (upd H a o) h':=fun b u e=>by
 have hn:=x.fresh hp;by_cases hb:b=a
 .subst hb;rw [ba] at e;cases e;exact new
 .rw [bt hb] at e;exact(x b u e).yh (fun c v _ q=>k c v q) (fun c q=>by rw[bt (bK q hn)];exact q) fun c xs q=>by rw[bt (bK q hn)];exact q
end
def Rd(H:Hp)(a:Addr)(u:HO):Prop:=H a=some u\/∃o,H a=some (.ik o u)
theorem Rd.ok{a:Addr}{u:HO}(r:Rd H a u)(x:nK P w H h):d3 P w H h a u:=by
 rcases r with r | ⟨o,r⟩
 .exact x a u r
 .obtain⟨_,q⟩:=x a _ r;exact q
def P8:Option HO->Prop
 | some (.lst _)=>True
 | some (.dK _)=>True
 | some (.dT _)=>True
 | some (.set _ _)=>True
 | some (.ins _ _ _)=>True
 | some (.ext _)=>True
 | _=>False
section
variable {P:Program} {w:World} {H:Hp} {h h':Heap} {x e:Addr} {o':HO}
theorem nK.write(ok:nK P w H h)(mu:P8 (H x))(he:e=x\/H e=some (.own x))(k:∀b u,b≠e->h.get? b=some u->h'.get? b=some u)(N6:∃u,h'.get? e=some u)
 (new:d3 P w (upd H x o') h' x o'):nK P w (upd H x o') h':=fun b u q=>by
 have nown:∀c y,H c=some (.own y)->c≠x:=fun c y r z=>by subst z;rw [r] at mu;exact mu
 have ntup:∀c xs,H c=some (.tup xs)->c≠x:=fun c xs r z=>by subst z;rw [r] at mu;exact mu
 by_cases hb:b=x
 .subst hb;rw [ba] at q;cases q;exact new
 .rw [bt hb] at q;by_cases hbe:b=e
  .have q':H b=some (.own x):=by
    rcases he with z | z
    .exact absurd (hbe.trans z) hb
    .rw [hbe];exact z
   rw[q] at q';cases q';obtain⟨v,hv⟩:=N6;exact⟨v,by rw[hbe];exact hv⟩
  .refine(ok b u q).yh (fun c v hc r=>k c v ?_ r) (fun c r=>by rw[bt (nown c b r)];exact r) fun c xs r=>by rw[bt (ntup c xs r)];exact r
   rcases hc with rfl | hc
   .exact hbe
   .rintro rfl;rcases he with z | z
    .exact nown c b hc z
    .rw [hc] at z;cases z;exact hb rfl
end
structure Un (fs ex:List Addr) (H H':Hp) (h h':Heap):Prop where
 keep:∀b o,h.get? b=some o->H b=none->b ∉ fs->b ∉ ex->h'.get? b=some o
 slot:∀b o,h.get? b=some o->H b=none->b∈fs->b ∉ ex->∃sl,h'.get? b=some {o with slots:=sl}
 free:∀b o,h.get? b=some o->H b=none->b ∉ ex->H' b=none
 there:∀b o,h.get? b=some o->b ∉ ex->∃o',h'.get? b=some o'
 tups:∀b xs,H b=some (.tup xs)->H' b=some (.tup xs)
 frzs:∀b o u,H b=some (.ik o u)->H' b=some (.ik o u)
 tbls:∀b ps,H b=some (.tbl ps)->∃more,H' b=some (.tbl (ps++more))
section
variable {fs N1 ex ex':List Addr} {H H1 H2:Hp} {h h1 h2 h':Heap} {a x e:Addr} {o:HO}
theorem Un.any(u:Un fs ex H H1 h h1){b:Addr}{ob:Obj}(q:h.get? b=some ob)(n:H b=none)(hx:b ∉ ex):∃sl,h1.get? b=some {ob with slots:=sl}:=by
 by_cases hb:b∈fs
 .exact u.slot b ob q n hb hx
 .exact⟨ob.slots,u.keep b ob q n hb hx⟩
theorem Un.kept(k:∀b u,h.get? b=some u->h'.get? b=some u):Un fs ex H H h h':=
 ⟨fun b ob q _ _ _=>k b ob q,fun b ob q _ _ _=>⟨ob.slots,k b ob q⟩,fun _ _ _ n _=>n,fun b ob q _=>⟨ob,k b ob q⟩,fun _ _ q=>q,fun _ _ _ q=>q,fun _ ps q=>⟨#[],by rw[q];simp⟩⟩
theorem Un.refl:Un fs ex H H h h:=Un.kept fun _ _ q=>q
theorem Un.laid(k:∀b u,h.get? b=some u->h'.get? b=some u)(hp:h.objs.size<=a)(hn:H a=none):Un fs ex H (upd H a o) h h' where
 keep:=fun b u q _ _ _=>k b u q
 slot:=fun b u q _ _ _=>⟨u.slots,k b u q⟩
 free:=fun b u q n _=>by rw[bt (Nat.ne_of_lt (Nat.lt_of_lt_of_le (Heap.lt_size q) hp))];exact n
 there:=fun b u q _=>⟨u,k b u q⟩
 tups:=fun b xs q=>by rw[bt (bK q hn)];exact q
 frzs:=fun b u xs q=>by rw[bt (bK q hn)];exact q
 tbls:=fun b ps q=>⟨#[],by rw[bt (bK q hn),q];simp⟩
theorem Un.write(mu:P8 (H x))(he:e=x\/H e=some (.own x))(k:∀b u,b≠e->h.get? b=some u->h'.get? b=some u)(N6:∃u,h'.get? e=some u):Un fs ex H (upd H x o) h h':=by
 have hx:∀b,H b=none->b≠x:=fun b n z=>by subst z;rw [n] at mu;exact mu
 have hb:∀b,H b=none->b≠e:=fun b n z=>by
  subst z;rcases he with r | r
  .exact hx b n r
  .rw [n] at r;cases r
 have hm:∀b u,H b=some u->¬P8 (some u)->b≠x:=fun b u q nm z=>by subst z;rw [q] at mu;exact nm mu
 refine⟨fun b u q n _ _=>k b u (hb b n) q,fun b u q n _ _=>⟨u.slots,k b u (hb b n) q⟩,fun b u q n _=>by rw[bt (hx b n)];exact n,fun b u q _=>?_,
  fun b xs q=>by rw[bt (hm b _ q fun z=>z)];exact q,fun b u xs q=>by rw[bt (hm b _ q fun z=>z)];exact q,fun b ps q=>⟨#[],by rw[bt (hm b _ q fun z=>z),q];simp⟩⟩
 by_cases hbe:b=e
 .subst hbe;exact N6
 .exact⟨u,k b u hbe q⟩
end
def He(h:Heap)(H:Hp):List Addr:=(List.range h.objs.size).filter fun a=>(H a).isSome
def xC(h:Heap)(H:Hp):Heap:=PySem.W.hideAll h (He h H)
theorem Dg(h:Heap)(H:Hp):(xC h H).objs.size=h.objs.size:=PySem.W.hideAll_size _ _
theorem Fs{h:Heap}{H:Hp}{b:Addr}{o:Obj}(e:h.get? b=some o)(n:H b=none):(xC h H).get? b=some o:=
 PySem.W.hideAll_get _ e fun hm=>by
  have q:(H b).isSome=true:=(List.mem_filter.mp hm).2;rw[n] at q;simp at q
theorem JK{h:Heap}{H:Hp}{b:Addr}{o:Obj}(e:(xC h H).get? b=some o):h.get? b=some o/\H b=none:=by
 have e':h.get? b=some o:=PySem.W.of_hideAll (He h H) e;refine⟨e',?_⟩;cases q:H b with
 | none=>rfl
 | some x=>
   have hm:b∈He h H:=List.mem_filter.mpr ⟨List.mem_range.mpr (Heap.lt_size e'),by simp [q]⟩
   have z:(xC h H).get? b=none:=PySem.W.hideAll_none (He h H) hm;rw[z] at e;cases e
def HV(g h:Heap)(L:Addr):Aaa:=(List.range h.objs.size).filterMap fun a=>if a=L\/(g.get? a).isSome=true then none else(h.get? a).map fun o=>(a,o)
def rest(g h:Heap)(L d:Addr):Aaa:=(HV g h L).filter fun p=>decide (p.1≠d)
structure Mod (K:W.Frag) (mg:Aaf) (base:Heap):Prop where
 kin:K.In base
 glob:base.Ns mainGlobals mg
 blt:∃mb,base.Ns builtinsNs mb/\∀x:Str,x≠"__name__"->mb x=bootBuiltins x
 nolimit:base.NoLimit
structure Cx where
 prog:Program
 w:World
 K:W.Frag
 mg:Aaf
 base:Heap
 A:Around
 N:List Str
 s₀:Shared
 H₀:Hp
 env:Env
 outer:List Env
 stack:List Env
 ex:List Addr
 fn:Str->Bool
 calm:Bool
 pn:Aaa
 xe:Aab
def pG(l:List Env):List Addr:=l.filterMap (·.frame)
abbrev Cx.fs(X:Cx):List Addr:=pG X.outer
def Kb(sc:Scope)(x:Str):Prop:=sc.names.lookup x=some .local\/sc.names.lookup x=some .cell\/sc.names.lookup x=some .free
def Loc(sc:Scope)(x:Str):Prop:=sc.names.lookup x=some .local\/sc.names.lookup x=some .cell
def Look(env:Env)(h:Heap)(m:Aaf)(x:Str)(u:Value):Prop:=
 (env.kindOf x=some .local/\m x=some u)\/((env.kindOf x=some .cell\/env.kindOf x=some .free)/\∃c,env.cells.lookup x=some c/\h.IsCell c (some u))
structure Cx.Ok (X:Cx):Prop where
 mod:Mod X.K X.mg X.base
 kind:X.env.scope.kind= .function
 glob:X.env.globals=mainGlobals
 blt:X.env.builtins=builtinsNs
 above:X.s₀.heap.objs.size<=X.env.locals
 inj:∀x y c,X.env.cells.lookup x=some c->X.env.cells.lookup y=some c->x=y
 has:∀x,(X.env.kindOf x=some .cell\/X.env.kindOf x=some .free)->∃c,X.env.cells.lookup x=some c
 cab:∀x c,X.fn x=true->X.env.cells.lookup x=some c->X.s₀.heap.objs.size<=c
 hd:X.calm=true->X.A.handled=none
 frames:X.A.frames=some X.stack
 stk:X.stack=X.outer\/(X.stack=X.env ::X.outer/\X.env.frame=some X.env.locals)
 exf:∀b∈X.ex,b≠X.env.locals/\∀x c,X.env.cells.lookup x=some c->c≠b
 bs:∀b o,X.base.get? b=some o->X.s₀.heap.get? b=some o/\X.H₀ b=none
 bsz:X.base.objs.size<=X.s₀.heap.objs.size
 noex:∀b o,X.base.get? b=some o->b ∉ X.ex
 exfs:∀b∈X.ex,b ∉ X.fs
 qt:X.s₀.heap.FunFrames X.base X.outer
 frf:∀b∈X.fs,X.H₀ b=none
structure Inv (X:Cx) (pins:Aaa) (σ:List (Option V)) (H:Hp) (s:Shared):Prop where
 ok:X.Ok
 os:s.os=X.s₀.os
 bare:AllBare s.gens
 base:Un X.fs X.ex X.H₀ H X.s₀.heap s.heap
 loc:∃m,s.heap.Ns X.env.locals m/\∀(i:Nat) (x:Str) (v:V),X.N[i]? =some x->σ[i]? =some (some v)->Kb X.env.scope x->∃u,RelV v u/\Look X.env s.heap m x u
 cell:∀x c,X.env.cells.lookup x=some c->∃v,s.heap.IsCell c v
 free:H X.env.locals=none
 freeC:∀x c,X.env.cells.lookup x=some c->H c=none
 pin:∀p∈X.pn++pins,s.heap.get? p.1=some p.2/\H p.1=none/\p.1≠X.env.locals/\p.1 ∉ X.fs/\∀v,p.2.data≠ .cell v
 hok:nK X.prog X.w H s.heap
 len:σ.length=X.N.length
section
variable {X:Cx} {pins:Aaa} {σ:List (Option V)} {H H':Hp} {s:Shared} {h':Heap}
theorem Cx.Ok.SN(ok:X.Ok){b:Addr}{o:Obj}(e:X.base.get? b=some o):b ∉ X.fs:=fun hb=>by
 have:=(ok.qt.mem hb).1;rw[e] at this;cases this
theorem Inv.bs(I:Inv X pins σ H s):∀b o,X.base.get? b=some o->s.heap.get? b=some o/\H b=none:=fun b o e=>
 ⟨I.base.keep b o (I.ok.bs b o e).1 (I.ok.bs b o e).2 (I.ok.SN e) (I.ok.noex b o e),I.base.free b o (I.ok.bs b o e).1 (I.ok.bs b o e).2 (I.ok.noex b o e)⟩
theorem Inv.bk(I:Inv X pins σ H s):∀b o,X.base.get? b=some o->s.heap.get? b=some o:=fun b o e=>(I.bs b o e).1
theorem Inv.mod(I:Inv X pins σ H s):Mod X.K X.mg X.base:=I.ok.mod
theorem Inv.vE(I:Inv X pins σ H s):X.K.In s.heap:=I.ok.mod.kin.keeps I.bk
theorem Inv.lt(I:Inv X pins σ H s):X.env.locals < s.heap.objs.size:=let⟨_,hn,_⟩:=I.loc;hn.lt
theorem Inv.sz(I:Inv X pins σ H s):X.s₀.heap.objs.size<=s.heap.objs.size:=Nat.le_trans I.ok.above (Nat.le_of_lt I.lt)
theorem Inv.RA(I:Inv X pins σ H s){a:Addr}(h:s.heap.objs.size<=a):a ∉ X.fs:=fun hb=>by
 obtain⟨_,o,ho,_⟩:=I.ok.qt.mem hb;exact absurd (Nat.lt_of_lt_of_le (Heap.lt_size ho) (Nat.le_trans I.sz h)) (Nat.lt_irrefl _)
theorem Inv.EW(I:Inv X pins σ H s):∀x c,X.env.cells.lookup x=some c->c≠X.env.locals:=fun x c e z=>by
 obtain⟨v,o,ho,hd⟩:=I.cell x c e;obtain⟨m,⟨o',es,ep,vn,JN,_⟩,_⟩:=I.loc;rw[z,vn] at ho;cases ho;rw [JN] at hd;cases hd
theorem Inv.qt(I:Inv X pins σ H s):s.heap.FunFrames X.base X.outer:=by
 have all:∀(l:List Env),(∀b∈pG l,b∈X.fs)->X.s₀.heap.FunFrames X.base l->s.heap.FunFrames X.base l:=by
  intro l
  induction l with
  | nil=>intro _ _;trivial
  | cons env r ih=>
    intro hs hl;obtain⟨hk,⟨L,o,hf,hn,ho,hd⟩,hr⟩:=hl;have hL:L∈X.fs:=hs L (by unfold pG;rw [List.filterMap_cons,hf];exact List.mem_cons_self)
    obtain⟨sl,e⟩:=I.base.slot L o ho (I.ok.frf L hL) hL fun z=>I.ok.exfs L z hL
    exact⟨hk,⟨L,_,hf,hn,e,hd⟩,ih (fun b hb=>hs b (by unfold pG;rw [List.filterMap_cons,hf];exact List.mem_cons_of_mem _ hb)) hr⟩
 exact all X.outer (fun _ hb=>hb) I.ok.qt
theorem Inv.stack(I:Inv X pins σ H s):s.heap.FunFrames X.base X.stack:=by
 rcases I.ok.stk with e | ⟨e,hf⟩
 .rw [e];exact I.qt
 .rw [e];obtain⟨m,hn,_⟩:=I.loc;refine .cons (by rw[I.ok.kind];decide) hf hn ?_ I.qt
  exact Heap.get?_none_of_le (Nat.le_trans I.ok.bsz I.ok.above)
theorem Inv.zS(I:Inv X pins σ H s):∀b∈pG X.stack,b∈X.env.locals ::X.fs:=fun b hb=>by
 rcases I.ok.stk with e | ⟨e,hf⟩
 .rw [e] at hb;exact List.mem_cons_of_mem _ hb
 .rw [e] at hb;unfold pG at hb;rw[List.filterMap_cons,hf] at hb;exact hb
theorem Inv.oO(I:Inv X pins σ H s):∀b∈pG X.stack,H b=none:=fun b hb=>by
 rcases List.mem_cons.mp (I.zS b hb) with e | hb
 .rw [e];exact I.free
 .obtain⟨_,o,ho,_⟩:=I.ok.qt.mem hb;exact I.base.free b o ho (I.ok.frf b hb) fun z=>I.ok.exfs b z hb
theorem Inv.step{g':Array GenState}{t':Nat}{d':Drawn}{ch:List Addr}(I:Inv X pins σ H s)
 (Hh:∀b∈ch,(b∈X.ex\/X.s₀.heap.objs.size<=b)/\b≠X.env.locals/\(∀x c,X.env.cells.lookup x=some c->c≠b)/\∀p∈X.pn++pins,p.1≠b)
 (keep:∀b o,b≠X.env.locals->b ∉ X.fs->b ∉ ch->s.heap.get? b=some o->H b=none->h'.get? b=some o)
 (slot:∀b o,b≠X.env.locals->b∈X.fs->b ∉ ch->s.heap.get? b=some o->H b=none->∃sl,h'.get? b=some {o with slots:=sl}) (free:∀b o,b ∉ ch->s.heap.get? b=some o->H b=none->H' b=none)
 (there:∀b o,b ∉ ch->s.heap.get? b=some o->∃o',h'.get? b=some o')
 (tups:∀b xs,H b=some (.tup xs)->H' b=some (.tup xs)) (frzs:∀b o u,H b=some (.ik o u)->H' b=some (.ik o u)) (tbls:∀b ps,H b=some (.tbl ps)->∃more,H' b=some (.tbl (ps++more)))
 (ns:∀m,s.heap.Ns X.env.locals m->h'.Ns X.env.locals m) (hok:nK X.prog X.w H' h') (hg:AllBare g') :
 Inv X pins σ H' {s with heap:=h',gens:=g',drawn:=d',toks:=t'}:=by
 have neL:∀b o,X.s₀.heap.get? b=some o->b≠X.env.locals:=fun b o e=>Nat.ne_of_lt (Nat.lt_of_lt_of_le (Heap.lt_size e) I.ok.above)
 have neC:∀b o,X.s₀.heap.get? b=some o->b ∉ X.ex->b ∉ ch:=fun b o e hx hb=>by
  rcases(Hh b hb).1 with z | z
  .exact hx z
  .exact absurd (Nat.lt_of_lt_of_le (Heap.lt_size e) z) (Nat.lt_irrefl _)
 have cellK:∀x c,X.env.cells.lookup x=some c->∀v,s.heap.IsCell c v->h'.IsCell c v:=fun x c e v ⟨o,ho,hd⟩=>by
  have nch:c ∉ ch:=fun z=>(Hh c z).2.2.1 x c e rfl
  by_cases hc:c∈X.fs
  .obtain⟨sl,q⟩:=slot c o (I.EW x c e) hc nch ho (I.freeC x c e);exact⟨_,q,hd⟩
  .exact⟨o,keep c o (I.EW x c e) hc nch ho (I.freeC x c e),hd⟩
 refine⟨I.ok,I.os,hg,⟨fun b o e n hb hx=>?_,fun b o e n hb hx=>?_,fun b o e n hx=>?_,fun b o e hx=>?_,fun b xs e=>tups b xs (I.base.tups b xs e),fun b o xs e=>frzs b o xs (I.base.frzs b o xs e),fun b ps e=>?_⟩,?_,fun x c e=>?_,?_,fun x c e=>?_,fun p hp=>?_,hok,I.len⟩
 .exact keep b o (neL b o e) hb (neC b o e hx) (I.base.keep b o e n hb hx) (I.base.free b o e n hx)
 .obtain⟨sl,e1⟩:=I.base.slot b o e n hb hx;obtain⟨Z4,e2⟩:=slot b _ (neL b o e) hb (neC b o e hx) e1 (I.base.free b o e n hx);exact⟨Z4,e2⟩
 .obtain⟨o',e1⟩:=I.base.there b o e hx;exact free b o' (neC b o e hx) e1 (I.base.free b o e n hx)
 .obtain⟨o',e1⟩:=I.base.there b o e hx;exact there b o' (neC b o e hx) e1
 .obtain⟨m1,e1⟩:=I.base.tbls b ps e;obtain⟨m2,e2⟩:=tbls b _ e1;exact⟨m1++m2,by rw[e2,Array.append_assoc]⟩
 .obtain⟨m,hn,hl⟩:=I.loc;refine⟨m,ns m hn,fun i x v e1 e2 e3=>?_⟩
  obtain⟨u,r,l⟩:=hl i x v e1 e2 e3;refine⟨u,r,?_⟩;rcases l with l | ⟨k,c,e,z⟩
  .exact .inl l
  .exact .inr ⟨k,c,e,cellK x c e _ z⟩
 .obtain⟨v,z⟩:=I.cell x c e;exact⟨v,cellK x c e v z⟩
 .obtain⟨m,⟨o,_,_,ho,_⟩,_⟩:=I.loc;exact free _ o (fun z=>(Hh _ z).2.1 rfl) ho I.free
 .obtain⟨v,o,ho,hd⟩:=I.cell x c e;exact free c o (fun z=>(Hh c z).2.2.1 x c e rfl) ho (I.freeC x c e)
 .obtain⟨e,n,ne,nf,d⟩:=I.pin p hp;have nch:p.1 ∉ ch:=fun z=>(Hh p.1 z).2.2.2 p hp rfl
  exact⟨keep p.1 p.2 ne nf nch e n,free p.1 p.2 nch e n,ne,nf,d⟩
theorem Inv.un{t':Nat}(I:Inv X pins σ H s)(u:Un X.fs [] H H' s.heap h')(hok:nK X.prog X.w H' h'):Inv X pins σ H' {s with heap:=h',toks:=t'}:=by
 obtain⟨m,⟨o,es,ep,ho,r⟩,_⟩:=id I.loc;obtain⟨sl,hL⟩:=u.any ho I.free (by simp)
 exact I.step (g':=s.gens) (d':=s.drawn) (ch:=[]) (fun _ z=>nomatch z) (fun b o _ hb _ e n=>u.keep b o e n hb (by simp)) (fun b o _ hb _ e n=>u.slot b o e n hb (by simp)) (fun b o _ e n=>u.free b o e n (by simp)) (fun b o _ e=>u.there b o e (by simp)) u.tups u.frzs u.tbls (fun m' hm=>by
  obtain⟨o',Ud,UB,vn,r'⟩:=hm;rw[ho] at vn;cases vn;exact⟨_,Ud,UB,hL,r'⟩) hok I.bare
theorem Inv.call{g':Array GenState}{t':Nat}{d':Drawn}{ch:List Addr}(I:Inv X pins σ H s)(u:Un (pG X.stack) ch H H' s.heap h')(hok:nK X.prog X.w H' h')(hg:AllBare g')
 (Hh:∀b∈ch,(b∈X.ex\/X.s₀.heap.objs.size<=b)/\b≠X.env.locals/\(∀x c,X.env.cells.lookup x=some c->c≠b)/\∀p∈X.pn++pins,p.1≠b) :
 Inv X pins σ H' {s with heap:=h',gens:=g',drawn:=d',toks:=t'}:=by
 obtain⟨m,⟨o,es,ep,ho,r⟩,_⟩:=id I.loc;obtain⟨sl,hL⟩:=u.any ho I.free fun z=>(Hh _ z).2.1 rfl
 exact I.step (ch:=ch) Hh (fun b o hL hb hc e n=>u.keep b o e n (fun z=>(List.mem_cons.mp (I.zS b z)).elim hL hb) hc) (fun b o _ _ hc e n=>u.any e n hc) (fun b o hc e n=>u.free b o e n hc) (fun b o hc e=>u.there b o e hc) u.tups u.frzs u.tbls (fun m' hm=>by
  obtain⟨o',Ud,UB,vn,r'⟩:=hm;rw[ho] at vn;cases vn;exact⟨_,Ud,UB,hL,r'⟩) hok hg
theorem Inv.turned{t':Nat}{it:Addr}(I:Inv X pins σ H s)(k:∀b o,b≠it->s.heap.get? b=some o->h'.get? b=some o)(hn:H it=none)(hL:it≠X.env.locals)
 (h1:it∈X.ex\/X.s₀.heap.objs.size<=it) (h2:∀x c,X.env.cells.lookup x=some c->c≠it) (h3:∀p∈X.pn++pins,p.1≠it):Inv X pins σ H {s with heap:=h',toks:=t'}:=by
 have nit:∀b u,H b=some u->b≠it:=fun b u e z=>by rw[z,hn] at e;cases e
 refine I.step (g':=s.gens) (d':=s.drawn) (ch:=[it]) (fun b hb=>?_) (fun b o _ _ hc e _=>k b o (fun z=>hc (by simp [z])) e) (fun b o _ _ hc e _=>⟨o.slots,k b o (fun z=>hc (by simp [z])) e⟩) (fun _ _ _ _ n=>n)
  (fun b o hc e=>⟨o,k b o (fun z=>hc (by simp [z])) e⟩) (fun _ _ e=>e) (fun _ _ _ e=>e) (fun b ps e=>⟨#[],by rw[e];simp⟩) (fun m hm=>?_) (fun b u e=>?_) I.bare
 .have e:b=it:=by simpa using hb
  subst e;exact⟨h1,hL,h2,h3⟩
 .obtain⟨o,es,ep,ho,r⟩:=hm;exact⟨o,es,ep,k _ o (Ne.symm hL) ho,r⟩
 .refine(I.hok b u e).yh (fun c v hc q=>k c v ?_ q) (fun _ q=>q) fun _ _ q=>q
  rcases hc with z | z
  .rw [z];exact nit b u e
  .exact nit c _ z
theorem Inv.tok(I:Inv X pins σ H s)(t:Nat):Inv X pins σ H {s with toks:=t}:=I.un (h':=s.heap) (t':=t) Un.refl I.hok
theorem Inv.kept{t':Nat}(I:Inv X pins σ H s)(k:∀b u,s.heap.get? b=some u->h'.get? b=some u):Inv X pins σ H {s with heap:=h',toks:=t'}:=I.un (Un.kept k) (I.hok.kept k)
theorem Inv.laid{a:Addr}{o:HO}{t':Nat}(I:Inv X pins σ H s)(k:∀b u,s.heap.get? b=some u->h'.get? b=some u)(hp:s.heap.objs.size<=a)(new:d3 X.prog X.w (upd H a o) h' a o) :
 Inv X pins σ (upd H a o) {s with heap:=h',toks:=t'}:=I.un (Un.laid k hp (I.hok.fresh hp)) (I.hok.laid k hp new)
theorem Inv.write{x e:Addr}{o:HO}{t':Nat}(I:Inv X pins σ H s)(mu:P8 (H x))(he:e=x\/H e=some (.own x))(k:∀b u,b≠e->s.heap.get? b=some u->h'.get? b=some u)(N6:∃u,h'.get? e=some u)
 (new:d3 X.prog X.w (upd H x o) h' x o):Inv X pins σ (upd H x o) {s with heap:=h',toks:=t'}:=I.un (Un.write mu he k N6) (I.hok.write mu he k N6 new)
theorem Inv.BJ{mD:Aaa}(I:Inv X pins σ H s)(h:∀p∈mD,s.heap.get? p.1=some p.2/\H p.1=none/\p.1≠X.env.locals/\p.1 ∉ X.fs/\∀v,p.2.data≠ .cell v):Inv X mD σ H s:=
 ⟨I.ok,I.os,I.bare,I.base,I.loc,I.cell,I.free,I.freeC,fun p hp=>(List.mem_append.mp hp).elim (fun z=>I.pin p (List.mem_append_left _ z)) (h p),I.hok,I.len⟩
theorem qP{N:List Str}(hN:N.Nodup){i j:Nat}(a:N[i]? =some x)(b:N[j]? =some x):i=j:=by
 obtain⟨h1,e1⟩:=List.getElem?_eq_some_iff.mp a;obtain⟨h2,e2⟩:=List.getElem?_eq_some_iff.mp b;exact(List.getElem_inj hN).mp (e1.trans e2.symm)
theorem Dk{M:Model}{A:Around}{E:Aab}{i:Nat}{x:Str}{v:V}{u:Value}{Q:Unit->Shared->Prop}(I:Inv X pins σ H s)(hN:X.N.Nodup)(hi:X.N[i]? =some x)(hx:Loc X.env.scope x)(r:RelV v u)
 (h:∀s',Inv X pins (σ.set i (some v)) H s'->(∃a,Heap.SameBut a s.heap s'.heap/\(a=X.env.locals\/X.env.cells.lookup x=some a))->Q () s') (hf:X.fn x=true\/X.env.scope.names.lookup x=some .local:=by first | exact .inl rfl | exact .inr rfl | assumption):wpAny M A (storeName X.env x u) Q E s:=by
 obtain⟨m,hn,hl⟩:=id I.loc;have hcls:(X.env.scope.kind== .class || (X.env.scope.kind== .module && X.env.locals !=X.env.globals))=false:=by rw[I.ok.kind];rfl
 have hiσ:i < σ.length:=by rw[I.len];exact(List.getElem?_eq_some_iff.mp hi).1
 have EW:=I.EW;have tracked:∀{a:Addr} {h':Heap},(∃o,s.heap.get? a=some o/\H a=none)->Heap.SameBut a s.heap h'->nK X.prog X.w H h':=fun {a h'} ha hs b ob e=>by
  obtain⟨_,_,hfree⟩:=ha;refine(I.hok b ob e).yh (fun c w' hc q=>(hs.2 c ?_).trans q) (fun _ q=>q) fun _ _ q=>q
  rintro rfl;rcases hc with rfl | hc
  .rw [hfree] at e;cases e
  .rw [hfree] at hc;cases hc
 rcases hx with hk | hk
 .refine wpAny_storeName_local hk hn (fun h' U0 hs=>?_) hcls
  obtain⟨oL,_,_,hoL,_⟩:=id hn;refine h _ ⟨I.ok,I.os,I.bare,⟨fun b o e n hb hx=>?_,fun b o e n hb hx=>?_,I.base.free,fun b o e hx=>?_,I.base.tups,I.base.frzs,I.base.tbls⟩,⟨_,U0,fun j y v' e1 e2 e3=>?_⟩,fun y c e=>?_,I.free,I.freeC,fun p hp=>?_,tracked ⟨oL,hoL,I.free⟩ hs,by simpa using I.len⟩ ⟨_,hs, .inl rfl⟩
  .exact(hs.2 b (Nat.ne_of_lt (Nat.lt_of_lt_of_le (Heap.lt_size e) I.ok.above))).trans (I.base.keep b o e n hb hx)
  .obtain⟨sl,e1⟩:=I.base.slot b o e n hb hx;exact⟨sl,(hs.2 b (Nat.ne_of_lt (Nat.lt_of_lt_of_le (Heap.lt_size e) I.ok.above))).trans e1⟩
  .obtain⟨o',e1⟩:=I.base.there b o e hx;exact⟨o',(hs.2 b (Nat.ne_of_lt (Nat.lt_of_lt_of_le (Heap.lt_size e) I.ok.above))).trans e1⟩
  .by_cases hj:j=i
   .subst hj;rw[hi] at e1;cases e1;rw[List.getElem?_set_self hiσ] at e2;cases e2;exact⟨u,r, .inl ⟨hk,by simp⟩⟩
   .rw [List.getElem?_set_ne (Ne.symm hj)] at e2;obtain⟨u',r',q⟩:=hl j y v' e1 e2 e3;refine⟨u',r',?_⟩;rcases q with⟨k,e⟩ | ⟨k,c,e,z⟩
    .refine .inl ⟨k,?_⟩;have:y≠x:=fun e=>hj (qP hN e1 (e▸hi))
     simp [this,e]
    .exact .inr ⟨k,c,e,z.sameBut hs (EW y c e)⟩
  .obtain⟨w',z⟩:=I.cell y c e;exact⟨w',z.sameBut hs (EW y c e)⟩
  .obtain⟨e,n,ne,nf,d⟩:=I.pin p hp;exact⟨(hs.2 p.1 ne).trans e,n,ne,nf,d⟩
 .have hfn:X.fn x=true:=by
   rcases hf with z | z
   .exact z
   .rw [z] at hk;cases hk
  obtain⟨c,hc⟩:=I.ok.has x (.inl hk);obtain⟨w',z⟩:=I.cell x c hc;refine wpAny_storeName_cell I.ok.kind hk hc z (fun h' DU hs=>?_)
  obtain⟨oc,hoc,hocd⟩:=id z;refine h {s with heap:=h'} ⟨I.ok,I.os,I.bare,⟨fun b o e n hb hx=>?_,fun b o e n hb hx=>?_,I.base.free,fun b o e hx=>?_,I.base.tups,I.base.frzs,I.base.tbls⟩,⟨m,hn.sameBut hs (Ne.symm (EW x c hc)),fun j y v' e1 e2 e3=>?_⟩,fun y c' e=>?_,I.free,I.freeC,fun p hp=>?_,tracked ⟨oc,hoc,I.freeC x c hc⟩ hs,by simpa using I.len⟩ ⟨c,hs, .inr hc⟩
  .exact(hs.2 b (Nat.ne_of_lt (Nat.lt_of_lt_of_le (Heap.lt_size e) (I.ok.cab x c hfn hc)))).trans (I.base.keep b o e n hb hx)
  .obtain⟨sl,e1⟩:=I.base.slot b o e n hb hx;exact⟨sl,(hs.2 b (Nat.ne_of_lt (Nat.lt_of_lt_of_le (Heap.lt_size e) (I.ok.cab x c hfn hc)))).trans e1⟩
  .obtain⟨o',e1⟩:=I.base.there b o e hx;exact⟨o',(hs.2 b (Nat.ne_of_lt (Nat.lt_of_lt_of_le (Heap.lt_size e) (I.ok.cab x c hfn hc)))).trans e1⟩
  .by_cases hj:j=i
   .subst hj;rw[hi] at e1;cases e1;rw[List.getElem?_set_self hiσ] at e2;cases e2;exact⟨u,r, .inr ⟨.inl hk,c,hc,DU⟩⟩
   .rw [List.getElem?_set_ne (Ne.symm hj)] at e2;obtain⟨u',r',q⟩:=hl j y v' e1 e2 e3;refine⟨u',r',?_⟩;rcases q with q | ⟨k,c',e,z'⟩
    .exact .inl q
    .refine .inr ⟨k,c',e,z'.sameBut hs ?_⟩;rintro rfl;exact hj (qP hN e1 (I.ok.inj _ _ _ e hc▸hi))
  .by_cases hcc:c'=c
   .subst hcc;exact⟨_,DU⟩
   .obtain⟨w2,z2⟩:=I.cell y c' e;exact⟨w2,z2.sameBut hs hcc⟩
  .obtain⟨e,n,ne,nf,d⟩:=I.pin p hp;refine⟨(hs.2 p.1 ?_).trans e,n,ne,nf,d⟩;intro q;rw[q,hoc] at e;have q':oc=p.2:=Option.some.inj e;exact d w' (by rw[<-q'];exact hocd)
theorem uj{M:Model}{A:Around}{E:Aab}{i:Nat}{x:Str}{v:V}{u:Value}{Q:Unit->Shared->Prop}(I:Inv X pins σ H s)(hN:X.N.Nodup)(hi:X.N[i]? =some x)(hx:Loc X.env.scope x)(r:RelV v u)
 (h:∀s',Inv X pins (σ.set i (some v)) H s'->Q () s') (hf:X.fn x=true\/X.env.scope.names.lookup x=some .local:=by first | exact .inl rfl | exact .inr rfl | assumption):wpAny M A (storeName X.env x u) Q E s:=
 Dk I hN hi hx r (fun s' I' _=>h s' I') hf
theorem Inv.Kp{s':Shared}{ch:List Addr}(I:Inv X pins σ H s)(ho:s'.os=s.os)(u:Un (pG X.stack) ch H H' s.heap s'.heap)(hok:nK X.prog X.w H' s'.heap)(hg:AllBare s'.gens)
 (Hh:∀b∈ch,(b∈X.ex\/X.s₀.heap.objs.size<=b)/\b≠X.env.locals/\(∀x c,X.env.cells.lookup x=some c->c≠b)/\∀p∈X.pn++pins,p.1≠b):Inv X pins σ H' s':=by
 obtain⟨h',g',d',t',o'⟩:=s';have e:o'=s.os:=ho;subst e;exact I.call (g':=g') (t':=t') (d':=d') u hok hg Hh
end
abbrev XK:=Value->Option Addr->Hp->Prop
abbrev St:=List (Option V)
abbrev VK:=V->Hp->Prop
abbrev TE:=St->Hp->VK->Prop
abbrev TT:=St->Hp->(Bool->Hp->Prop)->Prop
abbrev TA:=St->Hp->(List V->Hp->Prop)->Prop
structure Ends where
 nx:St->Hp->Prop
 rt:VK
 bk:St->Hp->Prop:=fun _ _=>False
 ct:St->Hp->Prop:=fun _ _=>False
abbrev TS:=Ends->St->Hp->Prop
def EP(X:Cx)(pins:Aaa)(σ:St)(Q:VK)(u:Value)(s':Shared):Prop:=∃v H',Inv X pins σ H' s'/\RelV v u/\Q v H'
def TP(X:Cx)(pins:Aaa)(σ:St)(Q:Bool->Hp->Prop)(b:Bool)(s':Shared):Prop:=∃H',Inv X pins σ H' s'/\Q b H'
def AP(X:Cx)(pins:Aaa)(σ:St)(Q:List V->Hp->Prop)(us:List Value)(s':Shared):Prop:=∃vs H',Inv X pins σ H' s'/\Vals vs us/\Q vs H'
def SP(X:Cx)(pins:Aaa)(D:Ends)(f:Flow)(s':Shared):Prop:=
 match f with
 | .next=>∃cw H',Inv X pins cw H' s'/\D.nx cw H'
 | .brk=>∃cw H',Inv X pins cw H' s'/\D.bk cw H'
 | .cont=>∃cw H',Inv X pins cw H' s'/\D.ct cw H'
 | .ret u=>∃v cw H',Inv X pins cw H' s'/\RelV v u/\D.rt v H'
def PE(X:Cx)(e:Expr)(t:TE):Prop:=
 ∀(pins:Aaa) (s:Shared) (σ:St) (H:Hp) (Q:VK),Inv X pins σ H s->t σ H Q->wpAny (model X.prog X.w) X.A (eval e X.env) (EP X pins σ Q) X.xe s
def PT(X:Cx)(e:Expr)(t:TT):Prop:=
 ∀(pins:Aaa) (s:Shared) (σ:St) (H:Hp) (Q:Bool->Hp->Prop),Inv X pins σ H s->t σ H Q->wpAny (model X.prog X.w) X.A (isTrue e X.env (eval e X.env)) (TP X pins σ Q) X.xe s
def PW(X:Cx)(e:Expr)(t:TT):Prop:=
 ∀(whole:Sem Value) (pins:Aaa) (s:Shared) (σ:St) (H:Hp) (Q:Bool->Hp->Prop),Inv X pins σ H s->t σ H Q->wpAny (model X.prog X.w) X.A (isTrue e X.env whole) (TP X pins σ Q) X.xe s
theorem PW.pt{X:Cx}{t:TT}(h:PW X e t):PT X e t:=h _
def PA(X:Cx)(es:List Expr)(t:TA):Prop:=
 ∀(pos:Pos) (pins:Aaa) (s:Shared) (σ:St) (H:Hp) (Q:List V->Hp->Prop),Inv X pins σ H s->t σ H Q->wpAny (model X.prog X.w) X.A (spliced (backTo pos (starEach es X.env))) (AP X pins σ Q) X.xe s
def PS(X:Cx)(st:Stmt)(t:TS):Prop:=
 ∀(pins:Aaa) (s:Shared) (σ:St) (H:Hp) (D:Ends),Inv X pins σ H s->t D σ H->wpAny (model X.prog X.w) X.A (exec st X.env) (SP X pins D) X.xe s
def wX(X:Cx)(st:List Stmt)(t:TS):Prop:=
 ∀(pins:Aaa) (s:Shared) (σ:St) (H:Hp) (D:Ends),Inv X pins σ H s->t D σ H->wpAny (model X.prog X.w) X.A (execs st X.env) (SP X pins D) X.xe s
theorem cU{α:Type}{t:Sem α}{Q Q':α->Shared->Prop}{M:Model}{E:Aab}{s:Shared}(h:wpAny M A t Q E s)(hQ:∀a s,Q a s->Q' a s):wpAny M A t Q' E s:=wpAny_mono h hQ fun _ _ x=>x
section
variable {X:Cx}
def SA(i:Nat):TE:=fun σ H Q=>∃v,σ[i]? =some (some v)/\Q v H
def tC(v:V):TE:=fun _ H Q=>Q v H
theorem w_{i:Nat}{pos:Pos}(hN:X.N[i]? =some x)(hv:Kb X.env.scope x)(hd:(x==("__debug__":Str))=false:=by decide)(uJ:(x==("__classdict__":Str))=false:=by decide):PE X (.Name x pos) (SA i):=by
 intro pins s σ H Q I h;obtain⟨v,e,h⟩:=h;obtain⟨m,hn,hl⟩:=I.loc;obtain⟨u,r,l⟩:=hl i x v hN e hv;have fin:EP X pins σ Q u s:=⟨v,H,I,r,h⟩;rcases l with⟨hk,hm⟩ | ⟨hk,c,hc,hcell⟩
 .exact wpAny_Name (wpAny_loadName_local I.ok.kind hk hn hm fin) hd
 .rcases hk with hk | hk
  .exact wpAny_Name (wpAny_loadName_cell I.ok.kind hk hc hcell fin) hd
  .exact wpAny_Name (wpAny_loadName_free I.ok.kind hk hc hcell fin uJ) hd
theorem n8{i j pos}:PE X (.Constant (.int i) j pos) (tC (.int i)):=fun _ _ _ H _ I h=>wpAny_Constant_int ⟨.int i,H,I.tok _,⟨_,rfl⟩,h⟩
theorem Qa{b j pos}:PE X (.Constant (.bool b) j pos) (tC (.bl b)):=fun _ _ _ H _ I h=>Constant_bool ⟨.bl b,H,I,rfl,h⟩
theorem nY{x j pos}:PE X (.Constant (.str x) j pos) (tC (.str x)):=fun _ _ _ H _ I h=>Calls.Constant_str ⟨.str x,H,I.tok _,⟨_,rfl⟩,h⟩
def Gl(X:Cx)(x:Str):Prop:=X.env.kindOf x=some .globalImplicit
theorem qw{E:Aab}{pins:Aaa}{s:Shared}{σ:St}{H:Hp}{x:Str}{u:Value}{pos:Pos}{Q:Aab}(I:Inv X pins σ H s)(hg:Gl X x)(hm:X.mg x=some u)(h:Q u s)
 (hd:(x==("__debug__":Str))=false:=by decide):wpAny (model X.prog X.w) X.A (eval (.Name x pos) X.env) Q E s:=
 Calls.Name_function_global I.ok.kind hg (Calls.loadGlobal_global (by rw[I.ok.glob];exact I.mod.glob.keeps I.bk) hm h) hd
theorem wu{E:Aab}{pins:Aaa}{s:Shared}{σ:St}{H:Hp}{x:Str}{u:Value}{pos:Pos}{Q:Aab}(I:Inv X pins σ H s)(hg:Gl X x)(hm:X.mg x=none)(hv:bootBuiltins x=some u)(h:Q u s)
 (hn:x≠"__name__":=by decide) (hd:(x==("__debug__":Str))=false:=by decide):wpAny (model X.prog X.w) X.A (eval (.Name x pos) X.env) Q E s:=by
 obtain⟨mb,h1,h2⟩:=I.mod.blt;exact Calls.Name_function_global I.ok.kind hg (Calls.loadGlobal_builtin (by rw[I.ok.glob];exact I.mod.glob.keeps I.bk) hm (by rw[I.ok.blt];exact h1.keeps I.bk) ((h2 x hn).trans hv) h) hd
theorem dG{v:V}{u:Value}{pos:Pos}(hg:Gl X x)(hm:X.mg x=some u)(r:RelV v u)(hd:(x==("__debug__":Str))=false:=by decide):PE X (.Name x pos) (tC v):=
 fun _ _ _ H _ I h=>qw I hg hm ⟨v,H,I,r,h⟩ hd
theorem IU{v:V}{u:Value}{pos:Pos}(hg:Gl X x)(hm:X.mg x=none)(hv:bootBuiltins x=some u)(r:RelV v u)(hn:x≠"__name__":=by decide)(hd:(x==("__debug__":Str))=false:=by decide):PE X (.Name x pos) (tC v):=
 fun _ _ _ H _ I h=>wu I hg hm hv ⟨v,H,I,r,h⟩ hn hd
def Q1(ta tb:TE)(k:Int->Int->Hp->Prop):St->Hp->Prop:=fun σ H=>ta σ H fun x H1=>tb σ H1 fun y H2=>∃i j,x= .int i/\y= .int j/\k i j H2
def Xi(ta tb:TE):TE:=fun σ H Q=>Q1 ta tb (fun i j H2=>Q (.int (i+j)) H2) σ H
def YU(ta tb:TE):TE:=fun σ H Q=>Q1 ta tb (fun i j H2=>Q (.int (i - j)) H2) σ H
def Yn(ta tb:TE):TE:=fun σ H Q=>Q1 ta tb (fun i j H2=>(-(2 ^ 64) < i/\i < 2 ^ 64)/\Q (.int (i*j)) H2) σ H
variable {a b:Expr} {ta tb:TE} {pos:Pos}
def PC(X:Cx)(op:CmpOp)(a b:Expr)(t:TE):Prop:=
 ∀(pins:Aaa) (s:Shared) (σ:St) (H:Hp) (Q:VK),Inv X pins σ H s->t σ H Q->
  wpAny (model X.prog X.w) X.A (eval a X.env) (fun v s₁=>wpAny (model X.prog X.w) X.A (eval b X.env) (fun u vm=>wpAny (model X.prog X.w) X.A (compareOp op v u) (EP X pins σ Q) X.xe vm) X.xe s₁) X.xe s
def CS(p:Int->Int->Bool)(ta tb:TE):TE:=fun σ H Q=>Q1 ta tb (fun i j H2=>Q (.bl (p i j)) H2) σ H
abbrev tLt:TE->TE->TE:=CS fun i j=>decide (i < j)
abbrev tLe:TE->TE->TE:=CS fun i j=>decide (i<=j)
abbrev tGt:TE->TE->TE:=CS fun i j=>decide (j < i)
abbrev tGe:TE->TE->TE:=CS fun i j=>decide (j<=i)
abbrev Yz:TE->TE->TE:=CS fun i j=>decide (i=j)
abbrev Y4:TE->TE->TE:=CS fun i j=>!decide (i=j)
def Y0(ta:TE):TE:=fun σ H Q=>ta σ H fun x H1=>Q (.bl (decide (x= .cN))) H1
def Wr(ta:TE):TE:=fun σ H Q=>ta σ H fun x H1=>Q (.bl (!decide (x= .cN))) H1
def tB(t:TE):TT:=fun σ H Q=>t σ H fun x H1=>∃c,x= .bl c/\Q c H1
theorem Nd{op:CmpOp}{t:TE}(h:PC X op a b t)(h1:behindInMarks op b=false:=by first | exact nobehind _ (by decide) (by decide) | rfl):PE X (.Compare a [op] [b] pos) t:=fun pins s σ H Q I hw=>wpAny_Compare1 (h pins s σ H Q I hw) h1
theorem zw{op:CmpOp}{t:TE}(h:PC X op a b t)(h1:behindInMarks op b=false:=by first | exact nobehind _ (by decide) (by decide) | rfl):PT X (.Compare a [op] [b] pos) (tB t):=by
 intro pins s σ H Q I hw;refine wpAny_isTrue_Compare1 (cU (h pins s σ H _ I hw) fun v s1 h1=>cU h1 fun u s2 h2=>cU h2 fun c s3 ⟨x,H1,I1,r1,q1⟩=>?_) h1
 obtain⟨d,rfl,q⟩:=q1;cases r1;exact wpAny_truthy_bool ⟨H1,I1,q⟩
variable {tA Q9:TT} {rest:List Expr}
def R_(t u:TT):TT:=fun σ H Q=>t σ H fun c H1=>if c=true then u σ H1 Q else Q false H1
def XZ(t u:TT):TT:=fun σ H Q=>t σ H fun c H1=>if c=true then Q true H1 else u σ H1 Q
def R0(t:TT):TT:=fun σ H Q=>t σ H fun c H1=>Q (!c) H1
theorem JB(ha:PT X a tA):PW X (.BoolOp .And [a] pos) tA:=by
 intro wh pins s σ H Q I h;refine isTrue_and (cU (ha pins s σ H Q I h) fun c s1 e=>?_)
 cases c with
 | true=>exact isTrue_and_nil e
 | false=>exact e
theorem E6(ha:PT X a tA):PW X (.BoolOp .Or [a] pos) tA:=by
 intro wh pins s σ H Q I h;refine isTrue_or (cU (ha pins s σ H Q I h) fun c s1 e=>?_)
 cases c with
 | false=>exact isTrue_or_nil e
 | true=>exact e
theorem LX(ha:PT X a tA)(hb:PW X (.BoolOp .And (b ::rest) pos) Q9):PW X (.BoolOp .And (a ::b ::rest) pos) (R_ tA Q9):=by
 intro wh pins s σ H Q I h;refine isTrue_and (cU (ha pins s σ H _ I h) fun c s1 ⟨H1,I1,q1⟩=>?_)
 cases c with
 | true=>exact hb wh pins s1 σ H1 Q I1 q1
 | false=>exact⟨H1,I1,q1⟩
theorem Kr(ha:PT X a tA)(hb:PW X (.BoolOp .Or (b ::rest) pos) Q9):PW X (.BoolOp .Or (a ::b ::rest) pos) (XZ tA Q9):=by
 intro wh pins s σ H Q I h;refine isTrue_or (cU (ha pins s σ H _ I h) fun c s1 ⟨H1,I1,q1⟩=>?_)
 cases c with
 | true=>exact⟨H1,I1,q1⟩
 | false=>exact hb wh pins s1 σ H1 Q I1 q1
theorem Ep(ha:PT X a tA):PT X (.UnaryOp .Not a pos) (R0 tA):=by
 intro pins s σ H Q I h;exact isTrue_not (ha pins s σ H (fun c H1=>Q (!c) H1) I h)
def OI(ta tb:TE):TE:=fun σ H Q=>ta σ H fun x H1=>∃c,x= .bl c/\if c=true then tb σ H1 Q else Q (.bl false) H1
def TJ(ta tb:TE):TE:=fun σ H Q=>ta σ H fun x H1=>∃c,x= .bl c/\if c=true then Q (.bl true) H1 else tb σ H1 Q
def Oy(ta:TE):TE:=fun σ H Q=>ta σ H fun x H1=>∃c,x= .bl c/\Q (.bl (!c)) H1
theorem Mx{op}{t:TE}(h:PE X a t):PE X (.BoolOp op [a] pos) t:=fun pins s σ H Q I hw=>BoolOp_one (h pins s σ H Q I hw)
theorem M_(ha:PE X a ta)(hb:PE X (.BoolOp .And (b ::rest) pos) tb):PE X (.BoolOp .And (a ::b ::rest) pos) (OI ta tb):=by
 intro pins s σ H Q I h;refine BoolOp_and (cU (ha pins s σ H _ I h) fun v s1 ⟨x,H1,I1,r1,q1⟩=>?_)
 obtain⟨c,rfl,q1⟩:=q1;cases r1;refine wpAny_truthy_bool ?_;cases c with
 | true=>exact hb pins s1 σ H1 Q I1 q1
 | false=>exact⟨.bl false,H1,I1,rfl,q1⟩
theorem O5(ha:PE X a ta)(hb:PE X (.BoolOp .Or (b ::rest) pos) tb):PE X (.BoolOp .Or (a ::b ::rest) pos) (TJ ta tb):=by
 intro pins s σ H Q I h;refine BoolOp_or (cU (ha pins s σ H _ I h) fun v s1 ⟨x,H1,I1,r1,q1⟩=>?_)
 obtain⟨c,rfl,q1⟩:=q1;cases r1;refine wpAny_truthy_bool ?_;cases c with
 | false=>exact hb pins s1 σ H1 Q I1 q1
 | true=>exact⟨.bl true,H1,I1,rfl,q1⟩
theorem L6(ha:PE X a ta):PE X (.UnaryOp .Not a pos) (Oy ta):=by
 intro pins s σ H Q I h;refine UnaryOp_ (cU (ha pins s σ H _ I h) fun v s1 ⟨x,H1,I1,r1,q1⟩=>?_)
 obtain⟨c,rfl,q1⟩:=q1;cases r1;exact not_of (wpAny_truthy_bool ⟨.bl (!c),H1,I1,rfl,q1⟩)
def tIf(t:TT)(ta tb:TE):TE:=fun σ H Q=>t σ H fun c H1=>if c=true then ta σ H1 Q else tb σ H1 Q
end
def nL(K:W.Frag)(H:Hp)(a:Addr)(xs:List V):Prop:=
 Rd H a (.lst xs)\/
  ∃(o:Obj) (its:Array Value) (n:Nat),K.lookup a=some o/\o.cls= .type "list"/\o.dict=none/\o.data= .seq its n/\its.size<=sizeLine/\Vals xs its.toList
def rC(K:W.Frag)(H:Hp)(a:Addr)(xs:List V):Prop:=
 Rd H a (.tup xs)\/
  ∃(o:Obj) (its:Array Value) (n:Nat),K.lookup a=some o/\o.cls= .type "tuple"/\o.data= .seq its n/\its.size<=sizeLine/\Vals xs its.toList
def So:Value->Option V
 | .none=>some .cN
 | .bool b=>some (.bl b)
 | .int i _=>some (.int i)
 | .str x _=>some (.str x)
 | .bytes b _=>some (.byt b)
 | .float b _=>some (.flt b)
 | .ref a=>some (.ref a)
 | .type n=>some (.ty n)
 | _=>none
theorem RelV.abs{x:V}{u:Value}(r:RelV x u):So u=some x:=by
 cases x with
 | cN=>cases r;rfl
 | bl _=>cases r;rfl
 | int _=>obtain⟨t,rfl⟩:=r;rfl
 | str _=>obtain⟨t,rfl⟩:=r;rfl
 | byt _=>obtain⟨t,rfl⟩:=r;rfl
 | flt _=>obtain⟨t,rfl⟩:=r;rfl
 | ref _=>cases r;rfl
 | ty _=>cases r;rfl
theorem RelV.inj{x y:V}{u:Value}(r:RelV x u)(q:RelV y u):x=y:=Option.some.inj (r.abs.symm.trans q.abs)
theorem Vals.inj:∀{xs ys:List V} {us:List Value},Vals xs us->Vals ys us->xs=ys
 | _,_,_, .nil, .nil=>rfl
 | _,_,_, .cons r t, .cons r' t'=>by rw[r.inj r',Vals.inj t t']
section
variable {X:Cx} {pins:Aaa} {σ:St} {H:Hp} {s:Shared} {a:Addr} {xs ys:List V}
theorem nL.of{K:W.Frag}(h:H a=some (.lst xs)):nL K H a xs:= .inl (.inl h)
theorem Inv.list(I:Inv X pins σ H s)(h:nL X.K H a xs):∃its:List Value,Vals xs its/\PlainL s.heap a its.toArray/\xs.length<=sizeLine:=by
 rcases h with h | ⟨o,its,n,hk,hc,hd,hs,hz,r⟩
 .obtain⟨z,its,n,r,e⟩:=h.ok I.hok;exact⟨its,r,⟨_,n,e,rfl,rfl,rfl⟩,z⟩
 .refine⟨its.toList,r,⟨o,n,I.vE a o hk,hc,hd,by simpa using hs⟩,?_⟩
  have e:=r.length;simp only[Array.length_toList] at e;omega
theorem Inv.tuple(I:Inv X pins σ H s)(h:rC X.K H a xs):∃its:List Value,Vals xs its/\IsTup s.heap a its.toArray/\xs.length<=sizeLine:=by
 rcases h with h | ⟨o,its,n,hk,hc,hs,hz,r⟩
 .obtain⟨z,its,r,p⟩:=h.ok I.hok;exact⟨its,r,p,z⟩
 .refine⟨its.toList,r,⟨o,I.vE a o hk,hc,n,by simpa using hs⟩,?_⟩
  have e:=r.length;simp only[Array.length_toList] at e;omega
theorem Inv.Fw(I:Inv X pins σ H s)(h:nL X.K H a xs)(h':nL X.K H a ys):xs=ys:=by
 obtain⟨its,r,⟨o,n,e,_,_,d⟩,_⟩:=I.list h;obtain⟨its',r',⟨o',n',e',_,_,d'⟩,_⟩:=I.list h';rw[e] at e';cases e';rw[d] at d';injection d' with d1 _
 have:its=its':=by simpa using congrArg Array.toList d1
 subst this;exact r.inj r'
theorem Inv.Cu(I:Inv X pins σ H s)(h:rC X.K H a xs)(h':rC X.K H a ys):xs=ys:=by
 obtain⟨its,r,⟨o,e,_,n,d⟩,_⟩:=I.tuple h;obtain⟨its',r',⟨o',e',_,n',d'⟩,_⟩:=I.tuple h';rw[e] at e';cases e';rw[d] at d';injection d' with d1 _
 have:its=its':=by simpa using congrArg Array.toList d1
 subst this;exact r.inj r'
end
abbrev Cx.u7(X:Cx)(E:Aab):Cx:={X with xe:=E}
abbrev Cx.IZ(X:Cx):Cx:=X.u7 fun _ _=>False
theorem Cx.Ok.u7{X:Cx}(ok:X.Ok)(E:Aab):(X.u7 E).Ok:=
 ⟨ok.mod,ok.kind,ok.glob,ok.blt,ok.above,ok.inj,ok.has,ok.cab,ok.hd,ok.frames,ok.stk,ok.exf,ok.bs,ok.bsz,ok.noex,ok.exfs,ok.qt,ok.frf⟩
theorem Cx.Ok.oG{X:Cx}{E:Aab}(ok:(X.u7 E).Ok):X.Ok:=
 ⟨ok.mod,ok.kind,ok.glob,ok.blt,ok.above,ok.inj,ok.has,ok.cab,ok.hd,ok.frames,ok.stk,ok.exf,ok.bs,ok.bsz,ok.noex,ok.exfs,ok.qt,ok.frf⟩
section
variable {X:Cx} {pins:Aaa} {σ:St} {H:Hp} {s:Shared} {E:Aab}
theorem Inv.u7(I:Inv X pins σ H s)(E:Aab):Inv (X.u7 E) pins σ H s:=⟨I.ok.u7 E,I.os,I.bare,I.base,I.loc,I.cell,I.free,I.freeC,I.pin,I.hok,I.len⟩
theorem Inv.oG(I:Inv (X.u7 E) pins σ H s):Inv X pins σ H s:=⟨I.ok.oG,I.os,I.bare,I.base,I.loc,I.cell,I.free,I.freeC,I.pin,I.hok,I.len⟩
theorem SP.oG{D:Ends}{f:Flow}{s':Shared}(h:SP (X.u7 E) pins D f s'):SP X pins D f s':=by
 cases f with
 | next=>obtain⟨cw,H',I,q⟩:=h;exact⟨cw,H',I.oG,q⟩
 | brk=>obtain⟨cw,H',I,q⟩:=h;exact⟨cw,H',I.oG,q⟩
 | cont=>obtain⟨cw,H',I,q⟩:=h;exact⟨cw,H',I.oG,q⟩
 | ret u=>obtain⟨v,cw,H',I,r,q⟩:=h;exact⟨v,cw,H',I.oG,r,q⟩
theorem wX.IZ{st:List Stmt}{t:TS}(h:wX X.IZ st t):wX X st t:=fun pins s σ H D I hw=>
 wpAny_mono (h pins s σ H D (I.u7 _) hw) (fun _ _ q=>q.oG) fun _ _ z=>False.elim z
end
section
variable {X:Cx} {st:Stmt} {rest:List Stmt} {t u:TS} {e:Expr} {te:TE} {pos:Pos}
def OH:TS:=fun D σ H=>D.nx σ H
def Pc(t u:TS):TS:=fun D σ H=>t {D with nx:=u D} σ H
theorem wy:wX X [] OH:=fun _ _ σ H _ I h=>wpAny_execs_nil ⟨σ,H,I,h⟩
theorem ua(h1:PS X st t)(h2:wX X rest u):wX X (st ::rest) (Pc t u):=by
 intro pins s σ H D I h;refine wpAny_execs_cons (cU (h1 pins s σ H {D with nx:=u D} I h) fun f s1 q=>?_)
 cases f with
 | next=>
   obtain⟨cw,H',I',q⟩:=q;exact h2 pins s1 cw H' D I' q
 | ret v=>exact q
 | brk=>exact q
 | cont=>exact q
theorem xj(h1:PS X st t):wX X [st] t:=by
 intro pins s σ H D I h;refine wpAny_execs_cons (cU (h1 pins s σ H D I h) fun f s1 q=>?_)
 cases f with
 | next=>exact wpAny_execs_nil q
 | ret v=>exact q
 | brk=>exact q
 | cont=>exact q
def Rv:TS:=fun D σ H=>D.bk σ H
def VY:TS:=fun D σ H=>D.ct σ H
theorem Inv.quiet{pins:Aaa}{s:Shared}(I:Inv X pins σ H s):interactive X.env=false:=by simp [interactive,I.ok.kind]
def Pr(te:TE):TS:=fun D σ H=>te σ H fun _ H1=>D.nx σ H1
theorem qM(he:PE X e te)(hs:swapsWith e none pos.line X.env=pure false:=by rfl):PS X (.Expr e pos) (Pr te):=by
 intro pins s σ H D I h;exact wpAny_Expr_any (cU (he pins s σ H _ I h) fun v s1 ⟨x,H1,I1,r1,q1⟩=>⟨σ,H1,I1,q1⟩) I.quiet hs
def RN(te:TE):TS:=fun D σ H=>te σ H D.rt
theorem GV(he:PE X e te):PS X (.Return (some e) pos) (RN te):=by
 intro pins s σ H D I h;exact wpAny_Return_some (cU (he pins s σ H _ I h) fun v s1 ⟨x,H1,I1,r1,q1⟩=>⟨x,σ,H1,I1,r1,q1⟩)
def Wc:TS:=fun D _ H=>D.rt .cN H
def OS(c:TT)(t u:TS):TS:=fun D σ H=>c σ H fun b H1=>if b=true then t D σ H1 else u D σ H1
theorem E4{tc:TT}(hc:PT X c tc)(ha:wX X a t)(hb:wX X b u):PS X (.If c a b pos) (OS tc t u):=by
 intro pins s σ H D I h;refine wpAny_If (cU (hc pins s σ H _ I h) fun d s1 ⟨H1,I1,q1⟩=>?_)
 cases d with
 | true=>exact ha pins s1 σ H1 D I1 q1
 | false=>exact hb pins s1 σ H1 D I1 q1
def SQ:TS:=fun _ _ _=>False
end
abbrev TG:=V->St->Hp->(St->Hp->Prop)->Prop
abbrev Ga:=List V->St->Hp->(St->Hp->Prop)->Prop
def PG(X:Cx)(target:Expr)(t:TG):Prop:=
 ∀(pins:Aaa) (s:Shared) (σ:St) (H:Hp) (v:V) (u:Value) (Q:St->Hp->Prop),Inv X pins σ H s->RelV v u->t v σ H Q->
  wpAny (model X.prog X.w) X.A (assign target X.env u) (fun _ s'=>∃cw H',Inv X pins cw H' s'/\Q cw H') X.xe s
def I0(X:Cx)(ts:List Expr)(t:Ga):Prop:=
 ∀(pins:Aaa) (s:Shared) (σ:St) (H:Hp) (vs:List V) (us:List Value) (Q:St->Hp->Prop),Inv X pins σ H s->Vals vs us->t vs σ H Q->
  wpAny (model X.prog X.w) X.A (assignInOrder ((assignEach ts X.env).map (·.2)) us) (fun _ s'=>∃cw H',Inv X pins cw H' s'/\Q cw H') X.xe s
abbrev K4:=V->V->V->Hp->(Hp->Prop)->Prop
def Yq(X:Cx)(t:K4):Prop:=
 ∀(pins:Aaa) (s:Shared) (σ:St) (H:Hp) (o i v:V) (ov iv u:Value) (Q:Hp->Prop),Inv X pins σ H s->RelV o ov->RelV i iv->RelV v u->t o i v H Q->
  wpAny (model X.prog X.w) X.A (setItem ov iv u) (fun _ s'=>∃H',Inv X pins σ H' s'/\Q H') X.xe s
abbrev QM:=V->V->Hp->VK->Prop
def PIp(X:Cx)(op:Operator)(t:QM):Prop:=
 ∀(pins:Aaa) (s:Shared) (σ:St) (H:Hp) (x y:V) (v u:Value) (Q:VK),Inv X pins σ H s->RelV x v->RelV y u->t x y H Q->
  wpAny (model X.prog X.w) X.A (inplaceOp op v u) (EP X pins σ Q) X.xe s
section
variable {X:Cx} {pos:Pos}
def Bs(i:Nat):TG:=fun v σ H Q=>Q (σ.set i (some v)) H
theorem AU{i:Nat}(hN:X.N.Nodup)(hi:X.N[i]? =some x)(hx:Loc X.env.scope x)(hf:X.fn x=true\/X.env.scope.names.lookup x=some .local:=by first | exact .inl rfl | exact .inr rfl | assumption):PG X (.Name x pos) (Bs i):=by
 intro pins s σ H v u Q I r h;exact wpAny_assign_Name (uj I hN hi hx r (fun s' I'=>⟨_,H,I',h⟩) hf)
def Tc:Ga:=fun vs σ H Q=>vs=[]/\Q σ H
def OV(t:TG)(u:Ga):Ga:=fun vs σ H Q=>∃v r,vs=v ::r/\t v σ H fun cw H'=>u r cw H' Q
theorem Iy:I0 X [] Tc:=by
 intro pins s σ H vs us Q I r h;obtain⟨e,h⟩:=h;subst e;cases r;exact assignInOrder_nil ⟨σ,H,I,h⟩
theorem Fq{e:Expr}{es:List Expr}{t:TG}{u:Ga}(h1:PG X e t)(h2:I0 X es u)
 (hs:(assignEach (e ::es) X.env).map (·.2)=assign e X.env ::(assignEach es X.env).map (·.2):=by rfl):I0 X (e ::es) (OV t u):=by
 intro pins s σ H vs us Q I r h;obtain⟨v,vr,e1,h⟩:=h;subst e1;cases r with
 | cons r rr=>
   rw[hs];refine assignInOrder_cons (cU (h1 pins s σ H _ _ _ I r h) fun _ s1 ⟨N5,H1,I1,q1⟩=>?_)
   exact h2 pins s1 N5 H1 _ _ Q I1 rr q1
def Yo(K:W.Frag)(n:Nat)(t:Ga):TG:=fun v σ H Q=>∃a xs,v= .ref a/\rC K H a xs/\xs.length=n/\t xs σ H Q
def YI(to ti:TE)(t:K4):TG:=fun v σ H Q=>to σ H fun o H1=>ti σ H1 fun i H2=>t o i v H2 fun H3=>Q σ H3
def IM(te:TE)(g:TG):TS:=fun D σ H=>te σ H fun x H1=>g x σ H1 D.nx
theorem MD{tg e:Expr}{te:TE}{g:TG}(he:PE X e te)(hg:PG X tg g)(hs:swapsWithSole [tg] e pos.line X.env=pure false:=by rfl)(hw:swappedStores [tg] e X.env=pure none:=by rfl)
 (h1:(assignEach [tg] X.env).map (·.2)=[assign tg X.env]:=by rfl):PS X (.Assign [tg] e pos) (IM te g):=by
 intro pins s σ H D I h;refine wpAny_Assign_stores (cU (he pins s σ H _ I h) fun v s1 ⟨x,H1,I1,r1,q1⟩=>?_) hs hw
 rw[h1];exact cU (hg pins s1 σ H1 x v _ I1 r1 q1) fun _ s2 q=>q
theorem Av{i:Nat}{te:TE}(hN:X.N.Nodup)(hi:X.N[i]? =some x)(hx:Loc X.env.scope x)(he:PE X e te)(hs:swapsWith e (some (.Name x pos')) pos.line X.env=pure false:=by rfl)(hf:X.fn x=true\/X.env.scope.names.lookup x=some .local:=by first | exact .inl rfl | exact .inr rfl | assumption) :
 PS X (.Assign [.Name x pos'] e pos) (IM te (Bs i)):=by
 intro pins s σ H D I h;refine wpAny_Assign_Name (cU (he pins s σ H _ I h) fun v s1 ⟨y,H1,I1,r1,q1⟩=>?_) hs
 exact uj I1 hN hi hx r1 (fun s2 I2=>⟨_,H1,I2,q1⟩) hf
def Ys(i j:Nat)(ta:TA):TS:=fun D σ H=>ta σ H fun vs H1=>∃v w,vs=[v,w]/\D.nx ((σ.set i (some v)).set j (some w)) H1
def XR(i:Nat)(te:TE)(ti:QM):TS:=fun D σ H=>∃x,σ[i]? =some (some x)/\te σ H fun y H1=>ti x y H1 fun z H2=>D.nx (σ.set i (some z)) H2
def Wi(to ti te:TE)(Uy:V->V->Hp->VK->Prop)(ZA:QM)(UY:K4):TS:=fun D σ H=>to σ H fun o H1=>ti σ H1 fun i H2=>Uy o i H2 fun x H3=>te σ H3 fun y H4=>ZA x y H4 fun z H5=>UY o i z H5 fun H6=>D.nx σ H6
def XE(X:Cx)(t:V->V->Hp->VK->Prop):Prop:=
 ∀(pins:Aaa) (s:Shared) (σ:St) (H:Hp) (o i:V) (ov iv:Value) (Q:VK),Inv X pins σ H s->RelV o ov->RelV i iv->t o i H Q->
  wpAny (model X.prog X.w) X.A (getItem ov iv) (EP X pins σ Q) X.xe s
def ipI(f:Int->Int->Int):QM:=fun x y H Q=>∃i j,x= .int i/\y= .int j/\Q (.int (f i j)) H
end
section
variable {X:Cx} {pos:Pos}
def Tf(c:TT)(tb:TS):TS:=fun D σ H=>∃W:Nat->St->Hp->Prop,(∃m,W m σ H)/\∀m σ H,W m σ H->
 c σ H fun b H1=>if b=true then ∃N:St->Hp->Prop,(∀cw H',N cw H'->∃m',m' < m/\W m' cw H')/\tb {D with nx:=N,ct:=N,bk:=D.nx} σ H1 else D.nx σ H1
end
structure It where
 go:Nat->Hp->Prop
 yld:Nat->Hp->V->Hp->Prop
 stop:Nat->Hp->Prop
def tm(X:Cx)(pins:Aaa)(H:Hp)(b:Addr):Prop:=
 H b=none/\b≠X.env.locals/\b ∉ X.fs/\(b∈X.ex\/X.s₀.heap.objs.size<=b)/\(∀x c,X.env.cells.lookup x=some c->c≠b)/\∀p∈X.pn++pins,p.1≠b
theorem Inv.Gh{X:Cx}{pins:Aaa}{H H':Hp}{s:Shared}{b:Addr}(I:Inv X pins σ H s)(hb:s.heap.objs.size<=b)(hn:H' b=none):tm X pins H' b:=by
 refine⟨hn,Nat.ne_of_gt (Nat.lt_of_lt_of_le I.lt hb),I.RA hb, .inr (Nat.le_trans I.sz hb),fun x c e z=>?_,fun p hp z=>?_⟩
 .obtain⟨v,q⟩:=I.cell x c e;exact absurd (Nat.lt_of_lt_of_le q.lt (by rw[z];exact hb)) (Nat.lt_irrefl _)
 .exact absurd (Nat.lt_of_lt_of_le (Heap.lt_size (I.pin p hp).1) (by rw[z];exact hb)) (Nat.lt_irrefl _)
structure Turn (P:Program) (w:World) (K:W.Frag) (tg:Expr) (J:It) (fp:List Addr) (it:Addr) (tn:Nat->Heap->Prop):Prop where
 mem:it∈fp
 obj:∀i h,tn i h->∀b∈fp,∃o,h.get? b=some o/\∀v,o.data≠ .cell v
 keep:∀i h h',tn i h->(∀b∈fp,∀o,h.get? b=some o->h'.get? b=some o)->tn i h'
 item:∀(X:Cx),X.prog=P->X.w=w->X.K=K->X.calm=true->∀(i:Nat) (pins:Aaa) (s:Shared) (σ:St) (H:Hp) (E:Aab),Inv X pins σ H s->(∀b∈fp,tm X pins H b)->tn i s.heap->J.go i H->
  wpAny (model P w) X.A (pyNext (.ref it)) (fun r s1=>∃u,r=some u/\
   wpAny (model P w) X.A (letOwnedTupleGo tg (.ref it) u) (fun _ s2=>∃x H',Inv X pins σ H' s2/\RelV x u/\J.yld i H x H'/\tn (i+1) s2.heap/\∀b∈fp,H' b=none) E s1) E s
 done:∀(X:Cx),X.prog=P->X.w=w->X.K=K->X.calm=true->∀(i:Nat) (pins:Aaa) (s:Shared) (σ:St) (H:Hp) (E:Aab),Inv X pins σ H s->(∀b∈fp,tm X pins H b)->tn i s.heap->J.stop i H->
  wpAny (model P w) X.A (pyNext (.ref it)) (fun r s1=>r=none/\Inv X pins σ H s1) E s
 self:∀(A:Around) (i:Nat) (s:Shared) (Q:Aab) (E:Aab),tn i s.heap->Q (.ref it) s->wpAny (model P w) A (pyIter (.ref it)) Q E s
abbrev TI:=St->Hp->(It->Hp->Prop)->Prop
def We(X:Cx)(pins:Aaa)(σ:St)(tg:Expr)(R:It->Hp->Prop)(TR:Value)(s2:Shared):Prop:=
 ∃(it:Addr) (fp:List Addr) (tn:Nat->Heap->Prop) (J:It) (H':Hp),TR= .ref it/\Inv X pins σ H' s2/\Turn X.prog X.w X.K tg J fp it tn/\tn 0 s2.heap/\(∀b∈fp,tm X pins H' b)/\R J H'
def PI(X:Cx)(tg iter:Expr)(wi:TI):Prop:=
 ∀(pins:Aaa) (s:Shared) (σ:St) (H:Hp) (R:It->Hp->Prop),Inv X pins σ H s->wi σ H R->
  wpAny (model X.prog X.w) X.A (eval iter X.env) (fun v s1=>wpAny (model X.prog X.w) X.A (pyIter v) (We X pins σ tg R) X.xe s1) X.xe s
theorem A8{M:Model}{A:Around}{E:Aab}{s:Shared}{tg:Expr}{it:Addr}{u:Value}{o:Obj}{n:String}{vs:Array Value}{Q:Unit->Shared->Prop}(ho:s.heap.get? it=some o)(hc:o.cls= .type n)(hd:o.data= .fields vs)
 (hn:["enumerate","zip","dict_itemiterator","dict_reverseitemiterator","odict_iterator","itertools.zip_longest","itertools.pairwise"].contains n=false) (hQ:Q () s):wpAny M A (letOwnedTupleGo tg (.ref it) u) Q E s:=by
 unfold letOwnedTupleGo;cases tg <;> first
  | exact wpAny_pure hQ
  | (cases u <;> first
      | exact wpAny_pure hQ
      | (refine wpAny_bind (wpAny_load ho ?_)
         rw[hc,hd];show wpAny M A (if(["enumerate","zip","dict_itemiterator","dict_reverseitemiterator","odict_iterator","itertools.zip_longest","itertools.pairwise"].contains n && vs[0]? ==some (rawInt _))=true then _ else _) Q E s
         rw[if_neg (by intro h;rw [hn,Bool.false_and] at h;cases h)]
         exact wpAny_pure hQ))
def V8(K:W.Frag)(a:Addr):It:=
 ⟨fun i H=>∃xs x,nL K H a xs/\xs[i]? =some x,fun i H x H'=>H'=H/\∀xs,nL K H a xs->xs[i]? =some x,fun i H=>∃xs,nL K H a xs/\xs.length<=i⟩
def V2(K:W.Frag)(a:Addr):It:=
 ⟨fun i H=>∃xs x,rC K H a xs/\xs[i]? =some x,fun i H x H'=>H'=H/\∀xs,rC K H a xs->xs[i]? =some x,fun i H=>∃xs,rC K H a xs/\xs.length<=i⟩
def Ox(lo:Int)(n:Nat):It:=⟨fun i _=>i < n,fun i H x H'=>H'=H/\x= .int (lo+i),fun i _=>n<=i⟩
theorem Du{K:W.Frag}(a it:Addr):Turn P w K tg (V8 K a) [it] it (fun i h=>h.IsListIter it a i) where
 mem:=by simp
 obj:=fun i h st b hb=>by
  have e:b=it:=by simpa using hb
  subst e;obtain⟨o,e,c,d⟩:=st;exact⟨o,e,fun v z=>by rw[d] at z;cases z⟩
 keep:=fun i h h' st k=>st.at fun o e=>k it (by simp) o e
 item:=by
  intro X hP hw hK hc i pins s σ H E I hf st hg;subst hP hw hK;obtain⟨xs,x,hq,hx⟩:=hg;obtain⟨its,rv,p,hz⟩:=I.list hq;obtain⟨u,hu,ru⟩:=rv.get hx;obtain⟨f0,f1,f2,f3,f4,f5⟩:=hf it (by simp)
  refine wpAny_pyNext_list_item st p.isList (x:=u) (by simpa using hu) fun h' GW sb=>?_
  have I1:Inv X pins σ H {s with heap:=h'}:=I.turned (t':=s.toks) (fun b o hb e=>(sb.2 b hb).trans e) f0 f1 f3 f4 f5
  obtain⟨o,e,c,d⟩:=id GW;exact⟨u,rfl,A8 (s:={s with heap:=h'}) e c d (by decide) ⟨x,H,I1,ru,⟨rfl,fun ys hy=>by rw[I.Fw hy hq];exact hx⟩,GW,fun b hb=>(hf b hb).1⟩⟩
 done:=by
  intro X hP hw hK hc i pins s σ H E I hf st hg;subst hP hw hK;obtain⟨xs,hq,hx⟩:=hg;obtain⟨its,rv,p,hz⟩:=I.list hq;obtain⟨f0,f1,f2,f3,f4,f5⟩:=hf it (by simp)
  have hl:=rv.length;exact wpAny_pyNext_list_end (I.ok.hd hc) st p.isList (by simp;omega) fun h' eb=>⟨rfl,I.turned (t':=s.toks) (fun b o hb e=>eb b o hb e) f0 f1 f3 f4 f5⟩
 self:=fun _ _ _ _ _ st h=>wpAny_pyIter_listiter st h
theorem z7{K:W.Frag}(a it:Addr):Turn P w K tg (V2 K a) [it] it (fun i h=>h.IsTupleIter it a i) where
 mem:=by simp
 obj:=fun i h st b hb=>by
  have e:b=it:=by simpa using hb
  subst e;obtain⟨o,e,c,d⟩:=st;exact⟨o,e,fun v z=>by rw[d] at z;cases z⟩
 keep:=fun i h h' st k=>st.at fun o e=>k it (by simp) o e
 item:=by
  intro X hP hw hK hc i pins s σ H E I hf st hg;subst hP hw hK;obtain⟨xs,x,hq,hx⟩:=hg;obtain⟨its,rv,p,hz⟩:=I.tuple hq;obtain⟨u,hu,ru⟩:=rv.get hx;obtain⟨f0,f1,f2,f3,f4,f5⟩:=hf it (by simp)
  refine wpAny_pyNext_tuple_item st (show s.heap.IsTuple a its.toArray from p) (x:=u) (by simpa using hu) fun h' GW sb=>?_
  have I1:Inv X pins σ H {s with heap:=h'}:=I.turned (t':=s.toks) (fun b o hb e=>(sb.2 b hb).trans e) f0 f1 f3 f4 f5
  obtain⟨o,e,c,d⟩:=id GW;exact⟨u,rfl,A8 (s:={s with heap:=h'}) e c d (by decide) ⟨x,H,I1,ru,⟨rfl,fun ys hy=>by rw[I.Cu hy hq];exact hx⟩,GW,fun b hb=>(hf b hb).1⟩⟩
 done:=by
  intro X hP hw hK hc i pins s σ H E I hf st hg;subst hP hw hK;obtain⟨xs,hq,hx⟩:=hg;obtain⟨its,rv,p,hz⟩:=I.tuple hq;obtain⟨f0,f1,f2,f3,f4,f5⟩:=hf it (by simp)
  have hl:=rv.length;exact wpAny_pyNext_tuple_end (I.ok.hd hc) st (show s.heap.IsTuple a its.toArray from p) (by simp;omega) fun h' eb=>⟨rfl,I.turned (t':=s.toks) (fun b o hb e=>eb b o hb e) f0 f1 f3 f4 f5⟩
 self:=fun _ _ _ _ _ st h=>wpAny_pyIter_tupleiter st h
theorem z9{K:W.Frag}(it:Addr)(lo:Int)(n:Nat):Turn P w K tg (Ox lo n) [it] it (fun i h=>IsRangeIter h it (lo+(i:Nat)*1) ((n:Int) - (i:Nat)) 1) where
 mem:=by simp
 obj:=fun i h st b hb=>by
  have e:b=it:=by simpa using hb
  subst e;exact⟨_,st,fun v z=>by
   have z':Data.fields _=Data.cell v:=z;cases z'⟩
 keep:=fun i h h' st k=>k it (by simp) _ st
 item:=by
  intro X hP hw hK hc i pins s σ H E I hf st hg;subst hP hw hK;obtain⟨f0,f1,f2,f3,f4,f5⟩:=hf it (by simp)
  have W:=Walks.range (prog:=X.prog) (w:=X.w) (I.ok.hd hc) it lo 1 n;refine W.item i s _ _ hg st fun v h' tk hv GW kk=>?_
  obtain⟨t,rfl⟩:=hv;have I1:Inv X pins σ H {s with heap:=h',toks:=tk}:=I.turned (fun b o hb e=>kk b o (by simpa using hb) e) f0 f1 f3 f4 f5
  refine⟨_,rfl,A8 (s:={s with heap:=h',toks:=tk}) (n:="range_iterator") GW rfl rfl (by decide) ⟨.int (lo+i),H,I1,⟨t,?_⟩,⟨rfl,rfl⟩,GW,fun b hb=>(hf b hb).1⟩⟩
  rw[Int.mul_one]
 done:=by
  intro X hP hw hK hc i pins s σ H E I hf st hg;subst hP hw hK;obtain⟨f0,f1,f2,f3,f4,f5⟩:=hf it (by simp)
  exact wpAny_pyNext_range_end (I.ok.hd hc) st (by have:n<=i:=hg;omega) fun h' eb=>⟨rfl,I.turned (t':=s.toks) (fun b o hb e=>eb b o hb e) f0 f1 f3 f4 f5⟩
 self:=fun _ _ _ _ _ st h=>wpAny_pyIter_rangeiter st h
section
variable {X:Cx} {tg:Expr}
def VJ(K:W.Frag)(tl:TE):TI:=fun σ H R=>tl σ H fun x H1=>∃a,x= .ref a/\(∃xs,nL K H1 a xs)/\R (V8 K a) H1
def Sd(K:W.Frag)(tl:TE):TI:=fun σ H R=>tl σ H fun x H1=>∃a,x= .ref a/\(∃xs,rC K H1 a xs)/\R (V2 K a) H1
theorem Fh{pins:Aaa}{σ:St}{H:Hp}{s:Shared}{R:It->Hp->Prop}{E:Aab}{lo hi:Int}{t u v:Tok}{tk:Nat}(I:Inv X pins σ H s)(h1: -(2 ^ 62)<=lo)(h2:lo < 2 ^ 62)(h3: -(2 ^ 62)<=hi)(h4:hi < 2 ^ 62)
 (q:R (Ox lo (hi - lo).toNat) H):wpAny (model X.prog X.w) X.A (pyIter (.ref s.heap.objs.size)) (We X pins σ tg R) E {s with heap:=s.heap.push {cls:= .type "range",data:= .fields #[.int lo t, .int hi u, .int 1 v]},toks:=tk}:=by
 refine wpAny_pyIter_range (IsRange.new ..) (small_one h1 h2 h3 h4) ?_;have I1:Inv X pins σ H {s with heap:=s.heap.push {cls:= .type "range",data:= .fields #[.int lo t, .int hi u, .int 1 v]},toks:=tk}:=I.kept fun b o e=>Heap.get?_push_of_some _ e
 refine⟨(s.heap.push {cls:= .type "range",data:= .fields #[.int lo t, .int hi u, .int 1 v]}).objs.size,[(s.heap.push {cls:= .type "range",data:= .fields #[.int lo t, .int hi u, .int 1 v]}).objs.size],_,_,H,rfl,
  I1.kept (t':=tk) fun b o e=>Heap.get?_push_of_some _ e,z9 _ lo (hi - lo).toNat,?_,fun b hb=>?_,q⟩
 .have e1:lo+((0:Nat):Int)*1=lo:=by simp
  have e2:(((hi - lo).toNat:Nat):Int) - ((0:Nat):Int)=Builtin.Range.rangeSize lo hi 1:=by rw[rangeSize_one];split <;> omega
  show IsRangeIter _ _ (lo+((0:Nat):Int)*1) ((((hi - lo).toNat:Nat):Int) - ((0:Nat):Int)) 1;rw[e1,e2];exact Heap.get?_push_size _ rfl
 .have e:b=(s.heap.push {cls:= .type "range",data:= .fields #[.int lo t, .int hi u, .int 1 v]}).objs.size:=by simpa using hb
  subst e;exact I1.Gh (Nat.le_refl _) (I1.hok.fresh (Nat.le_refl _))
def KD(ta:TA):TI:=fun σ H R=>ta σ H fun vs H1=>∃j:Int,vs=[.int j]/\ -(2 ^ 62)<=j/\j < 2 ^ 62/\R (Ox 0 j.toNat) H1
def Vx(ta:TA):TI:=fun σ H R=>ta σ H fun vs H1=>∃i j:Int,vs=[.int i, .int j]/\(-(2 ^ 62)<=i/\i < 2 ^ 62/\ -(2 ^ 62)<=j/\j < 2 ^ 62)/\R (Ox i (j - i).toNat) H1
theorem B0{ta:TA}{p pos:Pos}(hg:Gl X "range")(hm:X.mg "range"=none)(ha:PA X [a] ta)(hs:starEach [a] X.env=[(false,eval a X.env)]:=by rfl):PI X tg (.Call (.Name "range" p) [a] [] pos) (KD ta):=by
 intro pins s σ H R I h;refine Call_ (wu I hg hm boot_range (PyProof.Rows.callWith_type1 (cU (ha pos pins s σ H _ I h) fun us s1 ⟨vs,H1,I1,r1,q1⟩=>?_) hs rfl))
 obtain⟨j,e,q1,q2,q⟩:=q1;subst e;cases r1 with
 | cons r rr=>
   cases rr;obtain⟨t,rfl⟩:=r;exact call_range_1 (Fh I1 (by omega) (by omega) q1 q2 (by simpa using q))
def SD(wi:TI)(g:TG)(tb:TS):TS:=fun D σ H=>wi σ H fun J H1=>∃W:Nat->Nat->St->Hp->Prop,(∃m,W 0 m σ H1)/\∀i m σ H,W i m σ H->
 (J.stop i H/\D.nx σ H)\/(J.go i H/\∃N:St->Hp->Prop,(∀cw H',N cw H'->∃m',m' < m/\W (i+1) m' cw H')/\∀x H',J.yld i H x H'->g x σ H' fun vj H2=>tb {D with nx:=N,ct:=N,bk:=D.nx} vj H2)
def pT(fp:List Addr)(h:Heap):Aaa:=fp.filterMap fun b=>(h.get? b).map fun o=>(b,o)
theorem mT{fp:List Addr}{h:Heap}{b:Addr}{o:Obj}(hb:b∈fp)(e:h.get? b=some o):(b,o)∈pT fp h:=List.mem_filterMap.mpr ⟨b,hb,by rw[e];rfl⟩
theorem Di{fp:List Addr}{h:Heap}{p:Addr × Obj}(hp:p∈pT fp h):p.1∈fp/\h.get? p.1=some p.2:=by
 obtain⟨b,hb,e⟩:=List.mem_filterMap.mp hp;cases q:h.get? b with
 | none=>rw [q] at e;cases e
 | some o=>
   rw[q] at e;have e':(b,o)=p:=Option.some.inj e;subst e';exact⟨hb,q⟩
theorem Inv.pinned{pins:Aaa}{s:Shared}{fp:List Addr}(I:Inv X pins σ H s)(hf:∀b∈fp,tm X pins H b)(ho:∀b∈fp,∃o,s.heap.get? b=some o/\∀v,o.data≠ .cell v):Inv X (pins++pT fp s.heap) σ H s:=
 I.BJ fun p hp=>(List.mem_append.mp hp).elim (fun z=>I.pin p (List.mem_append_right _ z)) fun z=>by
  obtain⟨hb,e⟩:=Di z;obtain⟨f0,f1,f2,_⟩:=hf p.1 hb;obtain⟨o,e',d⟩:=ho p.1 hb;rw[e] at e';cases e';exact⟨e,f0,f1,f2,d⟩
theorem Inv.qK{pins pl:Aaa}{s:Shared}(I:Inv X (pins++pl) σ H s):Inv X pins σ H s:=I.BJ fun p hp=>I.pin p (List.mem_append_right _ (List.mem_append_left _ hp))
theorem Aq{iter:Expr}{body:List Stmt}{wi:TI}{g:TG}{tb:TS}{pos:Pos}(hp:PassesOwn (model X.prog X.w) X.A X.env X.xe)(hc:X.calm=true)(hi:PI X tg iter wi)(hg:PG X tg g)(hb:wX X body tb)
 (hs:∀x,foldedSetIterable iter X.env x=pure x:=by intro _;rfl):PS X (.For tg iter body [] pos) (SD wi g tb):=by
 intro pins s σ H D I h;refine wpAny_For (cU (hi pins s σ H _ I h) fun v s1 h1=>cU h1 fun TR s2 h2=>?_) hs
 obtain⟨it,fp,tn,J,H2,e,I2,T,Q8,f2,W,⟨m0,w0⟩,turn⟩:=h2;subst e;have stat:∀{H':Hp},(∀b∈fp,H' b=none)->∀b∈fp,tm X pins H' b:=fun hn b hb=>⟨hn b hb,(f2 b hb).2⟩
 refine codeAny_forLoop_any (fun n s'=>∃i cw H',Inv X pins cw H' s'/\tn i s'.heap/\(∀b∈fp,H' b=none)/\W i n cw H') ?_ m0 ⟨0,σ,H2,I2,Q8,fun b hb=>(f2 b hb).1,w0⟩
 rintro n s3 ⟨i,Hn,H3,I3,Nw,QC,w3⟩;rcases turn i n Hn H3 w3 with⟨stop,qn⟩ | ⟨go,N,hN,step⟩
 .refine wpAny_passesOwn hp (cU (T.done X rfl rfl rfl hc i pins s3 Hn H3 X.xe I3 (stat QC) Nw stop) fun r s4 ⟨hr,I4⟩=>?_)
  subst hr;exact wpAny_execs_nil ⟨Hn,H3,I4,qn⟩
 .refine wpAny_passesOwn hp (cU (T.item X rfl rfl rfl hc i pins s3 Hn H3 X.xe I3 (stat QC) Nw go) fun r s4 ⟨u,hr,h4⟩=>?_)
  subst hr;refine wpAny_passesOwn hp (cU h4 fun _ s5 ⟨x,H5,I5,r5,y5,Nj,UR⟩=>?_)
  have I5':=I5.pinned (stat UR) (T.obj _ _ Nj);refine wpAny_passesOwn hp (cU (hg _ s5 Hn H5 x u _ I5' r5 (step x H5 y5)) fun _ s6 ⟨Qp,H6,I6,q6⟩=>?_)
  refine wpAny_passesOwn hp (cU (hb _ s6 Qp H6 _ I6 q6) fun f s7 q7=>?_)
  have again:∀{zh:St} {H7:Hp},Inv X (pins++pT fp s5.heap) zh H7 s7->N zh H7->∃m,m < n/\∃i cw H',Inv X pins cw H' s7/\tn i s7.heap/\(∀b∈fp,H' b=none)/\W i m cw H':=fun {zh H7} I7 n7=>by
   obtain⟨m',hm,w7⟩:=hN zh H7 n7;refine⟨m',hm,i+1,zh,H7,I7.qK,T.keep _ _ _ Nj fun b hb o e=>(I7.pin (b,o) (List.mem_append_right _ (List.mem_append_right _ (mT hb e)))).1,fun b hb=>?_,w7⟩
   obtain⟨o,e,d⟩:=T.obj _ _ Nj b hb;exact(I7.pin (b,o) (List.mem_append_right _ (List.mem_append_right _ (mT hb e)))).2.1
  cases f with
  | next=>obtain⟨zh,H7,I7,n7⟩:=q7;exact again I7 n7
  | cont=>obtain⟨zh,H7,I7,n7⟩:=q7;exact again I7 n7
  | brk=>obtain⟨zh,H7,I7,q7⟩:=q7;exact⟨zh,H7,I7.qK,q7⟩
  | ret v=>obtain⟨x7,zh,H7,I7,r7,q7⟩:=q7;exact⟨x7,zh,H7,I7.qK,r7,q7⟩
end
abbrev R2:=V->V->Hp->VK->Prop
def o5(X:Cx)(f:Value->Value->Sem Value)(r:R2):Prop:=
 ∀(pins:Aaa) (s:Shared) (σ:St) (H:Hp) (x y:V) (v u:Value) (Q:VK),Inv X pins σ H s->RelV x v->RelV y u->r x y H Q->
  wpAny (model X.prog X.w) X.A (f v u) (EP X pins σ Q) X.xe s
def Tw(X:Cx)(f:Value->Sem Value)(r:V->Hp->VK->Prop):Prop:=
 ∀(pins:Aaa) (s:Shared) (σ:St) (H:Hp) (x:V) (v:Value) (Q:VK),Inv X pins σ H s->RelV x v->r x H Q->
  wpAny (model X.prog X.w) X.A (f v) (EP X pins σ Q) X.xe s
def kx(X:Cx)(f:Value)(r:List V->Hp->VK->Prop):Prop:=
 ∀(pins:Aaa) (s:Shared) (σ:St) (H:Hp) (xs:List V) (us:List Value) (Q:VK),Inv X pins σ H s->Vals xs us->r xs H Q->
  wpAny (model X.prog X.w) X.A (call f us) (EP X pins σ Q) X.xe s
def Sz(X:Cx)(r:V->Hp->(Bool->Hp->Prop)->Prop):Prop:=
 ∀(pins:Aaa) (s:Shared) (σ:St) (H:Hp) (x:V) (v:Value) (Q:Bool->Hp->Prop),Inv X pins σ H s->RelV x v->r x H Q->
  wpAny (model X.prog X.w) X.A (truthy v) (TP X pins σ Q) X.xe s
def Nz(r:R2)(ta tb:TE):TE:=fun σ H Q=>ta σ H fun x H1=>tb σ H1 fun y H2=>r x y H2 Q
def XX(r:V->Hp->VK->Prop)(ta:TE):TE:=fun σ H Q=>ta σ H fun x H1=>r x H1 Q
def rI(C:Int->Int->Prop)(g:Int->Int->V):R2:=fun x y H Q=>∃i j,x= .int i/\y= .int j/\C i j/\Q (g i j) H
def Hf(g:Int->Int->V):R2:=fun x y H Q=>∃i j,x= .int i/\y= .int j/\Q (g i j) H
def rU(g:Int->V):V->Hp->VK->Prop:=fun x H Q=>∃i,x= .int i/\Q (g i) H
section
variable {X:Cx} {a b c:Expr} {ta tb tc:TE} {pos:Pos}
theorem M3(ha:PE X a ta)(hb:PE X b tb){pins:Aaa}{s:Shared}{σ:St}{H:Hp}{R:V->V->Hp->Prop}(I:Inv X pins σ H s)
 (h:ta σ H fun x H1=>tb σ H1 fun y H2=>R x y H2) {Q:Aab} {f:Value->Value->Sem Value}
 (hf:∀v u s2 x y H2,Inv X pins σ H2 s2->RelV x v->RelV y u->R x y H2->wpAny (model X.prog X.w) X.A (f v u) Q X.xe s2) :
 wpAny (model X.prog X.w) X.A (eval a X.env) (fun v s₁=>wpAny (model X.prog X.w) X.A (eval b X.env) (fun u vm=>wpAny (model X.prog X.w) X.A (f v u) Q X.xe vm) X.xe s₁) X.xe s:=by
 refine cU (ha pins s σ H _ I h) fun v s1 ⟨x,H1,I1,r1,q1⟩=>?_
 refine cU (hb pins s1 σ H1 _ I1 q1) fun u s2 ⟨y,H2,I2,r2,q2⟩=>?_
 exact hf v u s2 x y H2 I2 r1 r2 q2
theorem JR{op:Operator}{r:R2}(ho:o5 X (binaryOp op) r)(ha:PE X a ta)(hb:PE X b tb):PE X (.BinOp a op b pos) (Nz r ta tb):=by
 intro pins s σ H Q I h;exact wpAny_BinOp (M3 ha hb I h fun v u s2 x y H2 I2 rx ry q=>ho pins s2 σ H2 x y v u Q I2 rx ry q)
theorem OP{op:UnaryOp}{r:V->Hp->VK->Prop}(ho:Tw X (unaryOp op) r)(ha:PE X a ta):PE X (.UnaryOp op a pos) (XX r ta):=by
 intro pins s σ H Q I h;exact UnaryOp_ (cU (ha pins s σ H _ I h) fun v s1 ⟨x,H1,I1,r1,q1⟩=>ho pins s1 σ H1 x v Q I1 r1 q1)
theorem Qb{f:Value->Value->Sem Value}{C:Int->Int->Prop}{g:Int->Int->Int}
 (rule:∀(i j:Int) (t u:Tok) (s:Shared) (Q:Aab) (E:Aab),C i j->Q (.int (g i j) s.toks) {s with toks:=s.toks+1}->wpAny (model X.prog X.w) X.A (f (.int i t) (.int j u)) Q E s) :
 o5 X f (rI C fun i j=> .int (g i j)):=by
 intro pins s σ H x y v u Q I rx ry h;obtain⟨i,j,rfl,rfl,hc,q⟩:=h;obtain⟨t,rfl⟩:=rx;obtain⟨t',rfl⟩:=ry;exact rule i j t t' s _ _ hc ⟨.int (g i j),H,I.tok _,⟨_,rfl⟩,q⟩
theorem OF{f:Value->Value->Sem Value}{g:Int->Int->Int}
 (rule:∀(i j:Int) (t u:Tok) (s:Shared) (Q:Aab) (E:Aab),Q (.int (g i j) s.toks) {s with toks:=s.toks+1}->wpAny (model X.prog X.w) X.A (f (.int i t) (.int j u)) Q E s) :
 o5 X f (Hf fun i j=> .int (g i j)):=by
 intro pins s σ H x y v u Q I rx ry h;obtain⟨i,j,rfl,rfl,q⟩:=h;obtain⟨t,rfl⟩:=rx;obtain⟨t',rfl⟩:=ry;exact rule i j t t' s _ _ ⟨.int (g i j),H,I.tok _,⟨_,rfl⟩,q⟩
theorem Iv{f:Value->Value->Sem Value}{g:Int->Int->Bool}
 (rule:∀(i j:Int) (t u:Tok) (s:Shared) (Q:Aab) (E:Aab),Q (.bool (g i j)) s->wpAny (model X.prog X.w) X.A (f (.int i t) (.int j u)) Q E s) :
 o5 X f (Hf fun i j=> .bl (g i j)):=by
 intro pins s σ H x y v u Q I rx ry h;obtain⟨i,j,rfl,rfl,q⟩:=h;obtain⟨t,rfl⟩:=rx;obtain⟨t',rfl⟩:=ry;exact rule i j t t' s _ _ ⟨.bl (g i j),H,I,rfl,q⟩
def Ti(i j:Int):Prop:=0 < j/\j < 1073741824
def Wg(i j:Int):Prop:=j≠0/\j.natAbs < 1073741824
def Tz(i j:Int):Prop:=0<=j/\j<=1000000/\i.natAbs < 2 ^ 64
def Mj(i j:Int):Prop:=(-(2 ^ 64) < i/\i < 2 ^ 64)\/(-(2 ^ 64) < j/\j < 2 ^ 64)
theorem Mj.ok{i j:Int}(h:Mj i j):IntMulOk i j:=by
 rcases h with⟨h1,h2⟩ | ⟨h1,h2⟩
 .exact .of_left (intBits_le_64 h1 h2)
 .exact .of_right (intBits_le_64 h1 h2)
theorem zt(k:Nat):(0:Int)<=2 ^ k:=by
 rw[two_pow_cast];exact Int.natCast_nonneg _
theorem KW:o5 X (binaryOp .Add) (Hf fun i j=> .int (i+j)):=OF fun _ _ _ _ _ _ _ q=>add_int q
theorem Mo:o5 X (binaryOp .Sub) (Hf fun i j=> .int (i - j)):=OF fun _ _ _ _ _ _ _ q=>sub_int q
theorem Lu:o5 X (binaryOp .Mult) (rI Mj fun i j=> .int (i*j)):=Qb fun _ _ _ _ _ _ _ hc q=>mul_int q hc.ok
theorem Hv:o5 X (binaryOp .FloorDiv) (rI Ti fun i j=> .int (i / j)):=Qb fun i j _ _ _ _ _ hc q=>by
 have h1:(0:Int) < j:=hc.1;have h2:j < 1073741824:=hc.2;exact floordiv_int (by omega) (by rw[Int.fdiv_eq_ediv_of_nonneg i (by omega)];exact q) (.inl (PyProof.noPylong_small (by omega)))
theorem LR:o5 X (binaryOp .Mod) (rI (fun _ j=>0 < j) fun i j=> .int (i % j)):=Qb fun i j _ _ _ _ _ hc q=>by
 have h1:(0:Int) < j:=hc;exact mod_int' (by omega) (by rw[Int.fmod_eq_emod_of_nonneg i (by omega)];exact q)
theorem Lv:o5 X (binaryOp .Pow) (rI Tz fun i j=> .int (i ^ j.toNat)):=Qb fun _ _ _ _ _ _ _ hc q=>pow_int_small hc.1 hc.2.1 hc.2.2 q
theorem Ms:o5 X (binaryOp .RShift) (rI (fun _ j=>0<=j) fun i j=> .int (i / 2 ^ j.toNat)):=Qb fun i j _ _ _ _ _ hc q=>
 rshift_int hc (by rw[Int.fdiv_eq_ediv_of_nonneg i (zt _)];exact q)
theorem Yc{f:Value->Sem Value}{g:Int->Int}
 (rule:∀(i:Int) (t:Tok) (s:Shared) (Q:Aab) (E:Aab),Q (.int (g i) s.toks) {s with toks:=s.toks+1}->wpAny (model X.prog X.w) X.A (f (.int i t)) Q E s) :
 Tw X f (rU fun i=> .int (g i)):=by
 intro pins s σ H x v Q I rx h;obtain⟨i,rfl,q⟩:=h;obtain⟨t,rfl⟩:=rx;exact rule i t s _ _ ⟨.int (g i),H,I.tok _,⟨_,rfl⟩,q⟩
theorem K8:Tw X (unaryOp .USub) (rU fun i=> .int (-i)):=Yc fun _ _ _ _ _ q=>neg_int q
end
def Pf:V->V->Bool
 | .cN, .cN=>true | .cN, .int _=>true | .int _, .cN=>true | .cN, .bl _=>true | .bl _, .cN=>true | .cN, .str _=>true | .str _, .cN=>true
 | .int _, .int _=>true | .bl _, .bl _=>true | .str _, .str _=>true | .byt _, .byt _=>true
 | .int _, .str _=>true | .str _, .int _=>true | .bl _, .str _=>true | .str _, .bl _=>true
 | _,_=>false
def X8:R2:=fun x y H Q=>Pf x y=true/\Q (.bl (decide (x=y))) H
def XF:R2:=fun x y H Q=>Pf x y=true/\Q (.bl (!decide (x=y))) H
theorem BQ{i j:Int}:decide (V.int i=V.int j)=(i==j):=by
 rw[Bool.eq_iff_iff];simp
theorem GO{i j:Bool}:decide (V.bl i=V.bl j)=(i==j):=by
 rw[Bool.eq_iff_iff];simp
theorem BN:decide (V.str i=V.str j)=(i==j):=by
 rw[Bool.eq_iff_iff];simp
theorem AI{i j:Array UInt8}:decide (V.byt i=V.byt j)=(i.toList==j.toList):=by
 rw[Bool.eq_iff_iff];cases i;cases j;simp
section
variable {X:Cx} {a b c:Expr} {ta tb tc:TE} {pos:Pos}
theorem b5{pins:Aaa}{s:Shared}{Q:VK}{k k':Bool}(I:Inv X pins σ H s)(q:Q (.bl k) H)(e:k=k'):EP X pins σ Q (.bool k') s:=by
 subst e;exact⟨.bl k,H,I,rfl,q⟩
theorem D6:o5 X (compareOp .Eq) X8:=by
 intro pins s σ H x y v u Q I rx ry h;obtain⟨hs,q⟩:=h;cases x with
 | cN=>
   cases rx;cases y with
   | cN=>cases ry;exact PySem.EqNone.eq_none_none (b5 I q (by simp))
   | bl j=>cases ry;exact PySem.EqNone.eq_none_bool (b5 I q (by simp))
   | int j=>obtain⟨t',rfl⟩:=ry;exact PySem.EqNone.eq_none_int (b5 I q (by simp))
   | str j=>obtain⟨t',rfl⟩:=ry;exact PySem.EqNone.eq_none_str (b5 I q (by simp))
   | _=>exact absurd (show false=true from hs) Bool.false_ne_true
 | bl i=>
   cases rx;cases y with
   | cN=>cases ry;exact PySem.EqNone.eq_bool_none (b5 I q (by simp))
   | bl j=>cases ry;exact eq_bool (b5 I q GO)
   | str j=>obtain⟨t',rfl⟩:=ry;exact PySem.EqMixed.eq_bool_str (b5 I q (by simp))
   | _=>exact absurd (show false=true from hs) Bool.false_ne_true
 | int i=>
   obtain⟨t,rfl⟩:=rx;cases y with
   | cN=>cases ry;exact PySem.EqNone.eq_int_none (b5 I q (by simp))
   | int j=>obtain⟨t',rfl⟩:=ry;exact eq_int (b5 I q BQ)
   | str j=>obtain⟨t',rfl⟩:=ry;exact PySem.EqMixed.eq_int_str (b5 I q (by simp))
   | _=>exact absurd (show false=true from hs) Bool.false_ne_true
 | str i=>
   obtain⟨t,rfl⟩:=rx;cases y with
   | cN=>cases ry;exact PySem.EqNone.eq_str_none (b5 I q (by simp))
   | bl j=>cases ry;exact PySem.EqMixed.eq_str_bool (b5 I q (by simp))
   | int j=>obtain⟨t',rfl⟩:=ry;exact PySem.EqMixed.eq_str_int (b5 I q (by simp))
   | str j=>obtain⟨t',rfl⟩:=ry;exact eq_str (b5 I q BN)
   | _=>exact absurd (show false=true from hs) Bool.false_ne_true
 | byt i=>
   obtain⟨t,rfl⟩:=rx;cases y with
   | byt j=>obtain⟨t',rfl⟩:=ry;exact PySem.W.eq_bytes (b5 I q AI)
   | _=>exact absurd (show false=true from hs) Bool.false_ne_true
 | _=>cases y <;> exact absurd (show false=true from hs) Bool.false_ne_true
theorem EL:o5 X (compareOp .NotEq) XF:=by
 intro pins s σ H x y v u Q I rx ry h;obtain⟨hs,q⟩:=h;cases x with
 | cN=>
   cases rx;cases y with
   | cN=>cases ry;exact PySem.EqNone.ne_none_none (b5 I q (by simp))
   | bl j=>cases ry;exact PySem.EqNone.ne_none_bool (b5 I q (by simp))
   | int j=>obtain⟨t',rfl⟩:=ry;exact PySem.EqNone.ne_none_int (b5 I q (by simp))
   | str j=>obtain⟨t',rfl⟩:=ry;exact PySem.EqNone.ne_none_str (b5 I q (by simp))
   | _=>exact absurd (show false=true from hs) Bool.false_ne_true
 | bl i=>
   cases rx;cases y with
   | cN=>cases ry;exact PySem.EqNone.ne_bool_none (b5 I q (by simp))
   | bl j=>cases ry;exact ne_bool (b5 I q (congrArg not GO))
   | str j=>obtain⟨t',rfl⟩:=ry;exact PySem.EqMixed.ne_bool_str (b5 I q (by simp))
   | _=>exact absurd (show false=true from hs) Bool.false_ne_true
 | int i=>
   obtain⟨t,rfl⟩:=rx;cases y with
   | cN=>cases ry;exact PySem.EqNone.ne_int_none (b5 I q (by simp))
   | int j=>obtain⟨t',rfl⟩:=ry;exact ne_int (b5 I q (congrArg not BQ))
   | str j=>obtain⟨t',rfl⟩:=ry;exact PySem.EqMixed.ne_int_str (b5 I q (by simp))
   | _=>exact absurd (show false=true from hs) Bool.false_ne_true
 | str i=>
   obtain⟨t,rfl⟩:=rx;cases y with
   | cN=>cases ry;exact PySem.EqNone.ne_str_none (b5 I q (by simp))
   | bl j=>cases ry;exact PySem.EqMixed.ne_str_bool (b5 I q (by simp))
   | int j=>obtain⟨t',rfl⟩:=ry;exact PySem.EqMixed.ne_str_int (b5 I q (by simp))
   | str j=>obtain⟨t',rfl⟩:=ry;exact ne_str (b5 I q (congrArg not BN))
   | _=>exact absurd (show false=true from hs) Bool.false_ne_true
 | byt i=>
   obtain⟨t,rfl⟩:=rx;cases y with
   | byt j=>obtain⟨t',rfl⟩:=ry;exact PySem.W.ne_bytes (b5 I q (congrArg not AI))
   | _=>exact absurd (show false=true from hs) Bool.false_ne_true
 | _=>cases y <;> exact absurd (show false=true from hs) Bool.false_ne_true
theorem OR:o5 X (compareOp .Lt) (Hf fun i j=> .bl (decide (i < j))):=Iv fun _ _ _ _ _ _ _ q=>lt_int q
theorem Od:o5 X (compareOp .LtE) (Hf fun i j=> .bl (decide (i<=j))):=Iv fun _ _ _ _ _ _ _ q=>le_int q
theorem P7:o5 X (compareOp .Gt) (Hf fun i j=> .bl (decide (j < i))):=Iv fun _ _ _ _ _ _ _ q=>gt_int q
theorem OG:o5 X (compareOp .GtE) (Hf fun i j=> .bl (decide (j<=i))):=Iv fun _ _ _ _ _ _ _ q=>ge_int q
theorem CA:o5 X (compareOp .In) (fun x y H Q=>∃i j,x= .str i/\y= .str j/\Q (.bl (!(Builtin.Str.occurrences j i 0 j.length 1).isEmpty)) H):=by
 intro pins s σ H x y v u Q I rx ry h;obtain⟨i,j,rfl,rfl,q⟩:=h;obtain⟨t,rfl⟩:=rx;obtain⟨t',rfl⟩:=ry;exact in_str (b5 I q rfl)
theorem vY:o5 X (compareOp .NotIn) (fun x y H Q=>∃i j,x= .str i/\y= .str j/\Q (.bl (!(!(Builtin.Str.occurrences j i 0 j.length 1).isEmpty))) H):=by
 intro pins s σ H x y v u Q I rx ry h;obtain⟨i,j,rfl,rfl,q⟩:=h;obtain⟨t,rfl⟩:=rx;obtain⟨t',rfl⟩:=ry;exact notIn_str (b5 I q rfl)
def isObj:HO->Bool
 | .lst _=>true
 | .ins _ _ _=>true
 | _=>false
theorem bJ(b:Expr){op:CmpOp}(h:op≠ .In:=by decide)(h2:op≠ .NotIn:=by decide):behindInMarks op b=false:=by
 have e1:(op==CmpOp.In)=false:=by cases op <;> first | rfl | exact absurd rfl h
 have e2:(op==CmpOp.NotIn)=false:=by cases op <;> first | rfl | exact absurd rfl h2
 cases b <;> simp [behindInMarks,e1,e2]
theorem AZ{op:CmpOp}{r:R2}(ho:o5 X (compareOp op) r)(ha:PE X a ta)(hb:PE X b tb)(hm:behindInMarks op b=false):PE X (.Compare a [op] [b] pos) (Nz r ta tb):=by
 intro pins s σ H Q I h;exact wpAny_Compare1 (M3 ha hb I h fun v u s2 x y H2 I2 rx ry q=>ho pins s2 σ H2 x y v u Q I2 rx ry q) hm
def OL(t:TE):TT:=fun σ H Q=>t σ H fun x H'=>∃k,x= .bl k/\Q k H'
theorem Bk{op:CmpOp}{r:R2}(ho:o5 X (compareOp op) r)(ha:PE X a ta)(hb:PE X b tb)(hm:behindInMarks op b=false):PT X (.Compare a [op] [b] pos) (OL (Nz r ta tb)):=by
 intro pins s σ H Q I h;refine wpAny_isTrue_Compare1 (cU (ha pins s σ H _ I h) fun v s1 ⟨x,H1,I1,r1,q1⟩=>cU (hb pins s1 σ H1 _ I1 q1) fun u s2 ⟨y,H2,I2,r2,q2⟩=>
  cU (ho pins s2 σ H2 x y v u _ I2 r1 r2 q2) fun c s3 ⟨z,H3,I3,r3,k,e,q3⟩=>?_) hm
 subst e;cases r3;exact wpAny_truthy_bool ⟨H3,I3,q3⟩
def S8(r r':R2)(ta tb tc:TE):TE:=fun σ H Q=>ta σ H fun x H1=>tb σ H1 fun y H2=>r x y H2 fun z H3=>∃k,z= .bl k/\
 (if k=true then tc σ H3 fun w' H4=>r' y w' H4 Q else Q (.bl false) H3)
def MA(K:W.Frag)(x:V)(H:Hp)(k:Bool):Prop:=
 match x with
 | .cN=>k=false
 | .bl b=>k=b
 | .int i=>k=(i !=0)
 | .str y=>y.length<=sizeLine/\k=((y.length:Int) !=0)
 | .byt y=>y.size<=sizeLine/\k=((y.size:Int) !=0)
 | .ref p=>(∃xs,nL K H p xs/\k=!xs.isEmpty)\/(∃xs,rC K H p xs/\k=!xs.isEmpty)\/∃aC,H p=some (.dK aC)/\k=!aC.isEmpty
 | _=>False
theorem AA{κ:Type}{aC:List (κ × V)}{vs:List (κ × Value)}(r:KV aC vs):(!vs.isEmpty)=!aC.isEmpty:=by
 cases r <;> rfl
theorem tY{xs:List V}{its:List Value}(r:Vals xs its):(!its.toArray.isEmpty)=!xs.isEmpty:=by
 cases r <;> simp
theorem q_:(sizeLine:Nat) < 2 ^ 63:=by rw[sizeLine_eq];decide
theorem Nc:Sz X (fun x H Q=>∃k,MA X.K x H k/\Q k H):=by
 intro pins s σ H x v Q I rx h;obtain⟨k,e,q⟩:=h;have hl:=q_;have hs:sizeLine=16777216:=sizeLine_eq;cases x with
 | cN=>
   cases rx;have e':k=false:=e;subst e';exact truthy_none ⟨H,I,q⟩
 | bl b=>
   cases rx;have e':k=b:=e;subst e';exact wpAny_truthy_bool ⟨H,I,q⟩
 | int i=>
   obtain⟨t,rfl⟩:=rx;have e':k=(i !=0):=e;subst e';exact PySem.P.truthy_int ⟨H,I,q⟩
 | str y=>
   obtain⟨t,rfl⟩:=rx;obtain⟨hy,e'⟩:y.length<=sizeLine/\k=((y.length:Int) !=0):=e;subst e';exact PySem.P.truthy_str (by omega) ⟨H,I.tok _,q⟩
 | byt y=>
   obtain⟨t,rfl⟩:=rx;obtain⟨hy,e'⟩:y.size<=sizeLine/\k=((y.size:Int) !=0):=e;subst e';exact PySem.W.truthy_bytes (by omega) ⟨H,I.tok _,q⟩
 | ref p=>
   cases rx;have e':(∃xs,nL X.K H p xs/\k=!xs.isEmpty)\/(∃xs,rC X.K H p xs/\k=!xs.isEmpty)\/∃aC,H p=some (.dK aC)/\k=!aC.isEmpty:=e;rcases e' with⟨xs,hx,e'⟩ | ⟨xs,hx,e'⟩ | ⟨aC,hx,e'⟩
   .subst e';obtain⟨its,r,pl,hz⟩:=I.list hx;have hlen:=r.length;exact wpAny_truthy_list pl.isList (by simp only[List.size_toArray];omega) ⟨H,I.tok _,by rw[tY r];exact q⟩
   .subst e';obtain⟨its,r,pl,hz⟩:=I.tuple hx;have hlen:=r.length;exact truthy_tuple pl (by simp only[List.size_toArray];omega) ⟨H,I.tok _,by rw[tY r];exact q⟩
   .subst e';obtain⟨hz,hS,vs,r,m⟩:aC.length<=sizeLine/\(p==sysModules)=false/\∃vs,KV aC vs/\s.heap.DictOf (cT X.prog X.w) p vs:=I.hok p _ hx;have hlen:aC.length=vs.length:=Paired.length r;exact wpAny_truthy_dict hS m (by omega) ⟨H,I.tok _,by rw[AA r];exact q⟩
 | _=>exact(show False from e).elim
theorem yl(ha:PE X a ta)(he:∀whole,isTrue a X.env whole=(do let v <-whole;standAt a.pos;holding [v] (truthy v))) :
 PT X a (fun σ H Q=>ta σ H fun x H'=>∃k,MA X.K x H' k/\Q k H'):=by
 intro pins s σ H Q I h;exact isTrue_plain (cU (ha pins s σ H _ I h) fun v s1 ⟨x,H1,I1,r1,q1⟩=>Nc pins s1 σ H1 x v Q I1 r1 q1) (he _)
theorem Ah:o5 X (binaryOp .Add) (fun x y H Q=>∃i j,x= .str i/\y= .str j/\i.length+j.length<=sizeLine/\Q (.str (i++j)) H):=by
 intro pins s σ H x y v u Q I rx ry h;obtain⟨i,j,rfl,rfl,hz,q⟩:=h;obtain⟨t,rfl⟩:=rx;obtain⟨t',rfl⟩:=ry;exact add_str (fun t' tk=>⟨.str (i++j),H,I.tok _,⟨_,rfl⟩,q⟩) hz
def OX(b:Expr):Prop:=∀o i,subscripted b false o i=operate [o,i] (getItem o i)
theorem vals1{x:V}{us:List Value}(r:Vals [x] us):∃u,us=[u]/\RelV x u:=by
 cases r with
 | cons r1 r2=>cases r2;exact⟨_,rfl,r1⟩
theorem vals2{x y:V}{us:List Value}(r:Vals [x,y] us):∃u w',us=[u,w']/\RelV x u/\RelV y w':=by
 cases r with
 | cons r1 r2=>
   cases r2 with
   | cons r3 r4=>cases r4;exact⟨_,_,rfl,r1,r3⟩
theorem Df:kx X (.type "int") (fun xs H Q=>(∃i,xs=[.int i]/\Q (.int i) H)\/∃k,xs=[.bl k]/\Q (.int (if k then 1 else 0)) H):=by
 intro pins s σ H xs us Q I r h;rcases h with⟨i,rfl,q⟩ | ⟨k,rfl,q⟩
 .obtain⟨u,rfl,t,rfl⟩:=vals1 r;exact call_int_int ⟨.int i,H,I,⟨_,rfl⟩,q⟩
 .obtain⟨u,rfl,r1⟩:=vals1 r;cases r1;exact call_int_bool ⟨.int (if k then 1 else 0),H,I.tok _,⟨_,rfl⟩,q⟩
theorem wx:kx X (.type "str") (fun xs H Q=>∃i,xs=[.int i]/\i.natAbs.log2 < 1920/\Q (.str (toString i)) H):=by
 intro pins s σ H xs us Q I r h;obtain⟨i,rfl,hz,q⟩:=h;obtain⟨u,rfl,t,rfl⟩:=vals1 r;exact PySem.P.str_of_int hz ⟨.str _,H,I.tok _,⟨_,rfl⟩,q⟩
def RB(K:W.Frag)(x:V)(H:Hp)(n:Nat):Prop:=
 match x with
 | .str y=>y.length<=sizeLine/\n=y.length
 | .byt y=>y.size<=sizeLine/\n=y.size
 | .ref p=>(∃xs,nL K H p xs/\n=xs.length)\/∃xs,rC K H p xs/\n=xs.length
 | _=>False
theorem F5:kx X (.builtin "len") (fun xs H Q=>∃x n,xs=[x]/\RB X.K x H n/\Q (.int n) H):=by
 intro pins s σ H xs us Q I r h;obtain⟨x,n,rfl,e,q⟩:=h;obtain⟨u,rfl,rx⟩:=vals1 r;have hl:=q_;have hs:sizeLine=16777216:=sizeLine_eq;cases x with
 | str y=>
   obtain⟨t,rfl⟩:=rx;obtain⟨hy,e'⟩:y.length<=sizeLine/\n=y.length:=e;subst e';exact len_str (by omega) ⟨.int _,H,I.tok _,⟨_,rfl⟩,q⟩
 | byt y=>
   obtain⟨t,rfl⟩:=rx;obtain⟨hy,e'⟩:y.size<=sizeLine/\n=y.size:=e;subst e';exact PySem.W.len_bytes (by omega) ⟨.int _,H,I.tok _,⟨_,rfl⟩,q⟩
 | ref p=>
   cases rx;have e':(∃xs,nL X.K H p xs/\n=xs.length)\/∃xs,rC X.K H p xs/\n=xs.length:=e;rcases e' with⟨xs,hx,e'⟩ | ⟨xs,hx,e'⟩
   .subst e';obtain⟨its,r',pl,hz⟩:=I.list hx;have hlen:=r'.length;exact Calls.call_len_list pl.isList (by simp only[List.size_toArray];omega) ⟨.int xs.length,H,I.tok _,⟨_,by simp only[List.size_toArray];rw [hlen]⟩,q⟩
   .subst e';obtain⟨its,r',pl,hz⟩:=I.tuple hx;have hlen:=r'.length;exact len_tuple pl (by simp only[List.size_toArray];omega) ⟨.int xs.length,H,I.tok _,⟨_,by simp only[List.size_toArray];rw [hlen]⟩,q⟩
 | _=>exact(show False from e).elim
end
structure An (h:Heap) (x dx C:Addr) (mA:Aaf):Prop where
 obj:h.get? x=some (PySem.W.instObj C dx)
 ns:h.Ns1 dx mA
 ne:dx≠x
theorem B9{h:Heap}{dx:Addr}{mA:Aaf}(n:h.Ns1 dx mA):∃od,h.get? dx=some od/\∀name,PySem.W.lookIn name od=some (mA name):=by
 obtain⟨o,es,ep,ho,hd,hk,_,hm⟩:=n;refine⟨o,ho,fun name=>?_⟩
 have e:=hm name;unfold nsFind findBy at e;rw[<-Array.find?_toList] at e;unfold PySem.W.lookIn;rw[hd];dsimp only;split
 .rename_i y q;rw[q] at e;exact congrArg some e
 .rename_i q;rw[q] at e;have a:es.toList.any (·.refKey)=false:=by
   rw[List.any_eq_false];intro y hy;obtain⟨z,t,hkey⟩:=hk y (Array.mem_toList_iff.mp hy);simp [DictEntry.refKey,hkey]
  have a':¬es.toList.any (·.refKey)=true:=by rw[a];exact Bool.false_ne_true
  rw[if_neg a'];exact congrArg some e
theorem An.look{x dx C:Addr}{mA:Aaf}(I:An h x dx C mA):∃od,PySem.W.InstAt h x (PySem.W.instObj C dx) C (some od)/\∀name,PySem.W.lookIn name od=some (mA name):=
 let⟨od,ho,hl⟩:=B9 I.ns
 ⟨od,⟨I.obj,rfl,rfl,ho⟩,hl⟩
section
variable {prog:Program} {w:World} {A:Around} {E:Aab} {s:Shared} {K:W.Frag} {x dx C f:Addr} {mA:Aaf} {name:Str} {v:Value}
theorem get_map{expr:Bool}{Q:Aab}(X:K.In s.heap)(I:An s.heap x dx C mA)(hg:PySem.W.plainGet K C name=true)(hh:PySem.W.hasDictIn K C=true)
 (ha:PySem.W.findIn K (.ref C) name=some none) (hv:mA name=some v) (ZV:PySem.W.handedIn v=true) (h:Q v {s with toks:=s.toks+1}) :
 wpAny (model prog w) A (getAttr (.ref x) name expr) Q E s:=by
 obtain⟨od,J,hl⟩:=I.look;exact PySem.W.get_value X J (PySem.W.plainGet_of hg).1 (PySem.W.findObj_own hh ha rfl (by rw[hl,hv])) ZV h
theorem Fo{pl:Sem Bool}{Q:Value × List Value->Shared->Prop}(X:K.In s.heap)(I:An s.heap x dx C mA)(hg:PySem.W.plainGet K C name=true)
 (hf:PySem.W.findIn K (.ref C) name=some (some (.ref f))) (ht:PySem.W.isFn K (.ref f)=true) (hv:mA name=none) (h:Q (.ref f,[.ref x]) s) :
 wpAny (model prog w) A (getMethod (.ref x) name pl) Q E s:=by
 obtain⟨od,J,hl⟩:=I.look;exact PySem.W.method_fn X J (PySem.W.plainGet_of hg).1 (PySem.W.plainGet_of hg).2 hf (beq_iff_eq.mp ht) (by show(PySem.W.lookIn name od).map (·.isSome)=some false;rw [hl,hv];rfl) h
theorem HD{ns:List Str}{Q:Unit->Shared->Prop}(X:K.In s.heap)(I:An s.heap x dx C mA)
 (hs:PySem.W.findIn K (.ref C) "__setattr__"=some (some (.builtin "object.__setattr__"))) (hp:PySem.W.plainOver K C=true) (ht:PySem.W.takerIn K C name=some none) (hh:PySem.W.hasDictIn K C=true)
 (hw:PySem.Within mA ns) (hsz:ns.length<=sizeLine)
 (h:∀h',An h' x dx C (fun y=>if y=name then some v else mA y)->Heap.SameBut dx s.heap h'->Q () {s with heap:=h',toks:=s.toks+2}) :
 wpAny (model prog w) A (setAttr (.ref x) name v) Q E s:=by
 obtain⟨od,J,hl⟩:=I.look;refine PySem.W.set_plain X J hs (PySem.W.osa_open (s:={s with toks:=s.toks+1}) (r:=none) X J hp ht fun b=>?_)
 obtain⟨cd,hc,JN⟩:=PySem.W.any_some hh;have hx:s.heap.get? x=some ⟨.ref C,some dx, .plain,#[]⟩:=I.obj;refine wpAny_bind (wpAny_pure (wpAny_bind (wpAny_bind (wpAny_loadPart hx (wpAny_bind (PySem.W.Looks.here (s:={s with toks:=s.toks+1}) (PySem.W.looks_clsIn X hc) ?_))))))
 rw[JN];refine wpAny_pure (a:=some dx) (wpAny_bind (wpAny_pure (wpAny_bind ?_)));refine wpAny_nsSet1 (s:={s with toks:=s.toks+1}) I.ns fun h' Q4 Q6=>?_
 obtain⟨oD,esD,epD,hoD,hdD,hcD⟩:=Q4.count (PySem.Within.cons name v hw);refine wpAny_bind (wpAny_lookBehind hoD (by rw[hdD];exact pastItsLine_dict (Nat.le_trans hcD (by rw[List.length_cons];omega))) ?_)
 exact wpAny_pure (h _ ⟨(Q6.2 _ (Ne.symm I.ne)).trans I.obj,Q4,I.ne⟩ Q6)
theorem GS{R:Result->Shared->Prop}{vs:List Value}{kw:List (Str × Value)}(X:K.In s.heap)(hm:PySem.W.makesIn K C=true)
 (hi:PySem.W.findIn K (.ref C) "__init__"=some (some (.ref f))) (hf:PySem.W.typeIn K (.ref f)=some (.type "function"))
 (h:codeAny (model prog w) (A.under (.builtin "type.__call__" ⟨.ref C ::vs,kw⟩)) (.call (.ref f) ⟨.ref (s.heap.objs.size+1) ::vs,kw⟩) (PySem.W.InitBack (s.heap.objs.size+1) R)
   {s with heap:=(s.heap.push PySem.W.emptyDict).push (PySem.W.instObj C s.heap.objs.size)}) :
 codeAny (model prog w) A (.call (.ref C) ⟨vs,kw⟩) R s:=by
 obtain⟨hh,g,d,t,os⟩:=s;exact PySem.W.make_core (PySem.W.makes_of X hm) (PySem.W.looks_findIn X hi) (fun self=>PySem.W.bind_fn X self hf) (.inl rfl) h
end
def lL(f:Str)(v:V):List (Str × V)->List (Str × V)
 | []=>[(f,v)]
 | (g,x) ::r=>if g=f then(g,v) ::r else(g,x) ::lL f v r
theorem rW(f g:Str)(v:V):∀fs:List (Str × V),(lL f v fs).lookup g=if g=f then some v else fs.lookup g
 | []=>by
   show List.lookup g [(f,v)]=_;by_cases h:g=f
   .have hb:(g==f)=true:=beq_iff_eq.mpr h;simp only[List.lookup,hb,if_pos h]
   .have hb:(g==f)=false:=beq_eq_false_iff_ne.mpr h;simp only[List.lookup,hb,if_neg h]
 | (k,x) ::r=>by
   have ih:=rW f g v r;rw[show lL f v ((k,x) ::r)=(if k=f then(k,v) ::r else(k,x) ::lL f v r) from rfl]
   by_cases hk:k=f
   .rw [if_pos hk];by_cases h:g=k
    .have hb:(g==k)=true:=beq_iff_eq.mpr h;simp only[List.lookup,hb,if_pos (h.trans hk)]
    .have hb:(g==k)=false:=beq_eq_false_iff_ne.mpr h;simp only[List.lookup,hb,if_neg (fun e:g=f=>h (e.trans hk.symm))]
   .rw [if_neg hk];by_cases h:g=k
    .have hb:(g==k)=true:=beq_iff_eq.mpr h;simp only[List.lookup,hb,if_neg (fun e:g=f=>hk (h.symm.trans e))]
    .have hb:(g==k)=false:=beq_eq_false_iff_ne.mpr h;simp only[List.lookup,hb];exact ih
theorem rp(f:Str)(v:V):∀fs:List (Str × V),f∈(lL f v fs).map (·.1)/\∀g,g∈fs.map (·.1)->g∈(lL f v fs).map (·.1)
 | []=>⟨by simp [lL],fun g h=>by simp at h⟩
 | (k,x) ::r=>by
   obtain⟨i1,i2⟩:=rp f v r;rw[show lL f v ((k,x) ::r)=(if k=f then(k,v) ::r else(k,x) ::lL f v r) from rfl]
   by_cases hk:k=f
   .rw [if_pos hk];subst hk;exact⟨by simp,fun g h=>by simpa using h⟩
   .rw [if_neg hk];refine⟨?_,fun g h=>?_⟩
    .rw [List.map_cons];exact List.mem_cons_of_mem _ i1
    .rw [List.map_cons] at h ⊢;rcases List.mem_cons.mp h with e | e
     .exact List.mem_cons.mpr (.inl e)
     .exact List.mem_cons_of_mem _ (i2 g e)
theorem rV(f:Str)(v:V):∀fs:List (Str × V),(lL f v fs).length<=fs.length+1
 | []=>by simp [lL]
 | (k,x) ::r=>by
   have ih:=rV f v r;rw[show lL f v ((k,x) ::r)=(if k=f then(k,v) ::r else(k,x) ::lL f v r) from rfl]
   by_cases hk:k=f
   .rw [if_pos hk,List.length_cons,List.length_cons];omega
   .rw [if_neg hk,List.length_cons,List.length_cons];omega
theorem mQ.some_of{v:V}{o:Option Value}(r:mQ (some v) o):∃u,o=some u/\RelV v u:=by
 cases o with
 | none=>exact(show False from r).elim
 | some u=>exact⟨u,rfl,r⟩
theorem mQ.none_of{o:Option Value}(r:mQ none o):o=none:=by
 cases o with
 | none=>rfl
 | some u=>exact(show False from r).elim
theorem Ck{v:V}{u:Value}(r:RelV v u):PySem.W.handedIn u=true:=by
 cases v with
 | cN=>cases(show u=Value.none from r);rfl
 | bl b=>cases(show u=Value.bool b from r);rfl
 | int i=>obtain⟨t,e⟩:=(show ∃t,u=Value.int i t from r);cases e;rfl
 | str x=>obtain⟨t,e⟩:=(show ∃t,u=Value.str x t from r);cases e;rfl
 | byt b=>obtain⟨t,e⟩:=(show ∃t,u=Value.bytes b t from r);cases e;rfl
 | flt b=>obtain⟨t,e⟩:=(show ∃t,u=Value.float b t from r);cases e;rfl
 | ref a=>cases(show u=Value.ref a from r);rfl
 | ty n=>cases(show u=Value.type n from r);rfl
section
variable {P:Program} {w:World} {H H':Hp} {h h':Heap} {a C dx:Addr} {fs N1:List (Str × V)}
theorem wI(hok:nK P w H h)(e:H a=some (.ins C dx fs)):∃mA,An h a dx C mA/\(∀f,mQ (fs.lookup f) (mA f))/\PySem.Within mA (fs.map (·.1))/\fs.length<=1000/\H dx=some (.own a):=by
 obtain⟨d,z,ne,ob,mA,n,r,q⟩:=(show d3 P w H h a (.ins C dx fs) from hok a _ e)
 exact⟨mA,⟨ob,n,ne⟩,r,q,z,d⟩
end
structure x8 (K:W.Frag) (C:Addr):Prop where
 pg:PySem.W.plainGet K C Str.empty=true
 hd:PySem.W.hasDictIn K C=true
 po:PySem.W.plainOver K C=true
 sa:PySem.W.findIn K (.ref C) "__setattr__"=some (some (.builtin "object.__setattr__"))
theorem x8.get{K:W.Frag}{C:Addr}(c:x8 K C)(f:Str):PySem.W.plainGet K C f=true:=c.pg
def dc(K:W.Frag)(C:Addr)(f:Str):Prop:=PySem.W.findIn K (.ref C) f=some none
theorem dc.Pj{K:W.Frag}{C:Addr}(n:dc K C f):PySem.W.takerIn K C f=some none:=by
 unfold PySem.W.takerIn;rw[show PySem.W.findIn K (.ref C) f=some none from n]
 rfl
structure YM (K:W.Frag) (C:Addr) (f:Str) (v:V) (u:Value):Prop where
 at_:PySem.W.findIn K (.ref C) f=some (some u)
 rel:RelV v u
 get:PySem.W.specialIn K u "__get__"=some none
 cp:PySem.W.copiedNames.contains f=false
structure Meth (K:W.Frag) (C:Addr) (m:Str) (f:Addr):Prop where
 at_:PySem.W.findIn K (.ref C) m=some (some (.ref f))
 fn:PySem.W.isFn K (.ref f)=true
 kp:PySem.W.keepIn K (.ref f)=true
section
variable {X:Cx} {pins:Aaa} {σ:St} {H:Hp} {s:Shared} {a C dx:Addr} {fs:List (Str × V)} {f:Str} {v:V} {A:Around} {E:Aab}
theorem z8{b:Bool}{Q:Aab}(I:Inv X pins σ H s)(e:H a=some (.ins C dx fs))(c:x8 X.K C)(n:dc X.K C f)(l:fs.lookup f=some v)
 (h:∀u s',Inv X pins σ H s'->RelV v u->Q u s'):wpAny (model X.prog X.w) A (getAttr (.ref a) f b) Q E s:=by
 obtain⟨mA,O,r,_,_,_⟩:=wI I.hok e;obtain⟨u,hu,ru⟩:=mQ.some_of (v:=v) (o:=mA f) (by rw[<-l];exact r f)
 exact get_map I.vE O (c.get f) c.hd n hu (Ck ru) (h u _ (I.tok _) ru)
theorem zo{m:Str}{g:Addr}{pl:Sem Bool}{Q:Value × List Value->Shared->Prop}(I:Inv X pins σ H s)(e:H a=some (.ins C dx fs))(c:x8 X.K C)(k:Meth X.K C m g)(l:fs.lookup m=none)
 (h:Q (.ref g,[.ref a]) s):wpAny (model X.prog X.w) A (getMethod (.ref a) m pl) Q E s:=by
 obtain⟨mA,O,r,_,_,_⟩:=wI I.hok e;have hn:mA m=none:=mQ.none_of (by rw[<-l];exact r m)
 exact Fo I.vE O (c.get m) k.at_ k.fn hn h
theorem zX{y:V}{u:Value}{Q:Unit->Shared->Prop}(I:Inv X pins σ H s)(e:H a=some (.ins C dx fs))(c:x8 X.K C)(n:dc X.K C f)(hl:fs.length < 1000)(ry:RelV y u)
 (h:∀s',Inv X pins σ (upd H a (.ins C dx (lL f y fs))) s'->Q () s'):wpAny (model X.prog X.w) A (setAttr (.ref a) f u) Q E s:=by
 obtain⟨mA,O,r,wi,_,ho⟩:=wI I.hok e;have hz:(fs.map (·.1)).length<=sizeLine:=by rw[List.length_map,sizeLine_eq];omega
 refine HD I.vE O c.sa c.po n.Pj c.hd wi hz fun h' O' sb=>h _ ?_
 have hd:∃o,h'.get? dx=some o:=let⟨o,_,_,e',_⟩:=O'.ns;⟨o,e'⟩
 refine I.write (x:=a) (e:=dx) (by rw[e];exact True.intro) (.inr ho) (fun b q hb z=>(sb.2 b hb).trans z) hd ?_
 refine⟨by rw[bt O.ne];exact ho,?_,O.ne,O'.obj,_,O'.ns,fun g=>?_,fun g hg=>?_⟩
 .have:=rV f y fs;omega
 .show mQ ((lL f y fs).lookup g) (if g=f then some u else mA g)
  rw[rW];by_cases q:g=f
  .rw [if_pos q,if_pos q];exact ry
  .rw [if_neg q,if_neg q];exact r g
 .by_cases q:g=f
  .rw [q];exact(rp f y fs).1
  .refine(rp f y fs).2 g (wi g fun z=>hg ?_)
   show(if g=f then some u else mA g)=none
   rw[if_neg q];exact z
theorem Inv.made(I:Inv X pins σ H s):Inv X pins σ (upd (upd H s.heap.objs.size (.own (s.heap.objs.size+1))) (s.heap.objs.size+1) (.ins C s.heap.objs.size []))
 {s with heap:=(s.heap.push PySem.W.emptyDict).push (PySem.W.instObj C s.heap.objs.size)}:=by
 have e1:(s.heap.push PySem.W.emptyDict).get? s.heap.objs.size=some PySem.W.emptyDict:=Heap.get?_push_size s.heap rfl;have e2:((s.heap.push PySem.W.emptyDict).push (PySem.W.instObj C s.heap.objs.size)).get? (s.heap.objs.size+1)=some (PySem.W.instObj C s.heap.objs.size):=by
  have:=Heap.get?_push_size (s.heap.push PySem.W.emptyDict) (o:=PySem.W.instObj C s.heap.objs.size) rfl
  rwa [Heap.size_push] at this
 have e3:(s.heap.push PySem.W.emptyDict).Ns s.heap.objs.size (fun _=>none):=⟨PySem.W.emptyDict,#[],_,e1,rfl,(fun e he=>absurd he (by simp)),fun _=>rfl⟩
 have I1:=I.laid (a:=s.heap.objs.size) (o:= .own (s.heap.objs.size+1)) (h':=s.heap.push PySem.W.emptyDict) (t':=s.toks) (fun b u q=>Heap.get?_push_of_some _ q) (Nat.le_refl _) ⟨_,e1⟩
 refine I1.laid (a:=s.heap.objs.size+1) (o:= .ins C s.heap.objs.size []) (t':=s.toks) (fun b u q=>Heap.get?_push_of_some _ q) (Nat.le_of_eq (Heap.size_push _ _)) ?_
 have ne:s.heap.objs.size≠s.heap.objs.size+1:=Nat.ne_of_lt (Nat.lt_succ_self _);refine⟨by rw[bt ne,ba],Nat.zero_le _,ne,e2,fun _=>none,(Heap.Ns1.of_empty e3).at fun o q=>Heap.get?_push_of_some _ q,fun _=>True.intro,fun y hy=>absurd rfl hy⟩
theorem Il{prog:Program}{w:World}{env:Env}{e:Expr}{f:Str}{pos:Pos}{s:Shared}{Q:Aab}(hb:attributeBase e f env (eval e env)=eval e env)
 (h:wpAny (model prog w) A (eval e env) (fun o s₁=>wpAny (model prog w) A (getAttr o f true) Q E s₁) E s):wpAny (model prog w) A (eval (.Attribute e f pos) env) Q E s:=
 Attribute_any_ h (by rw[arm_eval_Attribute,hb])
end
def TL(K:W.Frag)(ta:TE)(f:Str):TE:=fun σ H Q=>ta σ H fun x H1=>∃a C dx fs v,x= .ref a/\H1 a=some (.ins C dx fs)/\x8 K C/\dc K C f/\fs.lookup f=some v/\Q v H1
def Yh(K:W.Frag)(ta:TE)(f:Str):TE:=fun σ H Q=>ta σ H fun x H1=>∃a C dx fs v u,x= .ref a/\H1 a=some (.ins C dx fs)/\x8 K C/\YM K C f v u/\fs.lookup f=none/\Q v H1
def RE(K:W.Frag)(ta tv:TE)(f:Str):TS:=fun D σ H=>tv σ H fun y H1=>ta σ H1 fun x H2=>∃a C dx fs,x= .ref a/\H2 a=some (.ins C dx fs)/\x8 K C/\dc K C f/\fs.length < 1000/\
 D.nx σ (upd H2 a (.ins C dx (lL f y fs)))
def YK(X:Cx)(op:Operator)(rd:V->V->Hp->VK->Prop):Prop:=
 ∀(pins:Aaa) (s:Shared) (σ:St) (H:Hp) (x y:V) (u v:Value) (Q:VK),Inv X pins σ H s->RelV x u->RelV y v->rd x y H Q->wpAny (model X.prog X.w) X.A (inplaceOp op u v) (EP X pins σ Q) X.xe s
def QE(K:W.Frag)(ta tv:TE)(rd:V->V->Hp->VK->Prop)(f:Str):TS:=fun D σ H=>ta σ H fun x H1=>∃a C dx fs v,x= .ref a/\H1 a=some (.ins C dx fs)/\x8 K C/\dc K C f/\fs.lookup f=some v/\
 tv σ H1 fun y H2=>rd v y H2 fun z H3=>∃dx' N1,H3 a=some (.ins C dx' N1)/\N1.length < 1000/\D.nx σ (upd H3 a (.ins C dx' (lL f z N1)))
section
variable {X:Cx} {o e value:Expr} {f:Str} {pos pos' Um:Pos} {ta tv:TE}
theorem M6(he:PE X e ta)(hb:attributeBase e f X.env (eval e X.env)=eval e X.env):PE X (.Attribute e f pos) (TL X.K ta f):=by
 intro pins s σ H Q I h;refine Il hb (cU (he pins s σ H _ I h) fun u s1 ⟨x,H1,I1,rx,a,C,dx,fs,v,ex,ea,c,n,l,q⟩=>?_)
 subst ex;obtain rfl:u=Value.ref a:=rx;exact z8 I1 ea c n l fun u' s2 I2 ru=>⟨v,H1,I2,ru,q⟩
theorem MO(ha:PE X o ta)(hv:PE X value tv)(hs:swapsWith value (some (.Attribute o f pos')) pos.line X.env=pure false):PS X (.Assign [.Attribute o f pos'] value pos) (RE X.K ta tv f):=by
 intro pins s σ H D I h;refine plainObj_wpAny_Assign_Attribute (cU (hv pins s σ H _ I h) fun u s1 ⟨y,H1,I1,ry,q⟩=>cU (ha pins s1 σ H1 _ I1 q) fun ov s2 ⟨x,H2,I2,rx,a,C,dx,fs,ex,ea,c,n,l,q2⟩=>?_) hs
 subst ex;obtain rfl:ov=Value.ref a:=rx;exact zX I2 ea c n l ry fun s3 I3=>⟨σ,_,I3,q2⟩
def YJ:V->V->Hp->VK->Prop:=fun x y H Q=>∃i j,x= .int i/\y= .int j/\Q (.int (i+j)) H
def XH:V->V->Hp->VK->Prop:=fun x y H Q=>∃i j,x= .int i/\y= .int j/\Q (.int (i - j)) H
end
section
variable {X:Cx} {pins:Aaa} {σ:St} {H:Hp} {s:Shared} {A:Around} {E:Aab} {Q:Aab} {c:Value} {b:Bool}
inductive tW (K:W.Frag) (H:Hp):V->Value->Prop where
 | cN:tW K H .cN (.type "NoneType")
 | bl (x:Bool):tW K H (.bl x) (.type "bool")
 | int (i:Int):tW K H (.int i) (.type "int")
 | str (x:Str):tW K H (.str x) (.type "str")
 | flt (x:UInt64):tW K H (.flt x) (.type "float")
 | lst {a:Addr} {xs:List V} (e:H a=some (.lst xs)):tW K H (.ref a) (.type "list")
 | ik {a:Addr} {o:Obj} {xs:List V} (e:H a=some (.ik o (.lst xs))):tW K H (.ref a) (.type "list")
 | tup {a:Addr} {xs:List V} (e:H a=some (.tup xs)):tW K H (.ref a) (.type "tuple")
 | dK {a:Addr} {aC:List (Key × V)} (e:H a=some (.dK aC)):tW K H (.ref a) (.type "dict")
 | dT {a:Addr} {aC:List (List Key × V)} (e:H a=some (.dT aC)):tW K H (.ref a) (.type "dict")
 | ins {a C dx:Addr} {fs:List (Str × V)} (e:H a=some (.ins C dx fs)) (cl:x8 K C) (ha:PySem.W.findIn K (.ref C) "__class__"=some (some (.builtin "object.__class__")))
    (hn:PySem.W.specialIn K (.builtin "object.__class__") "__get__"=some (some (.builtin "getset_descriptor.__get__"))) (htk:PySem.W.takesIn K (.builtin "object.__class__")=some true)
    (hm:PySem.W.mroIn K C (.type "object")=some true):tW K H (.ref a) (.ref C)
end
structure dU (k:Nat) (A:Around):Prop where
 hd:A.handled=none
 dp:A.depth+3*k+5 < recursionLimit
 un:A.units+16*k+200 < cLine
theorem dU.mono{j k:Nat}(r:dU k A)(h:j<=k):dU j A:=⟨r.hd,by have:=r.dp;omega,by have:=r.un;omega⟩
theorem dU.deeper{k:Nat}{A:Around}(r:dU (k+1) A)(env:Env):dU k (A.deeper env):=
 ⟨r.hd,by have:=r.dp;show A.depth+1+3*k+5 < _;omega,by have:=r.un;show A.units+3+16*k+200 < _;omega⟩
theorem zD{A:Around}{C:Addr}{us:List Value}{kw:List (Str × Value)}:(A.under (.builtin "type.__call__" ⟨.ref C ::us,kw⟩)).depth=A.depth+1:=by
 first | rfl | simp [Around.under,Code.weight,Code.isCreation,Code.isGuard,Code.isCaller,Code.frames,Code.isFrame,guardIds]
theorem Ai{A:Around}{C:Addr}{us:List Value}{kw:List (Str × Value)}:(A.under (.builtin "type.__call__" ⟨.ref C ::us,kw⟩)).units=A.units+1:=by
 first | rfl | simp [Around.under,Code.cUnits,Code.frames,Code.isFrame]
theorem dU.make{k:Nat}{A:Around}(r:dU (k+1) A)(C:Addr)(us:List Value)(kw:List (Str × Value)):dU k (A.under (.builtin "type.__call__" ⟨.ref C ::us,kw⟩)):=
 ⟨r.hd,by have:=r.dp;rw [zD];omega,by have:=r.un;rw [Ai];omega⟩
theorem dU.depth{k:Nat}{A:Around}(r:dU k A):A.depth < recursionLimit:=by have:=r.dp;omega
theorem dU.units{k:Nat}{A:Around}(r:dU k A):A.units+64 < cLine:=by have:=r.un;omega
def OB:TA:=fun _ H Q=>Q [] H
def Pk(ta:TE)(tr:TA):TA:=fun σ H Q=>ta σ H fun x H1=>tr σ H1 fun xs H2=>Q (x ::xs) H2
section
variable {X:Cx} {e:Expr} {es:List Expr} {te:TE} {t:TA} {pos:Pos}
theorem lJ:PA X [] OB:=fun _ _ _ _ H Q I h=>Calls.spliced_nil ⟨[],H,I, .nil,h⟩
theorem gL(ha:PE X e te)(hr:PA X es t)(hs:starEach (e ::es) X.env=(false,eval e X.env) ::starEach es X.env:=by rfl):PA X (e ::es) (Pk te t):=by
 intro pos pins s σ H Q I h;rw[hs];show wpAny _ _ (spliced ((false,eval e X.env) ::backTo pos (starEach es X.env))) _ _ s;refine Calls.spliced_cons (cU (ha pins s σ H _ I h) fun u s1 ⟨x,H1,I1,r1,q1⟩=>?_)
 exact cU (hr pos pins s1 σ H1 _ I1 q1) fun us s2 ⟨xs,H2,I2,r2,q2⟩=>⟨x ::xs,H2,I2, .cons r1 r2,q2⟩
def TK(t:TA):TE:=fun σ H Q=>t σ H fun xs H1=>xs.length<=sizeLine/\∀p,H1 p=none->Q (.ref p) (upd H1 p (.tup xs))
def R9(t:TA):TE:=fun σ H Q=>t σ H fun xs H1=>xs.length<=sizeLine/\∀p,H1 p=none->Q (.ref p) (upd H1 p (.lst xs))
theorem zK{x1}(h:PA X es t):PE X (.Tuple es x1 pos) (TK t):=by
 intro pins s σ H Q I hq;refine wpAny_Tuple_spliced (cU (h pos pins s σ H _ I hq) fun us s1 ⟨xs,H1,I1,r,z,q⟩=>⟨by rw[<-r.length];exact z,?_⟩)
 have hf:H1 s1.heap.objs.size=none:=I1.hok.fresh (Nat.le_refl _);refine⟨.ref s1.heap.objs.size,upd H1 s1.heap.objs.size (.tup xs),I1.laid (t':=s1.toks) (fun b u e=>Heap.get?_push_of_some _ e) (Nat.le_refl _) ?_,rfl,q _ hf⟩
 exact⟨z,us,r,⟨_,Heap.get?_push_size _ rfl,rfl,_,rfl⟩⟩
theorem Gm(h:PA X es t):PE X (.List es pos) (R9 t):=by
 intro pins s σ H Q I hq;refine wpAny_List_spliced (cU (h pos pins s σ H _ I hq) fun us s1 ⟨xs,H1,I1,r,z,q⟩=>⟨by rw[<-r.length];exact z,?_⟩)
 have hf:H1 s1.heap.objs.size=none:=I1.hok.fresh (Nat.le_refl _);refine⟨.ref s1.heap.objs.size,upd H1 s1.heap.objs.size (.lst xs),I1.laid (t':=s1.toks) (fun b u e=>Heap.get?_push_of_some _ e) (Nat.le_refl _) ?_,rfl,q _ hf⟩
 exact⟨z,us,0,r,Heap.get?_push_size _ rfl⟩
end
abbrev Sp:=List V->Hp->VK->XK->Prop
abbrev DH:=List Env->Hp->Shared->XK->Value->Shared->Prop
structure Ak (P:Program) (w:World) (K:W.Frag) (mg:Aaf) (base:Heap) (A:Around) (outer:List Env) (s:Shared) (H:Hp):Prop where
 frames:A.frames=some outer
 mod:Mod K mg base
 bs:∀b o,base.get? b=some o->s.heap.get? b=some o/\H b=none
 bsz:base.objs.size<=s.heap.objs.size
 qt:s.heap.FunFrames base outer
 frf:∀b∈pG outer,H b=none
 hok:nK P w H s.heap
 bare:AllBare s.gens
def CE(outer:List Env)(P:Program)(w:World)(H:Hp)(s:Shared)(Q:VK)(u:Value)(s':Shared):Prop:=
 ∃v H',s'.os=s.os/\AllBare s'.gens/\Un (pG outer) [] H H' s.heap s'.heap/\nK P w H' s'.heap/\RelV v u/\Q v H'
def CR(CX:DH)(outer:List Env)(P:Program)(w:World)(H:Hp)(s:Shared)(Q:VK)(E:XK)(r:Result)(s':Shared):Prop:=
 match r with
 | .ok (.ret u)=>CE outer P w H s Q u s'
 | .ok _=>False
 | .error e=>CX outer H s E e s'
structure jk (P:Program) (w:World) (K:W.Frag) (mg:Aaf) (base:Heap) (CX:DH) (k:Nat) (f:Addr) (fd:FuncData) (ps:List Str) (sp:Sp):Prop where
 len:∀vs H Q E,sp vs H Q E->vs.length=ps.length
 run:∀(A:Around) (outer:List Env) (s:Shared) (H:Hp) (args:Args) (us:List Value) (vs:List V) (Q:VK) (E:XK),dU k A->Ak P w K mg base A outer s H->BindsTo s fd args (ps.zip us)->Vals vs us->sp vs H Q E->
  codeAny (model P w) A (.call (.ref f) args) (CR CX outer P w H s Q E) s
theorem jk.imp{P:Program}{w:World}{K:W.Frag}{mg:Aaf}{base:Heap}{CX:DH}{k:Nat}{f:Addr}{fd:FuncData}{ps:List Str}{sp WW:Sp}(F:jk P w K mg base CX k f fd ps sp)
 (h:∀vs H Q E,WW vs H Q E->sp vs H Q E):jk P w K mg base CX k f fd ps WW:=
 ⟨fun vs H Q E q=>F.len vs H Q E (h _ _ _ _ q),fun A outer s H args us vs Q E hr he hb hv hs=>F.run A outer s H args us vs Q E hr he hb hv (h _ _ _ _ hs)⟩
theorem Ak.make{K:W.Frag}{mg:Aaf}{outer:List Env}{s:Shared}(e:Ak P w K mg base A outer s H)(C:Addr)(us:List Value)(kw:List (Str × Value)) :
 Ak P w K mg base (A.under (.builtin "type.__call__" ⟨.ref C ::us,kw⟩)) outer s H:=⟨by first | exact e.frames | (simpa [Around.under,Code.envs,Code.isFrame,pushEnvs] using e.frames),e.mod,e.bs,e.bsz,e.qt,e.frf,e.hok,e.bare⟩
section
variable {X:Cx} {pins:Aaa} {σ:St} {H:Hp} {s s':Shared}
theorem Inv.OD(I:Inv X pins σ H s):Ak X.prog X.w X.K X.mg X.base X.A X.stack s H:=
 ⟨I.ok.frames,I.ok.mod,I.bs,Nat.le_trans I.ok.bsz I.sz,I.stack,I.oO,I.hok,I.bare⟩
theorem Inv.after{Q:VK}{u:Value}(I:Inv X pins σ H s)(h:CE X.stack X.prog X.w H s Q u s'):EP X pins σ Q u s':=by
 obtain⟨v,H',os,bare,un,hok,r,q⟩:=h;obtain⟨hh,g,d,t,Zw⟩:=s';obtain rfl:Zw=s.os:=os;exact⟨v,H',I.call (h':=hh) (g':=g) (d':=d) (t':=t) (ch:=[]) un hok bare (fun b z=>absurd z (by simp)),r,q⟩
end
def OM(sp:Sp)(xH:List V)(E:XK)(t:TA):TE:=fun σ H Q=>t σ H fun vs H1=>sp (vs++xH) H1 Q E
def N9(C:Addr)(m:Str)(sp:Sp)(xH:List V)(E:XK)(ta:TE)(t:TA):TE:=fun σ H Q=>ta σ H fun x H1=>∃a dx fs,x= .ref a/\H1 a=some (.ins C dx fs)/\fs.lookup m=none/\
 t σ H1 fun vs H2=>sp (x ::(vs++xH)) H2 Q E
def OZ(C:Addr)(sp:Sp)(xH:List V)(E:XK)(t:TA):TE:=fun σ H Q=>t σ H fun vs H1=>∀x dx,H1 x=none->H1 dx=none->dx≠x->
 sp (.ref x ::(vs++xH)) (upd (upd H1 dx (.own x)) x (.ins C dx [])) (fun v H2=>v= .cN/\Q (.ref x) H2) E
def Binds(K:W.Frag)(fd:FuncData)(ps:List Str)(ds:List Value):Prop:=
 ∀(s:Shared) (us:List Value),K.In s.heap->(us++ds).length=ps.length->BindsTo s fd ⟨us,[]⟩ (ps.zip (us++ds))
theorem Binds.all{K:W.Frag}{fd:FuncData}{ps:List Str}(h:∀us:List Value,us.length=ps.length->bindArgs fd ⟨us,[]⟩=pure (ps.zip us)):Binds K fd ps []:=fun s us _ hl=>by
 rw[List.append_nil] at hl ⊢;exact .of_eq (h us hl)
def Passes(CX:DH)(X:Cx)(E:XK):Prop:=∀(pins:Aaa) (σ:St) (H:Hp) (s:Shared) (e:Value) (s':Shared),Inv X pins σ H s->CX X.stack H s E e s'->X.xe e s'
section
variable {X:Cx} {CX:DH} {k:Nat} {f C:Addr} {fd:FuncData} {ps:List Str} {sp:Sp} {xH:List V} {ds:List Value} {E:XK} {x m:Str} {p pos apos:Pos} {e o:Expr} {es:List Expr} {ta:TE} {t:TA}
theorem Gk{pins:Aaa}{σ:St}{H:Hp}{s:Shared}{Q:VK}{us:List Value}{vs:List V}(F:jk X.prog X.w X.K X.mg X.base CX k f fd ps sp)(hr:dU k X.A)(hb:Binds X.K fd ps ds)(hd:Vals xH ds)(hx:Passes CX X E)
 (I:Inv X pins σ H s) (r:Vals vs us) (h:sp (vs++xH) H Q E):wpAny (model X.prog X.w) X.A (call (.ref f) us) (EP X pins σ Q) X.xe s:=by
 have r2:Vals (vs++xH) (us++ds):=r.append hd;have hl:(us++ds).length=ps.length:=by rw[<-r2.length];exact F.len _ _ _ _ h
 refine wpAny_call (codeAny_mono (F.run X.A X.stack s H ⟨us,[]⟩ (us++ds) (vs++xH) Q E hr I.OD (hb s us I.vE hl) r2 h) fun r s' hq=>?_)
 cases r with
 | error e=>exact hx pins σ H s e s' I hq
 | ok fl=>
   cases fl with
   | ret u=>exact I.after hq
   | next=>exact False.elim hq
   | brk=>exact False.elim hq
   | cont=>exact False.elim hq
theorem xg(F:jk X.prog X.w X.K X.mg X.base CX k f fd ps sp)(hr:dU k X.A)(hg:Gl X x)(hm:X.mg x=some (.ref f))(hk:PySem.W.keepIn X.K (.ref f)=true)(hb:Binds X.K fd ps ds)(hd:Vals xH ds)(hx:Passes CX X E)
 (ha:PA X (e ::es) t) (kK:(x==("__debug__":Str))=false:=by decide) (he:starEach (e ::es) X.env=(false,eval e X.env) ::starEach es X.env:=by rfl) (nE:(backTo pos (starEach es X.env)).any (·.1)=false:=by rfl) :
 PE X (.Call (.Name x p) (e ::es) [] pos) (OM sp xH E t):=by
 intro pins s σ H Q I h;refine wpAny_Call_Name_kw (qw I hg hm ?_ kK);refine PySem.W.callWith_K (h₀:=X.base) I.ok.mod.kin hk (cU (ha pos pins s σ H _ I h) fun us s1 ⟨vs,H1,I1,r,q⟩=>⟨I1.vE,?_⟩) he nE
 exact Gk F hr hb hd hx I1 r q
theorem JG{pl:Sem Bool}(he:PE X o ta)(c:x8 X.K C)(hm:Meth X.K C m f)(F:jk X.prog X.w X.K X.mg X.base CX k f fd ps sp)(hr:dU k X.A)(hb:Binds X.K fd ps ds)(hd:Vals xH ds)(hx:Passes CX X E)(ha:PA X (e ::es) t)
 (zk:starEach (e ::es) X.env=(false,eval e X.env) ::starEach es X.env:=by rfl) (nE:(backTo pos (starEach es X.env)).any (·.1)=false:=by rfl)
 (ht:eval (.Call (.Attribute o m apos) (e ::es) [] pos) X.env=(do
   let ov <-eval o X.env
   standAt apos.atName
   let(f,first) <-holding [ov] (getMethod ov m pl)
   callWith pos f first (backTo pos (starEach (e ::es) X.env)) (backToKw pos (keywordEach [] X.env))):=by rfl) :
 PE X (.Call (.Attribute o m apos) (e ::es) [] pos) (N9 C m sp xH E ta t):=by
 intro pins s σ H Q I h;refine PySem.W.methodCall_KW (pl:=pl) (cU (he pins s σ H _ I h) fun u s1 ⟨x,H1,I1,rx,a,dx,fs,ex,ea,l,q⟩=>?_) ht
 subst ex;obtain rfl:u=Value.ref a:=rx;refine zo I1 ea c hm l ?_;refine PySem.W.callWith_K (first:=[.ref a]) (h₀:=X.base) I.ok.mod.kin hm.kp (cU (ha pos pins s1 σ H1 _ I1 q) fun us s2 ⟨vs,H2,I2,r,q2⟩=>⟨I2.vE,?_⟩) zk nE
 exact Gk (us:= .ref a ::us) (vs:= .ref a ::vs) F hr hb hd hx I2 (.cons rfl r) q2
structure Mk (K:W.Frag) (C f:Addr):Prop where
 makes:PySem.W.makesIn K C=true
 init:PySem.W.findIn K (.ref C) "__init__"=some (some (.ref f))
 fn:PySem.W.isFn K (.ref f)=true
 kp:PySem.W.keepIn K (.ref C)=true
theorem F7{pins:Aaa}{σ:St}{H:Hp}{s:Shared}{Q:VK}{us:List Value}{vs:List V}(M:Mk X.K C f)(F:jk X.prog X.w X.K X.mg X.base CX k f fd ps sp)(hr:dU (k+1) X.A)(hb:Binds X.K fd ps ds)(hd:Vals xH ds)
 (hx:Passes CX X E) (I:Inv X pins σ H s) (r:Vals vs us)
 (h:∀x dx,H x=none->H dx=none->dx≠x->sp (.ref x ::(vs++xH)) (upd (upd H dx (.own x)) x (.ins C dx [])) (fun v H2=>v= .cN/\Q (.ref x) H2) E) :
 wpAny (model X.prog X.w) X.A (call (.ref C) us) (EP X pins σ Q) X.xe s:=by
 have hq:=h (s.heap.objs.size+1) s.heap.objs.size (I.hok.fresh (Nat.le_succ _)) (I.hok.fresh (Nat.le_refl _)) (Nat.ne_of_lt (Nat.lt_succ_self _));have I2:=Inv.made (C:=C) I;have r2:Vals (V.ref (s.heap.objs.size+1) ::(vs++xH)) (Value.ref (s.heap.objs.size+1) ::(us++ds)):= .cons rfl (r.append hd);have hl:(Value.ref (s.heap.objs.size+1) ::us++ds).length=ps.length:=by
  have e:=r2.length;rw[F.len _ _ _ _ hq] at e;exact e.symm
 refine wpAny_call (GS (f:=f) I.vE M.makes M.init (beq_iff_eq.mp M.fn) (codeAny_mono (F.run _ X.stack _ _ ⟨Value.ref (s.heap.objs.size+1) ::us,[]⟩ (Value.ref (s.heap.objs.size+1) ::(us++ds)) _ _ E (hr.make C us [])
  (I2.OD.make C us []) (hb _ (Value.ref (s.heap.objs.size+1) ::us) I2.vE hl) r2 hq) fun r s' Qu=>?_))
 cases r with
 | error e=>exact hx pins σ _ _ e s' I2 Qu
 | ok fl=>
   cases fl with
   | ret u=>
     obtain⟨v,H',I3,rv,ev,q3⟩:=I2.after Qu;subst ev;exact⟨rv,⟨V.ref (s.heap.objs.size+1),H',I3,rfl,q3⟩⟩
   | next=>exact False.elim Qu
   | brk=>exact False.elim Qu
   | cont=>exact False.elim Qu
theorem Fe(M:Mk X.K C f)(F:jk X.prog X.w X.K X.mg X.base CX k f fd ps sp)(hr:dU (k+1) X.A)(hg:Gl X x)(hm:X.mg x=some (.ref C))(hb:Binds X.K fd ps ds)(hd:Vals xH ds)(hx:Passes CX X E)
 (kK:(x==("__debug__":Str))=false:=by decide):PE X (.Call (.Name x p) [] [] pos) (OZ C sp xH E OB):=by
 intro pins s σ H Q I h;refine wpAny_Call_Name_kw (qw I hg hm ?_ kK);exact PySem.W.callWith_K0 I.vE M.kp (F7 (us:=[]) M F hr hb hd hx I .nil h)
end
def PK(X:Cx)(WL:List Keyword)(t:TA):Prop:=
 ∀(pos:Pos) (pins:Aaa) (s:Shared) (σ:St) (H:Hp) (Q:List V->Hp->Prop),Inv X pins σ H s->t σ H Q->wpAny (model X.prog X.w) X.A (evalAll ((backToKw pos (keywordEach WL X.env)).map (·.2))) (AP X pins σ Q) X.xe s
section
variable {X:Cx} {CX:DH} {k:Nat} {f C:Addr} {fd:FuncData} {ps ks:List Str} {sp:Sp} {E:XK} {x m:Str} {p pos apos ZX:Pos} {e o:Expr} {es:List Expr} {WL:List Keyword} {te ta:TE} {t tk:TA} {nm:Option Str}
structure R7 (K:W.Frag) (fd:FuncData) (ps ks:List Str) (g:List Value->List Value->List Value) (gV:List V->List V->List V):Prop where
 to:∀(s:Shared) (us ws:List Value),K.In s.heap->(g us ws).length=ps.length->BindsTo s fd ⟨us,ks.zip ws⟩ (ps.zip (g us ws))
 rel:∀{vs:List V} {us:List Value} {zs:List V} {ws:List Value},Vals vs us->Vals zs ws->Vals (gV vs zs) (g us ws)
def RY(sp:Sp)(gV:List V->List V->List V)(E:XK)(t tk:TA):TE:=fun σ H Q=>t σ H fun vs H1=>tk σ H1 fun zs H2=>sp (gV vs zs) H2 Q E
variable {g:List Value->List Value->List Value} {gV:List V->List V->List V}
end
structure bC (N P:List Str) (sc:Scope):Prop where
 kind:sc.kind= .function
 co:sc.isCoroutine=false
 gen:sc.isGenerator=false
 nd:N.Nodup
 pre:N.take P.length=P
 par:∀x∈P,sc.names.lookup x=some .local\/sc.names.lookup x=some .cell
 nofree:∀y∈sc.names,y.2≠ .free
theorem vN{kindOf:Str->Option NameKind}:∀{binds:List (Str × Value)} {m:Aaf},(∀v,(x,v) ∉ binds)->bindL kindOf binds m x=m x
 | [],_,_=>rfl
 | (n,v) ::r,m,h=>by
   unfold bindL;rw[vN fun w hw=>h w (List.mem_cons_of_mem _ hw)]
   split
   .have:x≠n:=by rintro rfl;exact h v List.mem_cons_self
    simp [this]
   .rfl
theorem vQ{kindOf:Str->Option NameKind}:∀{binds:List (Str × Value)} {m:Aaf},(∀v,(x,v) ∉ binds)->bindC kindOf binds m x=m x
 | [],_,_=>rfl
 | (n,v) ::r,m,h=>by
   unfold bindC;rw[vQ fun w hw=>h w (List.mem_cons_of_mem _ hw)]
   split
   .rfl
   .have:x≠n:=by rintro rfl;exact h v List.mem_cons_self
    simp [this]
theorem vS{kindOf:Str->Option NameKind}{v:Value}:∀{P:List Str} {vs:List Value} {i:Nat} {m:Aaf},P.Nodup->P[i]? =some x->vs[i]? =some v->kindOf x=some .local->
 bindL kindOf (P.zip vs) m x=some v
 | [],_,_,_,_,h,_,_=>by simp at h
 | _ ::_,[],_,_,_,_,h,_=>by simp at h
 | p ::P,w ::vs,0,m,nd,h1,h2,hk=>by
   simp at h1 h2;subst h1;subst h2;show bindL kindOf ((p,w) ::P.zip vs) m p=_;unfold bindL;rw[vN fun v hv=>(List.nodup_cons.mp nd).1 (List.of_mem_zip hv).1,if_pos hk]
   simp
 | p ::P,w ::vs,i+1,m,nd,h1,h2,hk=>by
   show bindL kindOf ((p,w) ::P.zip vs) m x=_;unfold bindL;exact vS (i:=i) (List.nodup_cons.mp nd).2 (by simpa using h1) (by simpa using h2) hk
theorem vF{kindOf:Str->Option NameKind}{v:Value}:∀{P:List Str} {vs:List Value} {i:Nat} {m:Aaf},P.Nodup->P[i]? =some x->vs[i]? =some v->kindOf x≠some .local->
 bindC kindOf (P.zip vs) m x=some v
 | [],_,_,_,_,h,_,_=>by simp at h
 | _ ::_,[],_,_,_,_,h,_=>by simp at h
 | p ::P,w ::vs,0,m,nd,h1,h2,hk=>by
   simp at h1 h2;subst h1;subst h2;show bindC kindOf ((p,w) ::P.zip vs) m p=_;unfold bindC;rw[vQ fun v hv=>(List.nodup_cons.mp nd).1 (List.of_mem_zip hv).1,if_neg hk]
   simp
 | p ::P,w ::vs,i+1,m,nd,h1,h2,hk=>by
   show bindC kindOf ((p,w) ::P.zip vs) m x=_;unfold bindC;exact vF (i:=i) (List.nodup_cons.mp nd).2 (by simpa using h1) (by simpa using h2) hk
def start(N:List Str)(vs:List V):St:=vs.map some++List.replicate (N.length - vs.length) none
def md(CX:DH)(P:Program)(w:World)(K:W.Frag)(mg:Aaf)(base:Heap)(N:List Str)(qual:Str)(scope:Scope)(f:Addr)(cd:Value)(A:Around)(outer:List Env)(s:Shared)(H:Hp)(E:XK):Cx where
 prog:=P
 w:=w
 K:=K
 mg:=mg
 base:=base
 A:=A.deeper (envOfC qual scope s.heap.objs.size f cd)
 N:=N
 s₀:=s
 H₀:=H
 env:=envOfC qual scope s.heap.objs.size f cd
 outer:=outer
 stack:=envOfC qual scope s.heap.objs.size f cd ::outer
 ex:=[]
 calm:=true
 fn:=fun _=>true
 pn:=[]
 xe:=fun e s'=>wpAny (model P w) (A.deeper (envOfC qual scope s.heap.objs.size f cd)) (leaving (envOfC qual scope s.heap.objs.size f cd) e) (fun _ UE=>CX outer H s E e UE) (fun e' UE=>CX outer H s E e' UE) s'
theorem sY{sc:Scope}{n:Nat}(h:sc.names.lookup x=some .cell):∃c,(cellsFrom n sc.names []).lookup x=some c:=by
 have q:=PySem.W.cellsFrom_some sc.names n [] (.inl h);exact Option.isSome_iff_exists.mp q
theorem Ct{CX:DH}{P:Program}{w:World}{K:W.Frag}{mg:Aaf}{base:Heap}{N ps:List Str}{qual:Str}{scope:Scope}{f:Addr}{cd:Value}{A:Around}{outer:List Env}{s s1:Shared}{H:Hp}{E:XK}{us:List Value}{vs:List V}
 (S:bC N ps scope) (hd:A.handled=none) (e0:Ak P w K mg base A outer s H) (hl:vs.length=ps.length) (r:Vals vs us)
 (x:InCallC s s.heap.objs.size (bindL (envOfC qual scope s.heap.objs.size f cd).kindOf (ps.zip us) fun _=>none) (cellsFrom (s.heap.objs.size+1) scope.names []) (bindC (envOfC qual scope s.heap.objs.size f cd).kindOf (ps.zip us) fun _=>none) s1) :
 Inv (md CX P w K mg base N qual scope f cd A outer s H E) [] (start N vs) H s1:=by
 have nE:ps.length<=N.length:=by have:=congrArg List.length S.pre;rw [List.length_take] at this;omega
 obtain⟨h1,tk,rfl,hk⟩:=x.done;have noA:∀b:Addr,b ∉ (md CX P w K mg base N qual scope f cd A outer s H E).ex:=fun b z=>absurd (show b∈([]:List Addr) from z) (by simp)
 refine⟨⟨e0.mod,S.kind,rfl,rfl,Nat.le_refl _,fun y z c h1 h2=>?_,fun y hy=>?_,fun y c _ h=>?_,fun _=>hd,Around.frames_deeper e0.frames, .inr ⟨rfl,rfl⟩,fun b z=>absurd z (noA b),e0.bs,e0.bsz,fun b _ _=>noA b,fun b z=>absurd z (noA b),e0.qt,e0.frf⟩,
  rfl,e0.bare,Un.kept hk,⟨_,x.toInCall.ns,fun i y v h1 h2 h3=>?_⟩,fun y c h=>⟨_,x.cell y c h⟩,e0.hok.fresh (Nat.le_refl _),fun y c h=>?_,fun p hp=>absurd (show p∈([]:Aaa) from hp) (by simp),e0.hok.kept hk,?_⟩
 .exact name_of_addr x.apart (PySem.mem_of_lookup h1) (PySem.mem_of_lookup h2)
 .have hy:scope.names.lookup y=some .cell\/scope.names.lookup y=some .free:=hy;rcases hy with hy | hy
  .exact sY hy
  .exact absurd rfl (S.nofree _ (PySem.mem_of_lookup hy))
 .exact Nat.le_of_lt (x.above y c (PySem.mem_of_lookup h))
 .have hi:i < vs.length:=by
   unfold start at h2;by_cases hi:i < vs.length
   .exact hi
   .rw [List.getElem?_append_right (by simpa using hi)] at h2
    rw[List.getElem?_replicate] at h2;split at h2 <;> cases h2
  have ha:vs[i]? =some v:=by
   unfold start at h2;rw[List.getElem?_append_left (by simpa using hi),List.getElem?_map] at h2
   cases e:vs[i]? with
   | none=>rw [e] at h2;cases h2
   | some a=>rw [e] at h2;cases h2;rfl
  obtain⟨u,hu,rv⟩:=r.get ha;have hp:ps[i]? =some y:=by
   rw[<-S.pre,List.getElem?_take_of_lt (by omega)];exact h1
  have ndP:ps.Nodup:=by rw[<-S.pre];exact S.nd.sublist (List.take_sublist _ _)
  refine⟨u,rv,?_⟩;rcases S.par y (List.mem_of_getElem? hp) with k | k
  .exact .inl ⟨k,vS ndP hp hu k⟩
  .obtain⟨c,e⟩:=sY (n:=s.heap.objs.size+1) k;refine .inr ⟨.inl k,c,e,?_⟩;have q:=x.cell y c e;rw[vF ndP hp hu (by show scope.names.lookup y≠_;rw [k];decide)] at q
   exact q
 .exact e0.hok.fresh (Nat.le_of_lt (x.above y c (PySem.mem_of_lookup h)))
 .unfold start;show _=N.length;rw[List.length_append,List.length_map,List.length_replicate];omega
theorem Ks{CX:DH}{P:Program}{w:World}{K:W.Frag}{mg:Aaf}{base:Heap}{k:Nat}{f:Addr}{name qual:Str}{params:Arguments}{body:List Stmt}{scope:Scope}{dV kV doc pm dJ ct oc:Value}{an od:Option Addr}
 {GX:Array (Option Value)} {N ps:List Str} {sp:Sp} (lk:K.lookup f=some ⟨oc,od, .func (PySem.W.fnOf name qual params body scope dV kV doc pm an dJ ct),GX⟩) (uJ:PySem.W.codeIn K dJ qual=true) (S:bC N ps scope)
 (len:∀vs H Q E,sp vs H Q E->vs.length=ps.length)
 (iz:∀(A:Around) (outer:List Env) (s:Shared) (H:Hp) (vs:List V) (Q:VK) (E:XK),dU k (A.deeper (envOfC qual scope s.heap.objs.size f dJ))->sp vs H Q E->
   ∃t,wX (md CX P w K mg base N qual scope f dJ A outer s H E) body t/\t {nx:=fun _ H'=>Q .cN H',rt:=Q} (start N vs) H) :
 jk P w K mg base CX (k+1) f (PySem.W.fnOf name qual params body scope dV kV doc pm an dJ ct) ps sp:=by
 refine⟨len,fun A outer s H args us vs Q E hr e0 hb r DC=>?_⟩
 have hl:=len _ _ _ _ DC;have KX:K.In s.heap:=e0.mod.kin.keeps fun b o e=>(e0.bs b o e).1
 have lim:s.heap.NoLimit:=e0.mod.nolimit.keeps fun b o e=>(e0.bs b o e).1
 have hkind:∀y∈ps.zip us,scope.names.lookup y.1=some .local\/(scope.names.lookup y.1=some .cell/\((cellsFrom (s.heap.objs.size+1) scope.names []).lookup y.1).isSome=true):=fun⟨n,v⟩ hy=>by
  rcases S.par n (List.of_mem_zip hy).1 with q | q
  .exact .inl q
  .exact .inr ⟨q,PySem.W.cellsFrom_some _ _ _ (.inl q)⟩
 refine codeAny_call_function hr.depth (KX _ _ lk) rfl S.co S.gen rfl (PySem.W.codeRec_of KX uJ) (hb _ _ _ _ ?_);refine wpAny_newFunctionEnv_cells S.kind hkind fun env he s1 x=>?_
 subst he;refine⟨lim.keeps x.toInCall.keep,codeAny_func ?_⟩;obtain⟨t,ht,hq⟩:=iz A outer s H vs Q E (hr.deeper _) DC;have I:Inv (md CX P w K mg base N qual scope f dJ A outer s H E) [] (start N vs) H s1:=Ct S hr.hd e0 hl r x;refine wpAny_mono (ht [] s1 (start N vs) H _ I hq) (fun fl s' hs=>?_) fun e s' hs=>hs
 have fin:∀{cw:St} {H':Hp} {v:V} {u:Value},Inv (md CX P w K mg base N qual scope f dJ A outer s H E) [] cw H' s'->RelV v u->Q v H'->CE outer P w H s Q u s':=
  fun {cw H' v u} J rv q=>⟨v,H',J.os,J.bare,J.base,J.hok,rv,q⟩
 cases fl with
 | ret u=>
   obtain⟨v,cw,H',J,rv,q⟩:=hs;exact fin J rv q
 | next=>
   obtain⟨cw,H',J,q⟩:=hs;exact fin (v:=V.cN) (u:=Value.none) J rfl q
 | brk=>
   obtain⟨_,_,_,q⟩:=hs;exact False.elim q
 | cont=>
   obtain⟨_,_,_,q⟩:=hs;exact False.elim q
section
variable {X:Cx} {x:Str} {p pos:Pos} {e:Expr} {es:List Expr} {t:TA} {id T:String} {r:List V->Hp->VK->Prop}
def Wb(r:List V->Hp->VK->Prop)(t:TA):TE:=fun σ H Q=>t σ H fun vs H1=>r vs H1 Q
theorem ud(hc:kx X (.builtin id) r)(hg:Gl X x)(hm:X.mg x=none)(hv:bootBuiltins x=some (.builtin id))(ha:PA X (e ::es) t)(hn:x≠"__name__":=by decide)(kK:(x==("__debug__":Str))=false:=by decide)
 (he:starEach (e ::es) X.env=(false,eval e X.env) ::starEach es X.env:=by rfl) (nE:(backTo pos (starEach es X.env)).any (·.1)=false:=by rfl):PE X (.Call (.Name x p) (e ::es) [] pos) (Wb r t):=by
 intro pins s σ H Q I h;refine wpAny_Call_Name_kw (wu I hg hm hv ?_ hn kK);exact PyProof.Rows.callWith_builtin1 (cU (ha pos pins s σ H _ I h) fun us s1 ⟨vs,H1,I1,r1,q1⟩=>hc pins s1 σ H1 vs us Q I1 r1 q1) he nE
theorem vt(hc:kx X (.type T) r)(hg:Gl X x)(hm:X.mg x=none)(hv:bootBuiltins x=some (.type T))(ha:PA X (e ::es) t)(hn:x≠"__name__":=by decide)(kK:(x==("__debug__":Str))=false:=by decide)
 (he:starEach (e ::es) X.env=(false,eval e X.env) ::starEach es X.env:=by rfl) (nE:(backTo pos (starEach es X.env)).any (·.1)=false:=by rfl):PE X (.Call (.Name x p) (e ::es) [] pos) (Wb r t):=by
 intro pins s σ H Q I h;refine wpAny_Call_Name_kw (wu I hg hm hv ?_ hn kK);exact PyProof.Rows.callWith_type1 (cU (ha pos pins s σ H _ I h) fun us s1 ⟨vs,H1,I1,r1,q1⟩=>hc pins s1 σ H1 vs us Q I1 r1 q1) he nE
end
section
variable {κ:Type} [DecidableEq κ]
def jy(aC:List (κ × V))(k:κ):Option V:=(aC.find? fun kv=>decide (kv.1=k)).map (·.2)
def putK(aC:List (κ × V))(k:κ)(v:V):List (κ × V):=
 if(aC.any fun kv=>decide (kv.1=k))=true then aC.map (fun kv=>if kv.1=k then(kv.1,v) else kv) else aC++[(k,v)]
def Gv(aC:List (κ × V))(k:κ):List (κ × V):=aC.filter fun kv=>decide (kv.1≠k)
theorem tV{p:κ × V}{r:List (κ × V)}{k:κ}(e:p.1=k):jy (p ::r) k=some p.2:=by simp [jy,List.find?_cons,e]
theorem tJ{p:κ × V}{r:List (κ × V)}{k:κ}(e:¬p.1=k):jy (p ::r) k=jy r k:=by simp [jy,List.find?_cons,e]
theorem yQ(k:κ):∀aC:List (κ × V),(aC.any fun kv=>decide (kv.1=k))=(jy aC k).isSome
 | []=>rfl
 | p ::r=>by
   rw[List.any_cons];by_cases e:p.1=k
   .simp only[tV e,decide_eq_true e,Bool.true_or,Option.isSome_some]
   .rw [tJ e,decide_eq_false e,Bool.false_or];exact yQ k r
theorem n9(aC:List (κ × V))(k:κ)(v:V):(putK aC k v).length<=aC.length+1:=by
 unfold putK;split
 .rw [List.length_map];omega
 .rw [List.length_append,List.length_cons,List.length_nil];omega
theorem mQ.iF{o:Option V}{u:Option Value}(r:mQ o u):o.isSome=u.isSome:=by
 cases o with
 | none=>cases u with
   | none=>rfl
   | some _=>exact(show False from r).elim
 | some _=>cases u with
   | none=>exact(show False from r).elim
   | some _=>rfl
theorem mQ.getD{o:Option V}{u:Option Value}{d:V}{d':Value}(r:mQ o u)(rd:RelV d d'):RelV (o.getD d) (u.getD d'):=by
 cases o with
 | none=>cases u with
   | none=>exact rd
   | some _=>exact(show False from r).elim
 | some _=>cases u with
   | none=>exact(show False from r).elim
   | some _=>exact r
theorem KV.val{aC:List (κ × V)}{vs:List (κ × Value)}(r:KV aC vs)(k:κ):mQ (jy aC k) (valueAt vs k):=by
 unfold KV at r
 induction r with
 | nil=>exact True.intro
 | @cons p q ps qs h t ih=>
   obtain⟨h1,h2⟩:=h;by_cases e:p.1=k
   .have e':q.1=k:=h1.symm.trans e;have b:valueAt (q ::qs) k=some q.2:=by simp [valueAt,List.find?_cons,e']
    rw[tV e,b];exact h2
   .have e':¬q.1=k:=fun z=>e (h1.trans z)
    have b:valueAt (q ::qs) k=valueAt qs k:=by simp [valueAt,List.find?_cons,e']
    rw[tJ e,b];exact ih
theorem KV.any{aC:List (κ × V)}{vs:List (κ × Value)}(r:KV aC vs)(k:κ):(aC.any fun kv=>decide (kv.1=k))=vs.any fun kv=>decide (kv.1=k):=by
 unfold KV at r
 induction r with
 | nil=>rfl
 | cons h t ih=>rw [List.any_cons,List.any_cons,ih,h.1]
theorem KV.LZ{aC:List (κ × V)}{vs:List (κ × Value)}(r:KV aC vs)(k:κ){y:V}{u:Value}(ry:RelV y u) :
 KV (aC.map fun kv=>if kv.1=k then(kv.1,y) else kv) (vs.map fun kv=>if kv.1=k then(kv.1,u) else kv):=by
 unfold KV at r ⊢
 induction r with
 | nil=>exact .nil
 | @cons p q ps qs h t ih=>
   rw[List.map_cons,List.map_cons];refine .cons ?_ ih;obtain⟨h1,h2⟩:=h;by_cases e:p.1=k
   .rw [if_pos e,if_pos (h1.symm.trans e)];exact⟨h1,ry⟩
   .rw [if_neg e,if_neg (fun z=>e (h1.trans z))];exact⟨h1,h2⟩
theorem KV.put{aC:List (κ × V)}{vs:List (κ × Value)}(r:KV aC vs)(k:κ){y:V}{u:Value}(ry:RelV y u):KV (putK aC k y) (stored vs k u):=by
 unfold putK stored;rw[r.any k];by_cases e:(vs.any fun kv=>decide (kv.1=k))=true
 .rw [if_pos e,if_pos e];exact r.LZ k ry
 .rw [if_neg e,if_neg e];exact Paired.snoc r ⟨rfl,ry⟩
theorem KV.length{aC:List (κ × V)}{vs:List (κ × Value)}(r:KV aC vs):aC.length=vs.length:=Paired.length r
end
theorem o9{k:Key}{u:Value}(r:RelV (kV k) u):(cT P w).is k u=true:=by
 cases k with
 | inl i=>obtain⟨t,e⟩:=(show ∃t,u=Value.int i t from r);subst e;exact yS P w i t
 | inr x=>obtain⟨t,e⟩:=(show ∃t,u=Value.str x t from r);subst e;exact nU P w x t
theorem vD:∀{ks:List Key} {us:List Value},Vals (ks.map kV) us->ItemsAre (cT P w) ks us
 | [],_,r=>by rw[List.map_nil] at r;cases r;exact .nil
 | k ::ks,_,r=>by
   rw[List.map_cons] at r;cases r with
   | cons h t=>exact .cons (o9 h) (vD t)
abbrev KT(H:Hp):List (List Key × V)->List (List Key × Addr × Value)->Prop:=Paired fun p q=>p.1=q.1/\H q.2.1=some (.tup (p.1.map kV))/\RelV p.2 q.2.2
theorem KT.val{aC:List (List Key × V)}{xs:List (List Key × Addr × Value)}(r:KT H aC xs)(k:List Key):mQ (jy aC k) ((atKey xs k).map (·.2)):=by
 induction r with
 | nil=>exact True.intro
 | @cons p q ps qs h t ih=>
   obtain⟨h1,_,h2⟩:=h;by_cases e:p.1=k
   .have e':q.1=k:=h1.symm.trans e;have b:atKey (q ::qs) k=some q.2:=by simp [atKey,List.find?_cons,e']
    rw[tV e,b];exact h2
   .have e':¬q.1=k:=fun z=>e (h1.trans z)
    have b:atKey (q ::qs) k=atKey qs k:=by simp [atKey,List.find?_cons,e']
    rw[tJ e,b];exact ih
theorem KT.LZ{aC:List (List Key × V)}{xs:List (List Key × Addr × Value)}(r:KT H aC xs)(k:List Key){y:V}{u:Value}(ry:RelV y u) :
 KT H (aC.map fun kv=>if kv.1=k then(kv.1,y) else kv) (xs.map (putAt k u)):=by
 induction r with
 | nil=>exact .nil
 | @cons p q ps qs h t ih=>
   rw[List.map_cons,List.map_cons];refine .cons ?_ ih;obtain⟨h1,h2,h3⟩:=h;unfold putAt;by_cases e:p.1=k
   .rw [if_pos e,if_pos (h1.symm.trans e)];exact⟨h1,h2,ry⟩
   .rw [if_neg e,if_neg (fun z=>e (h1.trans z))];exact⟨h1,h2,h3⟩
theorem KT.put{H:Hp}{aC:List (List Key × V)}{xs:List (List Key × Addr × Value)}(r:KT H aC xs)(k:List Key){b:Addr}{y:V}{u:Value}(hb:H b=some (.tup (k.map kV)))(ry:RelV y u) :
 KT H (putK aC k y) (storedH xs k b u):=by
 have e:(aC.any fun kv=>decide (kv.1=k))=(atKey xs k).isSome:=by
  rw[yQ,(r.val k).iF,Option.isSome_map]
 unfold putK storedH;rw[e];by_cases q:(atKey xs k).isSome=true
 .rw [if_pos q,if_pos q];exact r.LZ k ry
 .rw [if_neg q,if_neg q];exact Paired.snoc r ⟨rfl,hb,ry⟩
theorem KT.keeps{H H':Hp}{aC:List (List Key × V)}{xs:List (List Key × Addr × Value)}(r:KT H aC xs)(ht:∀b ys,H b=some (.tup ys)->H' b=some (.tup ys)):KT H' aC xs:=
 Paired.KJ r fun _ _ z=>⟨z.1,ht _ _ z.2.1,z.2.2⟩
section
variable {P:Program} {w:World} {H:Hp} {h:Heap} {a:Addr}
theorem J3{u:HO}(ok:nK P w H h)(e:Rd H a u):d3 P w H h a u:=e.ok ok
theorem se{aC:List (Key × V)}(ok:nK P w H h)(e:Rd H a (.dK aC)):aC.length<=sizeLine/\(a==sysModules)=false/\∃vs,KV aC vs/\h.DictOf (cT P w) a vs:=
 show d3 P w H h a (.dK aC) from J3 ok e
theorem Kj{aC:List (Key × V)}(ok:nK P w H h)(e:H a=some (.dK aC)):aC.length<=sizeLine/\(a==sysModules)=false/\∃vs,KV aC vs/\h.DictOf (cT P w) a vs:=se ok (.inl e)
theorem q9{ks:List Key}(ok:nK P w H h)(e:H a=some (.tup (ks.map kV))):(tupleKind (cT P w)).is h ks a:=by
 obtain⟨_,its,r,o,h1,h2,n,h3⟩:=(show d3 P w H h a (.tup (ks.map kV)) from ok a _ e)
 exact⟨o,its.toArray,n,h1,h2,h3,by simpa using vD r⟩
theorem uf{aC:List (List Key × V)}(ok:nK P w H h)(e:Rd H a (.dT aC)):aC.length<=sizeLine/\(a==sysModules)=false/\
 ∃xs,KT H aC xs/\h.DictOfH (tupleKind (cT P w)) a xs:=by
 obtain⟨z,y,xs,r,o,es,ep,h1,h2,h3,h4,h5⟩:=(show d3 P w H h a (.dT aC) from J3 ok e)
 refine⟨z,y,xs,r,o,es,ep,h1,h2,h3,h4,fun x hx=>?_,h5⟩
 have all:∀{l:List (List Key × V)} {m:List (List Key × Addr × Value)},KT H l m->∀x∈m,(tupleKind (cT P w)).is h x.1 x.2.1:=by
  intro l m q
  induction q with
  | nil=>intro x hx;exact nomatch hx
  | @cons p q ps qs hq t ih=>
    intro x hx;rcases List.mem_cons.mp hx with e | hx
    .subst e;exact q9 ok (by rw[<-hq.1];exact hq.2.1)
    .exact ih x hx
 exact all r x hx
theorem Oh{aC:List (List Key × V)}(ok:nK P w H h)(e:H a=some (.dT aC)):aC.length<=sizeLine/\(a==sysModules)=false/\
 ∃xs,KT H aC xs/\h.DictOfH (tupleKind (cT P w)) a xs:=uf ok (.inl e)
end
def nQ(H:Hp)(a:Addr)(y:V)(r:Option V):Prop:=
 (∃aC k,Rd H a (.dK aC)/\y=kV k/\r=jy aC k)\/∃aC k b,Rd H a (.dT aC)/\y= .ref b/\H b=some (.tup (k.map kV))/\r=jy aC k
def Ds(H:Hp)(a:Addr)(y v:V)(H':Hp):Prop:=
 (∃aC k,H a=some (.dK aC)/\y=kV k/\aC.length < sizeLine/\H'=upd H a (.dK (putK aC k v)))\/
 ∃aC k b,H a=some (.dT aC)/\y= .ref b/\H b=some (.tup (k.map kV))/\aC.length < sizeLine/\H'=upd H a (.dT (putK aC k v))
theorem nQ.k{H:Hp}{a:Addr}{aC:List (Key × V)}{k:Key}(e:H a=some (.dK aC)):nQ H a (kV k) (jy aC k):= .inl ⟨aC,k, .inl e,rfl,rfl⟩
theorem Ds.k{H:Hp}{a:Addr}{aC:List (Key × V)}{k:Key}{v:V}(e:H a=some (.dK aC))(hl:aC.length < sizeLine):Ds H a (kV k) v (upd H a (.dK (putK aC k v))):= .inl ⟨aC,k,e,rfl,hl,rfl⟩
section
variable {X:Cx} {pins:Aaa} {σ:St} {H:Hp} {s:Shared} {a:Addr} {y v:V} {u r:Value} {o:Option V} {A:Around} {E:Aab}
theorem Inv.big(I:Inv X pins σ H s):sysModules < s.heap.objs.size:=by
 have h:mainGlobals < s.heap.objs.size:=(I.mod.glob.keeps I.bk).lt;exact Nat.lt_trans (by decide) h
theorem CV{Q:Aab}(hu:A.units+1 < cLine)(I:Inv X pins σ H s)(g:nQ H a y (some v))(ry:RelV y u)(h:∀w' s',Inv X pins σ H s'->RelV v w'->Q w' s') :
 wpAny (model X.prog X.w) A (getItem (.ref a) u) Q E s:=by
 rcases g with⟨aC,k,e,ey,l⟩ | ⟨aC,k,b,e,ey,eb,l⟩
 .subst ey;obtain⟨z,hd,vs,rel,dd⟩:=se I.hok e;obtain⟨w',hw,xW⟩:=mQ.some_of (v:=v) (o:=valueAt vs k) (by rw[l];exact rel.val k)
  exact wpAny_getItem_of (o9 ry) dd.mapOf hw (h w' _ (I.tok _) xW)
 .subst ey;cases(show u=Value.ref b from ry)
  obtain⟨z,hd,xs,rel,dd⟩:=uf I.hok e;obtain⟨w',hw,xW⟩:=mQ.some_of (v:=v) (o:=(atKey xs k).map (·.2)) (by rw[l];exact rel.val k)
  obtain⟨p,hp,Zq⟩:=Option.map_eq_some_iff.mp hw;refine wpAny_getItem_heap (tupleKind_room_in1 hu) (q9 I.hok eb) dd hp ?_;rw[Zq];exact h w' _ (I.tok _) xW
theorem Rg{Q:Aab}(hu:A.units+1 < cLine)(I:Inv X pins σ H s)(g:nQ H a y o)(ry:RelV y u)(h:∀s',Inv X pins σ H s'->Q (.bool o.isSome) s') :
 wpAny (model X.prog X.w) A (compareOp .In u (.ref a)) Q E s:=by
 rcases g with⟨aC,k,e,ey,l⟩ | ⟨aC,k,b,e,ey,eb,l⟩
 .subst ey;obtain⟨z,hd,vs,rel,dd⟩:=se I.hok e;refine wpAny_in_of (o9 ry) hd dd.mapOf ?_;rw[<-(rel.val k).iF,<-l];exact h _ (I.tok _)
 .subst ey;cases(show u=Value.ref b from ry)
  obtain⟨z,hd,xs,rel,dd⟩:=uf I.hok e;refine wpAny_in_heap (tupleKind_room_in1 hu) (q9 I.hok eb) hd dd ?_;have q:=(rel.val k).iF;rw[Option.isSome_map] at q;rw[<-q,<-l];exact h _ (I.tok _)
theorem Hs{Q:Aab}(hu:A.units+1 < cLine)(I:Inv X pins σ H s)(g:nQ H a y o)(ry:RelV y u)(h:∀s',Inv X pins σ H s'->Q (.bool (!o.isSome)) s') :
 wpAny (model X.prog X.w) A (compareOp .NotIn u (.ref a)) Q E s:=by
 rcases g with⟨aC,k,e,ey,l⟩ | ⟨aC,k,b,e,ey,eb,l⟩
 .subst ey;obtain⟨z,hd,vs,rel,dd⟩:=se I.hok e;refine wpAny_notIn_of (o9 ry) hd dd.mapOf ?_;rw[<-(rel.val k).iF,<-l];exact h _ (I.tok _)
 .subst ey;cases(show u=Value.ref b from ry)
  obtain⟨z,hd,xs,rel,dd⟩:=uf I.hok e;refine wpAny_notIn_heap (tupleKind_room_in1 hu) (q9 I.hok eb) hd dd ?_;have q:=(rel.val k).iF;rw[Option.isSome_map] at q;rw[<-q,<-l];exact h _ (I.tok _)
theorem xy{h':Heap}{t':Nat}{ob:HO}(I:Inv X pins σ H s)(mu:P8 (H a))(hs:Heap.SameBut a s.heap h')(he:∃q,h'.get? a=some q)(new:d3 X.prog X.w (upd H a ob) h' a ob) :
 Inv X pins σ (upd H a ob) {s with heap:=h',toks:=t'}:=
 I.write (x:=a) (e:=a) mu (.inl rfl) (fun b q hb z=>(hs.2 b hb).trans z) he new
theorem D4{H':Hp}{h':Heap}{aC:List (Key × V)}{vs:List (Key × Value)}(z:aC.length<=sizeLine)(hd:(a==sysModules)=false)(rel:KV aC vs)(dd:h'.DictOf (cT P w) a vs) :
 d3 P w H' h' a (.dK aC):=⟨z,hd,vs,rel,dd⟩
theorem Cr{Q:Unit->Shared->Prop}(hu:A.units+1 < cLine)(I:Inv X pins σ H s)(g:Ds H a y v H')(ry:RelV y u)(rv:RelV v r)(h:∀s',Inv X pins σ H' s'->Q () s') :
 wpAny (model X.prog X.w) A (setItem (.ref a) u r) Q E s:=by
 rcases g with⟨aC,k,e,ey,l,eH⟩ | ⟨aC,k,b,e,ey,eb,l,eH⟩
 .subst ey eH;obtain⟨z,hd,vs,rel,dd⟩:=Kj I.hok e;have hz:vs.length<=sizeLine:=by rw[<-rel.length];exact z
  have hl:(putK aC k v).length<=sizeLine:=by have:=n9 aC k v;omega
  refine wpAny_setItem_pairs (hsz:=hz) (o9 ry) dd fun h' Nx hs=>h _ ?_
  have he:∃q,h'.get? a=some q:=let⟨q,_,_,hq,_⟩:=Nx;⟨q,hq⟩
  exact xy I (by rw[e];exact True.intro) hs he (D4 hl hd (rel.put k rv) Nx)
 .subst ey eH;cases(show u=Value.ref b from ry)
  obtain⟨z,hd,xs,rel,dd⟩:=Oh I.hok e;have hz:xs.length<=sizeLine:=by rw[<-Paired.length rel];exact z
  have hl:(putK aC k v).length<=sizeLine:=by have:=n9 aC k v;omega
  refine wpAny_setItem_heap (hsz:=hz) (tupleKind_room_in1 hu) (q9 I.hok eb) dd fun h' Nx hs=>h _ ?_
  obtain⟨q,es,ep,hq,h2,h3,h4,_,h5⟩:=Nx;refine xy I (by rw[e];exact True.intro) hs ⟨q,hq⟩ ⟨hl,hd,_,(rel.put k eb rv).keeps fun c ys ec=>?_,q,es,ep,hq,h2,h3,h4,h5⟩
  rw[bt (Og ec e (fun z=>nomatch z))]
  exact ec
end
section
variable {X:Cx} {pins:Aaa} {σ:St} {H:Hp} {s:Shared} {a:Addr} {aC:List (Key × V)} {k:Key} {u:Value} {A:Around} {E:Aab}
theorem OW{Q:Aab}(I:Inv X pins σ H s)(e:Rd H a (.dK aC))(h:∀t s',Inv X pins σ H s'->Q (.int aC.length t) s'):wpAny (model X.prog X.w) A (call (.builtin "len") [.ref a]) Q E s:=by
 obtain⟨z,hd,vs,rel,dd⟩:=se I.hok e;refine call_len_dict hd dd (by rw[<-rel.length];rw [sizeLine_eq] at z;omega) ?_
 rw[<-rel.length];exact h _ _ (I.tok _)
end
def D_(i:Expr):Prop:=∀ov iv,subscripted i false ov iv=operate [ov,iv] (getItem ov iv)
theorem AO{prog:Program}{w:World}{A:Around}{E:Aab}{s:Shared}{env:Env}{value slice:Expr}{pos:Pos}{T id:String}{Q:Aab}
 (hl:typeLookup (.type T) "__getitem__"=pure (some (.builtin id))) (hs:D_ slice)
 (h:wpAny (model prog w) A (eval value env) (fun o s₁=>wpAny (model prog w) A (eval slice env) (fun i vm=>vm.TypeIs o T/\wpAny (model prog w) A (getItem o i) Q E vm) E s₁) E s) :
 wpAny (model prog w) A (eval (.Subscript value slice pos) env) Q E s:=by
 refine Subscript_ (wpAny_mono h (fun o s₁ qi=>wpAny_mono qi (fun i vm Nh=>?_) fun _ _ x=>x) fun _ _ x=>x)
 obtain⟨hT,Nh⟩:=Nh;unfold subscriptTail;refine wpAny_bind ?_;rw[getitemInPython_of_ne hT.not_modules];refine wpAny_bind (wpAny_specialOf hT hl ?_);have fin:wpAny (model prog w) A (subscripted slice false o i) (fun r JO=>wpAny (model prog w) A (letTemporaryGo value o r >>=fun _=>pure r) Q E JO) E vm:=by
  rw[hs o i];exact wpAny_operating (wpAny_mono Nh (fun r JO Us=>wpAny_bind (wpAny_letTemporaryGo (wpAny_pure Us))) fun _ _ x=>x)
 first
  | exact wpAny_pure (wpAny_bind fin)
  | exact wpAny_bind (wpAny_pure (wpAny_bind fin))
  | exact wpAny_bind fin
theorem yk{X:Cx}{pins:Aaa}{s:Shared}{a:Addr}{y:V}{o:Option V}(I:Inv X pins σ H s)(g:nQ H a y o):s.TypeIs (.ref a) "dict":=by
 rcases g with⟨aC,k,e,_,_⟩ | ⟨aC,k,b,e,_,_,_⟩
 .obtain⟨_,_,vs,_,dd⟩:=se I.hok e;exact dd.typeIs
 .obtain⟨_,_,xs,_,dd⟩:=uf I.hok e;exact dd.typeIs
def N_(td ty:TE):TE:=fun σ H Q=>td σ H fun x H1=>ty σ H1 fun y H2=>∃a v,x= .ref a/\nQ H2 a y (some v)/\Q v H2
def TH(ty td:TE):TE:=fun σ H Q=>ty σ H fun y H1=>td σ H1 fun x H2=>∃a o,x= .ref a/\nQ H2 a y o/\Q (.bl o.isSome) H2
def HG(ty td:TE):TE:=fun σ H Q=>ty σ H fun y H1=>td σ H1 fun x H2=>∃a o,x= .ref a/\nQ H2 a y o/\Q (.bl (!o.isSome)) H2
def Oo(td ty tv:TE):TS:=fun D σ H=>tv σ H fun v H1=>td σ H1 fun x H2=>ty σ H2 fun y H3=>∃a H4,x= .ref a/\Ds H3 a y v H4/\D.nx σ H4
def V5(td ty tv:TE)(rd:V->V->Hp->VK->Prop):TS:=fun D σ H=>td σ H fun x H1=>ty σ H1 fun y H2=>∃a v,x= .ref a/\nQ H2 a y (some v)/\
 tv σ H2 fun y2 H3=>rd v y2 H3 fun z H4=>∃H5,Ds H4 a y z H5/\D.nx σ H5
def WC(td ty:TE):TS:=fun D σ H=>td σ H fun x H1=>ty σ H1 fun y H2=>∃a aC k,x= .ref a/\H2 a=some (.dK aC)/\y=kV k/\(jy aC k).isSome=true/\D.nx σ (upd H2 a (.dK (Gv aC k)))
section
variable {X:Cx} {o i e value:Expr} {pos pos' Um:Pos} {td ty tv:TE}
theorem A4(hu:X.A.units+1 < cLine)(ho:PE X o td)(hi:PE X i ty)(hs:D_ i):PE X (.Subscript o i pos) (N_ td ty):=by
 intro pins s σ H Q I h;refine AO PySem.F.slot_dict_getitem.lookup hs (cU (ho pins s σ H _ I h) fun u s1 ⟨x,H1,I1,rx,q1⟩=>cU (hi pins s1 σ H1 _ I1 q1) fun iv s2 ⟨y,H2,I2,ry,a,v,ex,g,q2⟩=>?_)
 subst ex;obtain rfl:u=Value.ref a:=rx;exact⟨yk I2 g,CV hu I2 g ry fun w' s3 I3 xW=>⟨v,H2,I3,xW,q2⟩⟩
theorem MM(hu:X.A.units+1 < cLine)(hi:PE X i ty)(ho:PE X o td):PC X .In i o (TH ty td):=by
 intro pins s σ H Q I h;refine cU (hi pins s σ H _ I h) fun iv s1 ⟨y,H1,I1,ry,q1⟩=>cU (ho pins s1 σ H1 _ I1 q1) fun u s2 ⟨x,H2,I2,rx,a,ov,ex,g,q2⟩=>?_
 subst ex;obtain rfl:u=Value.ref a:=rx;exact Rg hu I2 g ry fun s3 I3=>⟨.bl ov.isSome,H2,I3,rfl,q2⟩
theorem Cz(hu:X.A.units+1 < cLine)(hi:PE X i ty)(ho:PE X o td):PC X .NotIn i o (HG ty td):=by
 intro pins s σ H Q I h;refine cU (hi pins s σ H _ I h) fun iv s1 ⟨y,H1,I1,ry,q1⟩=>cU (ho pins s1 σ H1 _ I1 q1) fun u s2 ⟨x,H2,I2,rx,a,ov,ex,g,q2⟩=>?_
 subst ex;obtain rfl:u=Value.ref a:=rx;exact Hs hu I2 g ry fun s3 I3=>⟨.bl (!ov.isSome),H2,I3,rfl,q2⟩
theorem Jj(hu:X.A.units+1 < cLine)(ho:PE X o td)(hi:PE X i ty)(hv:PE X value tv)(hs:swapsWith value (some (.Subscript o i pos')) pos.line X.env=pure false) :
 PS X (.Assign [.Subscript o i pos'] value pos) (Oo td ty tv):=by
 intro pins s σ H D I h;refine wpAny_Assign_Subscript (cU (hv pins s σ H _ I h) fun r s1 ⟨v,H1,I1,rv,q1⟩=>cU (ho pins s1 σ H1 _ I1 q1) fun u s2 ⟨x,H2,I2,rx,q2⟩=>cU (hi pins s2 σ H2 _ I2 q2) fun iv s3 ⟨y,H3,I3,ry,a,H4,ex,g,q3⟩=>?_) hs
 subst ex;obtain rfl:u=Value.ref a:=rx;exact Cr hu I3 g ry rv fun s4 I4=>⟨σ,H4,I4,q3⟩
end
theorem yL(h:Heap)(hb:sysModules < h.objs.size):d3 P w H (h.push {cls:= .type "dict",data:= .dict #[]}) h.objs.size (.dK []):=
 ⟨Nat.zero_le _,beq_eq_false_iff_ne.mpr (Ne.symm (Nat.ne_of_lt hb)),[], .nil,Heap.DictOf.new h⟩
def LQ:TE:=fun _ H Q=>∀p,H p=none->Q (.ref p) (upd H p (.dK []))
def SS:TE:=fun _ H Q=>∀p,H p=none->Q (.ref p) (upd H p (.dT []))
section
variable {X:Cx} {pos:Pos}
theorem D5:PE X (.Dict [] [] pos) LQ:=fun pins s σ H Q I h=>
 wpAny_Dict_empty ⟨.ref s.heap.objs.size,_,I.laid (a:=s.heap.objs.size) (o:= .dK []) (t':=s.toks) (fun _ _ q=>Heap.get?_push_of_some _ q) (Nat.le_refl _) (yL s.heap I.big),rfl,h _ (I.hok.fresh (Nat.le_refl _))⟩
end
def pL:List (TE × TE)->St->Hp->(List (V × V)->Hp->Prop)->Prop
 | [],_,H,Q=>Q [] H
 | (tk,tv) ::r,σ,H,Q=>tk σ H fun x H1=>tv σ H1 fun y H2=>pL r σ H2 fun ps H3=>Q ((x,y) ::ps) H3
abbrev VV:List (V × V)->List (Value × Value)->Prop:=Paired fun p q=>RelV p.1 q.1/\RelV p.2 q.2
def Kg(X:Cx)(pos:Pos)(keys:List (Option Expr))(values:List Expr)(uI:List (TE × TE)):Prop:=
 ∀(pins:Aaa) (s:Shared) (σ:St) (H:Hp) (Q:List (V × V)->Hp->Prop),Inv X pins σ H s->pL uI σ H Q->
  wpAny (model X.prog X.w) X.A (evalPairs (pairTrees keys values X.env pos)) (fun vs s'=>∃ps H',Inv X pins σ H' s'/\VV ps vs/\Q ps H') X.xe s
theorem xt{X:Cx}:Kg X pos [] [] []:=fun pins s σ H Q I h=>pairTrees_nil_walk ⟨[],H,I, .nil,h⟩
theorem ko{X:Cx}{ks:List (Option Expr)}{tk tv:TE}{uI:List (TE × TE)}(hk:PE X k tk)(hv:PE X v tv)(hr:Kg X pos ks vs uI) :
 Kg X pos (some k ::ks) (v ::vs) ((tk,tv) ::uI):=fun pins s σ H Q I h=>
 pairTrees_cons_walk (cU (hk pins s σ H _ I h) fun u s1 ⟨x,H1,I1,rx,q1⟩=>cU (hv pins s1 σ H1 _ I1 q1) fun w2 s2 ⟨y,H2,I2,ry,q2⟩=>
  cU (hr pins s2 σ H2 _ I2 q2) fun ws s3 ⟨ps,H3,I3,rel,q3⟩=>⟨(x,y) ::ps,H3,I3, .cons ⟨rx,ry⟩ rel,q3⟩)
def lE(aC more:List (Key × V)):List (Key × V):=more.foldl (fun acc kv=>putK acc kv.1 kv.2) aC
theorem KV.merge:∀{more:List (Key × V)} {rs:List (Key × Value)} {aC:List (Key × V)} {vs:List (Key × Value)},KV more rs->KV aC vs->KV (lE aC more) (merged vs rs):=by
 intro more rs aC vs r;unfold KV at r
 induction r generalizing aC vs with
 | nil=>intro q;exact q
 | @cons p q ps qs h t ih=>
   intro r0;have e:KV (putK aC p.1 p.2) (stored vs q.1 q.2):=by
    have:=r0.put p.1 h.2;rw[<-h.1];exact this
   exact ih e
theorem pB:∀(more aC:List (Key × V)),(lE aC more).length<=aC.length+more.length
 | [],aC=>by show aC.length<=aC.length+0;omega
 | p ::r,aC=>by
   have h1:=pB r (putK aC p.1 p.2);have h2:=n9 aC p.1 p.2;show(lE (putK aC p.1 p.2) r).length<=_;rw[List.length_cons];omega
theorem uC:∀{aC:List (Key × V)} {ws:List (Value × Value)},VV (aC.map fun kv=>(kV kv.1,kv.2)) ws->∃rs,Carries (cT P w) ws rs/\KV aC rs
 | [],_,r=>by rw[List.map_nil] at r;cases r;exact⟨[],True.intro, .nil⟩
 | p ::aC,_,r=>by
   rw[List.map_cons] at r;cases r with
   | @cons a b as bs h t=>
     obtain⟨rs,c,q⟩:=uC (P:=P) (w:=w) t;obtain⟨b1,b2⟩:=b;exact⟨(p.1,b2) ::rs,⟨o9 h.1,rfl,c⟩, .cons ⟨rfl,h.2⟩ q⟩
def FK(uI:List (TE × TE)):TE:=fun σ H Q=>∀p,H p=none->pL uI σ (upd H p (.dK [])) fun ps H2=>H2 p=some (.dK [])/\∃aC:List (Key × V),ps=aC.map (fun kv=>(kV kv.1,kv.2))/\aC.length<=15/\Q (.ref p) (upd H2 p (.dK (lE [] aC)))
theorem Bj{X:Cx}{pos:Pos}{keys:List (Option Expr)}{values:List Expr}{uI:List (TE × TE)}(h:Kg X pos keys values uI)(zg:keys.all (·.isSome)=true)(hl:keys.length=values.length)(h0:keys≠[])
 (TZ:keys.length<=15):PE X (.Dict keys values pos) (FK uI):=by
 intro pins s σ H Q I q;have hn:=I.hok.fresh (Nat.le_refl s.heap.objs.size);have I1:=I.laid (a:=s.heap.objs.size) (o:= .dK []) (h':=s.heap.push {cls:= .type "dict",data:= .dict #[]}) (t':=s.toks) (fun _ _ q=>Heap.get?_push_of_some _ q) (Nat.le_refl _) (yL s.heap I.big)
 refine wpAny_Dict_walk (knd:=cT X.prog X.w) zg hl h0 TZ (cU (h pins _ σ _ _ I1 (q _ hn)) fun ws s2 ⟨ps,H2,I2,rel,e,aC,ep,lk,q2⟩=>?_)
 subst ep;obtain⟨rs,c,rk⟩:=uC (P:=X.prog) (w:=X.w) rel;obtain⟨z,hd,vs0,r0,dd⟩:=Kj I2.hok e;cases r0;refine⟨rs,c,dd,fun h' Nx hs=>⟨.ref s.heap.objs.size,_,?_,rfl,q2⟩⟩
 have hz:(lE [] aC).length<=sizeLine:=by
  have h1:=pB aC [];rw[List.length_nil] at h1;rw[sizeLine_eq];omega
 have he:∃q,h'.get? s.heap.objs.size=some q:=let⟨q,_,_,hq,_⟩:=Nx;⟨q,hq⟩
 exact xy I2 (by rw[e];exact True.intro) hs he (D4 hz hd (rk.merge .nil) Nx)
structure M1 (X:Cx) (o:Expr) (m:Str) (apos:Pos) (e:Expr) (bj:Pos):Prop where
 base:attributeBase o m X.env (eval o X.env)=eval o X.env
 few:((backTo bj (starEach [e] X.env)).all (fun x=>!x.1) && (backToKw bj (keywordEach [] X.env)).all (fun x=>x.1.isSome)
  && decide (([e]:List Expr).length+([]:List Keyword).length+(if([]:List Keyword).isEmpty then 0 else 1) < 30))=true
 line:(apos.endLine==bj.line)=true
 trees:backTo bj (starEach [e] X.env)=[(false,eval e X.env)]
structure M2 (X:Cx) (o:Expr) (m:Str) (apos:Pos) (e f:Expr) (bj:Pos):Prop where
 base:attributeBase o m X.env (eval o X.env)=eval o X.env
 few:((backTo bj (starEach [e,f] X.env)).all (fun x=>!x.1) && (backToKw bj (keywordEach [] X.env)).all (fun x=>x.1.isSome)
  && decide (([e,f]:List Expr).length+([]:List Keyword).length+(if([]:List Keyword).isEmpty then 0 else 1) < 30))=true
 line:(apos.endLine==bj.line)=true
 trees:backTo bj (starEach [e,f] X.env)=[(false,eval e X.env),(false,eval f X.env)]
def Qe(H:Hp)(a:Addr):Prop:=(∃aC,Rd H a (.dK aC))\/∃aC,Rd H a (.dT aC)
theorem K0{X:Cx}{pins:Aaa}{s:Shared}{a:Addr}(I:Inv X pins σ H s)(d:Qe H a) :
 s.TypeIs (.ref a) "dict"/\(∀b,Value.ref a= .ref b->∃ob,s.heap.get? b=some ob/\ob.dict=none)/\(a==sysModules)=false:=by
 rcases d with⟨aC,e⟩ | ⟨aC,e⟩
 .obtain⟨_,hd,vs,_,dd⟩:=se I.hok e;refine⟨dd.typeIs,fun b q=>?_,hd⟩
  cases q;obtain⟨ob,_,_,h1,h2,_⟩:=dd;exact⟨ob,h1,h2.2.1⟩
 .obtain⟨_,hd,xs,_,dd⟩:=uf I.hok e;refine⟨dd.typeIs,fun b q=>?_,hd⟩
  cases q;obtain⟨ob,_,_,h1,h2,_⟩:=dd;exact⟨ob,h1,h2.2.1⟩
section
variable {X:Cx} {pins:Aaa} {σ:St} {H:Hp} {s:Shared} {a:Addr} {y d:V} {u r:Value} {o:Option V} {A:Around} {E:Aab}
theorem L_{Q:Aab}(hu:A.units+1 < cLine)(I:Inv X pins σ H s)(g:nQ H a y o)(ry:RelV y u)(rd:RelV d r)(h:∀w' s',Inv X pins σ H s'->RelV (o.getD d) w'->Q w' s') :
 wpAny (model X.prog X.w) A (call (.builtin "dict.get") [.ref a,u,r]) Q E s:=by
 rcases g with⟨aC,k,e,ey,l⟩ | ⟨aC,k,b,e,ey,eb,l⟩
 .subst ey;obtain⟨z,hd,vs,rel,dd⟩:=se I.hok e;refine call_meetsIn PySem.F.slot_dict_get dd.typeIs PySem.F.entry_dict_get (PySem.F.args_dict_get_3 _ _ _) (meets_dict_get_default (cT X.prog X.w) a (o9 ry) hd r) ⟨_,dd.mapOf,h _ _ (I.tok _) ?_⟩;rw[l];exact(rel.val k).getD rd
 .subst ey;cases(show u=Value.ref b from ry)
  obtain⟨z,hd,xs,rel,dd⟩:=uf I.hok e;refine call_meetsIn PySem.F.slot_dict_get dd.typeIs PySem.F.entry_dict_get (PySem.F.args_dict_get_3 _ _ _) (meetsH_dict_get_default (tupleKind (cT X.prog X.w)) a b hd r) ⟨tupleKind_room_in1 hu,k,xs,q9 I.hok eb,dd,h _ _ (I.tok _) ?_⟩;rw[l];exact(rel.val k).getD rd
end
def Rl(td ty:TE):TE:=fun σ H Q=>td σ H fun x H1=>∃a,x= .ref a/\Qe H1 a/\ty σ H1 fun y H2=>∃o,nQ H2 a y o/\Q (o.getD .cN) H2
def L8(td ty tx:TE):TE:=fun σ H Q=>td σ H fun x H1=>∃a,x= .ref a/\Qe H1 a/\ty σ H1 fun y H2=>tx σ H2 fun z H3=>∃o,nQ H3 a y o/\Q (o.getD z) H3
def SG(td ty:TE):TE:=fun σ H Q=>td σ H fun x H1=>∃a,x= .ref a/\Qe H1 a/\ty σ H1 fun y H2=>∃aC k v,H2 a=some (.dK aC)/\y=kV k/\jy aC k=some v/\Q v (upd H2 a (.dK (Gv aC k)))
def RW(td ty tx:TE):TE:=fun σ H Q=>td σ H fun x H1=>∃a,x= .ref a/\Qe H1 a/\ty σ H1 fun y H2=>tx σ H2 fun z H3=>∃aC k,H3 a=some (.dK aC)/\y=kV k/\
 (∀v,jy aC k=some v->Q v (upd H3 a (.dK (Gv aC k))))/\(jy aC k=none->Q z H3)
section
variable {X:Cx} {o e f:Expr} {apos bj:Pos} {td ty tx:TE}
theorem DW(hu:X.A.units+1 < cLine)(ho:PE X o td)(he:PE X e ty)(hf:PE X f tx)(m:M2 X o "get" apos e f bj):PE X (.Call (.Attribute o "get" apos) [e,f] [] bj) (L8 td ty tx):=by
 intro pins s σ H Q I h;refine wpAny_Call_method m.base m.few m.line PySem.F.plainAttrs_dict PySem.F.slot_dict_get PySem.F.type_dict_get (cU (ho pins s σ H _ I h) fun u s1 ⟨x,H1,I1,rx,a,ex,d,q1⟩=>?_)
 subst ex;obtain rfl:u=Value.ref a:=rx;obtain⟨t1,t2,_⟩:=K0 I1 d;refine⟨t1,t2,?_⟩;rw[m.trees];refine Calls.callWith_builtin rfl (Calls.evalArgs_plain (Calls.spliced_cons (cU (he pins s1 σ H1 _ I1 q1) fun iv s2 ⟨y,H2,I2,ry,q2⟩=>
  Calls.spliced_cons (cU (hf pins s2 σ H2 _ I2 q2) fun fv s3 ⟨z,H3,I3,rz,ov,g,q3⟩=>Calls.spliced_nil ?_))))
 exact L_ hu I3 g ry rz fun w' s4 I4 xW=>⟨_,H3,I4,xW,q3⟩
end
section
variable {X:Cx} {pins:Aaa} {σ:St} {H:Hp} {s:Shared} {a:Addr} {aC:List (Key × V)} {A:Around} {E:Aab}
end
section
variable {X:Cx} {pins:Aaa} {σ:St} {H:Hp} {s:Shared} {a:Addr} {y:V} {u:Value} {A:Around} {E:Aab}
end
end L2
namespace HT
open PySem PyProof.Rows
def lexLt:List Int->List Int->Bool
 | [],[]=>false
 | [],_ ::_=>true
 | _ ::_,[]=>false
 | x ::xs,y ::ys=>if x=y then lexLt xs ys else decide (x < y)
section
open PySem.SeqAt
open PySem.AutoSeq1 (wpAny_loadPart')
open PySem.MeetsSeq PySem.MeetsSeq2 PySem.MeetsSeq3
end
section
variable {prog:Program} {w:World} {A:Around} {E:Aab} {s:Shared}
def sM(n d:Nat):Option Int->Nat
 | none=>d
 | some v=>if v < 0 then(v+(n:Int)).toNat else min v.toNat n
theorem ue(n d:Nat):sM n d none=d:=rfl
theorem wJ(n d k:Nat):sM n d (some (k:Int))=min k n:=by
 show(if(k:Int) < 0 then((k:Int)+(n:Int)).toNat else min (k:Int).toNat n)=min k n
 rw[if_neg (by omega),Int.toNat_natCast]
end
end HT
namespace L2
open PySem PySem.Spec PyProof.Rows
abbrev TO:=St->Hp->(Option Int->Hp->Prop)->Prop
def PO(X:Cx)(e:Option Expr)(t:TO):Prop:=
 ∀(pins:Aaa) (s:Shared) (σ:St) (H:Hp) (Q:Option Int->Hp->Prop),Inv X pins σ H s->t σ H Q->
  wpAny (model X.prog X.w) X.A (evalPart e X.env) (fun u s'=>∃o H',Inv X pins σ H' s'/\IsPart u o/\Q o H') X.xe s
def HH:TO:=fun _ H Q=>Q none H
def PM(t:TE):TO:=fun σ H Q=>t σ H fun x H1=>∃i,x= .int i/\Q (some i) H1
section
variable {X:Cx} {e:Expr} {te:TE} {lo hi:Option Expr} {tl th:TO} {pos p2:Pos}
theorem Jx:PO X none HH:=by
 intro pins s σ H Q I h;rw[evalPart_none];exact wpAny_pure ⟨none,H,I, .none,h⟩
theorem Im(h:PE X e te):PO X (some e) (PM te):=by
 intro pins s σ H Q I hw;rw[evalPart_some];refine cU (h pins s σ H _ I hw) fun u s1 ⟨x,H1,I1,r1,q1⟩=>?_
 obtain⟨i,rfl,q⟩:=q1;obtain⟨t,rfl⟩:=r1;exact⟨some i,H1,I1, .int i t,q⟩
def K1(X:Cx)(r:V->Option Int->Option Int->Hp->VK->Prop):Prop:=
 ∀(pins:Aaa) (s:Shared) (σ:St) (H:Hp) (x:V) (v vl vu:Value) (lo hi:Option Int) (sl:Addr) (Q:VK),Inv X pins σ H s->RelV x v->s.heap.IsSliceOf sl vl vu .none->IsPart vl lo->IsPart vu hi->r x lo hi H Q->
  ∃T id,typeLookup (.type T) "__getitem__"=pure (some (.builtin id))/\s.TypeIs v T/\wpAny (model X.prog X.w) X.A (getItem v (.ref sl)) (EP X pins σ Q) X.xe s
theorem K1.or{r r':V->Option Int->Option Int->Hp->VK->Prop}(h:K1 X r)(h':K1 X r'):K1 X (fun x lo hi H Q=>r x lo hi H Q\/r' x lo hi H Q):=by
 intro pins s σ H x v vl vu lo hi sl Q I rx hs pl pu q;rcases q with q | q
 .exact h pins s σ H x v vl vu lo hi sl Q I rx hs pl pu q
 .exact h' pins s σ H x v vl vu lo hi sl Q I rx hs pl pu q
def Y1(r:V->Option Int->Option Int->Hp->VK->Prop)(te:TE)(tl th:TO):TE:=fun σ H Q=>te σ H fun x H1=>tl σ H1 fun l H2=>th σ H2 fun u H3=>r x l u H3 Q
theorem Gf{r:V->Option Int->Option Int->Hp->VK->Prop}(hr:K1 X r)(he:PE X e te)(hl:PO X lo tl)(hu:PO X hi th):PE X (.Subscript e (.Slice lo hi none p2) pos) (Y1 r te tl th):=by
 intro pins s σ H Q I h;refine Subscript_ (cU (he pins s σ H _ I h) fun v s1 ⟨x,H1,I1,r1,q1⟩=>?_)
 refine wpAny_Slice (cU (hl pins s1 σ H1 _ I1 q1) fun vl s2 ⟨l,H2,I2,pl,q2⟩=>cU (hu pins s2 σ H2 _ I2 q2) fun vu s3 ⟨u,H3,I3,pu,q3⟩=>?_)
 rw[evalPart_none];refine wpAny_pure ?_;have I4:Inv X pins σ H3 {s3 with heap:=s3.heap.push {cls:= .type "slice",data:= .fields #[vl,vu, .none]}}:=I3.kept (t':=s3.toks) fun b ob q=>Heap.get?_push_of_some _ q
 obtain⟨T,id,hT,ht,hg⟩:=hr pins {s3 with heap:=s3.heap.push {cls:= .type "slice",data:= .fields #[vl,vu, .none]}} σ H3 x v vl vu l u s3.heap.objs.size Q I4 r1 (Heap.IsSliceOf.new ..) pl pu q3
 show wpAny (model X.prog X.w) X.A (subscriptTail e (.Slice lo hi none p2) v (.ref s3.heap.objs.size)) (EP X pins σ Q) X.xe {s3 with heap:=s3.heap.push {cls:= .type "slice",data:= .fields #[vl,vu, .none]}}
 exact tail_any (ops:=[.ref s3.heap.objs.size,v]) ht hT hg (by with_unfolding_all rfl)
def zN(xs:List V)(lo hi:Option Int):List V:=(xs.drop (HT.sM xs.length 0 lo)).take (HT.sM xs.length xs.length hi - HT.sM xs.length 0 lo)
theorem ze(xs:List V)(lo hi:Option Int):(zN xs lo hi).length<=xs.length:=by
 unfold zN;rw[List.length_take,List.length_drop];omega
def Yp(K:W.Frag):V->Option Int->Option Int->Hp->VK->Prop:=fun x lo hi H Q=>∃a xs,x= .ref a/\rC K H a xs/\
 ¬(HT.sM xs.length 0 lo=0/\HT.sM xs.length xs.length hi=xs.length)/\∀p,H p=none->Q (.ref p) (upd H p (.tup (zN xs lo hi)))
def YB(K:W.Frag):R2:=fun x y H Q=>∃a b ns ms,x= .ref a/\y= .ref b/\rC K H a (ns.map V.int)/\rC K H b (ms.map V.int)/\Q (.bl (HT.lexLt ns ms)) H
def VE(K:W.Frag):R2:=fun x y H Q=>∃a b xs ys,x= .ref a/\y= .ref b/\rC K H a xs/\rC K H b ys/\xs≠[]/\xs.length+ys.length<=sizeLine/\
 (ys=[]->Q (.ref a) H)/\(ys≠[]->∀p,H p=none->Q (.ref p) (upd H p (.tup (xs++ys))))
end
def DY(n:Nat)(i:Int):Option Nat:=if 0<=i then(if i < n then some i.toNat else none) else if -(n:Int)<=i then some (i+n).toNat else none
def we{α:Type}(xs:List α)(i:Int):Option α:=(DY xs.length i).bind fun j=>xs[j]?
theorem Je{n:Nat}{i:Int}{j:Nat}(h:DY n i=some j):seqIndex? i n=some j/\j < n/\ -(n:Int)<=i/\i < n:=by
 unfold DY at h;by_cases h0:0<=i
 .rw [if_pos h0] at h;by_cases h1:i < n
  .rw [if_pos h1] at h;have e:i.toNat=j:=Option.some.inj h;exact⟨by rw[seqIndex_of h0 h1,e],by omega,by omega,h1⟩
  .rw [if_neg h1] at h;cases h
 .rw [if_neg h0] at h;by_cases h1: -(n:Int)<=i
  .rw [if_pos h1] at h;have e:(i+n).toNat=j:=Option.some.inj h;exact⟨by rw[seqIndex_neg (by omega) h1,e],by omega,h1,by omega⟩
  .rw [if_neg h1] at h;cases h
theorem wM{α:Type}{xs:List α}{i:Int}{v:α}(h:we xs i=some v):∃j,seqIndex? i xs.length=some j/\xs[j]? =some v/\j < xs.length/\ -(xs.length:Int)<=i/\i < xs.length:=by
 unfold we at h;cases e:DY xs.length i with
 | none=>rw [e] at h;cases h
 | some j=>
   rw[e] at h;obtain⟨h1,h2,h3,h4⟩:=Je e;exact⟨j,h1,h,h2,h3,h4⟩
def wo(b:Expr):Prop:=∀o i,subscripted b false o i=operate [o,i] (getItem o i)
def HS(X:Cx)(r:R2):Prop:=
 ∀(value slice:Expr) (pins:Aaa) (s:Shared) (σ:St) (H:Hp) (x y:V) (v u:Value) (Q:VK),Inv X pins σ H s->RelV x v->RelV y u->r x y H Q->
  subscripted slice false v u=operate [v,u] (getItem v u)->wpAny (model X.prog X.w) X.A (subscriptTail value slice v u) (EP X pins σ Q) X.xe s
def VO(X:Cx)(id:String)(r:V->List V->Hp->VK->Prop):Prop:=
 ∀(pins:Aaa) (s:Shared) (σ:St) (H:Hp) (x:V) (xs:List V) (v:Value) (us:List Value) (Q:VK),Inv X pins σ H s->RelV x v->Vals xs us->r x xs H Q->
  wpAny (model X.prog X.w) X.A (call (.builtin id) (v ::us)) (EP X pins σ Q) X.xe s
section
variable {X:Cx} {a b:Expr} {ta tb:TE} {pos:Pos}
theorem HS.or{r r':R2}(h:HS X r)(h':HS X r'):HS X (fun x y H Q=>r x y H Q\/r' x y H Q):=by
 intro value slice pins s σ H x y v u Q I rx ry q hs;rcases q with q | q
 .exact h value slice pins s σ H x y v u Q I rx ry q hs
 .exact h' value slice pins s σ H x y v u Q I rx ry q hs
theorem O2{r:R2}(hr:HS X r)(ha:PE X a ta)(hb:PE X b tb)(hs:wo b):PE X (.Subscript a b pos) (Nz r ta tb):=by
 intro pins s σ H Q I h;exact Subscript_ (M3 ha hb I h fun v u s2 x y H2 I2 rx ry q=>hr a b pins s2 σ H2 x y v u Q I2 rx ry q (hs _ _))
def PR(K:W.Frag):R2:=fun x y H Q=>∃p xs i v,x= .ref p/\y= .int i/\nL K H p xs/\we xs i=some v/\Q v H
def Pe(K:W.Frag):R2:=fun x y H Q=>∃p xs i v,x= .ref p/\y= .int i/\rC K H p xs/\we xs i=some v/\Q v H
def Po:R2:=fun x y H Q=>∃z i c,x= .str z/\y= .int i/\z.length<=sizeLine/\we z.cps.toList i=some c/\Q (.str ⟨#[c]⟩) H
theorem I_:HS X (PR X.K):=by
 intro value slice pins s σ H x y v u Q I rx ry h hs;obtain⟨p,xs,i,z,rfl,rfl,hq,he,q⟩:=h;cases rx;obtain⟨t,rfl⟩:=ry;obtain⟨its,r,pl,hz⟩:=I.list hq;obtain⟨j,h1,h2,h3,h4,h5⟩:=wM he;obtain⟨w,ew,xW⟩:=r.get h2;have hl:=r.length;have hn:=q_;have fin:EP X pins σ Q w s:=⟨z,H,I,xW,q⟩;by_cases h0:0<=i
 .have hj:i.toNat=j:=by
   rw[seqIndex_of h0 h5] at h1;exact Option.some.inj h1
  exact item_listR pl.isList h0 (by omega) (by rw[hj];simpa using ew) fin hs
 .have hj:(i+(its.toArray.size:Int)).toNat=j:=by
   rw[seqIndex_neg (by omega) h4] at h1
   rw[List.size_toArray,<-hl];exact Option.some.inj h1
  exact subscriptTail_builtinR (x:=w) pl.isList.typeIs slot_list_getitem.lookup
   (wpAny_getItem_list_neg (Q:=fun r s'=>r=w/\EP X pins σ Q r s') pl.isList (by omega) (by rw[List.size_toArray] <;> omega) (by omega) (by rw[hj];simpa using ew) ⟨rfl,fin⟩) hs
theorem LU:HS X (Pe X.K):=by
 intro value slice pins s σ H x y v u Q I rx ry h hs;obtain⟨p,xs,i,z,rfl,rfl,hq,he,q⟩:=h;cases rx;obtain⟨t,rfl⟩:=ry;obtain⟨its,r,pl,hz⟩:=I.tuple hq;obtain⟨j,h1,h2,h3,h4,h5⟩:=wM he;obtain⟨w,ew,xW⟩:=r.get h2;have hl:=r.length;have hn:=q_;have fin:EP X pins σ Q w s:=⟨z,H,I,xW,q⟩;exact subscriptTail_builtinR (x:=w) pl.typeIs slot_tuple_getitem.lookup
  (getItem_tuple (j:=j) (Q:=fun r s'=>r=w/\EP X pins σ Q r s') pl (by omega) (by omega) (by rw[List.size_toArray,<-hl];exact h1) (by simpa using ew) ⟨rfl,fin⟩) hs
theorem KO:HS X Po:=by
 intro value slice pins s σ H x y v u Q I rx ry h hs;obtain⟨z,i,c,rfl,rfl,hz,he,q⟩:=h;obtain⟨t,rfl⟩:=rx;obtain⟨t',rfl⟩:=ry;obtain⟨j,h1,h2,h3,h4,h5⟩:=wM he;have hl:z.cps.toList.length=z.length:=by simp [Str.length]
 rw[hl] at h1 h4 h5;have hn:=q_;exact tail_any (typeIs_str s z t) slot_str_getitem.lookup (getItem_str (c:=c) (by
  have e1:decide (i < -(2 ^ 63:Int))=false:=decide_eq_false (by omega)
  have e2:decide (i>=2 ^ 63)=false:=decide_eq_false (by omega)
  rw[e1,e2,Bool.or_false]) (by rw[h1];simpa using h2) ⟨.str ⟨#[c]⟩,H,I.tok _,⟨_,rfl⟩,q⟩) hs
def VA(K:W.Frag):R2:=fun x y H Q=>PR K x y H Q\/Pe K x y H Q\/Po x y H Q
theorem KY:HS X (VA X.K):=I_.or (LU.or KO)
def VH:V->V->V->Hp->(Hp->Prop)->Prop:=fun o i v H Q=>∃p xs k j,o= .ref p/\i= .int k/\H p=some (.lst xs)/\DY xs.length k=some j/\Q (upd H p (.lst (xs.set j v)))
theorem wK(lo hi:Option Int)(n:Nat):(sliceBounds lo hi none n).1=((HT.sM n 0 lo:Nat):Int)/\(sliceBounds lo hi none n).2.1=((HT.sM n n hi:Nat):Int)/\(sliceBounds lo hi none n).2.2=1:=by
 refine⟨?_,?_,rfl⟩
 .cases lo with
  | none=>simp [sliceBounds,HT.sM]
  | some i=>
    simp only[sliceBounds,HT.sM,Option.getD_none,show(1:Int) > 0 by decide,if_true]
    by_cases h:i < 0
    .simp only[h,if_true] <;> omega
    .simp only[h,if_false] <;> omega
 .cases hi with
  | none=>simp [sliceBounds,HT.sM]
  | some i=>
    simp only[sliceBounds,HT.sM,Option.getD_none,show(1:Int) > 0 by decide,if_true]
    by_cases h:i < 0
    .simp only[h,if_true] <;> omega
    .simp only[h,if_false] <;> omega
theorem uQ(its:List Value)(lo hi:Option Int):slicePick its.toArray lo hi none=((its.drop (HT.sM its.length 0 lo)).take (HT.sM its.length its.length hi - HT.sM its.length 0 lo)).toArray:=by
 obtain⟨h1,h2,h3⟩:=wK lo hi its.toArray.size;unfold slicePick;rw[h1,h2,h3];simp only[sliceRange_one,pick_run,List.size_toArray] <;> rfl
def SX(K:W.Frag):V->Option Int->Option Int->Hp->VK->Prop:=fun x lo hi H Q=>∃a xs,x= .ref a/\nL K H a xs/\∀p,H p=none->Q (.ref p) (upd H p (.lst (zN xs lo hi)))
theorem JJ:K1 X (SX X.K):=by
 intro pins s σ H x v vl vu lo hi sl Q I rx hs pl pu h;obtain⟨a,xs,rfl,hx,q⟩:=h;cases rx;obtain⟨its,r,ht,hz⟩:=I.list hx;have hlen:=r.length;refine⟨"list",_,slot_list_getitem.lookup,ht.isList.typeIs,?_⟩;refine wpAny_getItem_list_slice ht.isList hs pl pu .none (by simp) ?_ (by rw[List.size_toArray] <;> omega)
 rw[uQ,<-hlen];refine⟨.ref s.heap.objs.size,_,I.laid (t':=s.toks) (o:= .lst (zN xs lo hi)) (fun b ob q=>Heap.get?_push_of_some _ q) (Nat.le_refl _) ?_,rfl,q _ (I.hok.fresh (Nat.le_refl _))⟩
 exact⟨Nat.le_trans (ze xs lo hi) hz,_,0,(r.drop (HT.sM xs.length 0 lo)).take (HT.sM xs.length xs.length hi - HT.sM xs.length 0 lo),Heap.get?_push_size _ rfl⟩
def lr:V->Bool
 | .cN=>true
 | .bl _=>true
 | .int _=>true
 | .str _=>true
 | _=>false
def G7:V->V->Bool
 | .cN, .cN=>true
 | .bl a, .bl b=>a==b
 | .bl a, .int b=>(if a then 1 else 0)==b
 | .int a, .bl b=>a==(if b then 1 else 0)
 | .int a, .int b=>a==b
 | .str a, .str b=>a==b
 | _,_=>false
theorem Mi{s:Shared}{y x:V}{u v:Value}(ry:RelV y u)(rx:RelV x v)(fy:lr y=true)(fx:lr x=true):SeqAt.EqAt A s u v (G7 y x):=by
 cases y with
 | cN=>
   cases ry;cases x with
   | cN=>cases rx;exact SeqAt.EqAt.same _
   | bl b=>cases rx;exact SeqAt.EqAt.none_bool b
   | int b=>obtain⟨t,rfl⟩:=rx;exact SeqAt.EqAt.none_int b t
   | str b=>obtain⟨t,rfl⟩:=rx;exact SeqAt.EqAt.none_str b t
   | _=>exact absurd (show false=true from fx) Bool.false_ne_true
 | bl a=>
   cases ry;cases x with
   | cN=>cases rx;exact SeqAt.EqAt.bool_none a
   | bl b=>cases rx;exact SeqAt.EqAt.bool_bool a b
   | int b=>obtain⟨t,rfl⟩:=rx;exact SeqAt.EqAt.bool_int a b t
   | str b=>obtain⟨t,rfl⟩:=rx;exact SeqAt.EqAt.bool_str a b t
   | _=>exact absurd (show false=true from fx) Bool.false_ne_true
 | int a=>
   obtain⟨t',rfl⟩:=ry;cases x with
   | cN=>cases rx;exact SeqAt.EqAt.int_none a t'
   | bl b=>cases rx;exact SeqAt.EqAt.int_bool a t' b
   | int b=>obtain⟨t,rfl⟩:=rx;exact SeqAt.EqAt.int_int a t' b t
   | str b=>obtain⟨t,rfl⟩:=rx;exact SeqAt.EqAt.int_str a t' b t
   | _=>exact absurd (show false=true from fx) Bool.false_ne_true
 | str a=>
   obtain⟨t',rfl⟩:=ry;cases x with
   | cN=>cases rx;exact SeqAt.EqAt.str_none a t'
   | bl b=>cases rx;exact SeqAt.EqAt.str_bool a t' b
   | int b=>obtain⟨t,rfl⟩:=rx;exact SeqAt.EqAt.str_int a t' b t
   | str b=>obtain⟨t,rfl⟩:=rx;exact SeqAt.EqAt.str_str a t' b t
   | _=>exact absurd (show false=true from fx) Bool.false_ne_true
 | _=>exact absurd (show false=true from fy) Bool.false_ne_true
def xU(x:V)(u:Value):Bool:=match u with
 | .none=>G7 .cN x
 | .bool b=>G7 (.bl b) x
 | .int i _=>G7 (.int i) x
 | .str z _=>G7 (.str z) x
 | _=>false
theorem Ab{x y:V}{u:Value}(r:RelV y u)(f:lr y=true):xU x u=G7 y x:=by
 cases y with
 | cN=>cases r;rfl
 | bl b=>cases r;rfl
 | int i=>obtain⟨t,rfl⟩:=r;rfl
 | str z=>obtain⟨t,rfl⟩:=r;rfl
 | _=>exact absurd (show false=true from f) Bool.false_ne_true
theorem qA{x:V}:∀{xs:List V} {us:List Value},Vals xs us->xs.all lr=true->us.any (xU x)=xs.any fun y=>G7 y x
 | _,_, .nil,_=>rfl
 | y ::xs,u ::us, .cons r t,f=>by
   rw[List.all_cons,Bool.and_eq_true] at f;rw[List.any_cons,List.any_cons,Ab r f.1,qA t f.2]
theorem l5{s:Shared}{x:V}{v:Value}(rx:RelV x v)(fx:lr x=true):∀{xs:List V} {us:List Value},Vals xs us->xs.all lr=true->∀u∈us,SeqAt.EqAt A s u v (xU x u)
 | _,_, .nil,_=>fun u hu=>by cases hu
 | y ::xs,u ::us, .cons r t,f=>fun u' hu=>by
   rw[List.all_cons,Bool.and_eq_true] at f;rcases List.mem_cons.mp hu with rfl | hu
   .rw [Ab r f.1];exact Mi r rx f.1 fx
   .exact l5 rx fx t f.2 u' hu
def Ke(x:V)(xs:List V):Bool:=xs.any fun y=>G7 y x
def RM(K:W.Frag)(neg:Bool):R2:=fun x y H Q=>∃p xs,y= .ref p/\(nL K H p xs\/rC K H p xs)/\lr x=true/\xs.all lr=true/\Q (.bl (if neg then !Ke x xs else Ke x xs)) H
theorem De:o5 X (compareOp .In) (RM X.K false):=by
 intro pins s σ H x y v u Q I rx ry h;obtain⟨p,xs,rfl,hq,fx,fs,q⟩:=h;cases ry;rcases hq with hq | hq
 .obtain⟨its,r,pl,hz⟩:=I.list hq;refine SeqAt.in_listAt (xU x) pl.isList (fun w hw=>l5 rx fx r fs w (by simpa using hw)) ⟨.bl _,H,I,rfl,?_⟩
  rw[show its.toArray.any (xU x)=its.any (xU x) by simp,qA r fs]
  exact q
 .obtain⟨its,r,pl,hz⟩:=I.tuple hq;refine SeqAt.in_tupleAt (xU x) pl (fun w hw=>l5 rx fx r fs w (by simpa using hw)) ⟨.bl _,H,I,rfl,?_⟩
  rw[show its.toArray.any (xU x)=its.any (xU x) by simp,qA r fs]
  exact q
theorem xw:o5 X (compareOp .NotIn) (RM X.K true):=by
 intro pins s σ H x y v u Q I rx ry h;obtain⟨p,xs,rfl,hq,fx,fs,q⟩:=h;cases ry;rcases hq with hq | hq
 .obtain⟨its,r,pl,hz⟩:=I.list hq;refine SeqAt.notIn_listAt (xU x) pl.isList (fun w hw=>l5 rx fx r fs w (by simpa using hw)) ⟨.bl _,H,I,rfl,?_⟩
  rw[show its.toArray.any (xU x)=its.any (xU x) by simp,qA r fs]
  exact q
 .obtain⟨its,r,pl,hz⟩:=I.tuple hq;refine SeqAt.notIn_tupleAt (xU x) pl (fun w hw=>l5 rx fx r fs w (by simpa using hw)) ⟨.bl _,H,I,rfl,?_⟩
  rw[show its.toArray.any (xU x)=its.any (xU x) by simp,qA r fs]
  exact q
theorem wC:kx X (.builtin "len") (fun xs H Q=>∃p ys,xs=[.ref p]/\(nL X.K H p ys\/rC X.K H p ys)/\Q (.int ys.length) H):=by
 intro pins s σ H xs us Q I r h;obtain⟨p,ys,rfl,hq,q⟩:=h;obtain⟨u,rfl,rx⟩:=vals1 r;cases rx;have hn:=q_;rcases hq with hq | hq
 .obtain⟨its,r',pl,hz⟩:=I.list hq;have hlen:=r'.length;exact Calls.call_len_list pl.isList (by simp only[List.size_toArray] <;> omega) ⟨.int ys.length,H,I.tok _,⟨s.toks+1,by rw[List.size_toArray,hlen]⟩,q⟩
 .obtain⟨its,r',pl,hz⟩:=I.tuple hq;have hlen:=r'.length;exact len_tuple pl (by simp only[List.size_toArray] <;> omega) ⟨.int ys.length,H,I.tok _,⟨s.toks+1,by rw[List.size_toArray,hlen]⟩,q⟩
theorem u6:kx X (.type "tuple") (fun xs H Q=>∃p ys,xs=[.ref p]/\((nL X.K H p ys/\∀l,H l=none->Q (.ref l) (upd H l (.tup ys)))\/(rC X.K H p ys/\Q (.ref p) H))):=by
 intro pins s σ H xs us Q I r h;obtain⟨p,ys,rfl,h⟩:=h;obtain⟨u,rfl,rx⟩:=vals1 r;cases rx;rcases h with⟨hq,q⟩ | ⟨hq,q⟩
 .obtain⟨its,r',pl,hz⟩:=I.list hq;have hlen:=r'.length;refine call_tuple_list pl.isList (fun h' kp=>?_) (by simp only[List.size_toArray] <;> omega)
  have I1:Inv X pins σ H {s with heap:=h'}:=I.kept (t':=s.toks) kp
  have I2:Inv X pins σ (upd H h'.objs.size (.tup ys)) {s with heap:=h'.push {cls:= .type "tuple",data:= .seq its.toArray}}:=
   I1.laid (t':=s.toks) (fun b o e=>Heap.get?_push_of_some _ e) (Nat.le_refl _) (show d3 X.prog X.w _ _ _ (.tup ys) from⟨hz,its,r',IsTup.new _ _⟩)
  exact⟨.ref h'.objs.size,_,I2,rfl,q _ (I1.hok.fresh (Nat.le_refl _))⟩
 .obtain⟨its,r',pl,hz⟩:=I.tuple hq;exact call_tuple_same pl ⟨.ref p,H,I,rfl,q⟩
def Su(K:W.Frag)(T:String)(x:V)(H:Hp):Prop:=match x with
 | .str _=>T="str"
 | .int _=>T="int"
 | .ref p=>(T="list"/\∃xs,nL K H p xs)\/(T="tuple"/\∃o,K.lookup p=some o/\o.cls= .type "tuple"/\o.dict=none)\/
    (T="dict"/\((∃aC,H p=some (.dK aC))\/∃aC,H p=some (.dT aC)))\/(T="set"/\∃S n,H p=some (.set S n))
 | _=>False
theorem MJ{pins:Aaa}{s:Shared}{T:String}{x:V}{v:Value}(I:Inv X pins σ H s)(r:RelV x v)(ty:Su X.K T x H) :
 s.TypeIs v T/\∀a,v= .ref a->∃ob,s.heap.get? a=some ob/\ob.dict=none:=by
 cases x with
 | str z=>
   obtain⟨t,rfl⟩:=r;cases(show T="str" from ty)
   exact⟨typeIs_str s z t,fun _ e=>nomatch e⟩
 | int i=>
   obtain⟨t,rfl⟩:=r;cases(show T="int" from ty)
   exact⟨typeIs_int s i t,fun _ e=>nomatch e⟩
 | ref p=>
   cases r;rcases ty with⟨rfl,xs,hq⟩ | ⟨rfl,o,hk,hc,hd⟩ | ⟨rfl,hk⟩ | ⟨rfl,S,n,hk⟩
   .obtain⟨its,_,pl,_⟩:=I.list hq;refine⟨pl.isList.typeIs,fun a e=>?_⟩
    cases e;obtain⟨o,n,e,c,hd,_⟩:=pl;exact⟨o,e,hd⟩
   .refine⟨⟨o,I.vE p o hk,hc⟩,fun a e=>?_⟩
    cases e;exact⟨o,I.vE _ o hk,hd⟩
   .have z:∃o,s.heap.get? p=some o/\o.ExactDict:=by
     rcases hk with⟨aC,hk⟩ | ⟨aC,hk⟩
     .obtain⟨_,_,_,_,o,_,_,e,ex,_⟩:=I.hok p _ hk;exact⟨o,e,ex⟩
     .obtain⟨_,_,_,_,o,_,_,e,ex,_⟩:=I.hok p _ hk;exact⟨o,e,ex⟩
    obtain⟨o,e,ex⟩:=z;refine⟨⟨o,e,ex.1⟩,fun a e2=>?_⟩
    cases e2;exact⟨o,e,ex.2.1⟩
   .obtain⟨o,_,_,_,e,ex,_⟩:=I.hok p _ hk;refine⟨⟨o,e,ex.1⟩,fun a e2=>?_⟩
    cases e2;exact⟨o,e,ex.2.1⟩
 | _=>exact False.elim ty
def X0(K:W.Frag)(T:String)(r:V->List V->Hp->VK->Prop)(to:TE):TE:=fun σ H Q=>to σ H fun x H1=>Su K T x H1/\r x [] H1 Q
def YN(K:W.Frag)(T:String)(r:V->List V->Hp->VK->Prop)(to:TE)(t:TA):TE:=fun σ H Q=>to σ H fun x H1=>Su K T x H1/\t σ H1 fun xs H2=>r x xs H2 Q
variable {o e:Expr} {es:List Expr} {to:TE} {t:TA} {name:Str} {apos bj:Pos} {T id:String} {r:V->List V->Hp->VK->Prop}
theorem y8(pa:PlainAttrs T)(slot:Slot T name id)(Hk:typeOf (.builtin id)=pure (.type "method_descriptor"))(hm:VO X id r)(ho:PE X o to)(ha:PA X (e ::es) t)
 (eJ:attributeBase o name X.env (eval o X.env)=eval o X.env:=by rfl)
 (kG:((backTo bj (starEach (e ::es) X.env)).all (fun x=>!x.1) && (backToKw bj (keywordEach [] X.env)).all (fun x=>x.1.isSome)
   && decide ((e ::es).length+([]:List Keyword).length+(if([]:List Keyword).isEmpty then 0 else 1) < 30))=true:=by rfl)
 (eI:(apos.endLine==bj.line)=true:=by rfl) (hs:starEach (e ::es) X.env=(false,eval e X.env) ::starEach es X.env:=by rfl) (AD:(backTo bj (starEach es X.env)).any (·.1)=false:=by rfl) :
 PE X (.Call (.Attribute o name apos) (e ::es) [] bj) (YN X.K T r to t):=by
 intro pins s σ H Q I h;refine wpAny_Call_method_late eJ kG eI rfl (cU (ho pins s σ H _ I h) fun v s1 ⟨x,H1,I1,r1,ty,q1⟩=>?_)
 obtain⟨h1,h2⟩:=MJ I1 r1 ty;refine⟨T,id,pa,slot,Hk,h1,h2,?_⟩;have hA:=ha bj pins s1 σ H1 _ I1 q1;rw[hs] at hA ⊢;refine Calls.callWith_builtin (by show(false || (backTo bj (starEach es X.env)).any (·.1))=false;rw [AD] <;> rfl) (Calls.evalArgs_plain ?_)
 exact cU hA fun us s2 ⟨vs,H2,I2,r2,q2⟩=>hm pins s2 σ H2 x vs v us Q I2 r1 r2 q2
end
def X6(X:Cx)(id:String)(r:V->List V->Hp->VK->Prop):Prop:=
 ∀(pins:Aaa) (s:Shared) (σ:St) (H:Hp) (x:V) (xs:List V) (v:Value) (us:List Value) (Q:VK),Inv X pins σ H s->RelV x v->Vals xs us->r x xs H Q->
  wpAny (model X.prog X.w) X.A (call (.builtin id) (v ::us)) (EP X pins σ Q) X.xe s
theorem Vals.one:∀{x:V} {us:List Value},Vals [x] us->∃u,us=[u]/\RelV x u
 | _,_, .cons r .nil=>⟨_,rfl,r⟩
theorem Vals.rep{xs:List V}{us:List Value}(h:Vals xs us):∀k:Nat,Vals (List.replicate k xs).flatten (List.replicate k us).flatten
 | 0=> .nil
 | k+1=>by
   rw[List.replicate_succ,List.replicate_succ,List.flatten_cons,List.flatten_cons];exact Vals.append h (Vals.rep h k)
theorem foldl_rep(its:List Value):∀(k:Nat) (acc:List Value),
 List.foldl (fun x1 x2=>x1++x2) acc.toArray (List.replicate k its.toArray)=(acc++(List.replicate k its).flatten).toArray
 | 0,acc=>by simp
 | k+1,acc=>by
   have e:acc.toArray++its.toArray=(acc++its).toArray:=by simp
   have e2:(acc++its)++(List.replicate k its).flatten=acc++(List.replicate (k+1) its).flatten:=by
    rw[List.replicate_succ,List.flatten_cons,List.append_assoc]
   rw[<-e2,<-foldl_rep its k (acc++its),<-e,List.replicate_succ,List.foldl_cons]
section
variable {X:Cx} {pins:Aaa} {σ:St} {H:Hp} {s:Shared} {l b:Addr} {xs ys zs:List V}
theorem Inv.Sj{its its':List Value}{n:Nat}{f:Array Value->Array Value}{t':Nat}(I:Inv X pins σ H s)(hH:H l=some (.lst xs))
 (e:s.heap.get? l=some {cls:= .type "list",data:= .seq its.toArray n}) (hf:f its.toArray=its'.toArray) (hv:Vals ys its') (hz:ys.length<=sizeLine) :
 Inv X pins σ (upd H l (.lst ys)) {s with heap:=s.heap.update l (Obj.mapSeq f),toks:=t'}:=by
 have q:=PySem.IsL.update e f;rw[hf] at q;refine I.write (x:=l) (e:=l) (by rw[hH];exact trivial) (.inl rfl) (fun b' u hb hu=>(Heap.get?_update_other s.heap (Obj.mapSeq f) (Ne.symm hb)).trans hu) ⟨_,q⟩ ?_
 exact⟨hz,its',_,hv,q⟩
theorem Inv.Lr{its:List Value}{t':Nat}(I:Inv X pins σ H s)(hv:Vals ys its)(hz:ys.length<=sizeLine) :
 Inv X pins σ (upd H s.heap.objs.size (.lst ys)) {s with heap:=s.heap.push {cls:= .type "list",data:= .seq its.toArray},toks:=t'}:=
 I.laid (fun _ _ q=>Heap.get?_push_of_some _ q) (Nat.le_refl _) ⟨hz,its,0,hv,Heap.get?_push_size _ rfl⟩
theorem Inv.fresh(I:Inv X pins σ H s):H s.heap.objs.size=none:=I.hok.fresh (Nat.le_refl _)
theorem Inv.Ta(I:Inv X pins σ H s)(hH:H l=some (.lst xs)):xs.length<=sizeLine/\∃(its:List Value) (n:Nat),Vals xs its/\xs.length=its.length/\s.heap.get? l=some {cls:= .type "list",data:= .seq its.toArray n}:=by
 obtain⟨z,its,n,r,e⟩:=I.hok l _ hH;exact⟨z,its,n,r,r.length,e⟩
theorem Ei{n:Nat}(h:n<=sizeLine):Builtin.List.listTooLong n=false:=by
 unfold Builtin.List.listTooLong;exact decide_eq_false (by omega)
end
section
variable {X:Cx}
def Jv:V->List V->Hp->VK->Prop:=fun x vs H Q=>∃l xs y,x= .ref l/\vs=[y]/\H l=some (.lst xs)/\xs.length < sizeLine/\Q .cN (upd H l (.lst (xs++[y])))
theorem l9:X6 X "list.append" Jv:=by
 intro pins s σ H x vs v us Q I rx rv h;obtain⟨l,xs,y,rfl,rfl,hH,hz,q⟩:=h;cases rx;obtain⟨u,rfl,ru⟩:=rv.one;obtain⟨z,its,n,r,hl,e⟩:=I.Ta hH;refine call_meets F.slot_list_append ⟨_,e,rfl⟩ F.entry_list_append (F.args_list_append_2 _ _) (PySem.list_append l its.toArray n u (by rw[List.size_toArray];omega)) ⟨e,?_⟩
 refine⟨.cN,_,I.Sj (its':=its++[u]) hH e (by simp) (r.append (.cons ru .nil)) ?_,rfl,q⟩
 rw[List.length_append,List.length_singleton];omega
def QS:V->List V->Hp->VK->Prop:=fun x vs H Q=>∃l b xs zs,x= .ref l/\vs=[.ref b]/\H l=some (.lst xs)/\H b=some (.lst zs)/\xs.length+zs.length<=sizeLine/\Q .cN (upd H l (.lst (xs++zs)))
def Zi:V->List V->Hp->VK->Prop:=fun x vs H Q=>∃l xs y,x= .ref l/\vs=[]/\H l=some (.lst xs)/\xs[xs.length - 1]? =some y/\Q y (upd H l (.lst xs.dropLast))
def Tv:V->List V->Hp->VK->Prop:=fun x vs H Q=>∃l xs i k y,x= .ref l/\vs=[.int i]/\H l=some (.lst xs)/\ -(2 ^ 63)<=i/\i < 2 ^ 63/\seqIndex? i xs.length=some k/\xs[k]? =some y/\Q y (upd H l (.lst (xs.eraseIdx k)))
def Pg:V->List V->Hp->VK->Prop:=fun x vs H Q=>∃l xs,x= .ref l/\vs=[]/\H l=some (.lst xs)/\Q .cN (upd H l (.lst xs.reverse))
def SY:V->List V->Hp->VK->Prop:=fun x vs H Q=>∃l xs,x= .ref l/\vs=[]/\H l=some (.lst xs)/\Q .cN (upd H l (.lst []))
def Y6:R2:=fun x y H Q=>∃l b xs zs,x= .ref l/\y= .ref b/\H l=some (.lst xs)/\H b=some (.lst zs)/\xs.length+zs.length<=sizeLine/\∀p,H p=none->Q (.ref p) (upd H p (.lst (xs++zs)))
def YX:R2:=fun x y H Q=>∃l k xs,x= .ref l/\y= .int k/\H l=some (.lst xs)/\ -(2 ^ 63)<=k/\k < 2 ^ 63/\xs.length*k.toNat<=sizeLine/\
 ∀p,H p=none->Q (.ref p) (upd H p (.lst (List.replicate k.toNat xs).flatten))
theorem len_rep{α:Type}(xs:List α)(k:Nat):(List.replicate k xs).flatten.length=k*xs.length:=by
 induction k with
 | zero=>simp
 | succ k ih=>rw [List.replicate_succ,List.flatten_cons,List.length_append,ih,Nat.succ_mul,Nat.add_comm]
end
section
variable {prog:Program} {w:World} {A:Around} {E:Aab} {s:Shared}
set_option maxRecDepth 100000 in
end
section
variable {X:Cx}
end
end L2
namespace Att
open PySem PySem.W PySem.Calls PyProof.Rows
theorem sj{P:Params}:∀(ns:List Int) (vs:List Value),WellAll P h vs (ns.map WData.int)->IntsAre vs ns:=by
 intro ns
 induction ns with
 | nil=>
   intro vs w;rw[List.map_nil] at w;cases w;exact .nil
 | cons n ns ih=>
   intro vs w;rw[List.map_cons] at w;cases w with
   | cons a b=>
     cases a;exact .cons _ _ (ih _ b)
theorem B5{l:OpenLaw}{n:Nat}(hn:l.most=some n){P:Params}{h:Heap}{args:List WData}{vals:List Value}
 (JL:l.row.toRowW.claim.pre args=true) (Qi:WellAll P h vals args) :
 ∃a vs ns,vals=[Value.ref a]/\args=[WData.list (ns.map WData.int)]/\h.get? a=some {cls:= .type "list",data:= .seq vs.toArray}/\IntsAre vs ns/\ns.length<=n:=by
 have hsh:WShape.hasAll [] args [.list .int]=true:=(pre_splitW JL).1;have hc:l.pre.holds [] {args:=args}=true:=(pre_splitW JL).2;obtain⟨d,r,rfl,h1,h2⟩:=hasAllW_cons hsh;obtain rfl:=hasAllW_nil h2;obtain⟨xs,rfl,h3⟩:=hasW_list h1;obtain⟨ns,rfl⟩:=items_int h3;have hlen:ns.length<=n:=by
  unfold OpenLaw.pre at hc;have h4:(WTm.not (.lt (.lit (.int (n:Int))) (.len (.arg 0)))).holds [] {args:=[.list (ns.map .int)]}=true:=by
   have h4:=(holds_andW hc).1;rw[hn] at h4;exact h4
  have h5:=condW_of h4 (w_not (w_lt w_lit (w_len_list (w_arg rfl))));rw[List.length_map] at h5;refine Nat.le_of_not_lt fun q=>?_
  have q':(n:Int) < ((ns.length:Nat):Int):=by omega
  first
   | (rw [decide_eq_true q'] at h5;exact absurd h5 (by decide))
   | (simp at h5;omega)
 cases Qi with
 | cons w1 w2=>
   cases w2;cases w1 with
   | list ho zg=>exact⟨_,_,ns,rfl,rfl,ho,sj ns _ zg,hlen⟩
theorem CJ(l:OpenLaw)(args:List WData):l.row.toRowW.claim.post args (.bool true) args=true:=
 postW_of (r:=l.row.toRowW) (X:=(true==true))
  (show WShape.has [] (.bool true) .bool=true by first | rfl | decide | simp [WShape.has,WShape.arms,WShape.armsAll])
  (show(WTm.eq .res (.lit (.bool true))).value [] {args:=args,res:=some (.bool true),after:=args}=some (.bool (true==true)) from w_eq_bool (w_res rfl) w_lit) rfl
theorem yK{l:OpenLaw}{n:Nat}{q:Program}{loose:List Str}{XP:(Str->Option Value)->Heap->Prop}{YP:World->Heap->Prop}{d:DefRec}
 (hn:l.most=some n) (T5:d.params.defaults=[])
 (call:∀(w:World) (s₀ s₁:Shared) (mg mb:Aaf) (fa:Addr) (o:Obj) (pm cd doc:Value) (a:Addr) (vs:List Value) (ns:List Int),
   Ground q loose [] XP w s₀ mg mb s₁.heap->YP w s₁.heap->
   s₁.heap.get? fa=some o->o.data= .func (docDef d.name d.params d.body d.scope pm cd doc)->s₁.heap.CodeRec cd d.name->mg d.name=some (.ref fa)->
   s₁.heap.get? a=some {cls:= .type "list",data:= .seq vs.toArray}->IntsAre vs ns->ns.length<=n->s₁.gens=#[]->
   codeAny (model l.prog w) callerA (.call (.ref fa) ⟨[.ref a],[]⟩) (fun r s'=>r= .ok (.ret (.bool true))/\OldK s₁.heap s'.heap/\s'.os=s₁.os/\AllBare s'.gens) s₁) :
 WalkO q loose XP YP l.row.toRowW d [] (fun f vs=>PySem.call f vs):=by
 intro w s₀ s₁ mg mb G Y fa o pm cd doc dV kV ho hd uJ hD Ql hg args vals as JL hlay WU Qi hlo;obtain rfl:dV= .none:=Dflts.none hD T5;obtain rfl:kV= .none:=Dflts.noKw hD;obtain⟨a,vs,ns,rfl,rfl,Nq,hints,hlen⟩:=B5 hn JL Qi;refine enter_call (codeAny_mono (call w s₀ s₁ mg mb fa o pm cd doc a vs ns G Y ho (fd_plain hd) uJ Ql Nq hints hlen hg) fun r s' hq=>?_)
 obtain⟨rfl,h2,h3,h4⟩:=hq;exact⟨.inl ⟨.bool true, .bool true,[],rfl,fun _=>rfl, .bool true,CJ l _,fun _=>⟨List.Pairwise.nil,fun _ hm=>(nomatch hm)⟩⟩,h2,h3,h4⟩
section
variable {prog:Program} {w:World} {A:Around} {E:Aab} {s:Shared} {K:Frag}
def Ru(h:Heap):Heap:={h with objs:=#[]}
def ledger(h:Heap)(L d:Addr):Aaa:=(List.range h.objs.size).filterMap fun a=>if a=L\/a=d then none else(h.get? a).map fun o=>(a,o)
end
end Att
namespace L2
open PySem PySem.Spec PyProof.Rows
theorem vV:∀{vs:List Value} {ns:List Int},IntsAre vs ns->Vals (ns.map V.int) vs
 | _,_, .nil=> .nil
 | _,_, .cons n t h=> .cons ⟨t,rfl⟩ (vV h)
def P4(H:Hp):Prop:=∀b,H b=none\/∃o xs,H b=some (.ik o (.lst xs))
abbrev fF{K:W.Frag}{h:Heap}(_:K.In h):W.Frag:=K
def inClass(s:Stmt)(j:Nat):Stmt:=match s with
 | .ClassDef _ _ _ body _ _ _ _ _ _ _=>body.getD j (.Pass ⟨0,0,0,0⟩)
 | _=> .Pass ⟨0,0,0,0⟩
def jf(s:Stmt):Arguments:=match s with
 | .FunctionDef _ a _ _ _ _ _ _ _ _=>a
 | _=>{posonlyargs:=[],args:=[],vararg:=none,kwonlyargs:=[],kw_defaults:=[],kwarg:=none,defaults:=[]}
def a9(s:Stmt):List Stmt:=match s with
 | .FunctionDef _ _ b _ _ _ _ _ _ _=>b
 | _=>[]
def aJ(s:Stmt):Scope:=match s with
 | .FunctionDef _ _ _ _ _ _ sc _ _ _=>sc
 | _=>{kind:= .function,names:=[],isGenerator:=false,isCoroutine:=false}
abbrev vT:DH:=fun _ _ _ _ _ _=>False
abbrev E0:XK:=fun _ _ _=>False
theorem Fx{X:Cx}:Passes vT X E0:=fun _ _ _ _ _ _ _ h=>h.elim
structure z0 (K:W.Frag) (x qual:Str) (st:Stmt) (f:Addr) (fd:FuncData):Prop where
 ex:∃(oc:Value) (od:Option Addr) (kV doc pm:Value) (an:Option Addr) (dJ ct:Value) (GX:Array (Option Value)),
  fd=PySem.W.fnOf x qual (jf st) (a9 st) (aJ st) .none kV doc pm an dJ ct/\K.lookup f=some ⟨oc,od, .func fd,GX⟩/\PySem.W.codeIn K dJ qual=true
 kp:PySem.W.keepIn K (.ref f)=true
section
variable {P:Program} {w:World} {K:W.Frag} {mg:Aaf} {base:Heap}
theorem z0.ok{x qual:Str}{st:Stmt}{f:Addr}{fd:FuncData}{N ps:List Str}{k:Nat}{sp:Sp}(F:z0 K x qual st f fd)(S:bC N ps (aJ st))(len:∀vs H Q E,sp vs H Q E->vs.length=ps.length)
 (iz:∀(dJ:Value) (A:Around) (outer:List Env) (s:Shared) (H:Hp) (vs:List V) (Q:VK) (E:XK),dU k (A.deeper (envOfC qual (aJ st) s.heap.objs.size f dJ))->sp vs H Q E->
   ∃t,wX (md vT P w K mg base N qual (aJ st) f dJ A outer s H E).IZ (a9 st) t/\t {nx:=fun _ H'=>Q .cN H',rt:=Q} (start N vs) H):jk P w K mg base vT (k+1) f fd ps sp:=by
 obtain⟨oc,od,kV,doc,pm,an,dJ,ct,GX,rfl,lk,uJ⟩:=F.ex;refine Ks lk uJ S len fun A outer s H vs Q E hr DC=>?_
 obtain⟨t,h,q⟩:=iz dJ A outer s H vs Q E hr DC;exact⟨t,h.IZ,q⟩
theorem z0.binds{x qual:Str}{st:Stmt}{f:Addr}{fd:FuncData}{ps:List Str}(F:z0 K x qual st f fd)
 (h:∀(kV doc pm:Value) (an:Option Addr) (dJ ct:Value) (us:List Value),us.length=ps.length->bindArgs (PySem.W.fnOf x qual (jf st) (a9 st) (aJ st) .none kV doc pm an dJ ct) ⟨us,[]⟩=pure (ps.zip us)):Binds K fd ps []:=by
 obtain⟨oc,od,kV,doc,pm,an,dJ,ct,GX,rfl,lk,uJ⟩:=F.ex;exact .all (h kV doc pm an dJ ct)
theorem q8{x qual:Str}{st:Stmt}{f:Addr}{oc:Value}{od an:Option Addr}{GX:Array (Option Value)}{kV doc pm dJ ct:Value}(l:K.lookup f=some ⟨oc,od, .func (PySem.W.fnOf x qual (jf st) (a9 st) (aJ st) .none kV doc pm an dJ ct),GX⟩)
 (c:PySem.W.codeIn K dJ qual=true) (k:PySem.W.keepIn K (.ref f)=true):z0 K x qual st f (PySem.W.fnOf x qual (jf st) (a9 st) (aJ st) .none kV doc pm an dJ ct):=⟨⟨oc,od,kV,doc,pm,an,dJ,ct,GX,rfl,l,c⟩,k⟩
end
theorem lb{A:Around}{k:Nat}(hr:dU k A):A.units+1 < cLine:=Nat.lt_of_le_of_lt (Nat.add_le_add_left (by decide:1<=64) _) hr.units
section
variable {X:Cx}
theorem CD:kx X (.builtin "len") (fun xs H Q=>∃a aC,xs=[V.ref a]/\H a=some (.dK aC)/\Q (.int aC.length) H):=by
 intro pins s σ H xs us Q I r h;obtain⟨a,aC,rfl,ha,q⟩:=h;obtain⟨u,rfl,ru⟩:=vals1 r;cases ru;exact OW I (.inl ha) fun t s' I'=>⟨.int aC.length,H,I',⟨t,rfl⟩,q⟩
end
theorem Gy{A B:Prop}(h:B):if false=true then A else B:=by
 rw[if_neg Bool.false_ne_true];exact h
theorem Gn{A B:Prop}(h:A):if true=true then A else B:=by
 rw[if_pos rfl];exact h
def aS(H H':Hp):Prop:=∀b o,H b=some o->H' b=some o
theorem aS.refl(H:Hp):aS H H:=fun _ _ h=>h
theorem aS.trans(a:aS H H1)(b:aS H1 H2):aS H H2:=fun c o h=>b c o (a c o h)
theorem aS.free{H H':Hp}(e:aS H H'){l:Addr}(h:H' l=Option.none):H l=Option.none:=by
 cases q:H l with
 | none=>rfl
 | some o=>
   rw[e l o q] at h;cases h
section
variable {κ:Type} [DecidableEq κ]
end
end L2
end
section
namespace L2
open PySem PySem.Spec PyProof.Rows
def o8(cells:List (Str × Addr)):List (Str × NameKind)->List (Str × Addr)->List (Str × Addr)
 | [],acc=>acc
 | (n,k) ::r,acc=>o8 cells r (if k==NameKind.free then(n,(cells.lookup n).getD 0) ::acc else acc)
theorem mH{env:Env}:∀(names:List (Str × NameKind)) (acc:List (Str × Addr)),(∀y∈names,y.2= .free->∃c,env.cells.lookup y.1=some c)->
 (forIn names acc fun(x:Str × NameKind) (cs:List (Str × Addr))=>(match x with
   | (name,kind)=>if kind== .free then do let a <-cellOf env name;pure (ForInStep.yield ((name,a) ::cs)) else pure (ForInStep.yield cs):Sem (ForInStep (List (Str × Addr)))))=pure (o8 env.cells names acc)
 | [],acc,_=>by simp [o8]
 | (n,k) ::r,acc,h=>by
   rw[List.forIn_cons];by_cases hk:k=NameKind.free
   .subst hk;obtain⟨c,hc⟩:=h (n, .free) List.mem_cons_self rfl;have e:cellOf env n=pure c:=by unfold cellOf;rw [hc]
    simp only[beq_self_eq_true,if_true,e,pure_bind,o8,hc,Option.getD_some];exact mH r _ fun y hy=>h y (List.mem_cons_of_mem _ hy)
   .have hb:(k==NameKind.free)=false:=by simpa using hk
    simp only[hb,Bool.false_eq_true,if_false,pure_bind,o8];exact mH r _ fun y hy=>h y (List.mem_cons_of_mem _ hy)
theorem sv{env:Env}{scope:Scope}(h:∀y∈scope.names,y.2= .free->∃c,env.cells.lookup y.1=some c):closureFor scope env=pure (o8 env.cells scope.names []):=by
 unfold closureFor;have:=mH (env:=env) scope.names [] h;simp only[bind_pure];exact this
theorem lB{cells:List (Str × Addr)}:∀(names:List (Str × NameKind)) (acc:List (Str × Addr)) {x:Str} {c:Addr},(o8 cells names acc).lookup x=some c->
 acc.lookup x=some c\/((x,NameKind.free)∈names/\c=(cells.lookup x).getD 0)
 | [],acc,x,c,h=> .inl h
 | (n,k) ::r,acc,x,c,h=>by
   rcases lB r _ h with q | ⟨q1,q2⟩
   .by_cases hk:k=NameKind.free
    .subst hk;simp only[beq_self_eq_true,if_true] at q;cases hx:x==n with
     | true=>
       have e:x=n:=by simpa using hx
       subst e;rw[List.lookup_cons,hx] at q;exact .inr ⟨List.mem_cons_self,(Option.some.inj q).symm⟩
     | false=>
       rw[List.lookup_cons,hx] at q;exact .inl q
    .have hb:(k==NameKind.free)=false:=by simpa using hk
     simp only[hb,Bool.false_eq_true,if_false] at q;exact .inl q
   .exact .inr ⟨List.mem_cons_of_mem _ q1,q2⟩
theorem yi{cells:List (Str × Addr)}:∀(names:List (Str × NameKind)) (acc:List (Str × Addr)) {x:Str},((x,NameKind.free)∈names\/∃c,acc.lookup x=some c)->∃c,(o8 cells names acc).lookup x=some c
 | [],acc,x,h=>by
   rcases h with h | h
   .simp at h
   .exact h
 | (n,k) ::r,acc,x,h=>by
   refine yi r _ ?_;rcases h with h | ⟨c,h⟩
   .rcases List.mem_cons.mp h with e | e
    .cases e;exact .inr ⟨(cells.lookup n).getD 0,by simp [List.lookup_cons]⟩
    .exact .inl e
   .by_cases hk:k=NameKind.free
    .subst hk;simp only[beq_self_eq_true,if_true];cases hx:x==n with
     | true=>exact .inr ⟨(cells.lookup n).getD 0,by rw[List.lookup_cons,hx]⟩
     | false=>exact .inr ⟨c,by rw[List.lookup_cons,hx];exact h⟩
    .have hb:(k==NameKind.free)=false:=by simpa using hk
     simp only[hb,Bool.false_eq_true,if_false];exact .inr ⟨c,h⟩
theorem wU:∀(names:List (Str × NameKind)) (n:Nat) (acc:List (Str × Addr)) {x:Str},(x,NameKind.cell) ∉ names->(cellsFrom n names acc).lookup x=acc.lookup x
 | [],_,_,_,_=>rfl
 | (y,k) ::r,n,acc,x,h=>by
   unfold cellsFrom;split
   .rename_i hk;have hk:k= .cell:=by simpa using hk
    subst hk;rw[wU r _ _ fun z=>h (List.mem_cons_of_mem _ z),List.lookup_cons]
    cases hx:x==y with
    | true=>
      have e:x=y:=by simpa using hx
      subst e;exact absurd List.mem_cons_self h
    | false=>rfl
   .exact wU r _ _ fun z=>h (List.mem_cons_of_mem _ z)
theorem p7:∀(names:List (Str × NameKind)) (n:Nat) (acc:List (Str × Addr)),cellsFrom n names acc=cellsFrom n names []++acc
 | [],_,_=>rfl
 | (y,k) ::r,n,acc=>by
   unfold cellsFrom;split
   .rw [p7 r (n+1) ((y,n) ::acc),p7 r (n+1) [(y,n)],List.append_assoc];rfl
   .exact p7 r n acc
theorem zL{a b:List (Str × Addr)}{c:Addr}(h:(a++b).lookup x=some c):(x,c)∈a\/b.lookup x=some c:=by
 induction a with
 | nil=>exact .inr h
 | cons y r ih=>
   obtain⟨n,v⟩:=y;rw[List.cons_append,List.lookup_cons] at h;cases hx:x==n with
   | true=>
     rw[hx] at h;have e:x=n:=by simpa using hx
     subst e;cases h;exact .inl List.mem_cons_self
   | false=>
     rw[hx] at h;exact(ih h).imp (List.mem_cons_of_mem _) id
theorem oC{a b:List (Str × Addr)}(h:∃c,b.lookup x=some c):∃c,(a++b).lookup x=some c:=by
 induction a with
 | nil=>exact h
 | cons y r ih=>
   rw[List.cons_append,List.lookup_cons];cases x==y.1 with
   | true=>exact⟨_,rfl⟩
   | false=>exact ih
theorem vZ{a b:List (Str × Addr)}{c:Addr}(h:a.lookup x=some c):∃c,(a++b).lookup x=some c:=by
 induction a with
 | nil=>cases h
 | cons y r ih=>
   rw[List.cons_append,List.lookup_cons];rw[List.lookup_cons] at h;cases hx:x==y.1 with
   | true=>exact⟨_,rfl⟩
   | false=>rw [hx] at h;exact ih h
theorem CH{M:Model}{A:Around}{E:Aab}{s:Shared}{scope:Scope}{cl:List (Str × Addr)}{qual:Str}{env:Env}{Q:Env->Shared->Prop}(hQ:∀h',h'.Ns s.heap.objs.size (fun _=>none)->(∀b o,s.heap.get? b=some o->h'.get? b=some o)->CellsOk h' (s.heap.objs.size+1) (cellsFrom (s.heap.objs.size+1) scope.names [])->
 Q (newEnv scope s.heap.objs.size env.globals (cellsFrom (s.heap.objs.size+1) scope.names cl) qual none .none (some env) builtinsNs) {s with heap:=h'}) :
 wpAny M A (newFunctionEnv scope env.globals cl [] qual none .none (some env)) Q E s:=by
 simp only[newFunctionEnv,Option.isSome_some,if_true];refine wpAny_bind (wpAny_alloc ?_);refine wpAny_bind (wpAny_layCells _ (fun name kind cells=>by cases hkc:kind==NameKind.cell <;> simp [hkc]) _ _ _ _ ?_)
 have ok:=cellsFrom_ok scope.names (s.heap.push {cls:= .type "dict",data:= .dict #[]}) (s.heap.objs.size+1) [] ⟨fun _ _ hm=>(nomatch hm),List.Pairwise.nil⟩ (by rw[Heap.size_push];exact Nat.le_refl _)
 rw[Heap.size_push] at ok;rw[show({s with heap:=s.heap.push {cls:= .type "dict",data:= .dict #[]}}:Shared).heap.objs.size=s.heap.objs.size+1 from Heap.size_push ..]
 rw[List.forIn_nil];refine wpAny_bind (wpAny_pure (wpAny_pure ?_));exact hQ _ ((Heap.Ns.new s.heap (.type "dict")).keeps (pushCells_keeps _ _)) (fun b o e=>pushCells_keeps _ _ b o (Heap.get?_push_of_some _ e)) ok
def cb(X:Cx)(scope:Scope)(N':List Str)(fp:List Addr)(s:Shared)(H:Hp):Cx where
 prog:=X.prog
 w:=X.w
 K:=X.K
 mg:=X.mg
 base:=X.base
 A:=X.A
 N:=N'
 s₀:=s
 H₀:=H
 env:=compEnvC scope (cellsFrom (s.heap.objs.size+1) scope.names (o8 X.env.cells scope.names [])) s.heap.objs.size X.env
 outer:=X.stack
 stack:=X.stack
 ex:=fp
 fn:=fun x=>scope.names.lookup x==some .cell
 calm:=X.calm
 pn:=[]
 xe:=fun _ _=>False
structure eU (X:Cx) (scope:Scope) (own:List Str) (kp:List Nat) (kn:List Str):Prop where
 kind:scope.kind= .function
 cel:∀y∈scope.names,y.2= .cell->scope.names.lookup y.1=some .cell
 nd:∀y∈scope.names,y.2= .local->scope.names.lookup y.1=some .local
 free:∀y∈scope.names,y.2= .free->X.env.kindOf y.1=some .cell\/X.env.kindOf y.1=some .free
 frl:∀y∈scope.names,y.2= .free->scope.names.lookup y.1=some .free
 names:kn.length=kp.length
 at_:∀(j i:Nat) (x:Str),kp[j]? =some i->kn[j]? =some x->X.N[i]? =some x
 isfree:∀x∈kn,scope.names.lookup x=some .free
def de(own:List Str)(kp:List Nat)(σ:St):St:=List.replicate own.length none++kp.map fun i=>(σ[i]?).getD none
section
variable {X:Cx} {scope:Scope} {own:List Str} {kp:List Nat} {kn:List Str}
theorem ei{env:Env}:∀{names:List (Str × NameKind)} {x:Str} {k:NameKind},
 (names.map fun(n,k)=>if(k==NameKind.free && env.scope.kind== .function && env.kindOf n==some .cell) then(n,NameKind.cell) else(n,k)).lookup x=some k->
 names.lookup x=some k\/(k= .cell/\names.lookup x=some .free)
 | [],_,_,h=>by simp at h
 | (n,k) ::r,x,k',h=>by
   have ih:=@ei env r x k';have h:List.lookup x ((if(k==NameKind.free && env.scope.kind== .function && env.kindOf n==some .cell)=true then(n,NameKind.cell) else(n,k)) ::_)=some k':=h
   by_cases hc:(k==NameKind.free && env.scope.kind== .function && env.kindOf n==some .cell)=true
   .rw [if_pos hc] at h;have hkf:k= .free:=by
     simp only[Bool.and_eq_true,beq_iff_eq] at hc;exact hc.1.1
    cases hx:x==n with
    | true=>
      rw[List.lookup_cons,hx] at h;cases h;exact .inr ⟨rfl,by rw[List.lookup_cons,hx,hkf]⟩
    | false=>
      rw[List.lookup_cons,hx] at h;rw[List.lookup_cons,hx];exact ih h
   .rw [if_neg hc] at h;cases hx:x==n with
    | true=>
      rw[List.lookup_cons,hx] at h;rw[List.lookup_cons,hx];exact .inl h
    | false=>
      rw[List.lookup_cons,hx] at h;rw[List.lookup_cons,hx];exact ih h
theorem tU{pins:Aaa}{s:Shared}(C:eU X scope own kp kn)(I:Inv X pins σ H s):∀y∈scope.names,y.2= .free->∃c,X.env.cells.lookup y.1=some c:=fun y hy hf=>
 I.ok.has y.1 (C.free y hy hf)
theorem E_{pins:Aaa}{σ:St}{H:Hp}{s:Shared}{fp:List Addr}{qi:Heap}{tk:Nat}(C:eU X scope own kp kn)(I:Inv X pins σ H s)(hf:∀b∈fp,tm X pins H b)(hb:∀b∈fp,b < s.heap.objs.size)
 (hn:qi.Ns s.heap.objs.size (fun _=>none)) (hk:∀b o,s.heap.get? b=some o->qi.get? b=some o) (hC:CellsOk qi (s.heap.objs.size+1) (cellsFrom (s.heap.objs.size+1) scope.names [])):Inv (cb X scope (own++kn) fp s H) [] (de own kp σ) H {s with heap:=qi,toks:=tk}:=by
 have cl:∀x c,(o8 X.env.cells scope.names []).lookup x=some c->X.env.cells.lookup x=some c:=fun x c e=>by
  rcases lB scope.names [] e with q | ⟨q1,q2⟩
  .simp at q
  .obtain⟨c',DU⟩:=tU C I (x, .free) q1 rfl;have DU:X.env.cells.lookup x=some c':=DU;rw[DU] at q2;rw[DU,q2];rfl
 have clA:∀x c,(cellsFrom (s.heap.objs.size+1) scope.names (o8 X.env.cells scope.names [])).lookup x=some c->(x,c)∈cellsFrom (s.heap.objs.size+1) scope.names []\/(o8 X.env.cells scope.names []).lookup x=some c:=fun x c e=>by
  rw[p7] at e;exact zL e
 have old:∀x c,(o8 X.env.cells scope.names []).lookup x=some c->c < s.heap.objs.size:=fun x c e=>by
  obtain⟨v,h⟩:=I.cell x c (cl x c e);exact h.lt
 have new:∀x c,(x,c)∈cellsFrom (s.heap.objs.size+1) scope.names []->s.heap.objs.size<=c:=fun x c e=>Nat.le_of_lt (hC.empty x c e).2
 have clh:∀x,scope.names.lookup x=some .free->∃c,(o8 X.env.cells scope.names []).lookup x=some c:=fun x hx=>yi scope.names [] (.inl (PySem.mem_of_lookup hx))
 refine⟨⟨I.ok.mod,C.kind,I.ok.glob,I.ok.blt,Nat.le_refl _,fun x y c h1 h2=>?inj,fun x hx=>?_,fun x c hn h=>?cab,I.ok.hd,I.ok.frames, .inl rfl,fun b sS=>⟨Nat.ne_of_lt (hb b sS),fun x c e z=>?exf⟩,
  fun b o e=>I.bs b o e,Nat.le_trans I.ok.bsz I.sz,fun b o e sS=>?_,fun b sS hs=>?_,I.stack,I.oO⟩,
  rfl,I.bare,Un.kept hk,⟨_,hn,fun i x v h1 h2 h3=>?_⟩,fun x c e=>?_,I.hok.fresh (Nat.le_refl _),fun x c e=>?frc,fun p hp=>(by cases hp),I.hok.kept hk,?_⟩
 case inj=>
  rcases clA x c h1 with a | a <;> rcases clA y c h2 with b | b
  .exact name_of_addr hC.apart a b
  .exact absurd (Nat.lt_of_lt_of_le (old y c b) (new x c a)) (Nat.lt_irrefl _)
  .exact absurd (Nat.lt_of_lt_of_le (old x c a) (new y c b)) (Nat.lt_irrefl _)
  .exact I.ok.inj x y c (cl x c a) (cl y c b)
 case cab=>
  have hn:(scope.names.lookup x==some .cell)=true:=hn;rcases clA x c h with a | a
  .exact new x c a
  .rcases lB scope.names [] a with q | ⟨q1,q2⟩
   .simp at q
   .have hx:scope.names.lookup x=some .cell:=by simpa using hn
    have h7:scope.names.lookup x=some .free:=C.frl _ q1 rfl;rw[hx] at h7;cases h7
 case exf=>
  rcases clA x c e with a | a
  .subst z;exact absurd (Nat.lt_of_lt_of_le (hb _ sS) (new x _ a)) (Nat.lt_irrefl _)
  .exact(hf b sS).2.2.2.2.1 x c (cl x c a) z
 case frc=>
  rcases clA x c e with a | a
  .exact I.hok.fresh (new x c a)
  .exact I.freeC x c (cl x c a)
 .have hx:(relabel scope X.env).names.lookup x=some .cell\/(relabel scope X.env).names.lookup x=some .free:=hx;show ∃c,(cellsFrom (s.heap.objs.size+1) scope.names (o8 X.env.cells scope.names [])).lookup x=some c;rcases hx with hx | hx
  .rcases ei hx with q | ⟨_,q⟩
   .rw [p7];obtain⟨c,hc⟩:=sY (n:=s.heap.objs.size+1) q;exact vZ hc
   .rw [p7];exact oC (clh x q)
  .rcases ei hx with q | ⟨q,_⟩
   .rw [p7];exact oC (clh x q)
   .cases q
 .rcases(hf b sS).2.2.2.1 with z | z
  .exact I.ok.noex b o e z
  .exact absurd (Nat.lt_of_lt_of_le (Heap.lt_size (I.ok.bs b o e).1) z) (Nat.lt_irrefl _)
 .rcases List.mem_cons.mp (I.zS b hs) with z | z
  .exact(hf b sS).2.1 z
  .exact(hf b sS).2.2.1 z
 .-- a kept name
  have h1:(own++kn)[i]? =some x:=h1;have h2:(de own kp σ)[i]? =some (some v):=h2;unfold de at h2;by_cases hi:i < own.length
  .rw [List.getElem?_append_left (by simpa using hi),List.getElem?_replicate] at h2
   split at h2 <;> cases h2
  .rw [List.getElem?_append_right (by simpa using hi),List.length_replicate,List.getElem?_map] at h2
   rw[List.getElem?_append_right (by simpa using hi)] at h1
   cases e:kp[i - own.length]? with
   | none=>rw [e] at h2;cases h2
   | some j=>
     rw[e] at h2;have h2:(σ[j]?).getD none=some v:=Option.some.inj h2;have hj:X.N[j]? =some x:=C.at_ _ j x e h1;have JQ:σ[j]? =some (some v):=by
      cases q:σ[j]? with
      | none=>rw [q] at h2;cases h2
      | some y=>rw [q] at h2;exact congrArg some h2
     have hfree:scope.names.lookup x=some .free:=C.isfree x (List.mem_of_getElem? h1);have hkind:=C.free (x, .free) (PySem.mem_of_lookup hfree) rfl;obtain⟨m,hm,hl⟩:=I.loc;obtain⟨u,r,l⟩:=hl j x v hj JQ (hkind.elim (fun q=>Or.inr (Or.inl q)) fun q=>Or.inr (Or.inr q))
     refine⟨u,r, .inr ⟨?_,?_⟩⟩
     .have h3:(relabel scope X.env).names.lookup x=some .local\/(relabel scope X.env).names.lookup x=some .cell\/(relabel scope X.env).names.lookup x=some .free:=h3;rcases h3 with q | q | q
      .rcases ei q with z | ⟨z,_⟩
       .rw [hfree] at z;cases z
       .cases z
      .exact .inl q
      .exact .inr q
     .rcases l with⟨k,_⟩ | ⟨_,c,hc,hcell⟩
      .rcases hkind with q | q
       .rw [show X.env.kindOf x=some .cell from q] at k;cases k
       .rw [show X.env.kindOf x=some .free from q] at k;cases k
      .obtain⟨c',DU⟩:=clh x hfree;have:=cl x c' DU;rw[hc] at this;cases this;obtain⟨o,ho,hd⟩:=hcell;exact⟨c,(wU _ _ _ fun z=>by have:=C.cel _ z rfl;rw [hfree] at this;cases this).trans DU,o,hk c o ho,hd⟩
 .rcases clA x c e with a | a
  .exact⟨_,(hC.empty x c a).1⟩
  obtain⟨v,o,ho,hd⟩:=I.cell x c (cl x c a);exact⟨v,o,hk c o ho,hd⟩
 .show(de own kp σ).length=(own++kn).length;unfold de;rw[List.length_append,List.length_replicate,List.length_map,List.length_append,C.names]
theorem yp{pins:Aaa}{s s':Shared}{fp:List Addr}{N':List Str}(I:Inv X pins σ H s)(hf:∀b∈fp,tm X pins H b)(J:Inv (cb X scope N' fp s H) [] cw H' s'):Inv X pins σ H' s':=
 I.Kp (ch:=fp) J.os J.base J.hok J.bare fun b hb=>⟨(hf b hb).2.2.2.1,(hf b hb).2.1,(hf b hb).2.2.2.2.1,(hf b hb).2.2.2.2.2⟩
end
def uU(X:Cx)(ifs:List Expr)(t:TT):Prop:=
 ∀(pins:Aaa) (s:Shared) (σ:St) (H:Hp) (Q:Bool->Hp->Prop),Inv X pins σ H s->t σ H Q->
  wpAny (model X.prog X.w) X.A (forIn ifs true fun c r=>if r=true then do let ok <-isTrue c X.env (eval c X.env);pure (ForInStep.yield ok) else pure (ForInStep.yield r)) (TP X pins σ Q) X.xe s
def RH:TT:=fun _ H Q=>Q true H
theorem xX{X:Cx}:uU X [] RH:=fun _ _ _ H _ I h=>wpAny_tests_nil ⟨H,I,h⟩
theorem Fz{X:Cx}{t:TT}(h:PT X c t):uU X [c] t:=fun pins s σ H Q I hq=>wpAny_tests_one (h pins s σ H Q I hq)
def Eu(wi:TI)(g:TG)(tc:TT)(te:TE)(own:List Str)(kp:List Nat):TE:=fun σ H Q=>wi σ H fun J H1=>∀D,H1 D=none->
 ∃W:Nat->Nat->List V->Hp->Prop,(∃m,W 0 m [] (upd H1 D (.lst [])))/\∀i m ys H,W i m ys H->
  (J.stop i H/\Q (.ref D) H)\/(J.go i H/\∀x H',J.yld i H x H'->g x (de own kp σ) H' fun vj H2=>tc vj H2 fun c H3=>
    if c=true then te vj H3 fun y H4=>H4 D=some (.lst ys)/\ys.length < sizeLine/\∃m',m' < m/\W (i+1) m' (ys++[y]) (upd H4 D (.lst (ys++[y])))
    else ∃m',m' < m/\W (i+1) m' ys H3)
section
variable {X:Cx} {scope:Scope} {own:List Str} {kp:List Nat} {kn:List Str} {tg iter elt:Expr} {ifs:List Expr} {wi:TI} {g:TG} {tc:TT} {te:TE} {pos:Pos}
theorem EM{pins:Aaa}{σ:St}{H:Hp}{s:Shared}{fp:List Addr}{it D:Addr}{tn:Nat->Heap->Prop}{J:It}{Q:VK}{qi:Heap}{tk:Nat}{R:Result->Shared->Prop}
 (hc:X.calm=true) (C:eU X scope own kp kn) (I:Inv X pins σ H s) (hf:∀b∈fp,tm X pins H b) (hb:∀b∈fp,b < s.heap.objs.size) (T:Turn X.prog X.w X.K tg J fp it tn)
 (hg:PG (cb X scope (own++kn) fp s H) tg g) (hi:uU (cb X scope (own++kn) fp s H) ifs tc) (he:PE (cb X scope (own++kn) fp s H) elt te)
 (hn:qi.Ns s.heap.objs.size (fun _=>none)) (hk:∀b o,s.heap.get? b=some o->qi.get? b=some o) (hC:CellsOk qi (s.heap.objs.size+1) (cellsFrom (s.heap.objs.size+1) scope.names [])) (st:tn 0 s.heap)
 (W:Nat->Nat->List V->Hp->Prop) (w0:∃m,W 0 m [] H)
 (turn:∀i m ys H,W i m ys H->
   (J.stop i H/\Q (.ref D) H)\/(J.go i H/\∀x H',J.yld i H x H'->g x (de own kp σ) H' fun vj H2=>tc vj H2 fun c H3=>
     if c=true then te vj H3 fun y H4=>H4 D=some (.lst ys)/\ys.length < sizeLine/\∃m',m' < m/\W (i+1) m' (ys++[y]) (upd H4 D (.lst (ys++[y])))
     else ∃m',m' < m/\W (i+1) m' ys H3))
 (hR:∀H' s' cw,Inv (cb X scope (own++kn) fp s H) [] cw H' s'->Q (.ref D) H'->R (.ok .next) s') :
 codeAny (model X.prog X.w) X.A (.compStart (.ListComp elt [⟨tg,iter,ifs,0⟩] scope pos) 0 (.ref it) (.ref D) (cb X scope (own++kn) fp s H).env) R {s with heap:=qi,toks:=tk}:=by
 have I1:Inv (cb X scope (own++kn) fp s H) [] (de own kp σ) H {s with heap:=qi,toks:=tk}:=E_ C I hf hb hn hk hC
 have Np:tn 0 qi:=T.keep _ _ _ st fun b _ o e=>hk b o e
 have fp1:∀{H':Hp} {p:Aaa},(∀b∈fp,H' b=none)->(∀b∈fp,∀q∈p,q.1≠b)->∀b∈fp,tm (cb X scope (own++kn) fp s H) p H' b:=fun {H' p} hn hp b sS=>
  ⟨hn b sS,(I1.ok.exf b sS).1,I1.ok.exfs b sS, .inl sS,fun x c e=>(I1.ok.exf b sS).2 x c e,fun q hq=>hp b sS q hq⟩
 obtain⟨m0,w0⟩:=w0;have loop:codeAny (model X.prog X.w) X.A (.compLoop (.ListComp elt [⟨tg,iter,ifs,0⟩] scope pos) 0 (.ref it) (.ref D) (cb X scope (own++kn) fp s H).env) R {s with heap:=qi,toks:=tk}:=by
  refine codeAny_loop rfl (fun n s'=>∃i ys H',Inv (cb X scope (own++kn) fp s H) [] (de own kp σ) H' s'/\tn i s'.heap/\(∀b∈fp,H' b=none)/\W i n ys H') (fun n s' hI=>?_) m0 ⟨0,[],H,I1,Np,fun b sS=>(hf b sS).1,w0⟩
  obtain⟨i,ys,H3,I3,Nw,QC,w3⟩:=hI;show wpAny _ _ ((compTurn (.ListComp elt [⟨tg,iter,ifs,0⟩] scope pos) 0 (.ref it) (.ref D) (cb X scope (own++kn) fp s H).env).onRaise (fun x=>do noteFrame x (cb X scope (own++kn) fp s H).env;theTreesLotGoes x)) _ _ s'
  refine wpAny_noted (wpAny_noRaise ?_);rw[compTurn_list];refine wpAny_bind (wpAny_standAt (wpAny_bind ?_));rcases turn i n ys H3 w3 with⟨stop,q⟩ | ⟨go,step⟩
  .refine cU (T.done (cb X scope (own++kn) fp s H) rfl rfl rfl hc i [] s' _ H3 _ I3 (fp1 QC (fun _ _ q hq=>by cases hq)) Nw stop) fun r s4 ⟨hr,I4⟩=>?_
   subst hr;exact wpAny_pure (hR H3 s4 _ I4 q)
  .refine cU (T.item (cb X scope (own++kn) fp s H) rfl rfl rfl hc i [] s' _ H3 _ I3 (fp1 QC (fun _ _ q hq=>by cases hq)) Nw go) fun r s4 ⟨u,hr,h4⟩=>?_
   subst hr;refine wpAny_bind (cU h4 fun _ s5 ⟨x,H5,I5,r5,y5,Nj,UR⟩=>?_)
   have I5':=I5.pinned (fp1 UR (fun _ _ q hq=>by cases hq)) (T.obj _ _ Nj)
   have keepIt:∀{zh:St} {H7:Hp} {s7:Shared},Inv (cb X scope (own++kn) fp s H) ([]++pT fp s5.heap) zh H7 s7->tn (i+1) s7.heap/\∀b∈fp,H7 b=none:=fun {zh H7 s7} I7=>by
    refine⟨T.keep _ _ _ Nj fun b hb o e=>(I7.pin (b,o) (List.mem_append_right _ (List.mem_append_right _ (mT hb e)))).1,fun b hb=>?_⟩
    obtain⟨o,e,d⟩:=T.obj _ _ Nj b hb;exact(I7.pin (b,o) (List.mem_append_right _ (List.mem_append_right _ (mT hb e)))).2.1
   have reset:∀{zh:St} {H7:Hp} {s7:Shared},Inv (cb X scope (own++kn) fp s H) ([]++pT fp s5.heap) zh H7 s7->Inv (cb X scope (own++kn) fp s H) [] (de own kp σ) H7 s7:=fun {zh H7 s7} I7=>by
    have I8:=I7.qK;have hun:Un (pG X.stack) fp H H7 s.heap s7.heap:=I8.base;have I9:Inv X pins σ H7 s7:=yp I hf I8;refine⟨I8.ok,I8.os,I8.bare,I8.base,?_,I8.cell,I8.free,I8.freeC,I8.pin,I8.hok,I1.len⟩;obtain⟨m,hm,_⟩:=I8.loc;refine⟨m,hm,fun i x v h1 h2 h3=>?_⟩
    obtain⟨m1,Z3,T4⟩:=I1.loc;obtain⟨u1,r1,l1⟩:=T4 i x v h1 h2 h3;have h1:(own++kn)[i]? =some x:=h1;have h2:(de own kp σ)[i]? =some (some v):=h2;unfold de at h2;by_cases hi:i < own.length
    .rw [List.getElem?_append_left (by simpa using hi),List.getElem?_replicate] at h2
     split at h2 <;> cases h2
    .rw [List.getElem?_append_right (by simpa using hi),List.length_replicate,List.getElem?_map] at h2
     rw[List.getElem?_append_right (by simpa using hi)] at h1
     cases e:kp[i - own.length]? with
     | none=>rw [e] at h2;cases h2
     | some j=>
       rw[e] at h2;have h2:(σ[j]?).getD none=some v:=Option.some.inj h2;have hj:X.N[j]? =some x:=C.at_ _ j x e h1;have JQ:σ[j]? =some (some v):=by
        cases q:σ[j]? with
        | none=>rw [q] at h2;cases h2
        | some y=>rw [q] at h2;exact congrArg some h2
       have hfree:scope.names.lookup x=some .free:=C.isfree x (List.mem_of_getElem? h1);have hkind:=C.free (x, .free) (PySem.mem_of_lookup hfree) rfl;obtain⟨m9,hm9,ZY⟩:=I9.loc;obtain⟨u,r,l⟩:=ZY j x v hj JQ (hkind.elim (fun q=>Or.inr (Or.inl q)) fun q=>Or.inr (Or.inr q))
       refine⟨u,r, .inr ?_⟩;rcases l1 with⟨k,k2⟩ | ⟨k,c,hc,hcell⟩
       .have k:(relabel scope X.env).names.lookup x=some .local:=k;rcases ei k with z | ⟨z,_⟩
        .rw [hfree] at z;cases z
        .cases z
       .refine⟨k,c,hc,?_⟩;rcases l with⟨k',_⟩ | ⟨_,c',DU,Nu⟩
        .rcases hkind with q | q
         .rw [show X.env.kindOf x=some .cell from q] at k';cases k'
         .rw [show X.env.kindOf x=some .free from q] at k';cases k'
        .have hcl:(o8 X.env.cells scope.names []).lookup x=some c:=(wU _ _ _ fun z=>by have:=C.cel _ z rfl;rw [hfree] at this;cases this).symm.trans hc
         rcases lB scope.names [] hcl with q | ⟨q1,q2⟩
         .simp at q
         .rw [DU] at q2;have q2:c=c':=q2;rw[q2];exact Nu
   have hmm:=hg ([]++pT fp s5.heap) s5 (de own kp σ) H5 x u _ I5' r5 (step x H5 y5);refine wpAny_bind (cU hmm fun _ s6 ⟨Qp,H6,I6,q6⟩=>?_)
   refine wpAny_bind (cU (hi _ s6 Qp H6 _ I6 q6) fun ok s7 ⟨H7,I7,q7⟩=>?_)
   cases ok with
   | false=>
     simp only[Bool.false_eq_true,if_false] at q7 ⊢;obtain⟨m',Qo,w7⟩:=q7;obtain⟨a1,a2⟩:=keepIt I7;exact wpAny_pure ⟨rfl,m',Qo,i+1,ys,H7,reset I7,a1,a2,w7⟩
   | true=>
     simp only[if_true] at q7 ⊢;refine wpAny_bind (wpAny_bind (cU (he _ s7 Qp H7 _ I7 q7) fun yv s8 ⟨y,H8,I8,r8,hD,hlt,m',Qo,w8⟩=>wpAny_bind ?_))
     obtain⟨a1,a2⟩:=keepIt I8;refine cU (l9 _ s8 Qp H8 (.ref D) [y] (.ref D) [yv] (fun v H9=>v= .cN/\H9=upd H8 D (.lst (ys++[y]))) I8 rfl (.cons r8 .nil) ⟨D,ys,y,rfl,rfl,hD,hlt,rfl,rfl⟩) fun _ s9 ⟨v9,H9,I9,_,_,e9⟩=>?_
     subst e9;obtain⟨b1,b2⟩:=keepIt I9;exact wpAny_pure (wpAny_pure ⟨rfl,m',Qo,i+1,ys++[y],_,reset I9,b1,b2,w8⟩)
 exact codeAny_compStart_list loop (T.self _ _ _ _ _ Np loop)
theorem Bl(hc:X.calm=true)(C:eU X scope own kp kn)(hi:PI X tg iter wi)(hg:∀fp s H,PG (cb X scope (own++kn) fp s H) tg g)(Ni:∀fp s H,uU (cb X scope (own++kn) fp s H) ifs tc)
 (he:∀fp s H,PE (cb X scope (own++kn) fp s H) elt te) (hs:∀x,foldedSetIterable iter X.env x=pure x:=by intro _;rfl):PE X (.ListComp elt [⟨tg,iter,ifs,0⟩] scope pos) (Eu wi g tc te own kp):=by
 intro pins s σ H Q I h;rw[eval_ListComp];refine wpAny_comprehension_free (use:=none) rfl hs (sv (tU C I)) C.kind C.nd (cU (hi pins s σ H _ I h) fun v s1 h1=>cU h1 fun TR s2 h2=>?_)
 obtain⟨it,fp,tn,J,H2,e,I2,T,Q8,f2,q⟩:=h2;subst e;refine wpAny_newObj_type ?_;have I3:Inv X pins σ (upd H2 s2.heap.objs.size (.lst [])) {s2 with heap:=s2.heap.push {cls:= .type "list",dict:=none,data:= .seq ([]:List Value).toArray}}:=I2.Lr (its:=[]) (t':=s2.toks) .nil (Nat.zero_le _)
 obtain⟨W,w0,turn⟩:=q s2.heap.objs.size I2.fresh;have fne:∀b∈fp,b < s2.heap.objs.size:=fun b hb=>let⟨o,e,_⟩:=T.obj _ _ Q8 b hb;Heap.lt_size e
 have f3:∀b∈fp,tm X pins (upd H2 s2.heap.objs.size (.lst [])) b:=fun b hb=>⟨by rw[bt (Nat.ne_of_lt (fne b hb))];exact(f2 b hb).1,(f2 b hb).2⟩
 generalize hs3:({s2 with heap:=s2.heap.push {cls:= .type "list",dict:=none,data:= .seq ([]:List Value).toArray}}:Shared)=s3 at I3 ⊢
 have Nw:tn 0 s3.heap:=by rw[<-hs3];exact T.keep _ _ _ Q8 fun b _ o e=>Heap.get?_push_of_some _ e
 have fne3:∀b∈fp,b < s3.heap.objs.size:=fun b hb=>by rw[<-hs3];exact Nat.lt_of_lt_of_le (fne b hb) (by rw[Heap.size_push];exact Nat.le_succ _)
 refine CH fun qi Ng hk hC=>?_
 refine EM (D:=s2.heap.objs.size) hc C I3 f3 fne3 T (hg fp s3 _) (Ni fp s3 _) (he fp s3 _) Ng hk hC Nw W w0 turn fun H' s' cw J' hq=>?_
 have B:=yp I3 f3 J';obtain⟨m',Qo,_⟩:=J'.loc;refine⟨m',Qo,fun h' sb=>⟨.ref s2.heap.objs.size,H',?_,rfl,hq⟩⟩
 have fC:=I3.Gh (H':=H') (b:=s3.heap.objs.size) (Nat.le_refl _) J'.free;exact B.turned (it:=s3.heap.objs.size) (t':=s'.toks) (fun b o hb e=>(sb.2 b hb).trans e) fC.1 fC.2.1 fC.2.2.2.1 fC.2.2.2.2.1 fC.2.2.2.2.2
end
end L2
end
section
namespace L2
open PySem PySem.Spec PyProof.Rows
inductive D where
 | cN | bl (b:Bool) | int (i:Int) | str (x:Str) | lst (ds:List D) | tup (ds:List D) | dct (ks:List Key) (ds:List D)
inductive R (α:Type) where
 | ok (a:α) | ex (c:Nat) | no
def R.bind{α β:Type}:R α->(α->R β)->R β
 | .ok a,f=>f a
 | .ex c,_=> .ex c
 | .no,_=> .no
theorem R.ak{α β:Type}{r:R α}{f:α->R β}{b:β}(h:r.bind f= .ok b):∃a,r= .ok a/\f a= .ok b:=by
 cases r with
 | ok a=>exact⟨a,rfl,h⟩
 | ex c=>cases h
 | no=>cases h
@[simp] theorem R.aO{α β:Type}(a:α)(f:α->R β):(R.ok a).bind f=f a:=rfl
def R.aW{α:Type}(c:Bool)(r:R α):R α:=if c then r else .no
theorem R.aQ{α:Type}{c:Bool}{r:R α}{a:α}(h:R.aW c r= .ok a):c=true/\r= .ok a:=by
 cases c with
 | true=>exact⟨rfl,h⟩
 | false=>cases h
@[simp] theorem R.NR{α:Type}(r:R α):R.aW true r=r:=rfl
def yr(K:W.Frag)(B:List Addr)(H:Hp)(a:Addr)(xs:List V):Prop:=
 (a ∉ B/\Rd H a (.lst xs))\/∃(its:List Value) (n:Nat),K.lookup a=some {cls:= .type "list",data:= .seq its.toArray n}/\xs.length<=sizeLine/\Vals xs its
def Bp(K:W.Frag)(B:List Addr)(H:Hp)(a:Addr)(xs:List V):Prop:=
 (a ∉ B/\Rd H a (.tup xs))\/∃(o:Obj) (its:Array Value) (n:Nat),K.lookup a=some o/\o.cls= .type "tuple"/\o.data= .seq its n/\its.size<=sizeLine/\Vals xs its.toList
theorem yr.sq{K:W.Frag}{B:List Addr}{a:Addr}{xs:List V}(h:yr K B H a xs):nL K H a xs:=by
 rcases h with z | ⟨its,n,hk,hz,r⟩
 .exact .inl z.2
 .exact .inr ⟨_,its.toArray,n,hk,rfl,rfl,rfl,by rw[List.size_toArray,<-r.length];exact hz,by simpa using r⟩
theorem Bp.sq{K:W.Frag}{B:List Addr}{a:Addr}{xs:List V}(h:Bp K B H a xs):rC K H a xs:=h.elim (fun z=> .inl z.2) .inr
mutual
def Rep(K:W.Frag)(B:List Addr)(H:Hp):D->V->Prop
 | .cN,v=>v= .cN
 | .bl b,v=>v= .bl b
 | .int i,v=>v= .int i
 | .str x,v=>v= .str x
 | .lst ds,v=>∃a xs,v= .ref a/\yr K B H a xs/\aG K B H ds xs
 | .tup ds,v=>∃a xs,v= .ref a/\Bp K B H a xs/\aG K B H ds xs
 | .dct ks ds,v=>∃(a:Addr) (aC:List (Key × V)),v= .ref a/\(a ∉ B/\H a=some (.dK aC))/\aC.map (·.1)=ks/\aG K B H ds (aC.map (·.2))
def aG(K:W.Frag)(B:List Addr)(H:Hp):List D->List V->Prop
 | [],xs=>xs=[]
 | d ::ds,xs=>∃x r,xs=x ::r/\Rep K B H d x/\aG K B H ds r
end
def dD(B:List Addr)(H:Hp)(B':List Addr)(H':Hp):Prop:=∀b o,H b=some o->b ∉ B->H' b=some o/\b ∉ B'
theorem dD.rd{B B':List Addr}(p:dD B H B' H'){a:Addr}{u:HO}(h:Rd H a u)(n:a ∉ B):Rd H' a u/\a ∉ B':=by
 rcases h with e | ⟨o,e⟩
 .exact⟨.inl (p a _ e n).1,(p a _ e n).2⟩
 .exact⟨.inr ⟨o,(p a _ e n).1⟩,(p a _ e n).2⟩
theorem dD.trans{B B' Qr:List Addr}(p:dD B H B' H')(q:dD B' H' Qr qa):dD B H Qr qa:=fun b o e n=>
 let⟨e1,n1⟩:=p b o e n;q b o e1 n1
theorem dD.same{B:List Addr}(s:aS H H'):dD B H B H':=fun b o e n=>⟨s b o e,n⟩
theorem dD.refl(B:List Addr)(H:Hp):dD B H B H:=dD.same (aS.refl H)
theorem yr.bF{K:W.Frag}{B B':List Addr}(p:dD B H B' H'){a:Addr}{xs:List V}(l:yr K B H a xs):yr K B' H' a xs:=
 l.elim (fun z=> .inl ⟨(p.rd z.2 z.1).2,(p.rd z.2 z.1).1⟩) .inr
mutual
theorem Rep.bF{K:W.Frag}{B B':List Addr}(p:dD B H B' H'):∀{d:D} {v:V},Rep K B H d v->Rep K B' H' d v
 | .cN,_,h=>h
 | .bl _,_,h=>h
 | .int _,_,h=>h
 | .str _,_,h=>h
 | .lst ds,v,h=>by
   unfold Rep at h ⊢;obtain⟨a,xs,e,l,r⟩:=h;exact⟨a,xs,e,l.bF p,aG.bF p r⟩
 | .tup ds,v,h=>by
   unfold Rep at h ⊢;obtain⟨a,xs,e,l,r⟩:=h;exact⟨a,xs,e,l.elim (fun z=> .inl ⟨(p.rd z.2 z.1).2,(p.rd z.2 z.1).1⟩) .inr,aG.bF p r⟩
 | .dct ks ds,v,h=>by
   unfold Rep at h ⊢;obtain⟨a,aC,e,⟨n,l⟩,k,r⟩:=h;exact⟨a,aC,e,⟨(p a _ l n).2,(p a _ l n).1⟩,k,aG.bF p r⟩
theorem aG.bF{K:W.Frag}{B B':List Addr}(p:dD B H B' H'):∀{ds:List D} {xs:List V},aG K B H ds xs->aG K B' H' ds xs
 | [],_,h=>h
 | d ::ds,xs,h=>by
   unfold aG at h ⊢;obtain⟨x,r,e,h1,h2⟩:=h;exact⟨x,r,e,Rep.bF p h1,aG.bF p h2⟩
end
theorem Rep.same{K:W.Frag}{B:List Addr}{d:D}{v:V}(h:Rep K B H d v)(s:aS H H'):Rep K B H' d v:=h.bF (dD.same s)
theorem aG.same{K:W.Frag}{B:List Addr}{d:List D}{v:List V}(h:aG K B H d v)(s:aS H H'):aG K B H' d v:=h.bF (dD.same s)
theorem aG.nil{K:W.Frag}{B:List Addr}:aG K B H [] []:=by unfold aG;rfl
theorem aG.cons{K:W.Frag}{B:List Addr}{d:D}{ds:List D}{x:V}{xs:List V}(h:Rep K B H d x)(t:aG K B H ds xs):aG K B H (d ::ds) (x ::xs):=by
 unfold aG;exact⟨x,xs,rfl,h,t⟩
theorem aG.cq{K:W.Frag}{B:List Addr}{d:D}{ds:List D}{xs:List V}(h:aG K B H (d ::ds) xs):∃x r,xs=x ::r/\Rep K B H d x/\aG K B H ds r:=by
 unfold aG at h;exact h
theorem aG.length{K:W.Frag}{B:List Addr}:∀{ds:List D} {xs:List V},aG K B H ds xs->ds.length=xs.length
 | [],_,h=>by unfold aG at h;rw [h];rfl
 | d ::ds,xs,h=>by
   obtain⟨x,r,rfl,_,h2⟩:=h.cq;simp [h2.length]
theorem aG.get{K:W.Frag}{B:List Addr}:∀{ds:List D} {xs:List V} {i:Nat} {d:D},aG K B H ds xs->ds[i]? =some d->∃x,xs[i]? =some x/\Rep K B H d x
 | [],_,_,_,_,e=>by simp at e
 | d ::ds,xs,0,d',h,e=>by
   obtain⟨x,r,rfl,h1,h2⟩:=h.cq;simp at e;subst e;exact⟨x,rfl,h1⟩
 | d ::ds,xs,i+1,d',h,e=>by
   obtain⟨x,r,rfl,h1,h2⟩:=h.cq;obtain⟨y,e1,e2⟩:=aG.get (i:=i) h2 (by simpa using e)
   exact⟨y,by simpa using e1,e2⟩
theorem aG.append{K:W.Frag}{B:List Addr}:∀{ds es:List D} {xs ys:List V},aG K B H ds xs->aG K B H es ys->aG K B H (ds++es) (xs++ys)
 | [],_,_,_,h,t=>by unfold aG at h;subst h;exact t
 | d ::ds,es,xs,ys,h,t=>by
   obtain⟨x,r,rfl,h1,h2⟩:=h.cq;exact aG.cons h1 (aG.append h2 t)
theorem aG.drop{K:W.Frag}{B:List Addr}:∀{ds:List D} {xs:List V} (n:Nat),aG K B H ds xs->aG K B H (ds.drop n) (xs.drop n)
 | _,_,0,h=>h
 | [],_,n+1,h=>by unfold aG at h;subst h;exact aG.nil
 | d ::ds,xs,n+1,h=>by
   obtain⟨x,r,rfl,h1,h2⟩:=h.cq;exact aG.drop n h2
theorem aG.take{K:W.Frag}{B:List Addr}:∀{ds:List D} {xs:List V} (n:Nat),aG K B H ds xs->aG K B H (ds.take n) (xs.take n)
 | _,_,0,h=>aG.nil
 | [],_,n+1,h=>by unfold aG at h;subst h;exact aG.nil
 | d ::ds,xs,n+1,h=>by
   obtain⟨x,r,rfl,h1,h2⟩:=h.cq;exact aG.cons h1 (aG.take n h2)
def D.atom:D->Bool
 | .cN=>true | .bl _=>true | .int _=>true | .str _=>true | _=>false
theorem Rep.atom{K:W.Frag}{B B':List Addr}{d:D}{v:V}(a:d.atom=true)(h:Rep K B H d v):Rep K B' H' d v:=by
 cases d <;> first | exact h | cases a
inductive Sl where
 | un | val (d:D) | bld (ds:List D)
abbrev aw:=List Sl
structure dS (K:W.Frag) (Z B:List Addr) (H:Hp) (σ:St) (δ:aw):Prop where
 len:δ.length=σ.length
 bs:∀a∈B,∃o,H a=some o
 zb:∀a∈Z,a∈B
 val:∀(i:Nat) (d:D),δ[i]? =some (.val d)->∃v,σ[i]? =some (some v)/\Rep K B H d v
 bld:∀(i:Nat) (ds:List D),δ[i]? =some (.bld ds)->∃a xs,σ[i]? =some (some (.ref a))/\a∈B/\a ∉ Z/\H a=some (.lst xs)/\aG K B H ds xs
 dis:∀(i j:Nat) (a:Addr) (ds es:List D),δ[i]? =some (.bld ds)->δ[j]? =some (.bld es)->σ[i]? =some (some (.ref a))->σ[j]? =some (some (.ref a))->i=j
theorem dS.same{K:W.Frag}{Z B:List Addr}{δ:aw}(E:dS K Z B H σ δ)(s:aS H H'):dS K Z B H' σ δ where
 len:=E.len
 bs:=fun a ha=>let⟨o,e⟩:=E.bs a ha;⟨o,s a o e⟩
 zb:=E.zb
 val:=fun i d e=>let⟨v,h1,h2⟩:=E.val i d e;⟨v,h1,h2.same s⟩
 bld:=fun i ds e=>let⟨a,xs,h1,h2,h3,h4,h5⟩:=E.bld i ds e;⟨a,xs,h1,h2,h3,s a _ h4,h5.same s⟩
 dis:=E.dis
def Pp(δ:aw):aw:=δ.map fun x=>match x with | .bld ds=> .val (.lst ds) | y=>y
theorem PE.imp{X:Cx}{t t':TE}(h:PE X e t)(w:∀σ H Q,t' σ H Q->t σ H Q):PE X e t':=fun pins s σ H Q I hq=>h pins s σ H Q I (w σ H Q hq)
theorem PT.imp{X:Cx}{t t':TT}(h:PT X e t)(w:∀σ H Q,t' σ H Q->t σ H Q):PT X e t':=fun pins s σ H Q I hq=>h pins s σ H Q I (w σ H Q hq)
theorem PA.imp{X:Cx}{t t':TA}(h:PA X e t)(w:∀σ H Q,t' σ H Q->t σ H Q):PA X e t':=fun pos pins s σ H Q I hq=>h pos pins s σ H Q I (w σ H Q hq)
theorem PS.imp{X:Cx}{t t':TS}(h:PS X e t)(w:∀D σ H,t' D σ H->t D σ H):PS X e t':=fun pins s σ H D I hq=>h pins s σ H D I (w D σ H hq)
theorem wX.imp{X:Cx}{t t':TS}(h:wX X e t)(w:∀D σ H,t' D σ H->t D σ H):wX X e t':=fun pins s σ H D I hq=>h pins s σ H D I (w D σ H hq)
theorem PG.imp{X:Cx}{t t':TG}(h:PG X e t)(w:∀v σ H Q,t' v σ H Q->t v σ H Q):PG X e t':=fun pins s σ H v u Q I r hq=>h pins s σ H v u Q I r (w v σ H Q hq)
theorem PI.imp{X:Cx}{t t':TI}(h:PI X tg e t)(w:∀σ H Q,t' σ H Q->t σ H Q):PI X tg e t':=fun pins s σ H Q I hq=>h pins s σ H Q I (w σ H Q hq)
abbrev FD:=aw->R D
def tD(K:W.Frag)(f:FD):TE:=fun σ H Q=>∃Z B δ d,dS K Z B H σ δ/\f δ= .ok d/\∀v H',aS H H'->Rep K B H' d v->Q v H'
def tN(K:W.Frag)(f:aw->R (List D)):TE:=fun σ H Q=>∃Z B δ ds,dS K Z B H σ δ/\f δ= .ok ds/\∀a xs H',aS H H'->H a=none->H' a=some (.lst xs)->aG K (a ::B) H' ds xs->Q (.ref a) H'
def MR(K:W.Frag)(f:aw->R Bool):TT:=fun σ H Q=>∃Z B δ b,dS K Z B H σ δ/\f δ= .ok b/\∀H',aS H H'->Q b H'
def VZ(K:W.Frag)(f:aw->R (List D)):TA:=fun σ H Q=>∃Z B δ ds,dS K Z B H σ δ/\f δ= .ok ds/\∀vs H',aS H H'->aG K B H' ds vs->Q vs H'
abbrev PD(X:Cx)(e:Expr)(f:FD):Prop:=PE X e (tD X.K f)
abbrev PN(X:Cx)(e:Expr)(f:aw->R (List D)):Prop:=PE X e (tN X.K f)
abbrev PB(X:Cx)(e:Expr)(f:aw->R Bool):Prop:=PT X e (MR X.K f)
abbrev DG(X:Cx)(es:List Expr)(f:aw->R (List D)):Prop:=PA X es (VZ X.K f)
section
variable {X:Cx}
def eNew(f:aw->R (List D)):FD:=fun δ=>(f δ).bind fun ds=> .ok (.lst ds)
theorem Lh{f:aw->R (List D)}(h:PN X e f):PD X e (eNew f):=h.imp fun σ H Q ⟨Z,B,δ,d,E,hf,q⟩=>by
 obtain⟨ds,h1,h2⟩:=R.ak hf;cases h2;refine⟨Z,B,δ,ds,E,h1,fun a xs H' s n e r=>q _ H' s ?_⟩
 unfold Rep;refine⟨a,xs,rfl, .inl ⟨fun ha=>?_, .inl e⟩,r.bF fun b o e nb=>⟨e,fun hb=>nb (List.mem_cons_of_mem _ hb)⟩⟩
 obtain⟨o,ho⟩:=E.bs a ha;rw[n] at ho;cases ho
theorem y6{B:List Addr}{H:Hp}{p:Addr}{o:HO}(h:H p=none):dD B H (p ::B) (upd H p o):=fun b u e nb=>
 ⟨by rw[bt (bK e h)];exact e,fun hb=>by
   rcases List.mem_cons.mp hb with z | z
   .exact bK e h z
   .exact nb z⟩
def Wd(f:FD):FD:=fun δ=>(f (Pp δ)).bind fun d=>R.aW d.atom (.ok d)
def WG(f:aw->R Bool):aw->R Bool:=fun δ=>f (Pp δ)
def ao(i:Nat):FD:=fun δ=>match δ[i]? with | some (.val d)=> .ok d | _=> .no
def eC(d:D):FD:=fun _=> .ok d
theorem Lp(i:Nat){x:Str}{pos:Pos}(hN:X.N[i]? =some x:=by rfl)(hv:Kb X.env.scope x:=by first | exact Or.inl rfl | exact Or.inr (Or.inl rfl) | exact Or.inr (Or.inr rfl))(hd:(x==("__debug__":Str))=false:=by decide)
 (uJ:(x==("__classdict__":Str))=false:=by decide):PD X (.Name x pos) (ao i):=(w_ hN hv hd uJ).imp fun σ H Q ⟨Z,B,δ,d,E,hf,q⟩=>by
 unfold ao at hf;split at hf
 .rename_i d' e;cases hf;obtain⟨v,h1,h2⟩:=E.val i d e;exact⟨v,h1,q v H (aS.refl H) h2⟩
 .cases hf
theorem qU{v:V}{d:D}(h:PE X e (tC v))(r:∀B H,Rep X.K B H d v):PD X e (eC d):=h.imp fun σ H Q ⟨Z,B,δ,d',E,hf,q⟩=>by
 cases hf;exact q v H (aS.refl H) (r B H)
theorem L7{i j pos}:PD X (.Constant (.int i) j pos) (eC (.int i)):=qU n8 fun _ _=>by unfold Rep;rfl
theorem Pd{b j pos}:PD X (.Constant (.bool b) j pos) (eC (.bl b)):=qU Qa fun _ _=>by unfold Rep;rfl
theorem Mc{x j pos}:PD X (.Constant (.str x) j pos) (eC (.str x)):=qU nY fun _ _=>by unfold Rep;rfl
def Glob(K:W.Frag)(mg:Aaf)(x:Str)(d:D):Prop:=∃(u:Value) (v:V),mg x=some u/\RelV v u/\∀B H,Rep K B H d v
theorem Jq{d:D}{pos:Pos}(g:Glob X.K X.mg x d)(hg:Gl X x)(hd:(x==("__debug__":Str))=false:=by decide):PD X (.Name x pos) (eC d):=by
 obtain⟨u,v,hm,r,h⟩:=g;exact qU (dG hg hm r hd) h
def aE:aw->R (List D):=fun _=> .ok []
def ag(f:FD)(g:aw->R (List D)):aw->R (List D):=fun δ=>(f δ).bind fun d=>(g δ).bind fun ds=> .ok (d ::ds)
theorem Ia:DG X [] aE:=lJ.imp fun σ H Q ⟨Z,B,δ,d,E,hf,q⟩=>by
 cases hf;exact q [] H (aS.refl H) aG.nil
theorem Eg{g:aw->R (List D)}(h:PD X e f)(t:DG X es g)(hs:starEach (e ::es) X.env=(false,eval e X.env) ::starEach es X.env:=by rfl):DG X (e ::es) (ag f g):=
 (gL h t hs).imp fun σ H Q ⟨Z,B,δ,d,E,hf,q⟩=>by
   obtain⟨d1,h1,h2⟩:=R.ak hf;obtain⟨ds,h3,h4⟩:=R.ak h2;cases h4;exact⟨Z,B,δ,d1,E,h1,fun v H1 s1 r1=>⟨Z,B,δ,ds,E.same s1,h3,fun vs H2 s2 r2=>q _ H2 (s1.trans s2) (aG.cons (r1.same s2) r2)⟩⟩
def C_(g:aw->R (List D)):FD:=fun δ=>(g δ).bind fun ds=>R.aW (decide (ds.length<=sizeLine)) (.ok (.tup ds))
def bg(g:aw->R (List D)):aw->R (List D):=fun δ=>(g δ).bind fun ds=>R.aW (decide (ds.length<=sizeLine)) (.ok ds)
theorem bG{H:Hp}{p:Addr}{o:HO}(h:H p=none):aS H (upd H p o):=fun b u e=>by rw[bt (bK e h)];exact e
theorem Lf{g:aw->R (List D)}{x1 pos}(h:DG X es g):PD X (.Tuple es x1 pos) (C_ g):=(zK h).imp fun σ H Q ⟨Z,B,δ,d,E,hf,q⟩=>by
 obtain⟨ds,h1,h2⟩:=R.ak hf;obtain⟨hl,h3⟩:=R.aQ h2;cases h3;refine⟨Z,B,δ,ds,E,h1,fun vs H1 s1 r1=>⟨by rw[<-r1.length];exact of_decide_eq_true hl,fun p hp=>q _ _ (s1.trans (bG hp)) ?_⟩⟩
 unfold Rep;refine⟨p,vs,rfl, .inl ⟨fun ha=>?_, .inl ba⟩,r1.same (bG hp)⟩
 obtain⟨o,ho⟩:=(E.same s1).bs p ha;rw[hp] at ho;cases ho
theorem LW{g:aw->R (List D)}{pos}(h:DG X es g):PN X (.List es pos) (bg g):=(Gm h).imp fun σ H Q ⟨Z,B,δ,d,E,hf,q⟩=>by
 obtain⟨ds,h1,h2⟩:=R.ak hf;obtain⟨hl,h3⟩:=R.aQ h2;cases h3;exact⟨Z,B,δ,_,E,h1,fun vs H1 s1 r1=>⟨by rw[<-r1.length];exact of_decide_eq_true hl,fun p hp=>q p vs _ (s1.trans (bG hp)) (s1.free hp) ba (r1.bF (y6 hp))⟩⟩
def nJ(X:Cx)(f:Value->Value->Sem Value)(g:D->D->R D):Prop:=
 ∀(pins:Aaa) (s:Shared) (σ:St) (H:Hp) (B:List Addr) (da db d:D) (x y:V) (v u:Value),Inv X pins σ H s->(∀a∈B,∃o,H a=some o)->RelV x v->RelV y u->Rep X.K B H da x->Rep X.K B H db y->g da db= .ok d->
  wpAny (model X.prog X.w) X.A (f v u) (EP X pins σ fun z H'=>aS H H'/\Rep X.K B H' d z) X.xe s
def e2(g:D->D->R D)(fa fb:FD):FD:=fun δ=>(fa δ).bind fun a=>(fb δ).bind fun b=>g a b
theorem nJ.r{f:Value->Value->Sem Value}{g:D->D->R D}(h:nJ X f g):o5 X f (fun x y H Q=>∃B da db d,(∀a∈B,∃o,H a=some o)/\Rep X.K B H da x/\Rep X.K B H db y/\g da db= .ok d/\∀z H',aS H H'->Rep X.K B H' d z->Q z H'):=by
 intro pins s σ H x y v u Q I rx ry ⟨B,da,db,d,hb,ha,sS,hg,q⟩;exact cU (h pins s σ H B da db d x y v u I hb rx ry ha sS hg) fun z s' ⟨zv,H',I',r',s1,r1⟩=>⟨zv,H',I',r',q zv H' s1 r1⟩
theorem M8{K:W.Frag}{g:D->D->R D}{Q:VK}(h:tD K (e2 g fa fb) σ H Q) :
 Nz (fun x y H Q=>∃B da db d,(∀a∈B,∃o,H a=some o)/\Rep K B H da x/\Rep K B H db y/\g da db= .ok d/\∀z H',aS H H'->Rep K B H' d z->Q z H') (tD K fa) (tD K fb) σ H Q:=by
 obtain⟨Z,B,δ,d,E,hf,q⟩:=h;obtain⟨d1,h1,h2⟩:=R.ak hf;obtain⟨d2,h3,h4⟩:=R.ak h2;exact⟨Z,B,δ,d1,E,h1,fun v1 H1 s1 r1=>⟨Z,B,δ,d2,E.same s1,h3,fun v2 H2 s2 r2=>⟨B,d1,d2,d,(E.same (s1.trans s2)).bs,r1.same s2,r2,h4,fun z H' s3 r3=>q z H' (s1.trans (s2.trans s3)) r3⟩⟩⟩
theorem Oi{op:Operator}{g:D->D->R D}(ho:nJ X (binaryOp op) g)(ha:PD X a fa)(hb:PD X b fb):PD X (.BinOp a op b pos) (e2 g fa fb):=
 (JR ho.r ha hb).imp fun σ H Q h=>M8 h
theorem MQ{op:CmpOp}{g:D->D->R D}(ho:nJ X (compareOp op) g)(ha:PD X a fa)(hb:PD X b fb)(hm:behindInMarks op b=false):PD X (.Compare a [op] [b] pos) (e2 g fa fb):=
 (AZ ho.r ha hb hm).imp fun σ H Q h=>M8 h
def b2(g:D->D->R D)(fa fb:FD):aw->R Bool:=fun δ=>(e2 g fa fb δ).bind fun d=>match d with | .bl b=> .ok b | _=> .no
theorem LK{op:CmpOp}{g:D->D->R D}(ho:nJ X (compareOp op) g)(ha:PD X a fa)(hb:PD X b fb)(hm:behindInMarks op b=false):PB X (.Compare a [op] [b] pos) (b2 g fa fb):=
 (Bk ho.r ha hb hm).imp fun σ H Q ⟨Z,B,δ,b,E,hf,q⟩=>by
   obtain⟨d,h1,h2⟩:=R.ak hf;cases d with
   | bl k=>
     cases h2;exact M8 (g:=g) (Q:=fun x H'=>∃k,x= .bl k/\Q k H') ⟨Z,B,δ, .bl b,E,h1,fun v H' s r=>⟨b,by unfold Rep at r;exact r,q H' s⟩⟩
   | _=>cases h2
def Sa(g g':D->D->R D)(fa fb fc:FD):FD:=fun δ=>(fa δ).bind fun a=>(fb δ).bind fun b=>(g a b).bind fun r=>match r with
 | .bl true=>(fc δ).bind fun c=>g' b c
 | .bl false=> .ok (.bl false)
 | _=> .no
def Mm:D->R Bool
 | .cN=> .ok false
 | .bl b=> .ok b
 | .int i=> .ok (i !=0)
 | .str x=>R.aW (decide (x.length<=sizeLine)) (.ok ((x.length:Int) !=0))
 | .lst ds=> .ok (!ds.isEmpty)
 | .tup ds=> .ok (!ds.isEmpty)
 | .dct _ _=> .no
def wW(f:FD):aw->R Bool:=fun δ=>(f δ).bind Mm
theorem aG.isEmpty{K:W.Frag}{B:List Addr}{ds:List D}{xs:List V}(h:aG K B H ds xs):ds.isEmpty=xs.isEmpty:=by
 have:=h.length;cases ds <;> cases xs <;> simp_all
theorem Ln{K:W.Frag}{B:List Addr}{d:D}{v:V}{b:Bool}(r:Rep K B H d v)(h:Mm d= .ok b):MA K v H b:=by
 cases d with
 | cN=>unfold Rep at r;subst r;cases h;exact rfl
 | bl k=>unfold Rep at r;subst r;cases h;exact rfl
 | int i=>unfold Rep at r;subst r;cases h;exact rfl
 | str x=>unfold Rep at r;subst r;obtain⟨h1,h2⟩:=R.aQ h;cases h2;exact⟨of_decide_eq_true h1,rfl⟩
 | lst ds=>unfold Rep at r;obtain⟨a,xs,rfl,l,r⟩:=r;cases h;exact .inl ⟨xs,l.sq,by rw[r.isEmpty]⟩
 | tup ds=>unfold Rep at r;obtain⟨a,xs,rfl,l,r⟩:=r;cases h;exact .inr (.inl ⟨xs,l.sq,by rw[r.isEmpty]⟩)
 | dct _ _=>cases h
theorem Mh{a:Expr}(ha:PD X a f)(he:∀whole,isTrue a X.env whole=(do let v <-whole;standAt a.pos;holding [v] (truthy v)):=by intro _;rfl):PB X a (wW f):=
 (yl ha he).imp fun σ H Q ⟨Z,B,δ,b,E,hf,q⟩=>by
   obtain⟨d,h1,h2⟩:=R.ak hf;exact⟨Z,B,δ,d,E,h1,fun v H' s r=>⟨b,Ln r h2,q H' s⟩⟩
def vd(f g:aw->R Bool):aw->R Bool:=fun δ=>(f δ).bind fun b=>if b then g δ else .ok false
def Bv(f g:aw->R Bool):aw->R Bool:=fun δ=>(f δ).bind fun b=>if b then .ok true else g δ
def Ce(f:aw->R Bool):aw->R Bool:=fun δ=>(f δ).bind fun b=> .ok (!b)
def Hd(X:Cx)(e:Expr)(f:aw->R Bool):Prop:=PW X e (MR X.K f)
theorem Hd.pb{f:aw->R Bool}(h:Hd X e f):PB X e f:=PW.pt h
theorem Es{f:aw->R Bool}(h:PB X a f):Hd X (.BoolOp .And [a] pos) f:=JB h
theorem HB{f:aw->R Bool}(h:PB X a f):Hd X (.BoolOp .Or [a] pos) f:=E6 h
theorem Hy{rest:List Expr}{f g:aw->R Bool}(ha:PB X a f)(hb:Hd X (.BoolOp .And (b ::rest) pos) g):Hd X (.BoolOp .And (a ::b ::rest) pos) (vd f g):=by
 intro wh pins s σ H Q I ⟨Z,B,δ,k,E,hf,q⟩;refine LX ha hb wh pins s σ H Q I ?_;obtain⟨c,h1,h2⟩:=R.ak hf;refine⟨Z,B,δ,c,E,h1,fun H1 s1=>?_⟩
 cases c with
 | true=>rw [if_pos rfl] at h2 ⊢;exact⟨Z,B,δ,k,E.same s1,h2,fun H' s2=>q H' (s1.trans s2)⟩
 | false=>rw [if_neg (by decide)] at h2 ⊢;cases h2;exact q H1 s1
theorem MH{rest:List Expr}{f g:aw->R Bool}(ha:PB X a f)(hb:Hd X (.BoolOp .Or (b ::rest) pos) g):Hd X (.BoolOp .Or (a ::b ::rest) pos) (Bv f g):=by
 intro wh pins s σ H Q I ⟨Z,B,δ,k,E,hf,q⟩;refine Kr ha hb wh pins s σ H Q I ?_;obtain⟨c,h1,h2⟩:=R.ak hf;refine⟨Z,B,δ,c,E,h1,fun H1 s1=>?_⟩
 cases c with
 | true=>rw [if_pos rfl] at h2 ⊢;cases h2;exact q H1 s1
 | false=>rw [if_neg (by decide)] at h2 ⊢;exact⟨Z,B,δ,k,E.same s1,h2,fun H' s2=>q H' (s1.trans s2)⟩
theorem MP{f:aw->R Bool}(ha:PB X a f):PB X (.UnaryOp .Not a pos) (Ce f):=(Ep ha).imp fun σ H Q ⟨Z,B,δ,k,E,hf,q⟩=>by
 obtain⟨c,h1,h2⟩:=R.ak hf;cases h2;exact⟨Z,B,δ,c,E,h1,fun H1 s1=>q H1 s1⟩
def NU(f:FD):aw->R Bool:=fun δ=>(f δ).bind fun d=>match d with | .bl b=> .ok b | _=> .no
def vh(f g:FD):FD:=fun δ=>(NU f δ).bind fun b=>if b then g δ else .ok (.bl false)
def NG(f g:FD):FD:=fun δ=>(NU f δ).bind fun b=>if b then .ok (.bl true) else g δ
def XJ(f:FD):FD:=fun δ=>(NU f δ).bind fun b=> .ok (.bl (!b))
theorem F4{f:FD}{δ:aw}{b:Bool}(h:NU f δ= .ok b):f δ= .ok (.bl b):=by
 obtain⟨d,h1,h2⟩:=R.ak h;cases d with
 | bl k=>cases h2;exact h1
 | _=>cases h2
theorem Mq{op}(h:PD X a f):PD X (.BoolOp op [a] pos) f:=Mx h
theorem LA{rest:List Expr}(ha:PD X a f)(hb:PD X (.BoolOp .And (b ::rest) pos) g):PD X (.BoolOp .And (a ::b ::rest) pos) (vh f g):=(M_ ha hb).imp fun σ H Q ⟨Z,B,δ,k,E,hf,q⟩=>by
 obtain⟨c,h1,h2⟩:=R.ak hf;refine⟨Z,B,δ, .bl c,E,F4 h1,fun v H1 s1 r1=>⟨c,by unfold Rep at r1;exact r1,?_⟩⟩
 cases c with
 | true=>rw [if_pos rfl] at h2 ⊢;exact⟨Z,B,δ,k,E.same s1,h2,fun v H' s2 r2=>q v H' (s1.trans s2) r2⟩
 | false=>rw [if_neg (by decide)] at h2 ⊢;cases h2;exact q _ H1 s1 (by unfold Rep;rfl)
theorem Pz{rest:List Expr}(ha:PD X a f)(hb:PD X (.BoolOp .Or (b ::rest) pos) g):PD X (.BoolOp .Or (a ::b ::rest) pos) (NG f g):=(O5 ha hb).imp fun σ H Q ⟨Z,B,δ,k,E,hf,q⟩=>by
 obtain⟨c,h1,h2⟩:=R.ak hf;refine⟨Z,B,δ, .bl c,E,F4 h1,fun v H1 s1 r1=>⟨c,by unfold Rep at r1;exact r1,?_⟩⟩
 cases c with
 | true=>rw [if_pos rfl] at h2 ⊢;cases h2;exact q _ H1 s1 (by unfold Rep;rfl)
 | false=>rw [if_neg (by decide)] at h2 ⊢;exact⟨Z,B,δ,k,E.same s1,h2,fun v H' s2 r2=>q v H' (s1.trans s2) r2⟩
def eIf(c:aw->R Bool)(f g:FD):FD:=fun δ=>(c δ).bind fun b=>if b then f δ else g δ
def dz(X:Cx)(f:Value)(g:List D->R D):Prop:=
 ∀(pins:Aaa) (s:Shared) (σ:St) (H:Hp) (B:List Addr) (ds:List D) (d:D) (xs:List V) (us:List Value),Inv X pins σ H s->(∀a∈B,∃o,H a=some o)->Vals xs us->aG X.K B H ds xs->g ds= .ok d->
  wpAny (model X.prog X.w) X.A (call f us) (EP X pins σ fun z H'=>aS H H'/\Rep X.K B H' d z) X.xe s
def bf(g:List D->R D)(fs:aw->R (List D)):FD:=fun δ=>(fs δ).bind g
theorem dz.r{f:Value}{g:List D->R D}(h:dz X f g):kx X f (fun xs H Q=>∃B ds d,(∀a∈B,∃o,H a=some o)/\aG X.K B H ds xs/\g ds= .ok d/\∀z H',aS H H'->Rep X.K B H' d z->Q z H'):=by
 intro pins s σ H xs us Q I rx ⟨B,ds,d,hb,hr,hg,q⟩;exact cU (h pins s σ H B ds d xs us I hb rx hr hg) fun z s' ⟨zv,H',I',r',s1,r1⟩=>⟨zv,H',I',r',q zv H' s1 r1⟩
theorem BK{K:W.Frag}{g:List D->R D}{fs:aw->R (List D)}{Q:VK}(h:tD K (bf g fs) σ H Q) :
 VZ K fs σ H fun vs H1=>∃B ds d,(∀a∈B,∃o,H1 a=some o)/\aG K B H1 ds vs/\g ds= .ok d/\∀z H',aS H1 H'->Rep K B H' d z->Q z H':=by
 obtain⟨Z,B,δ,d,E,hf,q⟩:=h;obtain⟨ds,h1,h2⟩:=R.ak hf;exact⟨Z,B,δ,ds,E,h1,fun vs H1 s1 r1=>⟨B,ds,d,(E.same s1).bs,r1,h2,fun z H' s2 r2=>q z H' (s1.trans s2) r2⟩⟩
theorem F3{g:List D->R D}{x:Str}{id:String}{p pos:Pos}{e:Expr}{es:List Expr}{fs:aw->R (List D)}(hc:dz X (.builtin id) g)(hg:Gl X x)(hm:X.mg x=none)(hv:bootBuiltins x=some (.builtin id))(ha:DG X (e ::es) fs)(hn:x≠"__name__":=by decide)(kK:(x==("__debug__":Str))=false:=by decide)
 (he:starEach (e ::es) X.env=(false,eval e X.env) ::starEach es X.env:=by rfl) (nE:(backTo pos (starEach es X.env)).any (·.1)=false:=by rfl):PD X (.Call (.Name x p) (e ::es) [] pos) (bf g fs):=
 (ud hc.r hg hm hv ha hn kK he nE).imp fun σ H Q h=>BK h
theorem CY{g:List D->R D}{x:Str}{T:String}{p pos:Pos}{e:Expr}{es:List Expr}{fs:aw->R (List D)}(hc:dz X (.type T) g)(hg:Gl X x)(hm:X.mg x=none)(hv:bootBuiltins x=some (.type T))(ha:DG X (e ::es) fs)(hn:x≠"__name__":=by decide)(kK:(x==("__debug__":Str))=false:=by decide)
 (he:starEach (e ::es) X.env=(false,eval e X.env) ::starEach es X.env:=by rfl) (nE:(backTo pos (starEach es X.env)).any (·.1)=false:=by rfl):PD X (.Call (.Name x p) (e ::es) [] pos) (bf g fs):=
 (vt hc.r hg hm hv ha hn kK he nE).imp fun σ H Q h=>BK h
def Jg(K:W.Frag)(n:Nat)(g:List D->R D):Sp:=fun vs H Q _=>vs.length=n/\∃B ds d,(∀a∈B,∃o,H a=some o)/\aG K B H ds vs/\g ds= .ok d/\∀z H',aS H H'->Rep K B H' d z->Q z H'
theorem IW{g:List D->R D}{k n:Nat}{f:Addr}{fd:FuncData}{ps:List Str}{x:Str}{p pos:Pos}{e:Expr}{es:List Expr}{fs:aw->R (List D)}
 (F:jk X.prog X.w X.K X.mg X.base vT k f fd ps (Jg X.K n g)) (hr:dU k X.A) (hg:Gl X x) (hm:X.mg x=some (.ref f)) (hk:PySem.W.keepIn X.K (.ref f)=true) (hb:Binds X.K fd ps []) (ha:DG X (e ::es) fs)
 (hn:∀δ ds,fs δ= .ok ds->ds.length=n) (kK:(x==("__debug__":Str))=false:=by decide) (he:starEach (e ::es) X.env=(false,eval e X.env) ::starEach es X.env:=by rfl) (nE:(backTo pos (starEach es X.env)).any (·.1)=false:=by rfl) :
 PD X (.Call (.Name x p) (e ::es) [] pos) (bf g fs):=
 (xg F hr hg hm hk hb .nil Fx ha kK he nE).imp fun σ H Q ⟨Z,B,δ,d,E,hf,q⟩=>by
   obtain⟨ds,h1,h2⟩:=R.ak hf;refine⟨Z,B,δ,ds,E,h1,fun vs H1 s1 r1=>?_⟩
   show Jg X.K n g (vs++[]) H1 Q E0;rw[List.append_nil];exact⟨by rw[<-r1.length];exact hn δ ds h1,B,ds,d,(E.same s1).bs,r1,h2,fun z H' s2 r2=>q z H' (s1.trans s2) r2⟩
end
end L2
end
section
namespace L2
open PySem PySem.Spec PyProof.Rows
inductive Out where
 | nx (δ:aw) | rt (d:D)
abbrev FS:=aw->R Out
structure Ev (Z B:List Addr) (H:Hp) (B':List Addr) (H':Hp):Prop where
 bF:dD B H B' H'
 zs:∀b o,H b=some o->b∈Z->H' b=some o/\b∈B'
theorem Ev.refl(Z B:List Addr)(H:Hp)(zb:∀a∈Z,a∈B):Ev Z B H B H:=⟨dD.refl B H,fun b o e z=>⟨e,zb b z⟩⟩
theorem Ev.trans{Z B B' Qr:List Addr}(a:Ev Z B H B' H')(b:Ev Z B' H' Qr qa):Ev Z B H Qr qa:=
 ⟨a.bF.trans b.bF,fun c o e z=>let⟨e1,_⟩:=a.zs c o e z;b.zs c o e1 z⟩
theorem Ev.same{Z B:List Addr}(zb:∀a∈Z,a∈B)(s:aS H H'):Ev Z B H B H':=⟨dD.same s,fun b o e z=>⟨s b o e,zb b z⟩⟩
def Ba(K:W.Frag)(Z B:List Addr)(H:Hp)(D:Ends):Out->Prop
 | .nx dC=>∀cw B' H',Ev Z B H B' H'->dS K Z B' H' cw dC->D.nx cw H'
 | .rt d=>∀v B' H',Ev Z B H B' H'->(∀a∈Z,a∈B')->Rep K B' H' d v->D.rt v H'
theorem Ba.ev{K:W.Frag}{Z B B1:List Addr}{D:Ends}{o:Out}(q:Ba K Z B H D o)(ev:Ev Z B H B1 H1):Ba K Z B1 H1 D o:=by
 cases o with
 | nx dC=>exact fun cw B' H' G4 E'=>q cw B' H' (ev.trans G4) E'
 | rt d=>exact fun v B' H' G4 z r=>q v B' H' (ev.trans G4) z r
def sD(K:W.Frag)(F:FS):TS:=fun D σ H=>∃Z B δ o,dS K Z B H σ δ/\F δ= .ok o/\Ba K Z B H D o
abbrev G_(X:Cx)(st:Stmt)(F:FS):Prop:=PS X st (sD X.K F)
abbrev sC(X:Cx)(st:List Stmt)(F:FS):Prop:=wX X st (sD X.K F)
section
variable {X:Cx}
def mO:FS:=fun δ=> .ok (.nx δ)
def br(F G:FS):FS:=fun δ=>(F δ).bind fun o=>match o with | .nx dC=>G dC | .rt d=> .ok (.rt d)
theorem Jw:sC X [] mO:=wy.imp fun D σ H ⟨Z,B,δ,o,E,hf,q⟩=>by
 cases hf;exact q σ B H (Ev.refl Z B H E.zb) E
theorem Mr{K:W.Frag}{F G:FS}{D:Ends}(h:sD K (br F G) D σ H):Pc (sD K F) (sD K G) D σ H:=by
 obtain⟨Z,B,δ,o,E,hf,q⟩:=h;obtain⟨o1,h1,h2⟩:=R.ak hf;refine⟨Z,B,δ,o1,E,h1,?_⟩;cases o1 with
 | nx δ1=>
   intro N5 B1 H1 ev E1;refine⟨Z,B1,δ1,o,E1,h2,?_⟩;cases o with
   | nx jj=>exact fun cw B' H' G4 E'=>q cw B' H' (ev.trans G4) E'
   | rt d=>exact fun v B' H' G4 z r=>q v B' H' (ev.trans G4) z r
 | rt d=>
   cases h2;exact q
theorem FJ{st:Stmt}{rest:List Stmt}{F G:FS}(h1:G_ X st F)(h2:sC X rest G):sC X (st ::rest) (br F G):=(ua h1 h2).imp fun D σ H h=>Mr h
theorem Hz{st:Stmt}{F:FS}(h1:G_ X st F):sC X [st] F:=xj h1
theorem dS.set{K:W.Frag}{Z B:List Addr}{σ:St}{δ:aw}(E:dS K Z B H σ δ){i:Nat}{d:D}{v:V}(hi:i < σ.length)(r:Rep K B H d v):dS K Z B H (σ.set i (some v)) (δ.set i (.val d)) where
 len:=by rw[List.length_set,List.length_set];exact E.len
 bs:=E.bs
 zb:=E.zb
 val:=fun j d' e=>by
  by_cases h:i=j
  .subst h;rw[List.getElem?_set_self (by rw[E.len];exact hi)] at e
   cases e;exact⟨v,List.getElem?_set_self hi,r⟩
  .rw [List.getElem?_set_ne h] at e ⊢;exact E.val j d' e
 bld:=fun j ds e=>by
  by_cases h:i=j
  .subst h;rw[List.getElem?_set_self (by rw[E.len];exact hi)] at e
   cases e
  .rw [List.getElem?_set_ne h] at e ⊢;exact E.bld j ds e
 dis:=fun j k a ds es e1 e2 e3 e4=>by
  by_cases h:i=j
  .subst h;rw[List.getElem?_set_self (by rw[E.len];exact hi)] at e1
   cases e1
  .by_cases h':i=k
   .subst h';rw[List.getElem?_set_self (by rw[E.len];exact hi)] at e2
    cases e2
   .rw [List.getElem?_set_ne h] at e1 e3;rw[List.getElem?_set_ne h'] at e2 e4;exact E.dis j k a ds es e1 e2 e3 e4
theorem dS.setB{K:W.Frag}{Z B:List Addr}{H:Hp}{σ:St}{δ:aw}(E:dS K Z B H σ δ){i:Nat}{ds:List D}{a:Addr}{xs:List V}(hi:i < σ.length)(hB:a∈B)(hZ:a ∉ Z)(hH:H a=some (.lst xs))(r:aG K B H ds xs)
 (new:∀j es,j≠i->δ[j]? =some (.bld es)->σ[j]?≠some (some (.ref a))):dS K Z B H (σ.set i (some (.ref a))) (δ.set i (.bld ds)) where
 len:=by rw[List.length_set,List.length_set];exact E.len
 bs:=E.bs
 zb:=E.zb
 val:=fun j d' e=>by
  by_cases h:i=j
  .subst h;rw[List.getElem?_set_self (by rw[E.len];exact hi)] at e
   cases e
  .rw [List.getElem?_set_ne h] at e ⊢;exact E.val j d' e
 bld:=fun j es e=>by
  by_cases h:i=j
  .subst h;rw[List.getElem?_set_self (by rw[E.len];exact hi)] at e
   cases e;exact⟨a,xs,List.getElem?_set_self hi,hB,hZ,hH,r⟩
  .rw [List.getElem?_set_ne h] at e ⊢;exact E.bld j es e
 dis:=fun j k b Qz Qt e1 e2 e3 e4=>by
  by_cases h:i=j
  .subst h;by_cases h':i=k
   .exact h'
   .rw [List.getElem?_set_self hi] at e3;cases e3;rw[List.getElem?_set_ne h'] at e2 e4;exact absurd e4 (new k Qt (Ne.symm h') e2)
  .by_cases h':i=k
   .subst h';rw[List.getElem?_set_self hi] at e4;cases e4;rw[List.getElem?_set_ne h] at e1 e3;exact absurd e3 (new j Qz (Ne.symm h) e1)
   .rw [List.getElem?_set_ne h] at e1 e3;rw[List.getElem?_set_ne h'] at e2 e4;exact E.dis j k b Qz Qt e1 e2 e3 e4
def b9(i:Nat)(f:FD):FS:=fun δ=>(f δ).bind fun d=>R.aW (decide (i < δ.length)) (.ok (.nx (δ.set i (.val d))))
theorem LL{K:W.Frag}{i:Nat}{D:Ends}(h:sD K (b9 i f) D σ H):IM (tD K f) (Bs i) D σ H:=by
 obtain⟨Z,B,δ,o,E,hf,q⟩:=h;obtain⟨d,h1,h2⟩:=R.ak hf;obtain⟨hi,h3⟩:=R.aQ h2;cases h3;refine⟨Z,B,δ,d,E,h1,fun v H1 s1 r1=>?_⟩
 exact q _ B H1 (Ev.same E.zb s1) ((E.same s1).set (by rw[<-E.len];exact of_decide_eq_true hi) r1)
theorem HF{i:Nat}{pos pos':Pos}(hN:X.N.Nodup)(hi:X.N[i]? =some x)(hx:Loc X.env.scope x)(he:PD X e f)(hs:swapsWith e (some (.Name x pos')) pos.line X.env=pure false:=by rfl)(hf:X.fn x=true\/X.env.scope.names.lookup x=some .local:=by first | exact .inl rfl | exact .inr rfl | assumption) :
 G_ X (.Assign [.Name x pos'] e pos) (b9 i f):=(Av hN hi hx he hs hf).imp fun D σ H h=>LL h
def yO(i:Nat)(f:aw->R (List D)):FS:=fun δ=>(f δ).bind fun ds=>R.aW (decide (i < δ.length)) (.ok (.nx (δ.set i (.bld ds))))
theorem Lm{K:W.Frag}{i:Nat}{f:aw->R (List D)}{D:Ends}(h:sD K (yO i f) D σ H):IM (tN K f) (Bs i) D σ H:=by
 obtain⟨Z,B,δ,o,E,hf,q⟩:=h;obtain⟨ds,h1,h2⟩:=R.ak hf;obtain⟨hi,h3⟩:=R.aQ h2;cases h3;refine⟨Z,B,δ,ds,E,h1,fun a xs H1 s1 n e r=>?_⟩
 have E1:=E.same s1;have aB:a ∉ B:=fun ha=>by obtain⟨o,ho⟩:=E.bs a ha;rw [n] at ho;cases ho
 have nZ:a ∉ Z:=fun ha=>aB (E.zb a ha)
 have p0:dD B H (a ::B) H1:=fun b o e' nb=>⟨s1 b o e',fun hb=>by
  rcases List.mem_cons.mp hb with z | z
  .subst z;rw [n] at e';cases e'
  .exact nb z⟩
 have E2:dS K Z (a ::B) H1 σ δ:={
  len:=E.len
  bs:=fun b hb=>by
   rcases List.mem_cons.mp hb with z | z
   .subst z;exact⟨_,e⟩
   .exact E1.bs b z
  zb:=fun b hb=>List.mem_cons_of_mem _ (E.zb b hb)
  val:=fun j d e=>let⟨v,q1,q2⟩:=E.val j d e;⟨v,q1,q2.bF p0⟩
  bld:=fun j es e=>let⟨b,ys,q1,q2,q3,q4,q5⟩:=E.bld j es e;⟨b,ys,q1,List.mem_cons_of_mem _ q2,q3,s1 b _ q4,q5.bF p0⟩
  dis:=E.dis}
 refine q _ (a ::B) H1 ⟨p0,fun b o e' hb=>⟨s1 b o e',List.mem_cons_of_mem _ (E.zb b hb)⟩⟩ (E2.setB (by rw[<-E.len];exact of_decide_eq_true hi) List.mem_cons_self nZ e r fun j es hj ej JQ=>?_)
 obtain⟨b,ys,q1,_,_,q4,_⟩:=E.bld j es ej;rw[JQ] at q1;cases q1;rw[n] at q4;cases q4
theorem HY{i:Nat}{f:aw->R (List D)}{pos pos':Pos}(hN:X.N.Nodup)(hi:X.N[i]? =some x)(hx:Loc X.env.scope x)(he:PN X e f)(hs:swapsWith e (some (.Name x pos')) pos.line X.env=pure false:=by rfl)(hf:X.fn x=true\/X.env.scope.names.lookup x=some .local:=by first | exact .inl rfl | exact .inr rfl | assumption) :
 G_ X (.Assign [.Name x pos'] e pos) (yO i f):=(Av hN hi hx he hs hf).imp fun D σ H h=>Lm h
theorem dS.grow{K:W.Frag}{Z B:List Addr}{H:Hp}{σ:St}{δ:aw}(E:dS K Z B H σ δ){i:Nat}{ds es:List D}{a:Addr}{xs ys:List V}(hd:δ[i]? =some (.bld ds))(JQ:σ[i]? =some (some (.ref a)))(hB:a∈B)(hH:H a=some (.lst xs))(r:aG K B H es ys) :
 dS K Z B (upd H a (.lst ys)) σ (δ.set i (.bld es))/\dD B H B (upd H a (.lst ys)):=by
 have p:dD B H B (upd H a (.lst ys)):=fun b o e nb=>⟨by rw[bt (fun(z:b=a)=>nb (by rw[z];exact hB))];exact e,nb⟩
 have hi:i < δ.length:=(List.getElem?_eq_some_iff.mp hd).1;refine⟨{
  len:=by rw[List.length_set];exact E.len
  bs:=fun b hb=>by
   by_cases z:b=a
   .subst z;exact⟨_,ba⟩
   .rw [bt z];exact E.bs b hb
  zb:=E.zb
  val:=fun j d e=>by
   by_cases h:i=j
   .subst h;rw [List.getElem?_set_self hi] at e;cases e
   .rw [List.getElem?_set_ne h] at e;obtain⟨v,q1,q2⟩:=E.val j d e;exact⟨v,q1,q2.bF p⟩
  bld:=fun j fs e=>by
   by_cases h:i=j
   .subst h;rw [List.getElem?_set_self hi] at e;cases e;obtain⟨b,zs,q1,q2,q3,_,_⟩:=E.bld i ds hd;rw[JQ] at q1;cases q1;exact⟨a,ys,JQ,hB,q3,ba,r.bF p⟩
   .rw [List.getElem?_set_ne h] at e;obtain⟨b,zs,q1,q2,q3,q4,q5⟩:=E.bld j fs e;have ne:b≠a:=fun z=>by subst z;exact h (E.dis i j b ds fs hd e JQ q1)
    exact⟨b,zs,q1,q2,q3,by rw[bt ne];exact q4,q5.bF p⟩
  dis:=fun j k b Qz Qt e1 e2 e3 e4=>by
   have f1:∃fs,δ[j]? =some (.bld fs):=by
    by_cases h:i=j
    .subst h;exact⟨ds,hd⟩
    .rw [List.getElem?_set_ne h] at e1;exact⟨_,e1⟩
   have f2:∃fs,δ[k]? =some (.bld fs):=by
    by_cases h:i=k
    .subst h;exact⟨ds,hd⟩
    .rw [List.getElem?_set_ne h] at e2;exact⟨_,e2⟩
   obtain⟨_,f1⟩:=f1;obtain⟨_,f2⟩:=f2;exact E.dis j k b _ _ f1 f2 e3 e4},p⟩
theorem Ev.grow{Z B:List Addr}{a:Addr}{o:HO}(zb:∀a∈Z,a∈B)(hZ:a ∉ Z)(p:dD B H B (upd H a o)):Ev Z B H B (upd H a o):=
 ⟨p,fun b u e hb=>⟨by rw[bt (fun(z:b=a)=>hZ (by rw[<-z];exact hb))];exact e,zb b hb⟩⟩
def uD(δ:aw)(i:Nat):R (List D):=match δ[i]? with | some (.bld ds)=> .ok ds | _=> .no
theorem Fi{δ:aw}{i:Nat}{ds:List D}(h:uD δ i= .ok ds):δ[i]? =some (.bld ds):=by
 unfold uD at h;split at h
 .rename_i q;cases h;exact q
 .cases h
def wV(i:Nat)(f:FD):FS:=fun δ=>(f δ).bind fun d=>(uD δ i).bind fun ds=>R.aW (decide (ds.length < sizeLine)) (.ok (.nx (δ.set i (.bld (ds++[d])))))
theorem Jr{i:Nat}{x:Str}{e:Expr}{f:FD}{oI apos bj pos:Pos}(hN:X.N[i]? =some x)(hv:Kb X.env.scope x)(he:PD X e f)
 (hd:(x==("__debug__":Str))=false:=by decide) (uJ:(x==("__classdict__":Str))=false:=by decide)
 (hs:starEach [e] X.env=(false,eval e X.env) ::starEach [] X.env:=by rfl) (eI:(apos.endLine==bj.line)=true:=by rfl)
 (kG:((backTo bj (starEach [e] X.env)).all (fun x=>!x.1) && (backToKw bj (keywordEach [] X.env)).all (fun x=>x.1.isSome)
   && decide (([e]:List Expr).length+([]:List Keyword).length+(if([]:List Keyword).isEmpty then 0 else 1) < 30))=true:=by rfl)
 (G0:swapsWith (.Call (.Attribute (.Name x oI) "append" apos) [e] [] bj) none pos.line X.env=pure false:=by rfl)
 (eJ:attributeBase (.Name x oI) "append" X.env (eval (.Name x oI) X.env)=eval (.Name x oI) X.env:=by rfl) :
 G_ X (.Expr (.Call (.Attribute (.Name x oI) "append" apos) [e] [] bj) pos) (wV i f):=by
 refine(qM (y8 (X:=X) PySem.F.plainAttrs_list PySem.F.slot_list_append PySem.F.type_list_append l9 (w_ hN hv hd uJ) (gL he lJ hs) eJ kG eI hs) G0).imp fun D σ H ⟨Z,B,δ,o,E,hf,q⟩=>?_
 obtain⟨d,h1,h2⟩:=R.ak hf;obtain⟨ds,h3,h4⟩:=R.ak h2;obtain⟨hl,h5⟩:=R.aQ h4;cases h5;have hb:=Fi h3;obtain⟨a,xs,q1,q2,q3,q4,q5⟩:=E.bld i ds hb;refine⟨.ref a,q1, .inl ⟨rfl,xs,nL.of q4⟩,⟨Z,B,δ,d,E,h1,fun v H1 s1 r1=>?_⟩⟩
 have E1:=E.same s1;refine⟨a,xs,v,rfl,rfl,s1 a _ q4,by rw[<-q5.length];exact of_decide_eq_true hl,?_⟩
 obtain⟨E2,p2⟩:=E1.grow (es:=ds++[d]) (ys:=xs++[v]) hb q1 q2 (s1 a _ q4) ((q5.same s1).append (aG.cons r1 aG.nil));exact q σ B _ ((Ev.same E.zb s1).trans (Ev.grow E.zb q3 p2)) E2
def XD(i:Nat)(f:aw->R (List D)):FS:=fun δ=>(f δ).bind fun es=>(uD δ i).bind fun ds=>R.aW (decide (ds.length+es.length<=sizeLine)) (.ok (.nx (δ.set i (.bld (ds++es)))))
def ik(i:Nat)(δ:aw):aw:=match δ[i]? with | some (.bld ds)=>δ.set i (.val (.lst ds)) | _=>δ
theorem dS.ik{K:W.Frag}{Z B:List Addr}{δ:aw}(E:dS K Z B H σ δ)(i:Nat):∃B',Ev Z B H B' H/\dS K Z B' H σ (ik i δ):=by
 unfold L2.ik;cases hd:δ[i]? with
 | none=>exact⟨B,Ev.refl Z B H E.zb,E⟩
 | some x=>
   cases x with
   | un=>exact⟨B,Ev.refl Z B H E.zb,E⟩
   | val d=>exact⟨B,Ev.refl Z B H E.zb,E⟩
   | bld ds=>
     obtain⟨a,xs,q1,q2,q3,q4,q5⟩:=E.bld i ds hd;have hi:i < δ.length:=(List.getElem?_eq_some_iff.mp hd).1;have p:dD B H (B.filter fun b=>decide (b≠a)) H:=fun b o e nb=>⟨e,fun hb=>nb (List.mem_filter.mp hb).1⟩
     have zb:∀b∈Z,b∈B.filter fun b=>decide (b≠a):=fun b hb=>List.mem_filter.mpr ⟨E.zb b hb,decide_eq_true fun z=>q3 (z▸hb)⟩
     refine⟨B.filter fun b=>decide (b≠a),⟨p,fun b o e hb=>⟨e,zb b hb⟩⟩,{
      len:=by rw[List.length_set];exact E.len
      bs:=fun b hb=>E.bs b (List.mem_filter.mp hb).1
      zb:=zb
      val:=fun j d e=>by
       by_cases h:i=j
       .subst h;rw [List.getElem?_set_self hi] at e;cases e;refine⟨.ref a,q1,?_⟩;unfold Rep;exact⟨a,xs,rfl, .inl ⟨fun hb=>by simpa using(List.mem_filter.mp hb).2, .inl q4⟩,q5.bF p⟩
       .rw [List.getElem?_set_ne h] at e;obtain⟨v,z1,z2⟩:=E.val j d e;exact⟨v,z1,z2.bF p⟩
      bld:=fun j fs e=>by
       by_cases h:i=j
       .subst h;rw [List.getElem?_set_self hi] at e;cases e
       .rw [List.getElem?_set_ne h] at e;obtain⟨b,zs,z1,z2,z3,z4,z5⟩:=E.bld j fs e;exact⟨b,zs,z1,List.mem_filter.mpr ⟨z2,decide_eq_true fun z=>by subst z;exact h (E.dis i j b ds fs hd e q1 z1)⟩,z3,z4,z5.bF p⟩
      dis:=fun j k b Qz Qt e1 e2 e3 e4=>by
       by_cases h:i=j
       .subst h;rw [List.getElem?_set_self hi] at e1;cases e1
       .by_cases h':i=k
        .subst h';rw [List.getElem?_set_self hi] at e2;cases e2
        .rw [List.getElem?_set_ne h] at e1;rw[List.getElem?_set_ne h'] at e2;exact E.dis j k b Qz Qt e1 e2 e3 e4}⟩
def wR(i:Nat)(F:FS):FS:=fun δ=>F (ik i δ)
theorem Ld{K:W.Frag}{i:Nat}{F:FS}{D:Ends}(h:sD K (wR i F) D σ H):sD K F D σ H:=by
 obtain⟨Z,B,δ,o,E,hf,q⟩:=h;obtain⟨B1,ev,E1⟩:=E.ik i;refine⟨Z,B1,L2.ik i δ,o,E1,hf,?_⟩;cases o with
 | nx dC=>exact fun cw B' H' G4 E'=>q cw B' H' (ev.trans G4) E'
 | rt d=>exact fun v B' H' G4 z r=>q v B' H' (ev.trans G4) z r
theorem Hr(i:Nat){F:FS}(h:sC X KI F):sC X KI (wR i F):=h.imp fun D σ H h=>Ld h
def d_(f:FD):FS:=fun δ=>(f δ).bind fun d=> .ok (.rt d)
theorem IH(he:PD X e f):G_ X (.Return (some e) pos) (d_ f):=(GV he).imp fun D σ H ⟨Z,B,δ,o,E,hf,q⟩=>by
 obtain⟨d,h1,h2⟩:=R.ak hf;cases h2;exact⟨Z,B,δ,d,E,h1,fun v H1 s1 r1=>q v B H1 (Ev.same E.zb s1) E.zb r1⟩
def tZ(c:aw->R Bool)(F G:FS):FS:=fun δ=>(c δ).bind fun b=>if b then F δ else G δ
theorem Nb{fc:aw->R Bool}{F G:FS}(hc:PB X c fc)(ha:sC X a F)(hb:sC X b G):G_ X (.If c a b pos) (tZ fc F G):=(E4 hc ha hb).imp fun D σ H ⟨Z,B,δ,o,E,hf,q⟩=>by
 obtain⟨k,h1,h2⟩:=R.ak hf;refine⟨Z,B,δ,k,E,h1,fun H1 s1=>?_⟩
 have q':=q.ev (Ev.same E.zb s1);cases k with
 | true=>rw [if_pos rfl] at h2;exact Gn ⟨Z,B,δ,o,E.same s1,h2,q'⟩
 | false=>rw [if_neg (by decide)] at h2;exact Gy ⟨Z,B,δ,o,E.same s1,h2,q'⟩
abbrev FT:=D->aw->R aw
def gD(K:W.Frag)(t:FT):TG:=fun v σ H Q=>∃Z B δ d dC,dS K Z B H σ δ/\Rep K B H d v/\t d δ= .ok dC/\∀cw H',aS H H'->dS K Z B H' cw dC->cw.length=σ.length->Q cw H'
abbrev NP(X:Cx)(tg:Expr)(t:FT):Prop:=PG X tg (gD X.K t)
def bA(i:Nat):FT:=fun d δ=>R.aW (decide (i < δ.length)) (.ok (δ.set i (.val d)))
theorem Gz{i:Nat}{pos:Pos}(hN:X.N.Nodup)(hi:X.N[i]? =some x)(hx:Loc X.env.scope x)(hf:X.fn x=true\/X.env.scope.names.lookup x=some .local:=by first | exact .inl rfl | exact .inr rfl | assumption):NP X (.Name x pos) (bA i):=
 (AU hN hi hx hf).imp fun v σ H Q ⟨Z,B,δ,d,dC,E,r,ht,q⟩=>by
   obtain⟨hi,h⟩:=R.aQ ht;cases h;exact q _ H (aS.refl H) (E.set (by rw[<-E.len];exact of_decide_eq_true hi) r) (List.length_set ..)
abbrev Ez:=List D->aw->R aw
def YW(K:W.Frag)(t:Ez):Ga:=fun vs σ H Q=>∃Z B δ ds dC,dS K Z B H σ δ/\aG K B H ds vs/\t ds δ= .ok dC/\∀cw H',aS H H'->dS K Z B H' cw dC->cw.length=σ.length->Q cw H'
abbrev Iw(X:Cx)(ts:List Expr)(t:Ez):Prop:=I0 X ts (YW X.K t)
theorem I0.imp{X:Cx}{t t':Ga}(h:I0 X e t)(w:∀v σ H Q,t' v σ H Q->t v σ H Q):I0 X e t':=fun pins s σ H v u Q I r hq=>h pins s σ H v u Q I r (w v σ H Q hq)
def vp:Ez:=fun ds δ=>match ds with | []=> .ok δ | _=> .no
def dj(t:FT)(u:Ez):Ez:=fun ds δ=>match ds with | d ::r=>(t d δ).bind fun dC=>u r dC | []=> .no
theorem FV:Iw X [] vp:=Iy.imp fun vs σ H Q ⟨Z,B,δ,ds,dC,E,r,ht,q⟩=>by
 cases ds with
 | nil=>unfold aG at r;cases ht;exact⟨r,q σ H (aS.refl H) E rfl⟩
 | cons=>cases ht
theorem Cw{u:Ez}(h1:NP X e t)(h2:Iw X es u)(hs:(assignEach (e ::es) X.env).map (·.2)=assign e X.env ::(assignEach es X.env).map (·.2):=by rfl):Iw X (e ::es) (dj t u):=
 (Fq h1 h2 hs).imp fun vs σ H Q ⟨Z,B,δ,ds,dC,E,r,ht,q⟩=>by
   cases ds with
   | nil=>cases ht
   | cons d ds=>
     obtain⟨x,xs,rfl,r1,r2⟩:=r.cq;obtain⟨δ1,h1,h2⟩:=R.ak ht;exact⟨x,xs,rfl,Z,B,δ,d,δ1,E,r1,h1,fun N5 H1 s1 E1 l1=>⟨Z,B,δ1,ds,dC,E1,r2.same s1,h2,fun vj H2 s2 E2 l2=>q vj H2 (s1.trans s2) E2 (l2.trans l1)⟩⟩
def V_(n:Nat)(t:Ez):FT:=fun d δ=>match d with | .tup ds=>R.aW (decide (ds.length=n)) (t ds δ) | _=> .no
def Cj(f:FD)(t:FT):FS:=fun δ=>(f δ).bind fun d=>(t d δ).bind fun dC=> .ok (.nx dC)
theorem Ii{tg e:Expr}{f:FD}{t:FT}{pos:Pos}(he:PD X e f)(hg:NP X tg t)(hs:swapsWithSole [tg] e pos.line X.env=pure false:=by rfl)(hw:swappedStores [tg] e X.env=pure none:=by rfl)
 (h1:(assignEach [tg] X.env).map (·.2)=[assign tg X.env]:=by rfl):G_ X (.Assign [tg] e pos) (Cj f t):=(MD he hg hs hw h1).imp fun D σ H ⟨Z,B,δ,o,E,hf,q⟩=>by
 obtain⟨d,h1,h2⟩:=R.ak hf;obtain⟨δ1,h3,h4⟩:=R.ak h2;cases h4;exact⟨Z,B,δ,d,E,h1,fun v H1 s1 r1=>⟨Z,B,δ,d,δ1,E.same s1,r1,h3,fun cw H2 s2 E2 _=>q cw B H2 (Ev.same E.zb (s1.trans s2)) E2⟩⟩
def GD(K:W.Frag)(B:List Addr)(H:Hp)(J:It)(ds:List D):Prop:=∀B' H',dD B H B' H'->(∀(i:Nat) (d:D),ds[i]? =some d->J.go i H'/\∀x qa,J.yld i H' x qa->(∀a∈B',∃o,H' a=some o)->aS H' qa/\Rep K B' qa d x)/\J.stop ds.length H'
def iD(K:W.Frag)(f:aw->R (List D)):TI:=fun σ H R=>∃Z B δ ds,dS K Z B H σ δ/\f δ= .ok ds/\∀J H1,aS H H1->GD K B H1 J ds->R J H1
abbrev N0(X:Cx)(tg e:Expr)(f:aw->R (List D)):Prop:=PI X tg e (iD X.K f)
def kc(f:FD):aw->R (List D):=fun δ=>(f δ).bind fun d=>match d with | .lst ds=> .ok ds | .tup ds=> .ok ds | _=> .no
theorem Jz(h:PD X e f):N0 X tg e (kc f):=by
 intro pins s σ H RR I ⟨Z,B,δ,ds,E,hf,q⟩;obtain⟨d,h1,h2⟩:=R.ak hf;refine cU (h pins s σ H (fun v H1=>aS H H1/\Rep X.K B H1 d v) I ⟨Z,B,δ,d,E,h1,fun v H1 s1 r1=>⟨s1,r1⟩⟩) fun v s1 ⟨x,H1,I1,r1,ss,rr⟩=>?_
 cases d with
 | lst es=>
   cases h2;unfold Rep at rr;obtain⟨a,xs,rfl,l,rr⟩:=rr;cases r1;obtain⟨its,rv,p,hz⟩:=I1.list l.sq;refine wpAny_pyIter_list p.isList ?_;refine⟨s1.heap.objs.size,[s1.heap.objs.size],_,_,H1,rfl,I1.kept (t':=s1.toks) fun b o e=>Heap.get?_push_of_some _ e,Du a _,⟨_,Heap.get?_push_size _ rfl,rfl,rfl⟩,fun b hb=>?_,q _ H1 ss fun B' H' pr=>?_⟩
   .have e:b=s1.heap.objs.size:=by simpa using hb
    subst e;exact I1.Gh (Nat.le_refl _) (I1.hok.fresh (Nat.le_refl _))
   .have l':yr X.K B' H' a xs:=l.bF pr;have rr':=rr.bF pr;refine⟨fun i d hd=>?_,⟨xs,l'.sq,by rw[rr.length];exact Nat.le_refl _⟩⟩
    obtain⟨x,hx,rx⟩:=rr'.get hd;exact⟨⟨xs,x,l'.sq,hx⟩,fun y qa ⟨e1,e2⟩ _=>by
     subst e1;have:=e2 xs l'.sq;rw[hx] at this;cases this;exact⟨aS.refl _,rx⟩⟩
 | tup es=>
   cases h2;unfold Rep at rr;obtain⟨a,xs,rfl,l,rr⟩:=rr;cases r1;obtain⟨its,rv,p,hz⟩:=I1.tuple l.sq;refine wpAny_pyIter_tuple (show s1.heap.IsTuple a its.toArray from p) ?_
   refine⟨s1.heap.objs.size,[s1.heap.objs.size],_,_,H1,rfl,I1.kept (t':=s1.toks) fun b o e=>Heap.get?_push_of_some _ e,z7 a _,⟨_,Heap.get?_push_size _ rfl,rfl,rfl⟩,fun b hb=>?_,q _ H1 ss fun B' H' pr=>?_⟩
   .have e:b=s1.heap.objs.size:=by simpa using hb
    subst e;exact I1.Gh (Nat.le_refl _) (I1.hok.fresh (Nat.le_refl _))
   .have l':Bp X.K B' H' a xs:=l.elim (fun z=> .inl ⟨(pr.rd z.2 z.1).2,(pr.rd z.2 z.1).1⟩) .inr
    have rr':=rr.bF pr;refine⟨fun i d hd=>?_,⟨xs,l'.sq,by rw[rr.length];exact Nat.le_refl _⟩⟩
    obtain⟨x,hx,rx⟩:=rr'.get hd;exact⟨⟨xs,x,l'.sq,hx⟩,fun y qa ⟨e1,e2⟩ _=>by
     subst e1;have:=e2 xs l'.sq;rw[hx] at this;cases this;exact⟨aS.refl _,rx⟩⟩
 | _=>cases h2
def su(lo:Int)(n:Nat):List D:=(List.range n).map fun(i:Nat)=>D.int (lo+i)
theorem K5{K:W.Frag}{B:List Addr}(lo:Int)(n:Nat):GD K B H (Ox lo n) (su lo n):=fun B' H' _=>by
 refine⟨fun i d hd=>?_,?_⟩
 .unfold su at hd;rw[List.getElem?_map] at hd;cases e:(List.range n)[i]? with
  | none=>rw [e] at hd;cases hd
  | some j=>
    rw[e] at hd;cases hd;obtain⟨hi,ej⟩:=List.getElem?_eq_some_iff.mp e;rw[List.getElem_range] at ej;subst ej;rw[List.length_range] at hi;exact⟨hi,fun x qa ⟨e1,e2⟩ _=>by subst e1 e2;exact⟨aS.refl _,by unfold Rep;rfl⟩⟩
 .show n<=(su lo n).length;unfold su;rw[List.length_map,List.length_range];exact Nat.le_refl _
def j9(f:FD):aw->R (List D):=fun δ=>(f δ).bind fun d=>match d with | .int j=>R.aW (decide (-(2 ^ 62)<=j/\j < 2 ^ 62)) (.ok (su 0 j.toNat)) | _=> .no
theorem Au{tg a:Expr}{p pos:Pos}(h:PD X a f)(hg:Gl X "range")(hm:X.mg "range"=none)(hs:starEach [a] X.env=[(false,eval a X.env)]:=by rfl):N0 X tg (.Call (.Name "range" p) [a] [] pos) (j9 f):=
 (B0 hg hm (gL h lJ hs) hs).imp fun σ H RR ⟨Z,B,δ,ds,E,hf,q⟩=>by
   obtain⟨d,h1,h2⟩:=R.ak hf;cases d with
   | int j=>
     obtain⟨hb,h3⟩:=R.aQ h2;cases h3;have hb:=of_decide_eq_true hb;refine⟨Z,B,δ, .int j,E,h1,fun v H1 s1 r1=>⟨j,?_,hb.1,hb.2,q _ H1 s1 (K5 0 _)⟩⟩
     unfold Rep at r1;rw[r1]
   | _=>cases h2
def RU(f g:FD):aw->R (List D):=fun δ=>(f δ).bind fun d=>(g δ).bind fun e=>match d,e with
 | .int i, .int j=>R.aW (decide (-(2 ^ 62)<=i/\i < 2 ^ 62/\ -(2 ^ 62)<=j/\j < 2 ^ 62)) (.ok (su i (j - i).toNat)) | _,_=> .no
def kh(t:FT)(body:FS):List D->FS
 | [],δ=> .ok (.nx δ)
 | d ::ds,δ=>(t d δ).bind fun δ1=>(body δ1).bind fun o=>match o with | .nx jj=>kh t body ds jj | .rt r=> .ok (.rt r)
def vi(it:aw->R (List D))(t:FT)(body:FS):FS:=fun δ=>(it δ).bind fun ds=>kh t body ds δ
theorem HL{tg iter:Expr}{body:List Stmt}{it:aw->R (List D)}{t:FT}{F:FS}{pos:Pos}(hp:PassesOwn (model X.prog X.w) X.A X.env X.xe)(hc:X.calm=true)(hi:N0 X tg iter it)(hg:NP X tg t)(hb:sC X body F)
 (hs:∀x,foldedSetIterable iter X.env x=pure x:=by intro _;rfl):G_ X (.For tg iter body [] pos) (vi it t F):=(Aq hp hc hi hg hb hs).imp fun D σ H ⟨Z,B,δ,o,E,hf,q⟩=>by
 obtain⟨ds,h1,h2⟩:=R.ak hf;refine⟨Z,B,δ,ds,E,h1,fun J H1 s1 ir=>?_⟩
 refine⟨fun i m cw H'=>m=ds.length - i/\i<=ds.length/\∃B' dC,Ev Z B H1 B' H'/\dS X.K Z B' H' cw dC/\kh t F (ds.drop i) dC= .ok o,⟨ds.length,rfl,Nat.zero_le _,B,δ,Ev.refl Z B H1 E.zb,E.same s1,by simpa using h2⟩,?_⟩
 rintro i m cw H' ⟨rfl,hi,B',dC,ev,E',hl⟩;obtain⟨go,stop⟩:=ir B' H' ev.bF;by_cases hlt:i < ds.length
 .have hd:ds[i]? =some ds[i]:=List.getElem?_eq_getElem hlt;have hdrop:ds.drop i=ds[i] ::ds.drop (i+1):=List.drop_eq_getElem_cons hlt;rw[hdrop] at hl;obtain⟨δ1,h3,h4⟩:=R.ak hl;obtain⟨o1,h5,h6⟩:=R.ak h4;obtain⟨g1,g2⟩:=go i _ hd;refine .inr ⟨g1,fun vj H2=>∃B2 jj,Ev Z B H1 B2 H2/\dS X.K Z B2 H2 vj jj/\kh t F (ds.drop (i+1)) jj= .ok o,fun vj H2 n=>⟨ds.length - (i+1),by omega,rfl,hlt,n⟩,fun x qa y=>?_⟩
  obtain⟨ss,rr⟩:=g2 x qa y E'.bs;refine⟨Z,B',dC,ds[i],δ1,E'.same ss,rr,h3,fun vj H2 s2 E2 l2=>⟨Z,B',δ1,o1,E2,h5,?_⟩⟩
  have ev2:Ev Z B H1 B' H2:=ev.trans (Ev.same E'.zb (ss.trans s2));cases o1 with
  | nx jj=>exact fun Hn B3 H3 Vu E3=>⟨B3,jj,ev2.trans Vu,E3,h6⟩
  | rt d=>
    cases h6;exact fun v B3 H3 Vu z r=>q v B3 H3 ((Ev.same E.zb s1).trans (ev2.trans Vu)) z r
 .have e:i=ds.length:=by omega
  subst e;rw[List.drop_length] at hl;cases hl;exact .inl ⟨stop,q cw B' H' ((Ev.same E.zb s1).trans ev) E'⟩
def F0(c:aw->R Bool)(body:FS):Nat->FS
 | 0,_=> .no
 | n+1,δ=>(c δ).bind fun b=>if b then(body δ).bind fun o=>match o with | .nx jj=>F0 c body n jj | .rt r=> .ok (.rt r) else .ok (.nx δ)
def R5(n:Nat)(c:aw->R Bool)(body:FS):FS:=fun δ=>F0 c body n δ
def tM(δ:aw)(i:Nat):Sl:=match δ[i]? with | some (.val d)=> .val d | _=> .un
def uV(own:List Str)(kp:List Nat)(δ:aw):aw:=List.replicate own.length .un++kp.map (tM δ)
def qW(t:FT)(c:aw->R Bool)(f:FD)(δ:aw):List D->R (List D)
 | []=> .ok []
 | d ::ds=>(t d δ).bind fun δ1=>(c δ1).bind fun b=>if b then(f δ1).bind fun y=>(qW t c f δ ds).bind fun ys=> .ok (y ::ys) else qW t c f δ ds
def ny(it:aw->R (List D))(t:FT)(c:aw->R Bool)(f:FD)(own:List Str)(kp:List Nat):aw->R (List D):=fun δ=>(it δ).bind fun ds=>R.aW (decide (ds.length<=sizeLine)) (qW t c f (uV own kp δ) ds)
theorem Lc{K:W.Frag}{Z B B':List Addr}{H H':Hp}{δ:aw}{own:List Str}{kp:List Nat}(E:dS K Z B H σ δ)(p:dD B H B' H')(hB:∀a∈B',∃o,H' a=some o):dS K [] B' H' (de own kp σ) (uV own kp δ) where
 len:=by unfold de uV;simp
 bs:=hB
 zb:=fun a ha=>by cases ha
 val:=fun i d e=>by
  unfold uV at e;unfold de;by_cases hi:i < own.length
  .rw [List.getElem?_append_left (by simpa using hi),List.getElem?_replicate] at e
   split at e <;> cases e
  .rw [List.getElem?_append_right (by simpa using hi),List.length_replicate,List.getElem?_map] at e ⊢
   cases q:kp[i - own.length]? with
   | none=>rw [q] at e;cases e
   | some j=>
     rw[q] at e;have e:tM δ j= .val d:=Option.some.inj e;unfold tM at e;split at e
     .rename_i d' ed;cases e;obtain⟨v,h1,h2⟩:=E.val j d ed;exact⟨v,by simp [h1],h2.bF p⟩
     .cases e
 bld:=fun i ds e=>by
  unfold uV at e;by_cases hi:i < own.length
  .rw [List.getElem?_append_left (by simpa using hi),List.getElem?_replicate] at e
   split at e <;> cases e
  .rw [List.getElem?_append_right (by simpa using hi),List.length_replicate,List.getElem?_map] at e
   cases q:kp[i - own.length]? with
   | none=>rw [q] at e;cases e
   | some j=>
     rw[q] at e;have e:tM δ j= .bld ds:=Option.some.inj e;unfold tM at e;split at e <;> cases e
 dis:=fun i j a ds es e=>by
  unfold uV at e;by_cases hi:i < own.length
  .rw [List.getElem?_append_left (by simpa using hi),List.getElem?_replicate] at e
   split at e <;> cases e
  .rw [List.getElem?_append_right (by simpa using hi),List.length_replicate,List.getElem?_map] at e
   cases q:kp[i - own.length]? with
   | none=>rw [q] at e;cases e
   | some j=>
     rw[q] at e;have e:tM δ j= .bld ds:=Option.some.inj e;unfold tM at e;split at e <;> cases e
theorem Ig{K:W.Frag}{it:aw->R (List D)}{c:aw->R Bool}{own:List Str}{kp:List Nat}{Q:VK}(h:tN K (ny it t c f own kp) σ H Q) :
 Eu (iD K it) (gD K t) (MR K c) (tD K f) own kp σ H Q:=by
 obtain⟨Z,B,δ,ds,E,hf,q⟩:=h;obtain⟨es,h1,h2⟩:=R.ak hf;obtain⟨hl,h3⟩:=R.aQ h2;have hl:=of_decide_eq_true hl;refine⟨Z,B,δ,es,E,h1,fun J H1 s1 ir Dd hD=>?_⟩
 have E1:=E.same s1;have pD:dD B H1 (Dd ::B) (upd H1 Dd (.lst [])):=y6 hD;refine⟨fun i m ys H'=>m=es.length - i/\i<=es.length/\ys.length<=i/\H' Dd=some (.lst ys)/\aS H1 H'/\∃done rest,ds=done++rest/\aG K (Dd ::B) H' done ys/\qW t c f (uV own kp δ) (es.drop i)= .ok rest,
  ⟨es.length,rfl,Nat.zero_le _,Nat.le_refl _,ba,bG hD,[],ds,rfl,aG.nil,by simpa using h3⟩,?_⟩
 rintro i m ys H' ⟨rfl,hi,hy,hDl,ss,done,rest,rfl,rd,hc⟩;have dB:Dd ∉ B:=fun hb=>by obtain⟨o,ho⟩:=E1.bs Dd hb;rw [hD] at ho;cases ho
 have p':dD B H1 (Dd ::B) H':=fun b o e nb=>⟨ss b o e,fun hb=>by
  rcases List.mem_cons.mp hb with z | z
  .exact bK e hD z
  .exact nb z⟩
 have hB':∀a∈Dd ::B,∃o,H' a=some o:=fun a ha=>by
  rcases List.mem_cons.mp ha with z | z
  .subst z;exact⟨_,hDl⟩
  .obtain⟨o,ho⟩:=E1.bs a z;exact⟨o,ss a o ho⟩
 obtain⟨go,stop⟩:=ir (Dd ::B) H' p';by_cases hlt:i < es.length
 .have hd:es[i]? =some es[i]:=List.getElem?_eq_getElem hlt;have hdrop:es.drop i=es[i] ::es.drop (i+1):=List.drop_eq_getElem_cons hlt;rw[hdrop] at hc;obtain⟨δ1,h4,h5⟩:=R.ak hc;obtain⟨b,h6,h7⟩:=R.ak h5;obtain⟨g1,g2⟩:=go i _ hd;refine .inr ⟨g1,fun x H2 y=>?_⟩
  obtain⟨sy,ry⟩:=g2 x H2 y hB';have Ec:dS K [] (Dd ::B) H2 (de own kp σ) (uV own kp δ):=Lc E1 (p'.trans (dD.same sy)) fun a ha=>let⟨o,ho⟩:=hB' a ha;⟨o,sy a o ho⟩
  refine⟨[],Dd ::B,uV own kp δ,es[i],δ1,Ec,ry,h4,fun Hn H3 s3 E3 _=>⟨[],Dd ::B,δ1,b,E3,h6,fun H4 s4=>?_⟩⟩
  have sAll:aS H' H4:=sy.trans (s3.trans s4);cases b with
  | true=>
    rw[if_pos rfl] at h7;refine Gn ?_;obtain⟨yv,h8,h9⟩:=R.ak h7;obtain⟨rs,Vr,Uc⟩:=R.ak h9;cases Uc;refine⟨[],Dd ::B,δ1,yv,E3.same s4,h8,fun v H5 s5 r5=>?_⟩
    have s':aS H' H5:=sAll.trans s5;have Vo:H5 Dd=some (.lst ys):=s' Dd _ hDl;have pu:dD (Dd ::B) H5 (Dd ::B) (upd H5 Dd (.lst (ys++[v]))):=fun b o e nb=>⟨by rw[bt (fun(z:b=Dd)=>nb (by rw[z];exact List.mem_cons_self))];exact e,nb⟩
    refine⟨Vo,by omega,es.length - (i+1),by omega,rfl,hlt,by rw[List.length_append,List.length_singleton];omega,ba,fun b o e=>?_,done++[yv],rs,by simp,((rd.same s').append (aG.cons r5 aG.nil)).bF pu,Vr⟩
    rw[bt (bK e hD)];exact s' b o (ss b o e)
  | false=>
    rw[if_neg (by decide)] at h7
    refine Gy ?_;exact⟨es.length - (i+1),by omega,rfl,hlt,by omega,sAll Dd _ hDl,ss.trans sAll,done,rest,rfl,rd.same sAll,h7⟩
 .have e:i=es.length:=by omega
  subst e;rw[List.drop_length] at hc;cases hc;rw[List.append_nil] at q;exact .inl ⟨stop,q Dd ys H' (s1.trans ss) (s1.free hD) hDl rd⟩
theorem Ja{scope:Scope}{own:List Str}{kp:List Nat}{kn:List Str}{tg iter elt:Expr}{ifs:List Expr}{it:aw->R (List D)}{t:FT}{c:aw->R Bool}{f:FD}{pos:Pos}(hc:X.calm=true)(C:eU X scope own kp kn)(hi:N0 X tg iter it)
 (hg:∀fp s H,NP (cb X scope (own++kn) fp s H) tg t) (Ni:∀fp s H,uU (cb X scope (own++kn) fp s H) ifs (MR X.K c)) (he:∀fp s H,PD (cb X scope (own++kn) fp s H) elt f)
 (hs:∀x,foldedSetIterable iter X.env x=pure x:=by intro _;rfl):PN X (.ListComp elt [⟨tg,iter,ifs,0⟩] scope pos) (ny it t c f own kp):=
 (Bl hc C hi hg Ni he hs).imp fun σ H Q h=>Ig h
def zC:aw->R Bool:=fun _=> .ok true
theorem Fc:uU X [] (MR X.K zC):=fun pins s σ H Q I ⟨Z,B,δ,b,E,hf,q⟩=>xX pins s σ H Q I (by cases hf;exact q H (aS.refl H))
theorem JD{c:aw->R Bool}(h:PB X e c):uU X [e] (MR X.K c):=Fz h
end
def dn(N:List Str)(ds:List D):aw:=ds.map .val++List.replicate (N.length - ds.length) .un
def va(N:List Str)(F:FS):List D->R D:=fun ds=>(F (dn N ds)).bind fun o=>match o with | .rt d=> .ok d | .nx _=> .ok .cN
theorem IS{K:W.Frag}{B:List Addr}{H:Hp}{N:List Str}{ds:List D}{vs:List V}(hB:∀a∈B,∃o,H a=some o)(r:aG K B H ds vs):dS K B B H (start N vs) (dn N ds) where
 len:=by unfold start dn;simp [r.length]
 bs:=hB
 zb:=fun a ha=>ha
 val:=fun i d e=>by
  unfold dn at e;unfold start;by_cases hi:i < ds.length
  .rw [List.getElem?_append_left (by simpa using hi),List.getElem?_map] at e
   cases q:ds[i]? with
   | none=>rw [q] at e;cases e
   | some d'=>
     rw[q] at e;cases e;obtain⟨x,h1,h2⟩:=r.get q;exact⟨x,by rw[List.getElem?_append_left (by rw[List.length_map,<-r.length];exact hi),List.getElem?_map,h1];rfl,h2⟩
  .rw [List.getElem?_append_right (by simpa using hi),List.getElem?_replicate] at e
   split at e <;> cases e
 bld:=fun i es e=>by
  unfold dn at e;by_cases hi:i < ds.length
  .rw [List.getElem?_append_left (by simpa using hi),List.getElem?_map] at e
   cases q:ds[i]? with
   | none=>rw [q] at e;cases e
   | some d'=>rw [q] at e;cases e
  .rw [List.getElem?_append_right (by simpa using hi),List.getElem?_replicate] at e
   split at e <;> cases e
 dis:=fun i j a es fs e=>by
  unfold dn at e;by_cases hi:i < ds.length
  .rw [List.getElem?_append_left (by simpa using hi),List.getElem?_map] at e
   cases q:ds[i]? with
   | none=>rw [q] at e;cases e
   | some d'=>rw [q] at e;cases e
  .rw [List.getElem?_append_right (by simpa using hi),List.getElem?_replicate] at e
   split at e <;> cases e
theorem Ip{P:Program}{w:World}{K:W.Frag}{mg:Aaf}{base:Heap}{x qual:Str}{st:Stmt}{f:Addr}{fd:FuncData}{N ps:List Str}{k:Nat}{F:FS}(Fn:z0 K x qual st f fd)(S:bC N ps (aJ st))
 (iz:∀(dJ:Value) (A:Around) (outer:List Env) (s:Shared) (H:Hp) (E:XK),dU k (A.deeper (envOfC qual (aJ st) s.heap.objs.size f dJ))->
   sC (md vT P w K mg base N qual (aJ st) f dJ A outer s H E).IZ (a9 st) F):jk P w K mg base vT (k+1) f fd ps (Jg K ps.length (va N F)):=by
 refine Fn.ok S (fun vs H Q E h=>h.1) (fun dJ A outer s H vs Q E hr h=>⟨_,iz dJ A outer s H E hr,?_⟩)
 obtain⟨_,B,ds,d,hB,r,hg,q⟩:=h;obtain⟨o,h1,h2⟩:=R.ak hg;refine⟨B,B,dn N ds,o,IS hB r,h1,?_⟩;have sm:∀{B':List Addr} {H':Hp},Ev B B H B' H'->aS H H':=fun {B' H'} ev b u e=>by
  by_cases hb:b∈B
  .exact(ev.zs b u e hb).1
  .exact(ev.bF b u e hb).1
 cases o with
 | nx dC=>
   cases h2;exact fun cw B' H' ev _=>q _ H' (sm ev) (by unfold Rep;rfl)
 | rt d'=>
   cases h2;exact fun v B' H' ev z rr=>q v H' (sm ev) (rr.bF fun b o e nb=>⟨e,fun hb=>nb (z b hb)⟩)
end L2
end
section
namespace L2
open PySem PySem.Spec PyProof.Rows
theorem Rep.int{K:W.Frag}{B:List Addr}{i:Int}{v:V}:Rep K B H (.int i) v↔v= .int i:=by unfold Rep;exact Iff.rfl
theorem Rep.bl{K:W.Frag}{B:List Addr}{i:Bool}{v:V}:Rep K B H (.bl i) v↔v= .bl i:=by unfold Rep;exact Iff.rfl
theorem Rep.str{K:W.Frag}{B:List Addr}{v:V}:Rep K B H (.str i) v↔v= .str i:=by unfold Rep;exact Iff.rfl
theorem Rep.cN{K:W.Frag}{B:List Addr}{v:V}:Rep K B H .cN v↔v= .cN:=by unfold Rep;exact Iff.rfl
theorem Rep.lst{K:W.Frag}{B:List Addr}{ds:List D}{v:V}:Rep K B H (.lst ds) v↔∃a xs,v= .ref a/\yr K B H a xs/\aG K B H ds xs:=by rw[Rep]
theorem Rep.tup{K:W.Frag}{B:List Addr}{ds:List D}{v:V}:Rep K B H (.tup ds) v↔∃a xs,v= .ref a/\Bp K B H a xs/\aG K B H ds xs:=by rw[Rep]
section
variable {X:Cx}
theorem nJ.of{f:Value->Value->Sem Value}{r:R2}{g:D->D->R D}(h:o5 X f r)
 (w:∀(B:List Addr) (H:Hp) (da db d:D) (x y:V) (Q:VK),(∀a∈B,∃o,H a=some o)->Rep X.K B H da x->Rep X.K B H db y->g da db= .ok d->(∀z H',aS H H'->Rep X.K B H' d z->Q z H')->r x y H Q):nJ X f g:=by
 intro pins s σ H B da db d x y v u I hb rx ry ra rb hg;exact h pins s σ H x y v u _ I rx ry (w B H da db d x y _ hb ra rb hg fun z H' s1 r1=>⟨s1,r1⟩)
theorem dz.of{f:Value}{r:List V->Hp->VK->Prop}{g:List D->R D}(h:kx X f r)
 (w:∀(B:List Addr) (H:Hp) (ds:List D) (d:D) (xs:List V) (Q:VK),(∀a∈B,∃o,H a=some o)->aG X.K B H ds xs->g ds= .ok d->(∀z H',aS H H'->Rep X.K B H' d z->Q z H')->r xs H Q):dz X f g:=by
 intro pins s σ H B ds d xs us I hb rx rs hg;exact h pins s σ H xs us _ I rx (w B H ds d xs _ hb rs hg fun z H' s1 r1=>⟨s1,r1⟩)
theorem dz.or{f:Value}{g g1 g2:List D->R D}(h1:dz X f g1)(h2:dz X f g2)(e:∀a d,g a= .ok d->g1 a= .ok d\/g2 a= .ok d):dz X f g:=by
 intro pins s σ H B ds d xs us I hb rx rs hg;rcases e ds d hg with q | q
 .exact h1 pins s σ H B ds d xs us I hb rx rs q
 .exact h2 pins s σ H B ds d xs us I hb rx rs q
def Hg(C:Int->Int->Bool)(g:Int->Int->Int):D->D->R D
 | .int i, .int j=>R.aW (C i j) (.ok (.int (g i j)))
 | _,_=> .no
theorem Bm{f:Value->Value->Sem Value}{C:Int->Int->Bool}{Cp:Int->Int->Prop}{g:Int->Int->Int}(h:o5 X f (rI Cp fun i j=> .int (g i j)))(hc:∀i j,C i j=true->Cp i j):nJ X f (Hg C g):=
 nJ.of h fun B H da db d x y Q _ ra rb hg q=>by
  unfold Hg at hg;split at hg
  .obtain⟨h1,h2⟩:=R.aQ hg;cases h2;exact⟨_,_,Rep.int.mp ra,Rep.int.mp rb,hc _ _ h1,q _ H (aS.refl H) (Rep.int.mpr rfl)⟩
  .cases hg
def Dm(g:Int->Int->Int):D->D->R D
 | .int i, .int j=> .ok (.int (g i j))
 | _,_=> .no
theorem LS{f:Value->Value->Sem Value}{g:Int->Int->Int}(h:o5 X f (Hf fun i j=> .int (g i j))):nJ X f (Dm g):=
 nJ.of h fun B H da db d x y Q _ ra rb hg q=>by
  unfold Dm at hg;split at hg
  .cases hg;exact⟨_,_,Rep.int.mp ra,Rep.int.mp rb,q _ H (aS.refl H) (Rep.int.mpr rfl)⟩
  .cases hg
def NZ(g:Int->Int->Bool):D->D->R D
 | .int i, .int j=> .ok (.bl (g i j))
 | _,_=> .no
theorem A9{f:Value->Value->Sem Value}{g:Int->Int->Bool}(h:o5 X f (Hf fun i j=> .bl (g i j))):nJ X f (NZ g):=
 nJ.of h fun B H da db d x y Q _ ra rb hg q=>by
  unfold NZ at hg;split at hg
  .cases hg;exact⟨_,_,Rep.int.mp ra,Rep.int.mp rb,q _ H (aS.refl H) (Rep.bl.mpr rfl)⟩
  .cases hg
abbrev OK:D->D->R D:=Dm fun i j=>i - j
theorem Ow:nJ X (binaryOp .Sub) OK:=LS Mo
abbrev gI:D->D->R D:=Hg (fun _ j=>decide (0 < j/\j < 1073741824)) fun i j=>i / j
theorem kC:nJ X (binaryOp .FloorDiv) gI:=Bm Hv fun i j h=>(of_decide_eq_true h:0 < j/\j < 1073741824)
abbrev dv:D->D->R D:=Hg (fun _ j=>decide (0 < j)) fun i j=>i % j
theorem cZ:nJ X (binaryOp .Mod) dv:=Bm LR fun i j h=>of_decide_eq_true h
abbrev Dn:D->D->R D:=Hg (fun i j=>decide (0<=j/\j<=1000000/\i.natAbs < 2 ^ 64)) fun i j=>i ^ j.toNat
theorem EV:nJ X (binaryOp .Pow) Dn:=Bm Lv fun i j h=>(of_decide_eq_true h:0<=j/\j<=1000000/\i.natAbs < 2 ^ 64)
abbrev Pa:D->D->R D:=Hg (fun _ j=>decide (0<=j)) fun i j=>i / 2 ^ j.toNat
theorem Oa:nJ X (binaryOp .RShift) Pa:=Bm Ms fun i j h=>of_decide_eq_true h
abbrev dBa:D->D->R D:=Dm fun i j=>Builtin.bitAnd i j
abbrev dBo:D->D->R D:=Dm fun i j=>Builtin.bitOr i j
abbrev dBx:D->D->R D:=Dm fun i j=>Builtin.bitXor i j
abbrev DJ:D->D->R D:=NZ fun i j=>decide (i < j)
theorem zY:nJ X (compareOp .Lt) DJ:=A9 OR
abbrev S7:D->D->R D:=NZ fun i j=>decide (i<=j)
theorem Tu:nJ X (compareOp .LtE) S7:=A9 Od
abbrev M4:D->D->R D:=NZ fun i j=>decide (j < i)
theorem JC:nJ X (compareOp .Gt) M4:=A9 P7
abbrev Hc:D->D->R D:=NZ fun i j=>decide (j<=i)
theorem Eh:nJ X (compareOp .GtE) Hc:=A9 OG
theorem yr.Aj{K:W.Frag}{B:List Addr}{H:Hp}{a:Addr}{xs:List V}(h:H a=some (.lst xs))(n:a ∉ B):yr K B H a xs:= .inl ⟨n, .inl h⟩
theorem Inv.QY{pins:Aaa}{s:Shared}{a:Addr}{xs:List V}{B:List Addr}(I:Inv X pins σ H s)(h:yr X.K B H a xs):∃(its:List Value) (n:Nat),Vals xs its/\s.heap.get? a=some {cls:= .type "list",data:= .seq its.toArray n}/\xs.length<=sizeLine:=by
 rcases h with⟨_,h⟩ | ⟨its,n,hk,hz,r⟩
 .obtain⟨z,its,n,r,e⟩:=h.ok I.hok;exact⟨its,n,r,e,z⟩
 .exact⟨its,n,r,I.vE a _ hk,hz⟩
theorem Jb:o5 X (binaryOp .Add) (fun x y H Q=>∃B l b xs zs,x= .ref l/\y= .ref b/\yr X.K B H l xs/\yr X.K B H b zs/\xs.length+zs.length<=sizeLine/\∀p,H p=none->Q (.ref p) (upd H p (.lst (xs++zs)))):=by
 intro pins s σ H x y v u Q I rx ry h;obtain⟨B,l,b,xs,zs,rfl,rfl,hH,hB,hz,q⟩:=h;cases rx;cases ry;obtain⟨its,n,r,e,_⟩:=I.QY hH;obtain⟨Qm,n2,r2,e2,_⟩:=I.QY hB;have l1:=r.length;have l2:=r2.length;refine PySem.P.add_list e e2 ?_ (by rw[List.size_toArray,List.size_toArray];omega)
 have ea:its.toArray++Qm.toArray=(its++Qm).toArray:=by simp
 rw[ea];exact⟨.ref _,_,I.Lr (t':=s.toks) (r.append r2) (by rw[List.length_append];omega),rfl,q _ I.fresh⟩
def bD:D->D->R D
 | .int i, .int j=> .ok (.int (i+j))
 | .str a, .str b=>R.aW (decide (a.length+b.length<=sizeLine)) (.ok (.str (a++b)))
 | .lst a, .lst b=>R.aW (decide (a.length+b.length<=sizeLine)) (.ok (.lst (a++b)))
 | _,_=> .no
theorem aV:nJ X (binaryOp .Add) bD:=by
 intro pins s σ H B da db d x y v u I hb rx ry ra rb hg;unfold bD at hg;split at hg
 .cases hg;exact KW pins s σ H x y v u _ I rx ry ⟨_,_,Rep.int.mp ra,Rep.int.mp rb,aS.refl H,Rep.int.mpr rfl⟩
 .obtain⟨h1,h2⟩:=R.aQ hg;cases h2;exact Ah pins s σ H x y v u _ I rx ry ⟨_,_,Rep.str.mp ra,Rep.str.mp rb,of_decide_eq_true h1,aS.refl H,Rep.str.mpr rfl⟩
 .obtain⟨h1,h2⟩:=R.aQ hg;cases h2;obtain⟨a1,W_,rfl,l1,r1⟩:=Rep.lst.mp ra;obtain⟨a2,ZP,rfl,l2,r2⟩:=Rep.lst.mp rb;refine Jb pins s σ H _ _ v u _ I rx ry ⟨B,a1,a2,W_,ZP,rfl,rfl,l1,l2,by rw[<-r1.length,<-r2.length];exact of_decide_eq_true h1,fun p hp=>⟨bG hp,Rep.lst.mpr ⟨p,_,rfl, .Aj ba fun ha=>?_,(r1.append r2).same (bG hp)⟩⟩⟩
  obtain⟨o,ho⟩:=hb p ha;rw[hp] at ho;cases ho
 .cases hg
theorem Ij:o5 X (binaryOp .Mult) (fun x y H Q=>∃z n,x= .str z/\y= .int n/\MulOk z n/\Q (.str (Txt.mul z n)) H):=by
 intro pins s σ H x y v u Q I rx ry h;obtain⟨z,n,rfl,rfl,hm,q⟩:=h;obtain⟨t,rfl⟩:=rx;obtain⟨t',rfl⟩:=ry;exact SB.mul hm fun t2 k=>⟨.str _,H,I.tok _,⟨_,rfl⟩,q⟩
end
end L2
end
section
namespace L2
open PySem PySem.Spec PyProof.Rows
section
variable {X:Cx}
theorem mulOk_of{x:Str}{n:Int}(h1: -(2 ^ 63)<=n)(h2:n < 2 ^ 63)(h3:x.length*n.toNat<=sizeLine):MulOk x n:=by
 refine⟨by simp only[Bool.or_eq_false_iff,decide_eq_false_iff_not];omega,fun hn _=>?_,fun hn _=>?_⟩
 .have hz:sizeLine=16777216:=sizeLine_eq;have e:(n.toNat:Int)=n:=by omega
  have h4:(x.length:Int)*n<=16777216:=by
   have:((x.length*n.toNat:Nat):Int)<=((16777216:Nat):Int):=Int.ofNat_le.mpr (by omega)
   rw[Int.natCast_mul,e] at this;exact this
  have:(x.length:Int)<=(2 ^ 63 - 1) / n:=(Int.le_ediv_iff_mul_le (by omega)).mpr (by omega)
  omega
 .unfold Builtin.Str.tooLong;exact decide_eq_false (by omega)
def mB:D->D->R D
 | .int i, .int j=>R.aW (decide ((-(2 ^ 64) < i/\i < 2 ^ 64)\/(-(2 ^ 64) < j/\j < 2 ^ 64))) (.ok (.int (i*j)))
 | .str x, .int n=>R.aW (decide (-(2 ^ 63)<=n/\n < 2 ^ 63/\x.length*n.toNat<=sizeLine)) (.ok (.str (Txt.mul x n)))
 | _,_=> .no
theorem qD:nJ X (binaryOp .Mult) mB:=by
 intro pins s σ H B da db d x y v u I hb rx ry ra rb hg;unfold mB at hg;split at hg
 .obtain⟨h1,h2⟩:=R.aQ hg;cases h2;have h1:=of_decide_eq_true h1;exact Lu pins s σ H x y v u _ I rx ry ⟨_,_,Rep.int.mp ra,Rep.int.mp rb,h1,aS.refl H,Rep.int.mpr rfl⟩
 .obtain⟨h1,h2⟩:=R.aQ hg;cases h2;have h1:=of_decide_eq_true h1;exact Ij pins s σ H x y v u _ I rx ry ⟨_,_,Rep.str.mp ra,Rep.int.mp rb,mulOk_of h1.1 h1.2.1 h1.2.2,aS.refl H,Rep.str.mpr rfl⟩
 .cases hg
mutual
def toPy:D->PyData
 | .cN=> .none
 | .bl b=> .bool b
 | .int i=> .int i
 | .str x=> .str x
 | .lst ds=> .list (km ds)
 | .tup ds=> .tuple (km ds)
 | .dct _ _=> .dict []
def km:List D->List PyData
 | []=>[]
 | d ::ds=>toPy d ::km ds
end
mutual
def cQ:D->Bool
 | .dct _ _=>false
 | .lst ds=>gA ds
 | .tup ds=>gA ds
 | _=>true
def gA:List D->Bool
 | []=>true
 | d ::ds=>cQ d && gA ds
end
mutual
theorem Rep.reads{pins:Aaa}{s:Shared}{B:List Addr}(I:Inv X pins σ H s):∀{d:D} {v:V} {u:Value},cQ d=true->Rep X.K B H d v->RelV v u->∃as,Reads s.heap u (toPy d) as
 | .cN,v,u,_,r,q=>by rw[Rep.cN.mp r] at q;cases q;unfold toPy;exact⟨_, .none⟩
 | .bl b,v,u,_,r,q=>by rw[Rep.bl.mp r] at q;cases q;unfold toPy;exact⟨_, .bool b⟩
 | .int i,v,u,_,r,q=>by rw[Rep.int.mp r] at q;obtain⟨t,rfl⟩:=q;unfold toPy;exact⟨_, .int i t⟩
 | .str x,v,u,_,r,q=>by rw[Rep.str.mp r] at q;obtain⟨t,rfl⟩:=q;unfold toPy;exact⟨_, .str x t⟩
 | .lst ds,v,u,hp,r,q=>by
   obtain⟨a,xs,rfl,l,rs⟩:=Rep.lst.mp r;cases q;obtain⟨its,rv,⟨o,n,e,hc,hd,he⟩,_⟩:=I.list l.sq;obtain⟨as,ra⟩:=aG.reads I (by unfold cQ at hp;exact hp) rs rv
   unfold toPy;exact⟨_, .list e hc he (by simpa using ra)⟩
 | .tup ds,v,u,hp,r,q=>by
   obtain⟨a,xs,rfl,l,rs⟩:=Rep.tup.mp r;cases q;obtain⟨its,rv,⟨o,e,hc,n,hd⟩,_⟩:=I.tuple l.sq;obtain⟨as,ra⟩:=aG.reads I (by unfold cQ at hp;exact hp) rs rv
   unfold toPy;exact⟨_, .tuple e hc hd (by simpa using ra)⟩
 | .dct _ _,v,u,hp,r,q=>by unfold cQ at hp;cases hp
theorem aG.reads{pins:Aaa}{s:Shared}{B:List Addr}(I:Inv X pins σ H s):∀{ds:List D} {vs:List V} {us:List Value},gA ds=true->aG X.K B H ds vs->Vals vs us->∃as,ReadsAll s.heap us (km ds) as
 | [],vs,us,_,r,q=>by unfold aG at r;subst r;cases q;unfold km;exact⟨_, .nil⟩
 | d ::ds,vs,us,hp,r,q=>by
   obtain⟨x,xs,rfl,r1,r2⟩:=r.cq;cases q with
   | cons q1 q2=>
     unfold gA at hp;obtain⟨h1,h2⟩:=Bool.and_eq_true_iff.mp hp;obtain⟨as,a1⟩:=Rep.reads I h1 r1 q1;obtain⟨bs,a2⟩:=aG.reads I h2 r2 q2;unfold km;exact⟨_, .cons a1 a2⟩
end
def G8:D->D->R Bool
 | .int i, .int j=> .ok (decide (i=j))
 | .str x, .str y=> .ok (decide (x=y))
 | .bl a, .bl b=> .ok (decide (a=b))
 | d,e=>R.aW (cQ d && cQ e && SeqAt.shaped (toPy d) && SeqAt.shaped (toPy e)) (.ok (PyData.eqv (toPy d) (toPy e)))
def qr(d e:D):R D:=(G8 d e).bind fun b=> .ok (.bl b)
def HQ(d e:D):R D:=(G8 d e).bind fun b=> .ok (.bl (!b))
theorem nH(hu:X.A.units+64 < cLine):nJ X (compareOp .Eq) qr:=by
 intro pins s σ H B da db d x y v u I hb rx ry ra rb hg;obtain⟨b,h1,h2⟩:=R.ak hg;cases h2;unfold G8 at h1;split at h1
 .cases h1;rename_i i j;have:=D6 pins s σ H x y v u (fun z H'=>aS H H'/\Rep X.K B H' (.bl (decide (i=j))) z) I rx ry
  rw[Rep.int.mp ra,Rep.int.mp rb] at this;refine this ⟨rfl,aS.refl H,Rep.bl.mpr ?_⟩;simp [V.int.injEq]
 .cases h1;rename_i i j;have:=D6 pins s σ H x y v u (fun z H'=>aS H H'/\Rep X.K B H' (.bl (decide (i=j))) z) I rx ry
  rw[Rep.str.mp ra,Rep.str.mp rb] at this;refine this ⟨rfl,aS.refl H,Rep.bl.mpr ?_⟩;simp [V.str.injEq]
 .cases h1;rename_i i j;have:=D6 pins s σ H x y v u (fun z H'=>aS H H'/\Rep X.K B H' (.bl (decide (i=j))) z) I rx ry
  rw[Rep.bl.mp ra,Rep.bl.mp rb] at this;refine this ⟨rfl,aS.refl H,Rep.bl.mpr ?_⟩;simp [V.bl.injEq]
 .obtain⟨h3,h4⟩:=R.aQ h1;cases h4;simp only[Bool.and_eq_true] at h3;obtain⟨⟨⟨p1,p2⟩,s1⟩,s2⟩:=h3;obtain⟨as,r1⟩:=ra.reads I p1 rx;obtain⟨bs,r2⟩:=rb.reads I p2 ry;exact eq_dataH r1 r2 s1 s2 hu ⟨.bl _,H,I,rfl,aS.refl H,Rep.bl.mpr rfl⟩
theorem MF(hu:X.A.units+64 < cLine):nJ X (compareOp .NotEq) HQ:=by
 intro pins s σ H B da db d x y v u I hb rx ry ra rb hg;obtain⟨b,h1,h2⟩:=R.ak hg;cases h2;unfold G8 at h1;split at h1
 .cases h1;rename_i i j;have:=EL pins s σ H x y v u (fun z H'=>aS H H'/\Rep X.K B H' (.bl (!decide (i=j))) z) I rx ry
  rw[Rep.int.mp ra,Rep.int.mp rb] at this;refine this ⟨rfl,aS.refl H,Rep.bl.mpr ?_⟩;simp [V.int.injEq]
 .cases h1;rename_i i j;have:=EL pins s σ H x y v u (fun z H'=>aS H H'/\Rep X.K B H' (.bl (!decide (i=j))) z) I rx ry
  rw[Rep.str.mp ra,Rep.str.mp rb] at this;refine this ⟨rfl,aS.refl H,Rep.bl.mpr ?_⟩;simp [V.str.injEq]
 .cases h1;rename_i i j;have:=EL pins s σ H x y v u (fun z H'=>aS H H'/\Rep X.K B H' (.bl (!decide (i=j))) z) I rx ry
  rw[Rep.bl.mp ra,Rep.bl.mp rb] at this;refine this ⟨rfl,aS.refl H,Rep.bl.mpr ?_⟩;simp [V.bl.injEq]
 .obtain⟨h3,h4⟩:=R.aQ h1;cases h4;simp only[Bool.and_eq_true] at h3;obtain⟨⟨⟨p1,p2⟩,s1⟩,s2⟩:=h3;obtain⟨as,r1⟩:=ra.reads I p1 rx;obtain⟨bs,r2⟩:=rb.reads I p2 ry;exact ne_dataH r1 r2 s1 s2 hu ⟨.bl _,H,I,rfl,aS.refl H,Rep.bl.mpr rfl⟩
def strs?:List D->Option (List Str)
 | []=>some []
 | .str x ::ds=>(strs? ds).map (x ::·)
 | _ ::_=>none
theorem iE{K:W.Frag}{B:List Addr}:∀{ds:List D} {xs:List V} {ss:List Str},aG K B H ds xs->strs? ds=some ss->xs=ss.map V.str
 | [],xs,ss,r,h=>by unfold aG at r;subst r;cases h;rfl
 | d ::ds,xs,ss,r,h=>by
   obtain⟨x,r',rfl,r1,r2⟩:=r.cq;cases d with
   | str z=>
     unfold strs? at h;cases e:strs? ds with
     | none=>rw [e] at h;cases h
     | some tt=>
       rw[e] at h;cases h;rw[Rep.str.mp r1,iE r2 e];rfl
   | _=>cases h
def ints?:List D->Option (List Int)
 | []=>some []
 | .int x ::ds=>(ints? ds).map (x ::·)
 | _ ::_=>none
theorem mz{K:W.Frag}{B:List Addr}:∀{ds:List D} {xs:List V} {ss:List Int},aG K B H ds xs->ints? ds=some ss->xs=ss.map V.int
 | [],xs,ss,r,h=>by unfold aG at r;subst r;cases h;rfl
 | d ::ds,xs,ss,r,h=>by
   obtain⟨x,r',rfl,r1,r2⟩:=r.cq;cases d with
   | int z=>
     unfold ints? at h;cases e:ints? ds with
     | none=>rw [e] at h;cases h
     | some tt=>
       rw[e] at h;cases h;rw[Rep.int.mp r1,mz r2 e];rfl
   | _=>cases h
def inD(d e:D):R Bool:=match d,e with
 | .str x, .lst ds=>(match strs? ds with | some ss=> .ok (ss.contains x) | none=> .no)
 | .str x, .tup ds=>(match strs? ds with | some ss=> .ok (ss.contains x) | none=> .no)
 | .str x, .str y=> .ok (!(Builtin.Str.occurrences y x 0 y.length 1).isEmpty)
 | .int x, .lst ds=>(match ints? ds with | some ss=> .ok (ss.contains x) | none=> .no)
 | .int x, .tup ds=>(match ints? ds with | some ss=> .ok (ss.contains x) | none=> .no)
 | _,_=> .no
def zF(d e:D):R D:=(inD d e).bind fun b=> .ok (.bl b)
def mZ(d e:D):R D:=(inD d e).bind fun b=> .ok (.bl (!b))
theorem sW(x:Str):∀ss:List Str,Ke (.str x) (ss.map V.str)=ss.contains x
 | []=>rfl
 | y ::ss=>by
   unfold Ke;rw[List.map_cons,List.any_cons];have ih:=sW x ss;unfold Ke at ih;rw[ih];show(y==x || ss.contains x)=_
   rw[List.contains_cons];congr 1;exact Bool.eq_iff_iff.mpr ⟨fun h=>by simpa using(beq_iff_eq.mp h).symm,fun h=>by simpa using(beq_iff_eq.mp h).symm⟩
theorem uk(x:Int):∀ss:List Int,Ke (.int x) (ss.map V.int)=ss.contains x
 | []=>rfl
 | y ::ss=>by
   unfold Ke;rw[List.map_cons,List.any_cons];have ih:=uk x ss;unfold Ke at ih;rw[ih];show(y==x || ss.contains x)=_
   rw[List.contains_cons];congr 1;exact Bool.eq_iff_iff.mpr ⟨fun h=>by simpa using(beq_iff_eq.mp h).symm,fun h=>by simpa using(beq_iff_eq.mp h).symm⟩
theorem vU(ss:List Int):(ss.map V.int).all lr=true:=by
 rw[List.all_map];simp [List.all_eq_true,lr]
theorem rj(ss:List Str):(ss.map V.str).all lr=true:=by
 rw[List.all_map];simp [List.all_eq_true,lr]
theorem EC{neg:Bool}{op:CmpOp}{g:D->D->R D}(h1:o5 X (compareOp op) (RM X.K neg))(h2:o5 X (compareOp op) (fun x y H Q=>∃i j,x= .str i/\y= .str j/\Q (.bl (if neg then !(!(Builtin.Str.occurrences j i 0 j.length 1).isEmpty) else(!(Builtin.Str.occurrences j i 0 j.length 1).isEmpty))) H))
 (hg:∀d e r,g d e= .ok r->∃b,inD d e= .ok b/\r= .bl (if neg then !b else b)):nJ X (compareOp op) g:=by
 intro pins s σ H B da db d x y v u I hb rx ry ra rb hg';obtain⟨b,hi,rfl⟩:=hg da db d hg';unfold inD at hi;split at hi
 .rename_i z ds;split at hi
  .rename_i ss e;cases hi;obtain⟨a,xs,rfl,l,rs⟩:=Rep.lst.mp rb;refine h1 pins s σ H x _ v u _ I rx ry ⟨a,xs,rfl, .inl l.sq,by rw[Rep.str.mp ra];rfl,by rw[iE rs e];exact rj _,aS.refl H,Rep.bl.mpr ?_⟩
   rw[iE rs e,Rep.str.mp ra,sW]
  .cases hi
 .rename_i z ds;split at hi
  .rename_i ss e;cases hi;obtain⟨a,xs,rfl,l,rs⟩:=Rep.tup.mp rb;refine h1 pins s σ H x _ v u _ I rx ry ⟨a,xs,rfl, .inr l.sq,by rw[Rep.str.mp ra];rfl,by rw[iE rs e];exact rj _,aS.refl H,Rep.bl.mpr ?_⟩
   rw[iE rs e,Rep.str.mp ra,sW]
  .cases hi
 .cases hi;exact h2 pins s σ H x y v u _ I rx ry ⟨_,_,Rep.str.mp ra,Rep.str.mp rb,aS.refl H,Rep.bl.mpr rfl⟩
 .rename_i z ds;split at hi
  .rename_i ss e;cases hi;obtain⟨a,xs,rfl,l,rs⟩:=Rep.lst.mp rb;refine h1 pins s σ H x _ v u _ I rx ry ⟨a,xs,rfl, .inl l.sq,by rw[Rep.int.mp ra];rfl,by rw[mz rs e];exact vU _,aS.refl H,Rep.bl.mpr ?_⟩
   rw[mz rs e,Rep.int.mp ra,uk]
  .cases hi
 .rename_i z ds;split at hi
  .rename_i ss e;cases hi;obtain⟨a,xs,rfl,l,rs⟩:=Rep.tup.mp rb;refine h1 pins s σ H x _ v u _ I rx ry ⟨a,xs,rfl, .inr l.sq,by rw[Rep.int.mp ra];rfl,by rw[mz rs e];exact vU _,aS.refl H,Rep.bl.mpr ?_⟩
   rw[mz rs e,Rep.int.mp ra,uk]
  .cases hi
 .cases hi
theorem y4:nJ X (compareOp .In) zF:=EC (neg:=false) De CA fun d e r h=>by
 obtain⟨b,h1,h2⟩:=R.ak h;cases h2;exact⟨b,h1,rfl⟩
theorem sG:nJ X (compareOp .NotIn) mZ:=EC (neg:=true) xw vY fun d e r h=>by
 obtain⟨b,h1,h2⟩:=R.ak h;cases h2;exact⟨b,h1,rfl⟩
def dN(d e:D):R D:=match d,e with
 | .lst ds, .int i=>(match we ds i with | some x=> .ok x | none=> .no)
 | .tup ds, .int i=>(match we ds i with | some x=> .ok x | none=> .no)
 | .str x, .int i=>R.aW (decide (x.length<=sizeLine)) (match we x.cps.toList i with | some c=> .ok (.str ⟨#[c]⟩) | none=> .no)
 | _,_=> .no
theorem ym{K:W.Frag}{B:List Addr}{ds:List D}{xs:List V}{i:Int}{d:D}(r:aG K B H ds xs)(h:we ds i=some d):∃x,we xs i=some x/\Rep K B H d x:=by
 unfold we at h ⊢;rw[<-r.length];cases e:DY ds.length i with
 | none=>rw [e] at h;cases h
 | some j=>
   rw[e] at h;exact r.get h
theorem ON(ha:PD X a fa)(hb:PD X b fb)(hs:wo b):PD X (.Subscript a b pos) (e2 dN fa fb):=by
 refine(O2 (r:=VA X.K) KY ha hb hs).imp fun σ H Q ⟨Z,B,δ,d,E,hf,q⟩=>?_
 obtain⟨d1,h1,h2⟩:=R.ak hf;obtain⟨d2,h3,h4⟩:=R.ak h2;refine⟨Z,B,δ,d1,E,h1,fun v1 H1 s1 r1=>⟨Z,B,δ,d2,E.same s1,h3,fun v2 H2 s2 r2=>?_⟩⟩
 have zl:=r1.same s2;unfold dN at h4;split at h4
 .split at h4
  .rename_i e;cases h4;obtain⟨p,xs,rfl,l,rs⟩:=Rep.lst.mp zl;obtain⟨y,e1,e2⟩:=ym rs e;exact .inl ⟨p,xs,_,y,rfl,Rep.int.mp r2,l.sq,e1,q y H2 (s1.trans s2) e2⟩
  .cases h4
 .split at h4
  .rename_i e;cases h4;obtain⟨p,xs,rfl,l,rs⟩:=Rep.tup.mp zl;obtain⟨y,e1,e2⟩:=ym rs e;exact .inr (.inl ⟨p,xs,_,y,rfl,Rep.int.mp r2,l.sq,e1,q y H2 (s1.trans s2) e2⟩)
  .cases h4
 .obtain⟨hl,h5⟩:=R.aQ h4;split at h5
  .rename_i e;cases h5;exact .inr (.inr ⟨_,_,_,Rep.str.mp zl,Rep.int.mp r2,of_decide_eq_true hl,e,q _ H2 (s1.trans s2) (Rep.str.mpr rfl)⟩)
  .cases h5
 .cases h4
abbrev FO:=aw->R (Option Int)
def Yx(K:W.Frag)(f:FO):TO:=fun σ H Q=>∃Z B δ o,dS K Z B H σ δ/\f δ= .ok o/\∀H',aS H H'->Q o H'
theorem PO.imp{X:Cx}{e:Option Expr}{t t':TO}(h:PO X e t)(w:∀σ H Q,t' σ H Q->t σ H Q):PO X e t':=fun pins s σ H Q I hq=>h pins s σ H Q I (w σ H Q hq)
abbrev PP(X:Cx)(e:Option Expr)(f:FO):Prop:=PO X e (Yx X.K f)
def lx:FO:=fun _=> .ok none
def iq(f:FD):FO:=fun δ=>(f δ).bind fun d=>match d with | .int i=> .ok (some i) | _=> .no
theorem JI:PP X none lx:=Jx.imp fun σ H Q ⟨Z,B,δ,o,E,hf,q⟩=>by cases hf;exact q H (aS.refl H)
theorem HU(h:PD X e f):PP X (some e) (iq f):=(Im h).imp fun σ H Q ⟨Z,B,δ,o,E,hf,q⟩=>by
 obtain⟨d,h1,h2⟩:=R.ak hf;cases d with
 | int i=>cases h2;exact⟨Z,B,δ, .int i,E,h1,fun v H1 s1 r1=>⟨i,Rep.int.mp r1,q H1 s1⟩⟩
 | _=>cases h2
theorem Mt:K1 X (fun x lo hi H Q=>∃z,x= .str z/\z.length<=sizeLine/\Q (.str (Txt.slice z lo hi)) H):=by
 intro pins s σ H x v vl vu lo hi sl Q I rx hs pl pu h;obtain⟨z,rfl,hz,q⟩:=h;obtain⟨t,rfl⟩:=rx;refine⟨"str",_,F.slot_str_getitem.lookup,typeIs_str _ _ _,?_⟩;have fin:∀t' k,EP X pins σ Q (.str (Txt.slice z lo hi) t') {s with toks:=k}:=fun t' k=>⟨.str _,H,I.tok _,⟨_,rfl⟩,q⟩
 obtain⟨o,ho,hc,hd⟩:=hs;cases pl with
 | none=>
   cases pu with
   | none=>exact wpAny_getItem_str_slice (l:=none) (u:=none) (st:=none) ⟨o,ho,hc,hd⟩ rfl (post_val_or_str ⟨Nat.le_trans (Txt.slice_le z _ _) hz,fin⟩)
   | int j u=>exact wpAny_getItem_str_slice (l:=none) (u:=some (j,u)) (st:=none) ⟨o,ho,hc,hd⟩ rfl (post_val_or_str ⟨Nat.le_trans (Txt.slice_le z _ _) hz,fin⟩)
 | int i t1=>
   cases pu with
   | none=>exact wpAny_getItem_str_slice (l:=some (i,t1)) (u:=none) (st:=none) ⟨o,ho,hc,hd⟩ rfl (post_val_or_str ⟨Nat.le_trans (Txt.slice_le z _ _) hz,fin⟩)
   | int j u=>exact wpAny_getItem_str_slice (l:=some (i,t1)) (u:=some (j,u)) (st:=none) ⟨o,ho,hc,hd⟩ rfl (post_val_or_str ⟨Nat.le_trans (Txt.slice_le z _ _) hz,fin⟩)
def cutD{α:Type}(xs:List α)(lo hi:Option Int):List α:=(xs.drop (HT.sM xs.length 0 lo)).take (HT.sM xs.length xs.length hi - HT.sM xs.length 0 lo)
def JU(d:D)(lo hi:Option Int):R D:=match d with
 | .str x=>R.aW (decide (x.length<=sizeLine)) (.ok (.str (Txt.slice x lo hi)))
 | .lst ds=> .ok (.lst (cutD ds lo hi))
 | _=> .no
theorem FE{K:W.Frag}{B:List Addr}{ds:List D}{xs:List V}(r:aG K B H ds xs)(lo hi:Option Int):aG K B H (cutD ds lo hi) (zN xs lo hi):=by
 unfold cutD zN;rw[<-r.length];exact(r.drop _).take _
def yZ(f:FD)(fl fh:FO):FD:=fun δ=>(f δ).bind fun d=>(fl δ).bind fun lo=>(fh δ).bind fun hi=>JU d lo hi
theorem Oz{lo hi:Option Expr}{fl fh:FO}(he:PD X e f)(hl:PP X lo fl)(hh:PP X hi fh):PD X (.Subscript e (.Slice lo hi none p2) pos) (yZ f fl fh):=by
 refine(Gf (Mt.or JJ) he hl hh).imp fun σ H Q ⟨Z,B,δ,d,E,hf,q⟩=>?_
 obtain⟨d1,h1,h2⟩:=R.ak hf;obtain⟨l,h3,h4⟩:=R.ak h2;obtain⟨h,h5,h6⟩:=R.ak h4;refine⟨Z,B,δ,d1,E,h1,fun v1 H1 s1 r1=>⟨Z,B,δ,l,E.same s1,h3,fun H2 s2=>⟨Z,B,δ,h,(E.same s1).same s2,h5,fun H3 s3=>?_⟩⟩⟩
 have sA:aS H H3:=s1.trans (s2.trans s3);have zl:=r1.same (s2.trans s3);unfold JU at h6;split at h6
 .obtain⟨hz,h7⟩:=R.aQ h6;cases h7;exact .inl ⟨_,Rep.str.mp zl,of_decide_eq_true hz,q _ H3 sA (Rep.str.mpr rfl)⟩
 .cases h6;obtain⟨a,xs,rfl,ls,rs⟩:=Rep.lst.mp zl;refine .inr ⟨a,xs,rfl,ls.sq,fun p hp=>q _ _ (sA.trans (bG hp)) (Rep.lst.mpr ⟨p,_,rfl, .Aj ba fun ha=>?_,(FE rs l h).same (bG hp)⟩)⟩
  obtain⟨o,ho⟩:=(E.same sA).bs p ha;rw[hp] at ho;cases ho
 .cases h6
end
end L2
end
section
namespace L2
open PySem PySem.Spec PyProof.Rows
section
variable {X:Cx}
theorem aG.one{K:W.Frag}{B:List Addr}{d:D}{xs:List V}(h:aG K B H [d] xs):∃x,xs=[x]/\Rep K B H d x:=by
 obtain⟨x,r,rfl,h1,h2⟩:=h.cq;unfold aG at h2;subst h2;exact⟨x,rfl,h1⟩
def o7:List D->R D
 | [.str x]=>R.aW (decide (x.length<=sizeLine)) (.ok (.int x.length))
 | [.lst ds]=> .ok (.int ds.length)
 | [.tup ds]=> .ok (.int ds.length)
 | _=> .no
theorem oq:dz X (.builtin "len") o7:=dz.of F5 fun B H ds d xs Q _ rs hg q=>by
 unfold o7 at hg;split at hg
 .obtain⟨h1,h2⟩:=R.aQ hg;cases h2;obtain⟨x,rfl,r⟩:=rs.one;exact⟨x,_,rfl,by rw[Rep.str.mp r];exact⟨of_decide_eq_true h1,rfl⟩,q _ H (aS.refl H) (Rep.int.mpr rfl)⟩
 .cases hg;obtain⟨x,rfl,r⟩:=rs.one;obtain⟨a,ys,rfl,l,r⟩:=Rep.lst.mp r;exact⟨_,_,rfl, .inl ⟨ys,l.sq,rfl⟩,q _ H (aS.refl H) (Rep.int.mpr (by rw[r.length]))⟩
 .cases hg;obtain⟨x,rfl,r⟩:=rs.one;obtain⟨a,ys,rfl,l,r⟩:=Rep.tup.mp r;exact⟨_,_,rfl, .inr ⟨ys,l.sq,rfl⟩,q _ H (aS.refl H) (Rep.int.mpr (by rw[r.length]))⟩
 .cases hg
def cInt:List D->R D
 | [.int i]=> .ok (.int i)
 | [.bl b]=> .ok (.int (if b then 1 else 0))
 | _=> .no
theorem P1:dz X (.type "int") cInt:=dz.of Df fun B H ds d xs Q _ rs hg q=>by
 unfold cInt at hg;split at hg
 .cases hg;obtain⟨x,rfl,r⟩:=rs.one;exact .inl ⟨_,by rw[Rep.int.mp r],q _ H (aS.refl H) (Rep.int.mpr rfl)⟩
 .cases hg;obtain⟨x,rfl,r⟩:=rs.one;exact .inr ⟨_,by rw[Rep.bl.mp r],q _ H (aS.refl H) (Rep.int.mpr rfl)⟩
 .cases hg
def cStr:List D->R D
 | [.int i]=>R.aW (decide (i.natAbs.log2 < 1920)) (.ok (.str (toString i)))
 | _=> .no
theorem Ob:dz X (.type "str") cStr:=dz.of wx fun B H ds d xs Q _ rs hg q=>by
 unfold cStr at hg;split at hg
 .obtain⟨h1,h2⟩:=R.aQ hg;cases h2;obtain⟨x,rfl,r⟩:=rs.one;exact⟨_,by rw[Rep.int.mp r],of_decide_eq_true h1,q _ H (aS.refl H) (Rep.str.mpr rfl)⟩
 .cases hg
def Ri:List D->R D
 | [.int i, .int j]=> .ok (.int (if j < i then j else i))
 | _=> .no
def Rh:List D->R D
 | [.int i, .int j]=> .ok (.int (if j > i then j else i))
 | _=> .no
def zV:List D->R D
 | [.lst ds]=> .ok (.tup ds)
 | [.tup ds]=> .ok (.tup ds)
 | _=> .no
theorem HW:dz X (.type "tuple") zV:=dz.of u6 fun B H ds d xs Q hb rs hg q=>by
 unfold zV at hg;split at hg
 .cases hg;obtain⟨x,rfl,r⟩:=rs.one;obtain⟨a,ys,rfl,l,r⟩:=Rep.lst.mp r;refine⟨a,ys,rfl, .inl ⟨l.sq,fun p hp=>q _ _ (bG hp) (Rep.tup.mpr ⟨p,ys,rfl, .inl ⟨fun ha=>?_, .inl ba⟩,r.same (bG hp)⟩)⟩⟩
  obtain⟨o,ho⟩:=hb p ha;rw[hp] at ho;cases ho
 .cases hg;obtain⟨x,rfl,r⟩:=rs.one;have r0:=r;obtain⟨a,ys,rfl,l,r⟩:=Rep.tup.mp r;exact⟨a,ys,rfl, .inr ⟨l.sq,q _ H (aS.refl H) r0⟩⟩
 .cases hg
def V4:List D->R D
 | [.lst ds]=> .ok (.lst ds)
 | [.tup ds]=> .ok (.lst ds)
 | _=> .no
def cAbs:List D->R D
 | [.int i]=> .ok (.int (if i < 0 then -i else i))
 | _=> .no
def SJ:List D->R D
 | [.lst ds]=>(match ints? ds with | some ns=> .ok (.int ns.sum) | none=> .no)
 | _=> .no
def tyName:D->String
 | .cN=>"NoneType" | .bl _=>"bool" | .int _=>"int" | .str _=>"str" | .lst _=>"list" | .tup _=>"tuple" | .dct _ _=>"dict"
def Xr(T:String)(f:FD):FD:=fun δ=>(f δ).bind fun d=>R.aW (tyName d==T && d.atom) (.ok (.bl true))
def Mw(X:Cx)(id:String)(g:D->List D->R D):Prop:=
 ∀(pins:Aaa) (s:Shared) (σ:St) (H:Hp) (B:List Addr) (da d:D) (ds:List D) (x:V) (xs:List V) (v:Value) (us:List Value),Inv X pins σ H s->(∀a∈B,∃o,H a=some o)->RelV x v->Vals xs us->Rep X.K B H da x->aG X.K B H ds xs->g da ds= .ok d->
  wpAny (model X.prog X.w) X.A (call (.builtin id) (v ::us)) (EP X pins σ fun z H'=>aS H H'/\Rep X.K B H' d z) X.xe s
def v_(T:String)(g:D->List D->R D)(f:FD)(fs:aw->R (List D)):FD:=fun δ=>(f δ).bind fun d=>R.aW (tyName d==T && (d.atom || T=="list")) ((fs δ).bind fun ds=>g d ds)
theorem Mw.r{id:String}{g:D->List D->R D}(h:Mw X id g):VO X id (fun x xs H Q=>∃B da ds d,(∀a∈B,∃o,H a=some o)/\Rep X.K B H da x/\aG X.K B H ds xs/\g da ds= .ok d/\∀z H',aS H H'->Rep X.K B H' d z->Q z H'):=by
 intro pins s σ H x xs v us Q I rx rxs ⟨B,da,ds,d,hb,ra,rs,hg,q⟩;exact cU (h pins s σ H B da d ds x xs v us I hb rx rxs ra rs hg) fun z s' ⟨zv,H',I',r',s1,r1⟩=>⟨zv,H',I',r',q zv H' s1 r1⟩
theorem BF{T id:String}{name:Str}{g:D->List D->R D}{o e:Expr}{es:List Expr}{f:FD}{fs:aw->R (List D)}{apos bj:Pos}(pa:PlainAttrs T)(slot:Slot T name id)(Hk:typeOf (.builtin id)=pure (.type "method_descriptor"))(hm:Mw X id g)(ho:PD X o f)(ha:DG X (e ::es) fs)
 (hT:T="str"\/T="int"\/T="list")
 (eJ:attributeBase o name X.env (eval o X.env)=eval o X.env:=by rfl)
 (kG:((backTo bj (starEach (e ::es) X.env)).all (fun x=>!x.1) && (backToKw bj (keywordEach [] X.env)).all (fun x=>x.1.isSome)
   && decide ((e ::es).length+([]:List Keyword).length+(if([]:List Keyword).isEmpty then 0 else 1) < 30))=true:=by rfl)
 (eI:(apos.endLine==bj.line)=true:=by rfl) (hs:starEach (e ::es) X.env=(false,eval e X.env) ::starEach es X.env:=by rfl) (AD:(backTo bj (starEach es X.env)).any (·.1)=false:=by rfl) :
 PD X (.Call (.Attribute o name apos) (e ::es) [] bj) (v_ T g f fs):=by
 refine(y8 pa slot Hk hm.r ho ha eJ kG eI hs AD).imp fun σ H Q ⟨Z,B,δ,d,E,hf,q⟩=>?_
 obtain⟨d1,h1,h2⟩:=R.ak hf;obtain⟨h3,h4⟩:=R.aQ h2;obtain⟨ds,h5,h6⟩:=R.ak h4;obtain⟨h7,h8⟩:=Bool.and_eq_true_iff.mp h3;have h7:tyName d1=T:=by simpa using h7
 refine⟨Z,B,δ,d1,E,h1,fun v1 H1 s1 r1=>⟨?_,Z,B,δ,ds,E.same s1,h5,fun vs H2 s2 r2=>⟨B,d1,ds,d,(E.same (s1.trans s2)).bs,r1.same s2,r2,h6,fun z H' s3 r3=>q z H' (s1.trans (s2.trans s3)) r3⟩⟩⟩
 cases d1 with
 | str z=>rw [Rep.str.mp r1];exact h7.symm
 | int i=>rw [Rep.int.mp r1];exact h7.symm
 | lst es=>obtain⟨a,xs,rfl,l,_⟩:=Rep.lst.mp r1;exact .inl ⟨h7.symm,xs,l.sq⟩
 | cN=>rcases hT with z | z | z <;> (rw [z] at h7;exact absurd (show("NoneType":String)=_ from h7) (by decide))
 | bl _=>rcases hT with z | z | z <;> (rw [z] at h7;exact absurd (show("bool":String)=_ from h7) (by decide))
 | tup _=>rcases hT with z | z | z <;> (rw [z] at h7;exact absurd (show("tuple":String)=_ from h7) (by decide))
 | dct _ _=>rcases hT with z | z | z <;> (rw [z] at h7;exact absurd (show("dict":String)=_ from h7) (by decide))
theorem vx:∀{ss:List Str} {us:List Value},Vals (ss.map V.str) us->∃l:List (Str × Tok),us=strValues l/\l.map (·.1)=ss
 | [],_, .nil=>⟨[],rfl,rfl⟩
 | n ::ns,_, .cons r t=>by
   obtain⟨l,rfl,e⟩:=vx t;obtain⟨tk,rfl⟩:=r;exact⟨(n,tk) ::l,rfl,by rw[List.map_cons,e]⟩
def nv(d:D)(ds:List D):R D:=match d,ds with
 | .str sep,[.lst es]=>(match strs? es with | some ss=>R.aW (JoinOk sep ss) (.ok (.str (Str.join sep ss))) | none=> .no)
 | _,_=> .no
theorem K2:Mw X "str.join" nv:=by
 intro pins s σ H B da d ds x xs v us I hb rx rxs ra rs hg;unfold nv at hg;split at hg
 .split at hg
  .rename_i sep es ss e;obtain⟨h1,h2⟩:=R.aQ hg;cases h2;rw[Rep.str.mp ra] at rx;obtain⟨t,rfl⟩:=rx;obtain⟨y,rfl,r⟩:=rs.one;obtain⟨a,ys,rfl,l,r⟩:=Rep.lst.mp r;obtain⟨u,rfl,ru⟩:=vals1 rxs;cases ru;obtain⟨its,n,rv,e1,hz⟩:=I.QY l;rw[iE r e] at rv;obtain⟨ps,rfl,rfl⟩:=vx rv;refine SC.join (D:=a) (l:=ps) ⟨_,e1,rfl,n,rfl⟩ rfl h1 fun t' k=>⟨.str _,H,I.tok _,⟨t',rfl⟩,aS.refl H,Rep.str.mpr ?_⟩
   rw[<-StrLaws.glued_eq_join];rfl
  .cases hg
 .cases hg
theorem Ic{o e:Expr}{f:FD}{fs:aw->R (List D)}{apos bj:Pos}(ho:PD X o f)(ha:DG X [e] fs)
 (eJ:attributeBase o "join" X.env (eval o X.env)=eval o X.env:=by rfl)
 (kG:((backTo bj (starEach [e] X.env)).all (fun x=>!x.1) && (backToKw bj (keywordEach [] X.env)).all (fun x=>x.1.isSome)
   && decide (([e]:List Expr).length+([]:List Keyword).length+(if([]:List Keyword).isEmpty then 0 else 1) < 30))=true:=by rfl)
 (eI:(apos.endLine==bj.line)=true:=by rfl) (hs:starEach [e] X.env=(false,eval e X.env) ::starEach [] X.env:=by rfl) :
 PD X (.Call (.Attribute o "join" apos) [e] [] bj) (v_ "str" nv f fs):=BF F.plainAttrs_str F.slot_str_join F.type_str_join K2 ho ha (.inl rfl) eJ kG eI hs
abbrev PJ(X:Cx)(es:List Expr)(f:aw->R (List Str)):Prop:=
 ∀(pins:Aaa) (s:Shared) (σ:St) (H:Hp) (Z B:List Addr) (δ:aw) (acc:Str) (ss:List Str) (Q:VK),Inv X pins σ H s->dS X.K Z B H σ δ->f δ= .ok ss->(ss.foldl (·++·) acc).length<=sizeLine->(∀H',aS H H'->Q (.str (ss.foldl (·++·) acc)) H')->
  wpAny (model X.prog X.w) X.A (joinParts acc (evalEach es X.env)) (EP X pins σ Q) X.xe s
theorem vq:∀(ss:List Str) (acc:Str),acc.length<=(ss.foldl (·++·) acc).length
 | [],acc=>Nat.le_refl _
 | s ::ss,acc=>Nat.le_trans (by rw[Str.length_append];exact Nat.le_add_right _ _) (vq ss (acc++s))
def pM:aw->R (List Str):=fun _=> .ok []
def b8(f:FD)(g:aw->R (List Str)):aw->R (List Str):=fun δ=>(f δ).bind fun d=>match d with | .str x=>(g δ).bind fun ss=> .ok (x ::ss) | _=> .no
theorem L5:PJ X [] pM:=by
 intro pins s σ H Z B δ acc ss Q I E hf hl q;cases hf;exact joinParts_nil ⟨.str _,H,I.tok _,⟨_,rfl⟩,q H (aS.refl H)⟩ hl
theorem Jo{g:aw->R (List Str)}(he:PD X e f)(hr:PJ X es g)(TU:evalEach (e ::es) X.env=eval e X.env ::evalEach es X.env:=by rfl):PJ X (e ::es) (b8 f g):=by
 intro pins s σ H Z B δ acc ss Q I E hf hl q;rw[TU];obtain⟨d,h1,h2⟩:=R.ak hf;cases d with
 | str x=>
   obtain⟨WT,h3,h4⟩:=R.ak h2;cases h4;refine joinParts_cons (cU (he pins s σ H (fun v H'=>aS H H'/\v= .str x) I ⟨Z,B,δ, .str x,E,h1,fun v H' s1 r1=>⟨s1,Rep.str.mp r1⟩⟩) fun v s1 ⟨xv,H1,I1,r1,Nm,e1⟩=>?_)
   subst e1;obtain⟨t,rfl⟩:=r1;exact⟨Nat.le_trans (vq WT (acc++x)) hl,hr pins s1 σ H1 Z B δ (acc++x) WT Q I1 (E.same Nm) h3 hl fun H' s2=>q H' (Nm.trans s2)⟩
 | _=>cases h2
def c4(g:aw->R (List Str)):FD:=fun δ=>(g δ).bind fun ss=>R.aW (decide ((ss.foldl (·++·) Str.empty).length<=sizeLine)) (.ok (.str (ss.foldl (·++·) Str.empty)))
theorem Cg{rest:List Expr}{g:aw->R (List Str)}(h:PJ X (G2 ::G5 ::rest) g):PD X (.JoinedStr (G2 ::G5 ::rest) pos) (c4 g):=by
 intro pins s σ H Q I ⟨Z,B,δ,d,E,hf,q⟩;obtain⟨ss,h1,h2⟩:=R.ak hf;obtain⟨h3,h4⟩:=R.aQ h2;cases h4;rw[arm_eval_JoinedStr];exact h pins s σ H Z B δ Str.empty ss Q I E h1 (of_decide_eq_true h3) fun H' s1=>q _ H' s1 (Rep.str.mpr rfl)
def Ji:D->R D
 | .str x=>R.aW (decide (x.length<=sizeLine)) (.ok (.str x))
 | .int i=>R.aW (decide (i.natAbs.log2 < 1920)) (.ok (.str (toString i)))
 | _=> .no
def lY(f:FD):FD:=fun δ=>(f δ).bind Ji
theorem Lj(h:PD X e f):PD X (.FormattedValue e (-1) none pos) (lY f):=by
 intro pins s σ H Q I ⟨Z,B,δ,d,E,hf,q⟩;obtain⟨d1,h1,h2⟩:=R.ak hf;refine FormattedValue_plain (cU (h pins s σ H (fun v H'=>aS H H'/\Rep X.K B H' d1 v) I ⟨Z,B,δ,d1,E,h1,fun v H' s1 r1=>⟨s1,r1⟩⟩) fun v s1 ⟨xv,H1,I1,r1,Nm,e1⟩=>?_)
 unfold Ji at h2;split at h2
 .obtain⟨h3,h4⟩:=R.aQ h2;cases h4;rw[Rep.str.mp e1] at r1;obtain⟨t,rfl⟩:=r1;exact formatField_str (fun t' tk=>⟨.str _,H1,I1.tok _,⟨_,rfl⟩,q _ H1 Nm (Rep.str.mpr rfl)⟩) (of_decide_eq_true h3)
 .obtain⟨h3,h4⟩:=R.aQ h2;cases h4;rw[Rep.int.mp e1] at r1;obtain⟨t,rfl⟩:=r1;exact formatField_int_small (of_decide_eq_true h3) ⟨.str _,H1,I1.tok _,⟨_,rfl⟩,q _ H1 Nm (Rep.str.mpr rfl)⟩
 .cases h2
def Pq:List (D × D)->Str->R (Option D)
 | [],_=> .ok none
 | (.str y,d) ::r,x=>(Pq r x).bind fun o=> .ok (match o with | some e=>some e | none=>if y=x then some d else none)
 | _ ::_,_=> .no
def AK(x:Str):List D:=x.cps.toList.map fun c=> .str ⟨#[c]⟩
def Xg(x:Str):It:=⟨fun i _=>i < x.cps.size,fun i H v H'=>H'=H/\∃c,x.cps[i]? =some c/\v= .str ⟨#[c]⟩,fun i _=>x.cps.size<=i⟩
theorem EJ{K:W.Frag}(it:Addr)(x:Str)(t:Tok)(ty:String)(Hk:ty="str_ascii_iterator"\/ty="str_iterator"):Turn P w K tg (Xg x) [it] it (fun i h=>h.IsStrIter it ty x t i/\i<=x.cps.size) where
 mem:=by simp
 obj:=fun i h st b hb=>by
  have e:b=it:=by simpa using hb
  subst e;obtain⟨o,e,c,d⟩:=st.1;exact⟨o,e,fun v z=>by rw[d] at z;cases z⟩
 keep:=fun i h h' st k=>⟨let⟨o,ho,r⟩:=st.1;⟨o,k it (by simp) o ho,r⟩,st.2⟩
 item:=by
  intro X hP hw hK hc i pins s σ H E I hf st hg;subst hP hw hK;obtain⟨f0,f1,f2,f3,f4,f5⟩:=hf it (by simp)
  have W:Walks X.prog X.w X.A it [it] [it] x.cps.size (SignAt x) (fun i h=>h.IsStrIter it ty x t i):=by
   rcases Hk with rfl | rfl
   .exact Walks.strAscii (I.ok.hd hc) it x t
   .exact Walks.strWide (I.ok.hd hc) it x t
  refine W.item i s _ _ hg st.1 fun v h' tk hv GW kk=>?_
  obtain⟨c,u,e1,rfl⟩:=hv;have I1:Inv X pins σ H {s with heap:=h',toks:=tk}:=I.turned (fun b o hb e=>kk b o (by simpa using hb) e) f0 f1 f3 f4 f5
  obtain⟨o,e,cl,d⟩:=id GW;refine⟨_,rfl,A8 (s:={s with heap:=h',toks:=tk}) (n:=ty) e cl d ?_ ⟨.str ⟨#[c]⟩,H,I1,⟨u,rfl⟩,⟨rfl,c,e1,rfl⟩,⟨GW,hg⟩,fun b hb=>(hf b hb).1⟩⟩
  rcases Hk with rfl | rfl <;> decide
 done:=by
  intro X hP hw hK hc i pins s σ H E I hf st hg;subst hP hw hK;obtain⟨f0,f1,f2,f3,f4,f5⟩:=hf it (by simp)
  have W:Walks X.prog X.w X.A it [it] [it] x.cps.size (SignAt x) (fun i h=>h.IsStrIter it ty x t i):=by
   rcases Hk with rfl | rfl
   .exact Walks.strAscii (I.ok.hd hc) it x t
   .exact Walks.strWide (I.ok.hd hc) it x t
  have e:i=x.cps.size:=Nat.le_antisymm st.2 hg;exact W.done s _ _ (e▸st.1) fun h' tk kk=>⟨rfl,I.turned (fun b o hb e=>kk b o (by simpa using hb) e) f0 f1 f3 f4 f5⟩
 self:=fun A i s Q E st h=>by
  rcases Hk with rfl | rfl
  .exact wpAny_pyIter_striter_ascii st.1 h
  .exact wpAny_pyIter_striter_wide st.1 h
def Gs(f:FD):aw->R (List D):=fun δ=>(f δ).bind fun d=>match d with | .str x=> .ok (AK x) | _=> .no
theorem JH(h:PD X e f):N0 X tg e (Gs f):=by
 intro pins s σ H RR I ⟨Z,B,δ,ds,E,hf,q⟩;obtain⟨d,h1,h2⟩:=R.ak hf;refine cU (h pins s σ H (fun v H1=>aS H H1/\Rep X.K B H1 d v) I ⟨Z,B,δ,d,E,h1,fun v H1 s1 r1=>⟨s1,r1⟩⟩) fun v s1 ⟨x,H1,I1,r1,ss,rr⟩=>?_
 cases d with
 | str z=>
   cases h2;rw[Rep.str.mp rr] at r1;obtain⟨t,rfl⟩:=r1;refine wpAny_pyIter_strU ?_;have Hk:strIterType z="str_ascii_iterator"\/strIterType z="str_iterator":=by
    unfold strIterType;split
    .exact .inl rfl
    .exact .inr rfl
   refine⟨s1.heap.objs.size,[s1.heap.objs.size],_,_,H1,rfl,I1.kept (t':=s1.toks) fun b o e=>Heap.get?_push_of_some _ e,EJ _ z t (strIterType z) Hk,⟨⟨_,Heap.get?_push_size _ rfl,rfl,rfl⟩,Nat.zero_le _⟩,fun b hb=>?_,q _ H1 ss fun B' H' pr=>?_⟩
   .have e:b=s1.heap.objs.size:=by simpa using hb
    subst e;exact I1.Gh (Nat.le_refl _) (I1.hok.fresh (Nat.le_refl _))
   .refine⟨fun i d hd=>?_,?_⟩
    .unfold AK at hd;rw[List.getElem?_map] at hd;cases e:z.cps.toList[i]? with
     | none=>rw [e] at hd;cases hd
     | some c=>
       rw[e] at hd;cases hd;have e':z.cps[i]? =some c:=by simpa using e
       exact⟨(Array.getElem?_eq_some_iff.mp e').1,fun x qa ⟨e1,c',e2,e3⟩ _=>by
        subst e1;rw[e'] at e2;cases e2;exact⟨aS.refl _,Rep.str.mpr e3⟩⟩
    .show z.cps.size<=(AK z).length;unfold AK;simp
 | _=>cases h2
def Ite(K:W.Frag)(a:Addr):It:=
 ⟨fun i H=>∃xs x,nL K H a xs/\xs[i]? =some x,fun i H v H'=>∃p x,H p=none/\v= .ref p/\(∀xs,nL K H a xs->xs[i]? =some x)/\H'=upd H p (.tup [.int i,x]),fun i H=>∃xs,nL K H a xs/\xs.length<=i⟩
def yW(ds:List D):List D:=ds.zipIdx.map fun p=> .tup [.int p.2,p.1]
def Sk(f:FD):aw->R (List D):=fun δ=>(f δ).bind fun d=>match d with | .lst ds=> .ok (yW ds) | _=> .no
end
end L2
end
section
namespace L2
open PySem PySem.Spec PyProof.Rows
def Def(K:W.Frag)(mg:Aaf)(x:Str)(st:Stmt):Prop:=∃f fd,z0 K x x st f fd/\mg x=some (.ref f)
def Callee(P:Program)(w:World)(K:W.Frag)(mg:Aaf)(base:Heap)(k:Nat)(x:Str)(n:Nat)(g:List D->R D):Prop:=
 ∃f fd ps,jk P w K mg base vT k f fd ps (Jg K n g)/\mg x=some (.ref f)/\PySem.W.keepIn K (.ref f)=true/\Binds K fd ps []
theorem a_:∀(δ:aw) (ds:List D),aE δ= .ok ds->ds.length=0:=fun δ ds h=>by cases h;rfl
theorem aA{g:aw->R (List D)}{n:Nat}(h:∀(δ:aw) (ds:List D),g δ= .ok ds->ds.length=n):∀(δ:aw) (ds:List D),ag f g δ= .ok ds->ds.length=n+1:=fun δ ds e=>by
 obtain⟨d,h1,h2⟩:=R.ak e;obtain⟨es,h3,h4⟩:=R.ak h2;cases h4;rw[List.length_cons,h δ es h3]
theorem Fb{P:Program}{w:World}{K:W.Frag}{mg:Aaf}{base:Heap}{x qual:Str}{st:Stmt}{f:Addr}{fd:FuncData}{N ps:List Str}{k:Nat}{F:FS}{b:List Stmt}{sc:Scope}(hb:a9 st=b)(hs:aJ st=sc)(Fn:z0 K x qual st f fd)(S:bC N ps sc)
 (iz:∀(dJ:Value) (A:Around) (outer:List Env) (s:Shared) (H:Hp) (E:XK),dU k (A.deeper (envOfC qual sc s.heap.objs.size f dJ))->
   sC (md vT P w K mg base N qual sc f dJ A outer s H E).IZ b F):jk P w K mg base vT (k+1) f fd ps (Jg K ps.length (va N F)):=by
 subst hb hs;exact Ip Fn S iz
section
variable {X:Cx}
theorem EI{g:List D->R D}{k j n:Nat}{x:Str}{p pos:Pos}{e:Expr}{es:List Expr}{fs:aw->R (List D)}(C:Callee X.prog X.w X.K X.mg X.base k x n g)(hr:dU j X.A)(GY:k<=j)(hg:Gl X x)(ha:DG X (e ::es) fs)
 (hn:∀δ ds,fs δ= .ok ds->ds.length=n) (kK:(x==("__debug__":Str))=false:=by decide) (he:starEach (e ::es) X.env=(false,eval e X.env) ::starEach es X.env:=by rfl) (nE:(backTo pos (starEach es X.env)).any (·.1)=false:=by rfl) :
 PD X (.Call (.Name x p) (e ::es) [] pos) (bf g fs):=by
 obtain⟨f,fd,ps,F,hm,hk,hb⟩:=C;exact IW F (hr.mono GY) hg hm hk hb ha hn kK he nE
def OQ(sc:Scope)(N:List Str)(scope:Scope)(kp:List Nat)(kn:List Str):Bool:=
 decide (scope.kind= .function) && scope.names.all (fun y=>decide (y.2= .cell->scope.names.lookup y.1=some .cell)) && scope.names.all (fun y=>decide (y.2= .local->scope.names.lookup y.1=some .local))
  && scope.names.all (fun y=>decide (y.2= .free->(sc.names.lookup y.1=some .cell\/sc.names.lookup y.1=some .free))) && scope.names.all (fun y=>decide (y.2= .free->scope.names.lookup y.1=some .free)) && decide (kn.length=kp.length)
  && (List.range kp.length).all (fun j=>decide ((kp[j]?).bind (N[·]?)=kn[j]?)) && kn.all (fun x=>decide (scope.names.lookup x=some .free))
theorem eU.of{own:List Str}{kp:List Nat}{kn:List Str}{N:List Str}(h1:X.env.scope=sc)(h2:X.N=N)(h:OQ sc N scope kp kn=true):eU X scope own kp kn:=by
 unfold OQ at h;simp only[Bool.and_eq_true,decide_eq_true_eq,List.all_eq_true] at h;obtain⟨⟨⟨⟨⟨⟨⟨a1,a2⟩,a3⟩,a4⟩,a8⟩,a5⟩,a6⟩,a7⟩:=h;refine⟨a1,a2,a3,fun y hy hf=>?_,a8,a5,fun j i x hj hx=>?_,a7⟩
 .have:=a4 y hy hf;unfold Env.kindOf;rw[h1];exact this
 .have hlt:j < kp.length:=(List.getElem?_eq_some_iff.mp hj).1;have:=a6 j (List.mem_range.mpr hlt);rw[hj] at this;rw[h2];exact this.trans hx
def Fv(aC:List (Key × V))(f g:FD):FD:=fun δ=>(f δ).bind fun k=>(g δ).bind fun d=>match k with
 | .str x=>(match jy (lE [] aC) (Sum.inr x) with | some (.int i)=> .ok (.int i) | none=> .ok d | _=> .no)
 | _=> .no
theorem KQ{keys:List (Option Expr)}{values:List Expr}{uI:List (TE × TE)}{xJ apos bj:Pos}{e f:Expr}{fe ff:FD}{aC:List (Key × V)}(hu:X.A.units+1 < cLine)(h:Kg X xJ keys values uI)(zg:keys.all (·.isSome)=true)(hl:keys.length=values.length)(h0:keys≠[])
 (hc:∀σ H Q,Q (aC.map fun kv=>(kV kv.1,kv.2)) H->pL uI σ H Q) (hlen:aC.length<=15) (he:PD X e fe) (hf:PD X f ff) (m:M2 X (.Dict keys values xJ) "get" apos e f bj)
 (hd:PE X (.Dict keys values xJ) (FK uI)):PD X (.Call (.Attribute (.Dict keys values xJ) "get" apos) [e,f] [] bj) (Fv aC fe ff):=by
 refine(DW hu hd he hf m).imp fun σ H Q ⟨Z,B,δ,d,E,hfd,q⟩=>?_
 obtain⟨k,h1,h2⟩:=R.ak hfd;obtain⟨dd,h3,h4⟩:=R.ak h2;intro p hp;refine hc σ _ _ ⟨ba,aC,rfl,hlen,p,rfl, .inl ⟨_, .inl ba⟩,?_⟩;rw[By];have s0:aS H (upd H p (.dK (lE [] aC))):=bG hp;refine⟨Z,B,δ,k,E.same s0,h1,fun v1 H1 s1 r1=>⟨Z,B,δ,dd,(E.same s0).same s1,h3,fun v2 H2 s2 r2=>?_⟩⟩
 have hH2:H2 p=some (.dK (lE [] aC)):=s2 p _ (s1 p _ ba);have sA:aS H H2:=s0.trans (s1.trans s2);split at h4
 .rename_i x;refine⟨jy (lE [] aC) (Sum.inr x),?_,?_⟩
  .rw [Rep.str.mp r1];exact nQ.k (k:=Sum.inr x) hH2
  .split at h4
   .rename_i i e1;cases h4;rw[e1];exact q _ H2 sA (Rep.int.mpr rfl)
   .rename_i e1;cases h4;rw[e1];exact q _ H2 sA r2
   .cases h4
 .cases h4
def WI(i:Nat)(f:FD):FS:=fun δ=>(f δ).bind fun d=>match d with
 | .lst es=>(uD δ i).bind fun ds=>R.aW (decide (ds.length+es.length<=sizeLine)) (.ok (.nx (δ.set i (.bld (ds++es)))))
 | _=> .no
end
end L2
end
section
namespace L2
open PySem PySem.Spec PyProof.Rows
structure QD (X:Cx) (e:Expr) (f:FD):Prop where
 h:PD X e f
structure QN (X:Cx) (e:Expr) (f:aw->R (List D)):Prop where
 h:PN X e f
structure QB (X:Cx) (e:Expr) (f:aw->R Bool):Prop where
 h:PB X e f
structure KU (X:Cx) (e:Expr) (f:aw->R Bool):Prop where
 h:Hd X e f
structure DP (X:Cx) (e:List Expr) (f:aw->R (List D)):Prop where
 h:DG X e f
structure Ju (X:Cx) (e:Stmt) (f:FS):Prop where
 h:G_ X e f
structure vg (X:Cx) (e:List Stmt) (f:FS):Prop where
 h:sC X e f
structure NW (X:Cx) (e:Expr) (f:FT):Prop where
 h:NP X e f
structure JE (X:Cx) (e:List Expr) (f:Ez):Prop where
 h:Iw X e f
structure NF (X:Cx) (tg e:Expr) (f:aw->R (List D)):Prop where
 h:N0 X tg e f
structure QP (X:Cx) (e:Option Expr) (f:FO):Prop where
 h:PP X e f
structure QJ (X:Cx) (e:List Expr) (f:aw->R (List Str)):Prop where
 h:PJ X e f
structure Lx (X:Cx) (e:List Expr) (c:aw->R Bool):Prop where
 h:uU X e (MR X.K c)
section
variable {X:Cx}
theorem ay{f:aw->R (List D)}(h:QN X e f):QD X e (eNew f):=⟨Lh h.1⟩
theorem ae(i:Nat){pos:Pos}(hN:X.N[i]? =some x:=by rfl)(hv:Kb X.env.scope x:=by first | exact Or.inl rfl | exact Or.inr (Or.inl rfl) | exact Or.inr (Or.inr rfl))(hd:(x==("__debug__":Str))=false:=by decide)(uJ:(x==("__classdict__":Str))=false:=by decide):QD X (.Name x pos) (ao i):=⟨Lp i hN hv hd uJ⟩
theorem ai{i j pos}:QD X (.Constant (.int i) j pos) (eC (.int i)):=⟨L7⟩
theorem pI{b j pos}:QD X (.Constant (.bool b) j pos) (eC (.bl b)):=⟨Pd⟩
theorem af{x j pos}:QD X (.Constant (.str x) j pos) (eC (.str x)):=⟨Mc⟩
theorem gx{d:D}{pos:Pos}(g:Glob X.K X.mg x d)(hg:Gl X x)(hd:(x==("__debug__":Str))=false:=by decide):QD X (.Name x pos) (eC d):=⟨Jq g hg hd⟩
theorem ah:DP X [] aE:=⟨Ia⟩
theorem aa{g:aw->R (List D)}(h:QD X e f)(t:DP X es g)(hs:starEach (e ::es) X.env=(false,eval e X.env) ::starEach es X.env:=by rfl):DP X (e ::es) (ag f g):=⟨Eg h.1 t.1 hs⟩
theorem Bq{g:aw->R (List D)}{x1 pos}(h:DP X es g):QD X (.Tuple es x1 pos) (C_ g):=⟨Lf h.1⟩
theorem ax{g:aw->R (List D)}{pos}(h:DP X es g):QN X (.List es pos) (bg g):=⟨LW h.1⟩
theorem au{op:Operator}{g:D->D->R D}(ho:nJ X (binaryOp op) g)(ha:QD X a fa)(hb:QD X b fb):QD X (.BinOp a op b pos) (e2 g fa fb):=⟨Oi ho ha.1 hb.1⟩
theorem eP{op:CmpOp}{g:D->D->R D}(ho:nJ X (compareOp op) g)(ha:QD X a fa)(hb:QD X b fb)(hm:behindInMarks op b=false):QD X (.Compare a [op] [b] pos) (e2 g fa fb):=⟨MQ ho ha.1 hb.1 hm⟩
theorem bE{op:CmpOp}{g:D->D->R D}(ho:nJ X (compareOp op) g)(ha:QD X a fa)(hb:QD X b fb)(hm:behindInMarks op b=false):QB X (.Compare a [op] [b] pos) (b2 g fa fb):=⟨LK ho ha.1 hb.1 hm⟩
theorem qV{a:Expr}(ha:QD X a f)(he:∀whole,isTrue a X.env whole=(do let v <-whole;standAt a.pos;holding [v] (truthy v)):=by intro _;rfl):QB X a (wW f):=⟨Mh ha.1 he⟩
theorem gG{f:aw->R Bool}(h:KU X e f):QB X e f:=⟨Hd.pb h.1⟩
theorem oY{f:aw->R Bool}(h:QB X a f):KU X (.BoolOp .And [a] pos) f:=⟨Es h.1⟩
theorem kA{f:aw->R Bool}(h:QB X a f):KU X (.BoolOp .Or [a] pos) f:=⟨HB h.1⟩
theorem ql{rest:List Expr}{f g:aw->R Bool}(ha:QB X a f)(hb:KU X (.BoolOp .And (b ::rest) pos) g):KU X (.BoolOp .And (a ::b ::rest) pos) (vd f g):=⟨Hy ha.1 hb.1⟩
theorem j6{rest:List Expr}{f g:aw->R Bool}(ha:QB X a f)(hb:KU X (.BoolOp .Or (b ::rest) pos) g):KU X (.BoolOp .Or (a ::b ::rest) pos) (Bv f g):=⟨MH ha.1 hb.1⟩
theorem Bg{f:aw->R Bool}(ha:QB X a f):QB X (.UnaryOp .Not a pos) (Ce f):=⟨MP ha.1⟩
theorem oX{op}(h:QD X a f):QD X (.BoolOp op [a] pos) f:=⟨Mq h.1⟩
theorem oQ{rest:List Expr}(ha:QD X a f)(hb:QD X (.BoolOp .And (b ::rest) pos) g):QD X (.BoolOp .And (a ::b ::rest) pos) (vh f g):=⟨LA ha.1 hb.1⟩
theorem Fg{rest:List Expr}(ha:QD X a f)(hb:QD X (.BoolOp .Or (b ::rest) pos) g):QD X (.BoolOp .Or (a ::b ::rest) pos) (NG f g):=⟨Pz ha.1 hb.1⟩
theorem cL{g:List D->R D}{id:String}{p pos:Pos}{fs:aw->R (List D)}(hc:dz X (.builtin id) g)(hg:Gl X x)(hm:X.mg x=none)(hv:bootBuiltins x=some (.builtin id))(ha:DP X (e ::es) fs)(hn:x≠"__name__":=by decide)(kK:(x==("__debug__":Str))=false:=by decide)(he:starEach (e ::es) X.env=(false,eval e X.env) ::starEach es X.env:=by rfl)(nE:(backTo pos (starEach es X.env)).any (·.1)=false:=by rfl):QD X (.Call (.Name x p) (e ::es) [] pos) (bf g fs):=⟨F3 hc hg hm hv ha.1 hn kK he nE⟩
theorem mX{g:List D->R D}{T:String}{p pos:Pos}{fs:aw->R (List D)}(hc:dz X (.type T) g)(hg:Gl X x)(hm:X.mg x=none)(hv:bootBuiltins x=some (.type T))(ha:DP X (e ::es) fs)(hn:x≠"__name__":=by decide)(kK:(x==("__debug__":Str))=false:=by decide)(he:starEach (e ::es) X.env=(false,eval e X.env) ::starEach es X.env:=by rfl)(nE:(backTo pos (starEach es X.env)).any (·.1)=false:=by rfl):QD X (.Call (.Name x p) (e ::es) [] pos) (bf g fs):=⟨CY hc hg hm hv ha.1 hn kK he nE⟩
theorem cH:vg X [] mO:=⟨Jw⟩
theorem aq{st:Stmt}{rest:List Stmt}{F G:FS}(h1:Ju X st F)(h2:vg X rest G):vg X (st ::rest) (br F G):=⟨FJ h1.1 h2.1⟩
theorem aU{st:Stmt}{F:FS}(h1:Ju X st F):vg X [st] F:=⟨Hz h1.1⟩
theorem aF{i:Nat}{pos pos':Pos}(hN:X.N.Nodup)(hi:X.N[i]? =some x)(hx:Loc X.env.scope x)(he:QD X e f)(hs:swapsWith e (some (.Name x pos')) pos.line X.env=pure false:=by rfl)(hf:X.fn x=true\/X.env.scope.names.lookup x=some .local:=by first | exact .inl rfl | exact .inr rfl | assumption):Ju X (.Assign [.Name x pos'] e pos) (b9 i f):=⟨HF hN hi hx he.1 hs hf⟩
theorem t8{i:Nat}{f:aw->R (List D)}{pos pos':Pos}(hN:X.N.Nodup)(hi:X.N[i]? =some x)(hx:Loc X.env.scope x)(he:QN X e f)(hs:swapsWith e (some (.Name x pos')) pos.line X.env=pure false:=by rfl)(hf:X.fn x=true\/X.env.scope.names.lookup x=some .local:=by first | exact .inl rfl | exact .inr rfl | assumption):Ju X (.Assign [.Name x pos'] e pos) (yO i f):=⟨HY hN hi hx he.1 hs hf⟩
theorem nT{i:Nat}{x:Str}{e:Expr}{f:FD}{oI apos bj pos:Pos}(hN:X.N[i]? =some x)(hv:Kb X.env.scope x)(he:QD X e f)(hd:(x==("__debug__":Str))=false:=by decide)(uJ:(x==("__classdict__":Str))=false:=by decide)(hs:starEach [e] X.env=(false,eval e X.env) ::starEach [] X.env:=by rfl)(eI:(apos.endLine==bj.line)=true:=by rfl)(kG:((backTo bj (starEach [e] X.env)).all (fun x=>!x.1) && (backToKw bj (keywordEach [] X.env)).all (fun x=>x.1.isSome)
 && decide (([e]:List Expr).length+([]:List Keyword).length+(if([]:List Keyword).isEmpty then 0 else 1) < 30))=true:=by rfl) (G0:swapsWith (.Call (.Attribute (.Name x oI) "append" apos) [e] [] bj) none pos.line X.env=pure false:=by rfl) (eJ:attributeBase (.Name x oI) "append" X.env (eval (.Name x oI) X.env)=eval (.Name x oI) X.env:=by rfl):Ju X (.Expr (.Call (.Attribute (.Name x oI) "append" apos) [e] [] bj) pos) (wV i f):=⟨Jr hN hv he.1 hd uJ hs eI kG G0 eJ⟩
theorem tq(i:Nat){F:FS}(h:vg X KI F):vg X KI (wR i F):=⟨Hr i h.1⟩
theorem bq(he:QD X e f):Ju X (.Return (some e) pos) (d_ f):=⟨IH he.1⟩
theorem df{fc:aw->R Bool}{F G:FS}(hc:QB X c fc)(ha:vg X a F)(hb:vg X b G):Ju X (.If c a b pos) (tZ fc F G):=⟨Nb hc.1 ha.1 hb.1⟩
theorem aZ{i:Nat}{pos:Pos}(hN:X.N.Nodup)(hi:X.N[i]? =some x)(hx:Loc X.env.scope x)(hf:X.fn x=true\/X.env.scope.names.lookup x=some .local:=by first | exact .inl rfl | exact .inr rfl | assumption):NW X (.Name x pos) (bA i):=⟨Gz hN hi hx hf⟩
theorem oZ:JE X [] vp:=⟨FV⟩
theorem bL{u:Ez}(h1:NW X e t)(h2:JE X es u)(hs:(assignEach (e ::es) X.env).map (·.2)=assign e X.env ::(assignEach es X.env).map (·.2):=by rfl):JE X (e ::es) (dj t u):=⟨Cw h1.1 h2.1 hs⟩
theorem qI{pos:Pos}(he:QD X e f)(hg:NW X tg t)(hs:swapsWithSole [tg] e pos.line X.env=pure false:=by rfl)(hw:swappedStores [tg] e X.env=pure none:=by rfl)(h1:(assignEach [tg] X.env).map (·.2)=[assign tg X.env]:=by rfl):Ju X (.Assign [tg] e pos) (Cj f t):=⟨Ii he.1 hg.1 hs hw h1⟩
theorem gM(h:QD X e f):NF X tg e (kc f):=⟨Jz h.1⟩
theorem gf{tg a:Expr}{p pos:Pos}(h:QD X a f)(hg:Gl X "range")(hm:X.mg "range"=none)(hs:starEach [a] X.env=[(false,eval a X.env)]:=by rfl):NF X tg (.Call (.Name "range" p) [a] [] pos) (j9 f):=⟨Au h.1 hg hm hs⟩
theorem oj{it:aw->R (List D)}{F:FS}{pos:Pos}(hp:PassesOwn (model X.prog X.w) X.A X.env X.xe)(hc:X.calm=true)(hi:NF X tg iter it)(hg:NW X tg t)(hb:vg X body F)(hs:∀x,foldedSetIterable iter X.env x=pure x:=by intro _;rfl):Ju X (.For tg iter body [] pos) (vi it t F):=⟨HL hp hc hi.1 hg.1 hb.1 hs⟩
theorem l7{own:List Str}{kp:List Nat}{kn:List Str}{it:aw->R (List D)}{c:aw->R Bool}{pos:Pos}(hc:X.calm=true)(C:eU X scope own kp kn)(hi:NF X tg iter it)(hg:∀fp s H,NW (cb X scope (own++kn) fp s H) tg t)(Ni:∀fp s H,Lx (cb X scope (own++kn) fp s H) ifs c)(he:∀fp s H,QD (cb X scope (own++kn) fp s H) elt f)(hs:∀x,foldedSetIterable iter X.env x=pure x:=by intro _;rfl):QN X (.ListComp elt [⟨tg,iter,ifs,0⟩] scope pos) (ny it t c f own kp):=⟨Ja hc C hi.1 (fun fp s H=>(hg fp s H).1) (fun fp s H=>(Ni fp s H).1) (fun fp s H=>(he fp s H).1) hs⟩
theorem lZ:Lx X [] zC:=⟨Fc⟩
theorem Fm{c:aw->R Bool}(h:QB X e c):Lx X [e] c:=⟨JD h.1⟩
theorem bp(ha:QD X a fa)(hb:QD X b fb)(hs:wo b):QD X (.Subscript a b pos) (e2 dN fa fb):=⟨ON ha.1 hb.1 hs⟩
theorem eu:QP X none lx:=⟨JI⟩
theorem dt(h:QD X e f):QP X (some e) (iq f):=⟨HU h.1⟩
theorem jx{lo hi:Option Expr}{fl fh:FO}(he:QD X e f)(hl:QP X lo fl)(hh:QP X hi fh):QD X (.Subscript e (.Slice lo hi none p2) pos) (yZ f fl fh):=⟨Oz he.1 hl.1 hh.1⟩
theorem qx{o e:Expr}{f:FD}{fs:aw->R (List D)}{apos bj:Pos}(ho:QD X o f)(ha:DP X [e] fs)(eJ:attributeBase o "join" X.env (eval o X.env)=eval o X.env:=by rfl)(kG:((backTo bj (starEach [e] X.env)).all (fun x=>!x.1) && (backToKw bj (keywordEach [] X.env)).all (fun x=>x.1.isSome)
 && decide (([e]:List Expr).length+([]:List Keyword).length+(if([]:List Keyword).isEmpty then 0 else 1) < 30))=true:=by rfl) (eI:(apos.endLine==bj.line)=true:=by rfl) (hs:starEach [e] X.env=(false,eval e X.env) ::starEach [] X.env:=by rfl):QD X (.Call (.Attribute o "join" apos) [e] [] bj) (v_ "str" nv f fs):=⟨Ic ho.1 ha.1 eJ kG eI hs⟩
theorem gg:QJ X [] pM:=⟨L5⟩
theorem bb{g:aw->R (List Str)}(he:QD X e f)(hr:QJ X es g)(TU:evalEach (e ::es) X.env=eval e X.env ::evalEach es X.env:=by rfl):QJ X (e ::es) (b8 f g):=⟨Jo he.1 hr.1 TU⟩
theorem cS{rest:List Expr}{g:aw->R (List Str)}(h:QJ X (G2 ::G5 ::rest) g):QD X (.JoinedStr (G2 ::G5 ::rest) pos) (c4 g):=⟨Cg h.1⟩
theorem gO(h:QD X e f):QD X (.FormattedValue e (-1) none pos) (lY f):=⟨Lj h.1⟩
theorem Ex(h:QD X e f):NF X tg e (Gs f):=⟨JH h.1⟩
theorem cu{P:Program}{w:World}{K:W.Frag}{mg:Aaf}{base:Heap}{x qual:Str}{st:Stmt}{f:Addr}{fd:FuncData}{N ps:List Str}{k:Nat}{F:FS}{b:List Stmt}{sc:Scope}(hb:a9 st=b)(hs:aJ st=sc)(Fn:z0 K x qual st f fd)(S:bC N ps sc)(iz:∀(dJ:Value) (A:Around) (outer:List Env) (s:Shared) (H:Hp) (E:XK),dU k (A.deeper (envOfC qual sc s.heap.objs.size f dJ))->
 vg (md vT P w K mg base N qual sc f dJ A outer s H E).IZ b F):jk P w K mg base vT (k+1) f fd ps (Jg K ps.length (va N F)):=Fb hb hs Fn S (fun dJ A outer s H E hr=>(iz dJ A outer s H E hr).1)
theorem aP{g:List D->R D}{k j n:Nat}{p pos:Pos}{fs:aw->R (List D)}(C:Callee X.prog X.w X.K X.mg X.base k x n g)(hr:dU j X.A)(GY:k<=j)(hg:Gl X x)(ha:DP X (e ::es) fs)(hn:∀δ ds,fs δ= .ok ds->ds.length=n)(kK:(x==("__debug__":Str))=false:=by decide)(he:starEach (e ::es) X.env=(false,eval e X.env) ::starEach es X.env:=by rfl)(nE:(backTo pos (starEach es X.env)).any (·.1)=false:=by rfl):QD X (.Call (.Name x p) (e ::es) [] pos) (bf g fs):=⟨EI C hr GY hg ha.1 hn kK he nE⟩
theorem IC{keys:List (Option Expr)}{values:List Expr}{uI:List (TE × TE)}{aC:List (Key × V)}(hu:X.A.units+1 < cLine)(h:Kg X xJ keys values uI)(zg:keys.all (·.isSome)=true)(hl:keys.length=values.length)(h0:keys≠[])(hc:∀σ H Q,Q (aC.map fun kv=>(kV kv.1,kv.2)) H->pL uI σ H Q)(hlen:aC.length<=15)(he:QD X e fe)(hf:QD X f ff)(m:M2 X (.Dict keys values xJ) "get" apos e f bj)(hd:PE X (.Dict keys values xJ) (FK uI)):QD X (.Call (.Attribute (.Dict keys values xJ) "get" apos) [e,f] [] bj) (Fv aC fe ff):=⟨KQ hu h zg hl h0 hc hlen he.1 hf.1 m hd⟩
end
end L2
end
section
namespace L2
open PySem PySem.Spec PyProof.Rows
theorem Dj{P:Program}{w:World}{K:W.Frag}{mg mb:Aaf}{CX:DH}{k:Nat}{fa a:Addr}{fd:FuncData}{x:Str}{sp:Sp}{s₁:Shared}{vs:List Value}{ns:List Int}
 (KX:K.In s₁.heap) (W4:s₁.heap.Ns mainGlobals mg) (hb:s₁.heap.Ns builtinsNs mb) (hbb:∀x:Str,x≠"__name__"->mb x=bootBuiltins x) (Vh:s₁.heap.NoLimit) (hg:s₁.gens=#[])
 (ha:s₁.heap.get? a=some {cls:= .type "list",data:= .seq vs.toArray}) (hi:IntsAre vs ns) (hl:ns.length<=sizeLine) (hr:dU k callerA)
 (F:∀base:Heap,K.In base->base.Ns mainGlobals mg->jk P w K mg base CX k fa fd [x] sp) (Qx:∀(s:Shared) (u:Value),BindsTo s fd ⟨[u],[]⟩ [(x,u)])
 (DC:∀H:Hp,P4 H->yr K [] H a (ns.map V.int)->sp [.ref a] H (fun v _=>v= .bl true) fun _ _ _=>False)
 (Zr:∀H e s',CX [] H s₁ (fun _ _ _=>False) e s'->False) :
 codeAny (model P w) callerA (.call (.ref fa) ⟨[.ref a],[]⟩) (fun r s'=>r= .ok (.ret (.bool true))/\OldK s₁.heap s'.heap/\s'.os=s₁.os/\AllBare s'.gens) s₁:=by
 have rv:=vV hi;have lenV:=hi.length;have core:∀H:Hp,P4 H->yr K [] H a (ns.map V.int)->nK P w H s₁.heap->(∀b,H b≠none->b=a)->(H a≠none->K.lookup a=none)->
  codeAny (model P w) callerA (.call (.ref fa) ⟨[.ref a],[]⟩) (fun r s'=>r= .ok (.ret (.bool true))/\OldK s₁.heap s'.heap/\s'.os=s₁.os/\AllBare s'.gens) s₁:=by
  intro H hO hS hok hA hK;have BZ:∀{b:Addr} {o:Obj},s₁.heap.get? b=some o->H b=none->(xC s₁.heap H).get? b=some o:=fun e n=>Fs e n
  have noA:∀{b:Addr} {o:Obj} {es:Array DictEntry} {ep:Nat},s₁.heap.get? b=some o->o.data= .dict es ep->H b=none:=fun {b o es ep} e d=>by
   cases q:H b with
   | none=>rfl
   | some u=>
     have e':b=a:=hA b (by rw[q];simp)
     subst e';rw[ha] at e;cases e;have d':Data.seq vs.toArray _=Data.dict es ep:=d;cases d'
  have nsK:∀{b:Addr} {m:Aaf},s₁.heap.Ns b m->(xC s₁.heap H).Ns b m:=fun {b m} ⟨o,es,ep,e,d,r⟩=>⟨o,es,ep,BZ e (noA e d),d,r⟩
  have hKb:K.In (xC s₁.heap H):=fun b o e=>BZ (KX b o e) (by
   cases q:H b with
   | none=>rfl
   | some u=>
     have e':b=a:=hA b (by rw[q];simp)
     subst e';rw[hK (by rw[q];simp)] at e;cases e)
  have hM:Mod K mg (xC s₁.heap H):=⟨hKb,nsK W4,⟨mb,nsK hb,hbb⟩,let⟨mc,h1,h2⟩:=Vh;⟨mc,nsK h1,h2⟩⟩
  have e0:Ak P w K mg (xC s₁.heap H) callerA [] s₁ H:=⟨rfl,hM,fun b o e=>JK e,Nat.le_of_eq (Dg _ _),trivial,fun b hb=>absurd (show b∈([]:List Addr) from hb) (by simp),hok, .of_eq hg⟩
  refine codeAny_mono ((F _ hKb (nsK W4)).run callerA [] s₁ H ⟨[.ref a],[]⟩ [.ref a] [.ref a] _ _ hr e0 (Qx s₁ (.ref a)) (.cons rfl .nil) (DC H hO hS)) fun r s' h=>?_
  cases r with
  | error e=>exact(Zr H e s' h).elim
  | ok fl=>
    cases fl with
    | next=>exact False.elim h
    | brk=>exact False.elim h
    | cont=>exact False.elim h
    | ret u=>
      obtain⟨v,H',os,bare,un,Uw,r',q⟩:=h;have q':v= .bl true:=q;subst q';obtain rfl:u=Value.bool true:=r';refine⟨rfl,OldK.of_keep fun b o e=>?_,os,bare⟩
      cases q:H b with
      | none=>exact un.keep b o e q (by intro z;exact absurd (show b∈([]:List Addr) from z) (by simp)) (by simp)
      | some u=>
        rcases hO b with z | ⟨ob,xs,z⟩
        .rw [q] at z;cases z
        .have z2:=un.frzs b ob _ z;obtain⟨e1,_⟩:=hok b _ z;obtain⟨e2,_⟩:=Uw b _ z2;rw[e] at e1;cases e1;exact e2
 cases hk:K.lookup a with
 | some o=>
   have e:=KX a o hk;rw[ha] at e;cases e;refine core (fun _=>none) (fun _=> .inl rfl) (.inr ⟨vs,_,hk,by rw[List.length_map];exact hl,rv⟩) (fun b u z=>by have z':(none:Option HO)=some u:=z;cases z') (fun b z=>absurd rfl z) fun z=>absurd rfl z
 | none=>
   refine core (fun b=>if b=a then some (.ik {cls:= .type "list",data:= .seq vs.toArray} (.lst (ns.map V.int))) else none) (fun b=>?_) (.inl ⟨by simp, .inr ⟨{cls:= .type "list",data:= .seq vs.toArray},if_pos rfl⟩⟩) (fun b u z=>?_) (fun b z=>?_) fun _=>hk
   .by_cases hb:b=a
    .exact .inr ⟨_,_,if_pos hb⟩
    .exact .inl (if_neg hb)
   .by_cases hb:b=a
    .have z':=(if_pos hb).symm.trans z;cases z';subst hb;exact⟨ha,by rw[List.length_map];exact hl,vs,_,rv,ha⟩
    .have z':=(if_neg hb).symm.trans z;cases z'
   .by_cases hb:b=a
    .exact hb
    .exact absurd (if_neg hb) z
theorem ints_rep{K:W.Frag}{B:List Addr}:∀ns:List Int,aG K B H (ns.map D.int) (ns.map V.int)
 | []=>aG.nil
 | n ::ns=>aG.cons (Rep.int.mpr rfl) (ints_rep ns)
theorem Qd{l:PySem.W.OpenLaw}{n k:Nat}{q:Program}{loose:List Str}{XP:(Str->Option Value)->Heap->Prop}{YP:World->Heap->Prop}{d:DefRec}{K:Params->W.Frag}{x:Str}{g:List D->R D}
 (hn:l.most=some n) (Q4:n<=sizeLine) (T5:d.params.defaults=[]) (hr:dU k callerA) (hY:∀(w:World) (h:Heap),YP w h->(K w.params).In h)
 (F:∀(w:World) (mg:Aaf) (fa:Addr) (h:Heap),(K w.params).In h->h.Ns mainGlobals mg->mg d.name=some (.ref fa)->
   ∃fd:FuncData,(∀(s:Shared) (u:Value),BindsTo s fd ⟨[u],[]⟩ [(x,u)])/\∀base:Heap,(K w.params).In base->base.Ns mainGlobals mg->jk l.prog w (K w.params) mg base vT k fa fd [x] (Jg (K w.params) 1 g))
 (hg:∀ns:List Int,ns.length<=n->g [.lst (ns.map D.int)]= .ok (.bl true)):PySem.W.WalkO q loose XP YP l.row.toRowW d [] (fun f vs=>PySem.call f vs):=by
 refine Att.yK hn T5 fun w s₀ s₁ mg mb fa o pm cd doc a vs ns G Y ho hd uJ Ql Nq hints hlen Vb=>?_
 have KX:=hY w _ Y;obtain⟨fd,hb,hF⟩:=F w mg fa _ KX G.T.g Ql;refine Dj KX G.T.g G.T.b G.T.builtins G.T.nolimit Vb Nq hints (Nat.le_trans hlen Q4) hr hF hb (fun H hO hS=>?_) fun H e s' h=>h
 refine⟨rfl,[],[.lst (ns.map D.int)], .bl true,fun b hb=>(by cases hb),aG.cons (Rep.lst.mpr ⟨_,_,rfl,hS,ints_rep ns⟩) aG.nil,hg ns hlen,fun z H' _ r=>Rep.bl.mp r⟩
theorem dE{K:W.Frag}{h:Heap}{mg:Aaf}{x:Str}{st:Stmt}{f:Addr}{oc:Value}{od an:Option Addr}{GX:Array (Option Value)}{kV doc pm dJ ct:Value}(X:K.In h)(G:h.Ns mainGlobals mg)(a:PySem.W.nsIn K mainGlobals x=some (some (.ref f)))
 (l:K.lookup f=some ⟨oc,od, .func (PySem.W.fnOf x x (jf st) (a9 st) (aJ st) .none kV doc pm an dJ ct),GX⟩) (c:PySem.W.codeIn K dJ x=true) (k:PySem.W.keepIn K (.ref f)=true):Def K mg x st:=
 ⟨f,_,q8 l c k,PySem.W.mg_of X G a⟩
theorem D8{K:W.Frag}{h:Heap}{mg:Aaf}(X:K.In h)(G:h.Ns mainGlobals mg){t:Tok}(a:PySem.W.nsIn K mainGlobals x=some (some (.str y t))):Glob K mg x (.str y):=
 ⟨_, .str y,PySem.W.mg_of X G a,⟨t,rfl⟩,fun _ _=>Rep.str.mpr rfl⟩
theorem mf{K:W.Frag}{h:Heap}{mg:Aaf}(X:K.In h)(G:h.Ns mainGlobals mg){i:Int}{t:Tok}(a:PySem.W.nsIn K mainGlobals x=some (some (.int i t))):Glob K mg x (.int i):=
 ⟨_, .int i,PySem.W.mg_of X G a,⟨t,rfl⟩,fun _ _=>Rep.int.mpr rfl⟩
theorem qN{K:W.Frag}{B:List Addr}:∀ss:List Str,aG K B H (ss.map D.str) (ss.map V.str)
 | []=>aG.nil
 | n ::ns=>aG.cons (Rep.str.mpr rfl) (qN ns)
theorem x5{K:W.Frag}{h:Heap}{mg:Aaf}(X:K.In h)(G:h.Ns mainGlobals mg){x:Str}{a:Addr}{o:Obj}{its:Array Value}{n:Nat}(ss:List Str)(e:PySem.W.nsIn K mainGlobals x=some (some (.ref a)))(l:K.lookup a=some o)(hc:o.cls= .type "tuple")(hd:o.data= .seq its n)
 (hz:its.size<=sizeLine) (r:Vals (ss.map V.str) its.toList):Glob K mg x (.tup (ss.map D.str)):=
 ⟨_, .ref a,PySem.W.mg_of X G e,rfl,fun B H=>Rep.tup.mpr ⟨a,_,rfl, .inr ⟨o,its,n,l,hc,hd,hz,r⟩,qN ss⟩⟩
end L2
end
section
namespace L2
open PySem PySem.Spec PyProof.Rows
theorem uG{t:FT}{body:FS}:∀(ds:List D) (n:Nat) (P:Nat->aw->Prop) {δ:aw},P n δ->
 (∀i d δ,ds[i]? =some d->P (n+i) δ->∃dC,((t d δ).bind body)= .ok (.nx dC)/\P (n+i+1) dC)->∃dC,kh t body ds δ= .ok (.nx dC)/\P (n+ds.length) dC
 | [],n,P,δ,h0,_=>⟨δ,rfl,h0⟩
 | d ::ds,n,P,δ,h0,hs=>by
   obtain⟨δ1,e1,p1⟩:=hs 0 d δ rfl h0;obtain⟨jj,e2,p2⟩:=uG ds (n+1) P p1 (fun i d' dC hi hp=>by
    have:=hs (i+1) d' dC (by simpa using hi) (by rw[show n+(i+1)=n+1+i by omega];exact hp)
    rw[show n+(i+1)+1=n+1+i+1 by omega] at this
    exact this)
   refine⟨jj,?_,by rw[List.length_cons,show n+(ds.length+1)=n+1+ds.length by omega];exact p2⟩
   obtain⟨N4,h1,h2⟩:=R.ak e1;show(t d δ).bind (fun δ1=>(body δ1).bind fun o=>match o with | .nx jj=>kh t body ds jj | .rt r=> .ok (.rt r))=_
   rw[h1,R.aO,h2,R.aO];exact e2
theorem vG{t:FT}{body:FS}{ds:List D}(P:Nat->aw->Prop){δ:aw}(h0:P 0 δ)
 (hs:∀i d δ,ds[i]? =some d->P i δ->∃dC,((t d δ).bind body)= .ok (.nx dC)/\P (i+1) dC):∃dC,kh t body ds δ= .ok (.nx dC)/\P ds.length dC:=by
 have:=uG (t:=t) (body:=body) ds 0 P h0 (fun i d δ hi hp=>by simpa using hs i d δ hi (by simpa using hp))
 simpa using this
theorem KZ{α:Type}{xs:List α}{i:Int}(h0:0<=i)(h:i.toNat < xs.length):we xs i=some xs[i.toNat]:=by
 unfold we DY;rw[if_pos h0,if_pos (by omega)]
 simp [h]
theorem strs_map:∀ss:List Str,strs? (ss.map D.str)=some ss
 | []=>rfl
 | s ::ss=>by show(strs? (ss.map D.str)).map (s ::·)=_;rw [strs_map ss];rfl
theorem jd{a b:Str}(h:a.cps.toList=b.cps.toList):a=b:=by
 obtain⟨a⟩:=a;obtain⟨b⟩:=b;congr 1;exact Array.toList_inj.mp h
theorem cJ(a b:Str):(a++b).cps.toList=a.cps.toList++b.cps.toList:=by
 show(a.cps++b.cps).toList=_;simp
theorem Dy(a b c:Str):a++b++c=a++(b++c):=jd (by rw[cJ,cJ,cJ,cJ,List.append_assoc])
theorem empty_app(a:Str):Str.empty++a=a:=jd (by rw[cJ];rfl)
theorem aH{F G:FS}{δ δ1:aw}{r:R Out}(h:F δ= .ok (.nx δ1))(h2:G δ1=r):br F G δ=r:=by unfold br;rw [h,R.aO];exact h2
theorem aL{f:aw->R (List D)}{δ:aw}{ds:List D}(h:f δ= .ok ds):eNew f δ= .ok (.lst ds):=by unfold eNew;rw [h];rfl
theorem mi{c:aw->R Bool}{F G:FS}{δ:aw}{r:R Out}(h:c δ= .ok true)(h2:F δ=r):tZ c F G δ=r:=by unfold tZ;rw [h,R.aO,if_pos rfl];exact h2
theorem kr{c:aw->R Bool}{F G:FS}{δ:aw}{r:R Out}(h:c δ= .ok false)(h2:G δ=r):tZ c F G δ=r:=by unfold tZ;rw [h,R.aO,if_neg (by decide)];exact h2
theorem oP{it:aw->R (List D)}{F:FS}{δ:aw}{ds:List D}{r:R Out}(h:it δ= .ok ds)(h2:kh t F ds δ=r):vi it t F δ=r:=by unfold vi;rw [h,R.aO];exact h2
theorem bW{f:FD}{δ:aw}{d:D}(h:f δ= .ok d):d_ f δ= .ok (.rt d):=by unfold d_;rw [h];rfl
theorem dQ{N:List Str}{F:FS}{ds:List D}{d:D}(h:F (dn N ds)= .ok (.rt d)):va N F ds= .ok d:=by unfold va;rw [h];rfl
theorem bS{α:Type}{p:Prop} [Decidable p](r:R α)(h:p):R.aW (decide p) r=r:=by rw[decide_eq_true h];rfl
theorem bH{i:Nat}{f:FD}{δ:aw}{d:D}(h:f δ= .ok d)(hi:i < δ.length):b9 i f δ= .ok (.nx (δ.set i (.val d))):=by unfold b9;rw [h,R.aO,bS _ hi]
theorem sQ{i:Nat}{f:aw->R (List D)}{δ:aw}{ds:List D}(h:f δ= .ok ds)(hi:i < δ.length):yO i f δ= .ok (.nx (δ.set i (.bld ds))):=by unfold yO;rw [h,R.aO,bS _ hi]
theorem qB{i:Nat}{f:FD}{δ:aw}{d:D}{ds:List D}(h:f δ= .ok d)(hb:δ[i]? =some (.bld ds))(hl:ds.length < sizeLine):wV i f δ= .ok (.nx (δ.set i (.bld (ds++[d])))):=by unfold wV uD;rw [h,R.aO,hb];show R.aW _ _=_;rw [bS _ hl]
theorem kg{it:aw->R (List D)}{c:aw->R Bool}{own:List Str}{kp:List Nat}{δ:aw}{ds ys:List D}(h1:it δ= .ok ds)(h2:ds.length<=sizeLine)(h3:qW t c f (uV own kp δ) ds= .ok ys):ny it t c f own kp δ= .ok ys:=by unfold ny;rw [h1,R.aO,bS _ h2,h3]
theorem LD{ds:List D}{i:Int}{d:D}(h:we ds i=some d):dN (.lst ds) (.int i)= .ok d:=by unfold dN;simp only[h]
theorem Ly{x:Str}{i:Int}{c:Nat}(hz:x.length<=sizeLine)(h:we x.cps.toList i=some c):dN (.str x) (.int i)= .ok (.str ⟨#[c]⟩):=by unfold dN;simp only[h,bS _ hz]
end L2
end
section
namespace L2
open PySem PySem.Spec PyProof.Rows
theorem az{g:D->D->R D}{fa fb:FD}{δ:aw}{a b:D}{r:R D}(ha:fa δ= .ok a)(hb:fb δ= .ok b)(h:g a b=r):e2 g fa fb δ=r:=by unfold e2;rw [ha,R.aO,hb,R.aO];exact h
theorem cD{g:D->D->R D}{fa fb:FD}{δ:aw}{a b:D}{k:Bool}(ha:fa δ= .ok a)(hb:fb δ= .ok b)(h:g a b= .ok (.bl k)):b2 g fa fb δ= .ok k:=by unfold b2;rw [az ha hb h];rfl
theorem aj{f:FD}{g:aw->R (List D)}{δ:aw}{d:D}{ds:List D}(h:f δ= .ok d)(h2:g δ= .ok ds):ag f g δ= .ok (d ::ds):=by unfold ag;rw [h,R.aO,h2];rfl
theorem aK{g:List D->R D}{fs:aw->R (List D)}{δ:aw}{ds:List D}{r:R D}(h:fs δ= .ok ds)(h2:g ds=r):bf g fs δ=r:=by unfold bf;rw [h,R.aO];exact h2
theorem II{g:aw->R (List D)}{δ:aw}{ds:List D}(h:g δ= .ok ds)(hl:ds.length<=sizeLine):C_ g δ= .ok (.tup ds):=by unfold C_;rw [h,R.aO,bS _ hl]
theorem aM{g:aw->R (List D)}{δ:aw}{ds:List D}(h:g δ= .ok ds)(hl:ds.length<=sizeLine):bg g δ= .ok ds:=by unfold bg;rw [h,R.aO,bS _ hl]
theorem lq{g:D->List D->R D}{f:FD}{fs:aw->R (List D)}{δ:aw}{ds:List D}{r:R D}(h:f δ= .ok (.str x))(h2:fs δ= .ok ds)(h3:g (.str x) ds=r):v_ "str" g f fs δ=r:=by
 unfold v_;rw [h,R.aO,h2,R.aO];exact h3
theorem kq{f:FD}{fl fh:FO}{δ:aw}{d:D}{lo hi:Option Int}{r:R D}(h:f δ= .ok d)(h1:fl δ= .ok lo)(h2:fh δ= .ok hi)(h3:JU d lo hi=r):yZ f fl fh δ=r:=by unfold yZ;rw [h,R.aO,h1,R.aO,h2,R.aO];exact h3
theorem dI{f:FD}{δ:aw}{i:Int}(h:f δ= .ok (.int i)):iq f δ= .ok (some i):=by unfold iq;rw [h];rfl
theorem bN{a b:Str}(h:a.length+b.length<=sizeLine):bD (.str a) (.str b)= .ok (.str (a++b)):=by unfold bD;exact bS _ h
theorem lC{a b:List D}(h:a.length+b.length<=sizeLine):bD (.lst a) (.lst b)= .ok (.lst (a++b)):=by unfold bD;exact bS _ h
theorem uu{a b:Int}(h:0 < b):dv (.int a) (.int b)= .ok (.int (a % b)):=by unfold dv Hg;exact bS _ h
theorem Bb{a b:Int}(h:0 < b)(h2:b < 1073741824):gI (.int a) (.int b)= .ok (.int (a / b)):=by unfold gI Hg;exact bS _ ⟨h,h2⟩
theorem HK{f:FD}{δ:aw}{n:Nat}(h:f δ= .ok (.int n))(hn:n < 1000000):j9 f δ= .ok (su 0 n):=by
 unfold j9;rw [h,R.aO];show R.aW (decide (-(2 ^ 62)<=(n:Int)/\(n:Int) < 2 ^ 62)) _=_;rw[bS _ ⟨by omega,by omega⟩,Int.toNat_natCast]
theorem lG{f:FD}{δ:aw}{ds:List D}(h:f δ= .ok (.lst ds)):kc f δ= .ok ds:=by unfold kc;rw [h];rfl
theorem GC{f:FD}{δ:aw}{b:Bool}(h:f δ= .ok (.bl b)):NU f δ= .ok b:=by unfold NU;rw [h];rfl
theorem jr{f:FD}{g:aw->R (List Str)}{δ:aw}{ss:List Str}(h:f δ= .ok (.str x))(h2:g δ= .ok ss):b8 f g δ= .ok (x ::ss):=by unfold b8;rw [h,R.aO];show(g δ).bind _=_;rw [h2];rfl
theorem yu{f:FD}{δ:aw}{x:Str}(h:f δ= .ok (.str x))(hl:x.length<=sizeLine):lY f δ= .ok (.str x):=by unfold lY;rw [h,R.aO];unfold Ji;exact bS _ hl
theorem tT{f:FD}{δ:aw}{i:Int}(h:f δ= .ok (.int i))(hl:i.natAbs.log2 < 1920):lY f δ= .ok (.str (toString i)):=by unfold lY;rw [h,R.aO];unfold Ji;exact bS _ hl
theorem pF{g:aw->R (List Str)}{δ:aw}{ss:List Str}(h:g δ= .ok ss)(hl:(ss.foldl (·++·) Str.empty).length<=sizeLine):c4 g δ= .ok (.str (ss.foldl (·++·) Str.empty)):=by unfold c4;rw [h,R.aO,bS _ hl]
theorem Of(ds:List D):o7 [.lst ds]= .ok (.int ds.length):=rfl
theorem xo{i:Int}(h:i.natAbs.log2 < 1920):cStr [.int i]= .ok (.str (toString i)):=by unfold cStr;exact bS _ h
end L2
end
section
namespace L3
open PySem PySem.Spec PyProof.Rows L2
inductive V3 where
 | d (x:D) | loc (k:Nat) | lst (vs:List V3) | tup (vs:List V3) | fn (x:Str)
inductive SO where
 | lst (ds:List D) | dct (aC:List (Key × D)) | ins (c:Nat) (fs:List (Str × V3)) | ik | exc (c:Nat)
abbrev aR:=List SO
inductive R3 (α:Type) where
 | ok (a:α) (S:aR) | ex (c:Nat) (S:aR) | no
def R3.bind{α β:Type}:R3 α->(α->aR->R3 β)->R3 β
 | .ok a S,f=>f a S
 | .ex c S,_=> .ex c S
 | .no,_=> .no
theorem R3.ak{α β:Type}{r:R3 α}{f:α->aR->R3 β}{b:β}{S':aR}(h:r.bind f= .ok b S'):∃a S,r= .ok a S/\f a S= .ok b S':=by
 cases r with
 | ok a S=>exact⟨a,S,rfl,h⟩
 | ex c S=>cases h
 | no=>cases h
@[simp] theorem R3.aO{α β:Type}(a:α)(S:aR)(f:α->aR->R3 β):(R3.ok a S).bind f=f a S:=rfl
def R3.aW{α:Type}(c:Bool)(r:R3 α):R3 α:=if c then r else .no
theorem R3.aQ{α:Type}{c:Bool}{r:R3 α}{a:α}{S:aR}(h:R3.aW c r= .ok a S):c=true/\r= .ok a S:=by
 cases c with
 | true=>exact⟨rfl,h⟩
 | false=>cases h
def R3.of{α:Type}(r:R α)(S:aR):R3 α:=match r with | .ok a=> .ok a S | _=> .no
theorem R3.of_ok{α:Type}{r:R α}{S S':aR}{a:α}(h:R3.of r S= .ok a S'):r= .ok a/\S'=S:=by
 cases r with
 | ok b=>cases h;exact⟨rfl,rfl⟩
 | ex c=>cases h
 | no=>cases h
structure P3 where
 r:List Addr
 z:List Addr
 f:List Addr
def P3.b(ρ:P3):List Addr:=ρ.r.filter (fun a=>!ρ.f.contains a)++ρ.z
theorem P3.dA{ρ:P3}{a:Addr}:a∈ρ.b↔(a∈ρ.r/\a ∉ ρ.f)\/a∈ρ.z:=by
 unfold P3.b;rw[List.mem_append,List.mem_filter];simp
def P3.push(ρ:P3)(a:Addr):P3:=⟨ρ.r++[a],ρ.z,ρ.f⟩
def P3.cut(ρ:P3)(n:Nat):P3:=⟨ρ.r.take n,ρ.z,ρ.f⟩
mutual
def aX(K:W.Frag)(ρ:P3)(H:Hp):V3->V->Prop
 | .d x,v=>Rep K ρ.b H x v
 | .loc k,v=>∃a,ρ.r[k]? =some a/\v= .ref a
 | .lst vs,v=>∃a xs,v= .ref a/\yr K ρ.b H a xs/\aI K ρ H vs xs
 | .tup vs,v=>∃a xs,v= .ref a/\Bp K ρ.b H a xs/\aI K ρ H vs xs
 | .fn x,v=>∃a,PySem.W.nsIn K mainGlobals x=some (some (.ref a))/\v= .ref a
def aI(K:W.Frag)(ρ:P3)(H:Hp):List V3->List V->Prop
 | [],xs=>xs=[]
 | d ::ds,xs=>∃x r,xs=x ::r/\aX K ρ H d x/\aI K ρ H ds r
end
structure Pre (ρ:P3) (H:Hp) (bM:P3) (H':Hp):Prop where
 bF:dD ρ.b H bM.b H'
 zz:bM.z=ρ.z
 zs:∀(b:Addr) (o:HO),b∈ρ.z->H b=some o->H' b=some o
 ext:∀(k:Nat) (a:Addr),ρ.r[k]? =some a->bM.r[k]? =some a
theorem Pre.refl(ρ:P3)(H:Hp):Pre ρ H ρ H:=⟨dD.refl ρ.b H,rfl,fun _ _ _ h=>h,fun _ _ h=>h⟩
theorem Pre.trans(a:Pre ρ H bM H')(b:Pre bM H' G3 qa):Pre ρ H G3 qa:=⟨a.bF.trans b.bF,b.zz.trans a.zz,fun c o hc h=>b.zs c o (by rw[a.zz];exact hc) (a.zs c o hc h),fun k x h=>b.ext k x (a.ext k x h)⟩
theorem Pre.same(s:aS H H'):Pre ρ H ρ H':=⟨dD.same s,rfl,fun b o _ h=>s b o h,fun _ _ h=>h⟩
theorem Bp.bF{K:W.Frag}{B B':List Addr}(p:dD B H B' H'){a:Addr}{xs:List V}(l:Bp K B H a xs):Bp K B' H' a xs:=
 l.elim (fun z=> .inl ⟨(p.rd z.2 z.1).2,(p.rd z.2 z.1).1⟩) .inr
mutual
theorem aX.pre{K:W.Frag}(p:Pre ρ H bM H'):∀{d:V3} {v:V},aX K ρ H d v->aX K bM H' d v
 | .d x,v,h=>by unfold aX at h ⊢;exact h.bF p.bF
 | .loc k,v,h=>by unfold aX at h ⊢;obtain⟨a,h1,h2⟩:=h;exact⟨a,p.ext k a h1,h2⟩
 | .lst vs,v,h=>by unfold aX at h ⊢;obtain⟨a,xs,e,l,r⟩:=h;exact⟨a,xs,e,l.bF p.bF,aI.pre p r⟩
 | .tup vs,v,h=>by unfold aX at h ⊢;obtain⟨a,xs,e,l,r⟩:=h;exact⟨a,xs,e,Bp.bF p.bF l,aI.pre p r⟩
 | .fn x,v,h=>by unfold aX at h ⊢;exact h
theorem aI.pre{K:W.Frag}(p:Pre ρ H bM H'):∀{ds:List V3} {xs:List V},aI K ρ H ds xs->aI K bM H' ds xs
 | [],_,h=>by unfold aI at h ⊢;exact h
 | d ::ds,xs,h=>by
   unfold aI at h ⊢;obtain⟨x,r,e,h1,h2⟩:=h;exact⟨x,r,e,aX.pre p h1,aI.pre p h2⟩
end
structure PW (ρ:P3) (H:Hp) (bM:P3) (H':Hp):Prop where
 bF:dD ρ.b H bM.b H'
 ext:∀(k:Nat) (a:Addr),ρ.r[k]? =some a->bM.r[k]? =some a
theorem Pre.pw(p:Pre ρ H bM H'):PW ρ H bM H':=⟨p.bF,p.ext⟩
theorem PW.trans(a:PW ρ H bM H')(b:PW bM H' G3 qa):PW ρ H G3 qa:=⟨a.bF.trans b.bF,fun k x h=>b.ext k x (a.ext k x h)⟩
mutual
theorem aX.pw{K:W.Frag}(p:PW ρ H bM H'):∀{d:V3} {v:V},aX K ρ H d v->aX K bM H' d v
 | .d x,v,h=>by unfold aX at h ⊢;exact h.bF p.bF
 | .loc k,v,h=>by unfold aX at h ⊢;obtain⟨a,h1,h2⟩:=h;exact⟨a,p.ext k a h1,h2⟩
 | .lst vs,v,h=>by unfold aX at h ⊢;obtain⟨a,xs,e,l,r⟩:=h;exact⟨a,xs,e,l.bF p.bF,aI.pw p r⟩
 | .tup vs,v,h=>by unfold aX at h ⊢;obtain⟨a,xs,e,l,r⟩:=h;exact⟨a,xs,e,Bp.bF p.bF l,aI.pw p r⟩
 | .fn x,v,h=>by unfold aX at h ⊢;exact h
theorem aI.pw{K:W.Frag}(p:PW ρ H bM H'):∀{ds:List V3} {xs:List V},aI K ρ H ds xs->aI K bM H' ds xs
 | [],_,h=>by unfold aI at h ⊢;exact h
 | d ::ds,xs,h=>by
   unfold aI at h ⊢;obtain⟨x,r,e,h1,h2⟩:=h;exact⟨x,r,e,aX.pw p h1,aI.pw p h2⟩
end
theorem aI.nil{K:W.Frag}:aI K ρ H [] []:=by unfold aI;rfl
theorem aI.cons{K:W.Frag}{d:V3}{ds:List V3}{x:V}{xs:List V}(h:aX K ρ H d x)(t:aI K ρ H ds xs):aI K ρ H (d ::ds) (x ::xs):=by
 unfold aI;exact⟨x,xs,rfl,h,t⟩
theorem aI.cq{K:W.Frag}{d:V3}{ds:List V3}{xs:List V}(h:aI K ρ H (d ::ds) xs):∃x r,xs=x ::r/\aX K ρ H d x/\aI K ρ H ds r:=by
 unfold aI at h;exact h
theorem aI.length{K:W.Frag}:∀{ds:List V3} {xs:List V},aI K ρ H ds xs->ds.length=xs.length
 | [],_,h=>by unfold aI at h;rw [h];rfl
 | d ::ds,xs,h=>by
   obtain⟨x,r,rfl,_,h2⟩:=h.cq;simp [h2.length]
theorem aI.of{K:W.Frag}{ρ:P3}:∀{ds:List D} {xs:List V},aG K ρ.b H ds xs->aI K ρ H (ds.map .d) xs
 | [],_,h=>by unfold aG at h;subst h;exact aI.nil
 | d ::ds,xs,h=>by
   obtain⟨x,r,rfl,h1,h2⟩:=h.cq;exact aI.cons (by unfold aX;exact h1) (aI.of h2)
theorem aI.to{K:W.Frag}{ρ:P3}:∀{ds:List D} {xs:List V},aI K ρ H (ds.map .d) xs->aG K ρ.b H ds xs
 | [],_,h=>by unfold aI at h;subst h;exact aG.nil
 | d ::ds,xs,h=>by
   obtain⟨x,r,rfl,h1,h2⟩:=aI.cq h;unfold aX at h1;exact aG.cons h1 (aI.to h2)
def isExc(C b:Addr):Heap->Prop:=fun h=>∃o,h.get? b=some o/\o.cls= .ref C
def DL(K:W.Frag)(cl:Aag)(ρ:P3)(H:Hp):SO->Option HO->Prop
 | .lst ds,h=>∃xs,h=some (.lst xs)/\aG K ρ.b H ds xs
 | .dct aC,h=>∃ys,h=some (.dK ys)/\ys.map (·.1)=aC.map (·.1)/\aG K ρ.b H (aC.map (·.2)) (ys.map (·.2))
 | .ins c fs,h=>∃dx ys,h=some (.ins (cl c) dx ys)/\ys.map (·.1)=fs.map (·.1)/\aI K ρ H (fs.map (·.2)) (ys.map (·.2))
 | .ik,h=>∃u,h=some u
 | .exc c,h=>∃b,h=some (.ext (isExc (cl c) b))
theorem DL.pre{K:W.Frag}{cl:Aag}(p:Pre ρ H bM H'){o:SO}{h:Option HO}(r:DL K cl ρ H o h):DL K cl bM H' o h:=by
 cases o with
 | lst ds=>obtain⟨xs,e,q⟩:=r;exact⟨xs,e,q.bF p.bF⟩
 | dct aC=>obtain⟨ys,e,e2,q⟩:=r;exact⟨ys,e,e2,q.bF p.bF⟩
 | ins c fs=>obtain⟨dx,ys,e,e2,q⟩:=r;exact⟨dx,ys,e,e2,q.pre p⟩
 | ik=>exact r
 | exc c=>exact r
theorem DL.pw{K:W.Frag}{cl:Aag}(p:PW ρ H bM H'){o:SO}{h:Option HO}(r:DL K cl ρ H o h):DL K cl bM H' o h:=by
 cases o with
 | lst ds=>obtain⟨xs,e,q⟩:=r;exact⟨xs,e,q.bF p.bF⟩
 | dct aC=>obtain⟨ys,e,e2,q⟩:=r;exact⟨ys,e,e2,q.bF p.bF⟩
 | ins c fs=>obtain⟨dx,ys,e,e2,q⟩:=r;exact⟨dx,ys,e,e2,q.pw p⟩
 | ik=>exact r
 | exc c=>exact r
theorem DL.some{K:W.Frag}{cl:Aag}{o:SO}{h:Option HO}(r:DL K cl ρ H o h):∃u,h=some u:=by
 cases o with
 | lst ds=>obtain⟨xs,e,q⟩:=r;exact⟨_,e⟩
 | dct aC=>obtain⟨ys,e,e2,q⟩:=r;exact⟨_,e⟩
 | ins c fs=>obtain⟨dx,ys,e,e2,q⟩:=r;exact⟨_,e⟩
 | ik=>exact r
 | exc c=>obtain⟨b,e⟩:=r;exact⟨_,e⟩
structure SW (K:W.Frag) (cl:Aag) (ρ:P3) (H:Hp) (S:aR):Prop where
 len:ρ.r.length=S.length
 nd:∀(i j:Nat) (a:Addr),ρ.r[i]? =some a->ρ.r[j]? =some a->i=j
 ob:∀(k:Nat) (a:Addr) (o:SO),ρ.r[k]? =some a->S[k]? =some o->DL K cl ρ H o (H a)
 zb:∀b∈ρ.z,(∃xs,H b=some (.lst xs))/\b ∉ ρ.r
 fz:∀(k:Nat) (a:Addr),ρ.r[k]? =some a->S[k]?≠some .ik->a ∉ ρ.f
 ff:∀a∈ρ.f,∃o,H a=some o
 fi:∀(k:Nat) (a:Addr),ρ.r[k]? =some a->S[k]? =some .ik->a∈ρ.f
theorem SW.rs{K:W.Frag}{cl:Aag}{ρ:P3}{H:Hp}{S:aR}(w:SW K cl ρ H S):∀a∈ρ.r,∃o,H a=some o:=fun a z=>by
 obtain⟨k,hk⟩:=List.getElem?_of_mem z;have hl:=(List.getElem?_eq_some_iff.mp hk).1;exact(w.ob k a _ hk (List.getElem?_eq_getElem (by rw[<-w.len];exact hl))).some
theorem SW.bs{K:W.Frag}{cl:Aag}{ρ:P3}{H:Hp}{S:aR}(w:SW K cl ρ H S):∀a∈ρ.b,∃o,H a=some o:=fun a ha=>by
 rcases P3.dA.mp ha with z | z
 .exact w.rs a z.1
 .obtain⟨xs,h⟩:=(w.zb a z).1;exact⟨_,h⟩
theorem SW.same{K:W.Frag}{cl:Aag}{S:aR}(w:SW K cl ρ H S)(s:aS H H'):SW K cl ρ H' S:=
 ⟨w.len,w.nd,fun k a o h1 h2=>by
   have r:=w.ob k a o h1 h2;obtain⟨u,hu⟩:=r.some;rw[s a u hu,<-hu];exact r.pre (Pre.same s),fun b hb=>let⟨⟨o,ho⟩,n⟩:=w.zb b hb;⟨⟨o,s b _ ho⟩,n⟩,w.fz,fun a ha=>let⟨o,ho⟩:=w.ff a ha;⟨o,s a o ho⟩,w.fi⟩
theorem P3.mem_push{ρ:P3}{a b:Addr}(h:b∈(ρ.push a).b):b∈ρ.b\/b=a:=by
 rcases P3.dA.mp h with⟨z,n⟩ | z
 .rcases List.mem_append.mp z with y | y
  .exact .inl (P3.dA.mpr (.inl ⟨y,n⟩))
  .exact .inr (List.mem_singleton.mp y)
 .exact .inl (P3.dA.mpr (.inr z))
theorem SW.new{K:W.Frag}{cl:Aag}{ρ:P3}{H H':Hp}{S:aR}(w:SW K cl ρ H S){a:Addr}{o:SO}(s:aS H H')(n:H a=none)(r:DL K cl (ρ.push a) H' o (H' a))(sF:o≠SO.ik:=by intro h;cases h) :
 SW K cl (ρ.push a) H' (S++[o])/\Pre ρ H (ρ.push a) H':=by
 have na:a ∉ ρ.b:=fun ha=>by obtain⟨o,ho⟩:=w.bs a ha;rw [n] at ho;cases ho
 have nr:a ∉ ρ.r:=fun ha=>by obtain⟨o,ho⟩:=w.rs a ha;rw [n] at ho;cases ho
 have nf:a ∉ ρ.f:=fun ha=>by obtain⟨o,ho⟩:=w.ff a ha;rw [n] at ho;cases ho
 have p:Pre ρ H (ρ.push a) H':=⟨fun b u e nb=>⟨s b u e,fun hb=>by
  rcases P3.mem_push hb with z | z
  .exact nb z
  .subst z;rw [n] at e;cases e⟩,rfl,fun b o _ h=>s b o h,fun k x hx=>by
   show(ρ.r++[a])[k]? =_;rw[List.getElem?_append_left (List.getElem?_eq_some_iff.mp hx).1];exact hx⟩
 have last:∀(i:Nat) (b:Addr),(ρ.push a).r[i]? =some b->(i < ρ.r.length/\ρ.r[i]? =some b)\/(i=ρ.r.length/\b=a):=fun i b h=>by
  have h:(ρ.r++[a])[i]? =some b:=h;by_cases q:i < ρ.r.length
  .rw [List.getElem?_append_left q] at h;exact .inl ⟨q,h⟩
  .rw [List.getElem?_append_right (by omega)] at h
   have h0:i - ρ.r.length=0:=by
    have:=(List.getElem?_eq_some_iff.mp h).1;simp at this;omega
   rw[h0] at h;cases h;exact .inr ⟨by omega,rfl⟩
 refine⟨⟨by show(ρ.r++[a]).length=_;rw [List.length_append,List.length_append,w.len];rfl,fun i j b hi hj=>?_,fun k b u hk hu=>?_,fun b hb=>?_,fun k b hk hu=>?_,fun b hb=>?_,fun k b hk hu=>?_⟩,p⟩
 .rcases last i b hi with⟨q1,q2⟩ | ⟨q1,rfl⟩
  .rcases last j b hj with⟨z1,z2⟩ | ⟨z1,rfl⟩
   .exact w.nd i j b q2 z2
   .exact absurd (List.mem_of_getElem? q2) nr
  .rcases last j b hj with⟨z1,z2⟩ | ⟨z1,z3⟩
   .exact absurd (List.mem_of_getElem? z2) nr
   .omega
 .rcases last k b hk with⟨q1,q2⟩ | ⟨q1,rfl⟩
  .rw [List.getElem?_append_left (by rw[<-w.len];exact q1)] at hu
   have r0:=w.ob k b u q2 hu;obtain⟨x,hx⟩:=r0.some;rw[s b x hx,<-hx];exact r0.pre p
  .rw [List.getElem?_append_right (by rw[<-w.len];omega),q1,w.len,Nat.sub_self] at hu
   cases hu;exact r
 .obtain⟨⟨o,ho⟩,nb⟩:=w.zb b hb;refine⟨⟨o,s b _ ho⟩,fun h=>?_⟩
  rcases List.mem_append.mp h with y | y
  .exact nb y
  .rw [List.mem_singleton] at y;subst y;rw [n] at ho;cases ho
 .rcases last k b hk with⟨q1,q2⟩ | ⟨q1,rfl⟩
  .rw [List.getElem?_append_left (by rw[<-w.len];exact q1)] at hu
   exact w.fz k b q2 hu
  .exact nf
 .obtain⟨o,ho⟩:=w.ff b hb;exact⟨o,s b o ho⟩
 .rcases last k b hk with⟨q1,q2⟩ | ⟨q1,rfl⟩
  .rw [List.getElem?_append_left (by rw[<-w.len];exact q1)] at hu
   exact w.fi k b q2 hu
  .rw [List.getElem?_append_right (by rw[<-w.len];omega),q1,w.len,Nat.sub_self] at hu
   cases hu;exact absurd rfl sF
theorem SW.put{K:W.Frag}{cl:Aag}{ρ:P3}{S:aR}(w:SW K cl ρ H S){k:Nat}{a:Addr}{o:SO}{u:HO}(hk:ρ.r[k]? =some a)(hf:a ∉ ρ.f)(r:DL K cl ρ H o (some u))(sF:o≠SO.ik:=by intro h;cases h) :
 SW K cl ρ (upd H a u) (S.set k o)/\Pre ρ H ρ (upd H a u):=by
 have ha:a∈ρ.r:=List.mem_of_getElem? hk;have hb:a∈ρ.b:=P3.dA.mpr (.inl ⟨ha,hf⟩);have nz:∀b∈ρ.z,b≠a:=fun b hb z=>(w.zb b hb).2 (by rw[z];exact ha)
 have p:Pre ρ H ρ (upd H a u):=⟨fun b x e nb=>⟨by rw[bt (fun(z:b=a)=>nb (by rw[z];exact hb))];exact e,nb⟩,rfl,fun b o hb h=>by rw[bt (nz b hb)];exact h,fun _ _ h=>h⟩
 have hl:k < S.length:=by rw[<-w.len];exact(List.getElem?_eq_some_iff.mp hk).1
 refine⟨⟨by rw[List.length_set];exact w.len,w.nd,fun j b x hj hx=>?_,fun b hb=>?_,fun j b hj hx=>?_,fun b hb=>?_,fun j b hj hx=>?_⟩,p⟩
 .by_cases q:k=j
  .subst q;rw[hk] at hj;cases hj;rw[List.getElem?_set_self hl] at hx;cases hx;rw[ba];exact r.pre p
  .rw [List.getElem?_set_ne q] at hx;have ne:b≠a:=fun z=>by subst z;exact q (w.nd k j b hk hj)
   rw[bt ne];exact(w.ob j b x hj hx).pre p
 .obtain⟨⟨o,ho⟩,nb⟩:=w.zb b hb;exact⟨⟨o,by rw[bt (nz b hb)];exact ho⟩,nb⟩
 .by_cases q:k=j
  .subst q;rw[hk] at hj;cases hj;exact hf
  .rw [List.getElem?_set_ne q] at hx;exact w.fz j b hj hx
 .obtain⟨o,ho⟩:=w.ff b hb;exact⟨o,by rw[bt (fun z=>hf (by rw[<-z];exact hb))];exact ho⟩
 .by_cases q:k=j
  .subst q;rw[List.getElem?_set_self hl] at hx;cases hx;exact absurd rfl sF
  .rw [List.getElem?_set_ne q] at hx;exact w.fi j b hj hx
theorem SW.ik{K:W.Frag}{cl:Aag}{ρ:P3}{S:aR}(w:SW K cl ρ H S){k:Nat}{a:Addr}{ds:List D}(hk:ρ.r[k]? =some a)(hS:S[k]? =some (.lst ds)) :
 SW K cl ⟨ρ.r,ρ.z,a ::ρ.f⟩ H (S.set k .ik)/\Pre ρ H ⟨ρ.r,ρ.z,a ::ρ.f⟩ H/\Rep K (⟨ρ.r,ρ.z,a ::ρ.f⟩:P3).b H (.lst ds) (.ref a):=by
 have hl:k < S.length:=by rw[<-w.len];exact(List.getElem?_eq_some_iff.mp hk).1
 have sub:∀b,b∈(⟨ρ.r,ρ.z,a ::ρ.f⟩:P3).b->b∈ρ.b:=fun b hb=>by
  rcases P3.dA.mp hb with⟨z,n⟩ | z
  .exact P3.dA.mpr (.inl ⟨z,fun h=>n (List.mem_cons_of_mem _ h)⟩)
  .exact P3.dA.mpr (.inr z)
 have p:Pre ρ H ⟨ρ.r,ρ.z,a ::ρ.f⟩ H:=⟨fun b o e nb=>⟨e,fun hb=>nb (sub b hb)⟩,rfl,fun _ _ _ h=>h,fun _ _ h=>h⟩
 obtain⟨xs,e1,r1⟩:=w.ob k a _ hk hS;refine⟨⟨by rw[List.length_set];exact w.len,w.nd,fun j b x hj hx=>?_,w.zb,fun j b hj hx=>?_,fun b hb=>?_,fun j b hj hx=>?_⟩,p,?_⟩
 .by_cases q:k=j
  .subst q;rw[List.getElem?_set_self hl] at hx;cases hx;rw[hk] at hj;cases hj;exact⟨_,e1⟩
  .rw [List.getElem?_set_ne q] at hx;exact(w.ob j b x hj hx).pre p
 .by_cases q:k=j
  .subst q;rw[List.getElem?_set_self hl] at hx;exact absurd rfl hx
  .rw [List.getElem?_set_ne q] at hx;intro h;rcases List.mem_cons.mp h with z | z
   .subst z;exact q (w.nd k j b hk hj)
   .exact w.fz j b hj hx z
 .rcases List.mem_cons.mp hb with z | z
  .subst z;exact⟨_,e1⟩
  .exact w.ff b z
 .by_cases q:k=j
  .subst q;rw[hk] at hj;cases hj;exact List.mem_cons_self
  .rw [List.getElem?_set_ne q] at hx;exact List.mem_cons_of_mem _ (w.fi j b hj hx)
 .refine Rep.lst.mpr ⟨a,xs,rfl, .inl ⟨fun hb=>?_, .inl e1⟩,r1.bF p.bF⟩
  rcases P3.dA.mp hb with⟨_,n⟩ | z
  .exact n List.mem_cons_self
  .exact(w.zb a z).2 (List.mem_of_getElem? hk)
mutual
def zP:D->Bool
 | .lst _=>false
 | .dct _ _=>false
 | .tup ds=>yt ds
 | _=>true
def yt:List D->Bool
 | []=>true
 | d ::ds=>zP d && yt ds
end
mutual
theorem Rep.AQ{K:W.Frag}{B:List Addr}(hB:∀b∈B,∀xs,¬Rd H b (.tup xs)):∀{d:D} {v:V},zP d=true->Rep K [] H d v->Rep K B H d v
 | .cN,v,_,r=>Rep.cN.mpr (Rep.cN.mp r)
 | .bl _,v,_,r=>Rep.bl.mpr (Rep.bl.mp r)
 | .int _,v,_,r=>Rep.int.mpr (Rep.int.mp r)
 | .str _,v,_,r=>Rep.str.mpr (Rep.str.mp r)
 | .lst _,v,h,_=>by unfold zP at h;cases h
 | .dct _ _,v,h,_=>by unfold zP at h;cases h
 | .tup ds,v,h,r=>by
   unfold zP at h;obtain⟨a,xs,rfl,l,rs⟩:=Rep.tup.mp r;exact Rep.tup.mpr ⟨a,xs,rfl,l.elim (fun z=> .inl ⟨fun hb=>hB a hb xs z.2,z.2⟩) .inr,aG.AQ hB h rs⟩
theorem aG.AQ{K:W.Frag}{B:List Addr}(hB:∀b∈B,∀xs,¬Rd H b (.tup xs)):∀{ds:List D} {vs:List V},yt ds=true->aG K [] H ds vs->aG K B H ds vs
 | [],_,_,r=>by unfold aG at r;subst r;exact aG.nil
 | d ::ds,vs,h,r=>by
   unfold yt at h;obtain⟨h1,h2⟩:=Bool.and_eq_true_iff.mp h;obtain⟨x,xs,rfl,r1,r2⟩:=r.cq;exact aG.cons (Rep.AQ hB h1 r1) (aG.AQ hB h2 r2)
end
abbrev DE:=List (Option V3)
structure eg (K:W.Frag) (cl:Aag) (ρ:P3) (H:Hp) (S:aR) (σ:L2.St) (δ:DE):Prop where
 len:δ.length=σ.length
 sw:SW K cl ρ H S
 val:∀(i:Nat) (d:V3),δ[i]? =some (some d)->∃v,σ[i]? =some (some v)/\aX K ρ H d v
theorem eg.to{K:W.Frag}{cl:Aag}{S S':aR}{σ:L2.St}{δ:DE}(E:eg K cl ρ H S σ δ)(p:Pre ρ H bM H')(w:SW K cl bM H' S'):eg K cl bM H' S' σ δ:=
 ⟨E.len,w,fun i d e=>let⟨v,h1,h2⟩:=E.val i d e;⟨v,h1,h2.pre p⟩⟩
theorem eg.set{K:W.Frag}{cl:Aag}{S:aR}{σ:L2.St}{δ:DE}(E:eg K cl ρ H S σ δ){i:Nat}{d:V3}{v:V}(hi:i < σ.length)(r:aX K ρ H d v):eg K cl ρ H S (σ.set i (some v)) (δ.set i (some d)):=
 ⟨by rw[List.length_set,List.length_set];exact E.len,E.sw,fun j d' e=>by
   by_cases h:i=j
   .subst h;rw[List.getElem?_set_self (by rw[E.len];exact hi)] at e
    cases e;exact⟨v,List.getElem?_set_self hi,r⟩
   .rw [List.getElem?_set_ne h] at e ⊢;exact E.val j d' e⟩
def down(δ:DE):aw:=δ.map fun x=>match x with | some (.d d)=> .val d | _=> .un
theorem eg.down{K:W.Frag}{cl:Aag}{ρ:P3}{S:aR}{σ:L2.St}{δ:DE}(E:eg K cl ρ H S σ δ):dS K [] ρ.b H σ (down δ) where
 len:=by unfold L3.down;rw [List.length_map];exact E.len
 bs:=E.sw.bs
 zb:=fun a ha=>by cases ha
 val:=fun i d e=>by
  unfold L3.down at e;rw[List.getElem?_map] at e;cases q:δ[i]? with
  | none=>rw [q] at e;cases e
  | some x=>
    rw[q] at e
    match x,e,q with
    | some (.d y),e,q=>
      cases e;obtain⟨v,h1,h2⟩:=E.val i _ q;unfold aX at h2;exact⟨v,h1,h2⟩
    | some (.loc k),e,q=>cases e
    | some (.lst k),e,q=>cases e
    | some (.tup k),e,q=>cases e
    | none,e,q=>cases e
 bld:=fun i ds e=>by
  unfold L3.down at e;rw[List.getElem?_map] at e;cases q:δ[i]? with
  | none=>rw [q] at e;cases e
  | some x=>
    rw[q] at e
    match x,e with
    | some (.d y),e=>cases e
    | some (.loc k),e=>cases e
    | some (.lst k),e=>cases e
    | some (.tup k),e=>cases e
    | none,e=>cases e
 dis:=fun i j a ds es e=>by
  unfold L3.down at e;rw[List.getElem?_map] at e;cases q:δ[i]? with
  | none=>rw [q] at e;cases e
  | some x=>
    rw[q] at e
    match x,e with
    | some (.d y),e=>cases e
    | some (.loc k),e=>cases e
    | some (.lst k),e=>cases e
    | some (.tup k),e=>cases e
    | none,e=>cases e
mutual
def res(S:aR):V3->Option D
 | .d x=>some x
 | .loc k=>(match S[k]? with | some (.lst ds)=>some (.lst ds) | some (.dct aC)=>some (.dct (aC.map (·.1)) (aC.map (·.2))) | _=>none)
 | .lst vs=>(yb S vs).map D.lst
 | .tup vs=>(yb S vs).map D.tup
 | .fn _=>none
def yb(S:aR):List V3->Option (List D)
 | []=>some []
 | v ::vs=>(res S v).bind fun d=>(yb S vs).map (d ::·)
end
def E9(S:aR)(δ:DE):aw:=δ.map fun x=>match x with | some v=>(match res S v with | some d=> .val d | none=> .un) | none=> .un
theorem rg{α β:Type}{o:Option α}{f:α->β}{b:β}(h:o.map f=some b):∃a,o=some a/\f a=b:=by
 cases o with
 | none=>cases h
 | some a=>cases h;exact⟨a,rfl,rfl⟩
theorem Ax{α β:Type}{o:Option α}{f:α->Option β}{b:β}(h:o.bind f=some b):∃a,o=some a/\f a=some b:=by
 cases o with
 | none=>cases h
 | some a=>exact⟨a,rfl,h⟩
mutual
def nF(n:Nat):V3->Bool
 | .d _=>true
 | .loc k=>decide (n<=k)
 | .lst vs=>qY n vs
 | .tup vs=>qY n vs
 | .fn _=>true
def qY(n:Nat):List V3->Bool
 | []=>true
 | v ::vs=>nF n v && qY n vs
end
mutual
theorem aX.resB{K:W.Frag}{cl:Aag}{ρ:P3}{S:aR}{B':List Addr}{n:Nat}(w:SW K cl ρ H S)(p:dD ρ.b H B' H)(hn:∀(k:Nat) (a:Addr),n<=k->ρ.r[k]? =some a->a ∉ B'):∀{v:V3} {d:D} {x:V},nF n v=true->res S v=some d->aX K ρ H v x->Rep K B' H d x
 | .d y,d,x,_,h,r=>by unfold L3.res at h;cases h;unfold aX at r;exact r.bF p
 | .fn y,d,x,_,h,r=>by unfold L3.res at h;cases h
 | .loc k,d,x,g,h,r=>by
   unfold L3.res at h;unfold aX at r;unfold nF at g;obtain⟨a,h1,rfl⟩:=r;split at h
   .rename_i ds e;cases h;obtain⟨xs,e2,q⟩:=w.ob k a _ h1 e;unfold Rep;exact⟨a,xs,rfl, .inl ⟨hn k a (of_decide_eq_true g) h1, .inl e2⟩,q.bF p⟩
   .rename_i aC e;cases h;obtain⟨ys,e2,e3,q⟩:=w.ob k a _ h1 e;unfold Rep;exact⟨a,ys,rfl,⟨hn k a (of_decide_eq_true g) h1,e2⟩,e3,q.bF p⟩
   .cases h
 | .lst vs,d,x,g,h,r=>by
   unfold L3.res at h;unfold nF at g;obtain⟨ds,e,rfl⟩:=rg h;unfold aX at r;obtain⟨a,xs,rfl,l,r⟩:=r;unfold Rep;exact⟨a,xs,rfl,l.bF p,aI.resB w p hn g e r⟩
 | .tup vs,d,x,g,h,r=>by
   unfold L3.res at h;unfold nF at g;obtain⟨ds,e,rfl⟩:=rg h;unfold aX at r;obtain⟨a,xs,rfl,l,r⟩:=r;unfold Rep;exact⟨a,xs,rfl,Bp.bF p l,aI.resB w p hn g e r⟩
theorem aI.resB{K:W.Frag}{cl:Aag}{ρ:P3}{S:aR}{B':List Addr}{n:Nat}(w:SW K cl ρ H S)(p:dD ρ.b H B' H)(hn:∀(k:Nat) (a:Addr),n<=k->ρ.r[k]? =some a->a ∉ B'):∀{vs:List V3} {ds:List D} {xs:List V},qY n vs=true->yb S vs=some ds->aI K ρ H vs xs->aG K B' H ds xs
 | [],ds,xs,_,h,r=>by unfold yb at h;cases h;unfold aI at r;subst r;exact aG.nil
 | v ::vs,ds,xs,g,h,r=>by
   unfold yb at h;unfold qY at g;obtain⟨g1,g2⟩:=Bool.and_eq_true_iff.mp g;obtain⟨d,e1,h2⟩:=Ax h;obtain⟨es,e2,rfl⟩:=rg h2;obtain⟨y,ys,rfl,r1,r2⟩:=r.cq;exact aG.cons (aX.resB w p hn g1 e1 r1) (aI.resB w p hn g2 e2 r2)
end
mutual
theorem B_:∀v:V3,nF 0 v=true
 | .d _=>by unfold nF;rfl
 | .loc k=>by unfold nF;exact decide_eq_true (Nat.zero_le _)
 | .lst vs=>by unfold nF;exact pH vs
 | .tup vs=>by unfold nF;exact pH vs
 | .fn _=>by unfold nF;rfl
theorem pH:∀vs:List V3,qY 0 vs=true
 | []=>by unfold qY;rfl
 | v ::vs=>by unfold qY;rw [B_ v,pH vs];rfl
end
abbrev FX:=DE->aR->R3 V3
abbrev FB:=DE->aR->R3 Bool
abbrev FA:=DE->aR->R3 (List V3)
def tX(K:W.Frag)(cl:Aag)(f:FX):TE:=fun σ H Q=>∃ρ S δ v S',eg K cl ρ H S σ δ/\f δ S= .ok v S'/\∀u bM H',Pre ρ H bM H'->SW K cl bM H' S'->aX K bM H' v u->Q u H'
def NV(K:W.Frag)(cl:Aag)(f:FB):TT:=fun σ H Q=>∃ρ S δ b S',eg K cl ρ H S σ δ/\f δ S= .ok b S'/\∀bM H',Pre ρ H bM H'->SW K cl bM H' S'->Q b H'
def Wa(K:W.Frag)(cl:Aag)(f:FA):TA:=fun σ H Q=>∃ρ S δ vs S',eg K cl ρ H S σ δ/\f δ S= .ok vs S'/\∀us bM H',Pre ρ H bM H'->SW K cl bM H' S'->aI K bM H' vs us->Q us H'
structure PX (X:Cx) (cl:Aag) (e:Expr) (f:FX):Prop where
 go:PE X e (tX X.K cl f)
structure DQ (X:Cx) (cl:Aag) (e:Expr) (f:FB):Prop where
 go:PT X e (NV X.K cl f)
structure Jl (X:Cx) (cl:Aag) (es:List Expr) (f:FA):Prop where
 go:PA X es (Wa X.K cl f)
section
variable {X:Cx} {cl:Aag}
def xP(f:FD):FX:=fun δ S=>(R3.of (f (down δ)) S).bind fun d S=> .ok (.d d) S
theorem aD(h:QD X e f):PX X cl e (xP f):=⟨h.1.imp fun σ H Q ⟨ρ,S,δ,v,S',E,hf,q⟩=>by
 obtain⟨d,S1,h1,h2⟩:=R3.ak hf;obtain⟨h3,e3⟩:=R3.of_ok h1;cases h2;subst e3;exact⟨[],ρ.b,down δ,d,E.down,h3,fun v H' s r=>q v ρ H' (Pre.same s) (E.sw.same s) (by unfold aX;exact r)⟩⟩
def xT(f:FD):FX:=fun δ S=>(R3.of (f (E9 S δ)) S).bind fun d S=>R3.aW (zP d) (.ok (.d d) S)
def bP(f:aw->R Bool):FB:=fun δ S=>R3.of (f (down δ)) S
theorem gW{f:aw->R Bool}(h:QB X e f):DQ X cl e (bP f):=⟨h.1.imp fun σ H Q ⟨ρ,S,δ,v,S',E,hf,q⟩=>by
 obtain⟨h1,e3⟩:=R3.of_ok hf;subst e3;exact⟨[],ρ.b,down δ,v,E.down,h1,fun H' s=>q ρ H' (Pre.same s) (E.sw.same s)⟩⟩
def bT(f:aw->R Bool):FB:=fun δ S=>R3.of (f (E9 S δ)) S
def bX(i:Nat):FX:=fun δ S=>match δ[i]? with | some (some v)=> .ok v S | _=> .no
theorem aY(i:Nat){x:Str}{pos:Pos}(hN:X.N[i]? =some x:=by rfl)(hv:Kb X.env.scope x:=by first | exact Or.inl rfl | exact Or.inr (Or.inl rfl) | exact Or.inr (Or.inr rfl))(hd:(x==("__debug__":Str))=false:=by decide)
 (uJ:(x==("__classdict__":Str))=false:=by decide):PX X cl (.Name x pos) (bX i):=⟨(w_ hN hv hd uJ).imp fun σ H Q ⟨ρ,S,δ,v,S',E,hf,q⟩=>by
 unfold bX at hf;split at hf
 .rename_i d' e;cases hf;obtain⟨u,h1,h2⟩:=E.val i _ e;exact⟨u,h1,q u ρ H (Pre.refl ρ H) E.sw h2⟩
 .cases hf⟩
def CQ(f:aw->R (List D)):FX:=fun δ S=>(R3.of (f (down δ)) S).bind fun ds S=> .ok (.loc S.length) (S++[.lst ds])
theorem xb{f:aw->R (List D)}(h:QN X e f):PX X cl e (CQ f):=⟨h.1.imp fun σ H Q ⟨ρ,S,δ,v,S',E,hf,q⟩=>by
 obtain⟨ds,S1,h1,h2⟩:=R3.ak hf;obtain⟨h3,e3⟩:=R3.of_ok h1;cases h2;subst e3;refine⟨[],ρ.b,down δ,ds,E.down,h3,fun a xs H' s n e r=>?_⟩
 have r':aG X.K (ρ.push a).b H' ds xs:=r.bF fun b o e nb=>⟨e,fun hb=>nb (by
  rcases P3.mem_push hb with z | z
  .exact List.mem_cons_of_mem _ z
  .subst z;exact List.mem_cons_self)⟩
 obtain⟨w,p⟩:=E.sw.new (o:= .lst ds) s n ⟨xs,e,r'⟩;exact q _ _ H' p w (by unfold aX;exact⟨a,by show(ρ.r++[a])[_]? =_;rw [<-E.sw.len,List.getElem?_append_right (by omega),Nat.sub_self];rfl,rfl⟩)⟩
end
end L3
end
section
namespace L3
open PySem PySem.Spec PyProof.Rows L2
section
variable {X:Cx} {cl:Aag}
def dF:FA:=fun _ S=> .ok [] S
def bo(f:FX)(g:FA):FA:=fun δ S=>(f δ S).bind fun v S1=>(g δ S1).bind fun vs S2=> .ok (v ::vs) S2
theorem bV:Jl X cl [] dF:=⟨lJ.imp fun σ H Q ⟨ρ,S,δ,v,S',E,hf,q⟩=>by
 cases hf;exact q [] ρ H (Pre.refl ρ H) E.sw aI.nil⟩
theorem aN(h:PX X cl e f)(t:Jl X cl es g)(hs:starEach (e ::es) X.env=(false,eval e X.env) ::starEach es X.env:=by rfl):Jl X cl (e ::es) (bo f g):=
 ⟨(gL h.1 t.1 hs).imp fun σ H Q ⟨ρ,S,δ,v,S',E,hf,q⟩=>by
   obtain⟨v1,S1,h1,h2⟩:=R3.ak hf;obtain⟨vs,S2,h3,h4⟩:=R3.ak h2;cases h4;exact⟨ρ,S,δ,v1,S1,E,h1,fun u bU H1 p1 w1 r1=>⟨bU,S1,δ,vs,_,E.to p1 w1,h3,fun us qk H2 p2 w2 r2=>q _ qk H2 (p1.trans p2) w2 (aI.cons (r1.pre p2) r2)⟩⟩⟩
def rF:List V3->Option (List D)
 | []=>some []
 | .d x ::r=>(rF r).map (x ::·)
 | _ ::_=>none
theorem oW:∀{vs:List V3} {ds:List D},rF vs=some ds->vs=ds.map .d
 | [],ds,h=>by cases h;rfl
 | .d x ::r,ds,h=>by
   cases e:rF r with
   | none=>have h:(rF r).map (x ::·)=some ds:=h;rw [e] at h;cases h
   | some es=>
     have h:(rF r).map (x ::·)=some ds:=h
     rw[e] at h;cases h;rw[oW e];rfl
 | .loc _ ::_,_,h=>by cases h
 | .lst _ ::_,_,h=>by cases h
 | .tup _ ::_,_,h=>by cases h
 | .fn _ ::_,_,h=>by cases h
theorem uA:∀ds:List D,rF (ds.map .d)=some ds
 | []=>rfl
 | d ::ds=>by show(rF (ds.map .d)).map (d ::·)=_;rw [uA ds];rfl
def yC(vs:List V3):V3:=match rF vs with | some ds=> .d (.tup ds) | none=> .tup vs
def tF(vs:List V3):V3:=match rF vs with | some ds=> .d (.lst ds) | none=> .lst vs
def zB(g:FA):FX:=fun δ S=>(g δ S).bind fun vs S=>R3.aW (decide (vs.length<=sizeLine)) (.ok (yC vs) S)
theorem oR{H:Hp}{p:Addr}{o:HO}(hp:H p=none):Pre ρ H ρ (upd H p o):=Pre.same (bG hp)
theorem vC{K:W.Frag}{ρ:P3}{vs:List V3}{xs:List V}{a:Addr}(l:Bp K ρ.b H a xs)(r:aI K ρ H vs xs):aX K ρ H (yC vs) (.ref a):=by
 unfold yC;split
 .rename_i ds e;rw[oW e] at r;unfold aX Rep;exact⟨a,xs,rfl,l,r.to⟩
 .unfold aX;exact⟨a,xs,rfl,l,r⟩
theorem vv{K:W.Frag}{ρ:P3}{vs:List V3}{xs:List V}{a:Addr}(l:yr K ρ.b H a xs)(r:aI K ρ H vs xs):aX K ρ H (tF vs) (.ref a):=by
 unfold tF;split
 .rename_i ds e;rw[oW e] at r;unfold aX Rep;exact⟨a,xs,rfl,l,r.to⟩
 .unfold aX;exact⟨a,xs,rfl,l,r⟩
theorem Lg{x1 pos}(h:Jl X cl es g):PX X cl (.Tuple es x1 pos) (zB g):=⟨(zK h.1).imp fun σ H Q ⟨ρ,S,δ,v,S',E,hf,q⟩=>by
 obtain⟨vs,S1,h1,h2⟩:=R3.ak hf;obtain⟨hl,h3⟩:=R3.aQ h2;cases h3;refine⟨ρ,S,δ,vs,_,E,h1,fun us bU H1 p1 w1 r1=>⟨by rw[<-r1.length];exact of_decide_eq_true hl,fun p hp=>q _ bU _ (p1.trans (oR hp)) (w1.same (bG hp)) ?_⟩⟩
 refine vC (.inl ⟨fun ha=>?_, .inl ba⟩) (r1.pre (oR hp))
 obtain⟨o,ho⟩:=w1.bs p ha;rw[hp] at ho;cases ho⟩
def Af(g:FA):FX:=fun δ S=>(g δ S).bind fun vs S=>R3.aW (decide (vs.length<=sizeLine)) (.ok (tF vs) S)
theorem vW{pos}(h:Jl X cl es g):PX X cl (.List es pos) (Af g):=⟨(Gm h.1).imp fun σ H Q ⟨ρ,S,δ,v,S',E,hf,q⟩=>by
 obtain⟨vs,S1,h1,h2⟩:=R3.ak hf;obtain⟨hl,h3⟩:=R3.aQ h2;cases h3;refine⟨ρ,S,δ,vs,_,E,h1,fun us bU H1 p1 w1 r1=>⟨by rw[<-r1.length];exact of_decide_eq_true hl,fun p hp=>q _ bU _ (p1.trans (oR hp)) (w1.same (bG hp)) ?_⟩⟩
 refine vv (.inl ⟨fun ha=>?_, .inl ba⟩) (r1.pre (oR hp))
 obtain⟨o,ho⟩:=w1.bs p ha;rw[hp] at ho;cases ho⟩
def x2(g:D->D->R D)(fa fb:FX):FX:=fun δ S=>(fa δ S).bind fun a S1=>(fb δ S1).bind fun b S2=>match a,b with
 | .d x, .d y=>(R3.of (g x y) S2).bind fun d S=> .ok (.d d) S
 | _,_=> .no
theorem K9{K:W.Frag}{g:D->D->R D}{σ:L2.St}{Q:VK}(h:tX K cl (x2 g fa fb) σ H Q) :
 Nz (fun x y H Q=>∃B da db d,(∀a∈B,∃o,H a=some o)/\Rep K B H da x/\Rep K B H db y/\g da db= .ok d/\∀z H',aS H H'->Rep K B H' d z->Q z H') (tX K cl fa) (tX K cl fb) σ H Q:=by
 obtain⟨ρ,S,δ,v,S',E,hf,q⟩:=h;obtain⟨a,S1,h1,h2⟩:=R3.ak hf;obtain⟨b,S2,h3,h4⟩:=R3.ak h2
 match a,b,h1,h3,h4 with
 | .d x, .d y,h1,h3,h4=>
   obtain⟨d,S3,h5,h6⟩:=R3.ak h4;obtain⟨h7,e⟩:=R3.of_ok h5;cases h6;subst e;refine⟨ρ,S,δ, .d x,S1,E,h1,fun u1 bU H1 p1 w1 r1=>⟨bU,S1,δ, .d y,_,E.to p1 w1,h3,fun u2 qk H2 p2 w2 r2=>?_⟩⟩
   have zl:=r1.pre p2;unfold aX at zl r2;exact⟨qk.b,x,y,d,w2.bs,zl,r2,h7,fun z H' s r=>q z qk H' (p1.trans (p2.trans (Pre.same s))) (w2.same s) (by unfold aX;exact r)⟩
 | .d x, .loc _,_,_,h4=>cases h4
 | .d x, .lst _,_,_,h4=>cases h4
 | .d x, .tup _,_,_,h4=>cases h4
 | .d x, .fn _,_,_,h4=>cases h4
 | .loc _,_,_,_,h4=>cases h4
 | .lst _,_,_,_,h4=>cases h4
 | .tup _,_,_,_,h4=>cases h4
 | .fn _,_,_,_,h4=>cases h4
theorem Fd{op:Operator}{g:D->D->R D}(ho:nJ X (binaryOp op) g)(ha:PX X cl a fa)(hb:PX X cl b fb):PX X cl (.BinOp a op b pos) (x2 g fa fb):=
 ⟨(JR ho.r ha.1 hb.1).imp fun σ H Q h=>K9 h⟩
theorem LG{op:CmpOp}{g:D->D->R D}(ho:nJ X (compareOp op) g)(ha:PX X cl a fa)(hb:PX X cl b fb)(hm:behindInMarks op b=false):PX X cl (.Compare a [op] [b] pos) (x2 g fa fb):=
 ⟨(AZ ho.r ha.1 hb.1 hm).imp fun σ H Q h=>K9 h⟩
def Qf(g:D->D->R D)(fa fb:FX):FB:=fun δ S=>(x2 g fa fb δ S).bind fun v S=>match v with | .d (.bl b)=> .ok b S | _=> .no
theorem xE{op:CmpOp}{g:D->D->R D}(ho:nJ X (compareOp op) g)(ha:PX X cl a fa)(hb:PX X cl b fb)(hm:behindInMarks op b=false):DQ X cl (.Compare a [op] [b] pos) (Qf g fa fb):=
 ⟨(Bk ho.r ha.1 hb.1 hm).imp fun σ H Q ⟨ρ,S,δ,b,S',E,hf,q⟩=>by
   obtain⟨v,S1,h1,h2⟩:=R3.ak hf;have hv:v= .d (.bl b)/\S1=S':=by
    match v,h2 with
    | .d (.bl k),h2=>cases h2;exact⟨rfl,rfl⟩
    | .d .cN,h2=>cases h2
    | .d (.int _),h2=>cases h2
    | .d (.str _),h2=>cases h2
    | .d (.lst _),h2=>cases h2
    | .d (.tup _),h2=>cases h2
    | .d (.dct _ _),h2=>cases h2
    | .loc _,h2=>cases h2
    | .lst _,h2=>cases h2
    | .tup _,h2=>cases h2
    | .fn _,h2=>cases h2
   obtain⟨rfl,rfl⟩:=hv;exact K9 (g:=g) (Q:=fun x H'=>∃k,x= .bl k/\Q k H') ⟨ρ,S,δ,_,_,E,h1,fun u bM H' p w r=>⟨b,by unfold aX Rep at r;exact r,q bM H' p w⟩⟩⟩
inductive Ou where
 | nx (δ:DE) | rt (v:V3)
abbrev FZ:=DE->aR->R3 Ou
def wQ(K:W.Frag)(cl:Aag)(ρ:P3)(H:Hp)(D:Ends)(S':aR):Ou->Prop
 | .nx dC=>∀cw bM H',Pre ρ H bM H'->eg K cl bM H' S' cw dC->D.nx cw H'
 | .rt v=>∀u bM H',Pre ρ H bM H'->SW K cl bM H' S'->aX K bM H' v u->D.rt u H'
theorem wQ.pre{K:W.Frag}{D:Ends}{S':aR}{o:Ou}(q:wQ K cl ρ H D S' o)(p:Pre ρ H bU H1):wQ K cl bU H1 D S' o:=by
 cases o with
 | nx dC=>exact fun cw bM H' p' E'=>q cw bM H' (p.trans p') E'
 | rt d=>exact fun v bM H' p' w r=>q v bM H' (p.trans p') w r
def sX(K:W.Frag)(cl:Aag)(F:FZ):TS:=fun D σ H=>∃ρ S δ o S',eg K cl ρ H S σ δ/\F δ S= .ok o S'/\wQ K cl ρ H D S' o
structure PZ (X:Cx) (cl:Aag) (st:Stmt) (F:FZ):Prop where
 go:PS X st (sX X.K cl F)
structure B6 (X:Cx) (cl:Aag) (st:List Stmt) (F:FZ):Prop where
 go:wX X st (sX X.K cl F)
def mL:FZ:=fun δ S=> .ok (.nx δ) S
def cR(F G:FZ):FZ:=fun δ S=>(F δ S).bind fun o S1=>match o with | .nx dC=>G dC S1 | .rt d=> .ok (.rt d) S1
theorem sO:B6 X cl [] mL:=⟨wy.imp fun D σ H ⟨ρ,S,δ,o,S',E,hf,q⟩=>by
 cases hf;exact q σ ρ H (Pre.refl ρ H) E⟩
theorem bO{st:Stmt}{rest:List Stmt}(h1:PZ X cl st F)(h2:B6 X cl rest G):B6 X cl (st ::rest) (cR F G):=⟨(ua h1.1 h2.1).imp fun D σ H ⟨ρ,S,δ,o,S',E,hf,q⟩=>by
 obtain⟨o1,S1,h1,h2⟩:=R3.ak hf;refine⟨ρ,S,δ,o1,S1,E,h1,?_⟩;cases o1 with
 | nx δ1=>
   intro N5 bU H1 p1 E1;exact⟨bU,S1,δ1,o,S',E1,h2,q.pre p1⟩
 | rt d=>
   cases h2;exact q⟩
theorem c6{st:Stmt}(h1:PZ X cl st F):B6 X cl [st] F:=⟨xj h1.1⟩
def mJ(i:Nat)(f:FX):FZ:=fun δ S=>(f δ S).bind fun v S=>R3.aW (decide (i < δ.length)) (.ok (.nx (δ.set i (some v))) S)
theorem en{i:Nat}{pos pos':Pos}(hN:X.N.Nodup)(hi:X.N[i]? =some x)(hx:Loc X.env.scope x)(he:PX X cl e f)(hs:swapsWith e (some (.Name x pos')) pos.line X.env=pure false:=by rfl)(hf:X.fn x=true\/X.env.scope.names.lookup x=some .local:=by first | exact .inl rfl | exact .inr rfl | assumption) :
 PZ X cl (.Assign [.Name x pos'] e pos) (mJ i f):=⟨(Av hN hi hx he.1 hs hf).imp fun D σ H ⟨ρ,S,δ,o,S',E,hf,q⟩=>by
 obtain⟨v,S1,h1,h2⟩:=R3.ak hf;obtain⟨hi,h3⟩:=R3.aQ h2;cases h3;refine⟨ρ,S,δ,v,_,E,h1,fun u bU H1 p1 w1 r1=>?_⟩
 exact q _ bU H1 p1 ((E.to p1 w1).set (by rw[<-E.len];exact of_decide_eq_true hi) r1)⟩
def Cn(f:FX):FZ:=fun δ S=>(f δ S).bind fun v S=> .ok (.rt v) S
theorem wj(he:PX X cl e f):PZ X cl (.Return (some e) pos) (Cn f):=⟨(GV he.1).imp fun D σ H ⟨ρ,S,δ,o,S',E,hf,q⟩=>by
 obtain⟨v,S1,h1,h2⟩:=R3.ak hf;cases h2;exact⟨ρ,S,δ,v,_,E,h1,fun u bU H1 p1 w1 r1=>q u bU H1 p1 w1 r1⟩⟩
def tK(c:FB)(F G:FZ):FZ:=fun δ S=>(c δ S).bind fun b S=>if b then F δ S else G δ S
theorem yB(hc:DQ X cl c fc)(ha:B6 X cl a F)(hb:B6 X cl b G):PZ X cl (.If c a b pos) (tK fc F G):=⟨(E4 hc.1 ha.1 hb.1).imp fun D σ H ⟨ρ,S,δ,o,S',E,hf,q⟩=>by
 obtain⟨k,S1,h1,h2⟩:=R3.ak hf;refine⟨ρ,S,δ,k,S1,E,h1,fun bU H1 p1 w1=>?_⟩
 cases k with
 | true=>rw [if_pos rfl] at h2;exact Gn ⟨bU,S1,δ,o,S',E.to p1 w1,h2,q.pre p1⟩
 | false=>rw [if_neg (by decide)] at h2;exact Gy ⟨bU,S1,δ,o,S',E.to p1 w1,h2,q.pre p1⟩⟩
def um(f:FX):FZ:=fun δ S=>(f δ S).bind fun _ S=> .ok (.nx δ) S
def BE(c:FB)(body:FZ):Nat->FZ
 | 0,_,_=> .no
 | n+1,δ,S=>(c δ S).bind fun b S=>if b then(body δ S).bind fun o S=>match o with | .nx jj=>BE c body n jj S | .rt r=> .ok (.rt r) S else .ok (.nx δ) S
def RJ(n:Nat)(c:FB)(body:FZ):FZ:=fun δ S=>BE c body n δ S
end
end L3
end
section
namespace L3
open PySem PySem.Spec PyProof.Rows L2
theorem aI.get{K:W.Frag}:∀{ds:List V3} {xs:List V} {i:Nat} {d:V3},aI K ρ H ds xs->ds[i]? =some d->∃x,xs[i]? =some x/\aX K ρ H d x
 | [],_,_,_,_,e=>by simp at e
 | d ::ds,xs,0,d',h,e=>by
   obtain⟨x,r,rfl,h1,h2⟩:=h.cq;simp at e;subst e;exact⟨x,rfl,h1⟩
 | d ::ds,xs,i+1,d',h,e=>by
   obtain⟨x,r,rfl,h1,h2⟩:=h.cq;obtain⟨y,e1,e2⟩:=aI.get (i:=i) h2 (by simpa using e)
   exact⟨y,by simpa using e1,e2⟩
def QH(K:W.Frag)(ρ:P3)(H:Hp)(J:It)(vs:List V3):Prop:=∀bM H',PW ρ H bM H'->(∀a∈bM.b,∃o,H' a=some o)->(∀(i:Nat) (d:V3),vs[i]? =some d->J.go i H'/\∀x qa,J.yld i H' x qa->aS H' qa/\aX K bM qa d x)/\J.stop vs.length H'
theorem QH.of{K:W.Frag}{ρ:P3}{J:It}{ds:List D}(h:GD K ρ.b H J ds):QH K ρ H J (ds.map .d):=fun bM H' p bs=>by
 obtain⟨h1,h2⟩:=h bM.b H' p.bF;refine⟨fun i v hv=>?_,by rw[List.length_map];exact h2⟩
 rw[List.getElem?_map] at hv;cases e:ds[i]? with
 | none=>rw [e] at hv;cases hv
 | some d=>
   rw[e] at hv;cases hv;obtain⟨g1,g2⟩:=h1 i d e;exact⟨g1,fun x qa y=>let⟨s,r⟩:=g2 x qa y bs;⟨s,by unfold aX;exact r⟩⟩
def Vv(K:W.Frag)(cl:Aag)(f:FA):TI:=fun σ H R=>∃ρ S δ vs S',eg K cl ρ H S σ δ/\f δ S= .ok vs S'/\∀J bU H1,Pre ρ H bU H1->SW K cl bU H1 S'->QH K bU H1 J vs->R J H1
structure QG (X:Cx) (cl:Aag) (tg e:Expr) (f:FA):Prop where
 go:PI X tg e (Vv X.K cl f)
section
variable {X:Cx} {cl:Aag}
def iP(f:aw->R (List D)):FA:=fun δ S=>(R3.of (f (down δ)) S).bind fun ds S=> .ok (ds.map .d) S
theorem oi{f:aw->R (List D)}(h:NF X tg e f):QG X cl tg e (iP f):=⟨h.1.imp fun σ H Q ⟨ρ,S,δ,vs,S',E,hf,q⟩=>by
 obtain⟨ds,S1,h1,h2⟩:=R3.ak hf;obtain⟨h3,e3⟩:=R3.of_ok h1;cases h2;subst e3;exact⟨[],ρ.b,down δ,ds,E.down,h3,fun J H1 s r=>q J ρ H1 (Pre.same s) (E.sw.same s) (QH.of r)⟩⟩
def KD(f:FX):FA:=fun δ S=>(f δ S).bind fun v S=>match v with | .d (.int j)=>R3.aW (decide (-(2 ^ 62)<=j/\j < 2 ^ 62)) (.ok ((su 0 j.toNat).map .d) S) | _=> .no
def Y2(f:FX):FA:=fun δ S=>(f δ S).bind fun v S=>match v with | .d (.lst ds)=> .ok (ds.map .d) S | .lst vs=> .ok vs S | _=> .no
abbrev FG:=V3->DE->Option DE
abbrev LP:=List V3->DE->Option DE
def gX(K:W.Frag)(cl:Aag)(t:FG):TG:=fun v σ H Q=>∃ρ S δ x dC,eg K cl ρ H S σ δ/\aX K ρ H x v/\t x δ=some dC/\∀cw H',aS H H'->eg K cl ρ H' S cw dC->Q cw H'
def Y7(K:W.Frag)(cl:Aag)(t:LP):Ga:=fun v σ H Q=>∃ρ S δ x dC,eg K cl ρ H S σ δ/\aI K ρ H x v/\t x δ=some dC/\∀cw H',aS H H'->eg K cl ρ H' S cw dC->Q cw H'
structure QI (X:Cx) (cl:Aag) (tg:Expr) (t:FG):Prop where
 go:PG X tg (gX X.K cl t)
structure Xf (X:Cx) (cl:Aag) (tg:List Expr) (t:LP):Prop where
 go:I0 X tg (Y7 X.K cl t)
theorem eg.same{K:W.Frag}{S:aR}{σ:L2.St}{δ:DE}(E:eg K cl ρ H S σ δ)(s:aS H H'):eg K cl ρ H' S σ δ:=E.to (Pre.same s) (E.sw.same s)
def JY(i:Nat):FG:=fun d δ=>if i < δ.length then some (δ.set i (some d)) else none
theorem ox{i:Nat}{pos:Pos}(hN:X.N.Nodup)(hi:X.N[i]? =some x)(hx:Loc X.env.scope x)(hf:X.fn x=true\/X.env.scope.names.lookup x=some .local:=by first | exact .inl rfl | exact .inr rfl | assumption):QI X cl (.Name x pos) (JY i):=
 ⟨(AU hN hi hx hf).imp fun v σ H Q ⟨ρ,S,δ,d,dC,E,r,ht,q⟩=>by
   unfold JY at ht;split at ht
   .rename_i hi;cases ht;exact q _ H (aS.refl H) (E.set (by rw[<-E.len];exact hi) r)
   .cases ht⟩
def gNl:LP:=fun ds δ=>match ds with | []=>some δ | _=>none
def gCn(t:FG)(u:LP):LP:=fun ds δ=>match ds with | d ::r=>(t d δ).bind fun dC=>u r dC | []=>none
def gTp(n:Nat)(t:LP):FG:=fun d δ=>match d with
 | .d (.tup ds)=>if ds.length=n then t (ds.map .d) δ else none
 | .tup vs=>if vs.length=n then t vs δ else none
 | _=>none
def XS(f:FX)(t:FG):FZ:=fun δ S=>(f δ S).bind fun d S=>match t d δ with | some dC=> .ok (.nx dC) S | none=> .no
def ip(t:FG)(body:FZ):List V3->FZ
 | [],δ,S=> .ok (.nx δ) S
 | d ::ds,δ,S=>match t d δ with
   | none=> .no
   | some δ1=>(body δ1 S).bind fun o S=>match o with | .nx jj=>ip t body ds jj S | .rt r=> .ok (.rt r) S
def yT(it:FA)(t:FG)(body:FZ):FZ:=fun δ S=>(it δ S).bind fun vs S=>ip t body vs δ S
theorem FR{tg iter:Expr}{body:List Stmt}{it:FA}{t:FG}{F:FZ}{pos:Pos}(hp:PassesOwn (model X.prog X.w) X.A X.env X.xe)(hc:X.calm=true)(hi:QG X cl tg iter it)(hg:QI X cl tg t)(hb:B6 X cl body F)
 (hs:∀x,foldedSetIterable iter X.env x=pure x:=by intro _;rfl):PZ X cl (.For tg iter body [] pos) (yT it t F):=⟨(Aq hp hc hi.1 hg.1 hb.1 hs).imp fun D σ H ⟨ρ,S,δ,o,S',E,hf,q⟩=>by
 obtain⟨ds,S0,h1,h2⟩:=R3.ak hf;refine⟨ρ,S,δ,ds,S0,E,h1,fun J bU H1 p1 w1 ir=>?_⟩
 refine⟨fun i m cw H'=>m=ds.length - i/\i<=ds.length/\∃bM S1 dC,Pre bU H1 bM H'/\eg X.K cl bM H' S1 cw dC/\ip t F (ds.drop i) dC S1= .ok o S',⟨ds.length,rfl,Nat.zero_le _,bU,S0,δ,Pre.refl bU H1,E.to p1 w1,by simpa using h2⟩,?_⟩
 rintro i m cw H' ⟨rfl,hi,bM,S1,dC,pv,E',hl⟩;obtain⟨go,stop⟩:=ir bM H' pv.pw E'.sw.bs;by_cases hlt:i < ds.length
 .have hd:ds[i]? =some ds[i]:=List.getElem?_eq_getElem hlt;have hdrop:ds.drop i=ds[i] ::ds.drop (i+1):=List.drop_eq_getElem_cons hlt;rw[hdrop] at hl;unfold ip at hl;split at hl
  .cases hl
  .rename_i δ1 h3;obtain⟨o1,S2,h5,h6⟩:=R3.ak hl;obtain⟨g1,g2⟩:=go i _ hd;refine .inr ⟨g1,fun vj H2=>∃qk S2 jj,Pre bU H1 qk H2/\eg X.K cl qk H2 S2 vj jj/\ip t F (ds.drop (i+1)) jj S2= .ok o S',fun vj H2 n=>⟨ds.length - (i+1),by omega,rfl,hlt,n⟩,fun x qa y=>?_⟩
   obtain⟨ss,rr⟩:=g2 x qa y;refine⟨bM,S1,dC,ds[i],δ1,E'.same ss,rr,h3,fun vj H2 s2 E2=>⟨bM,S1,δ1,o1,S2,E2,h5,?_⟩⟩
   have pv2:Pre bU H1 bM H2:=pv.trans (Pre.same (ss.trans s2));cases o1 with
   | nx jj=>exact fun Hn DF H3 p3 E3=>⟨DF,S2,jj,pv2.trans p3,E3,h6⟩
   | rt d=>
     cases h6;exact fun v DF H3 p3 w r=>q v DF H3 (p1.trans (pv2.trans p3)) w r
 .have e:i=ds.length:=by omega
  subst e;rw[List.drop_length] at hl;cases hl;exact .inl ⟨stop,q cw bM H' (p1.trans pv) E'⟩⟩
end
end L3
end
section
namespace L3
open PySem PySem.Spec PyProof.Rows L2
mutual
def zf(n:Nat):V3->Bool
 | .d _=>true
 | .loc k=>decide (k < n)
 | .lst vs=>q0 n vs
 | .tup vs=>q0 n vs
 | .fn _=>true
def q0(n:Nat):List V3->Bool
 | []=>true
 | v ::vs=>zf n v && q0 n vs
end
def yJ(n:Nat):SO->Bool
 | .ins _ fs=>q0 n (fs.map (·.2))
 | _=>true
theorem Jk{ρ:P3}{n:Nat}{b:Addr}(h:b∈(ρ.cut n).b):b∈ρ.b:=by
 rcases P3.dA.mp h with z | z
 .exact P3.dA.mpr (.inl ⟨List.mem_of_mem_take z.1,z.2⟩)
 .exact P3.dA.mpr (.inr z)
theorem jt{ρ:P3}(n:Nat):dD ρ.b H (ρ.cut n).b H:=fun b o e nb=>⟨e,fun hb=>nb (Jk hb)⟩
mutual
theorem aX.cut{K:W.Frag}{ρ:P3}{n:Nat}:∀{v:V3} {x:V},zf n v=true->aX K ρ H v x->aX K (ρ.cut n) H v x
 | .fn y,x,_,h=>by unfold aX at h ⊢;exact h
 | .d y,x,_,h=>by unfold aX at h ⊢;exact h.bF (jt n)
 | .loc k,x,o,h=>by
   unfold aX at h ⊢;unfold zf at o;obtain⟨a,h1,h2⟩:=h;exact⟨a,by show(ρ.r.take n)[k]? =_;rw [List.getElem?_take_of_lt (of_decide_eq_true o)];exact h1,h2⟩
 | .lst vs,x,o,h=>by
   unfold aX at h ⊢;unfold zf at o;obtain⟨a,xs,e,l,r⟩:=h;exact⟨a,xs,e,l.bF (jt n),aI.cut o r⟩
 | .tup vs,x,o,h=>by
   unfold aX at h ⊢;unfold zf at o;obtain⟨a,xs,e,l,r⟩:=h;exact⟨a,xs,e,Bp.bF (jt n) l,aI.cut o r⟩
theorem aI.cut{K:W.Frag}{ρ:P3}{n:Nat}:∀{vs:List V3} {xs:List V},q0 n vs=true->aI K ρ H vs xs->aI K (ρ.cut n) H vs xs
 | [],_,_,h=>by unfold aI at h ⊢;exact h
 | v ::vs,xs,o,h=>by
   unfold q0 at o;obtain⟨o1,o2⟩:=Bool.and_eq_true_iff.mp o;obtain⟨x,r,rfl,h1,h2⟩:=h.cq;exact aI.cons (aX.cut o1 h1) (aI.cut o2 h2)
end
theorem SW.cut{K:W.Frag}{cl:Aag}{ρ:P3}{S:aR}(w:SW K cl ρ H S){n:Nat}(ok:(S.take n).all (yJ n)=true):SW K cl (ρ.cut n) H (S.take n):=
 ⟨by show(ρ.r.take n).length=_;rw [List.length_take,List.length_take,w.len],fun i j a hi hj=>by
   have hi:(ρ.r.take n)[i]? =some a:=hi;have hj:(ρ.r.take n)[j]? =some a:=hj;have gi:ρ.r[i]? =some a:=by
    rw[List.getElem?_take] at hi;split at hi
    .exact hi
    .cases hi
   have gj:ρ.r[j]? =some a:=by
    rw[List.getElem?_take] at hj;split at hj
    .exact hj
    .cases hj
   exact w.nd i j a gi gj,fun k a o hk ho=>by
   have hk:(ρ.r.take n)[k]? =some a:=hk;have gk:ρ.r[k]? =some a:=by
    rw[List.getElem?_take] at hk;split at hk
    .exact hk
    .cases hk
   have go:S[k]? =some o:=by
    rw[List.getElem?_take] at ho;split at ho
    .exact ho
    .cases ho
   have r:=w.ob k a o gk go;have oo:yJ n o=true:=List.all_eq_true.mp ok o (List.mem_of_getElem? ho);cases o with
   | lst ds=>obtain⟨xs,e,q⟩:=r;exact⟨xs,e,q.bF (jt n)⟩
   | dct aC=>obtain⟨ys,e,e2,q⟩:=r;exact⟨ys,e,e2,q.bF (jt n)⟩
   | ins c fs=>obtain⟨dx,ys,e,e2,q⟩:=r;exact⟨dx,ys,e,e2,q.cut oo⟩
   | exc c=>exact r
   | ik=>exact r,fun b hb=>let⟨h1,h2⟩:=w.zb b hb;⟨h1,fun h=>h2 (List.mem_of_mem_take h)⟩,(fun k a hk ho=>by
   have hk:(ρ.r.take n)[k]? =some a:=hk;rw[List.getElem?_take] at hk;split at hk
   .rename_i hlt;rw[List.getElem?_take_of_lt hlt] at ho;exact w.fz k a hk ho
   .cases hk),w.ff,(fun k a hk ho=>by
   have hk:(ρ.r.take n)[k]? =some a:=hk;rw[List.getElem?_take] at hk;split at hk
   .rename_i hlt;rw[List.getElem?_take_of_lt hlt] at ho;exact w.fi k a hk ho
   .cases hk)⟩
theorem SW.Ey{K:W.Frag}{cl:Aag}{ρ bM:P3}{n:Nat}(hn:ρ.r.length<=n)(p:Pre ρ H bM H'):Pre ρ H (bM.cut n) H':=
 ⟨p.bF.trans (jt n),p.zz,p.zs,fun k a h=>by show(bM.r.take n)[k]? =_;rw [List.getElem?_take_of_lt (Nat.lt_of_lt_of_le (List.getElem?_eq_some_iff.mp h).1 hn)];exact p.ext k a h⟩
section
variable {X:Cx} {cl:Aag}
def cx(S:aR)(k:Nat):Option (List D):=match S[k]? with | some (.lst ds)=>some ds | _=>none
theorem c9{S:aR}{k:Nat}{ds:List D}(h:cx S k=some ds):S[k]? =some (.lst ds):=by
 unfold cx at h;split at h
 .rename_i e;cases h;exact e
 .cases h
def kB(δ:DE)(i:Nat):Option Nat:=match δ[i]? with | some (some (.loc k))=>some k | _=>none
theorem pR{δ:DE}{i k:Nat}(h:kB δ i=some k):δ[i]? =some (some (.loc k)):=by
 unfold kB at h;split at h
 .rename_i e;cases h;exact e
 .cases h
def CC(i:Nat)(f:FX):FZ:=fun δ S=>match kB δ i with
 | none=> .no
 | some k=>match cx S k with
   | none=> .no
   | some _=>(f δ S).bind fun v S1=>match v with
     | .d d=>(match cx S1 k with | some ds=>R3.aW (decide (ds.length < sizeLine)) (.ok (.nx δ) (S1.set k (.lst (ds++[d])))) | none=> .no)
     | _=> .no
theorem DZ{i:Nat}{x:Str}{e:Expr}{f:FX}{oI apos bj pos:Pos}(hN:X.N[i]? =some x)(hv:Kb X.env.scope x)(he:PX X cl e f)
 (hd:(x==("__debug__":Str))=false:=by decide) (uJ:(x==("__classdict__":Str))=false:=by decide)
 (hs:starEach [e] X.env=(false,eval e X.env) ::starEach [] X.env:=by rfl) (eI:(apos.endLine==bj.line)=true:=by rfl)
 (kG:((backTo bj (starEach [e] X.env)).all (fun x=>!x.1) && (backToKw bj (keywordEach [] X.env)).all (fun x=>x.1.isSome)
   && decide (([e]:List Expr).length+([]:List Keyword).length+(if([]:List Keyword).isEmpty then 0 else 1) < 30))=true:=by rfl)
 (G0:swapsWith (.Call (.Attribute (.Name x oI) "append" apos) [e] [] bj) none pos.line X.env=pure false:=by rfl)
 (eJ:attributeBase (.Name x oI) "append" X.env (eval (.Name x oI) X.env)=eval (.Name x oI) X.env:=by rfl) :
 PZ X cl (.Expr (.Call (.Attribute (.Name x oI) "append" apos) [e] [] bj) pos) (CC i f):=by
 refine⟨(qM (y8 (X:=X) PySem.F.plainAttrs_list PySem.F.slot_list_append PySem.F.type_list_append l9 (w_ hN hv hd uJ) (gL he.1 lJ hs) eJ kG eI hs) G0).imp fun D σ H ⟨ρ,S,δ,o,S',E,hf,q⟩=>?_⟩
 unfold CC at hf;split at hf
 .cases hf
 .rename_i k hk;split at hf
  .cases hf
  .rename_i DS h0;obtain⟨v,S1,h1,h2⟩:=R3.ak hf;split at h2
   .rename_i d;split at h2
    .rename_i ds h3;obtain⟨hl,h4⟩:=R3.aQ h2;cases h4;obtain⟨u,u1,u2⟩:=E.val i _ (pR hk);unfold aX at u2;obtain⟨a,a1,rfl⟩:=u2;obtain⟨Qg,x0,_⟩:=E.sw.ob k a _ a1 (c9 h0);refine⟨.ref a,u1, .inl ⟨rfl,Qg,nL.of x0⟩,⟨ρ,S,δ, .d d,S1,E,h1,fun y bU H1 p1 w1 r1=>?_⟩⟩
     have b1:=p1.ext k a a1;obtain⟨xs,x1,x2⟩:=w1.ob k a _ b1 (c9 h3);refine⟨a,xs,y,rfl,rfl,x1,by rw[<-x2.length];exact of_decide_eq_true hl,?_⟩
     unfold aX at r1;obtain⟨w2,p2⟩:=w1.put (o:= .lst (ds++[d])) (u:= .lst (xs++[y])) b1 (w1.fz k a b1 (by rw[c9 h3];intro h;cases h)) ⟨xs++[y],rfl,x2.append (aG.cons r1 aG.nil)⟩
     exact q σ bU _ (p1.trans p2) (E.to (p1.trans p2) w2)
    .cases h2
   .cases h2
def XW(fo fi fe:FX):FZ:=fun δ S=>(fe δ S).bind fun v S1=>(fo δ S1).bind fun o S2=>(fi δ S2).bind fun j S3=>match v,o,j with
 | .d d, .loc k, .d (.int n)=>(match cx S3 k with
   | some ds=>(match DY ds.length n with | some m=> .ok (.nx δ) (S3.set k (.lst (ds.set m d))) | none=> .no)
   | none=> .no)
 | _,_,_=> .no
def Jf(K:W.Frag)(cl:Aag)(n:Nat)(g:List V3->aR->R3 V3):Sp:=fun vs H Q _=>vs.length=n/\∃ρ S xs v S',SW K cl ρ H S/\aI K ρ H xs vs/\g xs S= .ok v S'/\∀u bM H',Pre ρ H bM H'->SW K cl bM H' S'->aX K bM H' v u->Q u H'
def ui(g:List V3->aR->R3 V3)(fs:FA):FX:=fun δ S=>(fs δ S).bind g
def qu(P:Program)(w:World)(K:W.Frag)(mg:Aaf)(base:Heap)(cl:Aag)(k:Nat)(x:Str)(n:Nat)(g:List V3->aR->R3 V3):Prop:=
 ∃(f:Addr) (fd:FuncData) (ps:List Str),jk P w K mg base vT k f fd ps (Jf K cl n g)/\mg x=some (.ref f)/\PySem.W.keepIn K (.ref f)=true/\Binds K fd ps []
theorem Js{g:List V3->aR->R3 V3}{k j n:Nat}{x:Str}{p pos:Pos}{e:Expr}{es:List Expr}{fs:FA}(C:qu X.prog X.w X.K X.mg X.base cl k x n g)(hr:dU j X.A)(GY:k<=j)(hg:Gl X x)(ha:Jl X cl (e ::es) fs)
 (hn:∀δ S ds S',fs δ S= .ok ds S'->ds.length=n) (kK:(x==("__debug__":Str))=false:=by decide) (he:starEach (e ::es) X.env=(false,eval e X.env) ::starEach es X.env:=by rfl) (nE:(backTo pos (starEach es X.env)).any (·.1)=false:=by rfl) :
 PX X cl (.Call (.Name x p) (e ::es) [] pos) (ui g fs):=by
 obtain⟨f,fd,ps,F,hm,hk,hb⟩:=C;refine⟨(xg F (hr.mono GY) hg hm hk hb .nil Fx ha.1 kK he nE).imp fun σ H Q ⟨ρ,S,δ,v,S',E,hf,q⟩=>?_⟩
 obtain⟨vs,S1,h1,h2⟩:=R3.ak hf;refine⟨ρ,S,δ,vs,S1,E,h1,fun us bU H1 p1 w1 r1=>?_⟩
 show Jf X.K cl n g (us++[]) H1 Q E0;rw[List.append_nil];exact⟨by rw[<-r1.length];exact hn δ S vs S1 h1,bU,S1,vs,v,S',w1,r1,h2,fun z qk H2 p2 w2 r2=>q z qk H2 (p1.trans p2) w2 r2⟩
end
def dq(N:List Str)(vs:List V3):DE:=vs.map some++List.replicate (N.length - vs.length) none
theorem yU{K:W.Frag}{cl:Aag}{S:aR}{N:List Str}{ds:List V3}{vs:List V}(w:SW K cl ρ H S)(r:aI K ρ H ds vs):eg K cl ρ H S (L2.start N vs) (dq N ds) where
 len:=by unfold L2.start dq;simp [r.length]
 sw:=w
 val:=fun i d e=>by
  unfold dq at e;unfold L2.start;by_cases hi:i < ds.length
  .rw [List.getElem?_append_left (by simpa using hi),List.getElem?_map] at e
   cases q:ds[i]? with
   | none=>rw [q] at e;cases e
   | some d'=>
     rw[q] at e;cases e;obtain⟨x,h1,h2⟩:=r.get q;exact⟨x,by rw[List.getElem?_append_left (by rw[List.length_map,<-r.length];exact hi),List.getElem?_map,h1];rfl,h2⟩
  .rw [List.getElem?_append_right (by simpa using hi),List.getElem?_replicate] at e
   split at e <;> cases e
def uO(N:List Str)(F:FZ):List V3->aR->R3 V3:=fun vs S=>(F (dq N vs) S).bind fun o S'=>match o with | .rt v=> .ok v S' | .nx _=> .ok (.d .cN) S'
def zm(N:List Str)(F:FZ):List V3->aR->R3 V3:=fun vs S=>(uO N F vs S).bind fun v S'=>match res S' v with
 | some d=>R3.aW ((S'.take S.length).all (yJ S.length) && nF S.length v) (.ok (.d d) (S'.take S.length))
 | none=> .no
theorem Hx{P:Program}{w:World}{K:W.Frag}{mg:Aaf}{base:Heap}{cl:Aag}{x qual:Str}{st:Stmt}{f:Addr}{fd:FuncData}{N ps:List Str}{k:Nat}{F:FZ}(Fn:z0 K x qual st f fd)(S:bC N ps (aJ st))
 (iz:∀(dJ:Value) (A:Around) (outer:List Env) (s:Shared) (H:Hp) (E:XK),dU k (A.deeper (envOfC qual (aJ st) s.heap.objs.size f dJ))->
   B6 (md vT P w K mg base N qual (aJ st) f dJ A outer s H E).IZ cl (a9 st) F):jk P w K mg base vT (k+1) f fd ps (Jf K cl ps.length (uO N F)):=by
 refine Fn.ok S (fun vs H Q E h=>h.1) (fun dJ A outer s H vs Q E hr h=>⟨_,(iz dJ A outer s H E hr).1,?_⟩)
 obtain⟨_,ρ,S,ds,v,S',w,r,hg,q⟩:=h;obtain⟨o,S1,h1,h2⟩:=R3.ak hg;refine⟨ρ,S,dq N ds,o,S1,yU w r,h1,?_⟩;cases o with
 | nx dC=>
   cases h2;exact fun cw bM H' p' E'=>q _ bM H' p' E'.sw (by unfold aX Rep;rfl)
 | rt d'=>
   cases h2;exact fun u bM H' p' w' r'=>q u bM H' p' w' r'
theorem FP{K:W.Frag}{cl:Aag}{N:List Str}{n:Nat}{vs:List V}{Q:VK}{E:XK}(h:Jf K cl n (zm N F) vs H Q E):Jf K cl n (uO N F) vs H Q E:=by
 obtain⟨hl,ρ,S,xs,v,S',w,r,hg,q⟩:=h;obtain⟨v1,S1,h1,h2⟩:=R3.ak hg;refine⟨hl,ρ,S,xs,v1,S1,w,r,h1,fun u bU H1 p1 w1 r1=>?_⟩
 have pc:Pre ρ H (bU.cut S.length) H1:=SW.Ey (K:=K) (cl:=cl) (by rw[w.len];exact Nat.le_refl _) p1
 split at h2
 .rename_i d e;obtain⟨ok,h3⟩:=R3.aQ h2;obtain⟨ok,hk⟩:=Bool.and_eq_true_iff.mp ok;cases h3;refine q u _ H1 pc (w1.cut ok) ?_;unfold aX;refine r1.resB w1 (jt _) (fun k a hk a1 ha=>?_) hk e
  rcases P3.dA.mp ha with⟨z,_⟩ | z
  .obtain⟨j,hj⟩:=List.getElem?_of_mem z;have hj:(bU.r.take S.length)[j]? =some a:=hj;rw[List.getElem?_take] at hj;split at hj
   .rename_i hjl;have:=w1.nd j k a hj a1;omega
   .cases hj
  .exact(w1.zb a z).2 (List.mem_of_getElem? a1)
 .cases h2
end L3
end
section
namespace L3
open PySem PySem.Spec PyProof.Rows L2
section
variable {X:Cx} {cl:Aag}
def kX(δ:DE)(i:Nat):Option V3:=match δ[i]? with | some (some v)=>some v | _=>none
def pe(own:List Str)(kp:List Nat)(δ:DE):DE:=List.replicate own.length none++kp.map (kX δ)
theorem ID{K:W.Frag}{S S':aR}{σ:L2.St}{δ:DE}{own:List Str}{kp:List Nat}(E:eg K cl ρ H S σ δ)(p:PW ρ H bM H')(w:SW K cl bM H' S'):eg K cl bM H' S' (de own kp σ) (pe own kp δ) where
 len:=by unfold de pe;simp
 sw:=w
 val:=fun i d e=>by
  unfold pe at e;unfold de;by_cases hi:i < own.length
  .rw [List.getElem?_append_left (by simpa using hi),List.getElem?_replicate] at e
   split at e <;> cases e
  .rw [List.getElem?_append_right (by simpa using hi),List.length_replicate,List.getElem?_map] at e ⊢
   cases q:kp[i - own.length]? with
   | none=>rw [q] at e;cases e
   | some j=>
     rw[q] at e;have e:kX δ j=some d:=Option.some.inj e;unfold kX at e;split at e
     .rename_i d' ed;cases e;obtain⟨v,h1,h2⟩:=E.val j d ed;exact⟨v,by simp [h1],h2.pw p⟩
     .cases e
def om(t:FG)(c:FB)(f:FX)(δ:DE):List V3->aR->R3 (List V3)
 | [],S=> .ok [] S
 | v ::vs,S=>match t v δ with
   | none=> .no
   | some δ1=>(c δ1 S).bind fun b S1=>if b then(f δ1 S1).bind fun y S2=>(om t c f δ vs S2).bind fun ys S3=> .ok (y ::ys) S3 else om t c f δ vs S1
def yc(it:FA)(t:FG)(c:FB)(f:FX)(own:List Str)(kp:List Nat):FX:=fun δ S=>(it δ S).bind fun vs S1=>R3.aW (decide (vs.length<=sizeLine)) ((om t c f (pe own kp δ) vs S1).bind fun ys S2=> .ok (tF ys) S2)
theorem aI.append{K:W.Frag}:∀{ds es:List V3} {xs ys:List V},aI K ρ H ds xs->aI K ρ H es ys->aI K ρ H (ds++es) (xs++ys)
 | [],_,_,_,h,t=>by unfold aI at h;subst h;exact t
 | d ::ds,es,xs,ys,h,t=>by
   obtain⟨x,r,rfl,h1,h2⟩:=h.cq;exact aI.cons h1 (aI.append h2 t)
theorem Jy{K:W.Frag}{own:List Str}{kp:List Nat}{σ:L2.St}{Q:VK}(h:tX K cl (yc it t c f own kp) σ H Q) :
 Eu (Vv K cl it) (gX K cl t) (NV K cl c) (tX K cl f) own kp σ H Q:=by
 obtain⟨ρ,S,δ,v,SF,E,hf,q⟩:=h;obtain⟨es,S1,h1,h2⟩:=R3.ak hf;obtain⟨hl,h3⟩:=R3.aQ h2;have hl:=of_decide_eq_true hl;obtain⟨vs,S2,h4,h5⟩:=R3.ak h3;cases h5;refine⟨ρ,S,δ,es,S1,E,h1,fun J bU H1 p1 w1 ir Dd hD=>?_⟩
 have nDz:Dd ∉ bU.b:=fun hb=>by obtain⟨o,ho⟩:=w1.bs Dd hb;rw [hD] at ho;cases ho
 have nDr:Dd ∉ bU.r:=fun hb=>by obtain⟨o,ho⟩:=w1.rs Dd hb;rw [hD] at ho;cases ho
 have toZ:∀{r' f':List Addr} {H':Hp},Pre bU H1 ⟨r',bU.z,f'⟩ H'->PW bU H1 ⟨r',Dd ::bU.z,f'⟩ H':=fun {r' f' H'} p=>⟨fun b o e nb=>⟨(p.bF b o e nb).1,fun hb=>by
  rcases P3.dA.mp hb with z | z
  .exact(p.bF b o e nb).2 (P3.dA.mpr (.inl z))
  .rcases List.mem_cons.mp z with y | y
   .exact bK e hD y
   .exact(p.bF b o e nb).2 (P3.dA.mpr (.inr y))⟩,p.ext⟩
 have w0:SW K cl ⟨bU.r,Dd ::bU.z,bU.f⟩ (upd H1 Dd (.lst [])) S1:=by
  have s0:aS H1 (upd H1 Dd (.lst [])):=bG hD;have ws:=w1.same s0;refine⟨ws.len,ws.nd,fun k a o hk ho=>?_,fun b hb=>?_,ws.fz,ws.ff,ws.fi⟩
  .have r:=w1.ob k a o hk ho;obtain⟨u,hu⟩:=r.some;rw[s0 a u hu,<-hu];exact r.pw (toZ (Pre.same s0))
  .rcases List.mem_cons.mp hb with y | y
   .subst y;exact⟨⟨_,ba⟩,nDr⟩
   .exact ws.zb b y
 refine⟨fun i m ys H'=>m=es.length - i/\i<=es.length/\ys.length<=i/\H' Dd=some (.lst ys)/\∃r' f' S' done rest,Pre bU H1 ⟨r',bU.z,f'⟩ H'/\SW K cl ⟨r',Dd ::bU.z,f'⟩ H' S'/\vs=done++rest/\aI K ⟨r',Dd ::bU.z,f'⟩ H' done ys/\om t c f (pe own kp δ) (es.drop i) S'= .ok rest SF,
  ⟨es.length,rfl,Nat.zero_le _,Nat.le_refl _,ba,bU.r,bU.f,S1,[],vs,Pre.same (bG hD),w0,rfl,aI.nil,by simpa using h4⟩,?_⟩
 rintro i m ys H' ⟨rfl,hi,hy,hDl,r',f',S',done,rest,pv,w',rfl,rd,hc⟩;obtain⟨go,stop⟩:=ir ⟨r',Dd ::bU.z,f'⟩ H' (toZ pv) w'.bs;have unZ:∀{KH:P3} {H4:Hp},Pre ⟨r',Dd ::bU.z,f'⟩ H' KH H4->Pre bU H1 ⟨KH.r,bU.z,KH.f⟩ H4:=fun {KH H4} p4=>⟨fun b o e nb=>by
  obtain⟨e1,n1⟩:=(toZ pv).bF b o e nb;obtain⟨sf,n2⟩:=p4.bF b o e1 n1;refine⟨sf,fun hb=>n2 ?_⟩
  rcases P3.dA.mp hb with z | z
  .exact P3.dA.mpr (.inl z)
  .exact P3.dA.mpr (.inr (by rw[p4.zz];exact List.mem_cons_of_mem _ z)),rfl,fun b o hb h=>p4.zs b o (List.mem_cons_of_mem _ hb) (pv.zs b o hb h),fun k a h=>p4.ext k a (pv.ext k a h)⟩
 by_cases hlt:i < es.length
 .have hd:es[i]? =some es[i]:=List.getElem?_eq_getElem hlt;have hdrop:es.drop i=es[i] ::es.drop (i+1):=List.drop_eq_getElem_cons hlt;rw[hdrop] at hc;unfold om at hc;split at hc
  .cases hc
  .rename_i δ1 h6;obtain⟨b,T1,h7,h8⟩:=R3.ak hc;obtain⟨g1,g2⟩:=go i _ hd;refine .inr ⟨g1,fun x H2 y=>?_⟩
   obtain⟨sy,ry⟩:=g2 x H2 y;have Ec:eg K cl ⟨r',Dd ::bU.z,f'⟩ H2 S' (de own kp σ) (pe own kp δ):=ID E (p1.pw.trans ((toZ pv).trans (Pre.same sy).pw)) (w'.same sy);refine⟨⟨r',Dd ::bU.z,f'⟩,S',pe own kp δ,es[i],δ1,Ec,ry,h6,fun Hn H3 s3 E3=>⟨⟨r',Dd ::bU.z,f'⟩,S',δ1,b,T1,E3,h7,fun KH H4 p4 w4=>?_⟩⟩
   have Qv:Pre ⟨r',Dd ::bU.z,f'⟩ H' KH H4:=(Pre.same (sy.trans s3)).trans p4;cases b with
   | true=>
     rw[if_pos rfl] at h8;refine Gn ?_;obtain⟨yv,T2,h9,Vr⟩:=R3.ak h8;obtain⟨rs,T3,Uc,ZF⟩:=R3.ak Vr;cases ZF;refine⟨KH,T1,δ1,yv,T2,E3.to p4 w4,h9,fun v5 Xd H5 p5 w5 r5=>?_⟩
     have pv5:Pre ⟨r',Dd ::bU.z,f'⟩ H' Xd H5:=Qv.trans p5;have Vo:H5 Dd=some (.lst ys):=pv5.zs Dd _ List.mem_cons_self hDl;have u5:=unZ pv5;obtain⟨Q5,z5,f5⟩:=Xd;have ez:z5=Dd ::bU.z:=pv5.zz;subst ez;have nr:Dd ∉ Q5:=(w5.zb Dd List.mem_cons_self).2;have pw:PW ⟨Q5,Dd ::bU.z,f5⟩ H5 ⟨Q5,Dd ::bU.z,f5⟩ (upd H5 Dd (.lst (ys++[v5]))):=⟨fun b o e nb=>⟨by rw[bt (fun(z:b=Dd)=>nb (by rw[z];exact P3.dA.mpr (.inr List.mem_cons_self)))];exact e,nb⟩,fun _ _ h=>h⟩
     refine⟨Vo,by omega,es.length - (i+1),by omega,rfl,hlt,by rw[List.length_append,List.length_singleton];omega,ba,Q5,f5,T2,done++[yv],rs,?_,?_,by simp,aI.append ((rd.pre pv5).pw pw) (aI.cons (r5.pw pw) aI.nil),Uc⟩
     .refine⟨fun b o e nb=>⟨by rw[bt (bK e hD)];exact(u5.bF b o e nb).1,(u5.bF b o e nb).2⟩,rfl,fun b o hb h=>?_,u5.ext⟩
      rw[bt (bK h hD)];exact u5.zs b o hb h
     .refine⟨w5.len,w5.nd,fun k a o hk ho=>?_,fun b hb=>?_,w5.fz,fun b hb=>?_,w5.fi⟩
      .have ne:a≠Dd:=fun z=>nr (by rw[<-z];exact List.mem_of_getElem? hk)
       rw[bt ne];exact(w5.ob k a o hk ho).pw pw
      .obtain⟨⟨o,ho⟩,n⟩:=w5.zb b hb;refine⟨?_,n⟩;by_cases z:b=Dd
       .subst z;exact⟨_,ba⟩
       .rw [bt z];exact⟨o,ho⟩
      .obtain⟨o,ho⟩:=w5.ff b hb;by_cases z:b=Dd
       .subst z;exact⟨_,ba⟩
       .rw [bt z];exact⟨o,ho⟩
   | false=>
     rw[if_neg (by decide)] at h8
     refine Gy ?_;have hD4:H4 Dd=some (.lst ys):=Qv.zs Dd _ List.mem_cons_self hDl;have u4:=unZ Qv;obtain⟨Z2,z4,f4⟩:=KH;have ez:z4=Dd ::bU.z:=Qv.zz;subst ez;exact⟨es.length - (i+1),by omega,rfl,hlt,by omega,hD4,Z2,f4,T1,done,rest,u4,w4,rfl,rd.pre Qv,h8⟩
 .have e:i=es.length:=by omega
  subst e;rw[List.drop_length] at hc;cases hc;rw[List.append_nil] at q;refine .inl ⟨stop,?_⟩;have back:PW ⟨r',Dd ::bU.z,f'⟩ H' ⟨r',bU.z,f'⟩ H':=⟨fun b o e nb=>⟨e,fun hb=>nb (by
   rcases P3.dA.mp hb with z | z
   .exact P3.dA.mpr (.inl z)
   .exact P3.dA.mpr (.inr (List.mem_cons_of_mem _ z)))⟩,fun _ _ h=>h⟩
  have wB:SW K cl ⟨r',bU.z,f'⟩ H' _:=⟨w'.len,w'.nd,fun k a o hk ho=>(w'.ob k a o hk ho).pw back,fun b hb=>w'.zb b (List.mem_cons_of_mem _ hb),w'.fz,w'.ff,w'.fi⟩
  refine q _ ⟨r',bU.z,f'⟩ H' (p1.trans pv) wB (vv (.inl ⟨fun hb=>?_, .inl hDl⟩) (rd.pw back))
  rcases P3.dA.mp hb with z | z
  .exact(w'.zb Dd List.mem_cons_self).2 z.1
  .exact nDz (P3.dA.mpr (.inr z))
end
end L3
end
section
namespace L3
open PySem PySem.Spec PyProof.Rows L2
section
variable {X:Cx} {cl:Aag}
theorem IV{scope:Scope}{own:List Str}{kp:List Nat}{kn:List Str}{tg iter elt:Expr}{ifs:List Expr}{it:FA}{t:FG}{c:FB}{f:FX}{pos:Pos}(hc:X.calm=true)(C:eU X scope own kp kn)(hi:QG X cl tg iter it)
 (hg:∀fp s H,QI (cb X scope (own++kn) fp s H) cl tg t) (Ni:∀fp s H,uU (cb X scope (own++kn) fp s H) ifs (NV X.K cl c)) (he:∀fp s H,PX (cb X scope (own++kn) fp s H) cl elt f)
 (hs:∀x,foldedSetIterable iter X.env x=pure x:=by intro _;rfl):PX X cl (.ListComp elt [⟨tg,iter,ifs,0⟩] scope pos) (yc it t c f own kp):=
 ⟨(Bl hc C hi.1 (fun fp s H=>(hg fp s H).1) Ni (fun fp s H=>(he fp s H).1) hs).imp fun σ H Q h=>Jy h⟩
def K7:FB:=fun _ S=> .ok true S
theorem CB:uU X [] (NV X.K cl K7):=fun pins s σ H Q I ⟨ρ,S,δ,b,S',E,hf,q⟩=>xX pins s σ H Q I (by cases hf;exact q ρ H (Pre.refl ρ H) E.sw)
def xAl(g:FA):FX:=fun δ S=>(g δ S).bind fun vs S1=>match rF vs with
 | some ds=>R3.aW (decide (ds.length<=sizeLine)) (.ok (.loc S1.length) (S1++[.lst ds]))
 | none=> .no
end
end L3
end
section
namespace L3
open PySem PySem.Spec PyProof.Rows L2
section
variable {X:Cx} {cl:Aag}
def xq(g:List D->R D)(fs:FA):FX:=fun δ S=>(fs δ S).bind fun vs S1=>match rF vs with
 | some ds=>(R3.of (g ds) S1).bind fun d S=> .ok (.d d) S
 | none=> .no
theorem EZ{K:W.Frag}{g:List D->R D}{σ:L2.St}{Q:VK}(h:tX K cl (xq g fs) σ H Q) :
 Wa K cl fs σ H fun vs H1=>∃B ds d,(∀a∈B,∃o,H1 a=some o)/\aG K B H1 ds vs/\g ds= .ok d/\∀z H',aS H1 H'->Rep K B H' d z->Q z H':=by
 obtain⟨ρ,S,δ,v,S',E,hf,q⟩:=h;obtain⟨vs,S1,h1,h2⟩:=R3.ak hf;split at h2
 .rename_i ds e;obtain⟨d,S2,h3,h4⟩:=R3.ak h2;obtain⟨h5,e5⟩:=R3.of_ok h3;cases h4;subst e5;refine⟨ρ,S,δ,vs,_,E,h1,fun us bU H1 p1 w1 r1=>?_⟩
  rw[oW e] at r1;exact⟨bU.b,ds,d,w1.bs,r1.to,h5,fun z H' s r=>q z bU H' (p1.trans (Pre.same s)) (w1.same s) (by unfold aX;exact r)⟩
 .cases h2
theorem B8{g:List D->R D}{x:Str}{T:String}{p pos:Pos}{e:Expr}{es:List Expr}{fs:FA}(hc:dz X (.type T) g)(hg:Gl X x)(hm:X.mg x=none)(hv:bootBuiltins x=some (.type T))(ha:Jl X cl (e ::es) fs)(hn:x≠"__name__":=by decide)(kK:(x==("__debug__":Str))=false:=by decide)
 (he:starEach (e ::es) X.env=(false,eval e X.env) ::starEach es X.env:=by rfl) (nE:(backTo pos (starEach es X.env)).any (·.1)=false:=by rfl):PX X cl (.Call (.Name x p) (e ::es) [] pos) (xq g fs):=
 ⟨(vt hc.r hg hm hv ha.1 hn kK he nE).imp fun σ H Q h=>EZ h⟩
def xIf(c:FB)(f g:FX):FX:=fun δ S=>(c δ S).bind fun b S=>if b then f δ S else g δ S
theorem js:∀(δ:DE) (S:aR) (ds:List V3) (S':aR),dF δ S= .ok ds S'->ds.length=0:=fun δ S ds S' h=>by cases h;rfl
theorem cF{g:FA}{n:Nat}(h:∀(δ:DE) (S:aR) (ds:List V3) (S':aR),g δ S= .ok ds S'->ds.length=n):∀(δ:DE) (S:aR) (ds:List V3) (S':aR),bo f g δ S= .ok ds S'->ds.length=n+1:=fun δ S ds S' e=>by
 obtain⟨v,S1,h1,h2⟩:=R3.ak e;obtain⟨vs,S2,h3,h4⟩:=R3.ak h2;cases h4;rw[List.length_cons,h δ S1 vs _ h3]
end
end L3
end
section
namespace L3
open PySem PySem.Spec PyProof.Rows L2
section
variable {X:Cx} {cl:Aag}
def xIx(fa fb:FX):FX:=fun δ S=>(fa δ S).bind fun a S1=>(fb δ S1).bind fun b S2=>match a,b with
 | .d x, .d y=>(R3.of (dN x y) S2).bind fun d S=> .ok (.d d) S
 | .lst vs, .d (.int i)=>(match we vs i with | some v=> .ok v S2 | none=> .no)
 | .tup vs, .d (.int i)=>(match we vs i with | some v=> .ok v S2 | none=> .no)
 | _,_=> .no
end
end L3
end
section
namespace L3
open PySem PySem.Spec PyProof.Rows L2
section
variable {X:Cx} {cl:Aag}
structure Mu (X:Cx) (cl:Aag) (e:Expr) (f:FB):Prop where
 go:L2.PW X e (NV X.K cl f)
theorem Mu.pb(h:Mu X cl e f):DQ X cl e f:=⟨L2.PW.pt h.1⟩
def Xu(f g:FB):FB:=fun δ S=>(f δ S).bind fun b S=>if b then g δ S else .ok false S
def Pm(f g:FB):FB:=fun δ S=>(f δ S).bind fun b S=>if b then .ok true S else g δ S
def GG(f:FB):FB:=fun δ S=>(f δ S).bind fun b S=> .ok (!b) S
theorem A7(h:DQ X cl a f):Mu X cl (.BoolOp .Or [a] pos) f:=⟨E6 h.1⟩
theorem El{rest:List Expr}(ha:DQ X cl a f)(hb:Mu X cl (.BoolOp .Or (b ::rest) pos) g):Mu X cl (.BoolOp .Or (a ::b ::rest) pos) (Pm f g):=⟨by
 intro wh pins s σ H Q I ⟨ρ,S,δ,k,S',E,hf,q⟩;refine Kr ha.1 hb.1 wh pins s σ H Q I ?_;obtain⟨c,S1,h1,h2⟩:=R3.ak hf;refine⟨ρ,S,δ,c,S1,E,h1,fun bU H1 p1 w1=>?_⟩
 cases c with
 | true=>rw [if_pos rfl] at h2 ⊢;cases h2;exact q bU H1 p1 w1
 | false=>rw [if_neg (by decide)] at h2 ⊢;exact⟨bU,S1,δ,k,S',E.to p1 w1,h2,fun qk H' p2 w2=>q qk H' (p1.trans p2) w2⟩⟩
theorem BX(ha:DQ X cl a f):DQ X cl (.UnaryOp .Not a pos) (GG f):=⟨(Ep ha.1).imp fun σ H Q ⟨ρ,S,δ,k,S',E,hf,q⟩=>by
 obtain⟨c,S1,h1,h2⟩:=R3.ak hf;cases h2;exact⟨ρ,S,δ,c,_,E,h1,fun bU H1 p1 w1=>q bU H1 p1 w1⟩⟩
def Y_(f:FX):FB:=fun δ S=>(f δ S).bind fun v S=>match v with | .d d=>R3.of (Mm d) S | _=> .no
abbrev ND:=DE->aR->R3 (Option Int)
def Xe(K:W.Frag)(cl:Aag)(f:ND):TO:=fun σ H Q=>∃ρ S δ o S',eg K cl ρ H S σ δ/\f δ S= .ok o S'/\∀bM H',Pre ρ H bM H'->SW K cl bM H' S'->Q o H'
structure PXO (X:Cx) (cl:Aag) (e:Option Expr) (f:ND):Prop where
 go:PO X e (Xe X.K cl f)
def Rb:ND:=fun _ S=> .ok none S
def R1(f:FX):ND:=fun δ S=>(f δ S).bind fun v S=>match v with | .d (.int i)=> .ok (some i) S | _=> .no
def xSl(f:FX)(fl fh:ND):FX:=fun δ S=>(f δ S).bind fun v S1=>(fl δ S1).bind fun lo S2=>(fh δ S2).bind fun hi S3=>match v with
 | .d d=>(R3.of (JU d lo hi) S3).bind fun r S=> .ok (.d r) S
 | _=> .no
end
end L3
end
section
namespace L2
open PySem PySem.Spec PyProof.Rows
section
variable {X:Cx}
def M9(t T:String):Bool:=t==T || (t=="bool" && T=="int")
def Xy(T:String)(f:FD):FD:=fun δ=>(f δ).bind fun d=>match d with | .dct _ _=> .no | _=> .ok (.bl (M9 (tyName d) T))
def nList(f:FD):aw->R (List D):=fun δ=>(f δ).bind fun d=>match d with | .lst ds=> .ok ds | .tup ds=> .ok ds | _=> .no
end
end L2
namespace L3
open PySem PySem.Spec PyProof.Rows L2
theorem uc{P:Program}{w:World}{K:W.Frag}{mg:Aaf}{base:Heap}{cl:Aag}{x qual:Str}{st:Stmt}{f:Addr}{fd:FuncData}{N ps:List Str}{k:Nat}{F:FZ}{b:List Stmt}{sc:Scope}(hb:a9 st=b)(hs:aJ st=sc)(Fn:z0 K x qual st f fd)(S:bC N ps sc)
 (iz:∀(dJ:Value) (A:Around) (outer:List Env) (s:Shared) (H:Hp) (E:XK),dU k (A.deeper (envOfC qual sc s.heap.objs.size f dJ))->
   B6 (md vT P w K mg base N qual sc f dJ A outer s H E).IZ cl b F):jk P w K mg base vT (k+1) f fd ps (Jf K cl ps.length (uO N F)):=by
 subst hb hs;exact Hx Fn S iz
theorem qu.p{K:W.Frag}{mg:Aaf}{cl:Aag}{k:Nat}{n:Nat}{N:List Str}(C:qu P w K mg base cl k x n (uO N F)):qu P w K mg base cl k x n (zm N F):=
 let⟨f,fd,ps,F,h⟩:=C;⟨f,fd,ps,F.imp fun _ _ _ _ h=>FP h,h⟩
def QQ(N:List Str)(F:FZ):List D->R D:=fun ds=>match zm N F (ds.map .d) [] with
 | .ok (.d d) []=>R.aW d.atom (.ok d)
 | _=> .no
theorem Nf{K:W.Frag}{cl:Aag}{N:List Str}{n:Nat}{vs:List V}{Q:VK}{E:XK}(h:Jg K n (QQ N F) vs H Q E):Jf K cl n (uO N F) vs H Q E:=by
 obtain⟨hl,B,ds,d,hb,r,hg,q⟩:=h;unfold QQ at hg;split at hg
 .rename_i d' e;obtain⟨ha,h2⟩:=R.aQ hg;cases h2;have r0:aG K (⟨[],[],[]⟩:P3).b H ds vs:=r.bF fun b o e _=>⟨e,by simp [P3.b]⟩
  refine FP ⟨hl,⟨[],[],[]⟩,[],ds.map .d, .d d,[],⟨rfl,fun i j a hi=>by simp at hi,fun k a o hk=>by simp at hk,fun b hb=>by simp at hb,fun k a hk=>by simp at hk,fun b hb=>by simp at hb,fun k a hk=>by simp at hk⟩,aI.of r0,e,fun u bM H' p w' r'=>q u H' (fun b o eb=>?_) ?_⟩
  .exact(p.bF b o eb (by simp [P3.b])).1
  .unfold aX at r';exact r'.atom ha
 .cases hg
section
variable {X:Cx} {cl:Aag}
def Sd(f:FX):FA:=fun δ S=>(f δ S).bind fun v S=>match v with | .d (.tup ds)=> .ok (ds.map .d) S | .tup vs=> .ok vs S | _=> .no
end
end L3
end
section
namespace L3
open PySem PySem.Spec PyProof.Rows L2
def W3{α:Type}(r:R3 α)(Q:α->aR->Prop):Prop:=∃a S,r= .ok a S/\Q a S
section
variable {α β:Type} {Q Q':α->aR->Prop} {S:aR} {δ:DE}
theorem W3.ok{a:α}(h:Q a S):W3 (.ok a S) Q:=⟨a,S,rfl,h⟩
theorem W3.bind{Q:β->aR->Prop}{r:R3 α}{f:α->aR->R3 β}(h:W3 r fun a S=>W3 (f a S) Q):W3 (r.bind f) Q:=by
 obtain⟨a,S1,e1,b,S2,h2,q⟩:=h;exact⟨b,S2,by rw[e1];exact h2,q⟩
theorem W3.mono{r:R3 α}(h:W3 r Q)(m:∀a S,Q a S->Q' a S):W3 r Q':=let⟨a,S,e,q⟩:=h;⟨a,S,e,m a S q⟩
theorem W3.wh{c:Bool}{r:R3 α}(hc:c=true)(h:W3 r Q):W3 (R3.aW c r) Q:=by rw[hc];exact h
theorem W3.of{r:R α}{a:α}(e:r= .ok a)(h:Q a S):W3 (R3.of r S) Q:=by rw[e];exact⟨a,S,rfl,h⟩
end
section
variable {S:aR} {δ:DE} {QV:V3->aR->Prop} {QB:Bool->aR->Prop} {QA:List V3->aR->Prop} {QO:Ou->aR->Prop}
theorem il{f:FD}{d:D}(e:f (down δ)= .ok d)(h:QV (.d d) S):W3 (xP f δ S) QV:=W3.bind (W3.of e (W3.ok h))
theorem uZ{f:aw->R Bool}{b:Bool}(e:f (down δ)= .ok b)(h:QB b S):W3 (bP f δ S) QB:=W3.of e h
theorem w_var{i:Nat}{v:V3}(e:δ[i]? =some (some v))(h:QV v S):W3 (bX i δ S) QV:=by unfold bX;rw [e];exact W3.ok h
theorem AW{f:aw->R (List D)}{ds:List D}(e:f (down δ)= .ok ds)(h:QV (.loc S.length) (S++[.lst ds])):W3 (CQ f δ S) QV:=W3.bind (W3.of e (W3.ok h))
theorem iy(h:QA [] S):W3 (dF δ S) QA:=W3.ok h
theorem ck{f:FX}{g:FA}(h:W3 (f δ S) fun v S1=>W3 (g δ S1) fun vs S2=>QA (v ::vs) S2):W3 (bo f g δ S) QA:=W3.bind (h.mono fun _ _ h=>W3.bind (h.mono fun _ _ h=>W3.ok h))
theorem Oj{g:FA}(h:W3 (g δ S) fun vs S1=>vs.length<=sizeLine/\QV (yC vs) S1):W3 (zB g δ S) QV:=W3.bind (h.mono fun _ _ h=>W3.wh (decide_eq_true h.1) (W3.ok h.2))
theorem Kt{g:FA}(h:W3 (g δ S) fun vs S1=>vs.length<=sizeLine/\QV (tF vs) S1):W3 (Af g δ S) QV:=W3.bind (h.mono fun _ _ h=>W3.wh (decide_eq_true h.1) (W3.ok h.2))
theorem O1{g:D->D->R D}{fa fb:FX}(h:W3 (fa δ S) fun a S1=>W3 (fb δ S1) fun b S2=>∃x y d,a= .d x/\b= .d y/\g x y= .ok d/\QV (.d d) S2):W3 (x2 g fa fb δ S) QV:=
 W3.bind (h.mono fun _ _ h=>W3.bind (h.mono fun _ _ ⟨_,_,_,e1,e2,e3,q⟩=>by subst e1 e2;exact W3.bind (W3.of e3 (W3.ok q))))
theorem MY{g:D->D->R D}{fa fb:FX}(h:W3 (fa δ S) fun a S1=>W3 (fb δ S1) fun b S2=>∃x y k,a= .d x/\b= .d y/\g x y= .ok (.bl k)/\QB k S2):W3 (Qf g fa fb δ S) QB:=
 W3.bind (O1 (h.mono fun _ _ h=>h.mono fun _ _ ⟨x,y,k,e1,e2,e3,q⟩=>⟨x,y, .bl k,e1,e2,e3,W3.ok q⟩))
theorem Mv{g:List V3->aR->R3 V3}{fs:FA}(h:W3 (fs δ S) fun vs S1=>W3 (g vs S1) QV):W3 (ui g fs δ S) QV:=W3.bind h
theorem HN{g:List D->R D}{fs:FA}(h:W3 (fs δ S) fun vs S1=>∃ds d,vs=ds.map .d/\g ds= .ok d/\QV (.d d) S1):W3 (xq g fs δ S) QV:=
 W3.bind (h.mono fun _ _ ⟨ds,_,e1,e2,q⟩=>by subst e1;rw [uA];exact W3.bind (W3.of e2 (W3.ok q)))
theorem ML{it:FA}{own:List Str}{kp:List Nat}(h:W3 (it δ S) fun vs S1=>vs.length<=sizeLine/\W3 (om t c f (pe own kp δ) vs S1) fun ys S2=>QV (tF ys) S2):W3 (yc it t c f own kp δ S) QV:=
 W3.bind (h.mono fun _ _ h=>W3.wh (decide_eq_true h.1) (W3.bind (h.2.mono fun _ _ h=>W3.ok h)))
theorem d7{F G:FZ}(h:W3 (F δ S) fun o S1=>∃δ1,o= .nx δ1/\W3 (G δ1 S1) QO):W3 (cR F G δ S) QO:=W3.bind (h.mono fun _ _ ⟨_,e,h⟩=>by subst e;exact h)
theorem iu{i:Nat}{f:FX}(hi:i < δ.length)(h:W3 (f δ S) fun v S1=>QO (.nx (δ.set i (some v))) S1):W3 (mJ i f δ S) QO:=W3.bind (h.mono fun _ _ h=>W3.wh (decide_eq_true hi) (W3.ok h))
theorem yD{f:FX}(h:W3 (f δ S) fun v S1=>QO (.rt v) S1):W3 (Cn f δ S) QO:=W3.bind (h.mono fun _ _ h=>W3.ok h)
theorem GB{c:FB}{F G:FZ}(h:W3 (c δ S) fun b S1=>if b then W3 (F δ S1) QO else W3 (G δ S1) QO):W3 (tK c F G δ S) QO:=W3.bind (h.mono fun b _ h=>by cases b <;> exact h)
theorem xA(h:QO (.nx δ) S):W3 (mL δ S) QO:=W3.ok h
theorem Eb{f:aw->R (List D)}{ds:List D}(e:f (down δ)= .ok ds)(h:QA (ds.map .d) S):W3 (iP f δ S) QA:=W3.bind (W3.of e (W3.ok h))
theorem Kx{it:FA}(h:W3 (it δ S) fun vs S1=>W3 (ip t F vs δ S1) QO):W3 (yT it t F δ S) QO:=W3.bind h
theorem J0{i k:Nat}{f:FX}(hk:δ[i]? =some (some (.loc k)))(h0:∃ds,S[k]? =some (.lst ds))(h:W3 (f δ S) fun v S1=>∃d ds,v= .d d/\S1[k]? =some (.lst ds)/\ds.length < sizeLine/\QO (.nx δ) (S1.set k (.lst (ds++[d])))):W3 (CC i f δ S) QO:=by
 obtain⟨es,h0⟩:=h0;unfold CC;have e1:kB δ i=some k:=by unfold kB;rw [hk]
 have e2:cx S k=some es:=by unfold cx;simp only[h0]
 rw[e1];show W3 (match cx S k with | none=>_ | some _=>_) _
 rw[e2];refine W3.bind (h.mono fun v S1 ⟨d,ds,e,h1,hl,q⟩=>?_)
 subst e;have e3:cx S1 k=some ds:=by unfold cx;simp only[h1]
 show W3 (match cx S1 k with | some ds=>_ | none=>_) _
 rw[e3];exact W3.wh (decide_eq_true hl) (W3.ok q)
theorem t6{t:FG}{body:FZ}:∀(vs:List V3) (n:Nat) (P:Nat->DE->aR->Prop) {δ:DE} {S:aR},P n δ S->
 (∀i v δ S,vs[i]? =some v->P (n+i) δ S->∃δ1,t v δ=some δ1/\W3 (body δ1 S) fun o S1=>∃jj,o= .nx jj/\P (n+i+1) jj S1)->W3 (ip t body vs δ S) fun o S1=>∃jj,o= .nx jj/\P (n+vs.length) jj S1
 | [],n,P,δ,S,h0,_=>W3.ok ⟨δ,rfl,h0⟩
 | v ::vs,n,P,δ,S,h0,hs=>by
   obtain⟨δ1,e1,o,S1,e2,jj,rfl,p2⟩:=hs 0 v δ S rfl h0;have ih:=t6 vs (n+1) P p2 (fun i v' dC S' hi hp=>by
    have:=hs (i+1) v' dC S' (by simpa using hi) (by rw[show n+(i+1)=n+1+i by omega];exact hp)
    rw[show n+(i+1)+1=n+1+i+1 by omega] at this
    exact this)
   rw[show n+1+vs.length=n+(v ::vs).length by rw[List.length_cons];omega] at ih
   unfold ip;rw[e1];refine W3.bind ⟨_,_,e2,?_⟩;exact ih
theorem vy{t:FG}{body:FZ}{vs:List V3}(P:Nat->DE->aR->Prop){δ:DE}{S:aR}(h0:P 0 δ S)
 (hs:∀i v δ S,vs[i]? =some v->P i δ S->∃δ1,t v δ=some δ1/\W3 (body δ1 S) fun o S1=>∃jj,o= .nx jj/\P (i+1) jj S1):W3 (ip t body vs δ S) fun o S1=>∃jj,o= .nx jj/\P vs.length jj S1:=by
 have:=t6 (t:=t) (body:=body) vs 0 P h0 (fun i v δ S hi hp=>by simpa using hs i v δ S hi (by simpa using hp))
 simpa using this
theorem uB{t:FG}{c:FB}{f:FX}{δ:DE}:∀(vs:List V3) (n:Nat) (P:Nat->List V3->aR->Prop) {ys:List V3} {S:aR},P n ys S->
 (∀i v ys S,vs[i]? =some v->P (n+i) ys S->∃δ1,t v δ=some δ1/\W3 (c δ1 S) fun b S1=>if b then W3 (f δ1 S1) fun y S2=>P (n+i+1) (ys++[y]) S2 else P (n+i+1) ys S1)->W3 (om t c f δ vs S) fun zs S1=>P (n+vs.length) (ys++zs) S1
 | [],n,P,ys,S,h0,_=>W3.ok (by rw[List.append_nil];exact h0)
 | v ::vs,n,P,ys,S,h0,hs=>by
   obtain⟨δ1,e1,b,S1,e2,h2⟩:=hs 0 v ys S rfl h0;have ih:∀{Qk S'},P (n+1) Qk S'->W3 (om t c f δ vs S') fun zs S1=>P (n+(v ::vs).length) (Qk++zs) S1:=fun {Qk S'} p=>by
    have:=uB (t:=t) (c:=c) (f:=f) (δ:=δ) vs (n+1) P p (fun i v' Qk S' hi hp=>by
     have:=hs (i+1) v' Qk S' (by simpa using hi) (by rw[show n+(i+1)=n+1+i by omega];exact hp)
     rw[show n+(i+1)+1=n+1+i+1 by omega] at this
     exact this)
    rw[show n+1+vs.length=n+(v ::vs).length by rw[List.length_cons];omega] at this
    exact this
   unfold om;rw[e1];refine W3.bind ⟨b,S1,e2,?_⟩;cases b with
   | true=>
     rw[if_pos rfl] at h2 ⊢;exact W3.bind (h2.mono fun y S2 p=>W3.bind ((ih p).mono fun zs S3 q=>W3.ok (by rw[List.append_assoc] at q;exact q)))
   | false=>rw [if_neg (by decide)] at h2 ⊢;exact ih h2
theorem Cd{t:FG}{c:FB}{f:FX}{δ:DE}{vs:List V3}(P:Nat->List V3->aR->Prop){S:aR}(h0:P 0 [] S)
 (hs:∀i v ys S,vs[i]? =some v->P i ys S->∃δ1,t v δ=some δ1/\W3 (c δ1 S) fun b S1=>if b then W3 (f δ1 S1) fun y S2=>P (i+1) (ys++[y]) S2 else P (i+1) ys S1):W3 (om t c f δ vs S) fun zs S1=>P vs.length zs S1:=by
 have:=uB (t:=t) (c:=c) (f:=f) (δ:=δ) vs 0 P h0 (fun i v ys S hi hp=>by simpa using hs i v ys S hi (by simpa using hp))
 simpa using this
theorem Oe{QB:Bool->aR->Prop}(h:QB true S):W3 (K7 δ S) QB:=W3.ok h
theorem V0{N:List Str}{F:FZ}{vs:List V3}{δ:DE}(e:dq N vs=δ)(h:W3 (F δ S) fun o S1=>∃v,o= .rt v/\QV v S1):W3 (uO N F vs S) QV:=by
 subst e;exact W3.bind (h.mono fun _ _ ⟨_,e,q⟩=>by subst e;exact W3.ok q)
def Wq(S:aR):Prop:=∀o∈S,∃ds,o=SO.lst ds
end
section
variable {S:aR} {δ:DE} {QV:V3->aR->Prop}
theorem HA{it:FA}{t:FG}{c:FB}{f:FX}{own:List Str}{kp:List Nat}(P:Nat->List D->aR->Prop)(h:W3 (it δ S) fun vs S1=>vs.length<=sizeLine/\P 0 [] S1/\
 (∀i v ds S2,vs[i]? =some v->P i ds S2->∃δ1,t v (pe own kp δ)=some δ1/\W3 (c δ1 S2) fun b S3=>if b then W3 (f δ1 S3) fun y S4=>∃d,y= .d d/\P (i+1) (ds++[d]) S4 else P (i+1) ds S3)/\
 ∀ds S2,P vs.length ds S2->QV (.d (.lst ds)) S2):W3 (yc it t c f own kp δ S) QV:=by
 refine ML (h.mono fun vs S1 ⟨hl,h0,hs,hq⟩=>⟨hl,?_⟩)
 refine(Cd (fun i ys S=>∃ds,ys=ds.map V3.d/\P i ds S) ⟨[],rfl,h0⟩ ?_).mono fun zs S2 ⟨ds,e,p⟩=>?_
 .rintro i v ys S2 hv ⟨ds,rfl,p⟩;obtain⟨δ1,e1,h1⟩:=hs i v ds S2 hv p;refine⟨δ1,e1,h1.mono fun b S3 h3=>?_⟩
  cases b with
  | true=>
    rw[if_pos rfl] at h3 ⊢;exact h3.mono fun y S4 ⟨d,e,p⟩=>by subst e;exact⟨ds++[d],by simp,p⟩
  | false=>rw [if_neg (by decide)] at h3 ⊢;exact⟨ds,rfl,h3⟩
 .subst e;unfold tF;rw[uA];exact hq ds S2 p
structure lD (n:Nat) (d:D):Prop where
 pl:cQ d=true
 ly:(toPy d).canLay0=true
 dp:(toPy d).depth<=n
theorem lD.int(i:Int):lD 0 (.int i):=⟨by unfold cQ;rfl,by unfold toPy PyData.canLay0;rfl,by unfold toPy PyData.depth;omega⟩
theorem lD.bl(b:Bool):lD 0 (.bl b):=⟨by unfold cQ;rfl,by unfold toPy PyData.canLay0;rfl,by unfold toPy PyData.depth;omega⟩
theorem lD.str(h:(PyData.str s).canLay0=true):lD 0 (.str s):=⟨by unfold cQ;rfl,by unfold toPy;exact h,by unfold toPy PyData.depth;omega⟩
theorem lD.mono{n m:Nat}{d:D}(h:lD n d)(hm:n<=m):lD m d:=⟨h.pl,h.ly,Nat.le_trans h.dp hm⟩
theorem lD.all{n:Nat}:∀{ds:List D},(∀d∈ds,lD n d)->gA ds=true/\PyData.canLayAll0 (km ds)=true/\PyData.depthAll (km ds)<=n
 | [],_=>⟨by unfold gA;rfl,by unfold km PyData.canLayAll0;rfl,by unfold km PyData.depthAll;omega⟩
 | d ::ds,h=>by
   obtain⟨h1,h2,h3⟩:=lD.all (ds:=ds) fun x hx=>h x (List.mem_cons_of_mem _ hx)
   have f:=h d List.mem_cons_self;refine⟨by unfold gA;rw [f.pl,h1];rfl,by unfold km PyData.canLayAll0;rw [f.ly,h2];rfl,?_⟩
   unfold km PyData.depthAll;have:=f.dp;omega
theorem lD.lst{n:Nat}{ds:List D}(h:∀d∈ds,lD n d):lD (n+1) (.lst ds):=by
 obtain⟨h1,h2,h3⟩:=lD.all h;exact⟨by unfold cQ;exact h1,by unfold toPy PyData.canLay0;exact h2,by unfold toPy PyData.depth;omega⟩
theorem lD.sh{n:Nat}{d:D}(h:lD n d)(hn:n<=64):SeqAt.shaped (toPy d)=true:=by
 unfold SeqAt.shaped;rw[h.ly,decide_eq_true (Nat.le_trans h.dp hn)];rfl
theorem Md{d e:List D}:G8 (.lst d) (.lst e)=R.aW (cQ (.lst d) && cQ (.lst e) && SeqAt.shaped (toPy (.lst d)) && SeqAt.shaped (toPy (.lst e))) (.ok (PyData.eqv (toPy (.lst d)) (toPy (.lst e)))):=rfl
theorem lD.X7{n:Nat}{ds:List D}(h:lD n (.lst ds))(hn:n<=64):G8 (.lst ds) (.lst ds)= .ok true:=by
 rw[Md,h.pl,h.sh hn,SeqAt.eqv_refl _ h.ly];rfl
end
end L3
end
section
namespace L2
open PySem PySem.Spec PyProof.Rows
section
variable {X:Cx}
def Kw:D->Bool | .cN=>true | _=>false
def dIs(d e:D):R D:=match e with | .cN=> .ok (.bl (Kw d)) | _=> .no
def X_(d e:D):R D:=match e with | .cN=> .ok (.bl (!Kw d)) | _=> .no
theorem Ca:kx X (.type "int") (fun xs H Q=>∃x n,xs=[.str x]/\PySem.intText? x=some n/\x.length<=640/\Q (.int n) H):=by
 intro pins s σ H xs us Q I r h;obtain⟨x,n,rfl,h1,h2,q⟩:=h;obtain⟨u,rfl,ru⟩:=vals1 r;obtain⟨t,rfl⟩:=ru;exact PySem.W.KIN.call_text h1 h2 ⟨.int n,H,I.tok _,⟨_,rfl⟩,q⟩
def D9:List D->R D
 | [.str x]=>R.aW (decide (x.length<=640)) (match PySem.intText? x with | some n=> .ok (.int n) | none=> .no)
 | _=> .no
theorem My:dz X (.type "int") D9:=dz.of Ca fun B H ds d xs Q _ rs hg q=>by
 unfold D9 at hg;split at hg
 .obtain⟨h1,h2⟩:=R.aQ hg;split at h2
  .rename_i e;cases h2;obtain⟨x,rfl,r⟩:=rs.one;exact⟨_,_,by rw[Rep.str.mp r],e,of_decide_eq_true h1,q _ H (aS.refl H) (Rep.int.mpr rfl)⟩
  .cases h2
 .cases hg
def vP(ds:List D):R D:=match ds with | [.str _]=>D9 ds | _=>cInt ds
theorem Aw:dz X (.type "int") vP:=dz.or My P1 fun a d h=>by
 unfold vP at h;split at h
 .exact .inl h
 .exact .inr h
def K6(f:FD):FD:=fun δ=>(f δ).bind fun d=>match d with | .int i=> .ok (.int (-i)) | _=> .no
theorem Bi(h:QD X a f):QD X (.UnaryOp .USub a pos) (K6 f):=⟨(OP K8 h.1).imp fun σ H Q ⟨Z,B,δ,d,E,hf,q⟩=>by
 obtain⟨d1,h1,h2⟩:=R.ak hf;split at h2
 .cases h2;exact⟨Z,B,δ,_,E,h1,fun v H1 s1 r1=>⟨_,Rep.int.mp r1,q _ H1 s1 (Rep.int.mpr rfl)⟩⟩
 .cases h2⟩
def Wf(d:D)(ds:List D):R D:=match d,ds with
 | .str x,[.str y]=> .ok (.int (Txt.find x y))
 | _,_=> .no
def Xw(aC:List (Str × Str)):D:= .dct (aC.map fun p=>Sum.inr p.1) (aC.map fun p=> .str p.2)
def kvV(aC:List (Str × Str)):List (Key × V):=aC.map fun p=>((Sum.inr p.1:Key),V.str p.2)
def Ge(d k:D):R D:=match d,k with
 | .dct ks ds, .str x=>(match (ks.zip ds).find? fun p=>decide (p.1=Sum.inr x) with | some p=> .ok p.2 | none=> .no)
 | _,_=> .no
theorem rZ{K:W.Frag}{B:List Addr}{k:Key}{v:Key × D}:∀{aC:List (Key × V)} {ds:List D},aG K B H ds (aC.map (·.2))->(((aC.map (·.1)).zip ds).find? fun p=>decide (p.1=k))=some v->∃x,jy aC k=some x/\Rep K B H v.2 x
 | [],ds,r,h=>by simp at h
 | (k1,v1) ::aC,[],r,h=>by simp at h
 | (k1,v1) ::aC,d ::ds,r,h=>by
   obtain⟨x,xs,e,r1,r2⟩:=r.cq;cases e;rw[List.map_cons,List.zip_cons_cons,List.find?_cons] at h;unfold jy;rw[List.find?_cons];by_cases hk:k1=k
   .have e1:decide (k1=k)=true:=decide_eq_true hk;simp only[e1] at h ⊢;cases h;exact⟨_,rfl,r1⟩
   .have e1:decide (k1=k)=false:=decide_eq_false hk;simp only[e1] at h ⊢;exact rZ r2 h
theorem ED(hu:X.A.units+1 < cLine)(ho:QD X o f)(hi:QD X i g)(hs:D_ i):QD X (.Subscript o i pos) (e2 Ge f g):=by
 refine⟨(A4 hu ho.1 hi.1 hs).imp fun σ H Q ⟨Z,B,δ,d,E,hf,q⟩=>?_⟩
 obtain⟨d1,h1,h2⟩:=R.ak hf;obtain⟨d2,h3,h4⟩:=R.ak h2;refine⟨Z,B,δ,d1,E,h1,fun v1 H1 s1 r1=>⟨Z,B,δ,d2,E.same s1,h3,fun v2 H2 s2 r2=>?_⟩⟩
 unfold Ge at h4;split at h4
 .split at h4
  .rename_i ks ds x _ p e;cases h4;have zl:=r1.same s2;unfold Rep at zl;obtain⟨a,aC,rfl,⟨_,hH⟩,rfl,rs⟩:=zl;obtain⟨y,ey,ry⟩:=rZ rs e;refine⟨a,y,rfl,?_,q _ H2 (s1.trans s2) ry⟩;rw[Rep.str.mp r2,<-ey];exact nQ.k (k:=Sum.inr x) hH
  .cases h4
 .cases h4
end
end L2
namespace L3
open PySem PySem.Spec PyProof.Rows L2
section
variable {X:Cx} {cl:Aag}
def WK(f:FX):FB:=fun δ S=>(f δ S).bind fun v S=>match v with | .d (.bl b)=> .ok b S | _=> .no
def Xx(f g:FX):FX:=fun δ S=>(WK f δ S).bind fun b S=>if b then g δ S else .ok (.d (.bl false)) S
def xOr(f g:FX):FX:=fun δ S=>(WK f δ S).bind fun b S=>if b then .ok (.d (.bl true)) S else g δ S
def EK(i:Nat)(F:FZ):FZ:=fun δ S=>match kB δ i with
 | some k=>(match cx S k with | some ds=>F (δ.set i (some (.d (.lst ds)))) (S.set k .ik) | none=> .no)
 | none=> .no
theorem IF(i:Nat)(h:B6 X cl KI F):B6 X cl KI (EK i F):=⟨h.1.imp fun D σ H ⟨ρ,S,δ,o,S',E,hf,q⟩=>by
 unfold EK at hf;split at hf
 .rename_i k hk;split at hf
  .rename_i ds hds;obtain⟨v,v1,v2⟩:=E.val i _ (pR hk);unfold aX at v2;obtain⟨a,a1,rfl⟩:=v2;obtain⟨w,p,r⟩:=E.sw.ik a1 (c9 hds);have E1:eg X.K cl ⟨ρ.r,ρ.z,a ::ρ.f⟩ H (S.set k .ik) σ (δ.set i (some (.d (.lst ds)))):=⟨by rw[List.length_set];exact E.len,w,fun j d e=>by
    by_cases h:i=j
    .subst h;rw[List.getElem?_set_self (by obtain⟨h1,_⟩:=List.getElem?_eq_some_iff.mp (pR hk);exact h1)] at e
     cases e;exact⟨_,v1,by unfold aX;exact r⟩
    .rw [List.getElem?_set_ne h] at e;obtain⟨u,u1,u2⟩:=E.val j d e;exact⟨u,u1,u2.pre p⟩⟩
   exact⟨_,_,_,o,S',E1,hf,q.pre p⟩
  .cases hf
 .cases hf⟩
theorem Ph{i k:Nat}{ds:List D}{F:FZ}{δ:DE}{S:aR}{QO:Ou->aR->Prop}(hk:δ[i]? =some (some (.loc k)))(hS:S[k]? =some (.lst ds))(h:W3 (F (δ.set i (some (.d (.lst ds)))) (S.set k .ik)) QO):W3 (EK i F δ S) QO:=by
 unfold EK;have e1:kB δ i=some k:=by unfold kB;rw [hk]
 have e2:cx S k=some ds:=by unfold cx;simp only[hS]
 simp only[e1,e2];exact h
end
def Flat(S:aR):Prop:=∀o∈S,∀n,yJ n o=true
theorem Flat.nil:Flat []:=fun o ho=>by cases ho
end L3
end
section
namespace PySem
open Sem (wp)
open AutoSeq1 (wpAny_loadPart')
section
variable {prog:Program} {w:World} {A:Around} {E:Aab} {s:Shared}
end
end PySem
namespace L2
open PySem PySem.Spec PyProof.Rows
section
variable {X:Cx}
def Q2(f:FD):FD:=fun δ=>(f δ).bind fun d=>match d with
 | .int j=>R.aW (decide (-(2 ^ 62)<=j/\j < 16777216)) (.ok (.tup (su 0 j.toNat)))
 | _=> .no
end
end L2
end
section
namespace PySem
open Sem (wp)
open AutoSeq1 (wpAny_loadPart')
section
variable {prog:Program} {w:World} {A:Around} {E:Aab} {s:Shared}
end
end PySem
namespace L2
open PySem PySem.Spec PyProof.Rows
def YD(K:W.Frag)(a:Addr):It:=
 ⟨fun i H=>∃xs x,rC K H a xs/\xs[i]? =some x,fun i H v H'=>∃p x,H p=none/\v= .ref p/\(∀xs,rC K H a xs->xs[i]? =some x)/\H'=upd H p (.tup [.int i,x]),fun i H=>∃xs,rC K H a xs/\xs.length<=i⟩
section
variable {X:Cx}
def QL(f:FD):aw->R (List D):=fun δ=>(f δ).bind fun d=>match d with | .tup ds=> .ok (yW ds) | _=> .no
end
end L2
end
section
namespace L2
open PySem PySem.Spec PyProof.Rows
section
variable {X:Cx}
abbrev Wz:D->D->R D:=Hg (fun _ j=>decide (0 < j/\j.natAbs.log2 < 9000)) fun i j=>i / j
theorem y0{K:W.Frag}{B:List Addr}{ds:List D}{xs:List V}(r:aG K B H ds xs):∀n:Nat,aG K B H (List.replicate n ds).flatten (List.replicate n xs).flatten
 | 0=>aG.nil
 | n+1=>by rw[List.replicate_succ,List.replicate_succ,List.flatten_cons,List.flatten_cons];exact r.append (y0 r n)
def Xj(f:aw->R (List D))(g:FD):aw->R (List D):=fun δ=>(f δ).bind fun ds=>(g δ).bind fun d=>match d with
 | .int k=>R.aW (decide (0<=k/\k < 1000000/\ds.length*k.toNat<=sizeLine)) (.ok (List.replicate k.toNat ds).flatten)
 | _=> .no
def Ek(ns:List Int):List Int:=ns.mergeSort fun a b=>decide (a<=b)
def Q3:List D->R D
 | [.lst ds]=>(match ints? ds with | some ns=>R.aW (decide (ns.length < 64)) (.ok (.lst ((Ek ns).map .int))) | none=> .no)
 | _=> .no
def VB:List D->R D
 | [.lst ds]=>(match ints? ds with | some (n ::ns)=> .ok (.int (ns.foldl min n)) | _=> .no)
 | ds=>Ri ds
def WB:List D->R D
 | [.lst ds]=>(match ints? ds with | some (n ::ns)=> .ok (.int (ns.foldl max n)) | _=> .no)
 | ds=>Rh ds
end
end L2
namespace L3
open PySem PySem.Spec PyProof.Rows L2
def Pb(S:aR):V3->Option (List D)
 | .d (.lst ds)=>some ds
 | .loc k=>cx S k
 | _=>none
section
variable {X:Cx} {cl:Aag}
def Xm(fa fb:FX):FX:=fun δ S=>(fa δ S).bind fun a S1=>(fb δ S1).bind fun b S2=>match Pb S2 a,Pb S2 b with
 | some ds,some es=>R3.aW (decide (ds.length+es.length<=sizeLine)) (.ok (.loc S2.length) (S2++[.lst (ds++es)]))
 | _,_=> .no
def Y9(i:Nat):FZ:=fun δ S=>match kB δ i with
 | none=> .no
 | some k=>(match cx S k with | some _=> .ok (.nx δ) (S.set k (.lst [])) | none=> .no)
end
end L3
end
section
namespace L3
open PySem PySem.Spec PyProof.Rows L2
def l_(S:aR)(c k:Nat):Option (List (Str × V3)):=match S[k]? with | some (.ins c' fs)=>(if c'=c then some fs else none) | _=>none
theorem mP{S:aR}{c k:Nat}{fs:List (Str × V3)}(h:l_ S c k=some fs):S[k]? =some (.ins c fs):=by
 unfold l_ at h;split at h
 .rename_i c' N1 e;split at h
  .rename_i hc;cases h;rw [e,hc]
  .cases h
 .cases h
theorem Bz{K:W.Frag}{v:V3}:∀{fs:List (Str × V3)} {ys:List (Str × V)},ys.map (·.1)=fs.map (·.1)->aI K ρ H (fs.map (·.2)) (ys.map (·.2))->fs.lookup f=some v->∃x,ys.lookup f=some x/\aX K ρ H v x
 | [],ys,_,_,h=>by simp at h
 | (g,w) ::fs,[],e,_,_=>by simp at e
 | (g,w) ::fs,(g',y) ::ys,e,r,h=>by
   obtain⟨e1,sf⟩:=List.cons.inj e;have e1:g'=g:=e1;subst e1;obtain⟨x,xs,ex,r1,r2⟩:=r.cq;cases ex;rw[List.lookup_cons] at h ⊢;cases hq:f==g' with
   | true=>rw [hq] at h;cases h;exact⟨y,rfl,r1⟩
   | false=>rw [hq] at h;exact Bz sf r2 h
theorem yg:∀{fs:List (Str × V3)} {ys:List (Str × V)},ys.map (·.1)=fs.map (·.1)->fs.lookup f=none->ys.lookup f=none
 | [],[],_,_=>rfl
 | [],_ ::_,e,_=>by simp at e
 | _ ::_,[],e,_=>by simp at e
 | (g,w) ::fs,(g',y) ::ys,e,h=>by
   obtain⟨e1,sf⟩:=List.cons.inj e;have e1:g'=g:=e1;subst e1;rw[List.lookup_cons] at h ⊢;cases hq:f==g' with
   | true=>rw [hq] at h;cases h
   | false=>rw [hq] at h;exact yg sf h
def wY(f:Str)(v:V3):List (Str × V3)->List (Str × V3)
 | []=>[(f,v)]
 | (g,x) ::r=>if g=f then(g,v) ::r else(g,x) ::wY f v r
theorem BL{K:W.Frag}{f:Str}{v:V3}{u:V}(rv:aX K ρ H v u):∀{fs:List (Str × V3)} {ys:List (Str × V)},ys.map (·.1)=fs.map (·.1)->aI K ρ H (fs.map (·.2)) (ys.map (·.2))->
 (lL f u ys).map (·.1)=(wY f v fs).map (·.1)/\aI K ρ H ((wY f v fs).map (·.2)) ((lL f u ys).map (·.2))
 | [],[],_,_=>⟨rfl,aI.cons rv aI.nil⟩
 | [],_ ::_,e,_=>by simp at e
 | _ ::_,[],e,_=>by simp at e
 | (g,w) ::fs,(g',y) ::ys,e,r=>by
   obtain⟨e1,sf⟩:=List.cons.inj e;have e1:g'=g:=e1;subst e1;obtain⟨x,xs,ex,r1,r2⟩:=r.cq;cases ex;unfold wY lL;by_cases hg:g'=f
   .rw [if_pos hg,if_pos hg];exact⟨by rw[List.map_cons,List.map_cons,sf],aI.cons rv r2⟩
   .rw [if_neg hg,if_neg hg];obtain⟨h1,h2⟩:=BL rv sf r2;exact⟨by rw[List.map_cons,List.map_cons,h1],aI.cons r1 h2⟩
section
variable {X:Cx} {cl:Aag}
def eV(c:Nat)(f:Str)(g:FX):FX:=fun δ S=>(g δ S).bind fun v S1=>match v with
 | .loc k=>(match l_ S1 c k with | some fs=>(match fs.lookup f with | some v=> .ok v S1 | none=> .no) | none=> .no)
 | _=> .no
theorem cz{c:Nat}{pos:Pos}(hC:x8 X.K (cl c))(hn:dc X.K (cl c) f)(he:PX X cl e g)(hb:attributeBase e f X.env (eval e X.env)=eval e X.env:=by rfl):PX X cl (.Attribute e f pos) (eV c f g):=⟨(M6 he.1 hb).imp fun σ H Q ⟨ρ,S,δ,v,S',E,hf,q⟩=>by
 obtain⟨o,S1,h1,h2⟩:=R3.ak hf;split at h2
 .rename_i k;split at h2
  .rename_i fs e1;split at h2
   .rename_i w sf;cases h2;refine⟨ρ,S,δ, .loc k,_,E,h1,fun u bU H1 p1 w1 r1=>?_⟩
    unfold aX at r1;obtain⟨a,a1,rfl⟩:=r1;obtain⟨dx,ys,ey,ek,rs⟩:=w1.ob k a _ a1 (mP e1);obtain⟨x,hx,rx⟩:=Bz ek rs sf;exact⟨a,cl c,dx,ys,x,rfl,ey,hC,hn,hx,q x bU H1 p1 w1 rx⟩
   .cases h2
  .cases h2
 .cases h2⟩
theorem w_fld{c k:Nat}{g:FX}{δ:DE}{S:aR}{Q:V3->aR->Prop}(h:W3 (g δ S) fun v S1=>∃fs w,v= .loc k/\S1[k]? =some (.ins c fs)/\fs.lookup f=some w/\Q w S1):W3 (eV c f g δ S) Q:=
 W3.bind (h.mono fun v S1 ⟨fs,w,e1,sf,e3,q⟩=>by
  subst e1;have e4:l_ S1 c k=some fs:=by unfold l_;simp only[sf,if_true]
  simp only[e4,e3];exact W3.ok q)
def VQ(P:Program)(w:World)(K:W.Frag)(mg:Aaf)(base:Heap)(cl:Aag)(k c:Nat)(m:Str)(n:Nat)(g:List V3->aR->R3 V3):Prop:=
 ∃(f:Addr) (fd:FuncData) (ps:List Str),x8 K (cl c)/\Meth K (cl c) m f/\jk P w K mg base vT k f fd ps (Jf K cl (n+1) g)/\Binds K fd ps []
def qE(c:Nat)(m:Str)(g:List V3->aR->R3 V3)(fo:FX)(fs:FA):FX:=fun δ S=>(fo δ S).bind fun o S1=>match o with
 | .loc k=>(match l_ S1 c k with | some ys=>(match ys.lookup m with | none=>(fs δ S1).bind fun vs S2=>g (.loc k ::vs) S2 | some _=> .no) | none=> .no)
 | _=> .no
def Er(P:Program)(w:World)(K:W.Frag)(mg:Aaf)(base:Heap)(cl:Aag)(k c:Nat)(x:Str)(n:Nat)(g:List V3->aR->R3 V3):Prop:=
 ∃(f:Addr) (fd:FuncData) (ps:List Str),Mk K (cl c) f/\jk P w K mg base vT k f fd ps (Jf K cl (n+1) g)/\mg x=some (.ref (cl c))/\Binds K fd ps []
def EA(c:Nat)(g:List V3->aR->R3 V3)(fs:FA):FX:=fun δ S=>(fs δ S).bind fun vs S1=>(g (.loc S1.length ::vs) (S1++[.ins c []])).bind fun v S2=>match v with
 | .d .cN=> .ok (.loc S1.length) S2
 | _=> .no
def wZ(c:Nat)(f:Str)(fo fe:FX):FZ:=fun δ S=>(fe δ S).bind fun v S1=>(fo δ S1).bind fun o S2=>match o with
 | .loc k=>(match l_ S2 c k with | some fs=>R3.aW (decide (fs.length < 1000)) (.ok (.nx δ) (S2.set k (.ins c (wY f v fs)))) | none=> .no)
 | _=> .no
theorem rm{c:Nat}{pos pos':Pos}(hC:x8 X.K (cl c))(hn:dc X.K (cl c) f)(ho:PX X cl o fo)(he:PX X cl value fe)(hs:swapsWith value (some (.Attribute o f pos')) pos.line X.env=pure false:=by rfl) :
 PZ X cl (.Assign [.Attribute o f pos'] value pos) (wZ c f fo fe):=⟨(MO ho.1 he.1 hs).imp fun D σ H ⟨ρ,S,δ,ou,S',E,hf,q⟩=>by
 obtain⟨v,S1,h1,h2⟩:=R3.ak hf;obtain⟨vo,S2,h3,h4⟩:=R3.ak h2;split at h4
 .rename_i k;split at h4
  .rename_i fs e1;obtain⟨hl,h5⟩:=R3.aQ h4;cases h5;refine⟨ρ,S,δ,v,S1,E,h1,fun u bU H1 p1 w1 r1=>⟨bU,S1,δ, .loc k,S2,E.to p1 w1,h3,fun u2 qk H2 p2 w2 r2=>?_⟩⟩
   unfold aX at r2;obtain⟨a,a1,rfl⟩:=r2;obtain⟨dx,ys,ey,ek,rs⟩:=w2.ob k a _ a1 (mP e1);have hlen:ys.length=fs.length:=by have:=congrArg List.length ek;simpa using this
   obtain⟨k1,k2⟩:=BL (f:=f) (r1.pre p2) ek rs;obtain⟨w3,p3⟩:=w2.put (o:= .ins c (wY f v fs)) (u:= .ins (cl c) dx (lL f u ys)) a1 (w2.fz k a a1 (by rw[mP e1];intro h;cases h)) ⟨dx,_,rfl,k1,k2⟩
   exact⟨a,cl c,dx,ys,rfl,ey,hC,hn,by rw[hlen];exact of_decide_eq_true hl,q σ qk _ (p1.trans (p2.trans p3)) (E.to (p1.trans (p2.trans p3)) w3)⟩
  .cases h4
 .cases h4⟩
theorem me{c k:Nat}{fo fe:FX}{δ:DE}{S:aR}{QO:Ou->aR->Prop}(h:W3 (fe δ S) fun v S1=>W3 (fo δ S1) fun o S2=>∃fs,o= .loc k/\S2[k]? =some (.ins c fs)/\fs.length < 1000/\QO (.nx δ) (S2.set k (.ins c (wY f v fs)))):W3 (wZ c f fo fe δ S) QO:=
 W3.bind (h.mono fun v S1 h=>W3.bind (h.mono fun o S2 ⟨fs,e1,sf,hl,q⟩=>by
  subst e1;have e4:l_ S2 c k=some fs:=by unfold l_;simp only[sf,if_true]
  simp only[e4];exact W3.wh (decide_eq_true hl) (W3.ok q)))
theorem MW{c:Nat}{g:List V3->aR->R3 V3}{fs:FA}{δ:DE}{S:aR}{Q:V3->aR->Prop}(h:W3 (fs δ S) fun vs S1=>W3 (g (.loc S1.length ::vs) (S1++[.ins c []])) fun v S2=>v= .d .cN/\Q (.loc S1.length) S2):W3 (EA c g fs δ S) Q:=
 W3.bind (h.mono fun vs S1 h=>W3.bind (h.mono fun v S2 ⟨e,q⟩=>by subst e;exact W3.ok q))
end
end L3
end
section
namespace PySem
open Sem (wp)
def Ym(t:Bool)(h:Heap)(i l:Addr)(k:Nat):Prop:=cond t (h.IsTupleIter i l k) (h.IsListIter i l k)
def XB(t:Bool)(h:Heap)(l:Addr)(xs:Array Value):Prop:=cond t (h.IsTuple l xs) (h.IsList l xs)
def D1(t:Bool):String:=cond t "tuple_iterator" "list_iterator"
section
variable {prog:Program} {w:World} {A:Around} {E:Aab} {s:Shared}
end
abbrev VP(t:Bool)(h:Heap)(l1:Addr):Heap:=h.push {cls:= .type (D1 t),data:= .fields #[.ref l1, .int 0 0]}
abbrev Wj(t u:Bool)(h:Heap)(l1 l2:Addr):Heap:=(VP t h l1).push {cls:= .type (D1 u),data:= .fields #[.ref l2, .int 0 0]}
abbrev V6(t u:Bool)(h:Heap)(l1 l2:Addr):Heap:=(Wj t u h l1 l2).push {cls:= .type "tuple",data:= .seq #[.ref h.objs.size, .ref (VP t h l1).objs.size]}
abbrev Xv(t u:Bool)(h:Heap)(l1 l2:Addr):Heap:=(V6 t u h l1 l2).push {cls:= .type "tuple",data:= .seq #[.none, .none]}
abbrev zs5(t u:Bool)(h:Heap)(l1 l2:Addr):Heap:=(Xv t u h l1 l2).push {cls:= .type "zip",data:= .fields #[.none, .bool false, .bool false, .ref (Wj t u h l1 l2).objs.size, .ref (V6 t u h l1 l2).objs.size]}
end PySem
namespace L2
open PySem PySem.Spec PyProof.Rows
def NK(t:Bool)(K:W.Frag)(H:Hp)(a:Addr)(xs:List V):Prop:=cond t (rC K H a xs) (nL K H a xs)
def Itz(K:W.Frag)(t u:Bool)(a b:Addr):It:=
 ⟨fun i H=>∃xs ys x y,NK t K H a xs/\NK u K H b ys/\xs[i]? =some x/\ys[i]? =some y,
  fun i H v H'=>∃p x y,H p=none/\v= .ref p/\(∀xs,NK t K H a xs->xs[i]? =some x)/\(∀ys,NK u K H b ys->ys[i]? =some y)/\H'=upd H p (.tup [x,y]),
  fun i H=>∃xs ys,NK t K H a xs/\NK u K H b ys/\(xs.length<=i\/ys.length<=i)⟩
section
variable {X:Cx}
def OE(ds es:List D):List D:=(ds.zip es).map fun p=> .tup [p.1,p.2]
def seqD?:D->Option (List D)
 | .lst ds=>some ds
 | .tup ds=>some ds
 | _=>none
def V9(f g:FD):aw->R (List D):=fun δ=>(f δ).bind fun d=>(g δ).bind fun e=>match seqD? d,seqD? e with | some ds,some es=> .ok (OE ds es) | _,_=> .no
def VL(T U:String)(f:FD):FD:=fun δ=>(f δ).bind fun d=>match d with | .dct _ _=> .no | _=> .ok (.bl (M9 (tyName d) T || M9 (tyName d) U))
def Itd(lo:Int)(n:Nat):It:=⟨fun i _=>i < n,fun i H x H'=>H'=H/\x= .int (lo - i),fun i _=>n<=i⟩
def SU(lo:Int)(n:Nat):List D:=(List.range n).map fun(i:Nat)=>D.int (lo - i)
def Wv(f g h:FD):aw->R (List D):=fun δ=>(f δ).bind fun d=>(g δ).bind fun e=>(h δ).bind fun k=>match d,e,k with
 | .int i, .int j, .int m=>R.aW (decide (m= -1/\ -(2 ^ 60)<=i/\i < 2 ^ 60/\ -(2 ^ 60)<=j/\j < 2 ^ 60)) (.ok (SU i (i - j).toNat)) | _,_,_=> .no
def bls?:List D->Option (List Bool)
 | []=>some []
 | .bl b ::ds=>(bls? ds).map (b ::·)
 | _ ::_=>none
theorem yj{K:W.Frag}{B:List Addr}:∀{ds:List D} {xs:List V} {bs:List Bool},aG K B H ds xs->bls? ds=some bs->xs=bs.map V.bl
 | [],xs,bs,r,h=>by unfold aG at r;subst r;cases h;rfl
 | d ::ds,xs,bs,r,h=>by
   obtain⟨x,q,rfl,r1,r2⟩:=r.cq;cases d with
   | bl b=>
     have h:(bls? ds).map (b ::·)=some bs:=h
     cases e:bls? ds with
     | none=>rw [e] at h;cases h
     | some cs=>
       rw[e] at h;cases h;rw[Rep.bl.mp r1,yj r2 e];rfl
   | _=>cases h
theorem BG:∀bs:List Bool,bls? (bs.map D.bl)=some bs
 | []=>rfl
 | b ::bs=>by show(bls? (bs.map D.bl)).map (b ::·)=_;rw [BG bs];rfl
theorem sV:∀{bs:List Bool} {us:List Value},Vals (bs.map V.bl) us->us=bs.map Value.bool
 | [],us,h=>by cases h;rfl
 | b ::bs,us,h=>by
   cases h with
   | cons r t=>rw [sV t,show _=Value.bool b from r];rfl
theorem range_all(bs:List Bool):(List.range bs.length).all (fun i=>bs.getD i false)=bs.all id:=by
 rw[Bool.eq_iff_iff];simp only[List.all_eq_true,List.mem_range,id];constructor
 .intro h b hb;obtain⟨i,hi,rfl⟩:=List.getElem_of_mem hb;have:=h i hi;rw[List.getD_eq_getElem?_getD,List.getElem?_eq_getElem hi] at this;exact this
 .intro h i hi;rw[List.getD_eq_getElem?_getD,List.getElem?_eq_getElem hi];exact h _ (List.getElem_mem hi)
def EN:List D->R D
 | [.lst ds]=>(match bls? ds with | some bs=> .ok (.bl (bs.all id)) | none=> .no)
 | _=> .no
def Zh:List D->R D
 | [.lst ds]=>(match bls? ds with | some bs=> .ok (.bl (bs.any id)) | none=> .no)
 | _=> .no
theorem Oc{bs:List Bool}{i:Nat}{v:Value}(h:((bs.map Value.bool).toArray)[i]? =some v):v= .bool (bs.getD i false):=by
 rw[List.getElem?_toArray,List.getElem?_map] at h;rw[List.getD_eq_getElem?_getD];cases e:bs[i]? with
 | none=>rw [e] at h;cases h
 | some b=>rw [e] at h;cases h;rfl
theorem Kk(hc:X.calm=true):dz X (.builtin "all") EN:=by
 intro pins s σ H B ds d xs us I hb rx rs hg;unfold EN at hg;split at hg
 .split at hg
  .rename_i es bs e;cases hg;obtain⟨x,rfl,r⟩:=rs.one;obtain⟨a,ys,rfl,l,r⟩:=Rep.lst.mp r;obtain⟨u,rfl,ru⟩:=vals1 rx;cases ru;obtain⟨its,n,rv,e1,hz⟩:=I.QY l;rw[yj r e] at rv;obtain rfl:=sV rv;have hl:s.heap.IsList a (bs.map Value.bool).toArray:=⟨_,e1,rfl,n,rfl⟩;have hlt:a < s.heap.objs.size:=Heap.lt_size e1;refine call_all_walk (wpAny_pyIter_list hl ?_);refine⟨_,_,_,_,_,_,fun i=>bs.getD i false,rfl,Walks.list (A:=X.A.in1) (I.ok.hd hc) _ a (Nat.ne_of_lt hlt) _,⟨⟨_,Heap.get?_push_size _ rfl,rfl,rfl⟩,hl.push _⟩,?_,fun h' tk hk=>?_⟩
   .intro i v s Q E hP hQ;rw[Oc hP];exact wpAny_truthy_bool hQ
   .refine⟨.bl (bs.all id),H,I.kept (old_kept hk),?_,aS.refl H,Rep.bl.mpr rfl⟩;show Value.bool _=Value.bool _;rw[<-range_all];simp
  .cases hg
 .cases hg
end
end L2
end
section
namespace L2
open PySem PySem.Spec PyProof.Rows
section
variable {X:Cx}
def sNo:FS:=fun _=> .no
def VN(f:FD):FS:=fun δ=>(f δ).bind fun _=> .ok (.nx δ)
end
end L2
namespace L3
open PySem PySem.Spec PyProof.Rows L2
section
variable {X:Cx} {cl:Aag}
def zNo:FZ:=fun _ _=> .no
def VW(f:aw->R (List D)):FX:=fun δ S=>(R3.of (f (E9 S δ)) S).bind fun ds S=>R3.aW (yt ds) (.ok (.loc S.length) (S++[.lst ds]))
def XM(i:Nat)(f:FX):FZ:=fun δ S=>match kB δ i with
 | none=> .no
 | some k=>match cx S k with
   | none=> .no
   | some _=>(f δ S).bind fun v S1=>match v with
     | .d (.lst es)=>(match cx S1 k with
       | some ds=>R3.aW (decide (ds.length+es.length<=sizeLine)) (.ok (.nx δ) (S1.set k (.lst (ds++es))))
       | none=> .no)
     | _=> .no
end
end L3
end
section
namespace L2
open PySem PySem.Spec PyProof.Rows
section
variable {X:Cx}
def WJ(d e:D):R D:=match d,e with
 | .tup a, .tup b=>R.aW (decide (a.length+b.length<=sizeLine)) (.ok (.tup (a++b)))
 | d,e=>bD d e
def QU(f:FD):aw->R (List D):=fun δ=>(f δ).bind fun d=>match d with | .lst ds=> .ok (yW ds) | .tup ds=> .ok (yW ds) | _=> .no
def Itv(K:W.Frag)(a:Addr)(n:Nat):It:=
 ⟨fun i H=>∃xs x,nL K H a xs/\xs.length=n/\i < n/\xs[n - 1 - i]? =some x,fun i H v H'=>H'=H/\∀xs,nL K H a xs->xs[n - 1 - i]? =some v,fun i H=>(∃xs,nL K H a xs)/\i=n⟩
def Wx(f:FD):aw->R (List D):=fun δ=>(f δ).bind fun d=>match d with | .lst ds=> .ok ds.reverse | _=> .no
def sx(K:W.Frag)(C:Addr)(m qual:Str)(st:Stmt):Prop:=∃f fd,z0 K m qual st f fd/\Meth K C m f
def MC(K:W.Frag)(C:Addr)(m qual:Str)(st:Stmt):Prop:=∃f fd,z0 K m qual st f fd/\Mk K C f
end
end L2
namespace L3
open PySem PySem.Spec PyProof.Rows L2
section
variable {X:Cx} {cl:Aag}
end
end L3
end
section
namespace L2
open PySem PySem.Spec PyProof.Rows
section
variable {X:Cx}
def XN(f:FD):aw->R (List D):=fun δ=>(f δ).bind fun d=>match d with | .int j=>R.aW (decide (-(2 ^ 62)<=j/\j < 16777216)) (.ok (su 0 j.toNat)) | _=> .no
def XO(f:FD):FD:=fun δ=>(f δ).bind fun d=>match d with | .lst ds=> .ok (.lst ds.reverse) | _=> .no
end
end L2
end
section
namespace L2
open PySem PySem.Spec PyProof.Rows
section
variable {X:Cx}
def SH(K:W.Frag)(n:Nat)(t:Ga):TG:=fun v σ H Q=>∃a xs,v= .ref a/\nL K H a xs/\xs.length=n/\t xs σ H Q
theorem Mg{es:List Expr}{k:Nat}{t:Ga}{n:Nat}{pos:Pos}(hc:X.calm=true)(h:I0 X es t)
 (hn:(assignEach es X.env).length=n:=by rfl) (zk:(assignEach es X.env).findIdx? (·.1)=none:=by rfl):PG X (.Tuple es k pos) (SH X.K n t):=by
 intro pins s σ H v u Q I r hw;obtain⟨a,xs,e1,hq,hl,hw⟩:=hw;subst e1;cases r;obtain⟨its,rv,ht,hz⟩:=I.list hq;rw[assign_Tuple];refine wpAny_bind (wpAny_standAt ?_);unfold unpack;have hln:its.toArray.size=(assignEach es X.env).length:=by simp [hn,<-hl,rv.length]
 rw[zk];refine wpAny_bind (wpAny_holding ?_);rw[<-hln];refine PySem.W.kun_itemsOf (I.ok.hd hc) ht.isList fun h' hx=>?_
 have I1:Inv X pins σ H {s with heap:=h'}:=I.kept (t':=s.toks) fun b o e=>hx b o (Nat.ne_of_lt (Heap.lt_size e)) e
 exact h pins _ σ H xs _ Q I1 (by simpa using rv) hw
end
end L2
namespace L3
open PySem PySem.Spec PyProof.Rows L2
section
variable {X:Cx} {cl:Aag}
def gLs(n:Nat)(t:LP):FG:=fun d δ=>match d with
 | .d (.lst ds)=>if ds.length=n then t (ds.map .d) δ else none
 | .lst vs=>if vs.length=n then t vs δ else none
 | _=>none
def X9(f g:FX):FA:=fun δ S=>(bo f (bo g dF) δ S).bind fun vs S1=>match vs with
 | [.d d, .d e]=>(match seqD? d,seqD? e with | some ds,some es=> .ok ((OE ds es).map .d) S1 | _,_=> .no)
 | _=> .no
def MN(S:aR):Prop:=∀o∈S,yJ S.length o=true
theorem Flat.Tx{S:aR}(h:Flat S):MN S:=fun o ho=>h o ho _
theorem P5{N:List Str}{vs:List V3}{S:aR}{QV:V3->aR->Prop}(h:W3 (uO N F vs S) fun v S1=>(∀o∈S1.take S.length,yJ S.length o=true)/\nF S.length v=true/\∃d,res S1 v=some d/\QV (.d d) (S1.take S.length)):W3 (zm N F vs S) QV:=
 W3.bind (h.mono fun v S1 ⟨hl,hg,d,e,q⟩=>by
  rw[e];exact W3.wh (by rw[List.all_eq_true.mpr hl,hg];rfl) (W3.ok q))
theorem Ki{N:List Str}{vs:List V3}{S:aR}{QV:V3->aR->Prop}(hS:MN S)(h:W3 (uO N F vs S) fun v S1=>nF S.length v=true/\(∃T,S1=S++T)/\∃d,res S1 v=some d/\QV (.d d) S):W3 (zm N F vs S) QV:=
 P5 (h.mono fun v S1 ⟨hg,⟨T,e1⟩,d,e,q⟩=>by
  subst e1;rw[List.take_append_of_le_length (Nat.le_refl _),List.take_length];exact⟨hS,hg,d,e,q⟩)
end
end L3
end
section
namespace L2
open PySem PySem.Spec PyProof.Rows
section
variable {X:Cx}
def ois?:List D->Option (List (Option Int))
 | []=>some []
 | .int i ::ds=>(ois? ds).map (some i ::·)
 | .cN ::ds=>(ois? ds).map (none ::·)
 | _ ::_=>none
def oiV:Option Int->V | some i=> .int i | none=> .cN
def YQ(d e:D):R Bool:=match d,e with
 | .cN, .lst ds=>(match ois? ds with | some ss=> .ok (ss.any (·.isNone)) | none=> .no)
 | _,_=> .no
def Y3(d e:D):R D:=(YQ d e).bind fun b=> .ok (.bl b)
end
end L2
end
section
namespace L2
open PySem PySem.Spec PyProof.Rows
section
variable {X:Cx}
def SE(d:D)(ds:List D):R D:=match d,ds with
 | .lst es,[.int k]=>(match ints? es with | some ss=> .ok (.int (ss.count k:Nat)) | none=> .no)
 | _,_=> .no
theorem vK{x:V}:∀{xs:List V} {us:List Value},Vals xs us->xs.all lr=true->us.countP (xU x)=xs.countP fun y=>G7 y x
 | _,_, .nil,_=>rfl
 | y ::xs,u ::us, .cons r t,f=>by
   rw[List.all_cons,Bool.and_eq_true] at f;rw[List.countP_cons,List.countP_cons,Ab r f.1,vK t f.2]
end
end L2
end
section
namespace L2
open PySem PySem.Spec PyProof.Rows
section
variable {X:Cx}
abbrev YF:D->D->R D:=Hg (fun i j=>decide (0<=j/\j < 1000/\ -1000 < i/\i < 1000)) fun i j=>i*2 ^ j.toNat
def V7(d e:D):R D:=match d,e with | .bl a, .bl b=> .ok (.bl (a !=b)) | _,_=> .no
end
end L2
namespace L3
open PySem PySem.Spec PyProof.Rows L2
section
variable {X:Cx} {cl:Aag}
def nB(fo f:FX):FZ:=fun δ S=>(fo δ S).bind fun o S0=>match o with
 | .loc k=>(match cx S0 k with
   | none=> .no
   | some _=>(f δ S0).bind fun v S1=>match v with
     | .d d=>(match cx S1 k with | some ds=>R3.aW (decide (ds.length < sizeLine)) (.ok (.nx δ) (S1.set k (.lst (ds++[d])))) | none=> .no)
     | _=> .no)
 | _=> .no
theorem Jt{o e:Expr}{fo f:FX}{apos bj pos:Pos}(ho:PX X cl o fo)(he:PX X cl e f)
 (hs:starEach [e] X.env=(false,eval e X.env) ::starEach [] X.env:=by rfl) (eI:(apos.endLine==bj.line)=true:=by rfl)
 (kG:((backTo bj (starEach [e] X.env)).all (fun x=>!x.1) && (backToKw bj (keywordEach [] X.env)).all (fun x=>x.1.isSome)
   && decide (([e]:List Expr).length+([]:List Keyword).length+(if([]:List Keyword).isEmpty then 0 else 1) < 30))=true:=by rfl)
 (G0:swapsWith (.Call (.Attribute o "append" apos) [e] [] bj) none pos.line X.env=pure false:=by rfl)
 (eJ:attributeBase o "append" X.env (eval o X.env)=eval o X.env:=by rfl) :
 PZ X cl (.Expr (.Call (.Attribute o "append" apos) [e] [] bj) pos) (nB fo f):=by
 refine⟨(qM (y8 (X:=X) PySem.F.plainAttrs_list PySem.F.slot_list_append PySem.F.type_list_append l9 ho.1 (gL he.1 lJ hs) eJ kG eI hs) G0).imp fun D σ H ⟨ρ,S,δ,oo,S',E,hf,q⟩=>?_⟩
 unfold nB at hf;obtain⟨vo,S0,g1,g2⟩:=R3.ak hf;split at g2
 .rename_i k;split at g2
  .cases g2
  .rename_i DS h0;obtain⟨v,S1,h1,h2⟩:=R3.ak g2;split at h2
   .rename_i d;split at h2
    .rename_i ds h3;obtain⟨hl,h4⟩:=R3.aQ h2;cases h4;refine⟨ρ,S,δ, .loc k,S0,E,g1,fun u U5 H0 p0 w0 r0=>?_⟩
     unfold aX at r0;obtain⟨a,a1,rfl⟩:=r0;obtain⟨Qg,x0,_⟩:=w0.ob k a _ a1 (c9 h0);refine⟨.inl ⟨rfl,Qg,nL.of x0⟩,⟨U5,S0,δ, .d d,S1,E.to p0 w0,h1,fun y bU H1 p1 w1 r1=>?_⟩⟩
     have b1:=p1.ext k a a1;obtain⟨xs,x1,x2⟩:=w1.ob k a _ b1 (c9 h3);refine⟨a,xs,y,rfl,rfl,x1,by rw[<-x2.length];exact of_decide_eq_true hl,?_⟩
     unfold aX at r1;obtain⟨w2,p2⟩:=w1.put (o:= .lst (ds++[d])) (u:= .lst (xs++[y])) b1 (w1.fz k a b1 (by rw[c9 h3];intro h;cases h)) ⟨xs++[y],rfl,x2.append (aG.cons r1 aG.nil)⟩
     exact q σ bU _ (p0.trans (p1.trans p2)) (E.to (p0.trans (p1.trans p2)) w2)
    .cases h2
   .cases h2
 .cases g2
theorem ME{fo f:FX}{δ:DE}{S:aR}{k:Nat}{QO:Ou->aR->Prop}(h:W3 (fo δ S) fun o S0=>o= .loc k/\(∃ds,S0[k]? =some (.lst ds))/\W3 (f δ S0) fun v S1=>∃d ds,v= .d d/\S1[k]? =some (.lst ds)/\ds.length < sizeLine/\QO (.nx δ) (S1.set k (.lst (ds++[d])))):W3 (nB fo f δ S) QO:=by
 unfold nB;refine W3.bind (h.mono fun o S0 ⟨e,⟨DS,h0⟩,h⟩=>?_)
 subst e;have e0:cx S0 k=some DS:=by unfold cx;rw [h0]
 simp only[e0];refine W3.bind (h.mono fun v S1 ⟨d,ds,e1,sf,hl,q⟩=>?_)
 subst e1;have e3:cx S1 k=some ds:=by unfold cx;rw [sf]
 simp only[e3];exact W3.wh (decide_eq_true hl) (W3.ok q)
def Wm(f:FX):FA:=fun δ S=>(bo f dF δ S).bind fun vs S1=>match vs with
 | [.d (.lst ds)]=> .ok ((yW ds).map .d) S1
 | _=> .no
end
end L3
end
section
namespace L2
open PySem PySem.Spec PyProof.Rows
section
variable {X:Cx}
end
end L2
end
section
namespace L3
open PySem PySem.Spec PyProof.Rows L2
section
variable {cl:Aag}
def Th(it:FA)(t:FG)(c:FB)(f:FX)(own:List Str)(kp:List Nat):FX:=fun δ S=>(it δ S).bind fun vs S1=>R3.aW (decide (vs.length<=sizeLine)) ((om t c f (pe own kp δ) vs S1).bind fun ys S2=>match rF ys with | some ds=> .ok (.loc S2.length) (S2++[.lst ds]) | none=> .no)
end
section
variable {X:Cx} {cl:Aag}
end
end L3
end
section
namespace L3
open PySem PySem.Spec PyProof.Rows L2
section
variable {X:Cx} {cl:Aag}
def SI(g:List D->R D)(fs:FA):FX:=fun δ S=>(fs δ S).bind fun vs S1=>match yb S1 vs with
 | some ds=>(R3.of (g ds) S1).bind fun d S=>R3.aW (zP d) (.ok (.d d) S)
 | none=> .no
end
end L3
end
section
namespace L2
open PySem PySem.Spec PyProof.Rows
section
variable {X:Cx}
def YO(f:FD):FD:=fun δ=>(f δ).bind fun d=>match d with | .int i=> .ok (.int (-i - 1)) | _=> .no
def YY(d:D)(lo hi:Option Int):R D:=match d with
 | .tup ds=>R.aW (decide (¬(HT.sM ds.length 0 lo=0/\HT.sM ds.length ds.length hi=ds.length))) (.ok (.tup (cutD ds lo hi)))
 | _=> .no
def YR(f:FD)(fl fh:FO):FD:=fun δ=>(f δ).bind fun d=>(fl δ).bind fun lo=>(fh δ).bind fun hi=>YY d lo hi
end
end L2
namespace L3
open PySem PySem.Spec PyProof.Rows L2
section
variable {X:Cx} {cl:Aag}
structure PZc (X:Cx) (cl:Aag) (st:List Stmt) (F:FZ):Prop where
 go:wX X st (fun D σ H=>D.ct=D.nx/\sX X.K cl F D σ H)
end
end L3
end
section
namespace L2
open PySem PySem.Spec PyProof.Rows
end L2
namespace L3
open PySem PySem.Spec PyProof.Rows L2
section
variable {X:Cx} {cl:Aag}
def Yl(i:Nat)(f:FX):FX:=fun δ S=>match kB δ i with
 | none=> .no
 | some k=>match cx S k with
   | none=> .no
   | some _=>(f δ S).bind fun v S1=>match v with
     | .d (.int j)=>(match cx S1 k with
       | some ds=>(match DY ds.length j with
         | some p=>(match ds[p]? with | some d=>R3.aW (decide (-(2 ^ 63)<=j/\j < 2 ^ 63)) (.ok (.d d) (S1.set k (.lst (ds.eraseIdx p)))) | none=> .no)
         | none=> .no)
       | none=> .no)
     | _=> .no
end
end L3
end
section
namespace L3
open PySem PySem.Spec PyProof.Rows L2
section
variable {X:Cx} {cl:Aag}
def Ya(f:FX)(fl fh:ND):FX:=fun δ S=>(f δ S).bind fun v S1=>(fl δ S1).bind fun lo S2=>(fh δ S2).bind fun hi S3=>match v with
 | .lst vs=> .ok (.lst (L2.cutD vs lo hi)) S3
 | _=> .no
end
end L3
end
section
namespace L2
open PySem PySem.Spec PyProof.Rows
section
variable {X:Cx}
def SM:List V->Hp->VK->Prop:=fun xs H Q=>∃a aC ns,xs=[V.ref a]/\H a=some (.dK aC)/\aC.map (·.1)=ns.map Sum.inl/\ns.length < 64/\∀p,H p=none->Q (.ref p) (upd H p (.lst ((Ek ns).map V.int)))
end
end L2
end
section
namespace L3
open PySem PySem.Spec PyProof.Rows L2
section
variable {X:Cx} {cl:Aag}
def pX(aC:List (Key × D))(k:Key)(d:D):List (Key × D):=if(aC.any fun kv=>decide (kv.1=k))=true then aC.map (fun kv=>if kv.1=k then(kv.1,d) else kv) else aC++[(k,d)]
def qX(S:aR)(k:Nat):Option (List (Key × D)):=match S[k]? with | some (.dct aC)=>some aC | _=>none
theorem tj{S:aR}{k:Nat}{aC:List (Key × D)}(h:qX S k=some aC):S[k]? =some (.dct aC):=by
 unfold qX at h;split at h
 .rename_i e;cases h;exact e
 .cases h
theorem Bu{α β:Type}(k:Key):∀{a:List (Key × α)} {b:List (Key × β)},a.map (·.1)=b.map (·.1)->(a.any fun kv=>decide (kv.1=k))=b.any fun kv=>decide (kv.1=k)
 | [],[],_=>rfl
 | [],_ ::_,h=>by simp at h
 | _ ::_,[],h=>by simp at h
 | x ::a,y ::b,h=>by
   rw[List.map_cons,List.map_cons] at h;obtain⟨h1,h2⟩:=List.cons.inj h;rw[List.any_cons,List.any_cons,Bu k h2,h1]
theorem AS{K:W.Frag}{B:List Addr}{k:Key}{d:D}{v:V}(rv:Rep K B H d v):∀{aC:List (Key × D)} {ys:List (Key × V)},ys.map (·.1)=aC.map (·.1)->aG K B H (aC.map (·.2)) (ys.map (·.2))->
 (ys.map fun kv=>if kv.1=k then(kv.1,v) else kv).map (·.1)=(aC.map fun kv=>if kv.1=k then(kv.1,d) else kv).map (·.1)/\aG K B H ((aC.map fun kv=>if kv.1=k then(kv.1,d) else kv).map (·.2)) ((ys.map fun kv=>if kv.1=k then(kv.1,v) else kv).map (·.2))
 | [],[],_,_=>⟨rfl,aG.nil⟩
 | [],_ ::_,h,_=>by simp at h
 | _ ::_,[],h,_=>by simp at h
 | (k1,d1) ::aC,(k2,v2) ::ys,h,r=>by
   obtain⟨h1,h2⟩:=List.cons.inj h;have h1:k2=k1:=h1;subst h1;obtain⟨x,r',e,q1,q2⟩:=aG.cq r;cases e;obtain⟨i1,i2⟩:=AS rv h2 q2;simp only[List.map_cons];by_cases hk:k2=k
   .rw [if_pos hk,if_pos hk];exact⟨by rw[i1],aG.cons rv i2⟩
   .rw [if_neg hk,if_neg hk];exact⟨by rw[i1],aG.cons q1 i2⟩
theorem PV{K:W.Frag}{B:List Addr}{k:Key}{d:D}{v:V}(rv:Rep K B H d v){aC:List (Key × D)}{ys:List (Key × V)}(h:ys.map (·.1)=aC.map (·.1))(r:aG K B H (aC.map (·.2)) (ys.map (·.2))) :
 (putK ys k v).map (·.1)=(pX aC k d).map (·.1)/\aG K B H ((pX aC k d).map (·.2)) ((putK ys k v).map (·.2)):=by
 unfold putK pX;rw[Bu k h];split
 .exact AS rv h r
 .rw [List.map_append,List.map_append,List.map_append,List.map_append,h];exact⟨rfl,r.append (aG.cons rv aG.nil)⟩
def yI:FX:=fun δ S=> .ok (.loc S.length) (S++[.dct []])
theorem xl:PX X cl (.Dict [] [] pos) yI:=⟨D5.imp fun σ H Q ⟨ρ,S,δ,v,S',E,hf,q⟩=>by
 cases hf;intro p hp;obtain⟨w,pr⟩:=E.sw.new (a:=p) (o:= .dct []) (bG (o:= .dK []) hp) hp ⟨[],ba,rfl,aG.nil⟩;exact q _ _ _ pr w (by unfold aX;exact⟨p,by show(ρ.r++[p])[_]? =_;rw [<-E.sw.len,List.getElem?_append_right (by omega),Nat.sub_self];rfl,rfl⟩)⟩
def Ww(fo fi fe:FX):FZ:=fun δ S=>(fe δ S).bind fun v S1=>(fo δ S1).bind fun o S2=>(fi δ S2).bind fun j S3=>match v,o,j with
 | .d d, .loc k, .d (.int n)=>(match qX S3 k with | some aC=>R3.aW (decide (aC.length < sizeLine)) (.ok (.nx δ) (S3.set k (.dct (pX aC (Sum.inl n) d)))) | none=> .no)
 | _,_,_=> .no
def X5(fa fo:FX):FX:=fun δ S=>(fa δ S).bind fun j S1=>(fo δ S1).bind fun o S2=>match j,o with
 | .d (.int n), .loc k=>(match qX S2 k with | some aC=> .ok (.d (.bl (aC.any fun kv=>decide (kv.1=Sum.inl n)))) S2 | none=> .no)
 | _,_=> .no
def intK?:List Key->Option (List Int)
 | []=>some []
 | .inl n ::ks=>(intK? ks).map (n ::·)
 | .inr _ ::_=>none
def S9(f:FX):FX:=fun δ S=>(f δ S).bind fun o S1=>match o with
 | .loc k=>(match qX S1 k with
   | some aC=>(match intK? (aC.map (·.1)) with | some ns=>R3.aW (decide (ns.length < 64)) (.ok (.d (.lst ((Ek ns).map .int))) S1) | none=> .no)
   | none=> .no)
 | _=> .no
theorem Aa{δ:DE}{S:aR}{QV:V3->aR->Prop}(h:QV (.loc S.length) (S++[.dct []])):W3 (yI δ S) QV:=W3.ok h
end
end L3
end
section
namespace L2
open PySem PySem.Spec PyProof.Rows
section
variable {X:Cx}
def QF:V->List V->Hp->VK->Prop:=fun x vs H Q=>∃(l:Addr) (xs:List V) (j:Int) (i:Nat) (y:V),x= .ref l/\vs=[.int j,y]/\H l=some (.lst xs)/\j=i/\i<=xs.length/\xs.length < sizeLine/\Q .cN (upd H l (.lst (xs.take i++y ::xs.drop i)))
end
end L2
namespace L3
open PySem PySem.Spec PyProof.Rows L2
section
variable {X:Cx} {cl:Aag}
def Zn(i:Nat)(f g:FX):FZ:=fun δ S=>match kB δ i with
 | none=> .no
 | some k=>match cx S k with
   | none=> .no
   | some _=>(f δ S).bind fun v S1=>match v with
     | .d (.int j)=>(g δ S1).bind fun w S2=>(match w with
       | .d d=>(match cx S2 k with
         | some ds=>R3.aW (decide (0<=j/\j.toNat<=ds.length/\ds.length < sizeLine)) (.ok (.nx δ) (S2.set k (.lst (ds.take j.toNat++d ::ds.drop j.toNat))))
         | none=> .no)
       | _=> .no)
     | _=> .no
end
end L3
end
section
namespace L3
open PySem PySem.Spec PyProof.Rows L2
section
variable {X:Cx} {cl:Aag}
structure QPr (X:Cx) (pos:Pos) (keys:List (Option Expr)) (values:List Expr) (ks:List Str) (g:aw->R (List D)):Prop where
 h:∃uI,Kg X pos keys values uI/\∀(σ:L2.St) (H:Hp) (Q:List (V × V)->Hp->Prop),(∃Z B δ ds,dS X.K Z B H σ δ/\g δ= .ok ds/\∀vs H',aS H H'->aG X.K B H' ds vs->Q ((ks.zip vs).map fun p=>(V.str p.1,p.2)) H')->pL uI σ H Q
def Li(ks:List Str)(ns:List Int):List (Key × D):=(ks.zip ns).foldl (fun acc p=>pX acc (Sum.inr p.1) (.int p.2)) []
def RL(ks:List Str)(g:aw->R (List D)):FX:=fun δ S=>(R3.of (g (down δ)) S).bind fun ds S=>match ints? ds with
 | some ns=>R3.aW (decide (ns.length=ks.length/\ks.length<=15)) (.ok (.loc S.length) (S++[.dct (Li ks ns)]))
 | none=> .no
def Rt(aC:List (Key × D))(k:Key):Option D:=(aC.find? fun kv=>decide (kv.1=k)).map (·.2)
def VD(i:Nat)(f g:FD):FX:=fun δ S=>match kB δ i with
 | none=> .no
 | some k=>match qX S k with
   | none=> .no
   | some aC=>(R3.of (f (down δ)) S).bind fun kd S=>(R3.of (g (down δ)) S).bind fun d S=>match kd with
     | .str x=> .ok (.d ((Rt aC (Sum.inr x)).getD d)) S
     | _=> .no
end
end L3
end
section
namespace L2
open PySem PySem.Spec PyProof.Rows
section
variable {X:Cx}
def Vw:List D->R D
 | [.tup ds]=>(match ints? ds with | some ns=> .ok (.int ns.sum) | none=> .no)
 | ds=>SJ ds
end
end L2
end
section
namespace L2
open PySem PySem.Spec PyProof.Rows
section
variable {X:Cx}
def VC(d e:D):R D:=match d,e with
 | .tup a, .int k=>R.aW (decide (2<=k/\k < 1000/\a≠[]/\a.length*k.toNat<=sizeLine)) (.ok (.tup (List.replicate k.toNat a).flatten))
 | d,e=>mB d e
end
end L2
end
section
namespace L2
open PySem PySem.Spec PyProof.Rows
def xO(P:Program)(w:World):DH:=fun outer H s E e s'=>
 ∃(a:Addr) (B:Heap) (cls a0:Value) (H':Hp),e= .ref a/\s'.os=s.os/\AllBare s'.gens/\Un (pG outer) [] H H' s.heap s'.heap/\nK P w H' s'.heap/\Heap.FlyingW B outer a cls a0 s'.heap/\
  (∀b o,s'.heap.get? b=some o->b ∉ pG outer->((∃u,s.heap.get? b=some u)\/∃u,H' b=some u)->B.get? b=some o)/\E cls none H'
section
variable {X:Cx} {pins:Aaa} {σ:St} {H1 H':Hp} {s1 s':Shared} {B N3:Heap} {a:Addr} {cls a0:Value} {E:XK}
theorem xm{H:Hp}{h:Heap}{b:Addr}{o:HO}(k:nK P w H h)(e:H b=some o):∃u,h.get? b=some u:=by
 have hx:=k b o e
 induction o with
 | lst xs=>obtain⟨_,_,_,_,e⟩:=hx;exact⟨_,e⟩
 | tup xs=>obtain⟨_,_,_,o,e,_⟩:=hx;exact⟨_,e⟩
 | dK aC=>obtain⟨_,_,_,_,o,_,_,e,_⟩:=hx;exact⟨_,e⟩
 | dT aC=>obtain⟨_,_,_,_,o,_,_,e,_⟩:=hx;exact⟨_,e⟩
 | set S n=>obtain⟨o,_,_,_,e,_⟩:=hx;exact⟨_,e⟩
 | ins C dx fs=>obtain⟨_,_,_,e,_⟩:=hx;exact⟨_,e⟩
 | own y=>exact hx
 | xd fs=>obtain⟨_,⟨o,_,_,e,_⟩,_⟩:=hx;exact⟨_,e⟩
 | rng lo hi=>obtain⟨_,_,_,e⟩:=hx;exact⟨_,e⟩
 | ik o u _=>exact⟨_,hx.1⟩
 | tbl ps=>exact⟨_,hx⟩
 | met f x=>exact⟨_,hx⟩
 | ext φ=>exact hx.2.1
theorem Fu(I:Inv X pins σ H1 s1)(zk:X.stack=X.env ::X.outer)(hf:X.env.frame=some X.env.locals)(hex:X.ex=[])(os:s'.os=s1.os)(bare:AllBare s'.gens)(un:Un (pG X.stack) [] H1 H' s1.heap s'.heap)(hok:nK X.prog X.w H' s'.heap)
 (xR:∀b o,s'.heap.get? b=some o->b ∉ pG X.stack->((∃u,s1.heap.get? b=some u)\/∃u,H' b=some u)->B.get? b=some o) (fl:Heap.FlyingW B X.outer a cls a0 N3) (up:s'.heap.UpToSlots N3) (e:E cls none H') :
 xO X.prog X.w X.outer X.H₀ X.s₀ E (.ref a) {s' with heap:=N3}:=by
 have Hj:∀b,b∈pG X.stack↔b=X.env.locals\/b∈pG X.outer:=fun b=>by
  rw[zk];unfold pG;rw [List.filterMap_cons,hf];exact List.mem_cons
 have hfree:∀b,b∈pG X.stack->H' b=none:=fun b hb=>by
  obtain⟨_,o,ho,_⟩:=I.stack.mem hb;exact un.free b o ho (I.oO b hb) (by simp)
 have old:∀b o,X.s₀.heap.get? b=some o->b≠X.env.locals:=fun b o q=>Nat.ne_of_lt (Nat.lt_of_lt_of_le (Heap.lt_size q) I.ok.above)
 have thr:∀b o,X.s₀.heap.get? b=some o->∃u,s1.heap.get? b=some u:=fun b o q=>I.base.there b o q (by rw[hex];simp)
 have thr2:∀b o,s1.heap.get? b=some o->∃u,s'.heap.get? b=some u:=fun b o q=>un.there b o q (by simp)
 have stB:∀b o,B.get? b=some o->N3.get? b=some o:=fl.1;have He:∀b o,H' b=some o->∀u,s'.heap.get? b=some u->N3.get? b=some u:=fun b o q u hu=>stB b u (xR b u hu (fun hb=>by rw[hfree b hb] at q;cases q) (.inr ⟨o,q⟩))
 refine⟨a,B,cls,a0,H',rfl,os.trans I.os,bare,⟨fun b o q n hb _=>?_,fun b o q n hb _=>?_,fun b o q n _=>?_,fun b o q _=>?_,fun b xs q=>un.tups b xs (I.base.tups b xs q),fun b o u q=>un.frzs b o u (I.base.frzs b o u q),fun b ps q=>?_⟩,fun b o q=>?_,fl,fun b o q hb Q_=>?_,e⟩
 .have h1:=I.base.keep b o q n hb (by rw[hex];simp)
  have n1:=I.base.free b o q n (by rw[hex];simp)
  have sS:b ∉ pG X.stack:=fun z=>((Hj b).mp z).elim (old b o q) hb
  have h2:=un.keep b o h1 n1 sS (by simp)
  exact stB b o (xR b o h2 sS (.inl ⟨o,h1⟩))
 .obtain⟨sl,h1⟩:=I.base.slot b o q n hb (by rw[hex];simp)
  have n1:=I.base.free b o q n (by rw[hex];simp)
  obtain⟨Vm,h2⟩:=un.slot b _ h1 n1 ((Hj b).mpr (.inr hb)) (by simp)
  obtain⟨_,o',vn,hd⟩:=I.ok.qt.mem hb;rw[q] at vn;cases vn;obtain⟨Nl,h3⟩:=up b _ h2 hd;exact⟨Nl,h3⟩
 .obtain⟨u,h1⟩:=thr b o q;exact un.free b u h1 (I.base.free b o q n (by rw[hex];simp)) (by simp)
 .obtain⟨u,h1⟩:=thr b o q;obtain⟨u2,h2⟩:=thr2 b u h1;by_cases hb:b∈pG X.outer
  .obtain⟨_,o',vn,hd⟩:=I.stack.mem ((Hj b).mpr (.inr hb));obtain⟨sl,h3⟩:=un.slot b o' vn (I.oO b ((Hj b).mpr (.inr hb))) ((Hj b).mpr (.inr hb)) (by simp)
   obtain⟨Nl,h4⟩:=up b _ h3 hd;exact⟨_,h4⟩
  .exact⟨u2,stB b u2 (xR b u2 h2 (fun z=>((Hj b).mp z).elim (old b o q) hb) (.inl ⟨u,h1⟩))⟩
 .obtain⟨m1,e1⟩:=I.base.tbls b ps q;obtain⟨m2,e2⟩:=un.tbls b _ e1;exact⟨m1++m2,by rw[e2,Array.append_assoc]⟩
 .refine(hok b o q).yh (fun c u hc hu=>?_) (fun c z=>z) (fun c xs z=>z)
  rcases hc with rfl | hc
  .exact He c o q u hu
  .exact He c _ hc u hu
 .have sS:b≠X.env.locals:=fun z=>by
   subst z;rcases Q_ with⟨u,hu⟩ | ⟨u,hu⟩
   .exact old _ u hu rfl
   .rw [hfree _ ((Hj _).mpr (.inl rfl))] at hu;cases hu
  have hb2:b ∉ pG X.stack:=fun z=>((Hj b).mp z).elim sS hb
  have:(∃u,s1.heap.get? b=some u)\/∃u,H' b=some u:=Q_.imp (fun⟨u,hu⟩=>thr b u hu) id
  obtain⟨u,hu⟩:∃u,s'.heap.get? b=some u:=this.elim (fun⟨u,hu⟩=>thr2 b u hu) fun⟨u,hu⟩=>xm hok hu
  have h3:=xR b u hu hb2 this;have h4:=stB b u h3;rw[q] at h4;cases h4;exact h3
end
section
variable {P:Program} {w:World} {K:W.Frag} {mg:Aaf} {base:Heap} {N:List Str} {qual:Str} {scope:Scope} {f:Addr} {cd:Value} {A:Around} {outer:List Env} {s:Shared} {H:Hp} {E:XK}
theorem Px:Passes (xO P w) (md (xO P w) P w K mg base N qual scope f cd A outer s H E) E:=by
 intro pins σ H1 s1 e s' I hc;obtain⟨a,B,cls,a0,H',rfl,os,bare,un,hok,fl,xR,hE⟩:=hc;exact wpAny_leaves_onW (env:=envOfC qual scope s.heap.objs.size f cd) (outer:=outer) (L:=s.heap.objs.size) I.ok.frames rfl fl fun h' f1 up=>Fu I rfl rfl rfl os bare un hok xR f1 up hE
theorem KN{pins:Aaa}{s1:Shared}{a:Addr}{cls:Value}{vs:List Value}(I:Inv (md (xO P w) P w K mg base N qual scope f cd A outer s H E) pins σ H1 s1)(hx:Heap.MadeExcOf s1.heap h' a cls vs)(hE:E cls none H1) :
 (md (xO P w) P w K mg base N qual scope f cd A outer s H E).xe (.ref a) {s1 with heap:=h'}:=by
 have hin:∀env∈(envOfC qual scope s.heap.objs.size f cd ::outer),∀b,env.frame=some b->b∈pG (envOfC qual scope s.heap.objs.size f cd ::outer):=fun env he b hb=>List.mem_filterMap.mpr ⟨env,he,hb⟩
 have ff:s1.heap.FunFrames base (envOfC qual scope s.heap.objs.size f cd ::outer):=I.stack;refine wpAny_leaves_madeW (env:=envOfC qual scope s.heap.objs.size f cd) (outer:=outer) (L:=s.heap.objs.size) (base:=PySem.W.hideAll s1.heap (pG (envOfC qual scope s.heap.objs.size f cd ::outer))) (h:=s1.heap) (s:={s1 with heap:=h'}) I.ok.frames rfl (fun b o q=>PySem.W.of_hideAll _ q) (PySem.W.funFrames_hide ff hin) hx fun N3 t x1 x2 x3 x4=>?_
 exact Fu (s':={s1 with heap:=h'}) I rfl rfl rfl rfl I.bare (Un.kept hx.keeps) (I.hok.kept hx.keeps) (fun b o q hb Q_=>by
  obtain⟨u,hu⟩:∃u,s1.heap.get? b=some u:=Q_.elim id fun⟨u,hu⟩=>xm I.hok hu
  have h2:=hx.keeps b u hu;have q:h'.get? b=some o:=q;rw[q] at h2;cases h2;exact PySem.W.hideAll_get _ hu hb) x1 x4 hE
end
end L2
end
section
namespace L2
open PySem PySem.Spec PyProof.Rows
def F9:List Value:=[.type "ValueError", .type "Exception", .type "BaseException", .type "object"]
structure XC (K:W.Frag) (C:Addr):Prop where
 ex:PySem.W.excIn K C F9 "ValueError.__new__"=true
 ga:PySem.W.findIn K (.ref C) "__getattribute__"=some (some (.builtin "BaseException.__getattribute__"))
 gt:PySem.W.findIn K (.ref C) "__getattr__"=some none
 co:PySem.W.findIn K (.ref C) "__class__"=some (some (.builtin "object.__class__"))
 gs:PySem.W.specialIn K (.builtin "object.__class__") "__get__"=some (some (.builtin "getset_descriptor.__get__"))
 tk:PySem.W.takesIn K (.builtin "object.__class__")=some true
 mo:PySem.W.mroIn K C (.type "object")=some true
 mb:PySem.W.mroIn K C (.type "BaseException")=some true
 ic:(PySem.W.clsIn K C).isSome=true
def wF(x C:Addr)(h:Heap):Prop:=∃o,h.get? x=some o/\o.cls= .ref C
theorem wF.ty{M:Model}{x C:Addr}(I:wF x C h):PySem.W.Looks M h (typeOf (.ref x)) (.ref C):=by
 obtain⟨o,e,c⟩:=I;exact c▸(PySem.W.Looks.ld e).andThen .now
section
variable {prog:Program} {w:World} {A:Around} {E:Aab} {s:Shared} {K:W.Frag} {x C:Addr}
theorem Gw{M:Model}(T:XC K C)(X:K.In h):PySem.W.Looks M h (Builtin.ObjectAttr.find (.ref x) (.ref C) "__class__") (.bind (.builtin "getset_descriptor.__get__") (.builtin "object.__class__")):=by
 have a1:=PySem.W.looks_findIn (M:=M) X T.co;have a2:PySem.W.Looks M h (Builtin.ObjectAttr.getOf (some (.builtin "object.__class__"))) (some (.builtin "getset_descriptor.__get__")):=PySem.W.looks_specialIn X T.gs;have a3:=PySem.W.looks_takesIn (M:=M) X T.tk;exact a1.andThen (a2.andThen ((show PySem.W.Looks M h (Builtin.ObjectAttr.dataDescriptor? (some (.builtin "object.__class__")) (some (.builtin "getset_descriptor.__get__"))) (some (.builtin "getset_descriptor.__get__", .builtin "object.__class__")) from a3.andThen .now).andThen (PySem.W.Looks.tag .now)))
theorem Ik{tp:Value}{R:Result->Shared->Prop}(T:XC K C)(X:K.In s.heap)(I:wF x C s.heap)(h:R (.ok (.ret (.ref C))) s) :
 codeAny (model prog w) A (.call (.builtin "getset_descriptor.__get__") ⟨[.builtin "object.__class__", .ref x,tp],[]⟩) R s:=by
 obtain⟨hp,gn,dr,tk,oo⟩:=s;have b0:=I.ty (M:=model prog w);have b1:=PySem.W.looks_mroIn (M:=model prog w) X T.mo;refine codeAny_call_builtin PySem.W.KF.slot_gs.plain PySem.W.KF.entry_gs (PySem.W.KF.slot_gs.check _ _ _ _ _ _ _ _ PySem.W.KF.type_class (PySem.W.KF.args_gs _ _ _) ?_);unfold Builtin.«getset_descriptor.__get__» PySem.Builtin.Getset_descriptor.descrGet;rw[PySem.W.dga_obj];refine wpAny_bind (wpAny_pure ?_);unfold PySem.Builtin.Getset_descriptor.descrGetter PySem.Builtin.Getset_descriptor.descrCheckInstance PySem.Builtin.Getset_descriptor.descrNameAndClass isInstance;simp only[PySem.W.KF.owner_class]
 repeat lk
 refine⟨Code.quiet_builtin _ (by decide+kernel),codeAny_builtin PySem.W.KF.entry_class ?_⟩
 unfold Builtin.«object.__class__» shownTypeOf
 repeat lk
 exact h
theorem LH{tk:Tok}{R:Result->Shared->Prop}(T:XC K C)(X:K.In s.heap)(I:wF x C s.heap)(h:R (.ok (.ret (.ref C))) s) :
 codeAny (model prog w) A (.call (.builtin "BaseException.__getattribute__") ⟨[.ref x, .str "__class__" tk],[]⟩) R s:=by
 have L0:=I.ty (M:=model prog w);have L1:=Gw (M:=model prog w) (x:=x) T X;have LM:=PySem.W.looks_mroIn (M:=model prog w) X T.mb;have LI:PySem.W.Looks (model prog w) s.heap (isInstance (.ref x) (.type "BaseException")) true:=L0.andThen LM;have hk:builtinKind "BaseException.__getattribute__"=some .slot:=by decide+kernel
 have DC:splitId "BaseException.__getattribute__"=some ("BaseException","__getattribute__"):=by decide+kernel
 have ha:=PySem.F.args_bexc_ga (.ref x) (.str "__class__" tk);refine codeAny_call_builtin PySem.F.excAttr_ValueError.ga.plain PySem.F.entry_bexc_ga ?_;obtain⟨hh,g,d,t,os⟩:=s;simp only[checkBuiltinCall,hk,DC];refine wpAny_bind (LI.at ?_);simp only[Bool.not_true,Bool.false_eq_true,if_false];refine wpAny_of_eq ha ?_;refine wpAny_bind (wpAny_pure (wpAny_bind (wpAny_pure (wpAny_bind (L0.at (wpAny_bind (L1.at ?_)))))));show wpAny _ _ (holding [Value.builtin "object.__class__"] (call (.builtin "getset_descriptor.__get__") [.builtin "object.__class__", .ref x, .ref C]) >>=ret) _ _ _;refine wpAny_bind (wpAny_holding (wpAny_call (Ik (s:=⟨hh,g,d,t,os⟩) T X I ?_)));exact wpAny_pure h
theorem Cb{Q:Option Value->Shared->Prop}(T:XC K C)(X:K.In s.heap)(I:wF x C s.heap)(h:Q (some (.ref C)) {s with toks:=s.toks+1}):wpAny (model prog w) A (getAttr? (.ref x) "__class__") Q E s:=by
 obtain⟨hh,g,d,t,os⟩:=s;have L0:=I.ty (M:=model prog w);have L1:=PySem.W.looks_findIn (M:=model prog w) X T.ga;have L2:=PySem.W.looks_findIn (M:=model prog w) X T.gt;have hb:=PySem.F.excAttr_ValueError.ga.bind (.ref x);unfold getAttr? getAttrBy? getAttrBy;refine wpAny_bind (wpAny_mkText (wpAny_bind (wpAny_attempt (wpAny_holding (wpAny_bind (L0.at (wpAny_bind (L1.at ?_))))))));have sF:(onTheHeap (Value.ref C) && Value.builtin "BaseException.__getattribute__"==Value.builtin "object.__getattribute__")=false:=by
  have z:(Value.builtin "BaseException.__getattribute__"==Value.builtin "object.__getattribute__")=false:=by decide+kernel
  rw[z];exact Bool.and_false _
 dsimp only;rw[sF,if_neg Bool.false_ne_true];unfold getAttrByItsOwn hookBefore;refine wpAny_bind (L2.at ?_);refine wpAny_bind (wpAny_attempt (wpAny_holding ?_));show wpAny _ _ (boundAndCalled _ _ _) _ _ _;unfold boundAndCalled;rw[hb];refine wpAny_bind (wpAny_pure ?_);refine wpAny_call (LH (s:=⟨hh,g,d,t+1,os⟩) T X I ?_);show wpAny _ _ (handedOut (.ref C)) _ _ _;exact PySem.W.handed_on rfl (wpAny_pure h)
theorem FW(T:XC K C):PySem.W.KitX K (.ref x) (.ref C) (wF x C) where
 ty:=fun _ _ _ I=>I.ty
 it:=fun M h X _=>by
  obtain⟨cd,hc⟩:=Option.isSome_iff_exists.mp T.ic;unfold PySem.W.clsIn at hc;split at hc
  .rename_i ho;intro A' Q' E' s' k q;unfold isType loadHead;exact wpAny_bind (wpAny_loadPart (k _ _ (X _ _ ho)) (wpAny_pure q))
  .cases hc
 ne:=fun h tp dd its n sl X Zv=>by
  obtain⟨cd,hc⟩:=Option.isSome_iff_exists.mp T.ic;refine Bool.eq_false_iff.mpr fun q=>?_
  cases Value.ref.inj (beq_iff_eq.mp q);unfold PySem.W.clsIn at hc;split at hc
  .rename_i ho;have z:=(X _ _ ho).symm.trans Zv;cases z
  .cases hc
 ca:=fun X I k=>Cb T X I k
theorem HX(X:K.In h)(q:PySem.W.excIn K C F9 "ValueError.__new__"=true):∃bm N nm qn bs hdct sn sub ab col dd k0 k1 k2 k3 k5 mN,
 h.get? C=some (excClassObj nm qn C N bs bm hdct sn sub ab col dd k0 k1 k2 k3 k5 "ValueError.__new__")/\h.Ns N mN/\mN "__init__"=none/\OwnTail h F9 bm:=by
 unfold PySem.W.excIn at q;split at q
 .rename_i dd cd sl ho;split at q
  .rename_i C' bm k0 k1 k2 k3 n k5 hm hs;simp only[Bool.and_eq_true,beq_iff_eq,Bool.not_eq_true'] at q;obtain⟨⟨⟨⟨⟨q1,q2⟩,q3⟩,q4⟩,q5⟩,q6⟩:=q;subst q1 q2;obtain⟨nm,bs,mro,ns,qn,hd,sn,sub,ab,col,del⟩:=cd;obtain⟨l⟩:=sl;dsimp only at hm hs q3 q5 q6;subst hm hs q3;exact⟨bm,ns,nm,qn,bs,hd,sn,sub,ab,col,dd,k0,k1,k2,k3,k5,_,X _ _ ho,Heap.Ns.of_isNs (PySem.W.isNs_of_in X q5),PySem.W.nsMap_none_of_in X q5 q6,PySem.W.tail_of_in X q4⟩
  .cases q
 .cases q
end
end L2
end
section
namespace L3
open PySem PySem.Spec PyProof.Rows L2
theorem R3.fI{α β:Type}{r:R3 α}{f:α->aR->R3 β}{c:Nat}{S':aR}(h:r.bind f= .ex c S'):r= .ex c S'\/∃a S,r= .ok a S/\f a S= .ex c S':=by
 cases r with
 | ok a S=>exact .inr ⟨a,S,rfl,h⟩
 | ex c' S=>cases h;exact .inl rfl
 | no=>cases h
def Hb{α:Type}(r:R3 α):R3 α:=match r with | .ex _ _=> .no | .ok a S=> .ok a S | .no=> .no
theorem jz{α:Type}{r:R3 α}{a:α}{S:aR}(h:Hb r= .ok a S):r= .ok a S:=by
 cases r with
 | ok b S=>exact h
 | ex c S=>cases h
 | no=>cases h
theorem pU{α:Type}{r:R3 α}{c:Nat}{S:aR}(h:Hb r= .ex c S):False:=by
 cases r <;> cases h
def Bx(K:W.Frag)(cl:Aag)(E:XK)(ρ:P3)(H:Hp)(S':aR)(c:Nat):Prop:=∀bM H',Pre ρ H bM H'->SW K cl bM H' S'->E (.ref (cl c)) none H'
theorem Bx.pre{K:W.Frag}{cl:Aag}{E:XK}{S':aR}{c:Nat}(q:Bx K cl E ρ H S' c)(p:Pre ρ H bU H1):Bx K cl E bU H1 S' c:=fun bM H' p' w=>q bM H' (p.trans p') w
def Xq(K:W.Frag)(cl:Aag)(E:XK)(f:FX):TE:=fun σ H Q=>∃ρ S δ,eg K cl ρ H S σ δ/\((∃v S',f δ S= .ok v S'/\∀u bM H',Pre ρ H bM H'->SW K cl bM H' S'->aX K bM H' v u->Q u H')\/∃c S',f δ S= .ex c S'/\Bx K cl E ρ H S' c)
def Rk(K:W.Frag)(cl:Aag)(E:XK)(f:FA):TA:=fun σ H Q=>∃ρ S δ,eg K cl ρ H S σ δ/\((∃vs S',f δ S= .ok vs S'/\∀us bM H',Pre ρ H bM H'->SW K cl bM H' S'->aI K bM H' vs us->Q us H')\/∃c S',f δ S= .ex c S'/\Bx K cl E ρ H S' c)
def QX(K:W.Frag)(cl:Aag)(E:XK)(F:FZ):TS:=fun D σ H=>∃ρ S δ,eg K cl ρ H S σ δ/\((∃o S',F δ S= .ok o S'/\wQ K cl ρ H D S' o)\/∃c S',F δ S= .ex c S'/\Bx K cl E ρ H S' c)
structure MZ (X:Cx) (cl:Aag) (E:XK) (e:Expr) (f:FX):Prop where
 go:PE X e (Xq X.K cl E f)
structure Am (X:Cx) (cl:Aag) (E:XK) (es:List Expr) (f:FA):Prop where
 go:PA X es (Rk X.K cl E f)
structure JZ (X:Cx) (cl:Aag) (E:XK) (st:Stmt) (F:FZ):Prop where
 go:PS X st (QX X.K cl E F)
structure uS (X:Cx) (cl:Aag) (E:XK) (st:List Stmt) (F:FZ):Prop where
 go:wX X st (QX X.K cl E F)
section
variable {X:Cx} {cl:Aag} {E:XK}
def u_(f:FX):FX:=fun δ S=>Hb (f δ S)
def fM(f:FA):FA:=fun δ S=>Hb (f δ S)
def DN(f:FZ):FZ:=fun δ S=>Hb (f δ S)
theorem zH(h:PX X cl e f):MZ X cl E e (u_ f):=⟨h.1.imp fun σ H Q ⟨ρ,S,δ,En,z⟩=>by
 rcases z with⟨v,S',hf,q⟩ | ⟨c,S',hf,q⟩
 .exact⟨ρ,S,δ,v,S',En,jz hf,q⟩
 .exact(pU hf).elim⟩
theorem d4(h:Jl X cl es f):Am X cl E es (fM f):=⟨h.1.imp fun σ H Q ⟨ρ,S,δ,En,z⟩=>by
 rcases z with⟨v,S',hf,q⟩ | ⟨c,S',hf,q⟩
 .exact⟨ρ,S,δ,v,S',En,jz hf,q⟩
 .exact(pU hf).elim⟩
theorem zp{st:Stmt}(h:PZ X cl st F):JZ X cl E st (DN F):=⟨h.1.imp fun D σ H ⟨ρ,S,δ,En,z⟩=>by
 rcases z with⟨v,S',hf,q⟩ | ⟨c,S',hf,q⟩
 .exact⟨ρ,S,δ,v,S',En,jz hf,q⟩
 .exact(pU hf).elim⟩
theorem qC{st:List Stmt}(h:B6 X cl st F):uS X cl E st (DN F):=⟨h.1.imp fun D σ H ⟨ρ,S,δ,En,z⟩=>by
 rcases z with⟨v,S',hf,q⟩ | ⟨c,S',hf,q⟩
 .exact⟨ρ,S,δ,v,S',En,jz hf,q⟩
 .exact(pU hf).elim⟩
def yd(K:W.Frag)(cl:Aag)(n:Nat)(g:List V3->aR->R3 V3):Sp:=fun vs H Q E=>vs.length=n/\∃ρ S xs,SW K cl ρ H S/\aI K ρ H xs vs/\
 ((∃v S',g xs S= .ok v S'/\∀u bM H',Pre ρ H bM H'->SW K cl bM H' S'->aX K bM H' v u->Q u H')\/∃c S',g xs S= .ex c S'/\Bx K cl E ρ H S' c)
def fJ(P:Program)(w:World)(K:W.Frag)(mg:Aaf)(base:Heap)(cl:Aag)(k:Nat)(x:Str)(n:Nat)(g:List V3->aR->R3 V3):Prop:=
 ∃(f:Addr) (fd:FuncData) (ps:List Str),jk P w K mg base (xO P w) k f fd ps (yd K cl n g)/\mg x=some (.ref f)/\PySem.W.keepIn K (.ref f)=true/\Binds K fd ps []
theorem yq{g:List V3->aR->R3 V3}{k j n:Nat}{x:Str}{p pos:Pos}{e:Expr}{es:List Expr}{fs:FA}(hp:Passes (xO X.prog X.w) X E)(C:fJ X.prog X.w X.K X.mg X.base cl k x n g)(hr:dU j X.A)(GY:k<=j)(hg:Gl X x)(ha:Am X cl E (e ::es) fs)
 (hn:∀δ S ds S',fs δ S= .ok ds S'->ds.length=n) (kK:(x==("__debug__":Str))=false:=by decide) (he:starEach (e ::es) X.env=(false,eval e X.env) ::starEach es X.env:=by rfl) (nE:(backTo pos (starEach es X.env)).any (·.1)=false:=by rfl) :
 MZ X cl E (.Call (.Name x p) (e ::es) [] pos) (ui g fs):=by
 obtain⟨f,fd,ps,F,hm,hk,hb⟩:=C;refine⟨(xg F (hr.mono GY) hg hm hk hb .nil hp ha.1 kK he nE).imp fun σ H Q ⟨ρ,S,δ,En,z⟩=>⟨ρ,S,δ,En,?_⟩⟩
 have go:∀vs S1,fs δ S= .ok vs S1->((∃v S',g vs S1= .ok v S'/\∀u bM H',Pre ρ H bM H'->SW X.K cl bM H' S'->aX X.K bM H' v u->Q u H')\/∃c S',g vs S1= .ex c S'/\Bx X.K cl E ρ H S' c)->
  (∃vs S',fs δ S= .ok vs S'/\∀us bM H',Pre ρ H bM H'->SW X.K cl bM H' S'->aI X.K bM H' vs us->(fun vs H1=>yd X.K cl n g (vs++[]) H1 Q E) us H')\/∃c S',fs δ S= .ex c S'/\Bx X.K cl E ρ H S' c:=fun vs S1 h1 h2=>by
  refine .inl ⟨vs,S1,h1,fun us bU H1 p1 w1 r1=>?_⟩
  show yd X.K cl n g (us++[]) H1 Q E;rw[List.append_nil];refine⟨by rw[<-r1.length];exact hn δ S vs S1 h1,bU,S1,vs,w1,r1,?_⟩
  rcases h2 with⟨v,S',h3,q⟩ | ⟨c,S',h3,q⟩
  .exact .inl ⟨v,S',h3,fun u qk H2 p2 w2 r2=>q u qk H2 (p1.trans p2) w2 r2⟩
  .exact .inr ⟨c,S',h3,q.pre p1⟩
 rcases z with⟨v,S',hf,q⟩ | ⟨c,S',hf,q⟩
 .obtain⟨vs,S1,h1,h2⟩:=R3.ak hf;exact go vs S1 h1 (.inl ⟨v,S',h2,q⟩)
 .rcases R3.fI hf with h1 | ⟨vs,S1,h1,h2⟩
  .exact .inr ⟨c,S',h1,q⟩
  .exact go vs S1 h1 (.inr ⟨c,S',h2,q⟩)
theorem nS{pos:Pos}(he:MZ X cl E e f)(G0:swapsWith e none pos.line X.env=pure false:=by rfl):JZ X cl E (.Expr e pos) (um f):=⟨(qM he.1 G0).imp fun D σ H ⟨ρ,S,δ,En,z⟩=>by
 refine⟨ρ,S,δ,En,?_⟩;rcases z with⟨o,S',hf,q⟩ | ⟨c,S',hf,q⟩
 .obtain⟨v,S1,h1,h2⟩:=R3.ak hf;cases h2;exact .inl ⟨v,_,h1,fun u bU H1 p1 w1 r1=>q _ bU H1 p1 (En.to p1 w1)⟩
 .rcases R3.fI hf with h1 | ⟨v,S1,h1,h2⟩
  .exact .inr ⟨c,S',h1,q⟩
  .cases h2⟩
def yP(f:FB):FB:=fun δ S=>Hb (f δ S)
theorem gR(hc:DQ X cl c fc)(ha:uS X cl E a F)(hb:uS X cl E b G):JZ X cl E (.If c a b pos) (tK (yP fc) F G):=⟨(E4 hc.1 ha.1 hb.1).imp fun D σ H ⟨ρ,S,δ,En,z⟩=>by
 have fin:∀k S1,fc δ S= .ok k S1->((∃o S',(if k then F δ S1 else G δ S1)= .ok o S'/\wQ X.K cl ρ H D S' o)\/∃c S',(if k then F δ S1 else G δ S1)= .ex c S'/\Bx X.K cl E ρ H S' c)->OS (NV X.K cl fc) (QX X.K cl E F) (QX X.K cl E G) D σ H:=fun k S1 h1 h2=>by
  refine⟨ρ,S,δ,k,S1,En,h1,fun bU H1 p1 w1=>?_⟩
  cases k with
  | true=>
    refine Gn ⟨bU,S1,δ,En.to p1 w1,?_⟩;rcases h2 with⟨o,S',h3,q⟩ | ⟨c,S',h3,q⟩
    .rw [if_pos rfl] at h3;exact .inl ⟨o,S',h3,q.pre p1⟩
    .rw [if_pos rfl] at h3;exact .inr ⟨c,S',h3,q.pre p1⟩
  | false=>
    refine Gy ⟨bU,S1,δ,En.to p1 w1,?_⟩;rcases h2 with⟨o,S',h3,q⟩ | ⟨c,S',h3,q⟩
    .rw [if_neg (by decide)] at h3;exact .inl ⟨o,S',h3,q.pre p1⟩
    .rw [if_neg (by decide)] at h3;exact .inr ⟨c,S',h3,q.pre p1⟩
 rcases z with⟨o,S',hf,q⟩ | ⟨c,S',hf,q⟩
 .obtain⟨k,S1,h1,h2⟩:=R3.ak hf;exact fin k S1 (jz h1) (.inl ⟨o,S',h2,q⟩)
 .rcases R3.fI hf with h1 | ⟨k,S1,h1,h2⟩
  .exact(pU h1).elim
  .exact fin k S1 (jz h1) (.inr ⟨c,S',h2,q⟩)⟩
theorem el:uS X cl E [] mL:=⟨wy.imp fun D σ H ⟨ρ,S,δ,En,z⟩=>by
 rcases z with⟨o,S',hf,q⟩ | ⟨c,S',hf,q⟩
 .cases hf;exact q σ ρ H (Pre.refl ρ H) En
 .cases hf⟩
theorem bZ{st:Stmt}(h:JZ X cl E st F):uS X cl E [st] F:=⟨xj h.1⟩
theorem b_{st:Stmt}{rest:List Stmt}(h1:JZ X cl E st F)(h2:uS X cl E rest G):uS X cl E (st ::rest) (cR F G):=⟨(ua h1.1 h2.1).imp fun D σ H ⟨ρ,S,δ,En,z⟩=>by
 refine⟨ρ,S,δ,En,?_⟩;rcases z with⟨o,S',hf,q⟩ | ⟨c,S',hf,q⟩
 .obtain⟨o1,S1,h1,h2⟩:=R3.ak hf;refine .inl ⟨o1,S1,h1,?_⟩;cases o1 with
  | nx δ1=>exact fun N5 bU H1 p1 E1=>⟨bU,S1,δ1,E1, .inl ⟨o,S',h2,q.pre p1⟩⟩
  | rt d=>cases h2;exact q
 .rcases R3.fI hf with h1 | ⟨o1,S1,h1,h2⟩
  .exact .inr ⟨c,S',h1,q⟩
  .refine .inl ⟨o1,S1,h1,?_⟩;cases o1 with
   | nx δ1=>exact fun N5 bU H1 p1 E1=>⟨bU,S1,δ1,E1, .inr ⟨c,S',h2,q.pre p1⟩⟩
   | rt d=>cases h2⟩
def Ad(X:Cx)(E:XK):Prop:=∀(pins:Aaa) (σ:L2.St) (H:Hp) (s:Shared) (h':Heap) (a:Addr) (cls:Value) (vs:List Value),Inv X pins σ H s->Heap.MadeExcOf s.heap h' a cls vs->E cls none H->X.xe (.ref a) {s with heap:=h'}
def fN(c:Nat)(fs:FA):FZ:=fun δ S=>(fs δ S).bind fun vs S=>R3.aW (decide (vs.length<=sizeLine)) (.ex c S)
theorem EX{C:Addr}{t:TA}{x:Str}{e:Expr}{es:List Expr}{np bj pos:Pos}(hf:Ad X E)(hc:X.calm=true)(T:XC X.K C)(hg:Gl X x)(hm:X.mg x=some (.ref C))(ha:PA X (e ::es) t)(kK:(x==("__debug__":Str))=false:=by decide)
 (he:starEach (e ::es) X.env=(false,eval e X.env) ::starEach es X.env:=by rfl) (nE:(backTo bj (starEach es X.env)).any (·.1)=false:=by rfl) :
 PS X (.Raise (some (.Call (.Name x np) (e ::es) [] bj)) none pos) (fun D σ H=>t σ H fun vs H1=>vs.length<=sizeLine/\E (.ref C) none H1):=by
 intro pins s σ H D I h;obtain⟨bm,N,nm,qn,bs,hdct,sn,sub,ab,col,dd,k0,k1,k2,k3,k5,mN,hC,hN,hni,OT⟩:=HX (C:=C) I.mod.kin T.ex;refine wpAny_Raise_call_subT (C:=C) (nm:=nm) (q:=qn) (N:=N) (bs:=bs) (bm:=bm) (hdct:=hdct) (sn:=sn) (sub:=sub) (ab:=ab) (col:=col) (dd:=dd) (k0:=k0) (k1:=k1) (k2:=k2) (k3:=k3) (k5:=k5) (bmB:=F9) PySem.F.excBase_ValueError (mN:=mN) (OT.hasType PySem.F.excBase_ValueError.hasBase) (I.ok.hd hc)
  (by rw[he];show(false || (backTo bj (starEach es X.env)).any (·.1))=false;rw [nE];rfl) hni (qw I hg hm ⟨rfl,?_⟩ kK)
 have hA:=ha bj pins s σ H _ I h;rw[he] at hA ⊢;refine Calls.evalArgs_plain (wpAny_mono hA (fun us s2 ⟨vs,H1,I1,r,hl,hE⟩=>⟨rfl,by rw[<-r.length];exact hl,I1.bk _ _ hC,hN.keeps I1.bk,OT.keeps I1.bk,fun h' a hx=>hf pins σ H1 s2 h' a _ _ I1 hx hE⟩) fun _ _ y=>y)
theorem cX{c:Nat}{fs:FA}{x:Str}{e:Expr}{es:List Expr}{np bj pos:Pos}(hf:Ad X E)(hc:X.calm=true)(T:XC X.K (cl c))(hg:Gl X x)(hm:X.mg x=some (.ref (cl c)))(ha:Am X cl E (e ::es) fs)(kK:(x==("__debug__":Str))=false:=by decide)
 (he:starEach (e ::es) X.env=(false,eval e X.env) ::starEach es X.env:=by rfl) (nE:(backTo bj (starEach es X.env)).any (·.1)=false:=by rfl) :
 JZ X cl E (.Raise (some (.Call (.Name x np) (e ::es) [] bj)) none pos) (fN c fs):=⟨(EX hf hc T hg hm ha.1 kK he nE).imp fun D σ H ⟨ρ,S,δ,En,z⟩=>by
 refine⟨ρ,S,δ,En,?_⟩;rcases z with⟨o,S',hf,q⟩ | ⟨c',S',hf,q⟩
 .obtain⟨vs,S1,h1,h2⟩:=R3.ak hf;unfold R3.aW at h2;split at h2 <;> cases h2
 .rcases R3.fI hf with h1 | ⟨vs,S1,h1,h2⟩
  .exact .inr ⟨c',S',h1,q⟩
  .unfold R3.aW at h2;split at h2
   .rename_i hl;cases h2;exact .inl ⟨vs,_,h1,fun us bU H1 p1 w1 r1=>⟨by rw[<-r1.length];exact of_decide_eq_true hl,q bU H1 p1 w1⟩⟩
   .cases h2⟩
end
theorem mj{P:Program}{w:World}{K:W.Frag}{mg:Aaf}{base:Heap}{cl:Aag}{x qual:Str}{st:Stmt}{f:Addr}{fd:FuncData}{N ps:List Str}{k:Nat}{F:FZ}{b:List Stmt}{sc:Scope}(hb:a9 st=b)(hs:aJ st=sc)(Fn:z0 K x qual st f fd)(S:bC N ps sc)
 (iz:∀(dJ:Value) (A:Around) (outer:List Env) (s:Shared) (H:Hp) (E:XK),dU k (A.deeper (envOfC qual sc s.heap.objs.size f dJ))->
   uS (md (xO P w) P w K mg base N qual sc f dJ A outer s H E) cl E b F):jk P w K mg base (xO P w) (k+1) f fd ps (yd K cl ps.length (uO N F)):=by
 subst hb hs;obtain⟨oc,od,kV,doc,pm,an,dJ,ct,GX,rfl,lk,uJ⟩:=Fn.ex;refine Ks lk uJ S (fun vs H Q E h=>h.1) fun A outer s H vs Q E hr DC=>⟨_,(iz dJ A outer s H E hr).1,?_⟩
 obtain⟨_,ρ,S,ds,w,r,z⟩:=DC;refine⟨ρ,S,dq N ds,yU w r,?_⟩;rcases z with⟨v,S',hg,q⟩ | ⟨c,S',hg,q⟩
 .obtain⟨o,S1,h1,h2⟩:=R3.ak hg;refine .inl ⟨o,S1,h1,?_⟩;cases o with
  | nx dC=>
    cases h2;exact fun cw bM H' p' E'=>q _ bM H' p' E'.sw (by unfold aX Rep;rfl)
  | rt d'=>
    cases h2;exact fun u bM H' p' w' r'=>q u bM H' p' w' r'
 .rcases R3.fI hg with h1 | ⟨o,S1,h1,h2⟩
  .exact .inr ⟨c,S',h1,q⟩
  .cases o with
   | nx dC=>cases h2
   | rt d'=>cases h2
theorem j8{P:Program}{w:World}{K:W.Frag}{mg:Aaf}{base:Heap}{N:List Str}{qual:Str}{scope:Scope}{f:Addr}{cd:Value}{A:Around}{outer:List Env}{s:Shared}{H:Hp}{E:XK} :
 Passes (xO P w) (md (xO P w) P w K mg base N qual scope f cd A outer s H E) E:=Px
theorem cW{P:Program}{w:World}{K:W.Frag}{mg:Aaf}{base:Heap}{N:List Str}{qual:Str}{scope:Scope}{f:Addr}{cd:Value}{A:Around}{outer:List Env}{s:Shared}{H:Hp}{E:XK} :
 Ad (md (xO P w) P w K mg base N qual scope f cd A outer s H E) E:=fun pins σ H1 s1 h' a cls vs I hx hE=>KN I hx hE
end L3
end
section
namespace L2
open PySem PySem.Spec PyProof.Rows
abbrev Cx.alt(X:Cx)(A:Around)(calm:Bool)(pn:Aaa)(xe:Aab):Cx:={X with A:=A,calm:=calm,pn:=pn,xe:=xe}
theorem Cx.Ok.alt{X:Cx}(ok:X.Ok){A:Around}{calm:Bool}{pn:Aaa}{xe:Aab}(hd:calm=true->A.handled=none)(hf:A.frames=X.A.frames):(X.alt A calm pn xe).Ok:=
 ⟨ok.mod,ok.kind,ok.glob,ok.blt,ok.above,ok.inj,ok.has,ok.cab,hd,hf.trans ok.frames,ok.stk,ok.exf,ok.bs,ok.bsz,ok.noex,ok.exfs,ok.qt,ok.frf⟩
section
variable {X:Cx} {pins mD:Aaa} {σ:St} {H H1 H':Hp} {s s1 s':Shared}
theorem Inv.alt{A:Around}{calm:Bool}{pn:Aaa}{xe:Aab}(I:Inv X pins σ H s)(hd:calm=true->A.handled=none)(hf:A.frames=X.A.frames)(hp:∀p∈pn++mD,p∈X.pn++pins):Inv (X.alt A calm pn xe) mD σ H s:=
 ⟨I.ok.alt hd hf,I.os,I.bare,I.base,I.loc,I.cell,I.free,I.freeC,fun p hq=>I.pin p (hp p hq),I.hok,I.len⟩
theorem Inv.PH{calm:Bool}{pn:Aaa}{xe:Aab}(ok:X.Ok)(I:Inv (X.alt A calm pn xe) mD σ H s)(hp:∀p∈X.pn++pins,p∈pn++mD):Inv X pins σ H s:=
 ⟨ok,I.os,I.bare,I.base,I.loc,I.cell,I.free,I.freeC,fun p hq=>I.pin p (hp p hq),I.hok,I.len⟩
theorem A6{M:Model}{A:Around}{E:Aab}{i:Nat}{x:Str}{pos:Pos}{Q:Unit->Shared->Prop}(I:Inv X pins σ H s)(hN:X.N.Nodup)(hi:X.N[i]? =some x)(hk:X.env.kindOf x=some .local)
 (h:∀s',Inv X pins (σ.set i none) H s'->Q () s'):wpAny M A (do bindName X.env x .none;unbindBehindTheSuite X.env x pos) Q E s:=by
 obtain⟨m,hn,hl⟩:=id I.loc;have hcls:(X.env.scope.kind== .class || (X.env.scope.kind== .module && X.env.locals !=X.env.globals))=false:=by rw[I.ok.kind];rfl
 have hiσ:i < σ.length:=by rw[I.len];exact(List.getElem?_eq_some_iff.mp hi).1
 have EW:=I.EW;refine wpAny_nameGoes_keeps hk hn hcls fun h' v U0 hs=>?_
 refine h _ ⟨I.ok,I.os,I.bare,⟨fun b o e n hb hx=>?_,fun b o e n hb hx=>?_,I.base.free,fun b o e hx=>?_,I.base.tups,I.base.frzs,I.base.tbls⟩,⟨_,U0,fun j y v' e1 e2 e3=>?_⟩,fun y c e=>?_,I.free,I.freeC,fun p hp=>?_,fun b ob e=>?_,by simpa using I.len⟩
 .exact(hs.2 b (Nat.ne_of_lt (Nat.lt_of_lt_of_le (Heap.lt_size e) I.ok.above))).trans (I.base.keep b o e n hb hx)
 .obtain⟨sl,e1⟩:=I.base.slot b o e n hb hx;exact⟨sl,(hs.2 b (Nat.ne_of_lt (Nat.lt_of_lt_of_le (Heap.lt_size e) I.ok.above))).trans e1⟩
 .obtain⟨o',e1⟩:=I.base.there b o e hx;exact⟨o',(hs.2 b (Nat.ne_of_lt (Nat.lt_of_lt_of_le (Heap.lt_size e) I.ok.above))).trans e1⟩
 .by_cases hj:j=i
  .subst hj;rw[List.getElem?_set_self hiσ] at e2;cases e2
  .rw [List.getElem?_set_ne (Ne.symm hj)] at e2;obtain⟨u',r',q⟩:=hl j y v' e1 e2 e3;refine⟨u',r',?_⟩;rcases q with⟨k,e⟩ | ⟨k,c,e,z⟩
   .refine .inl ⟨k,?_⟩;have:y≠x:=fun e=>hj (qP hN e1 (e▸hi))
    simp [this,e]
   .exact .inr ⟨k,c,e,z.sameBut hs (EW y c e)⟩
 .obtain⟨w',z⟩:=I.cell y c e;exact⟨w',z.sameBut hs (EW y c e)⟩
 .obtain⟨e,n,ne,nf,d⟩:=I.pin p hp;exact⟨(hs.2 p.1 ne).trans e,n,ne,nf,d⟩
 .refine(I.hok b ob e).yh (fun c w' hc q=>(hs.2 c ?_).trans q) (fun _ q=>q) fun _ _ q=>q
  rintro rfl;rcases hc with rfl | hc
  .have z:=I.free;rw [z] at e;cases e
  .have z:=I.free;rw [z] at hc;cases hc
theorem uF{B h5:Heap}{a:Addr}{C:Addr}{a0:Value}(I:Inv X pins σ H1 s1)(zk:X.stack=X.env ::X.outer)(os:s'.os=s1.os)(bare:AllBare s'.gens)(un:Un (pG X.stack) [] H1 H' s1.heap s'.heap)(hok:nK X.prog X.w H' s'.heap)
 (xR:∀b o,s'.heap.get? b=some o->b ∉ pG X.stack->((∃u,s1.heap.get? b=some u)\/∃u,H' b=some u)->B.get? b=some o) (fl:Heap.FlyingW B X.stack a (.ref C) a0 h5) (up:s'.heap.UpToSlots h5) :
 H' a=none/\wF a C h5/\Inv X pins σ (upd H' a (.ext (L3.isExc C a))) {s' with heap:=h5}:=by
 have hfree:∀b,b∈pG X.stack->H' b=none:=fun b hb=>by
  obtain⟨_,o,ho,_⟩:=I.stack.mem hb;exact un.free b o ho (I.oO b hb) (by simp)
 have stB:∀b o,B.get? b=some o->h5.get? b=some o:=fl.1;have He:∀b o,H' b=some o->∀u,s'.heap.get? b=some u->h5.get? b=some u:=fun b o q u hu=>stB b u (xR b u hu (fun hb=>by rw[hfree b hb] at q;cases q) (.inr ⟨o,q⟩))
 obtain⟨oe,vs,he,hec,hed,_⟩:=fl.first
 have nst:a ∉ pG X.stack:=fun hb=>by
  obtain⟨_,o,ho,hd⟩:=fl.2.2.1.mem hb;rw[he] at ho;cases ho;exact hd _ hed
 have n0:∀u,s1.heap.get? a≠some u:=fun u hu=>by
  obtain⟨u2,h2⟩:=un.there a u hu (by simp)
  have:=xR a u2 h2 nst (.inl ⟨u,hu⟩);rw[fl.2.1] at this;cases this
 have n1:H' a=none:=by
  cases q:H' a with
  | none=>rfl
  | some u=>
    obtain⟨u2,h2⟩:=xm hok q;have:=xR a u2 h2 nst (.inr ⟨u,q⟩);rw[fl.2.1] at this;cases this
 have n2:H1 a=none:=by
  cases q:H1 a with
  | none=>rfl
  | some u=>
    obtain⟨u2,h2⟩:=xm I.hok q;exact absurd h2 (n0 u2)
 refine⟨n1,⟨oe,he,hec⟩,?_⟩;have un2:Un (pG X.stack) [] H1 (upd H' a (.ext (L3.isExc C a))) s1.heap h5:=by
  refine⟨fun b o q n hb _=>?_,fun b o q n hb _=>?_,fun b o q n _=>?_,fun b o q _=>?_,fun b xs q=>?_,fun b o u q=>?_,fun b ps q=>?_⟩
  .exact stB b o (xR b o (un.keep b o q n hb (by simp)) hb (.inl ⟨o,q⟩))
  .obtain⟨Vm,h2⟩:=un.slot b o q n hb (by simp)
   obtain⟨_,o',vn,hd⟩:=I.stack.mem hb;rw[q] at vn;cases vn;obtain⟨Nl,h3⟩:=up b _ h2 hd;exact⟨Nl,h3⟩
  .rw [bt (fun z=>by subst z;exact n0 o q)];exact un.free b o q n (by simp)
  .obtain⟨u2,h2⟩:=un.there b o q (by simp)
   by_cases hb:b∈pG X.stack
   .obtain⟨_,o',vn,hd⟩:=I.stack.mem hb;obtain⟨sl,h3⟩:=un.slot b o' vn (I.oO b hb) hb (by simp)
    obtain⟨Nl,h4⟩:=up b _ h3 hd;exact⟨_,h4⟩
   .exact⟨u2,stB b u2 (xR b u2 h2 hb (.inl ⟨o,q⟩))⟩
  .rw [bt (bK q n2)];exact un.tups b xs q
  .rw [bt (bK q n2)];exact un.frzs b o u q
  .rw [bt (bK q n2)];exact un.tbls b ps q
 have hok2:nK X.prog X.w (upd H' a (.ext (L3.isExc C a))) h5:=fun b o q=>by
  by_cases hb:b=a
  .subst hb;rw[ba] at q;cases q;refine⟨⟨oe,he,hec⟩,⟨oe,he⟩,fun h1 h2 p k=>?_⟩
   obtain⟨o,h3,h4⟩:=p;exact⟨o,k o h3,h4⟩
  .rw [bt hb] at q;refine(hok b o q).yh (fun c u hc hu=>?_) (fun c z=>by rw[bt (bK z n1)];exact z) (fun c xs z=>by rw[bt (bK z n1)];exact z)
   rcases hc with rfl | hc
   .exact He c o q u hu
   .exact He c _ hc u hu
 exact I.Kp (s':={s' with heap:=h5}) os un2 hok2 bare (fun b z=>absurd z (by simp))
end
end L2
namespace L3
open PySem PySem.Spec PyProof.Rows L2
section
variable {X:Cx} {cl:Aag}
def u0(F:FZ)(ok:Nat->Bool)(i:Nat)(G:FZ):FZ:=fun δ S=>match F δ S with
 | .ok o S'=> .ok o S'
 | .ex c S'=>R3.aW (ok c) ((Hb (G ((List.replicate δ.length none).set i (some (.loc S'.length))) (S'++[.exc c]))).bind fun o S2=>match o with | .nx dC=> .ok (.nx (dC.set i none)) S2 | .rt v=> .ok (.rt v) S2)
 | .no=> .no
theorem Ma{F G:FZ}{ok:Nat->Bool}{i:Nat}{n fx:Str}{Cf:Addr}{body GZ:List Stmt}{b0:Stmt}{np Qn pos:Pos}(zk:X.stack=X.env ::X.outer)(Hj:X.env.frame=some X.env.locals)(WN:X.calm=true)
 (hC:∀c,ok c=true->PySem.W.exmOne X.K (.ref (cl c)) (.ref Cf)=some true) (hg:Gl X fx) (hm:X.mg fx=some (.ref Cf)) (hN:X.N.Nodup) (hi:X.N[i]? =some n) (hk:X.env.kindOf n=some .local)
 (iz:∀(pn:Aaa) (xe:Aab) (E:XK),Passes (xO X.prog X.w) (X.alt X.A X.calm pn xe) E->uS (X.alt X.A X.calm pn xe) cl E body F)
 (Qh:∀(a:Addr) (pn:Aaa),B6 (X.alt (X.A.mark (some (.ref a))) false pn fun _ _=>False) cl (b0 ::GZ) G) (kK:(fx==("__debug__":Str))=false:=by decide) :
 PZ X cl (.Try body [.ExceptHandler (some (.Name fx np)) (some n) (b0 ::GZ) Qn] [] [] pos) (u0 F ok i G):=⟨by
 intro pins s σ H D I ⟨ρ,S,δ,o,S',En,hf,q⟩;refine wpAny_Try_except ?_;have I1:∀xe,Inv (X.alt X.A X.calm (X.pn++pins) xe) [] σ H s:=fun xe=>I.alt I.ok.hd rfl fun p hp=>by simpa using hp
 have back:∀{cw H' s'} {xe} {A calm mD},Inv (X.alt A calm (X.pn++pins) xe) mD cw H' s'->Inv X pins cw H' s':=fun J=>Inv.PH I.ok J fun p hp=>List.mem_append_left _ hp
 have nxt:∀{xe f s1},SP (X.alt X.A X.calm (X.pn++pins) xe) [] D f s1->(match f with | .next=>wpAny (model X.prog X.w) X.A (execs [] X.env) (SP X pins D) X.xe s1 | f=>SP X pins D f s1):=fun {xe f s1} z=>by
  cases f with
  | next=>obtain⟨cw,H',J,w⟩:=z;exact wpAny_execs_nil ⟨cw,H',back J,w⟩
  | brk=>obtain⟨cw,H',J,w⟩:=z;exact⟨cw,H',back J,w⟩
  | cont=>obtain⟨cw,H',J,w⟩:=z;exact⟨cw,H',back J,w⟩
  | ret u=>obtain⟨v,cw,H',J,r,w⟩:=z;exact⟨v,cw,H',back J,r,w⟩
 cases hF:F δ S with
 | no=>simp only[u0,hF] at hf;cases hf
 | ok o1 S1=>
   simp only[u0,hF] at hf;cases hf;exact cU ((iz (X.pn++pins) _ E0 fun _ _ _ _ _ _ _ ⟨_,_,_,_,_,_,_,_,_,_,_,_,z⟩=>z.elim).1 [] s σ H D (I1 _) ⟨ρ,S,δ,En, .inl ⟨_,_,hF,q⟩⟩) fun f s1 z=>nxt z
 | ex c S1=>
   simp only[u0,hF] at hf;obtain⟨hok,hf⟩:=R3.aQ hf;obtain⟨o2,S2,hG,hf⟩:=R3.ak hf;have hG:=jz hG;refine cU ((iz (X.pn++pins) (fun e s₁=>wpAny (model X.prog X.w) X.A (noteFrame e X.env) (fun _ vm=>wpAny (model X.prog X.w) X.A (setFlight e none) (fun _ JO=>wpAny (model X.prog X.w) X.A (handleBy e X.env [.ExceptHandler (some (.Name fx np)) (some n) (b0 ::GZ) Qn]) (SP X pins D) X.xe JO) X.xe vm) X.xe s₁)
    (fun cls d H'=>cls= .ref (cl c)/\∃bM,Pre ρ H bM H'/\SW X.K cl bM H' S1) ?_).1 [] s σ H D (I1 _) ⟨ρ,S,δ,En, .inr ⟨c,S1,hF,fun bM H' p w=>⟨rfl,bM,p,w⟩⟩⟩) fun f s1 z=>nxt z
   intro mD cw H1 s1 e s' J hc;obtain⟨a,B,cls,a0,H',rfl,os,bare,un,hokH,fl,xR,rfl,bM,p',w'⟩:=hc;have fl:Heap.FlyingW B (X.env ::X.outer) a (.ref (cl c)) a0 s'.heap:=by rw[<-zk];exact fl
   refine wpAny_looks_onW (by rw[I.ok.frames,zk]) Hj fl fun h4 held W2=>?_
   refine wpAny_landsW held fun h5 WV W7=>?_
   have C5:=uF (X:=X.alt X.A X.calm (X.pn++pins) _) (s':=s') J zk os bare un hokH xR (by rw[show Cx.stack (X.alt X.A X.calm (X.pn++pins) _)=X.env ::X.outer from zk];exact WV) (W2.trans W7)
   have J5:Inv (X.alt (X.A.mark (some (.ref a))) false (X.pn++pins) fun _ _=>False) mD cw _ {s' with heap:=h5}:=Inv.alt (X:=X.alt X.A X.calm (X.pn++pins) _) C5.2.2 (fun z=>by cases z) rfl fun p hp=>hp
   refine wpAny_handleBy_cons (codeAny_handlers_test (qw J5 hg hm ?_ kK)) (by intro q;cases q)
   refine(PySem.W.exm_one J5.vE (wF.ty C5.2.1) (hC c hok)).here ?_;refine codeAny_handlers_suite_as ?_;refine PyProof.Rows.lands_againW WV fun h6 ZZ ZH=>?_
   have C6:=uF (X:=X.alt X.A X.calm (X.pn++pins) _) (s':=s') J zk os bare un hokH xR (by rw[show Cx.stack (X.alt X.A X.calm (X.pn++pins) _)=X.env ::X.outer from zk];exact ZZ) ((W2.trans W7).trans ZH)
   have J6:Inv (X.alt (X.A.mark (some (.ref a))) false (X.pn++pins) fun _ _=>False) mD cw _ {s' with heap:=h6}:=Inv.alt (X:=X.alt X.A X.calm (X.pn++pins) _) C6.2.2 (fun z=>by cases z) rfl fun p hp=>hp
   have sm:aS H' (upd H' a (.ext (isExc (cl c) a))):=bG C6.1;obtain⟨w6,p6⟩:=w'.new (o:= .exc c) sm C6.1 (show DL X.K cl (bM.push a) _ (.exc c) _ from⟨a,ba⟩)
   have la:(bM.push a).r[S1.length]? =some a:=by
    show(bM.r++[a])[S1.length]? =some a;rw[<-w'.len,List.getElem?_append_right (Nat.le_refl _),Nat.sub_self];rfl
   refine uj (X:=X.alt (X.A.mark (some (.ref a))) false (X.pn++pins) fun _ _=>False) J6 hN hi (.inl hk) (v:= .ref a) rfl (fun s7 J7=>?_) (.inr hk)
   have Z6:eg X.K cl (bM.push a) (upd H' a (.ext (isExc (cl c) a))) (S1++[.exc c]) (cw.set i (some (.ref a))) ((List.replicate δ.length none).set i (some (.loc S1.length))):=by
    refine⟨?_,w6,fun j d e=>?_⟩
    .rw [List.length_set,List.length_set,List.length_replicate,En.len,I.len];exact J.len.symm
    .by_cases hj:i=j
     .subst hj;have hlt:i < (List.replicate δ.length (none:Option V3)).length:=by
       rw[List.length_replicate,En.len,I.len];exact(List.getElem?_eq_some_iff.mp hi).1
      rw[List.getElem?_set_self hlt] at e;cases e;refine⟨.ref a,?_,by unfold aX;exact⟨a,la,rfl⟩⟩
      rw[List.getElem?_set_self];have:cw.length=X.N.length:=J.len;rw[this];exact(List.getElem?_eq_some_iff.mp hi).1
     .rw [List.getElem?_set_ne hj,List.getElem?_replicate] at e;split at e <;> cases e
   have q7:wQ X.K cl (bM.push a) (upd H' a (.ext (isExc (cl c) a))) {nx:=fun Nv H8=>D.nx (Nv.set i none) H8,rt:=D.rt} S2 o2:=by
    cases o2 with
    | nx jj=>
      cases hf;intro Nv T7 H8 p8 E8;refine q (Nv.set i none) T7 H8 ((p'.trans p6).trans p8) ⟨?_,E8.sw,fun j d e=>?_⟩
      .rw [List.length_set,List.length_set];exact E8.len
      .by_cases hj:i=j
       .subst hj;by_cases hlt:i < jj.length
        .rw [List.getElem?_set_self hlt] at e;cases e
        .rw [List.getElem?_eq_none (by rw[List.length_set];omega)] at e;cases e
       .rw [List.getElem?_set_ne hj] at e ⊢;exact E8.val j d e
    | rt v=>
      cases hf;exact fun u T7 H8 p8 w8 r8=>q u T7 H8 ((p'.trans p6).trans p8) w8 r8
   refine wpAny_mono ((Qh a (X.pn++pins)).1 mD s7 _ _ _ J7 ⟨bM.push a,S1++[.exc c],_,o2,S2,Z6,hG,q7⟩) (fun f s8 z=>?_) fun _ _ z=>z.elim
   cases f with
   | next=>
     obtain⟨Nv,H8,J8,z⟩:=z;exact A6 (back J8) hN hi hk fun s9 J9=>⟨_,H8,J9,z⟩
   | brk=>obtain⟨Nv,H8,J8,z⟩:=z;exact z.elim
   | cont=>obtain⟨Nv,H8,J8,z⟩:=z;exact z.elim
   | ret u=>
     obtain⟨v,Nv,H8,J8,r8,z⟩:=z;exact A6 (back J8) hN hi hk fun s9 J9=>⟨v,_,H8,J9,r8,z⟩⟩
end
end L3
end
section
namespace L2
open PySem PySem.Spec PyProof.Rows
theorem L9{H:Hp}{a b C:Addr}(k:nK P w H h)(e:H a=some (.ext (L3.isExc C b))):wF a C h:=by
 obtain⟨p,⟨o,ho⟩,st⟩:=(show d3 P w H h a (.ext (L3.isExc C b)) from k a _ e)
 by_cases hab:a=b
 .subst hab;exact p
 .exfalso
  obtain⟨o2,h2,_⟩:=st h (PySem.W.hideAll h [b]) p fun o q=>PySem.W.hideAll_get [b] q (by simpa using hab)
  rw[PySem.W.hideAll_none [b] (List.mem_singleton.mpr rfl)] at h2;cases h2
def uo:V->Bool | .ref _=>true | .ty _=>true | _=>false
def CM:V->Value | .ref a=> .ref a | .ty n=> .type n | _=> .none
theorem Bh{v:V}{u:Value}(h:uo v=true)(r:RelV v u):u=CM v:=by
 cases v with
 | ref a=>exact r
 | ty n=>exact r
 | _=>cases h
section
variable {X:Cx}
def L4(K:W.Frag):List V->Hp->VK->Prop:=fun xs H Q=>∃a b C cv k,xs=[V.ref a,cv]/\H a=some (.ext (L3.isExc C b))/\XC K C/\uo cv=true/\PySem.W.kitOne K (.ref C) (CM cv)=some k/\Q (.bl k) H
def LJ(K:W.Frag):List V->Hp->VK->Prop:=fun xs H Q=>∃cv k,xs=[V.cN,cv]/\uo cv=true/\PySem.W.kitOne K (.type "NoneType") (CM cv)=some k/\Q (.bl k) H
def XT(K:W.Frag):List V->Hp->VK->Prop:=fun xs H Q=>∃a b C tp Qq k,xs=[V.ref a,V.ref tp]/\H a=some (.ext (L3.isExc C b))/\XC K C/\H tp=some (.tup Qq)/\Qq.all uo=true/\PySem.W.kitAny K (.ref C) (Qq.map CM)=some k/\Q (.bl k) H
theorem ER:kx X (.builtin "isinstance") (L4 X.K):=by
 intro pins s σ H xs us Q I r h;obtain⟨a,b,C,cv,k,rfl,e,T,hc,hk,q⟩:=h;obtain⟨u,w',rfl,ru,xW⟩:=vals2 r;cases ru;rw[Bh hc xW];exact PySem.W.kia_one (FW T) I.vE (L9 I.hok e) hk (fun z=>nomatch z) fun tk=>⟨.bl k,H,I.tok _,rfl,q⟩
theorem Gb:kx X (.builtin "isinstance") (LJ X.K):=by
 intro pins s σ H xs us Q I r h;obtain⟨cv,k,rfl,hc,hk,q⟩:=h;obtain⟨u,w',rfl,ru,xW⟩:=vals2 r;cases ru;rw[Bh hc xW];exact PySem.W.kia_one PySem.W.kitx_none I.vE True.intro hk (fun z=>nomatch z) fun tk=>⟨.bl k,H,I.tok _,rfl,q⟩
end
end L2
namespace L3
open PySem PySem.Spec PyProof.Rows L2
section
variable {X:Cx} {cl:Aag} {E:XK}
def lH(f:FX)(tb:Nat->Option Bool):FX:=fun δ S=>(f δ S).bind fun v S1=>match v with
 | .loc k=>(match S1[k]? with | some (.exc c)=>(match tb c with | some b=> .ok (.d (.bl b)) S1 | none=> .no) | _=> .no)
 | .d .cN=> .ok (.d (.bl false)) S1
 | _=> .no
theorem gu{e c:Expr}{f:FX}{tb:Nat->Option Bool}{cv:V}{p pos:Pos}(he:PX X cl e f)(hc:PE X c (tC cv))(Xc:uo cv=true)(hg:Gl X "isinstance")(hm:X.mg "isinstance"=none)
 (ht:∀c b,tb c=some b->XC X.K (cl c)/\PySem.W.kitOne X.K (.ref (cl c)) (CM cv)=some b) (hn:PySem.W.kitOne X.K (.type "NoneType") (CM cv)=some false)
 (hs:starEach [e,c] X.env=(false,eval e X.env) ::starEach [c] X.env:=by rfl) (Q6:starEach [c] X.env=(false,eval c X.env) ::starEach [] X.env:=by rfl) (nE:(backTo pos (starEach [c] X.env)).any (·.1)=false:=by rfl) :
 PX X cl (.Call (.Name "isinstance" p) [e,c] [] pos) (lH f tb):=⟨by
 have both:kx X (.builtin "isinstance") (fun xs H Q=>L4 X.K xs H Q\/LJ X.K xs H Q):=fun pins s σ H xs us Q I r h=>h.elim (ER pins s σ H xs us Q I r) (Gb pins s σ H xs us Q I r)
 refine(ud both hg hm boot_isinstance (gL he.1 (gL hc lJ Q6) hs) (by decide) (by decide) hs nE).imp fun σ H Q ⟨ρ,S,δ,v,S',En,hf,q⟩=>?_
 obtain⟨v1,S1,h1,h2⟩:=R3.ak hf;refine⟨ρ,S,δ,v1,S1,En,h1,fun u bU H1 p1 w1 r1=>?_⟩
 show L4 X.K [u,cv] H1 Q\/LJ X.K [u,cv] H1 Q;split at h2
 .rename_i k;split at h2
  .rename_i cc hS;split at h2
   .rename_i b hb;cases h2;unfold aX at r1;obtain⟨a,ha,rfl⟩:=r1;obtain⟨b',hH⟩:=w1.ob k a _ ha hS;exact .inl ⟨a,b',cl cc,cv,b,rfl,hH,(ht cc b hb).1,Xc,(ht cc b hb).2,q _ bU H1 p1 w1 (by unfold aX;exact Rep.bl.mpr rfl)⟩
   .cases h2
  .cases h2
 .cases h2;unfold aX at r1;cases Rep.cN.mp r1;exact .inr ⟨cv,false,rfl,Xc,hn,q _ bU H1 p1 w1 (by unfold aX;exact Rep.bl.mpr rfl)⟩
 .cases h2⟩
def YT(f:FX)(tb:Nat->Option Bool):FX:=fun δ S=>(f δ S).bind fun v S1=>match v with
 | .loc k=>(match S1[k]? with | some (.exc c)=>(match tb c with | some b=> .ok (.d (.bl b)) S1 | none=> .no) | _=> .no)
 | _=> .no
def tCs(Qq:List V):TA:=fun _ H Q=>Q Qq H
theorem BS{fs:FA}{n:Nat}(h:∀δ S ds S',fs δ S= .ok ds S'->ds.length=n):∀δ S ds S',fM fs δ S= .ok ds S'->ds.length=n:=fun δ S ds S' e=>h δ S ds S' (jz e)
end
end L3
end
section
namespace L3
open PySem PySem.Spec PyProof.Rows L2
section
variable {α β:Type} {S S':aR} {δ:DE} {c:Nat}
theorem Dc{r:R3 α}{Q:α->aR->Prop}(h:W3 r Q):W3 (Hb r) Q:=by
 obtain⟨a,S,e,q⟩:=h;rw[e];exact⟨a,S,rfl,q⟩
theorem EY{f:FX}{Q:V3->aR->Prop}(h:W3 (f δ S) Q):W3 (u_ f δ S) Q:=Dc h
theorem zr{f:FA}{Q:List V3->aR->Prop}(h:W3 (f δ S) Q):W3 (fM f δ S) Q:=Dc h
theorem O0{f:FZ}{Q:Ou->aR->Prop}(h:W3 (f δ S) Q):W3 (DN f δ S) Q:=Dc h
theorem OA{f:FB}{Q:Bool->aR->Prop}(h:W3 (f δ S) Q):W3 (yP f δ S) Q:=Dc h
theorem KS{F G:FZ}{ok:Nat->Bool}{i:Nat}{Q:Ou->aR->Prop}(h:W3 (F δ S) Q):W3 (u0 F ok i G δ S) Q:=by
 obtain⟨o,S1,e,q⟩:=h;unfold u0;rw[e];exact W3.ok q
theorem Mf{F G:FZ}{ok:Nat->Bool}{i:Nat}{Q:Ou->aR->Prop}(h:F δ S= .ex c S')(hc:ok c=true)(hg:W3 (G ((List.replicate δ.length none).set i (some (.loc S'.length))) (S'++[.exc c])) fun o S2=>∃δ1,o= .nx δ1/\Q (.nx (δ1.set i none)) S2):W3 (u0 F ok i G δ S) Q:=by
 unfold u0;rw[h];refine W3.wh hc (W3.bind (Dc (hg.mono fun o S2 ⟨δ1,e,q⟩=>?_)))
 subst e;exact W3.ok q
theorem Pl{f:FX}{tb:Nat->Option Bool}{Q:V3->aR->Prop}(h:W3 (f δ S) fun v S1=>∃k c b,v= .loc k/\S1[k]? =some (.exc c)/\tb c=some b/\Q (.d (.bl b)) S1):W3 (lH f tb δ S) Q:=W3.bind (h.mono fun v S1 ⟨k,c,b,e,e1,e2,q⟩=>by
 subst e;simp only[e1,e2];exact W3.ok q)
end
end L3
end
section
namespace L3
open PySem PySem.Spec PyProof.Rows L2
def FnV(K:W.Frag)(mg:Aaf)(x:Str):Prop:=∃f,PySem.W.nsIn K mainGlobals x=some (some (.ref f))/\mg x=some (.ref f)
section
variable {X:Cx} {cl:Aag} {E:XK}
def xFn(x:Str):FX:=fun _ S=> .ok (.fn x) S
abbrev GT:=List (Str × (List V3->aR->R3 V3))
def Ft(P:Program)(w:World)(K:W.Frag)(mg:Aaf)(base:Heap)(cl:Aag)(j n:Nat)(l:GT):Prop:=∀x g,l.lookup x=some g->∃k,k<=j/\fJ P w K mg base cl k x n g
def RO(i:Nat)(l:GT)(fs:FA):FX:=fun δ S=>match δ[i]? with
 | some (some (.fn x))=>(match l.lookup x with | some g=>(fs δ S).bind g | none=> .no)
 | _=> .no
end
end L3
end
section
namespace HT
open PySem PySem.Spec PyProof.Rows
section
variable {prog:Program} {w:World} {A:Around} {E:Aab} {s:Shared}
end
end HT
namespace L2
open PySem PySem.Spec PyProof.Rows
def tH:D->Option Key
 | .int n=>some (Sum.inl n)
 | .str x=>some (Sum.inr x)
 | _=>none
theorem x9{K:W.Frag}{B:List Addr}{d:D}{k:Key}{v:V}(h:tH d=some k)(r:Rep K B H d v):v=kV k:=by
 cases d with
 | int n=>cases h;exact Rep.int.mp r
 | str x=>cases h;exact Rep.str.mp r
 | cN=>cases h
 | bl b=>cases h
 | lst ds=>cases h
 | tup ds=>cases h
 | dct ks ds=>cases h
def O9(ks:List Key)(k:Key):Bool:=ks.any fun x=>decide (x=k)
def Ss(ks:List Key)(ds:List D)(k:Key):Option D:=((ks.zip ds).find? fun p=>decide (p.1=k)).map (·.2)
def XI(a b:D):R D:=match b with
 | .dct ks _=>(match tH a with | some k=> .ok (.bl (O9 ks k)) | none=> .no)
 | _=> .no
def Xo(a b:D):R D:=match b with
 | .dct ks _=>(match tH a with | some k=> .ok (.bl (!O9 ks k)) | none=> .no)
 | _=> .no
def WA(d k:D):R D:=match d with
 | .dct ks ds=>(match tH k with | some k=>(match Ss ks ds k with | some x=> .ok x | none=> .no) | none=> .no)
 | _=> .no
section
variable {X:Cx}
def Ws(f:FD):FD:=fun δ=>(f δ).bind fun d=>match d with | .tup ds=> .ok (.tup ds.reverse) | _=> .no
def VR(i:Nat)(f:FD):FS:=fun δ=>(f δ).bind fun d=>match seqD? d with
 | some es=>(uD δ i).bind fun ds=>R.aW (decide (ds.length+es.length<=sizeLine)) (.ok (.nx (δ.set i (.bld (ds++es)))))
 | none=> .no
def VF(f g:FD):aw->R (List D):=fun δ=>(f δ).bind fun d=>(g δ).bind fun e=>match d,e with
 | .int i, .int j=>R.aW (decide (-(2 ^ 62)<=i/\i < 2 ^ 62/\ -(2 ^ 62)<=j/\j < 2 ^ 62/\j - i < 16777216)) (.ok (su i (j - i).toNat))
 | _,_=> .no
end
end L2
namespace L3
open PySem PySem.Spec PyProof.Rows L2
section
variable {X:Cx} {cl:Aag}
def Wu(i:Nat)(f:FX):FZ:=fun δ S=>match kB δ i with
 | none=> .no
 | some k=>match cx S k with
   | none=> .no
   | some _=>(f δ S).bind fun v S1=>match v with
     | .d d=>(match seqD? d with
       | some es=>(match cx S1 k with
         | some ds=>R3.aW (decide (ds.length+es.length<=sizeLine)) (.ok (.nx δ) (S1.set k (.lst (ds++es))))
         | none=> .no)
       | none=> .no)
     | _=> .no
def pV(fo fi fe:FX):FZ:=fun δ S=>(fe δ S).bind fun v S1=>(fo δ S1).bind fun o S2=>(fi δ S2).bind fun j S3=>match v,o,j with
 | .d d, .loc k, .d n=>(match qX S3 k,tH n with | some aC,some key=>R3.aW (decide (aC.length < sizeLine)) (.ok (.nx δ) (S3.set k (.dct (pX aC key d)))) | _,_=> .no)
 | _,_,_=> .no
theorem oF{pos pos':Pos}(hu:X.A.units+1 < cLine)(hv:PX X cl value fe)(ho:PX X cl o fo)(hi:PX X cl i fi)(hs:swapsWith value (some (.Subscript o i pos')) pos.line X.env=pure false:=by rfl):PZ X cl (.Assign [.Subscript o i pos'] value pos) (pV fo fi fe):=
 ⟨(Jj hu ho.1 hi.1 hv.1 hs).imp fun D σ H ⟨ρ,S,δ,ou,S',E,hf,q⟩=>by
   obtain⟨v,S1,h1,h2⟩:=R3.ak hf;obtain⟨o,S2,h3,h4⟩:=R3.ak h2;obtain⟨j,S3,h5,h6⟩:=R3.ak h4;refine⟨ρ,S,δ,v,S1,E,h1,fun u1 bU H1 p1 w1 r1=>⟨bU,S1,δ,o,S2,E.to p1 w1,h3,fun u2 qk H2 p2 w2 r2=>⟨qk,S2,δ,j,S3,(E.to p1 w1).to p2 w2,h5,fun u3 DF H3 p3 w3 r3=>?_⟩⟩⟩
   split at h6
   .rename_i d k n;split at h6
    .rename_i aC key hd hn;obtain⟨hl,h7⟩:=R3.aQ h6;cases h7;have r2':=r2.pre p3;unfold aX at r2';obtain⟨a,a1,rfl⟩:=r2';unfold aX at r3;have:=x9 hn r3;subst this;obtain⟨ys,y1,y2,y3⟩:=w3.ob k a _ a1 (tj hd);have zl:=(r1.pre p2).pre p3;unfold aX at zl;obtain⟨e1,sf⟩:=PV (k:=key) zl y2 y3;have hll:ys.length=aC.length:=by have:=congrArg List.length y2;simpa using this
     refine⟨a,_,rfl,Ds.k (k:=key) y1 (by rw[hll];exact of_decide_eq_true hl),?_⟩
     obtain⟨w4,p4⟩:=w3.put (o:= .dct (pX aC key d)) (u:= .dK (putK ys key u1)) a1 (w3.fz k a a1 (by rw[tj hd];intro h;cases h)) ⟨_,rfl,e1,sf⟩
     exact q σ DF _ (p1.trans (p2.trans (p3.trans p4))) (E.to (p1.trans (p2.trans (p3.trans p4))) w4)
    .cases h6
   .cases h6⟩
theorem qq{fo fi fe:FX}{δ:DE}{S:aR}{QO:Ou->aR->Prop}(h:W3 (fe δ S) fun v S1=>W3 (fo δ S1) fun o S2=>W3 (fi δ S2) fun j S3=>∃d k n key aC,v= .d d/\o= .loc k/\j= .d n/\tH n=some key/\S3[k]? =some (.dct aC)/\aC.length < sizeLine/\QO (.nx δ) (S3.set k (.dct (pX aC key d)))):W3 (pV fo fi fe δ S) QO:=
 W3.bind (h.mono fun _ _ h=>W3.bind (h.mono fun _ _ h=>W3.bind (h.mono fun _ S3 ⟨d,k,n,key,aC,e1,e2,e3,e6,e4,hl,q⟩=>by
  subst e1 e2 e3;have e5:qX S3 k=some aC:=by unfold qX;simp only[e4]
  simp only[e5,e6];exact W3.wh (decide_eq_true hl) (W3.ok q))))
end
end L3
end
section
namespace PySem.W
open PySem PySem.Calls PyProof.Rows
def Kl{α:Type}(n:Nat)(lt:Nat->Nat->Bool):KasT α->Option α
 | .ret a=>some a
 | .ask i j k=>if i < n/\j < n then Kl n lt (k (lt i j)) else none
section
variable {prog:Program} {w:World} {A:Around} {E:Aab} {s:Shared} {a:Addr} {vs:List Value} {κ:SortKind}
abbrev Zj(h:Heap)(a:Addr)(vs:List Value):Heap:=((h.update a (Obj.mapSeq fun _=>(#[]:Array Value))).push (seqObj "tuple" vs.toArray 0)).push (seqObj "list" #[] 0)
end
end PySem.W
namespace L2
open PySem PySem.Spec PyProof.Rows
def Ye:D->Option (Int × List Int)
 | .tup [.int a, .tup zs]=>(ints? zs).map fun ns=>(a,ns)
 | _=>none
def PQ:List D->Option (List (Int × List Int))
 | []=>some []
 | d ::ds=>(Ye d).bind fun p=>(PQ ds).map (p ::·)
def YV(x y:Int × List Int):Bool:=if x.1=y.1 then(if x.2=y.2 then false else HT.lexLt x.2 y.2) else decide (x.1 < y.1)
def Tt(ps:List (Int × List Int)):Option (Array Nat):=PySem.W.Kl ps.length (fun i j=>YV (ps.getD i (0,[])) (ps.getD j (0,[]))) (PySem.W.kas_sort ps.length)
def Sw:List D->R D
 | [.lst ds]=>(match PQ ds with
   | some ps=>R.aW (decide (2<=ps.length/\ps.length < 64)) (match Tt ps with | some p=>R.aW (p.toList.all (fun i=>decide (i < ps.length)) && decide (p.toList.length < 64)) (.ok (.lst (p.toList.map fun i=>ds.getD i .cN))) | none=> .no)
   | none=> .no)
 | _=> .no
def Yf(h:Heap)(v:Value)(p:Int × List Int):Prop:=
 ∃(x b:Addr) (t:Tok) (n:Nat) (o:Obj) (its:Array Value),v= .ref x/\h.get? x=some o/\o.cls= .type "tuple"/\o.data= .seq #[.int p.1 t, .ref b] n/\IsTup h b its/\IntsAre its.toList p.2
section
variable {X:Cx}
end
end L2
end
section
namespace L2
open PySem PySem.Spec PyProof.Rows
def P6(d a:D):Bool:=PyData.eqv (toPy d) (toPy a)
def Wh(d:D):Bool:=cQ d && (toPy d).canLay0 && decide ((toPy d).depth<=8)
def Wn(a b:D):R Bool:=match seqD? b with
 | some ds=>R.aW (Wh a && ds.all Wh) (.ok (ds.any fun d=>P6 d a))
 | none=> .no
def Yj(a b:D):R D:=(Wn a b).bind fun x=> .ok (.bl x)
def YZ(a b:D):R D:=(Wn a b).bind fun x=> .ok (.bl (!x))
section
variable {X:Cx}
open Classical in
def VM(h:Heap)(a:D)(y:Value):Bool:=decide (∃d as,Reads h y (toPy d) as/\(toPy d).canLay0=true/\P6 d a=true)
open Classical in
theorem Sr{a d:D}{y:Value}{as:List Addr}(r:Reads h y (toPy d) as)(hl:(toPy d).canLay0=true):VM h a y=P6 d a:=by
 unfold VM;cases q:P6 d a with
 | true=>exact decide_eq_true ⟨d,as,r,hl,q⟩
 | false=>
   refine decide_eq_false fun⟨d',as',r',Qj,q'⟩=>?_
   have:=SeqAt.Reads.unique _ _ y as as' hl r r';unfold P6 at q q';rw[<-this,q] at q';cases q'
end
end L2
end
section
set_option maxHeartbeats 1000000
namespace L3
open PySem PySem.Spec PyProof.Rows L2
section
variable {X:Cx} {cl:Aag}
def V1(i:Nat)(F:FZ):FZ:=fun δ S=>match kB δ i with
 | some k=>(match S[k]? with | some (.dct aC)=>F (δ.set i (some (.d (.dct (aC.map (·.1)) (aC.map (·.2)))))) (S.set k .ik) | _=> .no)
 | none=> .no
end
end L3
end
section
set_option maxHeartbeats 3200000
namespace PySem.W
open PySem PySem.Calls PyProof.Rows
namespace F2
end F2
section
variable {prog:Program} {w:World} {A:Around} {E:Aab} {s:Shared}
end
section
variable {prog:Program} {w:World} {K:Type} [DecidableEq K] {knd:KeyKind prog w K} {A:Around} {s:Shared}
def R8(knd:KeyKind prog w K)(h:Heap)(v:Value)(q:K × Value):Prop:=
 ∃(x:Addr) (n:Nat) (o:Obj) (kv:Value),v= .ref x/\h.get? x=some o/\o.cls= .type "tuple"/\o.data= .seq #[kv,q.2] n/\knd.is q.1 kv=true
def fills(qs:List (K × Value))(aC:List (K × Value)):List (K × Value):=qs.foldl (fun acc q=>stored acc q.1 q.2) aC
end
end PySem.W
namespace L2
open PySem PySem.Spec PyProof.Rows
def YA:D->Option (Key × D)
 | .tup [a,b]=>(tH a).map fun k=>(k,b)
 | _=>none
def Pw:List D->Option (List (Key × D))
 | []=>some []
 | d ::ds=>(YA d).bind fun p=>(Pw ds).map (p ::·)
def Ky(qs:List (Key × D))(aC:List (Key × D)):List (Key × D):=qs.foldl (fun acc q=>L3.pX acc q.1 q.2) aC
def Rf:List D->R D
 | [.lst ds]=>(match Pw ds with
   | some qs=>R.aW (decide (ds.length<=1000000)) (.ok (.dct ((Ky qs []).map (·.1)) ((Ky qs []).map (·.2))))
   | none=> .no)
 | _=> .no
section
variable {X:Cx}
end
end L2
end
section
set_option maxHeartbeats 1000000
namespace L3
open PySem PySem.Spec PyProof.Rows L2
def G9(g:List V3->aR->R3 V3):List V3->aR->R3 V3:=fun vs S=>match g vs S with
 | .ok v S'=>(match res S' v with
   | some d=>R3.aW ((S'.take S.length).all (yJ S.length) && nF S.length v) (.ok (.d d) (S'.take S.length))
   | none=> .no)
 | .ex c S'=>R3.aW ((S'.take S.length).all (yJ S.length)) (.ex c (S'.take S.length))
 | .no=> .no
theorem Lb{K:W.Frag}{cl:Aag}{g:List V3->aR->R3 V3}{n:Nat}{vs:List V}{Q:VK}{E:XK}(h:yd K cl n (G9 g) vs H Q E):yd K cl n g vs H Q E:=by
 obtain⟨hl,ρ,S,xs,w,r,z⟩:=h;refine⟨hl,ρ,S,xs,w,r,?_⟩;have pc:∀{bU H1},Pre ρ H bU H1->Pre ρ H (bU.cut S.length) H1:=fun p1=>SW.Ey (K:=K) (cl:=cl) (by rw[w.len];exact Nat.le_refl _) p1
 rcases z with⟨v,S',hg,q⟩ | ⟨c,S',hg,q⟩
 .unfold G9 at hg;split at hg
  .rename_i v1 S1 h1;split at hg
   .rename_i d e;obtain⟨ok,h3⟩:=R3.aQ hg;obtain⟨ok,hk⟩:=Bool.and_eq_true_iff.mp ok;cases h3;refine .inl ⟨v1,S1,h1,fun u bU H1 p1 w1 r1=>q u _ H1 (pc p1) (w1.cut ok) ?_⟩
    unfold aX;refine r1.resB w1 (jt _) (fun k a hk a1 ha=>?_) hk e
    rcases P3.dA.mp ha with⟨z,_⟩ | z
    .obtain⟨j,hj⟩:=List.getElem?_of_mem z;have hj:(bU.r.take S.length)[j]? =some a:=hj;rw[List.getElem?_take] at hj;split at hj
     .rename_i hjl;have:=w1.nd j k a hj a1;omega
     .cases hj
    .exact(w1.zb a z).2 (List.mem_of_getElem? a1)
   .cases hg
  .rename_i c1 S1 h1;unfold R3.aW at hg;split at hg <;> cases hg
  .cases hg
 .unfold G9 at hg;split at hg
  .rename_i v1 S1 h1;split at hg
   .unfold R3.aW at hg;split at hg <;> cases hg
   .cases hg
  .rename_i c1 S1 h1;unfold R3.aW at hg;split at hg
   .rename_i ok;cases hg;exact .inr ⟨_,S1,h1,fun bU H1 p1 w1=>q _ H1 (pc p1) (w1.cut ok)⟩
   .cases hg
  .cases hg
theorem fJ.q{K:W.Frag}{mg:Aaf}{cl:Aag}{k:Nat}{n:Nat}{g:List V3->aR->R3 V3}(C:fJ P w K mg base cl k x n g):fJ P w K mg base cl k x n (G9 g):=
 let⟨f,fd,ps,F,h⟩:=C;⟨f,fd,ps,F.imp fun _ _ _ _ h=>Lb h,h⟩
section
variable {X:Cx} {cl:Aag} {E:XK}
def M0(f:FX):FX:=fun δ S=>(f δ S).bind fun v S1=>match v with | .d (.bl b)=> .ok (.d (.bl (!b))) S1 | _=> .no
theorem MG(ha:PX X cl a f):PX X cl (.UnaryOp .Not a pos) (M0 f):=⟨(L6 ha.1).imp fun σ H Q ⟨ρ,S,δ,v,S',En,hf,q⟩=>by
 obtain⟨v1,S1,h1,h2⟩:=R3.ak hf;split at h2
 .rename_i b;cases h2;refine⟨ρ,S,δ,_,_,En,h1,fun u bU H1 p1 w1 r1=>⟨b,?_,q _ bU H1 p1 w1 (by unfold aX;exact Rep.bl.mpr rfl)⟩⟩
  unfold aX at r1;exact Rep.bl.mp r1
 .cases h2⟩
theorem Lq{f:FX}{δ:DE}{S:aR}{Q:V3->aR->Prop}(h:W3 (f δ S) fun v S1=>∃b,v= .d (.bl b)/\Q (.d (.bl (!b))) S1):W3 (M0 f δ S) Q:=W3.bind (h.mono fun v S1 ⟨b,e,q⟩=>by subst e;exact W3.ok q)
def RT(K:W.Frag)(cl:Aag)(E:XK)(ρ:P3)(H:Hp)(D:Ends)(r:R3 Ou):Prop:=match r with
 | .ok o S'=>wQ K cl ρ H D S' o
 | .ex c S'=>Bx K cl E ρ H S' c
 | .no=>False
def QR(f:FA):FA:=fun δ S=>Hb (f δ S)
theorem AV{tg iter:Expr}{body:List Stmt}{it:FA}{t:FG}{F:FZ}{pos:Pos}(hp:PassesOwn (model X.prog X.w) X.A X.env X.xe)(hc:X.calm=true)(hi:QG X cl tg iter it)(hg:QI X cl tg t)(hb:uS X cl E body F)
 (hs:∀x,foldedSetIterable iter X.env x=pure x:=by intro _;rfl):JZ X cl E (.For tg iter body [] pos) (yT (QR it) t F):=⟨(Aq hp hc hi.1 hg.1 hb.1 hs).imp fun D σ H ⟨ρ,S,δ,En,z⟩=>by
 have key:∃ds S0,it δ S= .ok ds S0/\RT X.K cl E ρ H D (ip t F ds δ S0):=by
  rcases z with⟨o,S',hf,q⟩ | ⟨c,S',hf,q⟩
  .obtain⟨ds,S0,h1,h2⟩:=R3.ak hf;exact⟨ds,S0,jz h1,by rw[h2];exact q⟩
  .rcases R3.fI hf with h1 | ⟨ds,S0,h1,h2⟩
   .exact(pU h1).elim
   .exact⟨ds,S0,jz h1,by rw[h2];exact q⟩
 obtain⟨ds,S0,h1,wi⟩:=key;obtain⟨r,hr⟩:∃r,ip t F ds δ S0=r:=⟨_,rfl⟩;rw[hr] at wi;refine⟨ρ,S,δ,ds,S0,En,h1,fun J bU H1 p1 w1 ir=>?_⟩
 refine⟨fun i m cw H'=>m=ds.length - i/\i<=ds.length/\∃bM S1 dC,Pre bU H1 bM H'/\eg X.K cl bM H' S1 cw dC/\ip t F (ds.drop i) dC S1=r,⟨ds.length,rfl,Nat.zero_le _,bU,S0,δ,Pre.refl bU H1,En.to p1 w1,by simpa using hr⟩,?_⟩
 rintro i m cw H' ⟨rfl,hi,bM,S1,dC,pv,E',hl⟩;obtain⟨go,stop⟩:=ir bM H' pv.pw E'.sw.bs;by_cases hlt:i < ds.length
 .have hd:ds[i]? =some ds[i]:=List.getElem?_eq_getElem hlt;have hdrop:ds.drop i=ds[i] ::ds.drop (i+1):=List.drop_eq_getElem_cons hlt;rw[hdrop] at hl;unfold ip at hl;split at hl
  .rw [<-hl] at wi;exact wi.elim
  .rename_i δ1 h3;obtain⟨g1,g2⟩:=go i _ hd;refine .inr ⟨g1,fun vj H2=>∃qk S2 jj,Pre bU H1 qk H2/\eg X.K cl qk H2 S2 vj jj/\ip t F (ds.drop (i+1)) jj S2=r,fun vj H2 n=>⟨ds.length - (i+1),by omega,rfl,hlt,n⟩,fun x qa y=>?_⟩
   obtain⟨ss,rr⟩:=g2 x qa y;refine⟨bM,S1,dC,ds[i],δ1,E'.same ss,rr,h3,fun vj H2 s2 E2=>⟨bM,S1,δ1,E2,?_⟩⟩
   have pv2:Pre bU H1 bM H2:=pv.trans (Pre.same (ss.trans s2));cases hF:F δ1 S1 with
   | no=>rw [hF] at hl;rw [<-hl] at wi;exact wi.elim
   | ex c S2=>
     rw[hF] at hl;have hl:R3.ex c S2=r:=hl;rw[<-hl] at wi;exact .inr ⟨c,S2,rfl,Bx.pre wi (p1.trans pv2)⟩
   | ok o1 S2=>
     rw[hF] at hl;refine .inl ⟨o1,S2,rfl,?_⟩;cases o1 with
     | nx jj=>exact fun Hn DF H3 p3 E3=>⟨DF,S2,jj,pv2.trans p3,E3,hl⟩
     | rt d=>
       have hl:R3.ok (Ou.rt d) S2=r:=hl;rw[<-hl] at wi;exact fun v DF H3 p3 w r=>wi v DF H3 (p1.trans (pv2.trans p3)) w r
 .have e:i=ds.length:=by omega
  subst e;rw[List.drop_length] at hl;have hl:R3.ok (Ou.nx dC) S1=r:=hl;rw[<-hl] at wi;exact .inl ⟨stop,wi cw bM H' (p1.trans pv) E'⟩⟩
theorem As{P:Program}{w:World}{K:W.Frag}{mg:Aaf}{base:Heap}{N:List Str}{qual:Str}{scope:Scope}{f:Addr}{cd:Value}{A:Around}{outer:List Env}{s:Shared}{H:Hp}{E:XK} :
 PassesOwn (model P w) (md (xO P w) P w K mg base N qual scope f cd A outer s H E).A (md (xO P w) P w K mg base N qual scope f cd A outer s H E).env (md (xO P w) P w K mg base N qual scope f cd A outer s H E).xe:=PassesOwn.leaving
def lh(P:Program)(w:World)(K:W.Frag)(mg:Aaf)(base:Heap)(cl:Aag)(k c:Nat)(m:Str)(n:Nat)(g:List V3->aR->R3 V3):Prop:=
 ∃(f:Addr) (fd:FuncData) (ps:List Str),x8 K (cl c)/\Meth K (cl c) m f/\jk P w K mg base (xO P w) k f fd ps (yd K cl (n+1) g)/\Binds K fd ps []
theorem nO{g:List V3->aR->R3 V3}{k j n c:Nat}{m:Str}{o e:Expr}{es:List Expr}{fo:FX}{fs:FA}{apos pos:Pos}{pl:Sem Bool}(hp:Passes (xO X.prog X.w) X E)(M:lh X.prog X.w X.K X.mg X.base cl k c m n g)(hr:dU j X.A)(GY:k<=j)(ho:PX X cl o fo)(ha:Jl X cl (e ::es) fs)(hn:∀δ S ds S',fs δ S= .ok ds S'->ds.length=n)
 (zk:starEach (e ::es) X.env=(false,eval e X.env) ::starEach es X.env:=by rfl) (nE:(backTo pos (starEach es X.env)).any (·.1)=false:=by rfl)
 (ht:eval (.Call (.Attribute o m apos) (e ::es) [] pos) X.env=(do
   let ov <-eval o X.env
   standAt apos.atName
   let(f,first) <-holding [ov] (getMethod ov m pl)
   callWith pos f first (backTo pos (starEach (e ::es) X.env)) (backToKw pos (keywordEach [] X.env))):=by rfl) :
 MZ X cl E (.Call (.Attribute o m apos) (e ::es) [] pos) (qE c m g (u_ fo) (fM fs)):=by
 obtain⟨f,fd,ps,hC,hm,F,hb⟩:=M;refine⟨(JG ho.1 hC hm F (hr.mono GY) hb .nil hp ha.1 zk nE ht).imp fun σ H Q ⟨ρ,S,δ,En,z⟩=>?_⟩
 have key:∃kk ys S1 vs S2,fo δ S= .ok (.loc kk) S1/\l_ S1 c kk=some ys/\ys.lookup m=none/\fs δ S1= .ok vs S2/\((∃v S',g (.loc kk ::vs) S2= .ok v S'/\∀u bM H',Pre ρ H bM H'->SW X.K cl bM H' S'->aX X.K bM H' v u->Q u H')\/∃c S',g (.loc kk ::vs) S2= .ex c S'/\Bx X.K cl E ρ H S' c):=by
  have go:∀{r:R3 V3},qE c m g (u_ fo) (fM fs) δ S=r->r≠ .no->∃kk ys S1 vs S2,fo δ S= .ok (.loc kk) S1/\l_ S1 c kk=some ys/\ys.lookup m=none/\fs δ S1= .ok vs S2/\g (.loc kk ::vs) S2=r:=fun {r} hr sF=>by
   unfold qE at hr;cases hfo:fo δ S with
   | no=>unfold u_ at hr;rw [hfo] at hr;exact absurd hr.symm sF
   | ex c' S'=>unfold u_ at hr;rw [hfo] at hr;exact absurd hr.symm sF
   | ok o S1=>
     unfold u_ at hr;rw[hfo] at hr;simp only[Hb,R3.aO] at hr;split at hr
     .rename_i kk;split at hr
      .rename_i ys e1;split at hr
       .rename_i sf;cases hfs:fs δ S1 with
        | no=>unfold fM at hr;rw [hfs] at hr;exact absurd hr.symm sF
        | ex c' S'=>unfold fM at hr;rw [hfs] at hr;exact absurd hr.symm sF
        | ok vs S2=>
          unfold fM at hr;rw[hfs] at hr;exact⟨kk,ys,S1,vs,S2,rfl,e1,sf,hfs,hr⟩
       .exact absurd hr.symm sF
      .exact absurd hr.symm sF
     .exact absurd hr.symm sF
  rcases z with⟨v,S',hf,q⟩ | ⟨c',S',hf,q⟩
  .obtain⟨kk,ys,S1,vs,S2,a1,a2,a3,a4,a5⟩:=go hf (fun h=>by cases h)
   exact⟨kk,ys,S1,vs,S2,a1,a2,a3,a4, .inl ⟨v,S',a5,q⟩⟩
  .obtain⟨kk,ys,S1,vs,S2,a1,a2,a3,a4,a5⟩:=go hf (fun h=>by cases h)
   exact⟨kk,ys,S1,vs,S2,a1,a2,a3,a4, .inr ⟨c',S',a5,q⟩⟩
 obtain⟨kk,ys,S1,vs,S2,h1,e1,sf,h3,z⟩:=key;refine⟨ρ,S,δ, .loc kk,S1,En,h1,fun u bU H1 p1 w1 r1=>?_⟩
 have zl:=r1;unfold aX at r1;obtain⟨a,a1,rfl⟩:=r1;obtain⟨dx,zs,ey,ek,rs⟩:=w1.ob kk a _ a1 (mP e1);refine⟨a,dx,zs,rfl,ey,yg ek sf,bU,S1,δ,vs,S2,En.to p1 w1,h3,fun us qk H2 p2 w2 r2=>?_⟩
 show yd X.K cl (n+1) g (V.ref a ::(us++[])) H2 Q E;rw[List.append_nil];refine⟨by rw[List.length_cons,<-r2.length,hn δ S1 vs S2 h3],qk,S2, .loc kk ::vs,w2,aI.cons (zl.pre p2) r2,?_⟩
 rcases z with⟨v,S',h4,q⟩ | ⟨c',S',h4,q⟩
 .exact .inl ⟨v,S',h4,fun z DF H3 p3 w3 r3=>q z DF H3 (p1.trans (p2.trans p3)) w3 r3⟩
 .exact .inr ⟨c',S',h4,q.pre (p1.trans p2)⟩
theorem XG{g:List V3->aR->R3 V3}{vs:List V3}{S:aR}{QV:V3->aR->Prop}(hS:MN S)(h:W3 (g vs S) fun v S1=>nF S.length v=true/\(∃T,S1=S++T)/\∃d,res S1 v=some d/\QV (.d d) S):W3 (G9 g vs S) QV:=by
 obtain⟨v,S1,e,hg,⟨T,rfl⟩,d,hd,q⟩:=h;unfold G9;rw[e];simp only[hd];rw[List.take_append_of_le_length (Nat.le_refl _),List.take_length];exact W3.wh (by rw[List.all_eq_true.mpr hS,hg];rfl) (W3.ok q)
theorem Yt{g:List V3->aR->R3 V3}{vs:List V3}{S T:aR}{c:Nat}(hS:MN S)(h:g vs S= .ex c (S++T)):G9 g vs S= .ex c S:=by
 unfold G9;rw[h];simp only;rw[List.take_append_of_le_length (Nat.le_refl _),List.take_length];unfold R3.aW;rw[List.all_eq_true.mpr hS];rfl
def WE{α:Type}(r:R3 α)(Q:α->aR->Prop)(Y:Nat->aR->Prop):Prop:=(∃a S,r= .ok a S/\Q a S)\/∃c S,r= .ex c S/\Y c S
section
variable {α β:Type} {S:aR} {δ:DE} {Y:Nat->aR->Prop}
theorem WE.bind{r:R3 α}{f:α->aR->R3 β}{Q:β->aR->Prop}(h:WE r (fun a S1=>WE (f a S1) Q Y) Y):WE (r.bind f) Q Y:=by
 rcases h with⟨a,S1,rfl,q⟩ | ⟨c,S1,rfl,q⟩
 .exact q
 .exact .inr ⟨c,S1,rfl,q⟩
theorem WE.mono{r:R3 α}{Q Q':α->aR->Prop}{Y':Nat->aR->Prop}(h:WE r Q Y)(m:∀a S,Q a S->Q' a S)(n:∀c S,Y c S->Y' c S):WE r Q' Y':=by
 rcases h with⟨a,S1,e,q⟩ | ⟨c,S1,e,q⟩
 .exact .inl ⟨a,S1,e,m _ _ q⟩
 .exact .inr ⟨c,S1,e,n _ _ q⟩
theorem WE.ok{a:α}{Q:α->aR->Prop}(h:Q a S):WE (.ok a S) Q Y:= .inl ⟨a,S,rfl,h⟩
theorem gT{F G:FZ}{Q:Ou->aR->Prop}(h:WE (F δ S) (fun o S1=>∃δ1,o= .nx δ1/\WE (G δ1 S1) Q Y) Y):WE (cR F G δ S) Q Y:=WE.bind (h.mono (fun o S1 ⟨δ1,e,q⟩=>by subst e;exact q) fun _ _ q=>q)
theorem xF{F:FZ}{Q:Ou->aR->Prop}(h:W3 (F δ S) Q):WE (DN F δ S) Q Y:= .inl (O0 h)
theorem pS{fc:FB}{F G:FZ}{Q:Ou->aR->Prop}(h:W3 (fc δ S) fun b S1=>if b then WE (F δ S1) Q Y else WE (G δ S1) Q Y):WE (tK (yP fc) F G δ S) Q Y:=WE.bind (.inl (OA (h.mono fun b S1 q=>by
 show WE (if b=true then F δ S1 else G δ S1) Q Y
 cases b with
 | true=>rw [if_pos rfl] at q ⊢;exact q
 | false=>rw [if_neg (by decide)] at q ⊢;exact q)))
theorem uq{f:FX}{Q:Ou->aR->Prop}(h:WE (f δ S) (fun v S1=>Q (.nx δ) S1) Y):WE (um f δ S) Q Y:=WE.bind (h.mono (fun v S1 q=>WE.ok q) fun _ _ q=>q)
theorem E5{f:FX}{Q:V3->aR->Prop}(h:W3 (f δ S) Q):WE (u_ f δ S) Q Y:= .inl (EY h)
theorem Gd{g:List V3->aR->R3 V3}{fs:FA}{Q:V3->aR->Prop}(h:W3 (fs δ S) fun vs S1=>WE (g vs S1) Q Y):WE (ui g (fM fs) δ S) Q Y:=WE.bind (.inl (zr h))
theorem tL{c k:Nat}{g:List V3->aR->R3 V3}{fo:FX}{fs:FA}{Q:V3->aR->Prop}(h:W3 (fo δ S) fun v S1=>∃ys,v= .loc k/\S1[k]? =some (.ins c ys)/\ys.lookup m=none/\W3 (fs δ S1) fun vs S2=>WE (g (.loc k ::vs) S2) Q Y):WE (qE c m g (u_ fo) (fM fs) δ S) Q Y:=
 WE.bind (.inl (EY (h.mono fun v S1 ⟨ys,e1,sf,e3,q⟩=>by
  subst e1;have e4:l_ S1 c k=some ys:=by unfold l_;simp only[sf,if_true]
  simp only[e4,e3];exact WE.bind (.inl (zr q)))))
theorem qT{c:Nat}{fs:FA}{Q:Ou->aR->Prop}(h:W3 (fs δ S) fun vs S1=>vs.length<=sizeLine/\Y c S1):WE (fN c (fM fs) δ S) Q Y:=WE.bind (.inl (zr (h.mono fun vs S1 ⟨h1,h2⟩=>by
 unfold R3.aW;rw[decide_eq_true h1];exact .inr ⟨c,S1,rfl,h2⟩)))
theorem nM{Q:Ou->aR->Prop}(h:Q (.nx δ) S):WE (mL δ S) Q Y:=WE.ok h
theorem Na{N:List Str}{F:FZ}{vs:List V3}{Q:V3->aR->Prop}(e:dq N vs=δ)(h:WE (F δ S) (fun o S1=>match o with | .rt v=>Q v S1 | .nx _=>Q (.d .cN) S1) Y):WE (uO N F vs S) Q Y:=by
 unfold uO;rw[e];refine WE.bind (h.mono (fun o S1 q=>?_) fun _ _ q=>q)
 cases o with
 | nx δ1=>exact WE.ok q
 | rt v=>exact WE.ok q
theorem Yr{g:List V3->aR->R3 V3}{vs:List V3}{QV:V3->aR->Prop}(hS:MN S)(h:WE (g vs S) (fun v S1=>nF S.length v=true/\(∃T,S1=S++T)/\∃d,res S1 v=some d/\QV (.d d) S) (fun c S1=>(∃T,S1=S++T)/\Y c S)):WE (G9 g vs S) QV Y:=by
 rcases h with h | ⟨c,S1,e,⟨T,rfl⟩,q⟩
 .exact .inl (XG hS h)
 .exact .inr ⟨c,S,Yt hS e,q⟩
theorem LN{t:FG}{F:FZ}(I:Nat->DE->aR->Prop){vs:List V3}(h0:I 0 δ S)(step:∀i v δ1 S1,vs[i]? =some v->I i δ1 S1->∃jj,t v δ1=some jj/\WE (F jj S1) (fun o S2=>∃Va,o= .nx Va/\I (i+1) Va S2) Y) :
 WE (ip t F vs δ S) (fun o S1=>∃δ1,o= .nx δ1/\I vs.length δ1 S1) Y:=by
 induction vs generalizing I δ S with
 | nil=>exact .inl ⟨_,_,rfl,δ,rfl,h0⟩
 | cons v vs ih=>
   obtain⟨jj,e,h⟩:=step 0 v δ S rfl h0;unfold ip;rw[e];refine WE.bind (h.mono (fun o S2 ⟨Va,e3,q⟩=>?_) fun _ _ q=>q)
   subst e3;exact ih (fun i=>I (i+1)) q fun i w δ1 S1 hw hi=>step (i+1) w δ1 S1 hw hi
theorem Kf{it:FA}{Q:Ou->aR->Prop}(h:W3 (it δ S) fun vs S1=>WE (ip t F vs δ S1) Q Y):WE (yT (QR it) t F δ S) Q Y:=WE.bind (.inl (Dc h))
theorem Oq{F G:FZ}{ok:Nat->Bool}{i:Nat}{Q:Ou->aR->Prop}(h:WE (F δ S) Q fun c S1=>ok c=true/\W3 (G ((List.replicate δ.length none).set i (some (.loc S1.length))) (S1++[.exc c])) fun o S2=>∃δ1,o= .nx δ1/\Q (.nx (δ1.set i none)) S2):W3 (u0 F ok i G δ S) Q:=by
 rcases h with h | ⟨c,S1,e,h1,h2⟩
 .exact KS h
 .exact Mf e h1 h2
end
end
end L3
end
section
namespace L2
open PySem PySem.Spec PyProof.Rows
def gK(ks:List (Str × Int)):List (Key × V):=ks.map fun p=>(Sum.inr p.1,V.int p.2)
def og(P:Program)(w:World)(K:W.Frag)(mg:Aaf)(x:Str)(ks:List (Str × Int)):Prop:=∃a,mg x=some (.ref a)/\∀(H:Hp) (h:Heap),K.In h->d3 P w H h a (.dK (gK ks))
theorem wa(x:Str):∀ks:List (Str × Int),jy (gK ks) (Sum.inr x)=(ks.lookup x).map V.int
 | []=>rfl
 | (y,i) ::ks=>by
   have ih:=wa x ks;unfold jy gK at ih ⊢;rw[List.map_cons,List.find?_cons,List.lookup_cons];by_cases h:x=y
   .subst h;simp
   .have h1:decide ((Sum.inr y:Key)=Sum.inr x)=false:=decide_eq_false fun q=>h (Sum.inr.inj q).symm
    have h2:(x==y)=false:=beq_eq_false_iff_ne.mpr h;simp only[h1,h2];exact ih
def O_(w:World)(es:List (Str × Tok × Int × Tok)):List DictEntry:=es.map fun e=>⟨hashStr w e.1, .str e.1 e.2.1, .int e.2.2.1 e.2.2.2⟩
theorem yE{P:Program}{w:World}{K:W.Frag}{h:Heap}{mg:Aaf}(X:K.In h)(G:h.Ns mainGlobals mg){x:Str}{a:Addr}{es:Array DictEntry}{n:Nat}(ts:List (Str × Tok × Int × Tok)){ks:List (Str × Int)}
 (e:PySem.W.nsIn K mainGlobals x=some (some (.ref a))) (l:K.lookup a=some {cls:= .type "dict",data:= .dict es n}) (hs:es.toList=O_ w ts) (hk:ks=ts.map fun e=>(e.1,e.2.2.1)) (hd:(ks.map (·.1)).Nodup) (hm:(a==sysModules)=false) (hz:ks.length<=1000):og P w K mg x ks:=by
 subst hk;refine⟨a,PySem.W.mg_of X G e,fun H h2 X2=>⟨?_,hm,ts.map fun e=>(Sum.inr e.1, .int e.2.2.1 e.2.2.2),?_,_,es,n,X2 a _ l,⟨rfl,rfl,?_⟩,rfl,fun q hq=>?_,?_,?_⟩⟩
 .unfold gK;rw [List.length_map,sizeLine_eq];omega
 .unfold gK;rw[List.map_map]
  clear hs hd hz
  induction ts with
  | nil=>exact .nil
  | cons t ts ih=>exact .cons ⟨rfl,⟨_,rfl⟩⟩ ih
 .rfl
 .have:q∈O_ w ts:=by rw[<-hs];exact Array.mem_toList_iff.mpr hq
  obtain⟨t,_,rfl⟩:=List.mem_map.mp this;exact⟨Sum.inr t.1,nU P w _ _,rfl⟩
 .rw [hs]
  clear hs hd hz
  induction ts with
  | nil=>exact .nil
  | cons t ts ih=>exact .cons (nU P w _ _) rfl ih
 .rw [List.map_map] at hd ⊢;have:(ts.map ((fun x:Key × Value=>x.1) ∘ fun e:Str × Tok × Int × Tok=>(Sum.inr e.1, .int e.2.2.1 e.2.2.2)))=(ts.map ((fun x:Str × Int=>x.1) ∘ fun e:Str × Tok × Int × Tok=>(e.1,e.2.2.1))).map Sum.inr:=by
   rw[List.map_map];rfl
  rw[this];exact hd.map _ fun _ _ z q=>z (Sum.inr.inj q)
section
variable {X:Cx}
theorem wz{ks:List (Str × Int)}{p:Pos}(g:og X.prog X.w X.K X.mg x ks)(hg:Gl X x)(kK:(x==("__debug__":Str))=false:=by decide):∃a,PE X (.Name x p) (tC (.ref a))/\∀(H:Hp) (h:Heap),X.K.In h->d3 X.prog X.w H h a (.dK (gK ks)):=by
 obtain⟨a,hm,ok⟩:=g;exact⟨a,dG (v:= .ref a) hg hm rfl kK,ok⟩
def NY(ks:List (Str × Int))(d:D):R Bool:=match d with | .str x=> .ok (ks.lookup x).isSome | _=> .no
def Ll(ks:List (Str × Int))(f:FD):FD:=fun δ=>(f δ).bind fun d=>(NY ks d).bind fun b=> .ok (.bl b)
def YE(ks:List (Str × Int))(f:FD):FD:=fun δ=>(f δ).bind fun d=>(NY ks d).bind fun b=> .ok (.bl (!b))
def Yu(ks:List (Str × Int))(f:FD):aw->R Bool:=fun δ=>(f δ).bind fun d=>NY ks d
def Mn(ks:List (Str × Int))(f:FD):aw->R Bool:=fun δ=>(f δ).bind fun d=>(NY ks d).bind fun b=> .ok (!b)
def xZ(ks:List (Str × Int))(f:FD):FD:=fun δ=>(f δ).bind fun d=>match d with | .str x=>(match ks.lookup x with | some i=> .ok (.int i) | none=> .no) | _=> .no
def Qc(ks:List (Str × Int))(neg:Bool)(t:TE):TE:=fun σ H Q=>t σ H fun y H1=>∃x,y= .str x/\Q (.bl (neg !=(ks.lookup x).isSome)) H1
theorem LO{ks:List (Str × Int)}{p:Pos}{t:TE}(hu:X.A.units+1 < cLine)(hi:PE X i t)(g:og X.prog X.w X.K X.mg x ks)(hg:Gl X x)(kK:(x==("__debug__":Str))=false:=by decide):PC X .In i (.Name x p) (Qc ks false t):=by
 obtain⟨a,ho,ok⟩:=wz (p:=p) g hg kK;intro pins s σ H Q I h;refine cU (hi pins s σ H _ I h) fun iv s1 ⟨y,H1,I1,ry,z,ey,q1⟩=>cU (ho pins s1 σ H1 (fun u H2=>u= .ref a/\H2=H1) I1 ⟨rfl,rfl⟩) fun u s2 ⟨uv,H2,I2,rx,e1,e2⟩=>?_
 subst ey e1 e2;obtain rfl:u=Value.ref a:=rx;obtain⟨hz,hd,vs,rel,dd⟩:=ok H2 s2.heap I2.vE;refine wpAny_in_of (o9 (k:=Sum.inr z) ry) hd dd.mapOf ?_;rw[<-(rel.val (Sum.inr z)).iF,wa,Option.isSome_map];refine⟨.bl _,H2,I2.tok _,rfl,?_⟩;simpa using q1
theorem Ml{ks:List (Str × Int)}{p:Pos}{t:TE}(hu:X.A.units+1 < cLine)(hi:PE X i t)(g:og X.prog X.w X.K X.mg x ks)(hg:Gl X x)(kK:(x==("__debug__":Str))=false:=by decide):PC X .NotIn i (.Name x p) (Qc ks true t):=by
 obtain⟨a,ho,ok⟩:=wz (p:=p) g hg kK;intro pins s σ H Q I h;refine cU (hi pins s σ H _ I h) fun iv s1 ⟨y,H1,I1,ry,z,ey,q1⟩=>cU (ho pins s1 σ H1 (fun u H2=>u= .ref a/\H2=H1) I1 ⟨rfl,rfl⟩) fun u s2 ⟨uv,H2,I2,rx,e1,e2⟩=>?_
 subst ey e1 e2;obtain rfl:u=Value.ref a:=rx;obtain⟨hz,hd,vs,rel,dd⟩:=ok H2 s2.heap I2.vE;refine wpAny_notIn_of (o9 (k:=Sum.inr z) ry) hd dd.mapOf ?_;rw[<-(rel.val (Sum.inr z)).iF,wa,Option.isSome_map];refine⟨.bl _,H2,I2.tok _,rfl,?_⟩;simpa using q1
theorem GH{ks:List (Str × Int)}{d:D}{b:Bool}(h:NY ks d= .ok b):∃x,d= .str x/\b=(ks.lookup x).isSome:=by
 unfold NY at h;split at h
 .cases h;exact⟨_,rfl,rfl⟩
 .cases h
theorem IK{ks:List (Str × Int)}{p pos:Pos}(hu:X.A.units+1 < cLine)(hi:QD X i f)(g:og X.prog X.w X.K X.mg x ks)(hg:Gl X x)(kK:(x==("__debug__":Str))=false:=by decide)(hm:behindInMarks .In (.Name x p)=false:=by with_unfolding_all rfl):QD X (.Compare i [.In] [.Name x p] pos) (Ll ks f):=
 ⟨(Nd (LO hu hi.1 g hg kK) hm).imp fun σ H Q ⟨Z,B,δ,d,E,hf,q⟩=>by
   obtain⟨d1,h1,h2⟩:=R.ak hf;obtain⟨b,h3,h4⟩:=R.ak h2;cases h4;obtain⟨z,rfl,rfl⟩:=GH h3;exact⟨Z,B,δ,_,E,h1,fun v H1 s1 r1=>⟨z,Rep.str.mp r1,q _ H1 s1 (by rw[Bool.false_bne];exact Rep.bl.mpr rfl)⟩⟩⟩
theorem Iu{ks:List (Str × Int)}{p pos:Pos}(hu:X.A.units+1 < cLine)(hi:QD X i f)(g:og X.prog X.w X.K X.mg x ks)(hg:Gl X x)(kK:(x==("__debug__":Str))=false:=by decide)(hm:behindInMarks .NotIn (.Name x p)=false:=by with_unfolding_all rfl):QB X (.Compare i [.NotIn] [.Name x p] pos) (Mn ks f):=
 ⟨(zw (Ml hu hi.1 g hg kK) hm).imp fun σ H Q ⟨Z,B,δ,b,E,hf,q⟩=>by
   obtain⟨d1,h1,h2⟩:=R.ak hf;obtain⟨b,h3,h4⟩:=R.ak h2;cases h4;obtain⟨z,rfl,rfl⟩:=GH h3;exact⟨Z,B,δ,_,E,h1,fun v H1 s1 r1=>⟨z,Rep.str.mp r1,_,rfl,by rw[Bool.true_bne];exact q H1 s1⟩⟩⟩
theorem ye{ks:List (Str × Int)}{p pos:Pos}(hi:QD X i f)(g:og X.prog X.w X.K X.mg x ks)(hg:Gl X x)(hs:D_ i)(kK:(x==("__debug__":Str))=false:=by decide):QD X (.Subscript (.Name x p) i pos) (xZ ks f):=⟨by
 obtain⟨a,ho,ok⟩:=wz (p:=p) g hg kK;intro pins s σ H Q I ⟨Z,B,δ,d,E,hf,q⟩;obtain⟨d1,h1,h2⟩:=R.ak hf;have key:∃z n,d1= .str z/\ks.lookup z=some n/\d= .int n:=by
  split at h2
  .split at h2
   .rename_i e;cases h2;exact⟨_,_,rfl,e,rfl⟩
   .cases h2
  .cases h2
 obtain⟨z,n,rfl,hl,rfl⟩:=key;refine AO PySem.F.slot_dict_getitem.lookup hs (cU (ho pins s σ H (fun u H2=>u= .ref a/\H2=H) I ⟨rfl,rfl⟩) fun u s1 ⟨uv,H1,I1,rx,e1,e2⟩=>?_)
 subst e1 e2;obtain rfl:u=Value.ref a:=rx;refine cU (hi.1 pins s1 σ H1 (fun v H'=>aS H1 H'/\Rep X.K B H' (.str z) v) I1 ⟨Z,B,δ,_,E,h1,fun v H' s1 r1=>⟨s1,r1⟩⟩) fun iv s2 ⟨y,H2,I2,ry,ss,r2⟩=>?_
 cases Rep.str.mp r2;obtain⟨hz,hd,vs,rel,dd⟩:=ok H2 s2.heap I2.vE;obtain⟨w',hw,xW⟩:=mQ.some_of (v:= .int n) (o:=valueAt vs (Sum.inr z)) (by rw[show some (V.int n)=jy (gK ks) (Sum.inr z) by rw[wa,hl];rfl];exact rel.val (Sum.inr z))
 refine⟨dd.typeIs,wpAny_getItem_of (o9 (k:=Sum.inr z) ry) dd.mapOf hw ?_⟩;exact⟨.int n,H2,I2.tok _,xW,q _ H2 ss (Rep.int.mpr rfl)⟩⟩
end
end L2
namespace L3
open PySem PySem.Spec PyProof.Rows L2
section
variable {X:Cx} {cl:Aag} {E:XK}
def lA(S:aR)(k:Nat):Option Nat:=match S[k]? with | some (.lst ds)=>some ds.length | some (.dct aC)=>some aC.length | _=>none
def zx(f:FX):FX:=fun δ S=>(f δ S).bind fun v S1=>match v with | .loc k=>(match lA S1 k with | some n=> .ok (.d (.int n)) S1 | none=> .no) | _=> .no
theorem GJ{K:W.Frag}{ρ:P3}{H:Hp}{S:aR}(w:SW K cl ρ H S){k n:Nat}{a:Addr}(ha:ρ.r[k]? =some a)(h:lA S k=some n):(∃xs,H a=some (.lst xs)/\xs.length=n)\/∃ys,H a=some (.dK ys)/\ys.length=n:=by
 unfold lA at h;split at h
 .rename_i ds e;cases h;obtain⟨xs,e1,r⟩:=w.ob k a _ ha e;exact .inl ⟨xs,e1,r.length.symm⟩
 .rename_i aC e;cases h;obtain⟨ys,e1,e2,r⟩:=w.ob k a _ ha e;refine .inr ⟨ys,e1,?_⟩;have:=congrArg List.length e2
  rwa [List.length_map,List.length_map] at this
 .cases h
theorem qJ{p pos:Pos}(he:PX X cl e f)(hg:Gl X "len")(hm:X.mg "len"=none)(hs:starEach [e] X.env=(false,eval e X.env) ::starEach [] X.env:=by rfl)(nE:(backTo pos (starEach [] X.env)).any (·.1)=false:=by rfl):PX X cl (.Call (.Name "len" p) [e] [] pos) (zx f):=⟨by
 have both:kx X (.builtin "len") (fun xs H Q=>(∃p ys,xs=[.ref p]/\(nL X.K H p ys\/rC X.K H p ys)/\Q (.int ys.length) H)\/(∃a aC,xs=[V.ref a]/\H a=some (.dK aC)/\Q (.int aC.length) H)):=fun pins s σ H xs us Q I r h=>h.elim (wC pins s σ H xs us Q I r) (CD pins s σ H xs us Q I r)
 refine(ud both hg hm boot_len (gL he.1 lJ hs) (by decide) (by decide) hs nE).imp fun σ H Q ⟨ρ,S,δ,v,S',En,hf,q⟩=>?_
 obtain⟨v1,S1,h1,h2⟩:=R3.ak hf;refine⟨ρ,S,δ,v1,S1,En,h1,fun u bU H1 p1 w1 r1=>?_⟩
 split at h2
 .rename_i k;split at h2
  .rename_i n hn;cases h2;unfold aX at r1;obtain⟨a,ha,rfl⟩:=r1;rcases GJ w1 ha hn with⟨xs,e1,rfl⟩ | ⟨ys,e1,rfl⟩
   .exact .inl ⟨a,xs,rfl, .inl (nL.of e1),q _ bU H1 p1 w1 (by unfold aX;exact Rep.int.mpr rfl)⟩
   .exact .inr ⟨a,ys,rfl,e1,q _ bU H1 p1 w1 (by unfold aX;exact Rep.int.mpr rfl)⟩
  .cases h2
 .cases h2⟩
theorem yo{f:FX}{δ:DE}{S:aR}{Q:V3->aR->Prop}(h:W3 (f δ S) fun v S1=>∃k n,v= .loc k/\lA S1 k=some n/\Q (.d (.int n)) S1):W3 (zx f δ S) Q:=W3.bind (h.mono fun v S1 ⟨k,n,e,e1,q⟩=>by subst e;simp only[e1];exact W3.ok q)
def ot(f:FX):FB:=fun δ S=>(f δ S).bind fun v S1=>match v with | .loc k=>(match lA S1 k with | some n=> .ok (decide (n≠0)) S1 | none=> .no) | _=> .no
theorem nX{a:Expr}(ha:PX X cl a f)(he:∀whole,isTrue a X.env whole=(do let v <-whole;standAt a.pos;holding [v] (truthy v)):=by intro _;rfl):DQ X cl a (ot f):=⟨(yl ha.1 he).imp fun σ H Q ⟨ρ,S,δ,b,S',En,hf,q⟩=>by
 obtain⟨v1,S1,h1,h2⟩:=R3.ak hf;refine⟨ρ,S,δ,v1,S1,En,h1,fun u bU H1 p1 w1 r1=>?_⟩
 split at h2
 .rename_i k;split at h2
  .rename_i n hn;cases h2;unfold aX at r1;obtain⟨a,ha,rfl⟩:=r1;refine⟨_,?_,q bU H1 p1 w1⟩;rcases GJ w1 ha hn with⟨xs,e1,rfl⟩ | ⟨ys,e1,rfl⟩
   .exact .inl ⟨xs,nL.of e1,by cases xs <;> simp⟩
   .exact .inr (.inr ⟨ys,e1,by cases ys <;> simp⟩)
  .cases h2
 .cases h2⟩
theorem tG{f:FX}{δ:DE}{S:aR}{Q:Bool->aR->Prop}(h:W3 (f δ S) fun v S1=>∃k n,v= .loc k/\lA S1 k=some n/\Q (decide (n≠0)) S1):W3 (ot f δ S) Q:=W3.bind (h.mono fun v S1 ⟨k,n,e,e1,q⟩=>by subst e;simp only[e1];exact W3.ok q)
def rH(v o:V3)(S:aR):Option (Option D):=match v,o with
 | .d x, .loc k=>(match tH x,S[k]? with | some key,some (.dct aC)=>some ((aC.find? fun kv=>decide (kv.1=key)).map (·.2)) | _,_=>none)
 | _,_=>none
def Xl(neg:Bool)(fa fb:FX):FX:=fun δ S=>(fa δ S).bind fun v S1=>(fb δ S1).bind fun o S2=>match rH v o S2 with | some r=> .ok (.d (.bl (neg !=r.isSome))) S2 | none=> .no
def zQ(neg:Bool)(fa fb:FX):FB:=fun δ S=>(fa δ S).bind fun v S1=>(fb δ S1).bind fun o S2=>match rH v o S2 with | some r=> .ok (neg !=r.isSome) S2 | none=> .no
def Et(fo fi:FX):FX:=fun δ S=>(fo δ S).bind fun o S1=>(fi δ S1).bind fun v S2=>match rH v o S2 with | some (some d)=> .ok (.d d) S2 | _=> .no
theorem AJ{K:W.Frag}{B:List Addr}(key:Key):∀{aC:List (Key × D)} {ys:List (Key × V)},ys.map (·.1)=aC.map (·.1)->aG K B H (aC.map (·.2)) (ys.map (·.2))->
 (jy ys key=none/\aC.find? (fun kv=>decide (kv.1=key))=none)\/∃v kv,jy ys key=some v/\aC.find? (fun kv=>decide (kv.1=key))=some kv/\Rep K B H kv.2 v
 | [],[],_,_=> .inl ⟨rfl,rfl⟩
 | [],_ ::_,e,_=>by simp at e
 | _ ::_,[],e,_=>by simp at e
 | (k1,d) ::aC,(k2,y) ::ys,e,r=>by
   obtain⟨e1,e2⟩:=List.cons.inj e;have e1:k2=k1:=e1;subst e1;obtain⟨z,zs,ez,r1,r2⟩:=r.cq;obtain⟨ZW,ez2⟩:=List.cons.inj ez;subst ZW ez2;unfold jy;by_cases h:k2=key
   .refine .inr ⟨_,(k2,d),?_,?_,r1⟩
    .rw [List.find?_cons_of_pos (by simpa using h)];rfl
    .rw [List.find?_cons_of_pos (by simpa using h)]
   .rw [List.find?_cons_of_neg (by simpa using h),List.find?_cons_of_neg (by simpa using h)]
    exact AJ key e2 r2
theorem z6{K:W.Frag}{ρ:P3}{S:aR}(w:SW K cl ρ H S){v o:V3}{r:Option D}{u y:V}(h:rH v o S=some r)(rv:aX K ρ H v y)(ro:aX K ρ H o u):∃a z,u= .ref a/\nQ H a y z/\((z=none/\r=none)\/∃v d,z=some v/\r=some d/\Rep K ρ.b H d v):=by
 unfold rH at h;split at h
 .rename_i x k;split at h
  .rename_i key aC hk hS;cases h;unfold aX at ro rv;obtain⟨a,ha,rfl⟩:=ro;obtain⟨ys,e1,e2,q⟩:=w.ob k a _ ha hS;have:=x9 hk rv;subst this;refine⟨a,_,rfl,nQ.k (k:=key) e1,?_⟩;rcases AJ key e2 q with⟨z1,z2⟩ | ⟨v,kv,z1,z2,z3⟩
   .rw [z1,z2];exact .inl ⟨rfl,rfl⟩
   .rw [z1,z2];exact .inr ⟨v,kv.2,rfl,rfl,z3⟩
  .cases h
 .cases h
theorem xx{pos:Pos}(hu:X.A.units+1 < cLine)(ha:PX X cl a fa)(hb:PX X cl b fb)(hm:behindInMarks .In b=false:=by with_unfolding_all rfl):DQ X cl (.Compare a [.In] [b] pos) (zQ false fa fb):=⟨(zw (MM hu ha.1 hb.1) hm).imp fun σ H Q ⟨ρ,S,δ,v,S',En,hf,q⟩=>by
 obtain⟨j,S1,h1,h2⟩:=R3.ak hf;obtain⟨o,S2,h3,h4⟩:=R3.ak h2;refine⟨ρ,S,δ,j,S1,En,h1,fun u1 bU H1 p1 w1 r1=>⟨bU,S1,δ,o,S2,En.to p1 w1,h3,fun u2 qk H2 p2 w2 r2=>?_⟩⟩
 split at h4
 .rename_i r hd;cases h4;obtain⟨ad,z,rfl,g,c⟩:=z6 w2 hd (r1.pre p2) r2;refine⟨ad,z,rfl,g,_,rfl,?_⟩;have:=q qk H2 (p1.trans p2) w2;rcases c with⟨rfl,rfl⟩ | ⟨v,d,rfl,rfl,_⟩ <;> exact this
 .cases h4⟩
theorem HZ{pos:Pos}(hu:X.A.units+1 < cLine)(ha:PX X cl a fa)(hb:PX X cl b fb)(hm:behindInMarks .NotIn b=false:=by with_unfolding_all rfl):DQ X cl (.Compare a [.NotIn] [b] pos) (zQ true fa fb):=⟨(zw (Cz hu ha.1 hb.1) hm).imp fun σ H Q ⟨ρ,S,δ,v,S',En,hf,q⟩=>by
 obtain⟨j,S1,h1,h2⟩:=R3.ak hf;obtain⟨o,S2,h3,h4⟩:=R3.ak h2;refine⟨ρ,S,δ,j,S1,En,h1,fun u1 bU H1 p1 w1 r1=>⟨bU,S1,δ,o,S2,En.to p1 w1,h3,fun u2 qk H2 p2 w2 r2=>?_⟩⟩
 split at h4
 .rename_i r hd;cases h4;obtain⟨ad,z,rfl,g,c⟩:=z6 w2 hd (r1.pre p2) r2;refine⟨ad,z,rfl,g,_,rfl,?_⟩;have:=q qk H2 (p1.trans p2) w2;rcases c with⟨rfl,rfl⟩ | ⟨v,d,rfl,rfl,_⟩ <;> exact this
 .cases h4⟩
theorem Jh(hu:X.A.units+1 < cLine)(ho:PX X cl o fo)(hi:PX X cl i fi)(hs:D_ i):PX X cl (.Subscript o i pos) (Et fo fi):=⟨(A4 hu ho.1 hi.1 hs).imp fun σ H Q ⟨ρ,S,δ,v,S',En,hf,q⟩=>by
 obtain⟨o,S1,h1,h2⟩:=R3.ak hf;obtain⟨j,S2,h3,h4⟩:=R3.ak h2;refine⟨ρ,S,δ,o,S1,En,h1,fun u1 bU H1 p1 w1 r1=>⟨bU,S1,δ,j,S2,En.to p1 w1,h3,fun u2 qk H2 p2 w2 r2=>?_⟩⟩
 split at h4
 .rename_i d hd;cases h4;obtain⟨ad,z,rfl,g,c⟩:=z6 w2 hd r2 (r1.pre p2);rcases c with⟨_,e⟩ | ⟨v,d',rfl,e,r⟩
  .cases e
  .cases e;exact⟨ad,v,rfl,g,q _ qk H2 (p1.trans p2) w2 (by unfold aX;exact r)⟩
 .cases h4⟩
theorem xi{neg:Bool}{fa fb:FX}{δ:DE}{S:aR}{Q:Bool->aR->Prop}(h:W3 (fa δ S) fun v S1=>W3 (fb δ S1) fun o S2=>∃r,rH v o S2=some r/\Q (neg !=r.isSome) S2):W3 (zQ neg fa fb δ S) Q:=W3.bind (h.mono fun v S1 h2=>W3.bind (h2.mono fun o S2 ⟨r,e,q⟩=>by simp only[e];exact W3.ok q))
theorem LV{fo fi:FX}{δ:DE}{S:aR}{Q:V3->aR->Prop}(h:W3 (fo δ S) fun o S1=>W3 (fi δ S1) fun v S2=>∃d,rH v o S2=some (some d)/\Q (.d d) S2):W3 (Et fo fi δ S) Q:=W3.bind (h.mono fun v S1 h2=>W3.bind (h2.mono fun o S2 ⟨r,e,q⟩=>by simp only[e];exact W3.ok q))
theorem Ff{g:List V3->aR->R3 V3}{k j c:Nat}{p pos:Pos}(M:Er X.prog X.w X.K X.mg X.base cl k c x 0 g)(hr:dU j X.A)(GY:k+1<=j)(hg:Gl X x)(kK:(x==("__debug__":Str))=false:=by decide):PX X cl (.Call (.Name x p) [] [] pos) (EA c g dF):=by
 obtain⟨f,fd,ps,M,F,hm,hb⟩:=M;refine⟨(Fe M F (hr.mono GY) hg hm hb .nil Fx kK).imp fun σ H Q ⟨ρ,S,δ,v,S',En,hf,q⟩=>?_⟩
 obtain⟨vs,S1,h1,h2⟩:=R3.ak hf;cases h1;obtain⟨v0,S2,h3,h4⟩:=R3.ak h2;split at h4
 .cases h4;intro xa dx hx hdx sF;have hx1:upd H dx (.own xa) xa=none:=by rw[bt (fun z=>sF z.symm)];exact hx
  have sm:aS H (upd (upd H dx (.own xa)) xa (.ins (cl c) dx [])):=(bG hdx).trans (bG hx1);obtain⟨w2,p2⟩:=En.sw.new (a:=xa) (o:= .ins c []) sm hx ⟨dx,[],ba,rfl,aI.nil⟩;have rl:aX X.K (ρ.push xa) (upd (upd H dx (.own xa)) xa (.ins (cl c) dx [])) (.loc S.length) (.ref xa):=by
   unfold aX;exact⟨xa,by show(ρ.r++[xa])[_]? =_;rw [<-En.sw.len,List.getElem?_append_right (Nat.le_refl _),Nat.sub_self];rfl,rfl⟩
  exact⟨rfl,_,_,[.loc S.length], .d .cN,_,w2,aI.cons rl aI.nil,h3,fun z DF H3 p3 w3 r3=>⟨by unfold aX Rep at r3;exact r3,q _ DF H3 (p2.trans p3) w3 (rl.pre p3)⟩⟩
 .cases h4
end
end L3
end
section
namespace L2
open PySem PySem.Spec PyProof.Rows
section
variable {X:Cx}
def JS(f:FD):FD:=fun δ=>(f δ).bind fun d=>match d with | .str x=>R.aW (decide ((reprText x).length<=sizeLine)) (.ok (.str (reprText x))) | _=> .no
theorem FI(h:QD X e f):QD X (.FormattedValue e 114 none pos) (JS f):=⟨by
 intro pins s σ H Q I ⟨Z,B,δ,d,E,hf,q⟩;obtain⟨d1,h1,h2⟩:=R.ak hf;refine wpAny_FormattedValue_repr (cU (h.1 pins s σ H (fun v H'=>aS H H'/\Rep X.K B H' d1 v) I ⟨Z,B,δ,d1,E,h1,fun v H' s1 r1=>⟨s1,r1⟩⟩) fun v s1 ⟨xv,H1,I1,r1,Nm,e1⟩=>?_)
 split at h2
 .obtain⟨h3,h4⟩:=R.aQ h2;cases h4;rw[Rep.str.mp e1] at r1;obtain⟨t,rfl⟩:=r1;have h3:=of_decide_eq_true h3;exact pyReprObj_str (formatField_str (fun t' tk=>⟨.str _,H1,I1.tok _,⟨_,rfl⟩,q _ H1 Nm (Rep.str.mpr rfl)⟩) h3) h3
 .cases h2⟩
end
end L2
end
section
namespace L3
open PySem PySem.Spec PyProof.Rows L2
section
variable {X:Cx} {cl:Aag} {E:XK}
theorem yV:Am X cl E [] dF:=⟨lJ.imp fun σ H Q ⟨ρ,S,δ,En,z⟩=>by
 rcases z with⟨vs,S',hf,q⟩ | ⟨c,S',hf,q⟩
 .cases hf;exact q _ ρ H (Pre.refl ρ H) En.sw aI.nil
 .cases hf⟩
theorem mr(h:MZ X cl E e f)(t:Am X cl E es g)(hs:starEach (e ::es) X.env=(false,eval e X.env) ::starEach es X.env:=by rfl):Am X cl E (e ::es) (bo f g):=
 ⟨(gL h.1 t.1 hs).imp fun σ H Q ⟨ρ,S,δ,En,z⟩=>by
   refine⟨ρ,S,δ,En,?_⟩;rcases z with⟨v,S',hf,q⟩ | ⟨c,S',hf,q⟩
   .obtain⟨v1,S1,h1,h2⟩:=R3.ak hf;obtain⟨vs,S2,h3,h4⟩:=R3.ak h2;cases h4;exact .inl ⟨v1,S1,h1,fun u bU H1 p1 w1 r1=>⟨bU,S1,δ,En.to p1 w1, .inl ⟨vs,_,h3,fun us qk H2 p2 w2 r2=>q _ qk H2 (p1.trans p2) w2 (aI.cons (r1.pre p2) r2)⟩⟩⟩
   .rcases R3.fI hf with h1 | ⟨v1,S1,h1,h2⟩
    .exact .inr ⟨c,S',h1,q⟩
    .rcases R3.fI h2 with h3 | ⟨vs,S2,h3,h4⟩
     .exact .inl ⟨v1,S1,h1,fun u bU H1 p1 w1 r1=>⟨bU,S1,δ,En.to p1 w1, .inr ⟨c,S',h3,q.pre p1⟩⟩⟩
     .cases h4⟩
theorem Bn{x1 pos}(h:Am X cl E es g):MZ X cl E (.Tuple es x1 pos) (zB g):=⟨(zK h.1).imp fun σ H Q ⟨ρ,S,δ,En,z⟩=>by
 refine⟨ρ,S,δ,En,?_⟩;rcases z with⟨v,S',hf,q⟩ | ⟨c,S',hf,q⟩
 .obtain⟨vs,S1,h1,h2⟩:=R3.ak hf;obtain⟨hl,h3⟩:=R3.aQ h2;cases h3;refine .inl ⟨vs,_,h1,fun us bU H1 p1 w1 r1=>⟨by rw[<-r1.length];exact of_decide_eq_true hl,fun p hp=>q _ bU _ (p1.trans (oR hp)) (w1.same (bG hp)) ?_⟩⟩
  refine vC (.inl ⟨fun ha=>?_, .inl ba⟩) (r1.pre (oR hp))
  obtain⟨o,ho⟩:=w1.bs p ha;rw[hp] at ho;cases ho
 .rcases R3.fI hf with h1 | ⟨vs,S1,h1,h2⟩
  .exact .inr ⟨c,S',h1,q⟩
  .unfold R3.aW at h2;split at h2 <;> cases h2⟩
theorem za{o e:Expr}{fo f:FX}{apos bj pos:Pos}(ho:PX X cl o fo)(he:MZ X cl E e f)
 (hs:starEach [e] X.env=(false,eval e X.env) ::starEach [] X.env:=by rfl) (eI:(apos.endLine==bj.line)=true:=by rfl)
 (kG:((backTo bj (starEach [e] X.env)).all (fun x=>!x.1) && (backToKw bj (keywordEach [] X.env)).all (fun x=>x.1.isSome)
   && decide (([e]:List Expr).length+([]:List Keyword).length+(if([]:List Keyword).isEmpty then 0 else 1) < 30))=true:=by rfl)
 (G0:swapsWith (.Call (.Attribute o "append" apos) [e] [] bj) none pos.line X.env=pure false:=by rfl)
 (eJ:attributeBase o "append" X.env (eval o X.env)=eval o X.env:=by rfl) :
 JZ X cl E (.Expr (.Call (.Attribute o "append" apos) [e] [] bj) pos) (nB (u_ fo) f):=by
 refine⟨(qM (y8 (X:=X) PySem.F.plainAttrs_list PySem.F.slot_list_append PySem.F.type_list_append l9 ho.1 (gL he.1 lJ hs) eJ kG eI hs) G0).imp fun D σ H ⟨ρ,S,δ,En,z⟩=>?_⟩
 have key:∃k S0 DS,fo δ S= .ok (.loc k) S0/\cx S0 k=some DS/\((∃v S1 ds,f δ S0= .ok (.d v) S1/\cx S1 k=some ds/\ds.length < sizeLine/\wQ X.K cl ρ H D (S1.set k (.lst (ds++[v]))) (.nx δ))\/∃c S',f δ S0= .ex c S'/\Bx X.K cl E ρ H S' c):=by
  rcases z with⟨oo,S',hf,q⟩ | ⟨c,S',hf,q⟩
  .unfold nB at hf;obtain⟨vo,S0,g1,g2⟩:=R3.ak hf;split at g2
   .rename_i k;split at g2
    .cases g2
    .rename_i DS h0;obtain⟨v,S1,h1,h2⟩:=R3.ak g2;split at h2
     .rename_i d;split at h2
      .rename_i ds h3;obtain⟨hl,h4⟩:=R3.aQ h2;cases h4;exact⟨k,S0,DS,jz g1,h0, .inl ⟨d,S1,ds,h1,h3,of_decide_eq_true hl,q⟩⟩
      .cases h2
     .cases h2
   .cases g2
  .unfold nB at hf;rcases R3.fI hf with g1 | ⟨vo,S0,g1,g2⟩
   .exact(pU g1).elim
   .split at g2
    .rename_i k;split at g2
     .cases g2
     .rename_i DS h0;rcases R3.fI g2 with h1 | ⟨v,S1,h1,h2⟩
      .exact⟨k,S0,DS,jz g1,h0, .inr ⟨c,S',h1,q⟩⟩
      .split at h2
       .split at h2
        .unfold R3.aW at h2;split at h2 <;> cases h2
        .cases h2
       .cases h2
    .cases g2
 obtain⟨k,S0,DS,g1,h0,z⟩:=key;refine⟨ρ,S,δ, .loc k,S0,En,g1,fun u U5 H0 p0 w0 r0=>?_⟩
 unfold aX at r0;obtain⟨a,a1,rfl⟩:=r0;obtain⟨Qg,x0,_⟩:=w0.ob k a _ a1 (c9 h0);refine⟨.inl ⟨rfl,Qg,nL.of x0⟩,⟨U5,S0,δ,En.to p0 w0,?_⟩⟩;rcases z with⟨d,S1,ds,h1,h3,hl,q⟩ | ⟨c,S',h1,q⟩
 .refine .inl ⟨.d d,S1,h1,fun y bU H1 p1 w1 r1=>?_⟩
  have b1:=p1.ext k a a1;obtain⟨xs,x1,x2⟩:=w1.ob k a _ b1 (c9 h3);refine⟨a,xs,y,rfl,rfl,x1,by rw[<-x2.length];exact hl,?_⟩
  unfold aX at r1;obtain⟨w2,p2⟩:=w1.put (o:= .lst (ds++[d])) (u:= .lst (xs++[y])) b1 (w1.fz k a b1 (by rw[c9 h3];intro h;cases h)) ⟨xs++[y],rfl,x2.append (aG.cons r1 aG.nil)⟩
  exact q σ bU _ (p0.trans (p1.trans p2)) (En.to (p0.trans (p1.trans p2)) w2)
 .exact .inr ⟨c,S',h1,q.pre p0⟩
section
variable {S:aR} {δ:DE} {Y:Nat->aR->Prop}
theorem uw{f:FX}{g:FA}{Q:List V3->aR->Prop}(h:WE (f δ S) (fun v S1=>WE (g δ S1) (fun vs S2=>Q (v ::vs) S2) Y) Y):WE (bo f g δ S) Q Y:=WE.bind (h.mono (fun v S1 q=>WE.bind (q.mono (fun vs S2 q=>WE.ok q) fun _ _ q=>q)) fun _ _ q=>q)
theorem D3{Q:List V3->aR->Prop}(h:Q [] S):WE (dF δ S) Q Y:=WE.ok h
theorem Kc{g:FA}{Q:V3->aR->Prop}(h:WE (g δ S) (fun vs S1=>vs.length<=sizeLine/\Q (yC vs) S1) Y):WE (zB g δ S) Q Y:=WE.bind (h.mono (fun vs S1 ⟨hl,q⟩=>by
 unfold R3.aW;rw[decide_eq_true hl];exact WE.ok q) fun _ _ q=>q)
theorem Ea{fo f:FX}{k:Nat}{Q:Ou->aR->Prop}(h:W3 (fo δ S) fun o S0=>o= .loc k/\(∃ds,S0[k]? =some (.lst ds))/\WE (f δ S0) (fun v S1=>∃d ds,v= .d d/\S1[k]? =some (.lst ds)/\ds.length < sizeLine/\Q (.nx δ) (S1.set k (.lst (ds++[d])))) Y):WE (nB (u_ fo) f δ S) Q Y:=by
 unfold nB;refine WE.bind (.inl (EY (h.mono fun o S0 ⟨e,⟨DS,h0⟩,h⟩=>?_)))
 subst e;have e0:cx S0 k=some DS:=by unfold cx;rw [h0]
 simp only[e0];refine WE.bind (h.mono (fun v S1 ⟨d,ds,e1,e2,hl,q⟩=>?_) fun _ _ q=>q)
 subst e1;have e3:cx S1 k=some ds:=by unfold cx;rw [e2]
 simp only[e3];unfold R3.aW;rw[decide_eq_true hl];exact WE.ok q
end
end
end L3
end
section
namespace L3
open PySem PySem.Spec PyProof.Rows L2
section
variable {X:Cx} {cl:Aag} {E:XK}
def YC(g:D->List D->R D)(fo:FX)(fs:FA):FX:=fun δ S=>(fo δ S).bind fun o S1=>match o with
 | .d (.str z)=>(fs δ S1).bind fun vs S2=>(match rF vs with | some ds=>(R3.of (g (.str z) ds) S2).bind fun d S=> .ok (.d d) S | none=> .no)
 | _=> .no
end
end L3
end
section
namespace L2
open PySem PySem.Spec PyProof.Rows Builtin Builtin.Str
section
variable {prog:Program} {w:World} {A:Around} {E:Aab} {s:Shared} {x:Str} {t:Tok} {Q:Aab}
theorem F8{y:Str}{u:Tok}(hy:(y.length==0)=false)
 (hq:∀l k,l.map (·.1)=Txt.split x y->Q (.ref s.heap.objs.size) {s with toks:=k,heap:=s.heap.push {cls:= .type "list",data:= .seq (strValues l).toArray}})
 (hsz:x.length<=sizeLine) (UM:(partsBetween x (occurrences x y 0 x.length (x.length+1)) y.length).length<=sizeLine) :
 wpAny (model prog w) A (call (.builtin "str.split") [.str x t, .str y u]) Q E s:=by
 cases h1:(decide (x.length < y.length) || decide (strKind x < strKind y))
 .cases hf:(occurrences x y 0 x.length (x.length+1)).isEmpty
  .refine call_meets F.slot_str_split (typeIs_str _ _ _) F.entry_str_split (F.args_str_split_2 _ _) (meets_str_split_sep x y t u h1 hy hf hsz UM) ?_;show wants Q E _ {s with toks:=_,heap:=s.heap.push {cls:= .type "list",data:= .seq (strsFrom s.toks (partsBetween x (occurrences x y 0 x.length (x.length+1)) y.length)).toArray}}
   rw[strsFrom_eq];exact hq (numbered s.toks _) _ ((numbered_texts _ _).trans ((if_neg (ne_true_of_eq_false h1)).trans (if_neg (ne_true_of_eq_false hf))).symm)
  .exact call_meets F.slot_str_split (typeIs_str _ _ _) F.entry_str_split (F.args_str_split_2 _ _) (meets_str_split_not_found x y t u h1 hy hf)
    (hq [(x,t)] s.toks ((if_neg (ne_true_of_eq_false h1)).trans (if_pos hf)).symm)
 .exact call_meets F.slot_str_split (typeIs_str _ _ _) F.entry_str_split (F.args_str_split_2 _ _) (meets_str_split_cannot_occur x y t u h1)
   (hq [(x,t)] s.toks (if_pos h1).symm)
def ju(x y:Str):List Str:=match occurrences x y 0 x.length 1 with
 | i ::_=>[strSub x 0 i,y,strSub x (i+y.length) x.length]
 | []=>[x,Str.empty,Str.empty]
theorem Jd{y:Str}{u:Tok}(hy:(y.length==0)=false)
 (hq:∀l k,l.map (·.1)=ju x y->Q (.ref s.heap.objs.size) {s with toks:=k,heap:=s.heap.push {cls:= .type "tuple",data:= .seq (strValues l).toArray}}) (hsz:x.length<=sizeLine) :
 wpAny (model prog w) A (call (.builtin "str.partition") [.str x t, .str y u]) Q E s:=by
 refine call_meets F.slot_str_partition (typeIs_str _ _ _) F.entry_str_partition (F.args_str_partition_2 _ _) (meets_str_partition x y t u hy hsz) ?_;show wants Q E _ _;unfold ju at hq;split
 .rename_i i r e;rw[e] at hq;exact hq [(strSub x 0 i,_),(y,u),(strSub x (i+y.length) x.length,_)] _ rfl
 .rename_i e;rw[e] at hq;exact hq [(x,t),(Str.empty,_),(Str.empty,_)] _ rfl
end
section
variable {X:Cx}
def pZ(d:D)(ds:List D):R D:=match d,ds with
 | .str x,[.str y]=>R.aW (decide ((y.length==0)=false/\x.length<=sizeLine/\(Txt.split x y).length<=sizeLine/\(partsBetween x (occurrences x y 0 x.length (x.length+1)) y.length).length<=sizeLine)) (.ok (.lst ((Txt.split x y).map .str)))
 | _,_=> .no
def xY(d:D)(ds:List D):R D:=match d,ds with
 | .str x,[.str y]=>R.aW (decide ((y.length==0)=false/\x.length<=sizeLine)) (.ok (.tup ((ju x y).map .str)))
 | _,_=> .no
theorem rE:∀(l:List (Str × Tok)),Vals ((l.map (·.1)).map V.str) (strValues l)
 | []=> .nil
 | p ::l=> .cons ⟨p.2,rfl⟩ (rE l)
theorem m_split:Mw X "str.split" pZ:=by
 intro pins s σ H B da d ds x xs v us I hb rx rxs ra rs hg;unfold pZ at hg;split at hg
 .rename_i z y;obtain⟨h1,h2⟩:=R.aQ hg;obtain⟨hy,hz,hn,hp⟩:=of_decide_eq_true h1;cases h2;rw[Rep.str.mp ra] at rx;obtain⟨t,rfl⟩:=rx;obtain⟨q,rfl,r⟩:=rs.one;rw[Rep.str.mp r] at rxs;obtain⟨u,rfl,ru⟩:=vals1 rxs;obtain⟨tu,rfl⟩:=ru;refine F8 hy (fun l k hl=>?_) hz hp
  have hf:H s.heap.objs.size=none:=I.hok.fresh (Nat.le_refl _);refine⟨.ref s.heap.objs.size,upd H s.heap.objs.size (.lst ((l.map (·.1)).map V.str)),I.laid (a:=s.heap.objs.size) (fun b o q=>Heap.get?_push_of_some _ q) (Nat.le_refl _) ⟨?_,strValues l,0,rE l,Heap.get?_push_size _ rfl⟩,rfl,bG hf,?_⟩
  .rw [List.length_map,hl];exact hn
  .rw [hl];refine Rep.lst.mpr ⟨_,_,rfl, .inl ⟨fun ha=>?_, .inl ba⟩,qN _⟩
   obtain⟨o,ho⟩:=hb _ ha;rw[hf] at ho;cases ho
 .cases hg
theorem KP:Mw X "str.partition" xY:=by
 intro pins s σ H B da d ds x xs v us I hb rx rxs ra rs hg;unfold xY at hg;split at hg
 .rename_i z y;obtain⟨h1,h2⟩:=R.aQ hg;obtain⟨hy,hz⟩:=of_decide_eq_true h1;cases h2;rw[Rep.str.mp ra] at rx;obtain⟨t,rfl⟩:=rx;obtain⟨q,rfl,r⟩:=rs.one;rw[Rep.str.mp r] at rxs;obtain⟨u,rfl,ru⟩:=vals1 rxs;obtain⟨tu,rfl⟩:=ru;refine Jd hy (fun l k hl=>?_) hz
  have hf:H s.heap.objs.size=none:=I.hok.fresh (Nat.le_refl _);refine⟨.ref s.heap.objs.size,upd H s.heap.objs.size (.tup ((l.map (·.1)).map V.str)),I.laid (a:=s.heap.objs.size) (fun b o q=>Heap.get?_push_of_some _ q) (Nat.le_refl _) ⟨?_,strValues l,rE l,_,Heap.get?_push_size _ rfl,rfl,0,rfl⟩,rfl,bG hf,?_⟩
  .rw [List.length_map,hl];have:(ju z y).length=3:=by unfold ju;split <;> rfl
   rw[this];decide
  .rw [hl];refine Rep.tup.mpr ⟨_,_,rfl, .inl ⟨fun ha=>?_, .inl ba⟩,qN _⟩
   obtain⟨o,ho⟩:=hb _ ha;rw[hf] at ho;cases ho
 .cases hg
theorem vJ{o e:Expr}{f:FD}{fs:aw->R (List D)}{apos bj:Pos}(ho:QD X o f)(ha:DP X [e] fs)(eJ:attributeBase o "split" X.env (eval o X.env)=eval o X.env:=by rfl)(kG:((backTo bj (starEach [e] X.env)).all (fun x=>!x.1) && (backToKw bj (keywordEach [] X.env)).all (fun x=>x.1.isSome)
 && decide (([e]:List Expr).length+([]:List Keyword).length+(if([]:List Keyword).isEmpty then 0 else 1) < 30))=true:=by rfl) (eI:(apos.endLine==bj.line)=true:=by rfl) (hs:starEach [e] X.env=(false,eval e X.env) ::starEach [] X.env:=by rfl):QD X (.Call (.Attribute o "split" apos) [e] [] bj) (v_ "str" pZ f fs):=⟨BF F.plainAttrs_str F.slot_str_split F.type_str_split m_split ho.1 ha.1 (.inl rfl) eJ kG eI hs⟩
theorem vc{o e:Expr}{f:FD}{fs:aw->R (List D)}{apos bj:Pos}(ho:QD X o f)(ha:DP X [e] fs)(eJ:attributeBase o "partition" X.env (eval o X.env)=eval o X.env:=by rfl)(kG:((backTo bj (starEach [e] X.env)).all (fun x=>!x.1) && (backToKw bj (keywordEach [] X.env)).all (fun x=>x.1.isSome)
 && decide (([e]:List Expr).length+([]:List Keyword).length+(if([]:List Keyword).isEmpty then 0 else 1) < 30))=true:=by rfl) (eI:(apos.endLine==bj.line)=true:=by rfl) (hs:starEach [e] X.env=(false,eval e X.env) ::starEach [] X.env:=by rfl):QD X (.Call (.Attribute o "partition" apos) [e] [] bj) (v_ "str" xY f fs):=⟨BF F.plainAttrs_str F.slot_str_partition F.type_str_partition KP ho.1 ha.1 (.inl rfl) eJ kG eI hs⟩
end
end L2
end
section
namespace L2
open PySem PySem.Spec PyProof.Rows
section
variable {X:Cx}
def CI(aC:List (Str × Int)):D:= .dct (aC.map fun p=>Sum.inr p.1) (aC.map fun p=> .int p.2)
def Km(aC:List (Str × Int)):List (Key × V):=aC.map fun p=>((Sum.inr p.1:Key),V.int p.2)
theorem vI{K:W.Frag}{B:List Addr}:∀aC:List (Str × Int),aG K B H (aC.map fun p=>D.int p.2) ((Km aC).map (·.2))
 | []=>aG.nil
 | p ::aC=>aG.cons (Rep.int.mpr rfl) (vI aC)
theorem CT{keys:List (Option Expr)}{values:List Expr}{uI:List (TE × TE)}{pos:Pos}(aC:List (Str × Int))(h:Kg X pos keys values uI)(zg:keys.all (·.isSome)=true)(hl:keys.length=values.length)(h0:keys≠[])(TZ:keys.length<=15)
 (hc:∀σ H Q,Q ((Km aC).map fun kv=>(kV kv.1,kv.2)) H->pL uI σ H Q) (hlen:aC.length<=15) (ZD:lE [] (Km aC)=Km aC):QD X (.Dict keys values pos) (eC (CI aC)):=by
 refine⟨(Bj h zg hl h0 TZ).imp fun σ H Q ⟨Z,B,δ,d,E,hf,q⟩=>?_⟩
 cases hf;intro p hp;refine hc σ _ _ ⟨ba,Km aC,rfl,by unfold Km;rw [List.length_map];exact hlen,?_⟩
 rw[By,ZD];refine q _ _ (bG hp) ?_;unfold CI Rep;refine⟨p,Km aC,rfl,⟨fun ha=>?_,ba⟩,?_,vI aC⟩
 .obtain⟨o,ho⟩:=E.bs p ha;rw[hp] at ho;cases ho
 .unfold Km;rw [List.map_map];rfl
end
end L2
namespace L3
open PySem PySem.Spec PyProof.Rows L2
def r6(l:List (Nat × Bool))(c:Nat):Option Bool:=l.lookup c
def N8(P:Nat->Bool->Prop):List (Nat × Bool)->Prop | []=>True | p ::l=>P p.1 p.2/\N8 P l
theorem gh{P:Nat->Bool->Prop}:N8 P []:=trivial
theorem av{P:Nat->Bool->Prop}{c:Nat}{b:Bool}{l:List (Nat × Bool)}(h:P c b)(t:N8 P l):N8 P ((c,b) ::l):=⟨h,t⟩
theorem ku{P:Nat->Bool->Prop}:∀{l:List (Nat × Bool)},N8 P l->∀c b,r6 l c=some b->P c b
 | [],_,c,b,h=>by cases h
 | (c1,b1) ::l,t,c,b,h=>by
   unfold r6 at h;rw[List.lookup_cons] at h;cases e:c==c1 with
   | true=>rw [e] at h;cases h;rw [eq_of_beq e];exact t.1
   | false=>rw [e] at h;exact ku t.2 c b h
def NO(P:Nat->Prop):List Nat->Prop | []=>True | c ::l=>P c/\NO P l
theorem Lz{P:Nat->Prop}:NO P []:=trivial
theorem m3{P:Nat->Prop}{c:Nat}{l:List Nat}(h:P c)(t:NO P l):NO P (c ::l):=⟨h,t⟩
theorem Fj{P:Nat->Prop}:∀{l:List Nat},NO P l->∀c∈l,P c
 | [],_,c,h=>by cases h
 | d ::l,t,c,h=>by
   rcases List.mem_cons.mp h with rfl | z
   .exact t.1
   .exact Fj t.2 c z
theorem PL{P:Nat->Prop}{l:List Nat}(t:NO P l):∀c,l.contains c=true->P c:=fun c h=>Fj t c (List.contains_iff_mem.mp h)
end L3
namespace L2
open PySem PySem.Spec PyProof.Rows
section
variable {X:Cx}
def qH(d:D)(ds:List D):R D:=match d,ds with
 | .lst es,[.str k]=>(match strs? es with | some ss=> .ok (.int (ss.count k:Nat)) | none=> .no)
 | _,_=> .no
theorem tQ(k:Str):∀ss:List Str,(ss.map V.str).countP (fun y=>G7 y (.str k))=ss.count k
 | []=>rfl
 | y ::ss=>by
   rw[List.map_cons,List.countP_cons,tQ k ss,List.count_cons];rfl
theorem Gp:Mw X "list.count" qH:=by
 intro pins s σ H B da d ds x xs v us I hb rx rxs ra rs hg;unfold qH at hg;split at hg
 .rename_i es k;split at hg
  .rename_i ss e;cases hg;obtain⟨a,ys,rfl,l,rys⟩:=Rep.lst.mp ra;cases rx;obtain⟨y,rfl,r⟩:=rs.one;rw[Rep.str.mp r] at rxs;obtain⟨u,rfl,ru⟩:=vals1 rxs;obtain⟨its,rv,pl,hz⟩:=I.list l.sq;have hys:=iE rys e;subst hys;have fs:=rj ss;obtain⟨⟨cls,dd,data,sl⟩,ho,hc,n,hd⟩:=pl.isList;simp only at hc hd;subst hc hd;have fx:lr (.str k)=true:=rfl;have hcnt:(its.toArray.toList.countP (xU (.str k)):Nat)=ss.count k:=by
    rw[show its.toArray.toList=its by simp,vK rv fs,tQ]
   refine call_meets PySem.F.slot_list_count ⟨_,ho,rfl⟩ PySem.F.entry_list_count (PySem.F.args_list_count_2 _ _) (PySem.SeqAt.list_countAt a its.toArray n dd sl u (xU (.str k))) ⟨ho,fun z hz=>l5 ru fx rv fs z (by simpa using hz),?_⟩
   rw[hcnt];exact⟨.int _,H,I.tok _,⟨_,rfl⟩,aS.refl H,Rep.int.mpr rfl⟩
  .cases hg
 .cases hg
theorem zE{o e:Expr}{f:FD}{fs:aw->R (List D)}{apos bj:Pos}(ho:QD X o f)(ha:DP X [e] fs)
 (eJ:attributeBase o "count" X.env (eval o X.env)=eval o X.env:=by rfl)
 (kG:((backTo bj (starEach [e] X.env)).all (fun x=>!x.1) && (backToKw bj (keywordEach [] X.env)).all (fun x=>x.1.isSome)
   && decide (([e]:List Expr).length+([]:List Keyword).length+(if([]:List Keyword).isEmpty then 0 else 1) < 30))=true:=by rfl)
 (eI:(apos.endLine==bj.line)=true:=by rfl) (hs:starEach [e] X.env=(false,eval e X.env) ::starEach [] X.env:=by rfl) :
 QD X (.Call (.Attribute o "count" apos) [e] [] bj) (v_ "list" qH f fs):=⟨BF F.plainAttrs_list F.slot_list_count F.type_list_count Gp ho.1 ha.1 (.inr (.inr rfl)) eJ kG eI hs⟩
end
section
variable {X:Cx}
def yR(n:Nat)(t:Ez):FT:=fun d δ=>match d with | .lst ds=>R.aW (decide (ds.length=n)) (t ds δ) | _=> .no
theorem qy{k:Nat}{t:Ez}{n:Nat}{pos:Pos}(hc:X.calm=true)(h:JE X es t)(hn:(assignEach es X.env).length=n:=by rfl)(zk:(assignEach es X.env).findIdx? (·.1)=none:=by rfl):NW X (.Tuple es k pos) (yR n t):=
 ⟨(Mg hc h.1 hn zk).imp fun v σ H Q ⟨Z,B,δ,d,dC,E,r,ht,q⟩=>by
   cases d with
   | lst ds=>
     unfold Rep at r;obtain⟨a,xs,rfl,l,r⟩:=r;obtain⟨hl,h⟩:=R.aQ ht;exact⟨a,xs,rfl,l.sq,by rw[<-r.length];exact of_decide_eq_true hl,Z,B,δ,ds,dC,E,r,h,q⟩
   | _=>cases ht⟩
end
section
variable {X:Cx}
def A0(d e:D):R D:=match d,e with
 | .lst ds, .int k=>R.aW (decide (0<=k/\k < 1000000/\ds.length*k.toNat<=sizeLine)) (.ok (.lst (List.replicate k.toNat ds).flatten))
 | _,_=> .no
theorem KR:nJ X (binaryOp .Mult) A0:=by
 intro pins s σ H B da db d x y v u I hb rx ry ra rb hg;unfold A0 at hg;split at hg
 .rename_i ds k;obtain⟨h1,h2⟩:=R.aQ hg;cases h2;obtain⟨k0,k1,hsz⟩:=of_decide_eq_true h1;obtain⟨a1,W_,rfl,l1,r1⟩:=Rep.lst.mp ra;obtain rfl:=Rep.int.mp rb;cases rx;obtain⟨t,rfl⟩:=ry;obtain⟨its,WR,p1,_⟩:=I.list l1.sq;have e1:=WR.length;have e3:=r1.length;obtain⟨⟨cls,dd,data,sl⟩,ho,hc,n,hd⟩:=p1.isList;simp only at hc hd;subst hc hd;have hlen:its.toArray.size*k.toNat<=sizeLine:=by rw[List.size_toArray,<-e1,<-e3];exact hsz
  have hcap:¬its.toArray.size*k.toNat > (2 ^ 63 - 1) / 8:=by
   have:(sizeLine:Nat)<=(2 ^ 63 - 1) / 8:=by decide
   omega
  have hfit:¬(!Builtin.List.listFitsIndex k)=true:=by
   rw[fitsIndex_both (by omega) (by omega)]
   exact Bool.false_ne_true
  have hlong:¬Builtin.List.listTooLong (its.toArray.size*k.toNat)=true:=by
   rw[Ei hlen];exact Bool.false_ne_true
  have hnew:List.foldl (fun x1 x2=>x1++x2) #[] (List.replicate (if its.toArray.isEmpty=true then 0 else k.toNat) its.toArray)=(List.replicate k.toNat its).flatten.toArray:=by
   have f0:∀m:Nat,List.foldl (fun x1 x2=>x1++x2) #[] (List.replicate m its.toArray)=(List.replicate m its).flatten.toArray:=fun m=>by
    have:=foldl_rep its m [];rw[List.nil_append] at this;exact this
   rw[f0];cases its with
   | nil=>simp
   | cons a r'=>rw [if_neg (by simp)]
  refine wpAny_binaryOp_repeat_ref (T:="list") (U:="int") (by decide) ⟨_,ho,rfl⟩ (fun s'=>typeIs_int s' k t) noFill_list_mul F.fills_int_mul F.slot_int_rmul repeat_list F.slot_int_index.lookup
   (call_meets F.slot_int_rmul (typeIs_int s k t) F.entry_int_rmul (F.args_int_rmul_2 _ _) (lm_int_rmul_list_any k t a1 its.toArray n dd sl)
     ⟨ho,rfl,⟨_,ho,rfl⟩,call_meets F.slot_list_mul ⟨_,ho,rfl⟩ F.entry_list_mul (F.args_list_mul_2 _ _) (lm_list_mul_any a1 its.toArray n dd sl k t hfit hcap hlong) ⟨ho,?_⟩⟩)
  rw[hnew];have hp:H s.heap.objs.size=none:=I.hok.fresh (Nat.le_refl _);refine⟨.ref s.heap.objs.size,_,I.Lr (t':=s.toks) (WR.rep k.toNat) (by rw[len_rep,Nat.mul_comm,e1,<-List.size_toArray];exact hlen),rfl,bG hp,Rep.lst.mpr ⟨_,_,rfl, .Aj ba fun ha=>?_,(y0 r1 k.toNat).same (bG hp)⟩⟩
  obtain⟨o,hO⟩:=hb _ ha;rw[hp] at hO;cases hO
 .cases hg
end
end L2
end
section
set_option maxHeartbeats 4000000
namespace NT
def mx(f:Nat->Nat)(w:List Nat):Nat:=(w.map f).foldl max 0
structure BA (f:Nat->Nat) (M:Nat) (bs:List Int):Prop where
 a:∀(z:Nat) (v:Int),bs[z]? =some v->v= -1\/(0<=v/\v+f z<=M)
def BB(f:Nat->Nat)(M:Nat)(bs:List Int)(n:Nat):Prop:=∃(z:Nat) (v:Int),z < n/\bs[z]? =some v/\0<=v/\(M:Int)<=v+f z
def Up(bs WY:List Int):Prop:=WY.length=bs.length/\∀(z:Nat) (v:Int),bs[z]? =some v->∃v',WY[z]? =some v'/\v<=v'
end NT
namespace NT
open PySem PySem.Spec PyProof.Rows L2 L3
structure Gt where
 k:Str
 w:List Nat
 s:Bool
def nN(z:Nat):D:= .int z
def wN(w:List Nat):D:= .tup (w.map nN)
def gN(g:Gt):D:= .tup [.str g.k,wN g.w, .bl g.s]
def iN(x:Str × Nat):D:= .tup [.str x.1, .int x.2]
def oN(x:Str × List Nat):D:= .tup [.str x.1,wN x.2]
structure Net where
 i:Aac
 g:List Gt
 o:Aad
def Net.d(n:Net):D:= .tup [.lst (n.i.map iN), .lst (n.g.map gN), .lst (n.o.map oN)]
def Net.first(n:Net):Nat:=(n.i.map (·.2)).sum
structure Wy (n:Nat) (w:List Nat):Prop where
 ne:w≠[]
 le:w.length<=3
 lt:∀z∈w,z < n
structure Net.Ok (n:Net):Prop where
 i1:1<=n.i.length
 i6:n.i.length<=6
 iw:∀x∈n.i,1<=x.2/\x.2<=3
 is:∀x∈n.i,lD 0 (.str x.1)
 g60:n.g.length<=60
 gw:∀(p:Nat) (g:Gt),n.g[p]? =some g->Wy (n.first+p) g.w
 gs:∀g∈n.g,lD 0 (.str g.k)
 o1:1<=n.o.length
 o6:n.o.length<=6
 ow:∀x∈n.o,Wy (n.first+n.g.length) x.2
 os:∀x∈n.o,lD 0 (.str x.1)
inductive Sm:Nat->D->Prop where
 | int (n:Nat) (i:Int):Sm n (.int i)
 | bl (n:Nat) (b:Bool):Sm n (.bl b)
 | str (n:Nat) (s:Str):Sm n (.str s)
 | lst {n:Nat} {ds:List D} (h:∀d∈ds,Sm n d) (hl:ds.length<=1000000):Sm (n+1) (.lst ds)
 | tup {n:Nat} {ds:List D} (h:∀d∈ds,Sm n d) (hl:ds.length<=1000000):Sm (n+1) (.tup ds)
theorem eM{F G:FS}{δ:aw}{d:D}(h:F δ= .ok (.rt d)):br F G δ= .ok (.rt d):=by unfold br;rw [h];rfl
theorem Gg(S:aR)(x:SO):(S++[x])[S.length]? =some x:=by rw[List.getElem?_append_right (Nat.le_refl _),Nat.sub_self];rfl
theorem wD{α:Type}{l:List α}{f:α->D}{i:Nat}{v:V3}(h:((l.map f).map V3.d)[i]? =some v):∃x,l[i]? =some x/\v= .d (f x):=by
 rw[List.getElem?_map,List.getElem?_map] at h;cases q:l[i]? with
 | none=>rw [q] at h;cases h
 | some x=>rw [q] at h;cases h;exact⟨x,rfl,rfl⟩
theorem AN{α:Type}{l:List α}{f:α->D}{i:Nat}{v:D}(h:(l.map f)[i]? =some v):∃x,l[i]? =some x/\v=f x:=by
 rw[List.getElem?_map] at h;cases q:l[i]? with
 | none=>rw [q] at h;cases h
 | some x=>rw [q] at h;cases h;exact⟨x,rfl,rfl⟩
theorem iA{α:Type}{t:FT}{c:aw->R Bool}{f:FD}{δ:aw}(a b:α->D):∀{xs:List α},(∀x∈xs,∃δ1,t (a x) δ= .ok δ1/\c δ1= .ok true/\f δ1= .ok (b x))->qW t c f δ (xs.map a)= .ok (xs.map b)
 | [],_=>rfl
 | x ::xs,h=>by
   obtain⟨δ1,h1,h2,h3⟩:=h x List.mem_cons_self;have ih:=iA (t:=t) (c:=c) (f:=f) (δ:=δ) a b (xs:=xs) fun y hy=>h y (List.mem_cons_of_mem _ hy)
   rw[List.map_cons];unfold qW;rw[h1,R.aO,h2,R.aO,if_pos rfl,h3,R.aO,ih];rfl
theorem tR{α:Type}{t:FT}{c:aw->R Bool}{f:FD}{δ:aw}(p:α->Bool)(a b:α->D):∀{xs:List α},(∀x∈xs,∃δ1,t (a x) δ= .ok δ1/\c δ1= .ok (p x)/\(p x=true->f δ1= .ok (b x)))->qW t c f δ (xs.map a)= .ok ((xs.filter p).map b)
 | [],_=>rfl
 | x ::xs,h=>by
   obtain⟨δ1,h1,h2,h3⟩:=h x List.mem_cons_self;have ih:=tR (t:=t) (c:=c) (f:=f) (δ:=δ) p a b (xs:=xs) fun y hy=>h y (List.mem_cons_of_mem _ hy)
   rw[List.map_cons];unfold qW;rw[h1,R.aO,h2,R.aO];cases e:p x with
   | true=>rw [if_pos rfl,h3 e,R.aO,ih,List.filter_cons,if_pos e];rfl
   | false=>rw [if_neg (by decide),ih,List.filter_cons,if_neg (by rw[e];decide)]
theorem Jc{n z:Nat}(h:z < n):DY n (z:Int)=some z:=by
 unfold DY;rw[if_pos (by omega),if_pos (by omega)]
 simp
theorem FC{α:Type}{xs:List α}{z:Nat}{x:α}(h:xs[z]? =some x):we xs (z:Int)=some x:=by
 have hl:=(List.getElem?_eq_some_iff.mp h).1;unfold we;rw[Jc hl];exact h
theorem o3{ds:List D}{z:Nat}{x:D}(h:ds[z]? =some x):dN (.lst ds) (.int z)= .ok x:=LD (FC h)
end NT
end
section
namespace MT
open PySem PySem.Spec PyProof.Rows L2 L3
abbrev M:=Nat->Bool
theorem SV{N:List Str}{F:FZ}{vs:List V3}{δ:DE}{S:aR}{QV:V3->aR->Prop}(e:dq N vs=δ)(h:W3 (F δ S) fun o S1=>∃dC,o= .nx dC/\QV (.d .cN) S1):W3 (uO N F vs S) QV:=by
 subst e;exact W3.bind (h.mono fun _ _ ⟨_,e,q⟩=>by subst e;exact W3.ok q)
def VT:Nat->M->Nat
 | 0,_=>0
 | N+1,f=>(if f 0 then 1 else 0)+2*VT N (fun i=>f (i+1))
def mI(N:Nat)(f:M):D:= .int (VT N f:Nat)
def one:M:=fun _=>true
def bI(b:Bool):D:= .int (if b then 1 else 0)
def Xp:List Bool->Nat
 | []=>0
 | b ::bs=>(if b then 1 else 0)+2*Xp bs
def nI(n:Nat):D:= .int (n:Int)
def kS:Nat->Str | 0=>"not" | 1=>"and" | 2=>"or" | 3=>"xor" | _=>"vote"
def ar:Nat->Nat | 0=>1 | 4=>3 | _=>2
theorem Ew(k:Nat):ar k<=3:=by unfold ar;split <;> omega
def gv:Nat->List Bool->Bool
 | 0,[a]=>!a
 | 1,[a,b]=>a && b
 | 2,[a,b]=>a || b
 | 3,[a,b]=>a !=b
 | 4,[a,b,c]=>(a && b) || (a && c) || (b && c)
 | _,_=>false
def VG(ws:List M)(n:Nat):M:=ws.getD n fun _=>false
abbrev Gt:=Nat × List Nat × Bool
def DK(g:Gt):D:= .tup [.str (kS g.1), .tup (g.2.1.map nI), .bl g.2.2]
def PF(n:Nat)(g:Gt):Prop:=g.1<=4/\g.2.1.length=ar g.1/\∀w∈g.2.1,w < n
def inD(x:Str × Nat):D:= .tup [.str x.1,nI x.2]
def FL(x:Str × List Nat):D:= .tup [.str x.1, .tup (x.2.map nI)]
def Rq(ins:Aac)(gs:List Gt)(os:Aad):D:= .tup [.lst (ins.map inD), .lst (gs.map DK), .lst (os.map FL)]
def QW(ins:Aac):Nat:=(ins.map (·.2)).sum
def gF(g:Gt)(ws:List M):M:=fun p=>gv g.1 (g.2.1.map fun n=>VG ws n p)
def GR(bad:List Int)(b:M):Nat->List M->List M
 | 0,ws=>ws
 | n+1,ws=>GR bad b n ws++[fun p=>b p !=bad.contains ((GR bad b n ws).length:Int)]
def MV(ins:Aac)(bits:List M)(bad:List Int):Nat->List M
 | 0=>[]
 | i+1=>match ins[i]?,bits[i]? with | some x,some b=>GR bad b x.2 (MV ins bits bad i) | _,_=>MV ins bits bad i
def QZ(gs:List Gt)(turned:List Int)(w0:List M):Nat->List M
 | 0=>w0
 | i+1=>match gs[i]? with | some g=>QZ gs turned w0 i++[fun p=>gF g (QZ gs turned w0 i) p !=turned.contains (i:Int)] | none=>QZ gs turned w0 i
structure WH (ins:Aac) (gs:List Gt) (os:Aad):Prop where
 hi:ins.length < 100
 hw:∀x∈ins,x.2 < 100
 hg:gs.length < 1000
 g:∀(i:Nat) (x:Gt),gs[i]? =some x->PF (QW ins+i) x
 ho:os.length < 1000
 o:∀x∈os,x.2.length < 1000/\∀w∈x.2,w < QW ins+gs.length
def Zf(ins:Aac)(gs:List Gt)(bits:List M)(turned bad:List Int):List M:=QZ gs turned (MV ins bits bad ins.length) gs.length
def tell(ws:List M)(x:Str × List Nat):List M:=x.2.map (VG ws)
def rd2:List Bool->Bool × Bool
 | [a]=>(!a,a)
 | [a,b]=>(!(a || b),a && b)
 | [a,b,c]=>let v:=(a && b) || (a && c) || (b && c);(!v,v)
 | _=>(false,false)
def brk(safe:Bool)(x y:Bool × Bool):Bool:=if safe then(x.1 && y.2) || (x.2 && y.1) else(x.1 !=y.1) || (x.2 !=y.2)
def Za:List Nat->Nat->Aae
 | _,0=>[[]]
 | ps,s+1=>(List.range ps.length).flatMap fun a=>(Za (ps.drop (a+1)) s).map (ps.getD a 0 ::·)
theorem xn:∀{l:List Nat} {m:Nat},(∀x∈l,x<=m)->l.sum<=l.length*m
 | [],_,_=>by simp
 | x ::l,m,h=>by
   have:=xn (l:=l) (m:=m) fun y hy=>h y (List.mem_cons_of_mem _ hy)
   have h0:=h x List.mem_cons_self;rw[List.sum_cons,List.length_cons,Nat.add_mul];omega
end MT
end
section
set_option maxHeartbeats 1000000
namespace JT
open PySem PySem.Spec PyProof.Rows L2 L3 MT
def gB(g:Gt)(ws:List Bool):Bool:=gv g.1 (g.2.1.map fun n=>ws.getD n false)
def wL:List Gt->(Nat->Bool)->List Bool->List Bool
 | [],_,ws=>ws
 | g ::gs,T,ws=>wL gs (fun i=>T (i+1)) (ws++[gB g ws !=T 0])
def OO(f:Nat->Nat)(g:Gt):Gt:=(g.1,g.2.1.map f,g.2.2)
def Yd(f:Nat->Nat)(x:Str × List Nat):Str × List Nat:=(x.1,x.2.map f)
def Sh(f:Nat->Nat)(v ws:List Bool):Prop:=∀w,w < v.length->f w < ws.length/\ws.getD (f w) false=v.getD w false
def atP(p:Nat)(ws:List M):List Bool:=ws.map (· p)
def xR:List (Str × Nat)->List Bool->List Bool
 | x ::ins,b ::bits=>List.replicate x.2 b++xR ins bits
 | _,_=>[]
def Ed(k:Nat)(bad:Nat->Bool):List Bool->List Bool
 | []=>[]
 | b ::bs=>(b !=bad k) ::Ed (k+1) bad bs
def RF(ins:Aac)(gs:List Gt)(bits:List Bool)(T bad:Nat->Bool):List Bool:=wL gs T (Ed 0 bad (xR ins bits))
end JT
end
section
namespace JT
open PySem PySem.Spec PyProof.Rows L2 L3 MT
def x_(ws:List Bool)(ns:List Nat):List Bool:=ns.map fun n=>ws.getD n false
def Gi(f:Nat->List Bool):List (Option Nat × Nat)->List Bool->List Bool
 | [],_=>[]
 | (some o,_) ::r,l=>f o++Gi f r l
 | (none,w) ::r,l=>l.take w++Gi f r (l.drop w)
def IL(f1:Nat->Nat)(os:Nat->List Nat):List (Option Nat × Nat)->Nat->List Nat
 | [],_=>[]
 | (some o,_) ::r,free=>(os o).map f1++IL f1 os r free
 | (none,w) ::r,free=>List.range' free w++IL f1 os r (free+w)
def uE:List (Option Nat × Nat)->Nat
 | []=>0
 | (some _,_) ::r=>uE r
 | (none,w) ::r=>w+uE r
def RV(n1 l w:Nat):Nat:=if w < n1 then w else w+l
def VU(L:List Nat)(top w:Nat):Nat:=if w < L.length then L.getD w 0 else top+(w - L.length)
section
variable {gs1 N2:List Gt} {φ:List (Option Nat × Nat)} {os:Nat->List Nat} {n1:Nat} {r1 rl:List Bool} {T:Nat->Bool}
def gJ(gs1 N2:List Gt)(φ:List (Option Nat × Nat))(os:Nat->List Nat)(n1:Nat):List Gt:=
 gs1.map (OO (RV n1 (uE φ)))++N2.map (OO (VU (IL (RV n1 (uE φ)) os φ n1) (n1+uE φ+gs1.length)))
end
def NB(bits:List Bool):List Bool:=bits.flatMap (List.replicate 3)
def VS:List Bool->Bool
 | [a,b,c]=>(a && b) || (a && c) || (b && c)
 | _=>false
def Wt:List Bool->Bool
 | [a,b,c]=>(a !=b) || (a !=c)
 | _=>false
def Xn(xs ys:List Bool):List Bool:=List.zipWith (· !=·) xs ys
def lst(xs ys:List Bool):Bool:=VS (Xn xs ys)
def OJ:List Bool->List Bool->Prop
 | [],r=>r=[]
 | b ::bs,r=>∃x y z r',r=x ::y ::z ::r'/\VS [b !=x,b !=y,b !=z]=false/\OJ bs r'
def no:Nat->Bool:=fun _=>false
structure YL (c:Nat) (gs:List Gt) (os:Aad):Prop where
 a:∀bits:List Bool,bits.length=c->∀x∈os,Wt (x_ (wL gs no (NB bits)) x.2)=false
 b:∀bits:List Bool,bits.length=c->∀i g,gs[i]? =some g->g.2.2=false->∀x∈os,lst (x_ (wL gs no (NB bits)) x.2) (x_ (wL gs (fun j=>j==i) (NB bits)) x.2)=false
 c:∀bits row:List Bool,bits.length=c->OJ bits row->∀x∈os,lst (x_ (wL gs no (NB bits)) x.2) (x_ (wL gs no row) x.2)=false
def BP(v:Nat->Bool):List (Option Nat × Nat)->List Bool->List Bool
 | [],_=>[]
 | (some o,_) ::r,l=>v o ::BP v r l
 | (none,_) ::r,l=>l.headD false ::BP v r l.tail
def many:List (Option Nat × Nat)->Nat
 | []=>0
 | (some _,_) ::r=>many r
 | (none,_) ::r=>many r+1
end JT
end
section
namespace JT
open PySem PySem.Spec PyProof.Rows L2 L3 MT
structure Jnd (c1:Nat) (gs1 N2:List Gt) (Qw Q7:Aad) (φ:List (Option Nat × Nat)) (os:Nat->List Nat):Prop where
 h3:∀x∈φ,x.2=3
 g1:∀i g,gs1[i]? =some g->∀w∈g.2.1,w < 3*c1+i
 g2:∀i g,N2[i]? =some g->∀w∈g.2.1,w < 3*φ.length+i
 o1:∀x∈Qw,x.2.length=3/\∀n∈x.2,n < 3*c1+gs1.length
 o2:∀x∈Q7,x.2.length=3/\∀n∈x.2,n < 3*φ.length+N2.length
 ho:∀o w,(some o,w)∈φ->∃x∈Qw,x.2=os o
section
variable {c1:Nat} {gs1 N2:List Gt} {Qw Q7 WX:Aad} {φ:List (Option Nat × Nat)} {os:Nat->List Nat}
abbrev VX(c1:Nat)(φ:List (Option Nat × Nat)):Nat->Nat:=RV (3*c1) (uE φ)
abbrev Yb(c1:Nat)(gs1:List Gt)(φ:List (Option Nat × Nat))(os:Nat->List Nat):Nat->Nat:=VU (IL (VX c1 φ) os φ (3*c1)) (3*c1+uE φ+gs1.length)
def VI(c1:Nat)(gs1:List Gt)(Qw Q7 WX:Aad)(φ:List (Option Nat × Nat))(os:Nat->List Nat):Prop:=
 ∀x∈WX,(∃y∈Qw,x.2=y.2.map (VX c1 φ))\/∃y∈Q7,x.2=y.2.map (Yb c1 gs1 φ os)
end
end JT
end
section
namespace JT
open PySem PySem.Spec PyProof.Rows L2 L3 MT
def FY:Nat->List (List Bool)
 | 0=>[[]]
 | c+1=>(FY c).flatMap fun b=>[b++[false],b++[true]]
def Yk(c j:Nat):M:=fun p=>((FY c).getD p []).getD j false
def Yi(c:Nat):List M:=(List.range c).map (Yk c)
def Kv(c p:Nat):List Bool:=(FY c).getD p []
def Vy(f e:Nat):Nat->Aae
 | 0=>[[]]
 | m+1=>(List.range' f (e - f)).flatMap fun w=>(Vy ((w / 3+1)*3) e m).map (w ::·)
def Xt(f e:Nat):List Nat->Prop
 | []=>True
 | w ::B=>f<=w/\w < e/\Xt ((w / 3+1)*3) e B
def RD(c:Nat)(gs:List Gt):List (List Nat × List Nat):=
 (gs.zipIdx.filter (fun x=>!x.1.2.2)).map (fun x=>(([]:List Nat),[x.2]))++(List.range' 1 c).flatMap fun m=>(Vy 0 (3*c) m).map fun B=>(B,([]:List Nat))
def GK(c:Nat)(gs:List Gt)(p:Nat):List Bool:=wL gs no (NB (Kv c p))
def MX(c:Nat)(gs:List Gt)(f:List Nat × List Nat)(p:Nat):List Bool:=wL gs (fun i=>f.2.contains i) (Ed 0 (fun n=>f.1.contains n) (NB (Kv c p)))
def Sb(c:Nat)(gs:List Gt)(os:Aad)(p:Nat):Bool:=os.any fun x=>Wt (x_ (GK c gs p) x.2)
def Ot(c:Nat)(gs:List Gt)(os:Aad)(f:List Nat × List Nat)(p:Nat):Bool:=os.any fun x=>lst (x_ (GK c gs p) x.2) (x_ (MX c gs f p) x.2)
def Tb(c:Nat)(gs:List Gt)(os:Aad):Option (List Nat × List Nat × Nat):=
 match (List.range (2 ^ c)).find? (Sb c gs os) with
 | some p=>some ([],[],p)
 | none=>(RD c gs).findSome? fun f=>((List.range (2 ^ c)).find? (Ot c gs os f)).map fun p=>(f.1,f.2,p)
end JT
end
section
namespace JT
open PySem PySem.Spec PyProof.Rows L2 L3 MT
theorem jX{a b:Nat}(h:0 < b):dv (nI a) (nI b)= .ok (nI (a % b)):=by
 show dv (.int a) (.int b)=_;rw[uu (by omega)];rfl
theorem sd{a b:Nat}(h:0 < b)(h2:b < 1073741824):gI (nI a) (nI b)= .ok (nI (a / b)):=by
 show gI (.int a) (.int b)=_;rw[Bb (by omega) (by omega)];rfl
theorem zc(a b:Nat):bD (nI a) (nI b)= .ok (nI (a+b)):=rfl
theorem yM(a b:Nat):qr (nI a) (nI b)= .ok (.bl (decide (a=b))):=by
 show R.ok (D.bl ((a:Int)==(b:Int)))=_;congr 2;by_cases h:a=b
 .rw [decide_eq_true h];exact beq_iff_eq.mpr (by omega)
 .rw [decide_eq_false h];exact beq_eq_false_iff_ne.mpr (by omega)
theorem FF(a b:Nat):M4 (nI a) (nI b)= .ok (.bl (decide (b < a))):=by
 show R.ok (D.bl (decide ((a:Int) > (b:Int))))=_;congr 2;by_cases h:b < a
 .rw [decide_eq_true h,decide_eq_true (by omega)]
 .rw [decide_eq_false h,decide_eq_false (by omega)]
theorem wA(a b:Nat):DJ (nI a) (nI b)= .ok (.bl (decide (a < b))):=by
 show R.ok (D.bl (decide ((a:Int) < (b:Int))))=_;congr 2;by_cases h:a < b
 .rw [decide_eq_true h,decide_eq_true (by omega)]
 .rw [decide_eq_false h,decide_eq_false (by omega)]
theorem Hw(a b:Nat):Hc (nI a) (nI b)= .ok (.bl (decide (b<=a))):=by
 show R.ok (D.bl (decide ((a:Int)>=(b:Int))))=_;congr 2;by_cases h:b<=a
 .rw [decide_eq_true h,decide_eq_true (by omega)]
 .rw [decide_eq_false h,decide_eq_false (by omega)]
theorem Rm(a b:Nat):S7 (nI a) (nI b)= .ok (.bl (decide (a<=b))):=by
 show R.ok (D.bl (decide ((a:Int)<=(b:Int))))=_;congr 2;by_cases h:a<=b
 .rw [decide_eq_true h,decide_eq_true (by omega)]
 .rw [decide_eq_false h,decide_eq_false (by omega)]
theorem mV{ds:List D}:o7 [.lst ds]= .ok (nI ds.length):=rfl
theorem rX{f:FD}{δ:aw}{n:Nat}(h:f δ= .ok (nI n))(hn:n < 1000000):j9 f δ= .ok ((List.range n).map nI):=by
 rw[HK h hn];unfold su;congr 1;refine List.map_congr_left fun i _=>?_
 show D.int (0+(i:Int))=D.int (i:Int);rw[Int.zero_add]
def tpN(T:List Nat):D:= .tup (T.map nI)
def kdN(r:Nat):Nat:=[1,2,3,4,0].getD (r % 5) 0
theorem O6{f:FD}{δ:aw}{k:Nat}(hk:k<=4)(h:f δ= .ok (.str (kS k))):Fv [((Sum.inr "not":Key),V.int 1),((Sum.inr "vote":Key),V.int 3)] f (eC (.int 2)) δ= .ok (nI (ar k)):=by
 unfold Fv;rw[h,R.aO]
 match k,hk with
 | 0,_=>rfl
 | 1,_=>rfl
 | 2,_=>rfl
 | 3,_=>rfl
 | 4,_=>rfl
end JT
end
section
namespace JT
open PySem PySem.Spec PyProof.Rows L2 L3 MT
end JT
end
section
namespace TX
open PySem PySem.Spec PyProof.Rows L2 Builtin Builtin.Str
abbrev SP:Str:=Str.ofString " "
abbrev NL:Str:=Str.ofString "\n"
abbrev CO:Str:=Str.ofString ":"
theorem pj:SP=⟨#[32]⟩:=by decide+kernel
theorem vL:NL=⟨#[10]⟩:=by decide+kernel
theorem Bw:CO=⟨#[58]⟩:=by decide+kernel
def jn(c:Nat):List (List Nat)->List Nat
 | []=>[]
 | [x]=>x
 | x ::y ::r=>x++c ::jn c (y ::r)
theorem er(c:Nat):∀l:List Str,(Str.join ⟨#[c]⟩ l).cps.toList=jn c (l.map fun s=>s.cps.toList)
 | []=>rfl
 | [x]=>rfl
 | x ::y ::r=>by
   show(x++(⟨#[c]⟩:Str)++Str.join ⟨#[c]⟩ (y ::r)).cps.toList=_;rw[cJ,cJ,er c (y ::r),List.append_assoc];rfl
theorem AL{c:Nat}:∀{x x' a b:List Nat},c ∉ x->c ∉ x'->x++c ::a=x'++c ::b->x=x'/\a=b
 | [],[],a,b,_,_,h=>by cases h;exact⟨rfl,rfl⟩
 | [],y ::ys,a,b,_,h2,h=>by
   have:c=y:=(List.cons.inj h).1;exact absurd (by rw[this];exact List.mem_cons_self) h2
 | y ::ys,[],a,b,h1,_,h=>by
   have:y=c:=(List.cons.inj h).1;exact absurd (by rw[this];exact List.mem_cons_self) h1
 | y ::ys,z ::zs,a,b,h1,h2,h=>by
   obtain⟨e1,e2⟩:=List.cons.inj h;obtain⟨e3,e4⟩:=AL (fun q=>h1 (List.mem_cons_of_mem _ q)) (fun q=>h2 (List.mem_cons_of_mem _ q)) e2
   exact⟨by rw[e1,e3],e4⟩
theorem FH{c:Nat}:∀{l l':Aae},l≠[]->l'≠[]->(∀x∈l,c ∉ x)->(∀x∈l',c ∉ x)->jn c l=jn c l'->l=l'
 | [],_,h,_,_,_,_=>absurd rfl h
 | _,[],_,h,_,_,_=>absurd rfl h
 | [x],[y],_,_,_,_,e=>by rw[show x=y from e]
 | [x],y ::z ::r,_,_,h1,_,e=>by
   have e:x=y++c ::jn c (z ::r):=e;exact absurd (by rw[e];simp) (h1 x List.mem_cons_self)
 | y ::z ::r,[x],_,_,_,h2,e=>by
   have e:y++c ::jn c (z ::r)=x:=e;exact absurd (by rw[<-e];simp) (h2 x List.mem_cons_self)
 | x ::x2 ::r,y ::y2 ::s,_,_,h1,h2,e=>by
   obtain⟨e1,e2⟩:=AL (h1 x List.mem_cons_self) (h2 y List.mem_cons_self) (show x++c ::jn c (x2 ::r)=y++c ::jn c (y2 ::s) from e)
   rw[e1,FH (by simp) (by simp) (fun z hz=>h1 z (List.mem_cons_of_mem _ hz)) (fun z hz=>h2 z (List.mem_cons_of_mem _ hz)) e2]
theorem map_inj{α β:Type}{f:α->β}(hf:∀a b,f a=f b->a=b):∀{l l':List α},l.map f=l'.map f->l=l'
 | [],[],_=>rfl
 | [],_ ::_,h=>by cases h
 | _ ::_,[],h=>by cases h
 | a ::l,b ::l',h=>by
   obtain⟨e1,e2⟩:=List.cons.inj h;rw[hf a b e1,map_inj hf e2]
theorem pQ{c:Nat}{l:List Str}(sF:l≠[])(hf:∀p∈l,c ∉ p.cps.toList):Txt.split (Str.join ⟨#[c]⟩ l) ⟨#[c]⟩=l:=by
 have h1:=StrLaws.join_split (Str.join ⟨#[c]⟩ l) ⟨#[c]⟩;have h2:=StrLaws.split_free (Str.join ⟨#[c]⟩ l) c;have h3:=split_pos (Str.join ⟨#[c]⟩ l) ⟨#[c]⟩;generalize Txt.split (Str.join ⟨#[c]⟩ l) ⟨#[c]⟩=m at h1 h2 h3;have h4:jn c (m.map fun s=>s.cps.toList)=jn c (l.map fun s=>s.cps.toList):=by rw[<-er,<-er,h1]
 refine map_inj (f:=fun s:Str=>s.cps.toList) (fun a b e=>jd e) (FH (c:=c) ?_ ?_ ?_ ?_ h4)
 .intro q;rw [List.map_eq_nil_iff] at q;rw [q] at h3;simp at h3
 .intro q;rw [List.map_eq_nil_iff] at q;exact sF q
 .intro x hx;obtain⟨s,hs,rfl⟩:=List.mem_map.mp hx;exact h2 s hs
 .intro x hx;obtain⟨s,hs,rfl⟩:=List.mem_map.mp hx;exact hf s hs
theorem tS{x:Str}{c:Nat}(h:x.length<=10000000):pZ (.str x) [.str ⟨#[c]⟩]= .ok (.lst ((Txt.split x ⟨#[c]⟩).map .str)):=by
 have hz:sizeLine=16777216:=sizeLine_eq;have h1:=split_le x ⟨#[c]⟩;have h2:=StrLaws.occ_length_le x ⟨#[c]⟩ 0 x.length (x.length+1);unfold pZ;refine bS _ ⟨rfl,by omega,by omega,?_⟩
 unfold partsBetween;rw[List.length_map,List.length_zip];simp;omega
abbrev nR:List Str:=[Str.ofString "in",Str.ofString "gate",Str.ofString "sure",Str.ofString "out",Str.ofString "not",Str.ofString "and",Str.ofString "or",Str.ofString "xor",Str.ofString "vote"]
def low(s:Str):Bool:=s.cps.toList.all fun c=>decide (97<=c/\c<=122)
def isNm(s:Str):Bool:=decide (1<=s.length) && (decide (s.length<=8) && (!nR.contains s && low s))
theorem d8{s:Str}:isNm s=true↔1<=s.length/\s.length<=8/\s ∉ nR/\∀c∈s.cps.toList,97<=c/\c<=122:=by
 unfold isNm low;simp only[Bool.and_eq_true,decide_eq_true_eq,Bool.not_eq_true',List.all_eq_true];constructor
 .rintro⟨h1,h2,h3,h4⟩;refine⟨h1,h2,fun q=>?_,h4⟩
  have h5:=List.contains_iff_mem.mpr q;rw[h3] at h5;cases h5
 .rintro⟨h1,h2,h3,h4⟩;refine⟨h1,h2,?_,h4⟩;cases h:nR.contains s with
  | false=>rfl
  | true=>exact absurd (List.contains_iff_mem.mp h) h3
abbrev Ha:Str:=Str.ofString "abcdefghijklmnopqrstuvwxyz"
theorem vO:Ha.cps.toList=(List.range 26).map (97+·):=by decide+kernel
theorem AR{c:Nat}:c∈Ha.cps.toList↔97<=c/\c<=122:=by
 rw[vO,List.mem_map];constructor
 .rintro⟨i,hi,rfl⟩;have:=List.mem_range.mp hi;omega
 .intro h;exact⟨c - 97,List.mem_range.mpr (by omega),by omega⟩
theorem LB(c:Nat):zF (.str ⟨#[c]⟩) (.str Ha)= .ok (.bl (decide (97<=c/\c<=122))):=by
 show R.ok (D.bl (!(occurrences Ha ⟨#[c]⟩ 0 Ha.length 1).isEmpty))=_;rw[StrLaws.found_one];congr 2;by_cases h:97<=c/\c<=122
 .rw [decide_eq_true h,decide_eq_true (AR.mpr h)]
 .rw [decide_eq_false h,decide_eq_false fun q=>h (AR.mp q)]
theorem Dw{x:Str}{c:Nat}(h:c ∉ x.cps.toList):ju x ⟨#[c]⟩=[x,Str.empty,Str.empty]:=by
 have h1:=StrLaws.found_one x c;rw[decide_eq_false h] at h1;unfold ju;cases ho:occurrences x ⟨#[c]⟩ 0 x.length 1 with
 | nil=>rfl
 | cons i r=>rw [ho] at h1;cases h1
theorem vw{x a b:Str}{c:Nat}(h:c ∉ a.cps.toList)(e:x=a++⟨#[c]⟩++b):ju x ⟨#[c]⟩=[a,⟨#[c]⟩,b]:=by
 have hxl:x.cps.toList=a.cps.toList++c ::b.cps.toList:=by rw[e,cJ,cJ,List.append_assoc];rfl
 have hL:x.length=a.length+(b.length+1):=by
  show x.cps.size=a.cps.size+(b.cps.size+1);rw[<-Array.length_toList,<-Array.length_toList,<-Array.length_toList,hxl];simp
 have hat:∀i,StrLaws.At x ⟨#[c]⟩ x.length i↔x.cps.toList[i]? =some c:=fun i=>StrLaws.subAt_one x c i
 unfold ju;have ha:x.cps.toList[a.length]? =some c:=by
  rw[hxl,List.getElem?_append_right (by show a.cps.toList.length<=a.cps.size;simp)]
  show(c ::b.cps.toList)[a.cps.size - a.cps.toList.length]? =_;simp
 rcases StrLaws.occ_head x ⟨#[c]⟩ 1 (Nat.le_refl _) with⟨_,h1⟩ | ⟨i,r,e1,h1,h2⟩
 .exact absurd ((hat _).mpr ha) (h1 _)
 .have hi:i=a.length:=by
   have h3:¬a.length < i:=fun q=>h2 _ q ((hat _).mpr ha)
   by_cases q:i < a.length
   .have h4:=(hat i).mp h1;rw[hxl,List.getElem?_append_left (by show i < a.cps.toList.length;rw [Array.length_toList];exact q)] at h4
    exact absurd (List.mem_of_getElem? h4) h
   .omega
  rw[e1,hi];have s1:strSub x 0 a.length=a:=jd (by
   show(x.cps.extract 0 a.length).toList=_;rw[Array.toList_extract,hxl];show(List.take (a.cps.size - 0) (List.drop 0 (a.cps.toList++_)))=_;simp)
  have s2:strSub x (a.length+(⟨#[c]⟩:Str).length) x.length=b:=jd (by
   show(x.cps.extract (a.length+1) x.length).toList=_;rw[Array.toList_extract,hxl,hL];show(List.take (a.cps.size+(b.cps.size+1) - (a.cps.size+1)) (List.drop (a.cps.size+1) (a.cps.toList++c ::b.cps.toList)))=_;rw[show a.cps.size+1=(a.cps.toList++[c]).length by simp,show a.cps.toList++c ::b.cps.toList=(a.cps.toList++[c])++b.cps.toList by simp,List.drop_left,List.take_of_length_le (by simp;omega)])
  simp only;rw[s1,s2]
abbrev zq:List Str:=[Str.ofString "0",Str.ofString "1",Str.ofString "2",Str.ofString "3",Str.ofString "4",Str.ofString "5",Str.ofString "6",Str.ofString "7",Str.ofString "8",Str.ofString "9"]
def jY(w:Str):Bool:=isNm ((ju w CO).getD 0 Str.empty) && (((ju w CO).getD 1 Str.empty==Str.empty) || zq.contains ((ju w CO).getD 2 Str.empty))
theorem Eo{s:Str}(h:isNm s=true){c:Nat}(hc:c < 97\/122 < c):c ∉ s.cps.toList:=fun q=>by
 have:=(d8.mp h).2.2.2 c q;omega
theorem GQ(w c:Str):∃a b d,ju w c=[a,b,d]:=by
 unfold ju;split
 .exact⟨_,_,_,rfl⟩
 .exact⟨_,_,_,rfl⟩
abbrev Br:List (Str × Int):=[(Str.ofString "1",1),(Str.ofString "2",2),(Str.ofString "3",3)]
abbrev Az:List (Str × Int):=[(Str.ofString "not",1),(Str.ofString "and",2),(Str.ofString "or",2),(Str.ofString "xor",2),(Str.ofString "vote",3)]
def wd(ws:List Str)(i:Nat):Str:=ws.getD i Str.empty
def uY(ws:List Str):Bool:=decide (ws.length=3) && ((wd ws 0==Str.ofString "in") && (isNm (wd ws 1) && (Br.lookup (wd ws 2)).isSome))
def yw(ws:List Str):Bool:=(decide (4<=ws.length) && [Str.ofString "gate",Str.ofString "sure"].contains (wd ws 0)) && ((isNm (wd ws 1) && (Az.lookup (wd ws 2)).isSome) && (decide (((ws.drop 3).length:Int)=(Az.lookup (wd ws 2)).getD 0) && (ws.drop 3).all jY))
def xQ(ws:List Str):Bool:=(decide (3<=ws.length) && ((wd ws 0==Str.ofString "out") && isNm (wd ws 1))) && (decide ((ws.drop 2).length<=3) && (ws.drop 2).all jY)
section
variable {f g:FD} {p q:aw->R Bool} {δ:aw} {a b:Bool}
theorem mY(h:p δ= .ok a)(h2:a=false->q δ= .ok b):Bv p q δ= .ok (a || b):=by
 unfold Bv;rw [h,R.aO];cases a with
 | true=>rfl
 | false=>rw [if_neg (by decide)];exact h2 rfl
theorem sL(h:p δ= .ok a)(h2:a=true->q δ= .ok b):vd p q δ= .ok (a && b):=by
 unfold vd;rw [h,R.aO];cases a with
 | true=>rw [if_pos rfl];exact h2 rfl
 | false=>rfl
theorem oU(h:f δ= .ok (.bl a))(h2:a=true->g δ= .ok (.bl b)):vh f g δ= .ok (.bl (a && b)):=by
 unfold vh;rw [GC h,R.aO];cases a with
 | true=>rw [if_pos rfl];exact h2 rfl
 | false=>rfl
theorem Ej(h:f δ= .ok (.bl a))(h2:a=false->g δ= .ok (.bl b)):NG f g δ= .ok (.bl (a || b)):=by
 unfold NG;rw [GC h,R.aO];cases a with
 | true=>rfl
 | false=>rw [if_neg (by decide)];exact h2 rfl
theorem Bc(h:p δ= .ok a):Ce p δ= .ok (!a):=by unfold Ce;rw [h];rfl
theorem qG(h:f δ= .ok (.bl a)):wW f δ= .ok a:=by unfold wW;rw [h];rfl
theorem AY{c:aw->R Bool}{G:FS}(h:c δ= .ok a)(h2:a=false->G δ= .ok (.rt (.bl b))):br (tZ c (d_ (eC (.bl false))) mO) G δ= .ok (.rt (.bl (!a && b))):=by
 cases a with
 | true=>exact NT.eM (mi h rfl)
 | false=>exact aH (kr h rfl) (h2 rfl)
theorem vB{ws:List Str}{i:Nat}(h:i < ws.length):dN (.lst (ws.map .str)) (.int i)= .ok (.str (wd ws i)):=by
 refine NT.o3 ?_;rw[List.getElem?_map,List.getElem?_eq_getElem h];unfold wd;rw[List.getD_eq_getElem?_getD,List.getElem?_eq_getElem h];rfl
theorem rB(x y:Str):qr (.str x) (.str y)= .ok (.bl (x==y)):=rfl
theorem M7(x y:Str):HQ (.str x) (.str y)= .ok (.bl (!(x==y))):=rfl
theorem Gj(x:Str)(ss:List Str):zF (.str x) (.tup (ss.map .str))= .ok (.bl (ss.contains x)):=by
 show((match strs? (ss.map D.str) with | some ss=>R.ok (ss.contains x) | none=> .no).bind _)=_
 rw[L2.strs_map];rfl
theorem zM(x:Str)(ss:List Str):zF (.str x) (.lst (ss.map .str))= .ok (.bl (ss.contains x)):=by
 show((match strs? (ss.map D.str) with | some ss=>R.ok (ss.contains x) | none=> .no).bind _)=_
 rw[L2.strs_map];rfl
theorem LC(x:Str)(ss:List Str):mZ (.str x) (.tup (ss.map .str))= .ok (.bl (!ss.contains x)):=by
 show((match strs? (ss.map D.str) with | some ss=>R.ok (ss.contains x) | none=> .no).bind _)=_
 rw[L2.strs_map];rfl
theorem DX(x:Str)(ss:List Str):mZ (.str x) (.lst (ss.map .str))= .ok (.bl (!ss.contains x)):=by
 show((match strs? (ss.map D.str) with | some ss=>R.ok (ss.contains x) | none=> .no).bind _)=_
 rw[L2.strs_map];rfl
theorem GP(bs:List Bool):EN [.lst (bs.map D.bl)]= .ok (.bl (bs.all id)):=by
 show(match bls? (bs.map D.bl) with | some bs=>R.ok (D.bl (bs.all id)) | none=> .no)=_
 rw[BG]
theorem len_str{x:Str}(h:x.length<=10000000):o7 [.str x]= .ok (MT.nI x.length):=by
 have hz:sizeLine=16777216:=sizeLine_eq;exact bS _ (by omega)
theorem sP{ds:List D}{k:Nat}(h:k<=ds.length):JU (.lst ds) (some (k:Int)) none= .ok (.lst (ds.drop k)):=by
 show R.ok (D.lst (L2.cutD ds (some (k:Int)) none))=_;unfold L2.cutD;rw[HT.wJ,HT.ue,Nat.min_eq_left h,List.take_of_length_le (by rw[List.length_drop];omega)]
end
end TX
end
section
namespace TX
open PySem PySem.Spec PyProof.Rows L2 L3 MT
structure Dr where
 ins:Aac
 gs:List Gt
 os:Aad
 nm:List Str
 nu:List Str
def Dr.on(d:Dr):List Str:=d.os.map (·.1)
def xV(l:List Str):List (Key × D):=l.map fun n=>(Sum.inr n, .bl true)
def G6(k:Nat)(l:List Str):List (Key × D):=(l.zipIdx k).map fun p=>(Sum.inr p.1,nI p.2)
abbrev NJ(l:List Str):List (Key × D):=G6 0 l
theorem wG(l:List Str):(xV l).length=l.length:=by unfold xV;simp
theorem wm(k:Nat)(l:List Str):(G6 k l).length=l.length:=by unfold G6;simp
theorem Gu(k:Nat)(y:Str)(l:List Str):G6 k (y ::l)=(Sum.inr y,nI k) ::G6 (k+1) l:=rfl
theorem Bt(y x:Str):decide ((Sum.inr y:Key)=Sum.inr x)=(y==x):=by
 by_cases h:y=x
 .subst h;simp
 .rw [beq_eq_false_iff_ne.mpr h];exact decide_eq_false fun q=>h (Sum.inr.inj q)
theorem qF(x:Str):∀l:List Str,((xV l).find? fun kv=>decide (kv.1=Sum.inr x)).map (·.2)=if x∈l then some (.bl true) else none
 | []=>rfl
 | y ::l=>by
   show(((Sum.inr y,D.bl true) ::xV l).find? fun kv=>decide (kv.1=Sum.inr x)).map (·.2)=_
   rw[List.find?_cons];simp only[Bt];by_cases h:y=x
   .subst h;simp
   .rw [beq_eq_false_iff_ne.mpr h];simp only;rw[qF x l];have:x∈y ::l↔x∈l:=by simp [Ne.symm h]
    simp only[this]
def idx(l:List Str)(x:Str):Option Nat:=l.findIdx? (·==x)
theorem tO(x:Str):∀(k:Nat) (l:List Str),((G6 k l).find? fun kv=>decide (kv.1=Sum.inr x)).map (·.2)=(idx l x).map fun i=>nI (k+i)
 | k,[]=>rfl
 | k,y ::l=>by
   rw[Gu,List.find?_cons];simp only[Bt];unfold idx;rw[List.findIdx?_cons];by_cases h:y=x
   .subst h;simp
   .rw [beq_eq_false_iff_ne.mpr h];simp only;rw[tO x (k+1) l];unfold idx;simp only[Bool.false_eq_true,if_false,Option.map_map];congr 1;funext i;show nI (k+1+i)=nI (k+(i+1));congr 1;omega
theorem yG{l:List Str}:(idx l x).isSome=l.contains x:=by
 unfold idx;rw[List.findIdx?_isSome];rw[Bool.eq_iff_iff,List.any_eq_true,List.contains_iff_mem];exact⟨fun⟨y,h1,h2⟩=>by rw[<-beq_iff_eq.mp h2];exact h1,fun h=>⟨x,h,beq_self_eq_true x⟩⟩
theorem BR{aC:List (Key × D)}{d:D}(h:((aC.find? fun kv=>decide (kv.1=Sum.inr x)).map (·.2))=none):pX aC (Sum.inr x) d=aC++[(Sum.inr x,d)]:=by
 unfold pX;rw[if_neg];intro q;obtain⟨kv,h1,h2⟩:=List.any_eq_true.mp q;have h3:aC.find? (fun kv=>decide (kv.1=Sum.inr x))=none:=by
  cases hf:aC.find? (fun kv=>decide (kv.1=Sum.inr x)) with
  | none=>rfl
  | some z=>rw [hf] at h;cases h
 exact absurd h2 (by have:=List.find?_eq_none.mp h3 kv h1;exact this)
theorem wH{l:List Str}(h:x ∉ l):pX (xV l) (Sum.inr x) (.bl true)=xV (l++[x]):=by
 rw[BR (by rw[qF,if_neg h])]
 unfold xV;simp
theorem BH{l:List Str}(h:x ∉ l):pX (NJ l) (Sum.inr x) (nI l.length)=NJ (l++[x]):=by
 have h1:idx l x=none:=by
  have:=yG (l:=l) (x:=x);rw[show l.contains x=false by cases q:l.contains x with | false=>rfl | true=>exact absurd (List.contains_iff_mem.mp q) h] at this
  cases q:idx l x with
  | none=>rfl
  | some i=>rw [q] at this;cases this
 rw[BR (by rw[tO,h1];rfl)]
 show G6 0 l++_=G6 0 (l++[x]);unfold G6;rw[List.zipIdx_append,List.map_append];simp
def l8:Nat->Str | 0=>Str.ofString "0" | 1=>Str.ofString "1" | _=>Str.ofString "2"
def qS(x:Str)(w:Nat):List Str:=if w=1 then [x] else(List.range w).map fun f=>x++CO++l8 f
def base(w:Str):Str:=(ju w CO).getD 0 Str.empty
theorem sI(h:isNm x=true):base x=x:=by
 unfold base;rw[Bw,Dw (Eo h (by omega))];rfl
theorem Gr{x f:Str}(h:isNm x=true):base (x++CO++f)=x:=by
 unfold base;rw[show ju (x++CO++f) CO=[x,CO,f] by rw[Bw];exact vw (Eo h (by omega)) rfl];rfl
theorem ug(h:isNm x=true){w:Nat}:∀y∈qS x w,base y=x:=fun y hy=>by
 unfold qS at hy;split at hy
 .rw [List.mem_singleton.mp hy];exact sI h
 .obtain⟨f,_,rfl⟩:=List.mem_map.mp hy;exact Gr h
theorem Ee{a b:Nat}(ha:a < 3)(hb:b < 3)(h:l8 a=l8 b):a=b:=by
 match a,b,ha,hb with
 | 0,0,_,_=>rfl
 | 1,1,_,_=>rfl
 | 2,2,_,_=>rfl
 | 0,1,_,_=>exact absurd h (by decide+kernel)
 | 0,2,_,_=>exact absurd h (by decide+kernel)
 | 1,0,_,_=>exact absurd h (by decide+kernel)
 | 1,2,_,_=>exact absurd h (by decide+kernel)
 | 2,0,_,_=>exact absurd h (by decide+kernel)
 | 2,1,_,_=>exact absurd h (by decide+kernel)
theorem IE{a b c:Str}(h:a++b=a++c):b=c:=jd (by
 have:=congrArg (fun s:Str=>s.cps.toList) h
 simp only[cJ] at this;exact List.append_cancel_left this)
theorem GF{w:Nat}(hw:w<=3):(qS x w).Nodup:=by
 unfold qS;split
 .simp
 .rw [List.nodup_iff_pairwise_ne,List.pairwise_map];refine(List.nodup_iff_pairwise_ne.mp (List.nodup_range (n:=w))).imp_of_mem ?_;intro a b ha hb sF e;exact sF (Ee (Nat.lt_of_lt_of_le (List.mem_range.mp ha) hw) (Nat.lt_of_lt_of_le (List.mem_range.mp hb) hw) (IE e))
theorem sH{w:Nat}:(qS x w).length=w:=by
 unfold qS;split
 .rename_i h;rw [h];rfl
 .simp
structure lF (d:Dr):Prop where
 li:d.ins.length<=6
 lg:d.gs.length<=60
 lo:d.os.length<=6
 ln:d.nm.length<=66
 lw:d.nu.length<=78
 li3:d.nm.length=d.ins.length+d.gs.length
 lw3:d.nu.length<=3*d.ins.length+d.gs.length
 ok:∀n∈d.nm,isNm n=true
 bs:∀w∈d.nu,base w∈d.nm
 nd:d.nu.Nodup
def lu(d:Dr)(x:Str)(w:Nat):Except Nat Dr:=
 if d.gs≠[]\/d.os≠[] then .error 4 else if x∈d.nm then .error 5 else if 6<=d.ins.length then .error 6 else .ok {d with ins:=d.ins++[(x,w)],nm:=d.nm++[x],nu:=d.nu++qS x w}
def eT(nu:List Str):List Str->Option (List Nat)
 | []=>some []
 | w ::ws=>match idx nu w with | some i=>(eT nu ws).map (i ::·) | none=>none
def addGate(d:Dr)(x:Str)(k:Nat)(ws:List Str)(s:Bool):Except Nat Dr:=
 if d.os≠[] then .error 4 else if x∈d.nm then .error 5 else if 60<=d.gs.length then .error 6 else match eT d.nu ws with
 | none=> .error 7
 | some l=> .ok {d with gs:=d.gs++[(k,l,s)],nm:=d.nm++[x],nu:=d.nu++[x]}
def gq(d:Dr)(x:Str)(ws:List Str):Except Nat Dr:=
 if x∈d.on then .error 5 else if 6<=d.os.length then .error 6 else match eT d.nu ws with
 | none=> .error 7
 | some l=> .ok {d with os:=d.os++[(x,l)]}
def yX(w:Str):Nat:=([Str.ofString "not",Str.ofString "and",Str.ofString "or",Str.ofString "xor",Str.ofString "vote"].findIdx? (·==w)).getD 0
def Kq(w:Str):Nat:=((Br.lookup w).getD 0).toNat
def eS(d:Dr)(ws:List Str):Except Nat Dr:=
 if uY ws=true then lu d (wd ws 1) (Kq (wd ws 2))
 else if yw ws=true then addGate d (wd ws 1) (yX (wd ws 2)) (ws.drop 3) (wd ws 0==Str.ofString "sure")
 else if xQ ws=true then gq d (wd ws 1) (ws.drop 2)
 else .error 3
def o_(d:Dr):List Str->Except Nat Dr
 | []=> .ok d
 | r ::rs=>match eS d (Txt.split r SP) with | .ok d'=>o_ d' rs | .error c=> .error c
def d0:Dr:=⟨[],[],[],[],[]⟩
def jq(rows:List Str):Except Nat Dr:=
 if 80 < rows.length then .error 2 else match o_ d0 rows with
 | .error c=> .error c
 | .ok d=>if d.ins=[]\/d.os=[] then .error 8 else .ok d
theorem Kh:lF d0:=⟨by simp [d0],by simp [d0],by simp [d0],by simp [d0],by simp [d0],rfl,by simp [d0],by simp [d0],by simp [d0],by simp [d0]⟩
theorem Gx(h:(Br.lookup w).isSome=true):1<=Kq w/\Kq w<=3/\Br.lookup w=some (Kq w:Int):=by
 obtain⟨n,hn⟩:=Option.isSome_iff_exists.mp h;unfold Kq;rw[hn];have:n=1\/n=2\/n=3:=by
  unfold Br at hn;simp only[List.lookup_cons,List.lookup_nil] at hn;split at hn
  .cases hn;exact .inl rfl
  .split at hn
   .cases hn;exact .inr (.inl rfl)
   .split at hn
    .cases hn;exact .inr (.inr rfl)
    .cases hn
 rcases this with rfl | rfl | rfl <;> exact⟨by decide,by decide,rfl⟩
theorem EU(h:(Az.lookup w).isSome=true):kS (yX w)=w/\yX w<=4/\Az.lookup w=some ((ar (yX w):Nat):Int):=by
 obtain⟨n,hn⟩:=Option.isSome_iff_exists.mp h;unfold Az at hn;simp only[List.lookup_cons,List.lookup_nil] at hn;split at hn
 .rename_i q;rw [beq_iff_eq.mp q];exact⟨by decide+kernel,by decide+kernel,by decide+kernel⟩
 .split at hn
  .rename_i q;rw [beq_iff_eq.mp q];exact⟨by decide+kernel,by decide+kernel,by decide+kernel⟩
  .split at hn
   .rename_i q;rw [beq_iff_eq.mp q];exact⟨by decide+kernel,by decide+kernel,by decide+kernel⟩
   .split at hn
    .rename_i q;rw [beq_iff_eq.mp q];exact⟨by decide+kernel,by decide+kernel,by decide+kernel⟩
    .split at hn
     .rename_i q;rw [beq_iff_eq.mp q];exact⟨by decide+kernel,by decide+kernel,by decide+kernel⟩
     .cases hn
theorem oV{d:Dr}(D:lF d)(hx:x ∉ d.nm)(hy:base y=x):y ∉ d.nu:=fun q=>hx (by rw[<-hy];exact D.bs y q)
theorem F_{d d':Dr}(D:lF d){w:Nat}(hx:isNm x=true)(hw:w<=3)(h:lu d x w= .ok d'):lF d':=by
 unfold lu at h;split at h
 .cases h
 .rename_i h1;split at h
  .cases h
  .rename_i h2;split at h
   .cases h
   .rename_i h3;cases h;have hg:d.gs=[]:=by
     cases q:d.gs with
     | nil=>rfl
     | cons a b=>exact absurd (.inl (by rw[q];simp)) h1
    have:=D.li;have:=D.lw3;have:=D.li3;have hl:(qS x w).length=w:=sH;have hg0:d.gs.length=0:=by rw[hg];rfl
    refine⟨by simp;omega,D.lg,D.lo,by simp;omega,by simp;omega,by simp;omega,by simp;omega,fun n hn=>?_,fun y hy=>?_,?_⟩
    .rcases List.mem_append.mp hn with z | z
     .exact D.ok n z
     .rw [List.mem_singleton.mp z];exact hx
    .rcases List.mem_append.mp hy with z | z
     .exact List.mem_append_left _ (D.bs y z)
     .rw [ug hx y z];simp
    .exact List.nodup_append.mpr ⟨D.nd,GF hw,fun a ha b hb e=>oV D h2 (ug hx b hb) (by rw[<-e];exact ha)⟩
theorem zI{d d':Dr}(D:lF d){k:Nat}{ws:List Str}{s:Bool}(hx:isNm x=true)(h:addGate d x k ws s= .ok d'):lF d':=by
 unfold addGate at h;split at h
 .cases h
 .split at h
  .cases h
  .rename_i h2;split at h
   .cases h
   .rename_i h3;split at h
    .cases h
    .rename_i l hl;cases h;have:=D.li;have:=D.lw3;have:=D.li3;have:=D.lg;refine⟨D.li,by simp;omega,D.lo,by simp;omega,by simp;omega,by simp;omega,by simp;omega,fun n hn=>?_,fun y hy=>?_,?_⟩
     .rcases List.mem_append.mp hn with z | z
      .exact D.ok n z
      .rw [List.mem_singleton.mp z];exact hx
     .rcases List.mem_append.mp hy with z | z
      .exact List.mem_append_left _ (D.bs y z)
      .rw [List.mem_singleton.mp z,sI hx];simp
     .exact List.nodup_append.mpr ⟨D.nd,by simp,fun a ha b hb e=>oV D h2 (y:=b) (by rw[List.mem_singleton.mp hb];exact sI hx) (by rw[<-e];exact ha)⟩
theorem Dp{d d':Dr}(D:lF d){ws:List Str}(h:gq d x ws= .ok d'):lF d':=by
 unfold gq at h;split at h
 .cases h
 .split at h
  .cases h
  .rename_i h3;split at h
   .cases h
   .rename_i l hl;cases h;have:=D.lo;exact⟨D.li,D.lg,by simp;omega,D.ln,D.lw,D.li3,D.lw3,D.ok,D.bs,D.nd⟩
theorem sJ{d d':Dr}(D:lF d){ws:List Str}(h:eS d ws= .ok d'):lF d':=by
 unfold eS at h;split at h
 .rename_i h1;unfold uY at h1;simp only[Bool.and_eq_true] at h1;exact F_ D h1.2.2.1 (Gx h1.2.2.2).2.1 h
 .split at h
  .rename_i h1;unfold yw at h1;simp only[Bool.and_eq_true] at h1;exact zI D h1.2.1.1 h
  .split at h
   .exact Dp D h
   .cases h
end TX
end
section
namespace TX
open PySem PySem.Spec PyProof.Rows L2 L3 MT JT
structure Lw (n:Nat) (s:Str):Prop where
 len:s.length<=n
 low:∀c∈s.cps.toList,97<=c/\c<=122
def fL(i:Nat):Str:=⟨#[97+i]⟩
theorem Ht:Ha.length=26:=by decide+kernel
theorem Bo{i:Nat}(h:i < 26):dN (.str Ha) (nI i)= .ok (.str (fL i)):=by
 have hz:sizeLine=16777216:=sizeLine_eq;refine Ly (by rw[Ht];omega) ?_
 rw[vO,KZ (by omega) (by simp;omega)]
 simp [fL]
theorem BC{sep:Str}{ss:List Str}(h:(ss.map (·.length)).sum+ss.length*sep.length<=16777216):nv (.str sep) [.lst (ss.map .str)]= .ok (.str (Str.join sep ss)):=by
 unfold nv;simp only[L2.strs_map];rw[joinOk_of h];rfl
theorem IY{ss:List Str}(h:∀s∈ss,PyData.strOk s=true):G8 (.lst (ss.map .str)) (.lst [])= .ok ss.isEmpty:=by
 have hp:∀ss:List Str,gA (ss.map .str)=true:=by
  intro ss
  induction ss with
  | nil=>unfold gA;rfl
  | cons s ss ih=>rw [List.map_cons];unfold gA;rw [ih];unfold cQ;rfl
 have ht:∀ss:List Str,km (ss.map .str)=ss.map PyData.str:=by
  intro ss
  induction ss with
  | nil=>unfold km;rfl
  | cons s ss ih=>rw [List.map_cons,List.map_cons];unfold km;rw [ih];unfold toPy;rfl
 have hl:∀ss:List Str,(∀s∈ss,PyData.strOk s=true)->PyData.canLayAll0 (ss.map PyData.str)=true:=by
  intro ss
  induction ss with
  | nil=>intro _;rfl
  | cons s ss ih=>intro h;rw [List.map_cons];unfold PyData.canLayAll0;rw [ih fun t ht=>h t (List.mem_cons_of_mem _ ht)];unfold PyData.canLay0;rw [h s List.mem_cons_self];rfl
 have hd:∀ss:List Str,PyData.depthAll (ss.map PyData.str)=0:=by
  intro ss
  induction ss with
  | nil=>rfl
  | cons s ss ih=>rw [List.map_cons];unfold PyData.depthAll;rw [ih];rfl
 have hsh:SeqAt.shaped (toPy (.lst (ss.map .str)))=true:=by
  unfold toPy SeqAt.shaped;rw[ht];unfold PyData.canLay0 PyData.depth;rw[hl ss h,hd];rfl
 have hpd:cQ (.lst (ss.map .str))=true:=by unfold cQ;exact hp ss
 have sF:G8 (.lst (ss.map .str)) (.lst [])=R.aW (cQ (.lst (ss.map .str)) && cQ (.lst []) && SeqAt.shaped (toPy (.lst (ss.map .str))) && SeqAt.shaped (toPy (.lst []))) (.ok (PyData.eqv (toPy (.lst (ss.map .str))) (toPy (.lst [])))):=rfl;rw[sF,hpd,hsh,show cQ (.lst [])=true from rfl,show SeqAt.shaped (toPy (.lst []))=true from rfl]
 show R.ok _=_;unfold toPy;rw[ht];cases ss with
 | nil=>rfl
 | cons s ss=>rfl
theorem Ib{ss:List Str}(h:∀s∈ss,PyData.strOk s=true):HQ (.lst (ss.map .str)) (.lst [])= .ok (.bl (!ss.isEmpty)):=by
 unfold HQ;rw [IY h];rfl
def spZ:List Str:=(List.range 80).map fun n=>⟨#[122,122,97+n / 26,97+n % 26]⟩
def spY:List Str:=(List.range 144).map fun n=>⟨#[121,97+n / 12,109+n % 12]⟩
def cod(s:Str):Nat:=s.cps.toList.foldl (fun a c=>a*128+c) 0
abbrev L12:Str:=Str.ofString "abcdefghijkl"
abbrev M12:Str:=Str.ofString "mnopqrstuvwx"
structure TN (ins:Aac) (gs:List Gt) (os:Aad):Prop where
 i1:1<=ins.length
 i6:ins.length<=6
 iw:∀x∈ins,1<=x.2/\x.2<=3
 ind:(ins.map (·.1)).Nodup
 inm:∀x∈ins,isNm x.1=true
 g60:gs.length<=60
 gok:∀(i:Nat) (x:Gt),gs[i]? =some x->PF (QW ins+i) x
 o1:1<=os.length
 o6:os.length<=6
 ond:(os.map (·.1)).Nodup
 onm:∀x∈os,isNm x.1=true
 ow:∀x∈os,1<=x.2.length/\x.2.length<=3/\∀w∈x.2,w < QW ins+gs.length
end TX
end
section
namespace TX
open PySem PySem.Spec PyProof.Rows L2 L3 MT JT
structure GN (ins:Aac) (n:Nat) (gn:List Str):Prop where
 len:gn.length=n
 nd:gn.Nodup
 nm:∀s∈gn,isNm s=true
 dis:∀s∈gn,s ∉ ins.map (·.1)
def WD(ins:Aac):List Str:=ins.flatMap fun x=>qS x.1 x.2
def tx(W:List Str)(l:List Nat):List Str:=l.map fun w=>W.getD w Str.empty
def wS:Nat->Str | 1=>Str.ofString "1" | 2=>Str.ofString "2" | _=>Str.ofString "3"
def zG(x:Str × Nat):List Str:=[Str.ofString "in",x.1,wS x.2]
def DO(W:List Str)(g:Gt)(n:Str):List Str:=[if g.2.2 then Str.ofString "sure" else Str.ofString "gate",n,kS g.1]++tx W g.2.1
def DI(W:List Str)(o:Str × List Nat):List Str:=[Str.ofString "out",o.1]++tx W o.2
def Zd(ins:Aac)(gs:List Gt)(os:Aad)(gn:List Str):List (List Str):=ins.map zG++(gs.zip gn).map (fun p=>DO (WD ins++gn) p.1 p.2)++os.map (DI (WD ins++gn))
structure Wo (w:Str):Prop where
 len:w.length<=10
 cps:∀c∈w.cps.toList,33<=c/\c < 128
theorem EO(h:isNm s=true):Wo s:=⟨by have:=(d8.mp h).2.1;omega,fun c hc=>by have:=(d8.mp h).2.2.2 c hc;omega⟩
theorem Fy{W:List Str}{l:List Nat}(h:∀w∈l,w < W.length):∀y∈tx W l,y∈W:=fun y hy=>by
 obtain⟨w,hw,rfl⟩:=List.mem_map.mp hy;rw[List.getD_eq_getElem?_getD,List.getElem?_eq_getElem (h w hw)];exact List.getElem_mem _
theorem J4(k:Nat):Wo (kS k)/\(Az.lookup (kS k)).isSome=true/\(k<=4->yX (kS k)=k/\Az.lookup (kS k)=some ((ar k:Nat):Int)):=by
 match k with
 | 0=>exact⟨⟨by decide+kernel,by decide+kernel⟩,by decide+kernel,fun _=>⟨by decide+kernel,by decide+kernel⟩⟩
 | 1=>exact⟨⟨by decide+kernel,by decide+kernel⟩,by decide+kernel,fun _=>⟨by decide+kernel,by decide+kernel⟩⟩
 | 2=>exact⟨⟨by decide+kernel,by decide+kernel⟩,by decide+kernel,fun _=>⟨by decide+kernel,by decide+kernel⟩⟩
 | 3=>exact⟨⟨by decide+kernel,by decide+kernel⟩,by decide+kernel,fun _=>⟨by decide+kernel,by decide+kernel⟩⟩
 | 4=>exact⟨⟨by decide+kernel,by decide+kernel⟩,by decide+kernel,fun _=>⟨by decide+kernel,by decide+kernel⟩⟩
 | n+5=>exact⟨⟨by show(Str.ofString "vote").length<=10;decide+kernel,by show ∀c∈(Str.ofString "vote").cps.toList,_;decide+kernel⟩,by show(Az.lookup (Str.ofString "vote")).isSome=true;decide+kernel,fun h=>by omega⟩
theorem Ko(w:Nat):Wo (wS w)/\(Br.lookup (wS w)).isSome=true/\(1<=w->w<=3->Kq (wS w)=w):=by
 match w with
 | 1=>exact⟨⟨by decide+kernel,by decide+kernel⟩,by decide+kernel,fun _ _=>by decide+kernel⟩
 | 2=>exact⟨⟨by decide+kernel,by decide+kernel⟩,by decide+kernel,fun _ _=>by decide+kernel⟩
 | 3=>exact⟨⟨by decide+kernel,by decide+kernel⟩,by decide+kernel,fun _ _=>by decide+kernel⟩
 | 0=>exact⟨⟨by show(Str.ofString "3").length<=10;decide+kernel,by show ∀c∈(Str.ofString "3").cps.toList,_;decide+kernel⟩,by show(Br.lookup (Str.ofString "3")).isSome=true;decide+kernel,fun h=>by omega⟩
 | n+4=>exact⟨⟨by show(Str.ofString "3").length<=10;decide+kernel,by show ∀c∈(Str.ofString "3").cps.toList,_;decide+kernel⟩,by show(Br.lookup (Str.ofString "3")).isSome=true;decide+kernel,fun _ h=>by omega⟩
theorem Ae(s:Str)(h:(decide (s.length<=10) && s.cps.toList.all fun c=>decide (33<=c/\c < 128))=true):Wo s:=by
 rw[Bool.and_eq_true,List.all_eq_true] at h;exact⟨of_decide_eq_true h.1,fun c hc=>of_decide_eq_true (h.2 c hc)⟩
theorem FQ{x:Str × Nat}(h:isNm x.1=true):∀w∈zG x,Wo w:=fun w hw=>by
 unfold zG at hw;simp only[List.mem_cons,List.not_mem_nil,or_false] at hw;rcases hw with rfl | rfl | rfl
 .exact Ae _ (by decide+kernel)
 .exact EO h
 .exact(Ko x.2).1
theorem EB{W:List Str}{g:Gt}(h:isNm n=true)(hW:∀y∈W,Wo y)(hg:∀w∈g.2.1,w < W.length):∀w∈DO W g n,Wo w:=fun w hw=>by
 unfold DO at hw;rcases List.mem_append.mp hw with z | z
 .simp only[List.mem_cons,List.not_mem_nil,or_false] at z;rcases z with rfl | rfl | rfl
  .split <;> exact Ae _ (by decide+kernel)
  .exact EO h
  .exact(J4 g.1).1
 .exact hW w (Fy hg w z)
theorem GI{W:List Str}{o:Str × List Nat}(h:isNm o.1=true)(hW:∀y∈W,Wo y)(hg:∀w∈o.2,w < W.length):∀w∈DI W o,Wo w:=fun w hw=>by
 unfold DI at hw;rcases List.mem_append.mp hw with z | z
 .simp only[List.mem_cons,List.not_mem_nil,or_false] at z;rcases z with rfl | rfl
  .exact Ae _ (by decide+kernel)
  .exact EO h
 .exact hW w (Fy hg w z)
theorem Ih{d:Dr}{x:Str × Nat}(h:isNm x.1=true)(hw:1<=x.2/\x.2<=3):eS d (zG x)=lu d x.1 x.2:=by
 obtain⟨_,h2,h3⟩:=Ko x.2;have:uY (zG x)=true:=by
  show(decide _ && ((Str.ofString "in"==Str.ofString "in") && (isNm x.1 && (Br.lookup (wS x.2)).isSome)))=true;rw[h,h2];rfl
 unfold eS;rw[if_pos this];show lu d x.1 (Kq (wS x.2))=_;rw[h3 hw.1 hw.2]
theorem BU{ws:List Str}(h:(w==Str.ofString "in")=false):uY (w ::ws)=false:=by
 show(decide _ && ((w==Str.ofString "in") && _))=false;rw[h];simp
theorem IJ{d:Dr}{W:List Str}{g:Gt}(h:isNm n=true)(hk:g.1<=4)(hl:g.2.1.length=ar g.1)(hW:∀y∈tx W g.2.1,jY y=true):eS d (DO W g n)=addGate d n g.1 (tx W g.2.1) g.2.2:=by
 obtain⟨_,h2,h3⟩:=J4 g.1;obtain⟨h3,h4⟩:=h3 hk;have h1:uY (DO W g n)=false:=by
  unfold DO;refine BU ?_;split <;> decide+kernel
 have hg0:[Str.ofString "gate",Str.ofString "sure"].contains (if g.2.2 then Str.ofString "sure" else Str.ofString "gate")=true:=by split <;> decide+kernel
 have ha:1<=ar g.1:=by unfold ar;split <;> omega
 have htl:(tx W g.2.1).length=ar g.1:=by unfold tx;rw [List.length_map,hl]
 have h5:yw (DO W g n)=true:=by
  show((decide (4<=(DO W g n).length) && [Str.ofString "gate",Str.ofString "sure"].contains (if g.2.2 then Str.ofString "sure" else Str.ofString "gate")) && ((isNm n && (Az.lookup (kS g.1)).isSome) && (decide (((tx W g.2.1).length:Int)=(Az.lookup (kS g.1)).getD 0) && (tx W g.2.1).all jY)))=true
  rw[hg0,h,h2,h4,htl,List.all_eq_true.mpr hW,decide_eq_true (by unfold DO;simp [htl];omega:4<=(DO W g n).length)]
  simp
 unfold eS;rw[h1,if_neg (by decide),if_pos h5]
 show addGate d n (yX (kS g.1)) (tx W g.2.1) ((if g.2.2 then Str.ofString "sure" else Str.ofString "gate")==Str.ofString "sure")=_
 rw[h3];congr 1;cases g.2.2 <;> decide+kernel
theorem H_{d:Dr}{W:List Str}{o:Str × List Nat}(h:isNm o.1=true)(hl:1<=o.2.length/\o.2.length<=3)(hW:∀y∈tx W o.2,jY y=true):eS d (DI W o)=gq d o.1 (tx W o.2):=by
 have htl:(tx W o.2).length=o.2.length:=by unfold tx;rw [List.length_map]
 have h1:uY (DI W o)=false:=BU (by decide+kernel)
 have h2:yw (DI W o)=false:=by
  show((decide _ && [Str.ofString "gate",Str.ofString "sure"].contains (Str.ofString "out")) && _)=false;rw[show [Str.ofString "gate",Str.ofString "sure"].contains (Str.ofString "out")=false by decide+kernel];simp
 have h3:xQ (DI W o)=true:=by
  show((decide (3<=(DI W o).length) && ((Str.ofString "out"==Str.ofString "out") && isNm o.1)) && (decide ((tx W o.2).length<=3) && (tx W o.2).all jY))=true;rw[h,htl,List.all_eq_true.mpr hW,decide_eq_true (by unfold DI;simp [htl];omega:3<=(DI W o).length),decide_eq_true hl.2]
  simp
 unfold eS;rw[h1,if_neg (by decide),h2,if_neg (by decide),if_pos h3]
 rfl
section
variable {ins:Aac} {gs:List Gt} {os:Aad} {gn:List Str}
end
end TX
end
section
namespace TX
open PySem PySem.Spec PyProof.Rows L2 L3 MT JT
theorem tI{c:Nat}:∀{l:Aae} {d:Nat},d∈jn c l->d=c\/∃x∈l,d∈x
 | [],d,h=>by cases h
 | [x],d,h=> .inr ⟨x,List.mem_cons_self,h⟩
 | x ::y ::r,d,h=>by
   rcases List.mem_append.mp h with z | z
   .exact .inr ⟨x,List.mem_cons_self,z⟩
   .rcases List.mem_cons.mp z with z | z
    .exact .inl z
    .rcases tI z with z | ⟨w,hw,z⟩
     .exact .inl z
     .exact .inr ⟨w,List.mem_cons_of_mem _ hw,z⟩
theorem Ar{c:Nat}:∀(l:Aae),(jn c l).length<=(l.map (·.length)).sum+l.length
 | []=>by simp [jn]
 | [x]=>by simp [jn]
 | x ::y ::r=>by
   have:=Ar (c:=c) (y ::r);show(x++c ::jn c (y ::r)).length<=_;rw[List.length_append,List.length_cons,List.map_cons,List.sum_cons,List.length_cons];omega
theorem mS(s:Str):s.length=s.cps.toList.length:=by rw[Array.length_toList];rfl
theorem yn{c:Nat}{l:List Str}{m:Nat}(h:∀s∈l,s.length<=m):(Str.join ⟨#[c]⟩ l).length<=l.length*(m+1):=by
 rw[mS,er];have h1:=Ar (c:=c) (l.map fun s=>s.cps.toList)
 have h2:=xn (l:=(l.map fun s=>s.cps.toList).map (·.length)) (m:=m) fun x hx=>by
  obtain⟨y,hy,rfl⟩:=List.mem_map.mp hx;obtain⟨s,hs,rfl⟩:=List.mem_map.mp hy;rw[<-mS];exact h s hs
 rw[List.length_map,List.length_map] at h2;rw[List.length_map] at h1;rw[Nat.mul_add,Nat.mul_one];omega
theorem tP{c d:Nat}{l:List Str}(h:d∈(Str.join ⟨#[c]⟩ l).cps.toList):d=c\/∃s∈l,d∈s.cps.toList:=by
 rw[er] at h;rcases tI h with z | ⟨x,hx,z⟩
 .exact .inl z
 .obtain⟨s,hs,rfl⟩:=List.mem_map.mp hx;exact .inr ⟨s,hs,z⟩
structure Ro (r:Str):Prop where
 len:r.length<=110
 cps:∀c∈r.cps.toList,32<=c/\c < 128
theorem Hu{ws:List Str}(hl:ws.length<=10)(h:∀w∈ws,Wo w):Ro (Str.join SP ws):=by
 rw[pj];refine⟨?_,fun c hc=>?_⟩
 .have:=yn (c:=32) (m:=10) fun w hw=>(h w hw).len
  omega
 .rcases tP hc with z | ⟨w,hw,z⟩
  .omega
  .have:=(h w hw).cps c z;omega
section
variable {rs:List Str}
end
section
variable {ins:Aac} {gs:List Gt} {os:Aad} {gn:List Str}
def rtx(ins:Aac)(gs:List Gt)(os:Aad)(gn:List Str):Str:=Str.join NL ((Zd ins gs os gn).map (Str.join SP))
inductive Sx:Nat->D->Prop where
 | int (n:Nat) (i:Int):Sx n (.int i)
 | bl (n:Nat) (b:Bool):Sx n (.bl b)
 | str (n:Nat) (s:Str):Sx n (.str s)
 | lst {n:Nat} {ds:List D} (h:∀d∈ds,Sx n d) (hl:ds.length < 1000000):Sx (n+1) (.lst ds)
 | tup {n:Nat} {ds:List D} (h:∀d∈ds,Sx n d) (hl:ds.length < 1000000):Sx (n+1) (.tup ds)
end
end TX
end
section
namespace TX
open PySem PySem.Spec PyProof.Rows L2 L3 MT JT
abbrev IN:Str:=Str.ofString "in"
abbrev GA:Str:=Str.ofString "gate"
abbrev OU:Str:=Str.ofString "out"
abbrev BD:Str:=Str.ofString "bad"
structure Rx where
 t:Str
 wd:Str
 nm:Str
 w:Nat
 ws:List Str
def Rx.d(r:Rx):D:= .lst [.str r.t, .str r.wd, .str r.nm,nI r.w, .lst (r.ws.map .str)]
structure Ls where
 wd:List Str
 nm:List Str
 on:List Str
 kn:List Str
def Ls.d(s:Ls):D:= .lst [.lst (s.wd.map .str), .lst (s.nm.map .str), .lst (s.on.map .str), .lst (s.kn.map .str)]
def lim(w:Str):Nat:=if w==GA then 60 else 6
def pP(r:Rx)(s:Ls):Option Nat:=
 if((r.wd==IN && (s.wd.contains GA || s.wd.contains OU)) || (r.wd==GA && s.wd.contains OU))=true then some 2
 else if((r.wd==OU && s.on.contains r.nm) || (r.wd !=OU && s.nm.contains r.nm))=true then some 3
 else if s.wd.count r.wd=lim r.wd then some 4
 else if r.ws.filter (fun w=>!s.kn.contains w)=[] then none else some 5
def mF(r:Rx)(s:Ls):Ls:=
 if(r.wd==OU)=true then⟨s.wd++[r.wd],s.nm,s.on++[r.nm],s.kn⟩
 else⟨s.wd++[r.wd],s.nm++[r.nm],s.on,s.kn++(if 1 < r.w then qS r.nm r.w else [r.nm])⟩
def rL(s:Ls):List Rx->Option Nat
 | []=>if(!s.wd.contains IN || !s.wd.contains OU)=true then some 6 else none
 | r ::rs=>if(r.wd==BD)=true then some 1 else match pP r s with | some n=>some n | none=>rL (mF r s) rs
def s0:Ls:=⟨[],[],[],[]⟩
def oD:Option Nat->D | none=> .int (-1) | some n=>nI n
structure vf (r:Rx):Prop where
 len:r.t.length<=6000
 cps:∀c∈r.t.cps.toList,c≠10/\c < 1114112
 nl:r.nm.length<=8
 wl:r.ws.length<=3
 by4:(r.wd=IN/\r.ws=[]/\1<=r.w/\r.w<=3/\∀d,eS d (Txt.split r.t SP)=lu d r.nm r.w)\/
  (r.wd=GA/\r.w=0/\∃k s,∀d,eS d (Txt.split r.t SP)=addGate d r.nm k r.ws s)\/
  (r.wd=OU/\r.w=0/\∀d,eS d (Txt.split r.t SP)=gq d r.nm r.ws)\/
  (r.wd=BD/\∀d,eS d (Txt.split r.t SP)= .error 3)
structure Inv (s:Ls) (d:Dr):Prop where
 ci:s.wd.count IN=d.ins.length
 cg:s.wd.count GA=d.gs.length
 co:s.wd.count OU=d.os.length
 nm:s.nm=d.nm
 on:s.on=d.on
 kn:s.kn=d.nu
 ok:lF d
theorem sN{l:List Str}{n:Nat}(h:l.count x=n):l.contains x=decide (n≠0):=by
 rw[Bool.eq_iff_iff,List.contains_iff_mem,decide_eq_true_eq,<-h];exact⟨fun z=>Nat.ne_of_gt (List.count_pos_iff.mpr z),fun z=>List.count_pos_iff.mp (by omega)⟩
theorem o4{nu:List Str}:∀{ws:List Str},(eT nu ws=none↔ws.filter (fun w=>!nu.contains w)≠[])
 | []=>by simp [eT]
 | w ::ws=>by
   have ih:=o4 (nu:=nu) (ws:=ws);have h:=yG (l:=nu) (x:=w);unfold eT;cases hi:idx nu w with
   | none=>
     rw[hi] at h;rw[List.filter_cons,<-h];simp
   | some i=>
     rw[hi] at h;rw[List.filter_cons,<-h];simpa using ih
theorem vH{nu ws:List Str}(h:ws.filter (fun w=>!nu.contains w)=[]):∃l,eT nu ws=some l:=by
 cases e:eT nu ws with
 | some l=>exact⟨l,rfl⟩
 | none=>exact absurd h (o4.mp e)
theorem JX:(GA==IN)=false:=by decide+kernel
theorem GU:(GA==OU)=false:=by decide+kernel
theorem Ku:(IN==GA)=false:=by decide+kernel
theorem F6:(IN==OU)=false:=by decide+kernel
theorem KA:(OU==IN)=false:=by decide+kernel
theorem KG:(OU==GA)=false:=by decide+kernel
theorem gQ(l:List Str)(x y:Str):(l++[y]).count x=l.count x+if y==x then 1 else 0:=by
 rw[List.count_append,List.count_cons,List.count_nil];simp
theorem oT{α:Type}(l:List α):(l≠[])=(l.length≠0):=by
 rw[ne_eq,ne_eq,List.length_eq_zero_iff]
theorem EE{r:Rx}{s:Ls}{d:Dr}(R:vf r)(I:Inv s d)(hb:r.wd≠BD):(match pP r s with | none=>∃d',eS d (Txt.split r.t SP)= .ok d'/\Inv (mF r s) d' | some n=>eS d (Txt.split r.t SP)= .error (n+2)):=by
 have D:=I.ok;have li:=D.li;have lg:=D.lg;have lo:=D.lo;have cG:=sN I.cg;have cO:=sN I.co;rcases R.by4 with⟨e,hw,w1,w3,h⟩ | ⟨e,hw,k,sr,h⟩ | ⟨e,hw,h⟩ | ⟨e,h⟩
 .have st:=fun d'=>sJ D (ws:=Txt.split r.t SP) (d':=d')
  rw[h d] at st ⊢;unfold pP;rw[e,hw,cG,cO,I.nm,I.ci];simp only[beq_self_eq_true,Bool.true_and,Ku,F6,Bool.false_and,Bool.or_false,bne,Bool.not_false,Bool.false_or,List.filter_nil,if_true];unfold lu at st ⊢;by_cases h1:d.gs≠[]\/d.os≠[]
  .rw [if_pos h1,if_pos (by rw[oT,oT] at h1;rcases h1 with z | z <;> simp [z])]
  .rw [if_neg h1] at st ⊢;rw[if_neg (by rw[oT,oT] at h1;simp only[not_or,Decidable.not_not] at h1;simp [h1.1,h1.2])]
   by_cases h2:r.nm∈d.nm
   .rw [if_pos h2,if_pos (List.contains_iff_mem.mpr h2)]
   .rw [if_neg h2] at st ⊢;rw[if_neg (fun z=>h2 (List.contains_iff_mem.mp z))]
    by_cases h3:6<=d.ins.length
    .rw [if_pos h3,if_pos (show d.ins.length=lim IN by show d.ins.length=6;omega)]
    .rw [if_neg h3] at st ⊢;rw[if_neg (show ¬d.ins.length=lim IN by show ¬d.ins.length=6;omega)]
     refine⟨_,rfl,?_⟩;have e2:(if 1 < r.w then qS r.nm r.w else [r.nm])=qS r.nm r.w:=by
      by_cases q:1 < r.w
      .rw [if_pos q]
      .rw [if_neg q];have:r.w=1:=by omega
       rw[this];rfl
     unfold mF;rw[e,F6,if_neg (by decide),e2]
     exact⟨by rw[gQ,I.ci,List.length_append];rfl,by rw[gQ,Ku];exact I.cg,by rw[gQ,F6];exact I.co,by rw[I.nm],I.on,by rw[I.kn],st _ rfl⟩
 .have st:=fun d'=>sJ D (ws:=Txt.split r.t SP) (d':=d')
  rw[h d] at st ⊢;unfold pP;rw[e,cO,I.nm,I.cg,I.kn];simp only[beq_self_eq_true,Bool.true_and,JX,GU,Bool.false_and,Bool.or_false,bne,Bool.not_false,Bool.false_or];unfold addGate at st ⊢;by_cases h1:d.os≠[]
  .rw [if_pos h1,if_pos (by rw[oT] at h1;simp [h1])]
  .rw [if_neg h1] at st ⊢;rw[if_neg (by rw[oT] at h1;simp only[Decidable.not_not] at h1;simp [h1])]
   by_cases h2:r.nm∈d.nm
   .rw [if_pos h2,if_pos (List.contains_iff_mem.mpr h2)]
   .rw [if_neg h2] at st ⊢;rw[if_neg (fun z=>h2 (List.contains_iff_mem.mp z))]
    by_cases h3:60<=d.gs.length
    .rw [if_pos h3,if_pos (show d.gs.length=lim GA by show d.gs.length=60;omega)]
    .rw [if_neg h3] at st ⊢;rw[if_neg (show ¬d.gs.length=lim GA by show ¬d.gs.length=60;omega)]
     by_cases h4:r.ws.filter (fun w=>!d.nu.contains w)=[]
     .rw [if_pos h4];obtain⟨l,hl⟩:=vH h4;rw[hl] at st ⊢;refine⟨_,rfl,?_⟩;unfold mF;rw[e,GU,if_neg (by decide),if_neg (show ¬1 < r.w by omega)]
      exact⟨by rw[gQ,JX];exact I.ci,by rw[gQ,I.cg,List.length_append];rfl,by rw[gQ,GU];exact I.co,by rw[I.nm],I.on,by rw[I.kn],st _ rfl⟩
     .rw [if_neg h4];rw[o4.mpr h4]
 .have st:=fun d'=>sJ D (ws:=Txt.split r.t SP) (d':=d')
  rw[h d] at st ⊢;unfold pP;rw[e,I.on,I.co,I.kn];simp only[beq_self_eq_true,Bool.true_and,KA,KG,Bool.false_and,Bool.or_false,bne,Bool.not_true,Bool.false_eq_true,if_false];unfold gq at st ⊢;by_cases h2:r.nm∈d.on
  .rw [if_pos h2,if_pos (List.contains_iff_mem.mpr h2)]
  .rw [if_neg h2] at st ⊢;rw[if_neg (fun z=>h2 (List.contains_iff_mem.mp z))]
   by_cases h3:6<=d.os.length
   .rw [if_pos h3,if_pos (show d.os.length=lim OU by show d.os.length=6;omega)]
   .rw [if_neg h3] at st ⊢;rw[if_neg (show ¬d.os.length=lim OU by show ¬d.os.length=6;omega)]
    by_cases h4:r.ws.filter (fun w=>!d.nu.contains w)=[]
    .rw [if_pos h4];obtain⟨l,hl⟩:=vH h4;rw[hl] at st ⊢;refine⟨_,rfl,?_⟩;unfold mF;rw[e,if_pos (by rfl)]
     exact⟨by rw[gQ,KA];exact I.ci,by rw[gQ,KG];exact I.cg,by rw[gQ,I.co,List.length_append];rfl,I.nm,by rw[I.on];unfold Dr.on;rw [List.map_append];rfl,I.kn,st _ rfl⟩
    .rw [if_neg h4];rw[o4.mpr h4]
 .exact absurd e hb
theorem yz:∀{rs:List Rx} {s:Ls} {d:Dr},(∀r∈rs,vf r)->Inv s d->(match rL s rs with | none=>∃d',o_ d (rs.map (·.t))= .ok d'/\d'.ins≠[]/\d'.os≠[]/\d'.ins.length=s.wd.count IN+(rs.map (·.wd)).count IN/\d'.gs.length=s.wd.count GA+(rs.map (·.wd)).count GA/\d'.os.length=s.wd.count OU+(rs.map (·.wd)).count OU | some n=>(n=6/\∃d',o_ d (rs.map (·.t))= .ok d'/\(d'.ins=[]\/d'.os=[]))\/(n < 6/\o_ d (rs.map (·.t))= .error (n+2)))
 | [],s,d,_,I=>by
   have cI:=sN I.ci;have cO:=sN I.co;unfold rL;rw[cI,cO];by_cases h:(!decide (d.ins.length≠0) || !decide (d.os.length≠0))=true
   .rw [if_pos h];refine .inl ⟨rfl,d,rfl,?_⟩;simp only[Bool.or_eq_true,Bool.not_eq_true',decide_eq_false_iff_not,Decidable.not_not] at h;rcases h with z | z
    .exact .inl (List.length_eq_zero_iff.mp z)
    .exact .inr (List.length_eq_zero_iff.mp z)
   .rw [if_neg h];simp only[Bool.or_eq_true,Bool.not_eq_true',decide_eq_false_iff_not,Decidable.not_not,not_or] at h;exact⟨d,rfl,fun z=>h.1 (by rw[z];rfl),fun z=>h.2 (by rw[z];rfl),by rw[I.ci];rfl,by rw[I.cg];rfl,by rw[I.co];rfl⟩
 | r ::rs,s,d,hr,I=>by
   have R:=hr r List.mem_cons_self;unfold rL;show match (if(r.wd==BD)=true then some 1 else match pP r s with | some n=>some n | none=>rL (mF r s) rs) with | none=>_ | some n=>_
   simp only[List.map_cons];unfold o_;by_cases hb:r.wd=BD
   .rw [hb,if_pos (by rfl)]
    rcases R.by4 with⟨e,_⟩ | ⟨e,_⟩ | ⟨e,_⟩ | ⟨e,h⟩
    .rw [hb] at e;exact absurd e (by decide+kernel)
    .rw [hb] at e;exact absurd e (by decide+kernel)
    .rw [hb] at e;exact absurd e (by decide+kernel)
    .rw [h d];exact .inr ⟨by decide,rfl⟩
   .rw [if_neg (fun z=>hb (eq_of_beq z))]
    have st:=EE R I hb;cases hd:pP r s with
    | some n=>
      rw[hd] at st;simp only at st ⊢;rw[st];refine .inr ⟨?_,rfl⟩;unfold pP at hd
      repeat' split at hd
      all_goals first | (cases hd;omega) | cases hd
    | none=>
      rw[hd] at st;simp only at st ⊢;obtain⟨d',e,I'⟩:=st;rw[e];have ih:=yz (rs:=rs) (s:=mF r s) (d:=d') (fun x hx=>hr x (List.mem_cons_of_mem _ hx)) I'
      have hw:(mF r s).wd=s.wd++[r.wd]:=by unfold mF;split <;> rfl
      rw[hw] at ih;cases hj:rL (mF r s) rs with
      | some n=>rw [hj] at ih;exact ih
      | none=>
        rw[hj] at ih;obtain⟨d2,e2,a,b,c1,c2,c3⟩:=ih;refine⟨d2,e2,a,b,?_,?_,?_⟩
        .rw [c1,List.count_append,List.count_cons,List.count_cons,List.count_nil];omega
        .rw [c2,List.count_append,List.count_cons,List.count_cons,List.count_nil];omega
        .rw [c3,List.count_append,List.count_cons,List.count_cons,List.count_nil];omega
theorem Rr:Inv s0 d0:=⟨rfl,rfl,rfl,rfl,rfl,rfl,Kh⟩
theorem D7{rs:List Rx}(hr:∀r∈rs,vf r)(hl:rs.length<=80):(match rL s0 rs with | none=>∃d,jq (rs.map (·.t))= .ok d/\d.ins.length=(rs.map (·.wd)).count IN/\d.gs.length=(rs.map (·.wd)).count GA/\d.os.length=(rs.map (·.wd)).count OU | some n=>n<=6/\jq (rs.map (·.t))= .error (n+2)):=by
 have:=yz hr Rr;unfold jq;rw[if_neg (by rw[List.length_map];omega)]
 cases hj:rL s0 rs with
 | none=>
   rw[hj] at this;obtain⟨d,e,a,b,c1,c2,c3⟩:=this;rw[e];simp only;rw[if_neg (by simp [a,b])]
   exact⟨d,rfl,by rw[c1];exact Nat.zero_add _,by rw[c2];exact Nat.zero_add _,by rw[c3];exact Nat.zero_add _⟩
 | some n=>
   rw[hj] at this;rcases this with⟨rfl,d,e,h⟩ | ⟨h6,e⟩
   .rw [e];simp only;rw[if_pos h];exact⟨by omega,rfl⟩
   .rw [e];exact⟨by omega,rfl⟩
theorem A3(ws:List Str):tx ws (List.range ws.length)=ws:=by
 unfold tx;refine List.ext_getElem? fun i=>?_
 rw[List.getElem?_map];by_cases hi:i < ws.length
 .rw [List.getElem?_range hi,List.getElem?_eq_getElem hi];simp [List.getD_eq_getElem?_getD,List.getElem?_eq_getElem hi]
 .rw [List.getElem?_eq_none (by rw[List.length_range];omega),List.getElem?_eq_none (by omega)];rfl
theorem x6{ws:List Str}(h0:ws≠[])(h:∀w∈ws,Wo w):Txt.split (Str.join SP ws) SP=ws:=by
 rw[pj];exact pQ h0 fun w hw hc=>by have:=(h w hw).cps 32 hc;omega
theorem zu{t wd nm:Str}{w:Nat}{ws words:List Str}(UA:words≠[])(hl:words.length<=10)(hW:∀y∈words,Wo y)(ht:t=Str.join SP words)(hn:nm.length<=8)(h3:ws.length<=3)(h:(wd=IN/\ws=[]/\1<=w/\w<=3/\∀d,eS d words=lu d nm w)\/(wd=GA/\w=0/\∃k s,∀d,eS d words=addGate d nm k ws s)\/(wd=OU/\w=0/\∀d,eS d words=gq d nm ws)):vf ⟨t,wd,nm,w,ws⟩:=by
 subst ht;have ro:=Hu hl hW;refine⟨by have:=ro.len;show(Str.join SP words).length<=_;omega,fun c hc=>by have:=ro.cps c hc;omega,hn,h3,?_⟩
 show _\/_;simp only[x6 UA hW];rcases h with h | h | h
 .exact .inl h
 .exact .inr (.inl h)
 .exact .inr (.inr (.inl h))
theorem zO{w:Nat}(h:isNm n=true)(hw:1<=w/\w<=3):vf ⟨Str.join SP (zG (n,w)),IN,n,w,[]⟩:=
 zu (words:=zG (n,w)) (by unfold zG;simp) (by unfold zG;simp) (FQ h) rfl ((d8.mp h).2.1) (by simp) (.inl ⟨rfl,rfl,hw.1,hw.2,fun d=>Ih h hw⟩)
theorem Em{k:Nat}{ws:List Str}{s:Bool}(h:isNm n=true)(hk:k<=4)(hl:ws.length=ar k)(hW:∀y∈ws,Wo y/\jY y=true):vf ⟨Str.join SP ([if s then Str.ofString "sure" else Str.ofString "gate",n,kS k]++ws),GA,n,0,ws⟩:=by
 have e:=A3 ws;have ha:=Ew k;have e2:∀g:Gt,g=(k,List.range ws.length,s)->DO ws g n=[if s then Str.ofString "sure" else Str.ofString "gate",n,kS k]++ws:=fun g hg=>by subst hg;unfold DO;rw [e]
 have hwo:=EB (W:=ws) (g:=(k,List.range ws.length,s)) (n:=n) h (fun y hy=>(hW y hy).1) fun w hw=>List.mem_range.mp hw
 rw[e2 _ rfl] at hwo;refine zu (words:=[if s then Str.ofString "sure" else Str.ofString "gate",n,kS k]++ws) (by simp) (by simp;omega) hwo rfl ((d8.mp h).2.1) (by omega) (.inr (.inl ⟨rfl,rfl,k,s,fun d=>?_⟩))
 have:=IJ (d:=d) (W:=ws) (g:=(k,List.range ws.length,s)) (n:=n) h hk (by rw[List.length_range];exact hl) (by rw[e];exact fun y hy=>(hW y hy).2)
 rw[e2 _ rfl] at this;rw[this];show addGate d n k (tx ws (List.range ws.length)) s=_;rw[e]
theorem EH{ws:List Str}(h:isNm n=true)(hl:1<=ws.length/\ws.length<=3)(hW:∀y∈ws,Wo y/\jY y=true):vf ⟨Str.join SP ([Str.ofString "out",n]++ws),OU,n,0,ws⟩:=by
 have e:=A3 ws;have e2:∀o:Str × List Nat,o=(n,List.range ws.length)->DI ws o=[Str.ofString "out",n]++ws:=fun o ho=>by subst ho;unfold DI;rw [e]
 have hwo:=GI (W:=ws) (o:=(n,List.range ws.length)) h (fun y hy=>(hW y hy).1) fun w hw=>List.mem_range.mp hw
 rw[e2 _ rfl] at hwo;refine zu (words:=[Str.ofString "out",n]++ws) (by simp) (by simp;omega) hwo rfl ((d8.mp h).2.1) (by omega) (.inr (.inr ⟨rfl,rfl,fun d=>?_⟩))
 have:=H_ (d:=d) (W:=ws) (o:=(n,List.range ws.length)) h (by rw[List.length_range];exact hl) (by rw[e];exact fun y hy=>(hW y hy).2)
 rw[e2 _ rfl] at this;rw[this];show gq d n (tx ws (List.range ws.length))=_;rw[e]
def Ef(w:Str):Bool:=decide (w.length<=10) && w.cps.toList.all (fun c=>decide (33<=c) && decide (c < 128)) && jY w
theorem rG(h:Ef w=true):Wo w/\jY w=true:=by
 unfold Ef at h;simp only[Bool.and_eq_true,decide_eq_true_eq,List.all_eq_true] at h;exact⟨⟨h.1.1,fun c hc=>h.1.2 c hc⟩,h.2⟩
theorem Ac{l:List Str}{i:Nat}(h:i < l.length):∃w∈l,dN (.lst (l.map .str)) (nI i)= .ok (.str w):=⟨l[i],List.getElem_mem h,NT.o3 (by rw[List.getElem?_map,List.getElem?_eq_getElem h];rfl)⟩
theorem qL{ds:List D}{n:Nat}:JU (.lst ds) none (some (n:Int))= .ok (.lst (ds.take n)):=by
 show R.ok (D.lst (L2.cutD _ none (some ((n:Nat):Int))))=_;unfold L2.cutD;rw[HT.wJ,HT.ue,List.drop_zero,Nat.sub_zero];by_cases h:n<=ds.length
 .rw [Nat.min_eq_left h]
 .rw [Nat.min_eq_right (by omega),List.take_of_length_le (Nat.le_refl _),List.take_of_length_le (by omega)]
theorem vX{ws:List Str}(hl:ws.length<=100)(h:∀w∈ws,Wo w):nv (.str SP) [.lst (ws.map .str)]= .ok (.str (Str.join SP ws)):=by
 refine BC ?_;have:(ws.map (·.length)).sum<=ws.length*10:=by
  have:=xn (l:=ws.map (·.length)) (m:=10) fun x hx=>by obtain⟨w,hw,rfl⟩:=List.mem_map.mp hx;exact(h w hw).len
  rwa [List.length_map] at this
 have:SP.length=1:=by decide+kernel
 rw[this];omega
theorem P_{w:Nat}(h:1<=w/\w<=3):cStr [nI w]= .ok (.str (wS w)):=by
 rcases(show w=1\/w=2\/w=3 by omega) with rfl | rfl | rfl
 .exact(xo (i:=1) (by decide+kernel)).trans (by rw[show(toString (1:Int):Str)=wS 1 by decide+kernel])
 .exact(xo (i:=2) (by decide+kernel)).trans (by rw[show(toString (2:Int):Str)=wS 2 by decide+kernel])
 .exact(xo (i:=3) (by decide+kernel)).trans (by rw[show(toString (3:Int):Str)=wS 3 by decide+kernel])
theorem Jm{g:D->List D->R D}{f:FD}{fs:aw->R (List D)}{δ:aw}{l ds:List D}{r:R D}(h:f δ= .ok (.lst l))(h2:fs δ= .ok ds)(h3:g (.lst l) ds=r):v_ "list" g f fs δ=r:=by
 unfold v_;rw [h,R.aO,h2];exact h3
theorem J2(b:Bool):vP [.bl b]= .ok (nI (if b then 1 else 0)):=by cases b <;> rfl
theorem IT{x:Str}{w:Nat}(h:x.length<=1000)(hw:2<=w/\w<=3):[x++Str.ofString ":0",x++Str.ofString ":1",x++Str.ofString ":2"].take w=qS x w:=by
 have fg:∀f:Nat,∀s:Str,s=CO++l8 f->x++s=x++CO++l8 f:=fun f s e=>by rw[e,Dy]
 rcases(show w=2\/w=3 by omega) with rfl | rfl
 .show [x++Str.ofString ":0",x++Str.ofString ":1"]=[x++CO++l8 0,x++CO++l8 1];rw[fg 0 (Str.ofString ":0") (by decide+kernel),fg 1 (Str.ofString ":1") (by decide+kernel)]
 .show [x++Str.ofString ":0",x++Str.ofString ":1",x++Str.ofString ":2"]=[x++CO++l8 0,x++CO++l8 1,x++CO++l8 2];rw[fg 0 (Str.ofString ":0") (by decide+kernel),fg 1 (Str.ofString ":1") (by decide+kernel),fg 2 (Str.ofString ":2") (by decide+kernel)]
def Cc(s:Ls):List Rx->Except Nat Ls
 | []=> .ok s
 | r ::rs=>if(r.wd==BD)=true then .error 1 else match pP r s with | some n=> .error n | none=>Cc (mF r s) rs
theorem A2:∀(rs:List Rx) (s:Ls),rL s rs=match Cc s rs with | .error n=>some n | .ok s'=>if(!s'.wd.contains IN || !s'.wd.contains OU)=true then some 6 else none
 | [],s=>rfl
 | r ::rs,s=>by
   unfold rL Cc;by_cases h:(r.wd==BD)=true
   .rw [if_pos h,if_pos h]
   .rw [if_neg h,if_neg h];cases pP r s with
    | some n=>rfl
    | none=>exact A2 rs (mF r s)
theorem D0(h:isNm s=true):PyData.strOk s=true:=by
 unfold PyData.strOk;rw[<-Array.all_toList,List.all_eq_true];intro c hc;have:=(d8.mp h).2.2.2 c hc;exact decide_eq_true (by omega)
theorem wq(h:PyData.strOk s=true):lD 0 (.str s):=lD.str (by unfold PyData.canLay0;exact h)
theorem vf.Xz{r:Rx}(R:vf r):PyData.strOk r.t=true:=by
 unfold PyData.strOk;rw[<-Array.all_toList,List.all_eq_true];exact fun c hc=>decide_eq_true (R.cps c hc).2
theorem vf.X4{r:Rx}(R:vf r):PyData.strOk r.wd=true:=by
 rcases R.by4 with⟨e,_⟩ | ⟨e,_⟩ | ⟨e,_⟩ | ⟨e,_⟩ <;> rw[e] <;> decide+kernel
theorem MS{r:Rx}(R:vf r)(hn:PyData.strOk r.nm=true)(hw:∀w∈r.ws,PyData.strOk w=true):lD 2 r.d:=by
 refine lD.lst (n:=1) fun d hd=>?_
 simp only[List.mem_cons,List.not_mem_nil,or_false] at hd;rcases hd with rfl | rfl | rfl | rfl | rfl
 .exact(wq R.Xz).mono (by omega)
 .exact(wq R.X4).mono (by omega)
 .exact(wq hn).mono (by omega)
 .exact(lD.int _).mono (by omega)
 .exact lD.lst (n:=0) fun d hd=>by obtain⟨w,h,rfl⟩:=List.mem_map.mp hd;exact wq (hw w h)
theorem EF{rs:List Rx}(h:∀r∈rs,lD 2 r.d):qr (.lst (rs.map Rx.d)) (.lst [])= .ok (.bl rs.isEmpty):=by
 have f:lD 3 (.lst (rs.map Rx.d)):=lD.lst fun d hd=>by obtain⟨g,hg,rfl⟩:=List.mem_map.mp hd;exact h g hg
 have f2:lD 1 (.lst []):=lD.lst fun d hd=>by cases hd
 show(G8 (.lst _) (.lst [])).bind _=_;rw[show G8 (.lst (rs.map Rx.d)) (.lst [])=R.aW (cQ (.lst (rs.map Rx.d)) && cQ (.lst []) && SeqAt.shaped (toPy (.lst (rs.map Rx.d))) && SeqAt.shaped (toPy (.lst []))) (.ok (PyData.eqv (toPy (.lst (rs.map Rx.d))) (toPy (.lst [])))) from rfl,f.pl,f.sh (by omega),f2.pl,f2.sh (by omega)]
 cases rs <;> rfl
theorem EG(bs:List Bool):qr (.lst (bs.map .bl)) (.lst (bs.map .bl))= .ok (.bl true):=by
 have f:lD 1 (.lst (bs.map .bl)):=lD.lst fun d hd=>by obtain⟨g,hg,rfl⟩:=List.mem_map.mp hd;exact lD.bl g
 unfold qr;rw [lD.X7 f (by omega)];rfl
theorem zW{rs:List Rx}(h:∀r∈rs,vf r)(hl:rs.length<=2000):nv (.str NL) [.lst ((rs.map (·.t)).map .str)]= .ok (.str (Str.join NL (rs.map (·.t)))):=by
 refine BC ?_;have h2:=xn (l:=(rs.map (·.t)).map (·.length)) (m:=6000) fun x hx=>by
  obtain⟨s,hs,rfl⟩:=List.mem_map.mp hx;obtain⟨r,hr,rfl⟩:=List.mem_map.mp hs;exact(h r hr).len
 rw[List.length_map,List.length_map] at h2;have:NL.length=1:=by decide+kernel
 rw[this,List.length_map];omega
theorem CK{rs:List Rx}(h:∀r∈rs,vf r):(Str.join NL (rs.map (·.t))).length<=rs.length*6001:=by
 rw[vL];have:=yn (c:=10) (l:=rs.map (·.t)) (m:=6000) fun s hs=>by obtain⟨r,hr,rfl⟩:=List.mem_map.mp hs;exact(h r hr).len
 rwa [List.length_map] at this
theorem Cv{rs:List Rx}(h:∀r∈rs,vf r):∀c∈(Str.join NL (rs.map (·.t))).cps.toList,c < 1114112:=fun c hc=>by
 rw[vL] at hc;rcases tP hc with z | ⟨w,hw,z⟩
 .omega
 .obtain⟨r,hr,rfl⟩:=List.mem_map.mp hw;exact((h r hr).cps c z).2
theorem yf{rs:List Rx}(h:∀r∈rs,vf r)(h0:rs≠[]):Txt.split (Str.join NL (rs.map (·.t))) NL=rs.map (·.t):=by
 rw[vL];exact pQ (fun e=>h0 (List.map_eq_nil_iff.mp e)) fun s hs hc=>by
  obtain⟨r,hr,rfl⟩:=List.mem_map.mp hs;exact((h r hr).cps 10 hc).1 rfl
end TX
end
section
namespace TX
open PySem PySem.Spec PyProof.Rows L2 L3 MT JT
def ke(w:Str):Bool:=w.cps.toList.all fun c=>decide (c≠32) && (decide (c≠10) && decide (c < 1114112))
def dR(ws:List Str):Bool:=!uY ws && (!yw ws && (!xQ ws && (decide (ws≠[]) && (ws.all ke && decide ((ws.map (·.length)).sum+ws.length<=6000)))))
theorem IA{ws:List Str}(h:dR ws=true):vf ⟨Str.join SP ws,BD,Str.ofString "",0,[]⟩:=by
 unfold dR at h;simp only[Bool.and_eq_true,Bool.not_eq_true',decide_eq_true_eq] at h;obtain⟨h1,h2,h3,h4,h5,h6⟩:=h;have hc:∀w∈ws,∀c∈w.cps.toList,c≠32/\c≠10/\c < 1114112:=fun w hw c hc=>by
  have:=List.all_eq_true.mp h5 w hw;unfold ke at this;have:=List.all_eq_true.mp this c hc;simpa using this
 have hs:Txt.split (Str.join SP ws) SP=ws:=by
  rw[pj];exact pQ h4 fun w hw q=>(hc w hw 32 q).1 rfl
 refine⟨?_,fun c q=>?_,(by show(Str.ofString "").length<=8;decide+kernel),Nat.zero_le _, .inr (.inr (.inr ⟨rfl,fun d=>?_⟩))⟩
 .show(Str.join SP ws).length<=_;rw[pj,mS,er];refine Nat.le_trans (Ar _) ?_;rw[List.length_map,List.map_map];have:ws.map ((fun x:List Nat=>x.length) ∘ fun s:Str=>s.cps.toList)=ws.map (·.length):=List.map_congr_left fun s _=>(mS s).symm
  rw[this];exact h6
 .rw [pj] at q;rcases tP q with z | ⟨w,hw,z⟩
  .omega
  .have:=hc w hw c z;exact⟨this.2.1,this.2.2⟩
 .rw [hs];unfold eS;rw[h1,h2,h3];rfl
@[irreducible] noncomputable def X1:Str:=Txt.mul (Str.ofString "1") 5000
@[irreducible] noncomputable def X2:Str:=Txt.mul (Str.ofString "0") 4301
@[irreducible] noncomputable def X3:Str:=Txt.mul (Str.ofString "a") 5000
theorem TB:X1.cps.toList=List.replicate 5000 49:=by unfold X1;rw [show Str.ofString "1"=(⟨#[49]⟩:Str) by decide+kernel,mul_one_list];rfl
theorem Wk:X2.cps.toList=List.replicate 4301 48:=by unfold X2;rw [show Str.ofString "0"=(⟨#[48]⟩:Str) by decide+kernel,mul_one_list];rfl
theorem Vz:X3.cps.toList=List.replicate 5000 97:=by unfold X3;rw [show Str.ofString "a"=(⟨#[97]⟩:Str) by decide+kernel,mul_one_list];rfl
theorem Pt:X1.length=5000:=by rw[mS,TB,List.length_replicate]
theorem Rc:X2.length=4301:=by rw[mS,Wk,List.length_replicate]
theorem Tn:X3.length=5000:=by rw[mS,Vz,List.length_replicate]
theorem wO{w:Str}{n c:Nat}(h:w.cps.toList=List.replicate n c)(hc:c≠32/\c≠10/\c < 1114112):ke w=true:=by
 unfold ke;rw[h,List.all_eq_true];intro x hx;rw[(List.mem_replicate.mp hx).2];simp [hc]
theorem FN{a b:Str}(ha:ke a=true)(hb:ke b=true):ke (a++b)=true:=by
 unfold ke at*;rw[cJ,List.all_append,ha,hb];rfl
theorem E7{x:Str}(h:x.length≠1):Br.lookup x=none:=by
 have n1:(x==Str.ofString "1")=false:=beq_eq_false_iff_ne.mpr fun e=>h (by rw[e];decide+kernel)
 have n2:(x==Str.ofString "2")=false:=beq_eq_false_iff_ne.mpr fun e=>h (by rw[e];decide+kernel)
 have n3:(x==Str.ofString "3")=false:=beq_eq_false_iff_ne.mpr fun e=>h (by rw[e];decide+kernel)
 unfold Br;simp only[List.lookup_cons,n1,n2,n3,List.lookup_nil]
theorem Ie{x:Str}(h:8 < x.length):isNm x=false:=by
 cases e:isNm x with
 | false=>rfl
 | true=>have:=(d8.mp e).2.1;omega
theorem DV:∀f∈zq,f.length=1:=by decide+kernel
theorem HI{x f:Str}(hx:isNm x=true)(h:f.length≠1):jY (x++CO++f)=false:=by
 unfold jY;rw[Bw,vw (Eo hx (by omega)) rfl]
 have n:zq.contains f=false:=by
  cases e:zq.contains f with
  | false=>rfl
  | true=>exact absurd (DV f (List.contains_iff_mem.mp e)) h
 show(isNm x && (((⟨#[58]⟩:Str)==Str.empty) || zq.contains f))=false
 rw[n,show((⟨#[58]⟩:Str)==Str.empty)=false by decide+kernel]
 simp
theorem bc:Str.ofString "b:"=Str.ofString "b"++CO:=by decide+kernel
theorem Y8:isNm (Str.ofString "b")=true:=by decide+kernel
theorem D2{ws:List Str}(h1:uY ws=false)(h2:yw ws=false)(h3:xQ ws=false)(h4:ws≠[])(h5:∀w∈ws,ke w=true)(h6:(ws.map (·.length)).sum+ws.length<=6000):dR ws=true:=by
 unfold dR;rw[h1,h2,h3,decide_eq_true h4,decide_eq_true h6,List.all_eq_true.mpr h5];rfl
theorem SR(a b:Str)(h:Br.lookup w=none):uY [a,b,w]=false:=by
 unfold uY;show(_ && (_ && (_ && (Br.lookup w).isSome)))=false;rw[h];simp
theorem S_(a w:Str)(h:isNm n=false):uY [a,n,w]=false:=by
 unfold uY;show(_ && (_ && (isNm n && _)))=false;rw[h];simp
theorem S5(b w:Str)(h:(a==Str.ofString "in")=false):uY [a,b,w]=false:=by
 unfold uY;show(_ && ((a==Str.ofString "in") && _))=false;rw[h];simp
theorem in4(a b c d:Str):uY [a,b,c,d]=false:=rfl
theorem Pu(a b c:Str):yw [a,b,c]=false:=rfl
theorem O7(a b c:Str)(h:jY w=false):yw [a,b,c,w]=false:=by
 unfold yw;show(_ && (_ && (_ && (jY w && true))))=false;rw[h];simp
theorem Pn(b c:Str)(h:(a==Str.ofString "out")=false):xQ [a,b,c]=false:=by
 unfold xQ;show((_ && ((a==Str.ofString "out") && _)) && _)=false;rw[h];simp
theorem S6(b c d:Str)(h:(a==Str.ofString "out")=false):xQ [a,b,c,d]=false:=by
 unfold xQ;show((_ && ((a==Str.ofString "out") && _)) && _)=false;rw[h];simp
theorem Ts(a b:Str)(h:jY w=false):xQ [a,b,w]=false:=by
 unfold xQ;show(_ && (_ && (jY w && true)))=false;rw[h];simp
theorem MK{a b c:Str}(h1:uY [a,b,c]=false)(h3:xQ [a,b,c]=false)(ha:ke a=true)(hb:ke b=true)(hc:ke c=true)(hl:a.length+b.length+c.length<=5900):dR [a,b,c]=true:=by
 refine D2 h1 (Pu _ _ _) h3 (by simp) (fun w hw=>?_) (by simp;omega)
 simp only[List.mem_cons,List.not_mem_nil,or_false] at hw;rcases hw with rfl | rfl | rfl <;> assumption
theorem Rj{a b c d:Str}(h2:yw [a,b,c,d]=false)(h3:xQ [a,b,c,d]=false)(ha:ke a=true)(hb:ke b=true)(hc:ke c=true)(hd:ke d=true)(hl:a.length+b.length+c.length+d.length<=5900):dR [a,b,c,d]=true:=by
 refine D2 (in4 _ _ _ _) h2 h3 (by simp) (fun w hw=>?_) (by simp;omega)
 simp only[List.mem_cons,List.not_mem_nil,or_false] at hw;rcases hw with rfl | rfl | rfl | rfl <;> assumption
theorem li:(Str.ofString "in").length=2/\(Str.ofString "a").length=1/\(Str.ofString "gate").length=4/\(Str.ofString "not").length=3/\(Str.ofString "b:").length=2/\(Str.ofString "out").length=3/\(Str.ofString "1").length=1:=by decide+kernel
theorem GL:ke (Str.ofString "in")=true/\ke (Str.ofString "a")=true/\ke (Str.ofString "gate")=true/\ke (Str.ofString "not")=true/\ke (Str.ofString "b:")=true/\ke (Str.ofString "out")=true/\ke (Str.ofString "1")=true:=by decide+kernel
theorem Py{f:Str}(h:f.length≠1):jY (Str.ofString "b:"++f)=false:=by rw[bc];exact HI Y8 h
theorem N7:dR [Str.ofString "in",Str.ofString "a",X1]=true:=
 MK (SR _ _ (E7 (by rw[Pt];decide))) (Pn _ _ (by decide+kernel)) GL.1 GL.2.1 (wO TB (by decide)) (by rw[Pt,li.1,li.2.1];decide)
theorem O3:dR [Str.ofString "gate",Str.ofString "a",Str.ofString "not",Str.ofString "b:"++X1]=true:=
 Rj (O7 _ _ _ (Py (by rw[Pt];decide))) (S6 _ _ _ (by decide+kernel)) GL.2.2.1 GL.2.1 GL.2.2.2.1 (FN GL.2.2.2.2.1 (wO TB (by decide))) (by rw[Str.length_append,Pt,li.2.2.1,li.2.1,li.2.2.2.1,li.2.2.2.2.1];decide)
theorem P0:dR [Str.ofString "out",Str.ofString "a",Str.ofString "b:"++X2]=true:=
 MK (S5 _ _ (by decide+kernel)) (Ts _ _ (Py (by rw[Rc];decide))) GL.2.2.2.2.2.1 GL.2.1 (FN GL.2.2.2.2.1 (wO Wk (by decide))) (by rw[Str.length_append,Rc,li.2.2.2.2.2.1,li.2.1,li.2.2.2.2.1];decide)
theorem Om:dR [Str.ofString "in",X3,Str.ofString "1"]=true:=
 MK (S_ _ _ (Ie (by rw[Tn];decide))) (Pn _ _ (by decide+kernel)) GL.1 (wO Vz (by decide)) GL.2.2.2.2.2.2 (by rw[Tn,li.1,li.2.2.2.2.2.2];decide)
theorem eN{α:Type}{a b:α}{l m:List α}(h:a=b)(t:l=m):a ::l=b ::m:=by rw[h,t]
theorem AM:(Str.ofString "in").cps.toList=[105,110]:=by decide+kernel
theorem Ir:(Str.ofString "a").cps.toList=[97]:=by decide+kernel
theorem sR:(Str.ofString "gate").cps.toList=[103,97,116,101]:=by decide+kernel
theorem xB:(Str.ofString "not").cps.toList=[110,111,116]:=by decide+kernel
theorem A1:(Str.ofString "b:").cps.toList=[98,58]:=by decide+kernel
theorem xr:(Str.ofString "out").cps.toList=[111,117,116]:=by decide+kernel
theorem JA:(Str.ofString "1").cps.toList=[49]:=by decide+kernel
theorem Wl:mB (.str (Str.ofString "1")) (.int 5000)= .ok (.str X1):=by
 unfold X1 mB;exact bS _ (by decide+kernel)
theorem Yy:mB (.str (Str.ofString "0")) (.int 4301)= .ok (.str X2):=by
 unfold X2 mB;exact bS _ (by decide+kernel)
theorem Zg:mB (.str (Str.ofString "a")) (.int 5000)= .ok (.str X3):=by
 unfold X3 mB;exact bS _ (by decide+kernel)
def JW:List (List Str):=[[Str.ofString ""],[Str.ofString "",Str.ofString ""],[Str.ofString "in"],[Str.ofString "in",Str.ofString "a"],[Str.ofString "in",Str.ofString "a",Str.ofString "0"],[Str.ofString "in",Str.ofString "a",Str.ofString "4"],[Str.ofString "in",Str.ofString "a",Str.ofString "01"],[Str.ofString "in",Str.ofString "a",Str.ofString "x"],[Str.ofString "in",Str.ofString "a",Str.ofString "1",Str.ofString "1"],[Str.ofString "in",Str.ofString "A",Str.ofString "1"],[Str.ofString "in",Str.ofString "a1",Str.ofString "1"]]
theorem Yw:[Str.ofString "",Str.ofString " ",Str.ofString "in",Str.ofString "in a",Str.ofString "in a 0",Str.ofString "in a 4",Str.ofString "in a 01",Str.ofString "in a x",Str.ofString "in a 1 1",Str.ofString "in A 1",Str.ofString "in a1 1"]=JW.map (Str.join SP):=by decide+kernel
theorem Xs:∀ws∈JW,dR ws=true:=by decide+kernel
def NC:List (List Str):=[[Str.ofString "in",Str.ofString "abcdefghi",Str.ofString "1"],[Str.ofString "in",Str.ofString "",Str.ofString "a",Str.ofString "1"],[Str.ofString "in",Str.ofString "a",Str.ofString "1",Str.ofString ""],[Str.ofString "",Str.ofString "in",Str.ofString "a",Str.ofString "1"],[Str.ofString "In",Str.ofString "a",Str.ofString "1"],[Str.ofString "ins",Str.ofString "a",Str.ofString "1"],[Str.ofString "in",Str.ofString "1",Str.ofString "a"]]
theorem XQ:[Str.ofString "in abcdefghi 1",Str.ofString "in  a 1",Str.ofString "in a 1 ",Str.ofString " in a 1",Str.ofString "In a 1",Str.ofString "ins a 1",Str.ofString "in 1 a"]=NC.map (Str.join SP):=by decide+kernel
theorem Xk:∀ws∈NC,dR ws=true:=by decide+kernel
def NX:List (List Str):=[[Str.ofString "in",Str.ofString "gate",Str.ofString "1"],[Str.ofString "in",Str.ofString "in",Str.ofString "1"],[Str.ofString "in",Str.ofString "a",Str.ofString "-1"],[Str.ofString "in",Str.ofString "a",Str.ofString "1."],[Str.ofString "in",Str.ofString "a",Str.ofString "11"],[Str.ofString "in",Str.ofString ":a",Str.ofString "1"],[Str.ofString "in",Str.ofString "a:0",Str.ofString "1"],[Str.ofString "gate"]]
theorem Zc:[Str.ofString "in gate 1",Str.ofString "in in 1",Str.ofString "in a -1",Str.ofString "in a 1.",Str.ofString "in a 11",Str.ofString "in :a 1",Str.ofString "in a:0 1",Str.ofString "gate"]=NX.map (Str.join SP):=by decide+kernel
theorem Xh:∀ws∈NX,dR ws=true:=by decide+kernel
def NN:List (List Str):=[[Str.ofString "gate",Str.ofString "a"],[Str.ofString "gate",Str.ofString "a",Str.ofString "not"],[Str.ofString "gate",Str.ofString "a",Str.ofString "and"],[Str.ofString "gate",Str.ofString "a",Str.ofString "not",Str.ofString "b",Str.ofString "c"],[Str.ofString "gate",Str.ofString "a",Str.ofString "and",Str.ofString "b"],[Str.ofString "gate",Str.ofString "a",Str.ofString "and",Str.ofString "b",Str.ofString "c",Str.ofString "d"]]
theorem Zm:[Str.ofString "gate a",Str.ofString "gate a not",Str.ofString "gate a and",Str.ofString "gate a not b c",Str.ofString "gate a and b",Str.ofString "gate a and b c d"]=NN.map (Str.join SP):=by decide+kernel
theorem Zk:∀ws∈NN,dR ws=true:=by decide+kernel
def NQ:List (List Str):=[[Str.ofString "gate",Str.ofString "a",Str.ofString "or",Str.ofString "b"],[Str.ofString "gate",Str.ofString "a",Str.ofString "xor",Str.ofString "b",Str.ofString "c",Str.ofString "d"],[Str.ofString "gate",Str.ofString "a",Str.ofString "vote",Str.ofString "b",Str.ofString "c"],[Str.ofString "gate",Str.ofString "a",Str.ofString "vote",Str.ofString "b",Str.ofString "c",Str.ofString "d",Str.ofString "e"]]
theorem Y5:[Str.ofString "gate a or b",Str.ofString "gate a xor b c d",Str.ofString "gate a vote b c",Str.ofString "gate a vote b c d e"]=NQ.map (Str.join SP):=by decide+kernel
theorem Zb:∀ws∈NQ,dR ws=true:=by decide+kernel
def NM:List (List Str):=[[Str.ofString "gate",Str.ofString "a",Str.ofString "nand",Str.ofString "b",Str.ofString "c"],[Str.ofString "gate",Str.ofString "a",Str.ofString "NOT",Str.ofString "b"],[Str.ofString "gate",Str.ofString "A",Str.ofString "not",Str.ofString "b"],[Str.ofString "gate",Str.ofString "a1",Str.ofString "not",Str.ofString "b"],[Str.ofString "gate",Str.ofString "not",Str.ofString "not",Str.ofString "b"]]
theorem Ze:[Str.ofString "gate a nand b c",Str.ofString "gate a NOT b",Str.ofString "gate A not b",Str.ofString "gate a1 not b",Str.ofString "gate not not b"]=NM.map (Str.join SP):=by decide+kernel
theorem Yv:∀ws∈NM,dR ws=true:=by decide+kernel
def NS:List (List Str):=[[Str.ofString "gate",Str.ofString "a",Str.ofString "not",Str.ofString "B"],[Str.ofString "gate",Str.ofString "a",Str.ofString "not",Str.ofString "1"],[Str.ofString "gate",Str.ofString "a",Str.ofString "not",Str.ofString "b:"],[Str.ofString "gate",Str.ofString "a",Str.ofString "not",Str.ofString "b:00"],[Str.ofString "gate",Str.ofString "a",Str.ofString "not",Str.ofString "b:x"]]
theorem Yg:[Str.ofString "gate a not B",Str.ofString "gate a not 1",Str.ofString "gate a not b:",Str.ofString "gate a not b:00",Str.ofString "gate a not b:x"]=NS.map (Str.join SP):=by decide+kernel
theorem Zl:∀ws∈NS,dR ws=true:=by decide+kernel
def NI:List (List Str):=[[Str.ofString "gate",Str.ofString "a",Str.ofString "not",Str.ofString ":0"],[Str.ofString "gate",Str.ofString "a",Str.ofString "not",Str.ofString "b:0:0"],[Str.ofString "gate",Str.ofString "a",Str.ofString "not",Str.ofString "b;0"],[Str.ofString "gate",Str.ofString "a",Str.ofString "and",Str.ofString "b,",Str.ofString "c"],[Str.ofString "gate",Str.ofString "a",Str.ofString "",Str.ofString "not",Str.ofString "b"]]
theorem YS:[Str.ofString "gate a not :0",Str.ofString "gate a not b:0:0",Str.ofString "gate a not b;0",Str.ofString "gate a and b, c",Str.ofString "gate a  not b"]=NI.map (Str.join SP):=by decide+kernel
theorem YG:∀ws∈NI,dR ws=true:=by decide+kernel
def NA:List (List Str):=[[Str.ofString "gate",Str.ofString "a",Str.ofString "not",Str.ofString "",Str.ofString "b"],[Str.ofString "gate",Str.ofString "a",Str.ofString "not",Str.ofString "b",Str.ofString ""],[Str.ofString "",Str.ofString "gate",Str.ofString "a",Str.ofString "not",Str.ofString "b"],[Str.ofString "Gate",Str.ofString "a",Str.ofString "not",Str.ofString "b"],[Str.ofString "gates",Str.ofString "a",Str.ofString "not",Str.ofString "b"]]
theorem XA:[Str.ofString "gate a not  b",Str.ofString "gate a not b ",Str.ofString " gate a not b",Str.ofString "Gate a not b",Str.ofString "gates a not b"]=NA.map (Str.join SP):=by decide+kernel
theorem XU:∀ws∈NA,dR ws=true:=by decide+kernel
def NH:List (List Str):=[[Str.ofString "gate",Str.ofString "abcdefghi",Str.ofString "not",Str.ofString "b"],[Str.ofString "gate",Str.ofString "a",Str.ofString "not",Str.ofString "abcdefghi"],[Str.ofString "gate",Str.ofString "vote",Str.ofString "vote",Str.ofString "b",Str.ofString "c",Str.ofString "d"],[Str.ofString "gate",Str.ofString "a",Str.ofString "in",Str.ofString "b"]]
theorem YH:[Str.ofString "gate abcdefghi not b",Str.ofString "gate a not abcdefghi",Str.ofString "gate vote vote b c d",Str.ofString "gate a in b"]=NH.map (Str.join SP):=by decide+kernel
theorem XY:∀ws∈NH,dR ws=true:=by decide+kernel
def Dt:List (List Str):=[[Str.ofString "gate",Str.ofString "a",Str.ofString "not",Str.ofString "not"],[Str.ofString "gate",Str.ofString "a",Str.ofString "and",Str.ofString "b",Str.ofString "or"],[Str.ofString "gate",Str.ofString "a",Str.ofString "not",Str.ofString "b:-1"],[Str.ofString "gate",Str.ofString "a",Str.ofString "not",Str.ofString "-b"],[Str.ofString "gate",Str.ofString "a",Str.ofString "not(b)"]]
theorem Ry:[Str.ofString "gate a not not",Str.ofString "gate a and b or",Str.ofString "gate a not b:-1",Str.ofString "gate a not -b",Str.ofString "gate a not(b)"]=Dt.map (Str.join SP):=by decide+kernel
theorem Sg:∀ws∈Dt,dR ws=true:=by decide+kernel
def B4:List (List Str):=[[Str.ofString "gate",Str.ofString "a",Str.ofString "=",Str.ofString "not",Str.ofString "b"],[Str.ofString "sure"],[Str.ofString "sure",Str.ofString "a"],[Str.ofString "sure",Str.ofString "a",Str.ofString "not"],[Str.ofString "sure",Str.ofString "a",Str.ofString "not",Str.ofString "b",Str.ofString "c"],[Str.ofString "sure",Str.ofString "a",Str.ofString "or",Str.ofString "b"]]
theorem Tg:[Str.ofString "gate a = not b",Str.ofString "sure",Str.ofString "sure a",Str.ofString "sure a not",Str.ofString "sure a not b c",Str.ofString "sure a or b"]=B4.map (Str.join SP):=by decide+kernel
theorem TC:∀ws∈B4,dR ws=true:=by decide+kernel
def Dl:List (List Str):=[[Str.ofString "sure",Str.ofString "A",Str.ofString "or",Str.ofString "b",Str.ofString "c"],[Str.ofString "sure",Str.ofString "a",Str.ofString "nor",Str.ofString "b",Str.ofString "c"],[Str.ofString "Sure",Str.ofString "a",Str.ofString "not",Str.ofString "b"],[Str.ofString "sures",Str.ofString "a",Str.ofString "not",Str.ofString "b"],[Str.ofString "sure",Str.ofString "",Str.ofString "a",Str.ofString "not",Str.ofString "b"]]
theorem Sn:[Str.ofString "sure A or b c",Str.ofString "sure a nor b c",Str.ofString "Sure a not b",Str.ofString "sures a not b",Str.ofString "sure  a not b"]=Dl.map (Str.join SP):=by decide+kernel
theorem RG:∀ws∈Dl,dR ws=true:=by decide+kernel
def Cs:List (List Str):=[[Str.ofString "sure",Str.ofString "a",Str.ofString "vote",Str.ofString "b",Str.ofString "c"],[Str.ofString "sure",Str.ofString "sure",Str.ofString "not",Str.ofString "b"],[Str.ofString "sure",Str.ofString "a",Str.ofString "not",Str.ofString "b:a"],[Str.ofString "out"],[Str.ofString "out",Str.ofString "a"],[Str.ofString "out",Str.ofString "a",Str.ofString "b",Str.ofString "c",Str.ofString "d",Str.ofString "e"]]
theorem RX:[Str.ofString "sure a vote b c",Str.ofString "sure sure not b",Str.ofString "sure a not b:a",Str.ofString "out",Str.ofString "out a",Str.ofString "out a b c d e"]=Cs.map (Str.join SP):=by decide+kernel
theorem RP:∀ws∈Cs,dR ws=true:=by decide+kernel
def CW:List (List Str):=[[Str.ofString "out",Str.ofString "A",Str.ofString "b"],[Str.ofString "out",Str.ofString "a",Str.ofString "B"],[Str.ofString "out",Str.ofString "a",Str.ofString "1"],[Str.ofString "out",Str.ofString "a",Str.ofString "b:"],[Str.ofString "out",Str.ofString "a",Str.ofString "b:10"],[Str.ofString "out",Str.ofString "a",Str.ofString "",Str.ofString "b"],[Str.ofString "out",Str.ofString "a",Str.ofString "b",Str.ofString ""]]
theorem Tq:[Str.ofString "out A b",Str.ofString "out a B",Str.ofString "out a 1",Str.ofString "out a b:",Str.ofString "out a b:10",Str.ofString "out a  b",Str.ofString "out a b "]=CW.map (Str.join SP):=by decide+kernel
theorem To:∀ws∈CW,dR ws=true:=by decide+kernel
def CL:List (List Str):=[[Str.ofString "",Str.ofString "out",Str.ofString "a",Str.ofString "b"],[Str.ofString "Out",Str.ofString "a",Str.ofString "b"],[Str.ofString "outs",Str.ofString "a",Str.ofString "b"],[Str.ofString "out",Str.ofString "out",Str.ofString "b"],[Str.ofString "out",Str.ofString "a",Str.ofString "out"],[Str.ofString "out",Str.ofString "1",Str.ofString "b"],[Str.ofString "out",Str.ofString "abcdefghi",Str.ofString "b"]]
theorem Td:[Str.ofString " out a b",Str.ofString "Out a b",Str.ofString "outs a b",Str.ofString "out out b",Str.ofString "out a out",Str.ofString "out 1 b",Str.ofString "out abcdefghi b"]=CL.map (Str.join SP):=by decide+kernel
theorem Ra:∀ws∈CL,dR ws=true:=by decide+kernel
def Cm:List (List Str):=[[Str.ofString "out",Str.ofString "a",Str.ofString "b,c"],[Str.ofString "out",Str.ofString "a",Str.ofString "b:",Str.ofString "0"],[Str.ofString "not",Str.ofString "a",Str.ofString "b"],[Str.ofString "and",Str.ofString "a",Str.ofString "b",Str.ofString "c"],[Str.ofString "a"],[Str.ofString "1"],[Str.ofString "wire",Str.ofString "a",Str.ofString "b"],[Str.ofString "gate:",Str.ofString "a",Str.ofString "not",Str.ofString "b"]]
theorem Tj:[Str.ofString "out a b,c",Str.ofString "out a b: 0",Str.ofString "not a b",Str.ofString "and a b c",Str.ofString "a",Str.ofString "1",Str.ofString "wire a b",Str.ofString "gate: a not b"]=Cm.map (Str.join SP):=by decide+kernel
theorem Sv:∀ws∈Cm,dR ws=true:=by decide+kernel
def CN:List (List Str):=[[Str.ofString "#",Str.ofString "in",Str.ofString "a",Str.ofString "1"],[Str.ofString "end"],[Str.ofString "vote",Str.ofString "a",Str.ofString "b",Str.ofString "c"]]
theorem Te:[Str.ofString "# in a 1",Str.ofString "end",Str.ofString "vote a b c"]=CN.map (Str.join SP):=by decide+kernel
theorem Rz:∀ws∈CN,dR ws=true:=by decide+kernel
def yx(w:Str):List (List Str):=[[Str.ofString "in",w,Str.ofString "2"],[Str.ofString "gate",w,Str.ofString "not",Str.ofString "b"],[Str.ofString "sure",Str.ofString "q",Str.ofString "not",w]]
def yF(w:Str):List (List Str):=[[Str.ofString "out",w,Str.ofString "b"],[Str.ofString "out",Str.ofString "q",w],[Str.ofString "in",Str.ofString "a",X1],[Str.ofString "gate",Str.ofString "a",Str.ofString "not",Str.ofString "b:"++X1]]
def y7(w:Str):List (List Str):=[[Str.ofString "out",Str.ofString "a",Str.ofString "b:"++X2],[Str.ofString "in",X3,Str.ofString "1"],[Str.ofString "in",Str.ofString "a",Str.ofString "12"],[Str.ofString "in",Str.ofString "a",Str.ofString "23"],[Str.ofString "in",Str.ofString "a",Str.ofString "123"],[Str.ofString "in",Str.ofString "a",Str.ofString ""]]
def yY:List (List Str):=[[Str.ofString "gate",Str.ofString "a",Str.ofString "or",Str.ofString "b",Str.ofString "c",Str.ofString "d"],[Str.ofString "sure",Str.ofString "a",Str.ofString "or",Str.ofString "b",Str.ofString "c",Str.ofString "d"],[Str.ofString "sure",Str.ofString "a",Str.ofString "vote",Str.ofString "b",Str.ofString "c",Str.ofString "d",Str.ofString "e"],[Str.ofString "gate",Str.ofString "a",Str.ofString "not",Str.ofString "b:01"],[Str.ofString "out",Str.ofString "a",Str.ofString "b:12"]]
theorem Rp:[Str.ofString "gate a or b c d",Str.ofString "sure a or b c d",Str.ofString "sure a vote b c d e",Str.ofString "gate a not b:01",Str.ofString "out a b:12"]=yY.map (Str.join SP):=by decide+kernel
theorem RZ:∀ws∈yY,dR ws=true:=by decide+kernel
theorem Si:(Str.ofString " 1").cps.toList=[32,49]:=by decide+kernel
theorem Sy:(Str.ofString "gate a not b:").cps.toList=[103,97,116,101,32,97,32,110,111,116,32,98,58]:=by decide+kernel
theorem RS:(Str.ofString "in ").cps.toList=[105,110,32]:=by decide+kernel
theorem Sf:(Str.ofString "in a ").cps.toList=[105,110,32,97,32]:=by decide+kernel
theorem Se:(Str.ofString "out a b:").cps.toList=[111,117,116,32,97,32,98,58]:=by decide+kernel
theorem TF{w:Str}(hw:w∈nR):[Str.ofString "in "++w++Str.ofString " 2",Str.ofString "gate "++w++Str.ofString " not b",Str.ofString "sure q not "++w]=(yx w).map (Str.join SP):=by
 unfold yx;simp only[List.map_cons,List.map_nil];refine(eN ?_ (eN ?_ (eN ?_ rfl)))
 .revert w;decide+kernel
 .revert w;decide+kernel
 .revert w;decide+kernel
theorem RQ(hw:w∈nR):∀ws∈yx w,dR ws=true:=by
 intro ws hws;unfold yx at hws;simp only[List.mem_cons,List.not_mem_nil,or_false] at hws;rcases hws with rfl | rfl | rfl
 .revert w;decide+kernel
 .revert w;decide+kernel
 .revert w;decide+kernel
theorem Rn{w:Str}(hw:w∈nR):[Str.ofString "out "++w++Str.ofString " b",Str.ofString "out q "++w,Str.ofString "in a "++X1,Str.ofString "gate a not b:"++X1]=(yF w).map (Str.join SP):=by
 unfold yF;simp only[List.map_cons,List.map_nil];refine(eN ?_ (eN ?_ (eN ?_ (eN ?_ rfl))))
 .revert w;decide+kernel
 .revert w;decide+kernel
 .exact jd (by rw[pj,er];simp only[cJ,List.map_cons,List.map_nil,jn,Sf,AM,Ir,sR,xB,A1,xr,JA,cJ];simp)
 .exact jd (by rw[pj,er];simp only[cJ,List.map_cons,List.map_nil,jn,Sy,AM,Ir,sR,xB,A1,xr,JA,cJ];simp)
theorem RC(hw:w∈nR):∀ws∈yF w,dR ws=true:=by
 intro ws hws;unfold yF at hws;simp only[List.mem_cons,List.not_mem_nil,or_false] at hws;rcases hws with rfl | rfl | rfl | rfl
 .revert w;decide+kernel
 .revert w;decide+kernel
 .exact N7
 .exact O3
theorem RI(hw:w∈nR):[Str.ofString "out a b:"++X2,Str.ofString "in "++X3++Str.ofString " 1",Str.ofString "in a 12",Str.ofString "in a 23",Str.ofString "in a 123",Str.ofString "in a "]=(y7 w).map (Str.join SP):=by
 unfold y7;simp only[List.map_cons,List.map_nil];refine(eN ?_ (eN ?_ (eN ?_ (eN ?_ (eN ?_ (eN ?_ rfl))))))
 .exact jd (by rw[pj,er];simp only[cJ,List.map_cons,List.map_nil,jn,Se,AM,Ir,sR,xB,A1,xr,JA,cJ];simp)
 .exact jd (by rw[pj,er];simp only[cJ,List.map_cons,List.map_nil,jn,Si,RS,AM,Ir,sR,xB,A1,xr,JA,cJ];simp)
 .decide+kernel
 .decide+kernel
 .decide+kernel
 .decide+kernel
theorem R6(hw:w∈nR):∀ws∈y7 w,dR ws=true:=by
 intro ws hws;unfold y7 at hws;simp only[List.mem_cons,List.not_mem_nil,or_false] at hws;rcases hws with rfl | rfl | rfl | rfl | rfl | rfl
 .exact P0
 .exact Om
 .decide+kernel
 .decide+kernel
 .decide+kernel
 .decide+kernel
end TX
end
section
set_option maxHeartbeats 4000000
namespace K05
open PySem PySem.Spec PyProof.Rows L2 L3
variable {P:Program} {w:World} {K:W.Frag} {mg:Aaf} {base:Heap} {cl:Aag}
def top(i:Nat):Stmt:=PySem.Challenge.pw_bearfaults_k05_faults_together.main.body.getD i (.Pass ⟨0,0,0,0⟩)
def ef:D:=(.int 8)
def oh:D:=(.tup [(.str "in"),(.str "gate"),(.str "sure"),(.str "out"),(.str "not"),(.str "and"),(.str "or"),(.str "xor"),(.str "vote")])
def mm:D:=(.str "abcdefghijklmnopqrstuvwxyz")
def mw:D:=(.tup [(.str "0"),(.str "1"),(.str "2"),(.str "3"),(.str "4"),(.str "5"),(.str "6"),(.str "7"),(.str "8"),(.str "9")])
def dg:D:=(.int 3)
def j_:D:=(.int 6)
def gY:D:=(.int 60)
def jm:D:=(.int 6)
def jo:D:=(.int 80)
def oS:List (Str × Int):=[("1",1),("2",2),("3",3)]
def je:List (Str × Int):=[("not",1),("and",2),("or",2),("xor",2),("vote",3)]
structure Tp (P:Program) (w:World) (K:W.Frag) (mg:Aaf) (cl:Aag):Prop where
 z_len:mg "len"=none
 z_all:mg "all"=none
 z_range:mg "range"=none
 z_tuple:mg "tuple"=none
 z_str:mg "str"=none
 z_int:mg "int"=none
 z_isinstance:mg "isinstance"=none
 z_ValueError:mg "ValueError"=none
 ef:Glob K mg "MOST_LETTERS" ef
 oh:Glob K mg "BARRED" oh
 mm:Glob K mg "LETTERS" mm
 mw:Glob K mg "FIGURES" mw
 dg:Glob K mg "MOST_OUT_WIRES" dg
 j_:Glob K mg "MOST_INS" j_
 gY:Glob K mg "MOST_GATES" gY
 jm:Glob K mg "MOST_OUTS" jm
 jo:Glob K mg "MOST_ROWS" jo
 gd_WIDTHS:og P w K mg "WIDTHS" oS
 gd_KIND_WIRES:og P w K mg "KIND_WIRES" je
 C_Draft:x8 K (cl 0)
 N_Draft_ins:dc K (cl 0) "ins"
 N_Draft_gates:dc K (cl 0) "gates"
 N_Draft_outs:dc K (cl 0) "outs"
 N_Draft_names:dc K (cl 0) "names"
 N_Draft_out_names:dc K (cl 0) "out_names"
 N_Draft_numbers:dc K (cl 0) "numbers"
 M_Draft:mg "Draft"=some (.ref (cl 0))
 M_FaultError:mg "FaultError"=some (.ref (cl 1))
 M_TooLong:mg "TooLong"=some (.ref (cl 2))
 M_NoForm:mg "NoForm"=some (.ref (cl 3))
 M_NoPlace:mg "NoPlace"=some (.ref (cl 4))
 M_Twice:mg "Twice"=some (.ref (cl 5))
 M_Full:mg "Full"=some (.ref (cl 6))
 M_NoWire:mg "NoWire"=some (.ref (cl 7))
 M_Open:mg "Open"=some (.ref (cl 8))
 M_NotPlain:mg "NotPlain"=some (.ref (cl 9))
 M_NotThree:mg "NotThree"=some (.ref (cl 10))
 M_NotSound:mg "NotSound"=some (.ref (cl 11))
 M_NoFit:mg "NoFit"=some (.ref (cl 12))
 M_NoShape:mg "NoShape"=some (.ref (cl 13))
 M_NoneYet:mg "NoneYet"=some (.ref (cl 14))
 X_TooLong:XC K (cl 2)
 X_NoForm:XC K (cl 3)
 X_NoPlace:XC K (cl 4)
 X_Twice:XC K (cl 5)
 X_Full:XC K (cl 6)
 X_NoWire:XC K (cl 7)
 X_Open:XC K (cl 8)
 I_Open_Twice:PySem.W.kitOne K (.ref (cl 8)) (.ref (cl 5))=some false
 I_NoWire_Twice:PySem.W.kitOne K (.ref (cl 7)) (.ref (cl 5))=some false
 I_Full_Twice:PySem.W.kitOne K (.ref (cl 6)) (.ref (cl 5))=some false
 I_Twice_Twice:PySem.W.kitOne K (.ref (cl 5)) (.ref (cl 5))=some true
 I_NoPlace_Twice:PySem.W.kitOne K (.ref (cl 4)) (.ref (cl 5))=some false
 I_NoForm_Twice:PySem.W.kitOne K (.ref (cl 3)) (.ref (cl 5))=some false
 I_TooLong_Twice:PySem.W.kitOne K (.ref (cl 2)) (.ref (cl 5))=some false
 O_Twice:PySem.W.kitOne K (.type "NoneType") (.ref (cl 5))=some false
 I_Open_NoPlace:PySem.W.kitOne K (.ref (cl 8)) (.ref (cl 4))=some false
 I_NoWire_NoPlace:PySem.W.kitOne K (.ref (cl 7)) (.ref (cl 4))=some false
 I_Full_NoPlace:PySem.W.kitOne K (.ref (cl 6)) (.ref (cl 4))=some false
 I_Twice_NoPlace:PySem.W.kitOne K (.ref (cl 5)) (.ref (cl 4))=some false
 I_NoPlace_NoPlace:PySem.W.kitOne K (.ref (cl 4)) (.ref (cl 4))=some true
 I_NoForm_NoPlace:PySem.W.kitOne K (.ref (cl 3)) (.ref (cl 4))=some false
 I_TooLong_NoPlace:PySem.W.kitOne K (.ref (cl 2)) (.ref (cl 4))=some false
 O_NoPlace:PySem.W.kitOne K (.type "NoneType") (.ref (cl 4))=some false
 I_Open_NoForm:PySem.W.kitOne K (.ref (cl 8)) (.ref (cl 3))=some false
 I_NoWire_NoForm:PySem.W.kitOne K (.ref (cl 7)) (.ref (cl 3))=some false
 I_Full_NoForm:PySem.W.kitOne K (.ref (cl 6)) (.ref (cl 3))=some false
 I_Twice_NoForm:PySem.W.kitOne K (.ref (cl 5)) (.ref (cl 3))=some false
 I_NoPlace_NoForm:PySem.W.kitOne K (.ref (cl 4)) (.ref (cl 3))=some false
 I_NoForm_NoForm:PySem.W.kitOne K (.ref (cl 3)) (.ref (cl 3))=some true
 I_TooLong_NoForm:PySem.W.kitOne K (.ref (cl 2)) (.ref (cl 3))=some false
 O_NoForm:PySem.W.kitOne K (.type "NoneType") (.ref (cl 3))=some false
 I_Open_TooLong:PySem.W.kitOne K (.ref (cl 8)) (.ref (cl 2))=some false
 I_NoWire_TooLong:PySem.W.kitOne K (.ref (cl 7)) (.ref (cl 2))=some false
 I_Full_TooLong:PySem.W.kitOne K (.ref (cl 6)) (.ref (cl 2))=some false
 I_Twice_TooLong:PySem.W.kitOne K (.ref (cl 5)) (.ref (cl 2))=some false
 I_NoPlace_TooLong:PySem.W.kitOne K (.ref (cl 4)) (.ref (cl 2))=some false
 I_NoForm_TooLong:PySem.W.kitOne K (.ref (cl 3)) (.ref (cl 2))=some false
 I_TooLong_TooLong:PySem.W.kitOne K (.ref (cl 2)) (.ref (cl 2))=some true
 O_TooLong:PySem.W.kitOne K (.type "NoneType") (.ref (cl 2))=some false
 I_Open_NotPlain:PySem.W.kitOne K (.ref (cl 8)) (.ref (cl 9))=some false
 I_NoWire_NotPlain:PySem.W.kitOne K (.ref (cl 7)) (.ref (cl 9))=some false
 I_Full_NotPlain:PySem.W.kitOne K (.ref (cl 6)) (.ref (cl 9))=some false
 I_Twice_NotPlain:PySem.W.kitOne K (.ref (cl 5)) (.ref (cl 9))=some false
 I_NoPlace_NotPlain:PySem.W.kitOne K (.ref (cl 4)) (.ref (cl 9))=some false
 I_NoForm_NotPlain:PySem.W.kitOne K (.ref (cl 3)) (.ref (cl 9))=some false
 I_TooLong_NotPlain:PySem.W.kitOne K (.ref (cl 2)) (.ref (cl 9))=some false
 O_NotPlain:PySem.W.kitOne K (.type "NoneType") (.ref (cl 9))=some false
 I_Open_Open:PySem.W.kitOne K (.ref (cl 8)) (.ref (cl 8))=some true
 I_NoWire_Open:PySem.W.kitOne K (.ref (cl 7)) (.ref (cl 8))=some false
 I_Full_Open:PySem.W.kitOne K (.ref (cl 6)) (.ref (cl 8))=some false
 I_Twice_Open:PySem.W.kitOne K (.ref (cl 5)) (.ref (cl 8))=some false
 I_NoPlace_Open:PySem.W.kitOne K (.ref (cl 4)) (.ref (cl 8))=some false
 I_NoForm_Open:PySem.W.kitOne K (.ref (cl 3)) (.ref (cl 8))=some false
 I_TooLong_Open:PySem.W.kitOne K (.ref (cl 2)) (.ref (cl 8))=some false
 O_Open:PySem.W.kitOne K (.type "NoneType") (.ref (cl 8))=some false
 I_Open_NoWire:PySem.W.kitOne K (.ref (cl 8)) (.ref (cl 7))=some false
 I_NoWire_NoWire:PySem.W.kitOne K (.ref (cl 7)) (.ref (cl 7))=some true
 I_Full_NoWire:PySem.W.kitOne K (.ref (cl 6)) (.ref (cl 7))=some false
 I_Twice_NoWire:PySem.W.kitOne K (.ref (cl 5)) (.ref (cl 7))=some false
 I_NoPlace_NoWire:PySem.W.kitOne K (.ref (cl 4)) (.ref (cl 7))=some false
 I_NoForm_NoWire:PySem.W.kitOne K (.ref (cl 3)) (.ref (cl 7))=some false
 I_TooLong_NoWire:PySem.W.kitOne K (.ref (cl 2)) (.ref (cl 7))=some false
 O_NoWire:PySem.W.kitOne K (.type "NoneType") (.ref (cl 7))=some false
 I_Open_Full:PySem.W.kitOne K (.ref (cl 8)) (.ref (cl 6))=some false
 I_NoWire_Full:PySem.W.kitOne K (.ref (cl 7)) (.ref (cl 6))=some false
 I_Full_Full:PySem.W.kitOne K (.ref (cl 6)) (.ref (cl 6))=some true
 I_Twice_Full:PySem.W.kitOne K (.ref (cl 5)) (.ref (cl 6))=some false
 I_NoPlace_Full:PySem.W.kitOne K (.ref (cl 4)) (.ref (cl 6))=some false
 I_NoForm_Full:PySem.W.kitOne K (.ref (cl 3)) (.ref (cl 6))=some false
 I_TooLong_Full:PySem.W.kitOne K (.ref (cl 2)) (.ref (cl 6))=some false
 O_Full:PySem.W.kitOne K (.type "NoneType") (.ref (cl 6))=some false
 I_Open_NoShape:PySem.W.kitOne K (.ref (cl 8)) (.ref (cl 13))=some false
 I_NoWire_NoShape:PySem.W.kitOne K (.ref (cl 7)) (.ref (cl 13))=some false
 I_Full_NoShape:PySem.W.kitOne K (.ref (cl 6)) (.ref (cl 13))=some false
 I_Twice_NoShape:PySem.W.kitOne K (.ref (cl 5)) (.ref (cl 13))=some false
 I_NoPlace_NoShape:PySem.W.kitOne K (.ref (cl 4)) (.ref (cl 13))=some false
 I_NoForm_NoShape:PySem.W.kitOne K (.ref (cl 3)) (.ref (cl 13))=some false
 I_TooLong_NoShape:PySem.W.kitOne K (.ref (cl 2)) (.ref (cl 13))=some false
 O_NoShape:PySem.W.kitOne K (.type "NoneType") (.ref (cl 13))=some false
 I_Open_NoFit:PySem.W.kitOne K (.ref (cl 8)) (.ref (cl 12))=some false
 I_NoWire_NoFit:PySem.W.kitOne K (.ref (cl 7)) (.ref (cl 12))=some false
 I_Full_NoFit:PySem.W.kitOne K (.ref (cl 6)) (.ref (cl 12))=some false
 I_Twice_NoFit:PySem.W.kitOne K (.ref (cl 5)) (.ref (cl 12))=some false
 I_NoPlace_NoFit:PySem.W.kitOne K (.ref (cl 4)) (.ref (cl 12))=some false
 I_NoForm_NoFit:PySem.W.kitOne K (.ref (cl 3)) (.ref (cl 12))=some false
 I_TooLong_NoFit:PySem.W.kitOne K (.ref (cl 2)) (.ref (cl 12))=some false
 O_NoFit:PySem.W.kitOne K (.type "NoneType") (.ref (cl 12))=some false
 I_Open_NotSound:PySem.W.kitOne K (.ref (cl 8)) (.ref (cl 11))=some false
 I_NoWire_NotSound:PySem.W.kitOne K (.ref (cl 7)) (.ref (cl 11))=some false
 I_Full_NotSound:PySem.W.kitOne K (.ref (cl 6)) (.ref (cl 11))=some false
 I_Twice_NotSound:PySem.W.kitOne K (.ref (cl 5)) (.ref (cl 11))=some false
 I_NoPlace_NotSound:PySem.W.kitOne K (.ref (cl 4)) (.ref (cl 11))=some false
 I_NoForm_NotSound:PySem.W.kitOne K (.ref (cl 3)) (.ref (cl 11))=some false
 I_TooLong_NotSound:PySem.W.kitOne K (.ref (cl 2)) (.ref (cl 11))=some false
 O_NotSound:PySem.W.kitOne K (.type "NoneType") (.ref (cl 11))=some false
 I_Open_NotThree:PySem.W.kitOne K (.ref (cl 8)) (.ref (cl 10))=some false
 I_NoWire_NotThree:PySem.W.kitOne K (.ref (cl 7)) (.ref (cl 10))=some false
 I_Full_NotThree:PySem.W.kitOne K (.ref (cl 6)) (.ref (cl 10))=some false
 I_Twice_NotThree:PySem.W.kitOne K (.ref (cl 5)) (.ref (cl 10))=some false
 I_NoPlace_NotThree:PySem.W.kitOne K (.ref (cl 4)) (.ref (cl 10))=some false
 I_NoForm_NotThree:PySem.W.kitOne K (.ref (cl 3)) (.ref (cl 10))=some false
 I_TooLong_NotThree:PySem.W.kitOne K (.ref (cl 2)) (.ref (cl 10))=some false
 O_NotThree:PySem.W.kitOne K (.type "NoneType") (.ref (cl 10))=some false
 I_Open_ValueError:PySem.W.kitOne K (.ref (cl 8)) (.type "ValueError")=some true
 I_NoWire_ValueError:PySem.W.kitOne K (.ref (cl 7)) (.type "ValueError")=some true
 I_Full_ValueError:PySem.W.kitOne K (.ref (cl 6)) (.type "ValueError")=some true
 I_Twice_ValueError:PySem.W.kitOne K (.ref (cl 5)) (.type "ValueError")=some true
 I_NoPlace_ValueError:PySem.W.kitOne K (.ref (cl 4)) (.type "ValueError")=some true
 I_NoForm_ValueError:PySem.W.kitOne K (.ref (cl 3)) (.type "ValueError")=some true
 I_TooLong_ValueError:PySem.W.kitOne K (.ref (cl 2)) (.type "ValueError")=some true
 O_ValueError:PySem.W.kitOne K (.type "NoneType") (.type "ValueError")=some false
 I_Open_NoneYet:PySem.W.kitOne K (.ref (cl 8)) (.ref (cl 14))=some false
 I_NoWire_NoneYet:PySem.W.kitOne K (.ref (cl 7)) (.ref (cl 14))=some false
 I_Full_NoneYet:PySem.W.kitOne K (.ref (cl 6)) (.ref (cl 14))=some false
 I_Twice_NoneYet:PySem.W.kitOne K (.ref (cl 5)) (.ref (cl 14))=some false
 I_NoPlace_NoneYet:PySem.W.kitOne K (.ref (cl 4)) (.ref (cl 14))=some false
 I_NoForm_NoneYet:PySem.W.kitOne K (.ref (cl 3)) (.ref (cl 14))=some false
 I_TooLong_NoneYet:PySem.W.kitOne K (.ref (cl 2)) (.ref (cl 14))=some false
 O_NoneYet:PySem.W.kitOne K (.type "NoneType") (.ref (cl 14))=some false
 E_Open_FaultError:PySem.W.exmOne K (.ref (cl 8)) (.ref (cl 1))=some true
 E_NoWire_FaultError:PySem.W.exmOne K (.ref (cl 7)) (.ref (cl 1))=some true
 E_Full_FaultError:PySem.W.exmOne K (.ref (cl 6)) (.ref (cl 1))=some true
 E_Twice_FaultError:PySem.W.exmOne K (.ref (cl 5)) (.ref (cl 1))=some true
 E_NoPlace_FaultError:PySem.W.exmOne K (.ref (cl 4)) (.ref (cl 1))=some true
 E_NoForm_FaultError:PySem.W.exmOne K (.ref (cl 3)) (.ref (cl 1))=some true
 E_TooLong_FaultError:PySem.W.exmOne K (.ref (cl 2)) (.ref (cl 1))=some true
abbrev mC:Stmt:=top 27
noncomputable abbrev rn:List Str:=["word"]
noncomputable def zT:{b:List Stmt // a9 mC=b}:=⟨_,by conv=>lhs;whnf⟩
noncomputable def pN:{b:Scope // aJ mC=b}:=⟨_,by conv=>lhs;whnf⟩
theorem CP:bC rn ["word"] pN.1:=⟨rfl,rfl,rfl,by decide+kernel,rfl,by decide+kernel,by decide+kernel⟩
def vR:FS:=(br (tZ (Bv (b2 DJ (bf o7 (ag (ao 0) aE)) (eC (.int 1))) (Bv (b2 M4 (bf o7 (ag (ao 0) aE)) (eC ef)) (b2 zF (ao 0) (eC oh)))) (d_ (eC (.bl false))) mO) (d_ (bf EN (ag (eNew (ny (Gs (ao 0)) (bA 0) zC (e2 zF (ao 0) (eC mm)) ["sign"] [])) aE))))
def dm:List D->R D:=va rn vR
theorem Co(T:Tp P w K mg cl)(h:Def K mg "is_name" mC):Callee P w K mg base 1 "is_name" 1 dm:=by
 obtain⟨f,fd,F,hm⟩:=h;exact⟨f,fd,_,cu (k:=0) zT.2 pN.2 F CP (fun dJ A outer s H E hr=>(aq (df (gG (j6 (bE zY (cL oq rfl T.z_len PySem.boot_len (aa (ae 0) ah)) ai (bJ _)) (j6 (bE JC (cL oq rfl T.z_len PySem.boot_len (aa (ae 0) ah)) (gx T.ef rfl) (bJ _)) (kA (bE y4 (ae 0) (gx T.oh rfl) (by with_unfolding_all rfl)))))) (aU (bq pI)) cH) (aU (bq (cL (Kk rfl) rfl T.z_all PyProof.Rows.boot_all (aa (ay (l7 rfl (eU.of (own:=["sign"]) (kp:=[]) (kn:=[]) (sc:=pN.1) (N:=rn) rfl rfl (by decide+kernel)) (Ex (ae 0)) (fun _ _ _=>(aZ (show List.Nodup [(Str.ofString "sign")] from by decide+kernel) rfl (Or.inl rfl))) (fun _ _ _=>lZ) (fun _ _ _=>(eP y4 (ae 0) (gx T.mm rfl) (by with_unfolding_all rfl))))) ah)))))),hm,F.kp,F.binds fun _ _ _ _ _ _ us hl=>match us,hl with | [_],_=>rfl⟩
abbrev kE:Stmt:=top 28
noncomputable abbrev pO:List Str:=["name","width"]
noncomputable def zd:{b:List Stmt // a9 kE=b}:=⟨_,by conv=>lhs;whnf⟩
noncomputable def n4:{b:Scope // aJ kE=b}:=⟨_,by conv=>lhs;whnf⟩
theorem AB:bC pO ["name","width"] n4.1:=⟨rfl,rfl,rfl,by decide+kernel,rfl,by decide+kernel,by decide+kernel⟩
def s_:FS:=(br (tZ (b2 qr (ao 1) (eC (.int 1))) (d_ (eNew (bg (ag (ao 0) aE)))) mO) (d_ (eNew (ny (j9 (ao 1)) (bA 0) zC (c4 (b8 (lY (ao 1)) (b8 (eC (.str ":")) (b8 (lY (ao 0)) pM)))) ["figure"] [0]))))
def ka:List D->R D:=va pO s_
theorem zR(T:Tp P w K mg cl)(h:Def K mg "in_wires" kE):Callee P w K mg base 1 "in_wires" 2 ka:=by
 obtain⟨f,fd,F,hm⟩:=h;exact⟨f,fd,_,cu (k:=0) zd.2 n4.2 F AB (fun dJ A outer s H E hr=>(aq (df (bE (nH hr.units) (ae 1) ai (bJ _)) (aU (bq (ay (ax (aa (ae 0) ah))))) cH) (aU (bq (ay (l7 rfl (eU.of (own:=["figure"]) (kp:=[0]) (kn:=["name"]) (sc:=n4.1) (N:=pO) rfl rfl (by decide+kernel)) (gf (ae 1) rfl T.z_range) (fun _ _ _=>(aZ (show List.Nodup [(Str.ofString "figure"),"name"] from by decide+kernel) rfl (Or.inl rfl))) (fun _ _ _=>lZ) (fun _ _ _=>(cS (bb (gO (ae 1)) (bb af (bb (gO (ae 0)) gg))))))))))),hm,F.kp,F.binds fun _ _ _ _ _ _ us hl=>match us,hl with | [_,_],_=>rfl⟩
abbrev eh:Stmt:=top 29
noncomputable abbrev kD:List Str:=["word","parts"]
noncomputable def sg:{b:List Stmt // a9 eh=b}:=⟨_,by conv=>lhs;whnf⟩
noncomputable def nD:{b:Scope // aJ eh=b}:=⟨_,by conv=>lhs;whnf⟩
theorem oE:bC kD ["word"] nD.1:=⟨rfl,rfl,rfl,by decide+kernel,rfl,by decide+kernel,by decide+kernel⟩
def oA:FS:=(br (b9 1 (v_ "str" xY (ao 0) (ag (eC (.str ":")) aE))) (d_ (vh (bf dm (ag (e2 dN (ao 1) (eC (.int 0))) aE)) (NG (e2 qr (e2 dN (ao 1) (eC (.int 1))) (eC (.str ""))) (e2 zF (e2 dN (ao 1) (eC (.int 2))) (eC mw))))))
def d6:List D->R D:=va kD oA
theorem t_(T:Tp P w K mg cl)(h:Def K mg "is_wire_form" eh)(cY:Callee P w K mg base 1 "is_name" 1 dm):Callee P w K mg base 2 "is_wire_form" 1 d6:=by
 obtain⟨f,fd,F,hm⟩:=h;exact⟨f,fd,_,cu (k:=1) sg.2 nD.2 F oE (fun dJ A outer s H E hr=>(aq (aF oE.nd rfl (Or.inl rfl) (vc (ae 0) (aa af ah))) (aU (bq (oQ (aP cY hr (by decide) rfl (aa (bp (ae 1) ai (fun _ _=>rfl)) ah) (aA a_)) (oX (Fg (eP (nH hr.units) (bp (ae 1) ai (fun _ _=>rfl)) af (bJ _)) (oX (eP y4 (bp (ae 1) ai (fun _ _=>rfl)) (gx T.mw rfl) (by with_unfolding_all rfl)))))))))),hm,F.kp,F.binds fun _ _ _ _ _ _ us hl=>match us,hl with | [_],_=>rfl⟩
abbrev dk:Stmt:=top 30
noncomputable abbrev iB:List Str:=["words"]
noncomputable def qQ:{b:List Stmt // a9 dk=b}:=⟨_,by conv=>lhs;whnf⟩
noncomputable def gH:{b:Scope // aJ dk=b}:=⟨_,by conv=>lhs;whnf⟩
theorem ri:bC iB ["words"] gH.1:=⟨rfl,rfl,rfl,by decide+kernel,rfl,by decide+kernel,by decide+kernel⟩
def mh:FS:=(d_ (bf EN (ag (eNew (ny (kc (ao 0)) (bA 0) zC (bf d6 (ag (ao 0) aE)) ["word"] [])) aE)))
def cn:List D->R D:=va iB mh
theorem rq(T:Tp P w K mg cl)(h:Def K mg "are_wire_forms" dk)(kM:Callee P w K mg base 2 "is_wire_form" 1 d6):Callee P w K mg base 3 "are_wire_forms" 1 cn:=by
 obtain⟨f,fd,F,hm⟩:=h;exact⟨f,fd,_,cu (k:=2) qQ.2 gH.2 F ri (fun dJ A outer s H E hr=>(aU (bq (cL (Kk rfl) rfl T.z_all PyProof.Rows.boot_all (aa (ay (l7 rfl (eU.of (own:=["word"]) (kp:=[]) (kn:=[]) (sc:=gH.1) (N:=iB) rfl rfl (by decide+kernel)) (gM (ae 0)) (fun _ _ _=>(aZ (show List.Nodup [(Str.ofString "word")] from by decide+kernel) rfl (Or.inl rfl))) (fun _ _ _=>lZ) (fun _ _ _=>(aP kM hr (by decide) rfl (aa (ae 0) ah) (aA a_))))) ah))))),hm,F.kp,F.binds fun _ _ _ _ _ _ us hl=>match us,hl with | [_],_=>rfl⟩
abbrev gz:Stmt:=top 31
noncomputable abbrev mR:List Str:=["words"]
noncomputable def uX:{b:List Stmt // a9 gz=b}:=⟨_,by conv=>lhs;whnf⟩
noncomputable def pE:{b:Scope // aJ gz=b}:=⟨_,by conv=>lhs;whnf⟩
theorem xp:bC mR ["words"] pE.1:=⟨rfl,rfl,rfl,by decide+kernel,rfl,by decide+kernel,by decide+kernel⟩
def qR:FS:=(d_ (vh (e2 qr (bf o7 (ag (ao 0) aE)) (eC (.int 3))) (vh (e2 qr (e2 dN (ao 0) (eC (.int 0))) (eC (.str "in"))) (vh (bf dm (ag (e2 dN (ao 0) (eC (.int 1))) aE)) (Ll oS (e2 dN (ao 0) (eC (.int 2))))))))
def gE:List D->R D:=va mR qR
theorem xh(T:Tp P w K mg cl)(h:Def K mg "is_in_form" gz)(cY:Callee P w K mg base 1 "is_name" 1 dm):Callee P w K mg base 2 "is_in_form" 1 gE:=by
 obtain⟨f,fd,F,hm⟩:=h;exact⟨f,fd,_,cu (k:=1) uX.2 pE.2 F xp (fun dJ A outer s H E hr=>(aU (bq (oQ (eP (nH hr.units) (cL oq rfl T.z_len PySem.boot_len (aa (ae 0) ah)) ai (bJ _)) (oQ (eP (nH hr.units) (bp (ae 0) ai (fun _ _=>rfl)) af (bJ _)) (oQ (aP cY hr (by decide) rfl (aa (bp (ae 0) ai (fun _ _=>rfl)) ah) (aA a_)) (oX (IK (lb hr) (bp (ae 0) ai (fun _ _=>rfl)) T.gd_WIDTHS rfl)))))))),hm,F.kp,F.binds fun _ _ _ _ _ _ us hl=>match us,hl with | [_],_=>rfl⟩
abbrev d9:Stmt:=top 32
noncomputable abbrev gy:List Str:=["words","wires"]
noncomputable def si:{b:List Stmt // a9 d9=b}:=⟨_,by conv=>lhs;whnf⟩
noncomputable def nt:{b:Scope // aJ d9=b}:=⟨_,by conv=>lhs;whnf⟩
theorem n_:bC gy ["words"] nt.1:=⟨rfl,rfl,rfl,by decide+kernel,rfl,by decide+kernel,by decide+kernel⟩
def nV:FS:=(br (tZ (Bv (b2 DJ (bf o7 (ag (ao 0) aE)) (eC (.int 4))) (b2 mZ (e2 dN (ao 0) (eC (.int 0))) (C_ (ag (eC (.str "gate")) (ag (eC (.str "sure")) aE))))) (d_ (eC (.bl false))) mO) (br (tZ (Bv (Ce (wW (bf dm (ag (e2 dN (ao 0) (eC (.int 1))) aE)))) (Mn je (e2 dN (ao 0) (eC (.int 2))))) (d_ (eC (.bl false))) mO) (br (b9 1 (yZ (ao 0) (iq (eC (.int 3))) lx)) (d_ (vh (e2 qr (bf o7 (ag (ao 1) aE)) (xZ je (e2 dN (ao 0) (eC (.int 2))))) (bf cn (ag (ao 1) aE)))))))
def eo:List D->R D:=va gy nV
theorem tf(T:Tp P w K mg cl)(h:Def K mg "is_gate_form" d9)(cY:Callee P w K mg base 1 "is_name" 1 dm)(cM:Callee P w K mg base 3 "are_wire_forms" 1 cn):Callee P w K mg base 4 "is_gate_form" 1 eo:=by
 obtain⟨f,fd,F,hm⟩:=h;exact⟨f,fd,_,cu (k:=3) si.2 nt.2 F n_ (fun dJ A outer s H E hr=>(aq (df (gG (j6 (bE zY (cL oq rfl T.z_len PySem.boot_len (aa (ae 0) ah)) ai (bJ _)) (kA (bE sG (bp (ae 0) ai (fun _ _=>rfl)) (Bq (aa af (aa af ah))) (by with_unfolding_all rfl))))) (aU (bq pI)) cH) (aq (df (gG (j6 (Bg (qV (aP cY hr (by decide) rfl (aa (bp (ae 0) ai (fun _ _=>rfl)) ah) (aA a_)))) (kA (Iu (lb hr) (bp (ae 0) ai (fun _ _=>rfl)) T.gd_KIND_WIRES rfl)))) (aU (bq pI)) cH) (aq (aF n_.nd rfl (Or.inl rfl) (jx (ae 0) (dt ai) eu)) (aU (bq (oQ (eP (nH hr.units) (cL oq rfl T.z_len PySem.boot_len (aa (ae 1) ah)) (ye (bp (ae 0) ai (fun _ _=>rfl)) T.gd_KIND_WIRES rfl (fun _ _=>rfl)) (bJ _)) (oX (aP cM hr (by decide) rfl (aa (ae 1) ah) (aA a_)))))))))),hm,F.kp,F.binds fun _ _ _ _ _ _ us hl=>match us,hl with | [_],_=>rfl⟩
abbrev fB:Stmt:=top 33
noncomputable abbrev lI:List Str:=["words","wires"]
noncomputable def t5:{b:List Stmt // a9 fB=b}:=⟨_,by conv=>lhs;whnf⟩
noncomputable def oB:{b:Scope // aJ fB=b}:=⟨_,by conv=>lhs;whnf⟩
theorem pf:bC lI ["words"] oB.1:=⟨rfl,rfl,rfl,by decide+kernel,rfl,by decide+kernel,by decide+kernel⟩
def pC:FS:=(br (tZ (Bv (b2 DJ (bf o7 (ag (ao 0) aE)) (eC (.int 3))) (Bv (b2 HQ (e2 dN (ao 0) (eC (.int 0))) (eC (.str "out"))) (Ce (wW (bf dm (ag (e2 dN (ao 0) (eC (.int 1))) aE)))))) (d_ (eC (.bl false))) mO) (br (b9 1 (yZ (ao 0) (iq (eC (.int 2))) lx)) (d_ (vh (e2 S7 (bf o7 (ag (ao 1) aE)) (eC dg)) (bf cn (ag (ao 1) aE))))))
def fu:List D->R D:=va lI pC
theorem uW(T:Tp P w K mg cl)(h:Def K mg "is_out_form" fB)(cY:Callee P w K mg base 1 "is_name" 1 dm)(cM:Callee P w K mg base 3 "are_wire_forms" 1 cn):Callee P w K mg base 4 "is_out_form" 1 fu:=by
 obtain⟨f,fd,F,hm⟩:=h;exact⟨f,fd,_,cu (k:=3) t5.2 oB.2 F pf (fun dJ A outer s H E hr=>(aq (df (gG (j6 (bE zY (cL oq rfl T.z_len PySem.boot_len (aa (ae 0) ah)) ai (bJ _)) (j6 (bE (MF hr.units) (bp (ae 0) ai (fun _ _=>rfl)) af (bJ _)) (kA (Bg (qV (aP cY hr (by decide) rfl (aa (bp (ae 0) ai (fun _ _=>rfl)) ah) (aA a_)))))))) (aU (bq pI)) cH) (aq (aF pf.nd rfl (Or.inl rfl) (jx (ae 0) (dt ai) eu)) (aU (bq (oQ (eP Tu (cL oq rfl T.z_len PySem.boot_len (aa (ae 1) ah)) (gx T.dg rfl) (bJ _)) (oX (aP cM hr (by decide) rfl (aa (ae 1) ah) (aA a_))))))))),hm,F.kp,F.binds fun _ _ _ _ _ _ us hl=>match us,hl with | [_],_=>rfl⟩
abbrev cm:Stmt:=inClass (top 34) 1
noncomputable abbrev gU:List Str:=["self","name","width","wire"]
noncomputable def sk:{b:List Stmt // a9 cm=b}:=⟨_,by conv=>lhs;whnf⟩
noncomputable def nA:{b:Scope // aJ cm=b}:=⟨_,by conv=>lhs;whnf⟩
theorem nP:bC gU ["self","name","width"] nA.1:=⟨rfl,rfl,rfl,by decide+kernel,rfl,by decide+kernel,by decide+kernel⟩
def mv:FZ:=(pV (eV 0 "numbers" (bX 0)) (xP (ao 3)) (zx (eV 0 "numbers" (bX 0))))
def kj:FZ:=(cR (tK (yP (Pm (ot (eV 0 "gates" (bX 0))) (ot (eV 0 "outs" (bX 0))))) (fN 4 (fM (bo (xP (c4 (b8 (eC (.str "in ")) (b8 (lY (ao 1)) (b8 (eC (.str " stands behind a gate or an out")) pM))))) dF))) mL) (cR (tK (yP (zQ false (xP (ao 1)) (eV 0 "names" (bX 0)))) (fN 5 (fM (bo (xP (c4 (b8 (eC (.str "there is an in ")) (b8 (lY (ao 1)) (b8 (eC (.str " ahead")) pM))))) dF))) mL) (cR (tK (yP (Qf Hc (zx (eV 0 "ins" (bX 0))) (xP (eC j_)))) (fN 6 (fM (bo (xP (c4 (b8 (eC (.str "in ")) (b8 (lY (ao 1)) (b8 (eC (.str " is one too many")) pM))))) dF))) mL) (DN (cR (pV (eV 0 "names" (bX 0)) (xP (ao 1)) (xP (eC (.bl true)))) (cR (yT (iP (kc (bf ka (ag (ao 1) (ag (ao 2) aE))))) (JY 3) mv) (nB (eV 0 "ins" (bX 0)) (xP (C_ (ag (ao 1) (ag (ao 2) aE)))))))))))
def cV:List V3->aR->R3 V3:=uO gU kj
def DM:List V3->aR->R3 V3:=zm gU kj
theorem ee(T:Tp P w K mg cl)(h:sx K (cl 0) "add_in" "Draft.add_in" cm)(qf:Callee P w K mg base 1 "in_wires" 2 ka):lh P w K mg base cl 2 0 "add_in" 2 cV:=by
 obtain⟨f,fd,F,hm⟩:=h;exact⟨f,fd,_,T.C_Draft,hm,mj (k:=1) sk.2 nA.2 F nP (fun dJ A outer s H E hr=>(b_ (gR (Mu.pb (El (nX (cz T.C_Draft T.N_Draft_gates (aY 0))) (A7 (nX (cz T.C_Draft T.N_Draft_outs (aY 0)))))) (bZ (cX cW rfl T.X_NoPlace rfl T.M_NoPlace (d4 (aN (aD (cS (bb af (bb (gO (ae 1)) (bb af gg))))) bV)))) el) (b_ (gR (xx (lb hr) (aD (ae 1)) (cz T.C_Draft T.N_Draft_names (aY 0))) (bZ (cX cW rfl T.X_Twice rfl T.M_Twice (d4 (aN (aD (cS (bb af (bb (gO (ae 1)) (bb af gg))))) bV)))) el) (b_ (gR (xE Eh (qJ (cz T.C_Draft T.N_Draft_ins (aY 0)) rfl T.z_len) (aD (gx T.j_ rfl)) (bJ _)) (bZ (cX cW rfl T.X_Full rfl T.M_Full (d4 (aN (aD (cS (bb af (bb (gO (ae 1)) (bb af gg))))) bV)))) el) (qC (bO (oF (lb hr) (aD pI) (cz T.C_Draft T.N_Draft_names (aY 0)) (aD (ae 1))) (bO (FR As rfl (oi (gM (aP qf hr (by decide) rfl (aa (ae 1) (aa (ae 2) ah)) (aA (aA a_))))) (ox nP.nd rfl (Or.inl rfl)) (c6 (oF (lb hr) (qJ (cz T.C_Draft T.N_Draft_numbers (aY 0)) rfl T.z_len) (cz T.C_Draft T.N_Draft_numbers (aY 0)) (aD (ae 3))))) (c6 (Jt (cz T.C_Draft T.N_Draft_ins (aY 0)) (aD (Bq (aa (ae 1) (aa (ae 2) ah))))))))))))),F.binds fun _ _ _ _ _ _ us hl=>match us,hl with | [_,_,_],_=>rfl⟩
abbrev bw:Stmt:=inClass (top 34) 4
noncomputable abbrev cA:List Str:=["self","wires","wire"]
noncomputable def nG:{b:List Stmt // a9 bw=b}:=⟨_,by conv=>lhs;whnf⟩
noncomputable def dP:{b:Scope // aJ bw=b}:=⟨_,by conv=>lhs;whnf⟩
theorem jl:bC cA ["self","wires"] dP.1:=⟨rfl,rfl,rfl,by decide+kernel,rfl,by decide+kernel,by decide+kernel⟩
def gS:FZ:=(tK (yP (zQ true (xP (ao 2)) (eV 0 "numbers" (bX 0)))) (fN 7 (fM (bo (xP (c4 (b8 (eC (.str "there is no wire ")) (b8 (lY (ao 2)) (b8 (eC (.str " ahead")) pM))))) dF))) mL)
def et:FZ:=(cR (yT (QR (iP (kc (ao 1)))) (JY 2) gS) (DN (Cn (xq zV (bo (yc (iP (kc (ao 1))) (JY 0) K7 (Et (eV 0 "numbers" (bX 1)) (xP (ao 0))) ["wire"] [0]) dF)))))
def bB:List V3->aR->R3 V3:=uO cA et
def xS:List V3->aR->R3 V3:=zm cA et
theorem cB(T:Tp P w K mg cl)(h:sx K (cl 0) "wire_numbers" "Draft.wire_numbers" bw):lh P w K mg base cl 1 0 "wire_numbers" 1 bB:=by
 obtain⟨f,fd,F,hm⟩:=h;exact⟨f,fd,_,T.C_Draft,hm,mj (k:=0) nG.2 dP.2 F jl (fun dJ A outer s H E hr=>(b_ (AV As rfl (oi (gM (ae 1))) (ox jl.nd rfl (Or.inl rfl)) (bZ (gR (HZ (lb hr) (aD (ae 2)) (cz T.C_Draft T.N_Draft_numbers (aY 0))) (bZ (cX cW rfl T.X_NoWire rfl T.M_NoWire (d4 (aN (aD (cS (bb af (bb (gO (ae 2)) (bb af gg))))) bV)))) el))) (qC (c6 (wj (B8 HW rfl T.z_tuple PyProof.Rows.boot_tuple (aN (IV rfl (eU.of (own:=["wire"]) (kp:=[0]) (kn:=["self"]) (sc:=dP.1) (N:=cA) rfl rfl (by decide+kernel)) (oi (gM (ae 1))) (fun _ _ _=>(ox (show List.Nodup [(Str.ofString "wire"),"self"] from by decide+kernel) rfl (Or.inl rfl))) (fun _ _ _=>CB) (fun _ _ _=>(Jh (lb hr) (cz T.C_Draft T.N_Draft_numbers (aY 1)) (aD (ae 0)) (fun _ _=>rfl)))) bV))))))),F.binds fun _ _ _ _ _ _ us hl=>match us,hl with | [_,_],_=>rfl⟩
abbrev bQ:Stmt:=inClass (top 34) 2
noncomputable abbrev eQ:List Str:=["self","name","kind","wires","sure"]
noncomputable def qO:{b:List Stmt // a9 bQ=b}:=⟨_,by conv=>lhs;whnf⟩
noncomputable def lj:{b:Scope // aJ bQ=b}:=⟨_,by conv=>lhs;whnf⟩
theorem rD:bC eQ ["self","name","kind","wires","sure"] lj.1:=⟨rfl,rfl,rfl,by decide+kernel,rfl,by decide+kernel,by decide+kernel⟩
def iG:FZ:=(cR (tK (yP (ot (eV 0 "outs" (bX 0)))) (fN 4 (fM (bo (xP (c4 (b8 (eC (.str "gate ")) (b8 (lY (ao 1)) (b8 (eC (.str " stands behind an out")) pM))))) dF))) mL) (cR (tK (yP (zQ false (xP (ao 1)) (eV 0 "names" (bX 0)))) (fN 5 (fM (bo (xP (c4 (b8 (eC (.str "there is an in or a gate ")) (b8 (lY (ao 1)) (b8 (eC (.str " ahead")) pM))))) dF))) mL) (cR (tK (yP (Qf Hc (zx (eV 0 "gates" (bX 0))) (xP (eC gY)))) (fN 6 (fM (bo (xP (c4 (b8 (eC (.str "gate ")) (b8 (lY (ao 1)) (b8 (eC (.str " is one too many")) pM))))) dF))) mL) (cR (nB (u_ (eV 0 "gates" (bX 0))) (zB (bo (u_ (xP (ao 2))) (bo (qE 0 "wire_numbers" bB (u_ (bX 0)) (fM (bo (xP (ao 3)) dF))) (bo (u_ (xP (ao 4))) dF))))) (DN (cR (pV (eV 0 "names" (bX 0)) (xP (ao 1)) (xP (eC (.bl true)))) (pV (eV 0 "numbers" (bX 0)) (xP (ao 1)) (zx (eV 0 "numbers" (bX 0))))))))))
def cE:List V3->aR->R3 V3:=uO eQ iG
def AX:List V3->aR->R3 V3:=zm eQ iG
theorem dh(T:Tp P w K mg cl)(h:sx K (cl 0) "add_gate" "Draft.add_gate" bQ)(bY:lh P w K mg base cl 1 0 "wire_numbers" 1 bB):lh P w K mg base cl 2 0 "add_gate" 4 cE:=by
 obtain⟨f,fd,F,hm⟩:=h;exact⟨f,fd,_,T.C_Draft,hm,mj (k:=1) qO.2 lj.2 F rD (fun dJ A outer s H E hr=>(b_ (gR (nX (cz T.C_Draft T.N_Draft_outs (aY 0))) (bZ (cX cW rfl T.X_NoPlace rfl T.M_NoPlace (d4 (aN (aD (cS (bb af (bb (gO (ae 1)) (bb af gg))))) bV)))) el) (b_ (gR (xx (lb hr) (aD (ae 1)) (cz T.C_Draft T.N_Draft_names (aY 0))) (bZ (cX cW rfl T.X_Twice rfl T.M_Twice (d4 (aN (aD (cS (bb af (bb (gO (ae 1)) (bb af gg))))) bV)))) el) (b_ (gR (xE Eh (qJ (cz T.C_Draft T.N_Draft_gates (aY 0)) rfl T.z_len) (aD (gx T.gY rfl)) (bJ _)) (bZ (cX cW rfl T.X_Full rfl T.M_Full (d4 (aN (aD (cS (bb af (bb (gO (ae 1)) (bb af gg))))) bV)))) el) (b_ (za (cz T.C_Draft T.N_Draft_gates (aY 0)) (Bn (mr (zH (aD (ae 2))) (mr (nO j8 bY hr (by decide) (aY 0) (aN (aD (ae 3)) bV) (cF js)) (mr (zH (aD (ae 4))) yV))))) (qC (bO (oF (lb hr) (aD pI) (cz T.C_Draft T.N_Draft_names (aY 0)) (aD (ae 1))) (c6 (oF (lb hr) (qJ (cz T.C_Draft T.N_Draft_numbers (aY 0)) rfl T.z_len) (cz T.C_Draft T.N_Draft_numbers (aY 0)) (aD (ae 1))))))))))),F.binds fun _ _ _ _ _ _ us hl=>match us,hl with | [_,_,_,_,_],_=>rfl⟩
abbrev b7:Stmt:=inClass (top 34) 3
noncomputable abbrev fG:List Str:=["self","name","wires"]
noncomputable def rh:{b:List Stmt // a9 b7=b}:=⟨_,by conv=>lhs;whnf⟩
noncomputable def mq:{b:Scope // aJ b7=b}:=⟨_,by conv=>lhs;whnf⟩
theorem sE:bC fG ["self","name","wires"] mq.1:=⟨rfl,rfl,rfl,by decide+kernel,rfl,by decide+kernel,by decide+kernel⟩
def jw:FZ:=(cR (tK (yP (zQ false (xP (ao 1)) (eV 0 "out_names" (bX 0)))) (fN 5 (fM (bo (xP (c4 (b8 (eC (.str "there is an out ")) (b8 (lY (ao 1)) (b8 (eC (.str " ahead")) pM))))) dF))) mL) (cR (tK (yP (Qf Hc (zx (eV 0 "outs" (bX 0))) (xP (eC jm)))) (fN 6 (fM (bo (xP (c4 (b8 (eC (.str "out ")) (b8 (lY (ao 1)) (b8 (eC (.str " is one too many")) pM))))) dF))) mL) (cR (nB (u_ (eV 0 "outs" (bX 0))) (zB (bo (u_ (xP (ao 1))) (bo (qE 0 "wire_numbers" bB (u_ (bX 0)) (fM (bo (xP (ao 2)) dF))) dF)))) (DN (pV (eV 0 "out_names" (bX 0)) (xP (ao 1)) (xP (eC (.bl true))))))))
def cK:List V3->aR->R3 V3:=uO fG jw
def B7:List V3->aR->R3 V3:=zm fG jw
theorem dH(T:Tp P w K mg cl)(h:sx K (cl 0) "add_out" "Draft.add_out" b7)(bY:lh P w K mg base cl 1 0 "wire_numbers" 1 bB):lh P w K mg base cl 2 0 "add_out" 2 cK:=by
 obtain⟨f,fd,F,hm⟩:=h;exact⟨f,fd,_,T.C_Draft,hm,mj (k:=1) rh.2 mq.2 F sE (fun dJ A outer s H E hr=>(b_ (gR (xx (lb hr) (aD (ae 1)) (cz T.C_Draft T.N_Draft_out_names (aY 0))) (bZ (cX cW rfl T.X_Twice rfl T.M_Twice (d4 (aN (aD (cS (bb af (bb (gO (ae 1)) (bb af gg))))) bV)))) el) (b_ (gR (xE Eh (qJ (cz T.C_Draft T.N_Draft_outs (aY 0)) rfl T.z_len) (aD (gx T.jm rfl)) (bJ _)) (bZ (cX cW rfl T.X_Full rfl T.M_Full (d4 (aN (aD (cS (bb af (bb (gO (ae 1)) (bb af gg))))) bV)))) el) (b_ (za (cz T.C_Draft T.N_Draft_outs (aY 0)) (Bn (mr (zH (aD (ae 1))) (mr (nO j8 bY hr (by decide) (aY 0) (aN (aD (ae 2)) bV) (cF js)) yV)))) (qC (c6 (oF (lb hr) (aD pI) (cz T.C_Draft T.N_Draft_out_names (aY 0)) (aD (ae 1))))))))),F.binds fun _ _ _ _ _ _ us hl=>match us,hl with | [_,_,_],_=>rfl⟩
abbrev kf:Stmt:=top 35
noncomputable abbrev mW:List Str:=["draft","row","words"]
noncomputable def y9:{b:List Stmt // a9 kf=b}:=⟨_,by conv=>lhs;whnf⟩
noncomputable def r9:{b:Scope // aJ kf=b}:=⟨_,by conv=>lhs;whnf⟩
theorem uh:bC mW ["draft","row"] r9.1:=⟨rfl,rfl,rfl,by decide+kernel,rfl,by decide+kernel,by decide+kernel⟩
def pJ:FZ:=(cR (DN (mJ 2 (xP (v_ "str" pZ (ao 1) (ag (eC (.str " ")) aE))))) (tK (yP (bP (wW (bf gE (ag (ao 2) aE))))) (um (qE 0 "add_in" cV (u_ (bX 0)) (fM (bo (xP (e2 dN (ao 2) (eC (.int 1)))) (bo (xP (xZ oS (e2 dN (ao 2) (eC (.int 2))))) dF))))) (tK (yP (bP (wW (bf eo (ag (ao 2) aE))))) (um (qE 0 "add_gate" cE (u_ (bX 0)) (fM (bo (xP (e2 dN (ao 2) (eC (.int 1)))) (bo (xP (e2 dN (ao 2) (eC (.int 2)))) (bo (xP (yZ (ao 2) (iq (eC (.int 3))) lx)) (bo (xP (e2 qr (e2 dN (ao 2) (eC (.int 0))) (eC (.str "sure")))) dF))))))) (tK (yP (bP (wW (bf fu (ag (ao 2) aE))))) (um (qE 0 "add_out" cK (u_ (bX 0)) (fM (bo (xP (e2 dN (ao 2) (eC (.int 1)))) (bo (xP (yZ (ao 2) (iq (eC (.int 2))) lx)) dF))))) (fN 3 (fM (bo (xP (c4 (b8 (eC (.str "a row of no form: ")) (b8 (JS (ao 1)) pM)))) dF)))))))
def gd:List V3->aR->R3 V3:=uO mW pJ
def Kd:List V3->aR->R3 V3:=zm mW pJ
theorem Ao(T:Tp P w K mg cl)(h:Def K mg "read_row" kf)(nj:Callee P w K mg base 2 "is_in_form" 1 gE)(kZ:Callee P w K mg base 4 "is_gate_form" 1 eo)(lU:Callee P w K mg base 4 "is_out_form" 1 fu)(jQ:lh P w K mg base cl 2 0 "add_in" 2 cV)(g5:lh P w K mg base cl 2 0 "add_gate" 4 cE)(iT:lh P w K mg base cl 2 0 "add_out" 2 cK):fJ P w K mg base cl 5 "read_row" 2 gd:=by
 obtain⟨f,fd,F,hm⟩:=h;exact⟨f,fd,_,mj (k:=4) y9.2 r9.2 F uh (fun dJ A outer s H E hr=>(b_ (zp (en uh.nd rfl (Or.inl rfl) (aD (vJ (ae 1) (aa af ah))))) (bZ (gR (gW (qV (aP nj hr (by decide) rfl (aa (ae 2) ah) (aA a_)))) (bZ (nS (nO j8 jQ hr (by decide) (aY 0) (aN (aD (bp (ae 2) ai (fun _ _=>rfl))) (aN (aD (ye (bp (ae 2) ai (fun _ _=>rfl)) T.gd_WIDTHS rfl (fun _ _=>rfl))) bV)) (cF (cF js))))) (bZ (gR (gW (qV (aP kZ hr (by decide) rfl (aa (ae 2) ah) (aA a_)))) (bZ (nS (nO j8 g5 hr (by decide) (aY 0) (aN (aD (bp (ae 2) ai (fun _ _=>rfl))) (aN (aD (bp (ae 2) ai (fun _ _=>rfl))) (aN (aD (jx (ae 2) (dt ai) eu)) (aN (aD (eP (nH hr.units) (bp (ae 2) ai (fun _ _=>rfl)) af (bJ _))) bV)))) (cF (cF (cF (cF js))))))) (bZ (gR (gW (qV (aP lU hr (by decide) rfl (aa (ae 2) ah) (aA a_)))) (bZ (nS (nO j8 iT hr (by decide) (aY 0) (aN (aD (bp (ae 2) ai (fun _ _=>rfl))) (aN (aD (jx (ae 2) (dt ai) eu)) bV)) (cF (cF js))))) (bZ (cX cW rfl T.X_NoForm rfl T.M_NoForm (d4 (aN (aD (cS (bb af (bb (FI (ae 1)) gg)))) bV)))))))))))),hm,F.kp,F.binds fun _ _ _ _ _ _ us hl=>match us,hl with | [_,_],_=>rfl⟩
abbrev bR:Stmt:=inClass (top 34) 0
noncomputable abbrev eO:List Str:=["self"]
noncomputable def qm:{b:List Stmt // a9 bR=b}:=⟨_,by conv=>lhs;whnf⟩
noncomputable def lz:{b:Scope // aJ bR=b}:=⟨_,by conv=>lhs;whnf⟩
theorem rK:bC eO ["self"] lz.1:=⟨rfl,rfl,rfl,by decide+kernel,rfl,by decide+kernel,by decide+kernel⟩
def iC:FZ:=(cR (wZ 0 "ins" (bX 0) (CQ (bg aE))) (cR (wZ 0 "gates" (bX 0) (CQ (bg aE))) (cR (wZ 0 "outs" (bX 0) (CQ (bg aE))) (cR (wZ 0 "names" (bX 0) yI) (cR (wZ 0 "out_names" (bX 0) yI) (wZ 0 "numbers" (bX 0) yI))))))
def c5:List V3->aR->R3 V3:=uO eO iC
def BI:List V3->aR->R3 V3:=zm eO iC
theorem di(T:Tp P w K mg cl)(h:MC K (cl 0) "__init__" "Draft.__init__" bR):Er P w K mg base cl 1 0 "Draft" 0 c5:=by
 obtain⟨f,fd,F,hm⟩:=h;exact⟨f,fd,_,hm,uc (k:=0) qm.2 lz.2 F rK (fun dJ A outer s H E hr=>(bO (rm T.C_Draft T.N_Draft_ins (aY 0) (xb (ax ah))) (bO (rm T.C_Draft T.N_Draft_gates (aY 0) (xb (ax ah))) (bO (rm T.C_Draft T.N_Draft_outs (aY 0) (xb (ax ah))) (bO (rm T.C_Draft T.N_Draft_names (aY 0) xl) (bO (rm T.C_Draft T.N_Draft_out_names (aY 0) xl) (c6 (rm T.C_Draft T.N_Draft_numbers (aY 0) xl)))))))),T.M_Draft,F.binds fun _ _ _ _ _ _ us hl=>match us,hl with | [_],_=>rfl⟩
abbrev ub:Stmt:=top 36
noncomputable abbrev ur:List Str:=["text","rows","draft","row"]
noncomputable def JF:{b:List Stmt // a9 ub=b}:=⟨_,by conv=>lhs;whnf⟩
noncomputable def AH:{b:Scope // aJ ub=b}:=⟨_,by conv=>lhs;whnf⟩
theorem xu:bC ur ["text"] AH.1:=⟨rfl,rfl,rfl,by decide+kernel,rfl,by decide+kernel,by decide+kernel⟩
def qp:FZ:=(um (ui gd (fM (bo (bX 2) (bo (xP (ao 3)) dF)))))
def xf:FZ:=(cR (DN (mJ 1 (xP (v_ "str" pZ (ao 0) (ag (eC (.str "\n")) aE))))) (cR (tK (yP (bP (b2 M4 (bf o7 (ag (ao 1) aE)) (eC jo)))) (fN 2 (fM (bo (xP (eC (.str "a text of too many rows"))) dF))) mL) (cR (DN (mJ 2 (EA 0 c5 dF))) (cR (yT (QR (iP (kc (ao 1)))) (JY 3) qp) (cR (tK (yP (Pm (GG (ot (eV 0 "ins" (bX 2)))) (GG (ot (eV 0 "outs" (bX 2)))))) (fN 8 (fM (bo (xP (eC (.str "a net without an in, or without an out"))) dF))) mL) (DN (Cn (zB (bo (eV 0 "ins" (bX 2)) (bo (eV 0 "gates" (bX 2)) (bo (eV 0 "outs" (bX 2)) dF)))))))))))
def jg:List V3->aR->R3 V3:=uO ur xf
def QK:List V3->aR->R3 V3:=zm ur xf
theorem Le(T:Tp P w K mg cl)(h:Def K mg "read" ub)(hX:Er P w K mg base cl 1 0 "Draft" 0 c5)(oJ:fJ P w K mg base cl 5 "read_row" 2 gd):fJ P w K mg base cl 6 "read" 1 jg:=by
 obtain⟨f,fd,F,hm⟩:=h;exact⟨f,fd,_,mj (k:=5) JF.2 AH.2 F xu (fun dJ A outer s H E hr=>(b_ (zp (en xu.nd rfl (Or.inl rfl) (aD (vJ (ae 0) (aa af ah))))) (b_ (gR (gW (bE JC (cL oq rfl T.z_len PySem.boot_len (aa (ae 1) ah)) (gx T.jo rfl) (bJ _))) (bZ (cX cW rfl T.X_TooLong rfl T.M_TooLong (d4 (aN (aD af) bV)))) el) (b_ (zp (en xu.nd rfl (Or.inl rfl) (Ff hX hr (by decide) rfl))) (b_ (AV As rfl (oi (gM (ae 1))) (ox xu.nd rfl (Or.inl rfl)) (bZ (nS (yq j8 oJ hr (by decide) rfl (d4 (aN (aY 2) (aN (aD (ae 3)) bV))) (BS (cF (cF js))))))) (b_ (gR (Mu.pb (El (BX (nX (cz T.C_Draft T.N_Draft_ins (aY 2)))) (A7 (BX (nX (cz T.C_Draft T.N_Draft_outs (aY 2))))))) (bZ (cX cW rfl T.X_Open rfl T.M_Open (d4 (aN (aD af) bV)))) el) (qC (c6 (wj (Lg (aN (cz T.C_Draft T.N_Draft_ins (aY 2)) (aN (cz T.C_Draft T.N_Draft_gates (aY 2)) (aN (cz T.C_Draft T.N_Draft_outs (aY 2)) bV))))))))))))),hm,F.kp,F.binds fun _ _ _ _ _ _ us hl=>match us,hl with | [_],_=>rfl⟩
abbrev fm:Stmt:=top 38
noncomputable abbrev pd:List Str:=["script","k"]
noncomputable def ux:{b:List Stmt // a9 fm=b}:=⟨_,by conv=>lhs;whnf⟩
noncomputable def oz:{b:Scope // aJ fm=b}:=⟨_,by conv=>lhs;whnf⟩
theorem uT:bC pd ["script","k"] oz.1:=⟨rfl,rfl,rfl,by decide+kernel,rfl,by decide+kernel,by decide+kernel⟩
def pq:FS:=(br (tZ (b2 DJ (ao 1) (bf o7 (ag (ao 0) aE))) (d_ (e2 dN (ao 0) (ao 1))) mO) (d_ (eC (.int 0))))
def ji:List D->R D:=va pd pq
theorem ve(T:Tp P w K mg cl)(h:Def K mg "_law_cell_at" fm):Callee P w K mg base 1 "_law_cell_at" 2 ji:=by
 obtain⟨f,fd,F,hm⟩:=h;exact⟨f,fd,_,cu (k:=0) ux.2 oz.2 F uT (fun dJ A outer s H E hr=>(aq (df (bE zY (ae 1) (cL oq rfl T.z_len PySem.boot_len (aa (ae 0) ah)) (bJ _)) (aU (bq (bp (ae 0) (ae 1) (fun _ _=>rfl)))) cH) (aU (bq ai)))),hm,F.kp,F.binds fun _ _ _ _ _ _ us hl=>match us,hl with | [_,_],_=>rfl⟩
abbrev ki:Stmt:=top 39
noncomputable abbrev mM:List Str:=["cell","k","number"]
noncomputable def yN:{b:List Stmt // a9 ki=b}:=⟨_,by conv=>lhs;whnf⟩
noncomputable def r_:{b:Scope // aJ ki=b}:=⟨_,by conv=>lhs;whnf⟩
theorem pY:bC mM ["cell","k"] r_.1:=⟨rfl,rfl,rfl,by decide+kernel,rfl,by decide+kernel,by decide+kernel⟩
def uy:FS:=(br (tZ (b2 Hc (ao 0) (e2 Dn (eC (.int 10)) (eC (.int 18)))) (d_ (e2 dv (e2 Pa (e2 OK (ao 0) (e2 Dn (eC (.int 10)) (eC (.int 18)))) (e2 mB (eC (.int 28)) (ao 1))) (e2 Dn (eC (.int 2)) (eC (.int 28))))) mO) (br (b9 2 (e2 dv (e2 mB (e2 bD (e2 bD (ao 0) (e2 mB (eC (.int 1013)) (ao 1))) (eC (.int 1))) (eC (.int 16807))) (eC (.int 2147483647)))) (br (b9 2 (e2 dv (e2 mB (ao 2) (ao 2)) (eC (.int 2147483629)))) (d_ (e2 gI (e2 dv (e2 mB (ao 2) (eC (.int 39373))) (eC (.int 2147483587))) (eC (.int 8)))))))
def aT:List D->R D:=va mM uy
theorem zU(T:Tp P w K mg cl)(h:Def K mg "_law_stir" ki):Callee P w K mg base 1 "_law_stir" 2 aT:=by
 obtain⟨f,fd,F,hm⟩:=h;exact⟨f,fd,_,cu (k:=0) yN.2 r_.2 F pY (fun dJ A outer s H E hr=>(aq (df (bE Eh (ae 0) (au EV ai ai) (bJ _)) (aU (bq (au cZ (au Oa (au Ow (ae 0) (au EV ai ai)) (au qD ai (ae 1))) (au EV ai ai)))) cH) (aq (aF pY.nd rfl (Or.inl rfl) (au cZ (au qD (au aV (au aV (ae 0) (au qD ai (ae 1))) ai) ai) ai)) (aq (aF pY.nd rfl (Or.inl rfl) (au cZ (au qD (ae 2) (ae 2)) ai)) (aU (bq (au kC (au cZ (au qD (ae 2) ai) ai) ai))))))),hm,F.kp,F.binds fun _ _ _ _ _ _ us hl=>match us,hl with | [_,_],_=>rfl⟩
abbrev l6:Stmt:=top 40
noncomputable abbrev rJ:List Str:=["cell","some","barred","word"]
noncomputable def zA:{b:List Stmt // a9 l6=b}:=⟨_,by conv=>lhs;whnf⟩
noncomputable def tE:{b:Scope // aJ l6=b}:=⟨_,by conv=>lhs;whnf⟩
theorem bu:bC rJ ["cell"] tE.1:=⟨rfl,rfl,rfl,by decide+kernel,rfl,by decide+kernel,by decide+kernel⟩
def vz:FS:=(br (b9 1 (eNew (bg (ag (eC (.str "")) (ag (eC (.str " ")) (ag (eC (.str "in")) (ag (eC (.str "in a")) (ag (eC (.str "in a 0")) (ag (eC (.str "in a 4")) (ag (eC (.str "in a 01")) (ag (eC (.str "in a x")) (ag (eC (.str "in a 1 1")) (ag (eC (.str "in A 1")) (ag (eC (.str "in a1 1")) aE)))))))))))))) (br (b9 1 (e2 bD (ao 1) (eNew (bg (ag (eC (.str "in abcdefghi 1")) (ag (eC (.str "in  a 1")) (ag (eC (.str "in a 1 ")) (ag (eC (.str " in a 1")) (ag (eC (.str "In a 1")) (ag (eC (.str "ins a 1")) (ag (eC (.str "in 1 a")) aE))))))))))) (br (b9 1 (e2 bD (ao 1) (eNew (bg (ag (eC (.str "in gate 1")) (ag (eC (.str "in in 1")) (ag (eC (.str "in a -1")) (ag (eC (.str "in a 1.")) (ag (eC (.str "in a 11")) (ag (eC (.str "in :a 1")) (ag (eC (.str "in a:0 1")) (ag (eC (.str "gate")) aE)))))))))))) (br (b9 1 (e2 bD (ao 1) (eNew (bg (ag (eC (.str "gate a")) (ag (eC (.str "gate a not")) (ag (eC (.str "gate a and")) (ag (eC (.str "gate a not b c")) (ag (eC (.str "gate a and b")) (ag (eC (.str "gate a and b c d")) aE)))))))))) (br (b9 1 (e2 bD (ao 1) (eNew (bg (ag (eC (.str "gate a or b")) (ag (eC (.str "gate a xor b c d")) (ag (eC (.str "gate a vote b c")) (ag (eC (.str "gate a vote b c d e")) aE)))))))) (br (b9 1 (e2 bD (ao 1) (eNew (bg (ag (eC (.str "gate a nand b c")) (ag (eC (.str "gate a NOT b")) (ag (eC (.str "gate A not b")) (ag (eC (.str "gate a1 not b")) (ag (eC (.str "gate not not b")) aE))))))))) (br (b9 1 (e2 bD (ao 1) (eNew (bg (ag (eC (.str "gate a not B")) (ag (eC (.str "gate a not 1")) (ag (eC (.str "gate a not b:")) (ag (eC (.str "gate a not b:00")) (ag (eC (.str "gate a not b:x")) aE))))))))) (br (b9 1 (e2 bD (ao 1) (eNew (bg (ag (eC (.str "gate a not :0")) (ag (eC (.str "gate a not b:0:0")) (ag (eC (.str "gate a not b;0")) (ag (eC (.str "gate a and b, c")) (ag (eC (.str "gate a  not b")) aE))))))))) (br (b9 1 (e2 bD (ao 1) (eNew (bg (ag (eC (.str "gate a not  b")) (ag (eC (.str "gate a not b ")) (ag (eC (.str " gate a not b")) (ag (eC (.str "Gate a not b")) (ag (eC (.str "gates a not b")) aE))))))))) (br (b9 1 (e2 bD (ao 1) (eNew (bg (ag (eC (.str "gate abcdefghi not b")) (ag (eC (.str "gate a not abcdefghi")) (ag (eC (.str "gate vote vote b c d")) (ag (eC (.str "gate a in b")) aE)))))))) (br (b9 1 (e2 bD (ao 1) (eNew (bg (ag (eC (.str "gate a not not")) (ag (eC (.str "gate a and b or")) (ag (eC (.str "gate a not b:-1")) (ag (eC (.str "gate a not -b")) (ag (eC (.str "gate a not(b)")) aE))))))))) (br (b9 1 (e2 bD (ao 1) (eNew (bg (ag (eC (.str "gate a = not b")) (ag (eC (.str "sure")) (ag (eC (.str "sure a")) (ag (eC (.str "sure a not")) (ag (eC (.str "sure a not b c")) (ag (eC (.str "sure a or b")) aE)))))))))) (br (b9 1 (e2 bD (ao 1) (eNew (bg (ag (eC (.str "sure A or b c")) (ag (eC (.str "sure a nor b c")) (ag (eC (.str "Sure a not b")) (ag (eC (.str "sures a not b")) (ag (eC (.str "sure  a not b")) aE))))))))) (br (b9 1 (e2 bD (ao 1) (eNew (bg (ag (eC (.str "sure a vote b c")) (ag (eC (.str "sure sure not b")) (ag (eC (.str "sure a not b:a")) (ag (eC (.str "out")) (ag (eC (.str "out a")) (ag (eC (.str "out a b c d e")) aE)))))))))) (br (b9 1 (e2 bD (ao 1) (eNew (bg (ag (eC (.str "out A b")) (ag (eC (.str "out a B")) (ag (eC (.str "out a 1")) (ag (eC (.str "out a b:")) (ag (eC (.str "out a b:10")) (ag (eC (.str "out a  b")) (ag (eC (.str "out a b ")) aE))))))))))) (br (b9 1 (e2 bD (ao 1) (eNew (bg (ag (eC (.str " out a b")) (ag (eC (.str "Out a b")) (ag (eC (.str "outs a b")) (ag (eC (.str "out out b")) (ag (eC (.str "out a out")) (ag (eC (.str "out 1 b")) (ag (eC (.str "out abcdefghi b")) aE))))))))))) (br (b9 1 (e2 bD (ao 1) (eNew (bg (ag (eC (.str "out a b,c")) (ag (eC (.str "out a b: 0")) (ag (eC (.str "not a b")) (ag (eC (.str "and a b c")) (ag (eC (.str "a")) (ag (eC (.str "1")) (ag (eC (.str "wire a b")) (ag (eC (.str "gate: a not b")) aE)))))))))))) (br (b9 1 (e2 bD (ao 1) (eNew (bg (ag (eC (.str "# in a 1")) (ag (eC (.str "end")) (ag (eC (.str "vote a b c")) aE))))))) (br (b9 2 (eNew (bg (ag (eC (.str "in")) (ag (eC (.str "gate")) (ag (eC (.str "sure")) (ag (eC (.str "out")) (ag (eC (.str "not")) (ag (eC (.str "and")) (ag (eC (.str "or")) (ag (eC (.str "xor")) (ag (eC (.str "vote")) aE)))))))))))) (br (b9 3 (e2 dN (ao 2) (e2 dv (bf aT (ag (ao 0) (ag (eC (.int 75)) aE))) (eC (.int 9))))) (br (b9 1 (e2 bD (ao 1) (eNew (bg (ag (e2 bD (e2 bD (eC (.str "in ")) (ao 3)) (eC (.str " 2"))) (ag (e2 bD (e2 bD (eC (.str "gate ")) (ao 3)) (eC (.str " not b"))) (ag (e2 bD (eC (.str "sure q not ")) (ao 3)) aE))))))) (br (b9 1 (e2 bD (ao 1) (eNew (bg (ag (e2 bD (e2 bD (eC (.str "out ")) (ao 3)) (eC (.str " b"))) (ag (e2 bD (eC (.str "out q ")) (ao 3)) (ag (e2 bD (eC (.str "in a ")) (e2 mB (eC (.str "1")) (eC (.int 5000)))) (ag (e2 bD (eC (.str "gate a not b:")) (e2 mB (eC (.str "1")) (eC (.int 5000)))) aE)))))))) (br (b9 1 (e2 bD (ao 1) (eNew (bg (ag (e2 bD (eC (.str "out a b:")) (e2 mB (eC (.str "0")) (eC (.int 4301)))) (ag (e2 bD (e2 bD (eC (.str "in ")) (e2 mB (eC (.str "a")) (eC (.int 5000)))) (eC (.str " 1"))) (ag (eC (.str "in a 12")) (ag (eC (.str "in a 23")) (ag (eC (.str "in a 123")) (ag (eC (.str "in a ")) aE)))))))))) (br (b9 1 (e2 bD (ao 1) (eNew (bg (ag (eC (.str "gate a or b c d")) (ag (eC (.str "sure a or b c d")) (ag (eC (.str "sure a vote b c d e")) (ag (eC (.str "gate a not b:01")) (ag (eC (.str "out a b:12")) aE))))))))) (d_ (e2 dN (ao 1) (e2 dv (bf aT (ag (ao 0) (ag (eC (.int 70)) aE))) (bf o7 (ag (ao 1) aE)))))))))))))))))))))))))))))
def ma:List D->R D:=va rJ vz
theorem Cq(T:Tp P w K mg cl)(h:Def K mg "_law_bad" l6)(bz:Callee P w K mg base 1 "_law_stir" 2 aT):Callee P w K mg base 2 "_law_bad" 1 ma:=by
 obtain⟨f,fd,F,hm⟩:=h;exact⟨f,fd,_,cu (k:=1) zA.2 tE.2 F bu (fun dJ A outer s H E hr=>(aq (aF bu.nd rfl (Or.inl rfl) (ay (ax (aa af (aa af (aa af (aa af (aa af (aa af (aa af (aa af (aa af (aa af (aa af ah)))))))))))))) (aq (aF bu.nd rfl (Or.inl rfl) (au aV (ae 1) (ay (ax (aa af (aa af (aa af (aa af (aa af (aa af (aa af ah))))))))))) (aq (aF bu.nd rfl (Or.inl rfl) (au aV (ae 1) (ay (ax (aa af (aa af (aa af (aa af (aa af (aa af (aa af (aa af ah)))))))))))) (aq (aF bu.nd rfl (Or.inl rfl) (au aV (ae 1) (ay (ax (aa af (aa af (aa af (aa af (aa af (aa af ah)))))))))) (aq (aF bu.nd rfl (Or.inl rfl) (au aV (ae 1) (ay (ax (aa af (aa af (aa af (aa af ah)))))))) (aq (aF bu.nd rfl (Or.inl rfl) (au aV (ae 1) (ay (ax (aa af (aa af (aa af (aa af (aa af ah))))))))) (aq (aF bu.nd rfl (Or.inl rfl) (au aV (ae 1) (ay (ax (aa af (aa af (aa af (aa af (aa af ah))))))))) (aq (aF bu.nd rfl (Or.inl rfl) (au aV (ae 1) (ay (ax (aa af (aa af (aa af (aa af (aa af ah))))))))) (aq (aF bu.nd rfl (Or.inl rfl) (au aV (ae 1) (ay (ax (aa af (aa af (aa af (aa af (aa af ah))))))))) (aq (aF bu.nd rfl (Or.inl rfl) (au aV (ae 1) (ay (ax (aa af (aa af (aa af (aa af ah)))))))) (aq (aF bu.nd rfl (Or.inl rfl) (au aV (ae 1) (ay (ax (aa af (aa af (aa af (aa af (aa af ah))))))))) (aq (aF bu.nd rfl (Or.inl rfl) (au aV (ae 1) (ay (ax (aa af (aa af (aa af (aa af (aa af (aa af ah)))))))))) (aq (aF bu.nd rfl (Or.inl rfl) (au aV (ae 1) (ay (ax (aa af (aa af (aa af (aa af (aa af ah))))))))) (aq (aF bu.nd rfl (Or.inl rfl) (au aV (ae 1) (ay (ax (aa af (aa af (aa af (aa af (aa af (aa af ah)))))))))) (aq (aF bu.nd rfl (Or.inl rfl) (au aV (ae 1) (ay (ax (aa af (aa af (aa af (aa af (aa af (aa af (aa af ah))))))))))) (aq (aF bu.nd rfl (Or.inl rfl) (au aV (ae 1) (ay (ax (aa af (aa af (aa af (aa af (aa af (aa af (aa af ah))))))))))) (aq (aF bu.nd rfl (Or.inl rfl) (au aV (ae 1) (ay (ax (aa af (aa af (aa af (aa af (aa af (aa af (aa af (aa af ah)))))))))))) (aq (aF bu.nd rfl (Or.inl rfl) (au aV (ae 1) (ay (ax (aa af (aa af (aa af ah))))))) (aq (aF bu.nd rfl (Or.inl rfl) (ay (ax (aa af (aa af (aa af (aa af (aa af (aa af (aa af (aa af (aa af ah)))))))))))) (aq (aF bu.nd rfl (Or.inl rfl) (bp (ae 2) (au cZ (aP bz hr (by decide) rfl (aa (ae 0) (aa ai ah)) (aA (aA a_))) ai) (fun _ _=>rfl))) (aq (aF bu.nd rfl (Or.inl rfl) (au aV (ae 1) (ay (ax (aa (au aV (au aV af (ae 3)) af) (aa (au aV (au aV af (ae 3)) af) (aa (au aV af (ae 3)) ah))))))) (aq (aF bu.nd rfl (Or.inl rfl) (au aV (ae 1) (ay (ax (aa (au aV (au aV af (ae 3)) af) (aa (au aV af (ae 3)) (aa (au aV af (au qD af ai)) (aa (au aV af (au qD af ai)) ah)))))))) (aq (aF bu.nd rfl (Or.inl rfl) (au aV (ae 1) (ay (ax (aa (au aV af (au qD af ai)) (aa (au aV (au aV af (au qD af ai)) af) (aa af (aa af (aa af (aa af ah)))))))))) (aq (aF bu.nd rfl (Or.inl rfl) (au aV (ae 1) (ay (ax (aa af (aa af (aa af (aa af (aa af ah))))))))) (aU (bq (bp (ae 1) (au cZ (aP bz hr (by decide) rfl (aa (ae 0) (aa ai ah)) (aA (aA a_))) (cL oq rfl T.z_len PySem.boot_len (aa (ae 1) ah))) (fun _ _=>rfl))))))))))))))))))))))))))))),hm,F.kp,F.binds fun _ _ _ _ _ _ us hl=>match us,hl with | [_],_=>rfl⟩
abbrev fD:Stmt:=top 41
noncomputable abbrev jh:List Str:=["cell","number","far","some","name","kind","width","wires","k","wire","word","first"]
noncomputable def t9:{b:List Stmt // a9 fD=b}:=⟨_,by conv=>lhs;whnf⟩
noncomputable def oa:{b:Scope // aJ fD=b}:=⟨_,by conv=>lhs;whnf⟩
theorem bx:bC jh ["cell"] oa.1:=⟨rfl,rfl,rfl,by decide+kernel,rfl,by decide+kernel,by decide+kernel⟩
def fH:FS:=(br (b9 2 (bf aT (ag (ao 0) (ag (e2 bD (eC (.int 82)) (ao 8)) aE)))) (br (b9 9 (e2 bD (e2 dN (ao 3) (e2 dv (ao 2) (eC (.int 8)))) (e2 dN (eNew (bg (ag (eC (.str "")) (ag (eC (.str "")) (ag (eC (.str ":0")) (ag (eC (.str ":1")) (ag (eC (.str ":2")) (ag (eC (.str ":7")) aE)))))))) (e2 dv (e2 gI (ao 2) (eC (.int 8))) (eC (.int 6)))))) (wV 7 (e2 dN (eNew (bg (ag (ao 9) (ag (e2 dN (eNew (bg (ag (eC (.str "a")) (ag (eC (.str "ab")) (ag (eC (.str "b:1")) (ag (eC (.str "a:0")) aE)))))) (e2 dv (e2 gI (ao 2) (eC (.int 64))) (eC (.int 4)))) aE)))) (e2 dv (e2 gI (ao 2) (eC (.int 256))) (eC (.int 2)))))))
def pA:FS:=(br (b9 1 (bf aT (ag (ao 0) (ag (eC (.int 80)) aE)))) (br (b9 2 (bf aT (ag (ao 0) (ag (eC (.int 81)) aE)))) (br (b9 3 (eNew (bg (ag (eC (.str "a")) (ag (eC (.str "ab")) (ag (eC (.str "b")) (ag (eC (.str "c")) (ag (eC (.str "q")) (ag (eC (.str "r")) (ag (eC (.str "s")) (ag (eC (.str "t")) aE))))))))))) (br (b9 4 (e2 dN (eNew (bg (ag (e2 dN (ao 3) (e2 dv (ao 2) (eC (.int 8)))) (ag (e2 bD (eC (.str "ab")) (e2 dN (eC (.str "abcdefghijklmnopqrstuvwxyz")) (e2 dv (e2 gI (ao 2) (eC (.int 8))) (eC (.int 26))))) aE)))) (e2 dv (e2 gI (ao 1) (eC (.int 8))) (eC (.int 2))))) (br (b9 5 (e2 dv (ao 1) (eC (.int 8)))) (br (tZ (b2 DJ (ao 5) (eC (.int 2))) (br (b9 6 (e2 bD (eC (.int 1)) (e2 dv (e2 gI (ao 1) (eC (.int 16))) (eC (.int 3))))) (d_ (eNew (bg (ag (v_ "str" nv (eC (.str " ")) (ag (eNew (bg (ag (eC (.str "in")) (ag (ao 4) (ag (bf cStr (ag (ao 6) aE)) aE))))) aE)) (ag (eC (.str "in")) (ag (ao 4) (ag (ao 6) (ag (eNew (bg aE)) aE))))))))) mO) (br (yO 7 (bg aE)) (br (vi (j9 (eC (.int 3))) (bA 8) fH) (wR 7 (br (tZ (b2 DJ (ao 5) (eC (.int 6))) (br (b9 10 (e2 dN (eNew (bg (ag (eC (.str "not")) (ag (eC (.str "and")) (ag (eC (.str "or")) (ag (eC (.str "xor")) (ag (eC (.str "vote")) aE))))))) (e2 dv (e2 gI (ao 1) (eC (.int 16))) (eC (.int 5))))) (br (b9 7 (yZ (ao 7) lx (iq (Fv [((Sum.inr "not":Key),V.int 1),((Sum.inr "vote":Key),V.int 3)] (ao 10) (eC (.int 2)))))) (br (b9 11 (e2 dN (eNew (bg (ag (eC (.str "gate")) (ag (eC (.str "sure")) aE)))) (e2 dv (e2 gI (ao 1) (eC (.int 80))) (eC (.int 2))))) (d_ (eNew (bg (ag (v_ "str" nv (eC (.str " ")) (ag (e2 bD (eNew (bg (ag (ao 11) (ag (ao 4) (ag (ao 10) aE))))) (ao 7)) aE)) (ag (eC (.str "gate")) (ag (ao 4) (ag (eC (.int 0)) (ag (ao 7) aE))))))))))) mO) (br (b9 7 (yZ (ao 7) lx (iq (e2 bD (eC (.int 1)) (e2 dv (e2 gI (ao 1) (eC (.int 16))) (eC (.int 3))))))) (d_ (eNew (bg (ag (v_ "str" nv (eC (.str " ")) (ag (e2 bD (eNew (bg (ag (eC (.str "out")) (ag (ao 4) aE)))) (ao 7)) aE)) (ag (eC (.str "out")) (ag (ao 4) (ag (eC (.int 0)) (ag (ao 7) aE)))))))))))))))))))
def ft:List D->R D:=va jh pA
theorem uR(T:Tp P w K mg cl)(h:Def K mg "_law_any_row" fD)(bz:Callee P w K mg base 1 "_law_stir" 2 aT):Callee P w K mg base 2 "_law_any_row" 1 ft:=by
 obtain⟨f,fd,F,hm⟩:=h;exact⟨f,fd,_,cu (k:=1) t9.2 oa.2 F bx (fun dJ A outer s H E hr=>(aq (aF bx.nd rfl (Or.inl rfl) (aP bz hr (by decide) rfl (aa (ae 0) (aa ai ah)) (aA (aA a_)))) (aq (aF bx.nd rfl (Or.inl rfl) (aP bz hr (by decide) rfl (aa (ae 0) (aa ai ah)) (aA (aA a_)))) (aq (aF bx.nd rfl (Or.inl rfl) (ay (ax (aa af (aa af (aa af (aa af (aa af (aa af (aa af (aa af ah))))))))))) (aq (aF bx.nd rfl (Or.inl rfl) (bp (ay (ax (aa (bp (ae 3) (au cZ (ae 2) ai) (fun _ _=>rfl)) (aa (au aV af (bp af (au cZ (au kC (ae 2) ai) ai) (fun _ _=>rfl))) ah)))) (au cZ (au kC (ae 1) ai) ai) (fun _ _=>rfl))) (aq (aF bx.nd rfl (Or.inl rfl) (au cZ (ae 1) ai)) (aq (df (bE zY (ae 5) ai (bJ _)) (aq (aF bx.nd rfl (Or.inl rfl) (au aV ai (au cZ (au kC (ae 1) ai) ai))) (aU (bq (ay (ax (aa (qx af (aa (ay (ax (aa af (aa (ae 4) (aa (mX Ob rfl T.z_str PyProof.Rows.boot_str (aa (ae 6) ah)) ah))))) ah)) (aa af (aa (ae 4) (aa (ae 6) (aa (ay (ax ah)) ah)))))))))) cH) (aq (t8 bx.nd rfl (Or.inl rfl) (ax ah)) (aq (oj PassesOwn.never rfl (gf ai rfl T.z_range) (aZ bx.nd rfl (Or.inl rfl)) (aq (aF bx.nd rfl (Or.inl rfl) (aP bz hr (by decide) rfl (aa (ae 0) (aa (au aV ai (ae 8)) ah)) (aA (aA a_)))) (aq (aF bx.nd rfl (Or.inl rfl) (au aV (bp (ae 3) (au cZ (ae 2) ai) (fun _ _=>rfl)) (bp (ay (ax (aa af (aa af (aa af (aa af (aa af (aa af ah)))))))) (au cZ (au kC (ae 2) ai) ai) (fun _ _=>rfl)))) (aU (nT rfl (Or.inl rfl) (bp (ay (ax (aa (ae 9) (aa (bp (ay (ax (aa af (aa af (aa af (aa af ah)))))) (au cZ (au kC (ae 2) ai) ai) (fun _ _=>rfl)) ah)))) (au cZ (au kC (ae 2) ai) ai) (fun _ _=>rfl))))))) (tq 7 (aq (df (bE zY (ae 5) ai (bJ _)) (aq (aF bx.nd rfl (Or.inl rfl) (bp (ay (ax (aa af (aa af (aa af (aa af (aa af ah))))))) (au cZ (au kC (ae 1) ai) ai) (fun _ _=>rfl))) (aq (aF bx.nd rfl (Or.inl rfl) (jx (ae 7) eu (dt (IC (lb hr) (ko nY n8 (ko nY n8 xt)) rfl rfl (by simp) (fun _ _ _ h=>h) (by decide) (ae 10) ai ⟨rfl,rfl,rfl,rfl⟩ (Bj (ko nY n8 (ko nY n8 xt)) rfl rfl (by simp) (by decide)))))) (aq (aF bx.nd rfl (Or.inl rfl) (bp (ay (ax (aa af (aa af ah)))) (au cZ (au kC (ae 1) ai) ai) (fun _ _=>rfl))) (aU (bq (ay (ax (aa (qx af (aa (au aV (ay (ax (aa (ae 11) (aa (ae 4) (aa (ae 10) ah))))) (ae 7)) ah)) (aa af (aa (ae 4) (aa ai (aa (ae 7) ah)))))))))))) cH) (aq (aF bx.nd rfl (Or.inl rfl) (jx (ae 7) eu (dt (au aV ai (au cZ (au kC (ae 1) ai) ai))))) (aU (bq (ay (ax (aa (qx af (aa (au aV (ay (ax (aa af (aa (ae 4) ah)))) (ae 7)) ah)) (aa af (aa (ae 4) (aa ai (aa (ae 7) ah))))))))))))))))))))),hm,F.kp,F.binds fun _ _ _ _ _ _ us hl=>match us,hl with | [_],_=>rfl⟩
abbrev my:Stmt:=top 42
noncomputable abbrev rf:List Str:=["row","state","text","word","name","width","wires","words","names","outs","known"]
noncomputable def z_:{b:List Stmt // a9 my=b}:=⟨_,by conv=>lhs;whnf⟩
noncomputable def pK:{b:Scope // aJ my=b}:=⟨_,by conv=>lhs;whnf⟩
theorem dO:bC rf ["row","state"] pK.1:=⟨rfl,rfl,rfl,by decide+kernel,rfl,by decide+kernel,by decide+kernel⟩
def vM:FS:=(br (Cj (ao 0) (yR 5 (dj (bA 2) (dj (bA 3) (dj (bA 4) (dj (bA 5) (dj (bA 6) vp))))))) (br (Cj (ao 1) (yR 4 (dj (bA 7) (dj (bA 8) (dj (bA 9) (dj (bA 10) vp)))))) (br (tZ (Bv (vd (b2 qr (ao 3) (eC (.str "in"))) (Bv (b2 zF (eC (.str "gate")) (ao 7)) (b2 zF (eC (.str "out")) (ao 7)))) (vd (b2 qr (ao 3) (eC (.str "gate"))) (b2 zF (eC (.str "out")) (ao 7)))) (d_ (eC (.int 2))) mO) (br (tZ (Bv (vd (b2 qr (ao 3) (eC (.str "out"))) (b2 zF (ao 4) (ao 9))) (vd (b2 HQ (ao 3) (eC (.str "out"))) (b2 zF (ao 4) (ao 8)))) (d_ (eC (.int 3))) mO) (br (tZ (b2 qr (v_ "list" qH (ao 7) (ag (ao 3) aE)) (e2 Ge (eC (CI [("in",6),("gate",60),("out",6)])) (ao 3))) (d_ (eC (.int 4))) mO) (d_ (e2 dN (eNew (bg (ag (K6 (eC (.int 1))) (ag (eC (.int 5)) aE)))) (bf vP (ag (e2 HQ (eNew (ny (kc (ao 6)) (bA 0) (b2 mZ (ao 0) (ao 1)) (ao 0) ["wire"] [10])) (eNew (bg aE))) aE)))))))))
def j7:List D->R D:=va rf vM
theorem Dx(T:Tp P w K mg cl)(h:Def K mg "_law_due" my):Callee P w K mg base 1 "_law_due" 2 j7:=by
 obtain⟨f,fd,F,hm⟩:=h;exact⟨f,fd,_,cu (k:=0) z_.2 pK.2 F dO (fun dJ A outer s H E hr=>(aq (qI (ae 0) (qy rfl (bL (aZ dO.nd rfl (Or.inl rfl)) (bL (aZ dO.nd rfl (Or.inl rfl)) (bL (aZ dO.nd rfl (Or.inl rfl)) (bL (aZ dO.nd rfl (Or.inl rfl)) (bL (aZ dO.nd rfl (Or.inl rfl)) oZ))))))) (aq (qI (ae 1) (qy rfl (bL (aZ dO.nd rfl (Or.inl rfl)) (bL (aZ dO.nd rfl (Or.inl rfl)) (bL (aZ dO.nd rfl (Or.inl rfl)) (bL (aZ dO.nd rfl (Or.inr rfl)) oZ)))))) (aq (df (gG (j6 (gG (ql (bE (nH hr.units) (ae 3) af (bJ _)) (oY (gG (j6 (bE y4 af (ae 7) (by with_unfolding_all rfl)) (kA (bE y4 af (ae 7) (by with_unfolding_all rfl)))))))) (kA (gG (ql (bE (nH hr.units) (ae 3) af (bJ _)) (oY (bE y4 af (ae 7) (by with_unfolding_all rfl)))))))) (aU (bq ai)) cH) (aq (df (gG (j6 (gG (ql (bE (nH hr.units) (ae 3) af (bJ _)) (oY (bE y4 (ae 4) (ae 9) (by with_unfolding_all rfl))))) (kA (gG (ql (bE (MF hr.units) (ae 3) af (bJ _)) (oY (bE y4 (ae 4) (ae 8) (by with_unfolding_all rfl)))))))) (aU (bq ai)) cH) (aq (df (bE (nH hr.units) (zE (ae 7) (aa (ae 3) ah)) (ED (lb hr) (CT [("in",6),("gate",60),("out",6)] (ko nY n8 (ko nY n8 (ko nY n8 xt))) rfl rfl (by simp) (by decide) (fun _ _ _ h=>h) (by decide) rfl) (ae 3) (fun _ _=>rfl)) (bJ _)) (aU (bq ai)) cH) (aU (bq (bp (ay (ax (aa (Bi ai) (aa ai ah)))) (mX Aw rfl T.z_int PyProof.Rows.boot_int (aa (eP (MF hr.units) (ay (l7 rfl (eU.of (own:=["wire"]) (kp:=[10]) (kn:=["known"]) (sc:=pK.1) (N:=rf) rfl rfl (by decide+kernel)) (gM (ae 6)) (fun _ _ _=>(aZ (show List.Nodup [(Str.ofString "wire"),"known"] from by decide+kernel) rfl (Or.inl rfl))) (fun _ _ _=>(Fm (bE sG (ae 0) (ae 1) (by with_unfolding_all rfl)))) (fun _ _ _=>(ae 0)))) (ay (ax ah)) (bJ _)) ah)) (fun _ _=>rfl)))))))))),hm,F.kp,F.binds fun _ _ _ _ _ _ us hl=>match us,hl with | [_,_],_=>rfl⟩
abbrev gp:Stmt:=top 43
noncomputable abbrev qz:List Str:=["row","state","text","word","name","width","wires","words","names","outs","known","own"]
noncomputable def uP:{b:List Stmt // a9 gp=b}:=⟨_,by conv=>lhs;whnf⟩
noncomputable def px:{b:Scope // aJ gp=b}:=⟨_,by conv=>lhs;whnf⟩
theorem b6:bC qz ["row","state"] px.1:=⟨rfl,rfl,rfl,by decide+kernel,rfl,by decide+kernel,by decide+kernel⟩
def qo:FS:=(br (Cj (ao 0) (yR 5 (dj (bA 2) (dj (bA 3) (dj (bA 4) (dj (bA 5) (dj (bA 6) vp))))))) (br (Cj (ao 1) (yR 4 (dj (bA 7) (dj (bA 8) (dj (bA 9) (dj (bA 10) vp)))))) (br (tZ (b2 qr (ao 3) (eC (.str "out"))) (d_ (eNew (bg (ag (e2 bD (ao 7) (eNew (bg (ag (ao 3) aE)))) (ag (ao 8) (ag (e2 bD (ao 9) (eNew (bg (ag (ao 4) aE)))) (ag (ao 10) aE))))))) mO) (br (b9 11 (eNew (bg (ag (ao 4) aE)))) (br (tZ (b2 M4 (ao 5) (eC (.int 1))) (b9 11 (yZ (eNew (bg (ag (e2 bD (ao 4) (eC (.str ":0"))) (ag (e2 bD (ao 4) (eC (.str ":1"))) (ag (e2 bD (ao 4) (eC (.str ":2"))) aE))))) lx (iq (ao 5)))) mO) (d_ (eNew (bg (ag (e2 bD (ao 7) (eNew (bg (ag (ao 3) aE)))) (ag (e2 bD (ao 8) (eNew (bg (ag (ao 4) aE)))) (ag (ao 9) (ag (e2 bD (ao 10) (ao 11)) aE))))))))))))
def gP:List D->R D:=va qz qo
theorem wc(T:Tp P w K mg cl)(h:Def K mg "_law_behind" gp):Callee P w K mg base 1 "_law_behind" 2 gP:=by
 obtain⟨f,fd,F,hm⟩:=h;exact⟨f,fd,_,cu (k:=0) uP.2 px.2 F b6 (fun dJ A outer s H E hr=>(aq (qI (ae 0) (qy rfl (bL (aZ b6.nd rfl (Or.inl rfl)) (bL (aZ b6.nd rfl (Or.inl rfl)) (bL (aZ b6.nd rfl (Or.inl rfl)) (bL (aZ b6.nd rfl (Or.inl rfl)) (bL (aZ b6.nd rfl (Or.inl rfl)) oZ))))))) (aq (qI (ae 1) (qy rfl (bL (aZ b6.nd rfl (Or.inl rfl)) (bL (aZ b6.nd rfl (Or.inl rfl)) (bL (aZ b6.nd rfl (Or.inl rfl)) (bL (aZ b6.nd rfl (Or.inl rfl)) oZ)))))) (aq (df (bE (nH hr.units) (ae 3) af (bJ _)) (aU (bq (ay (ax (aa (au aV (ae 7) (ay (ax (aa (ae 3) ah)))) (aa (ae 8) (aa (au aV (ae 9) (ay (ax (aa (ae 4) ah)))) (aa (ae 10) ah)))))))) cH) (aq (aF b6.nd rfl (Or.inl rfl) (ay (ax (aa (ae 4) ah)))) (aq (df (bE JC (ae 5) ai (bJ _)) (aU (aF b6.nd rfl (Or.inl rfl) (jx (ay (ax (aa (au aV (ae 4) af) (aa (au aV (ae 4) af) (aa (au aV (ae 4) af) ah))))) eu (dt (ae 5))))) cH) (aU (bq (ay (ax (aa (au aV (ae 7) (ay (ax (aa (ae 3) ah)))) (aa (au aV (ae 8) (ay (ax (aa (ae 4) ah)))) (aa (ae 9) (aa (au aV (ae 10) (ae 11)) ah)))))))))))))),hm,F.kp,F.binds fun _ _ _ _ _ _ us hl=>match us,hl with | [_,_],_=>rfl⟩
abbrev gr:Stmt:=top 44
noncomputable abbrev jZ:List Str:=["rows","state","row","due"]
noncomputable def u9:{b:List Stmt // a9 gr=b}:=⟨_,by conv=>lhs;whnf⟩
noncomputable def pz:{b:Scope // aJ gr=b}:=⟨_,by conv=>lhs;whnf⟩
theorem gC:bC jZ ["rows"] pz.1:=⟨rfl,rfl,rfl,by decide+kernel,rfl,by decide+kernel,by decide+kernel⟩
def cf:FS:=(br (tZ (b2 qr (e2 dN (ao 2) (eC (.int 1))) (eC (.str "bad"))) (d_ (eC (.int 1))) mO) (br (b9 3 (bf j7 (ag (ao 2) (ag (ao 1) aE)))) (br (tZ (b2 Hc (ao 3) (eC (.int 0))) (d_ (ao 3)) mO) (b9 1 (bf gP (ag (ao 2) (ag (ao 1) aE)))))))
def qv:FS:=(br (b9 1 (eNew (bg (ag (eNew (bg aE)) (ag (eNew (bg aE)) (ag (eNew (bg aE)) (ag (eNew (bg aE)) aE))))))) (br (vi (kc (ao 0)) (bA 2) cf) (d_ (e2 dN (eNew (bg (ag (K6 (eC (.int 1))) (ag (eC (.int 6)) aE)))) (bf vP (ag (NG (e2 mZ (eC (.str "in")) (e2 dN (ao 1) (eC (.int 0)))) (e2 mZ (eC (.str "out")) (e2 dN (ao 1) (eC (.int 0))))) aE))))))
def j0:List D->R D:=va jZ qv
theorem xD(T:Tp P w K mg cl)(h:Def K mg "_law_judged" gr)(rS:Callee P w K mg base 1 "_law_due" 2 j7)(nk:Callee P w K mg base 1 "_law_behind" 2 gP):Callee P w K mg base 2 "_law_judged" 1 j0:=by
 obtain⟨f,fd,F,hm⟩:=h;exact⟨f,fd,_,cu (k:=1) u9.2 pz.2 F gC (fun dJ A outer s H E hr=>(aq (aF gC.nd rfl (Or.inl rfl) (ay (ax (aa (ay (ax ah)) (aa (ay (ax ah)) (aa (ay (ax ah)) (aa (ay (ax ah)) ah))))))) (aq (oj PassesOwn.never rfl (gM (ae 0)) (aZ gC.nd rfl (Or.inl rfl)) (aq (df (bE (nH hr.units) (bp (ae 2) ai (fun _ _=>rfl)) af (bJ _)) (aU (bq ai)) cH) (aq (aF gC.nd rfl (Or.inl rfl) (aP rS hr (by decide) rfl (aa (ae 2) (aa (ae 1) ah)) (aA (aA a_)))) (aq (df (bE Eh (ae 3) ai (bJ _)) (aU (bq (ae 3))) cH) (aU (aF gC.nd rfl (Or.inl rfl) (aP nk hr (by decide) rfl (aa (ae 2) (aa (ae 1) ah)) (aA (aA a_))))))))) (aU (bq (bp (ay (ax (aa (Bi ai) (aa ai ah)))) (mX Aw rfl T.z_int PyProof.Rows.boot_int (aa (Fg (eP sG af (bp (ae 1) ai (fun _ _=>rfl)) (by with_unfolding_all rfl)) (oX (eP sG af (bp (ae 1) ai (fun _ _=>rfl)) (by with_unfolding_all rfl)))) ah)) (fun _ _=>rfl))))))),hm,F.kp,F.binds fun _ _ _ _ _ _ us hl=>match us,hl with | [_],_=>rfl⟩
abbrev fw:Stmt:=top 45
noncomputable abbrev fq:List Str:=["text","found","e"]
noncomputable def t7:{b:List Stmt // a9 fw=b}:=⟨_,by conv=>lhs;whnf⟩
noncomputable def n5:{b:Scope // aJ fw=b}:=⟨_,by conv=>lhs;whnf⟩
theorem c_:bC fq ["text"] n5.1:=⟨rfl,rfl,rfl,by decide+kernel,rfl,by decide+kernel,by decide+kernel⟩
def lK:FZ:=(cR (mJ 1 (xP (eNew (bg aE)))) (cR (u0 (um (ui (G9 jg) (fM (bo (xP (ao 0)) dF)))) (fun c=>[2,3,4,5,6,7,8].contains c) 2 (cR (mJ 1 (Af (bo (lH (bX 2) (r6 [(2,true),(3,false),(4,false),(5,false),(6,false),(7,false),(8,false)])) (bo (lH (bX 2) (r6 [(2,false),(3,true),(4,false),(5,false),(6,false),(7,false),(8,false)])) (bo (lH (bX 2) (r6 [(2,false),(3,false),(4,true),(5,false),(6,false),(7,false),(8,false)])) (bo (lH (bX 2) (r6 [(2,false),(3,false),(4,false),(5,true),(6,false),(7,false),(8,false)])) dF)))))) (cR (mJ 1 (x2 bD (xP (ao 1)) (Af (bo (lH (bX 2) (r6 [(2,false),(3,false),(4,false),(5,false),(6,true),(7,false),(8,false)])) (bo (lH (bX 2) (r6 [(2,false),(3,false),(4,false),(5,false),(6,false),(7,true),(8,false)])) (bo (lH (bX 2) (r6 [(2,false),(3,false),(4,false),(5,false),(6,false),(7,false),(8,true)])) (bo (lH (bX 2) (r6 [(2,false),(3,false),(4,false),(5,false),(6,false),(7,false),(8,false)])) dF))))))) (cR (mJ 1 (x2 bD (xP (ao 1)) (Af (bo (lH (bX 2) (r6 [(2,false),(3,false),(4,false),(5,false),(6,false),(7,false),(8,false)])) (bo (lH (bX 2) (r6 [(2,false),(3,false),(4,false),(5,false),(6,false),(7,false),(8,false)])) (bo (lH (bX 2) (r6 [(2,false),(3,false),(4,false),(5,false),(6,false),(7,false),(8,false)])) (bo (lH (bX 2) (r6 [(2,false),(3,false),(4,false),(5,false),(6,false),(7,false),(8,false)])) dF))))))) (mJ 1 (x2 bD (xP (ao 1)) (Af (bo (lH (bX 2) (r6 [(2,false),(3,false),(4,false),(5,false),(6,false),(7,false),(8,false)])) (bo (M0 (lH (bX 2) (r6 [(2,true),(3,true),(4,true),(5,true),(6,true),(7,true),(8,true)]))) dF))))))))) (Cn (xP (ao 1)))))
def sZ:List V3->aR->R3 V3:=uO fq lK
def kz:List V3->aR->R3 V3:=zm fq lK
theorem vb(T:Tp P w K mg cl)(h:Def K mg "_law_refused" fw)(xN:fJ P w K mg base cl 6 "read" 1 jg):qu P w K mg base cl 7 "_law_refused" 1 sZ:=by
 obtain⟨f,fd,F,hm⟩:=h;exact⟨f,fd,_,uc (k:=6) t7.2 n5.2 F c_ (fun dJ A outer s H E hr=>(bO (en c_.nd rfl (Or.inl rfl) (aD (ay (ax ah)))) (bO (Ma rfl rfl rfl (PL (m3 T.E_TooLong_FaultError (m3 T.E_NoForm_FaultError (m3 T.E_NoPlace_FaultError (m3 T.E_Twice_FaultError (m3 T.E_Full_FaultError (m3 T.E_NoWire_FaultError (m3 T.E_Open_FaultError Lz)))))))) rfl T.M_FaultError c_.nd rfl rfl (fun pn xe E hp=>(bZ (nS (yq hp (fJ.q xN) hr (by decide) rfl (d4 (aN (aD (ae 0)) bV)) (BS (cF js)))))) (fun a pn=>(bO (en c_.nd rfl (Or.inl rfl) (vW (aN (gu (aY 2) (dG (v:= .ref (cl 2)) rfl T.M_TooLong rfl) rfl rfl T.z_isinstance (ku (av ⟨T.X_TooLong,T.I_TooLong_TooLong⟩ (av ⟨T.X_NoForm,T.I_NoForm_TooLong⟩ (av ⟨T.X_NoPlace,T.I_NoPlace_TooLong⟩ (av ⟨T.X_Twice,T.I_Twice_TooLong⟩ (av ⟨T.X_Full,T.I_Full_TooLong⟩ (av ⟨T.X_NoWire,T.I_NoWire_TooLong⟩ (av ⟨T.X_Open,T.I_Open_TooLong⟩ gh)))))))) T.O_TooLong) (aN (gu (aY 2) (dG (v:= .ref (cl 3)) rfl T.M_NoForm rfl) rfl rfl T.z_isinstance (ku (av ⟨T.X_TooLong,T.I_TooLong_NoForm⟩ (av ⟨T.X_NoForm,T.I_NoForm_NoForm⟩ (av ⟨T.X_NoPlace,T.I_NoPlace_NoForm⟩ (av ⟨T.X_Twice,T.I_Twice_NoForm⟩ (av ⟨T.X_Full,T.I_Full_NoForm⟩ (av ⟨T.X_NoWire,T.I_NoWire_NoForm⟩ (av ⟨T.X_Open,T.I_Open_NoForm⟩ gh)))))))) T.O_NoForm) (aN (gu (aY 2) (dG (v:= .ref (cl 4)) rfl T.M_NoPlace rfl) rfl rfl T.z_isinstance (ku (av ⟨T.X_TooLong,T.I_TooLong_NoPlace⟩ (av ⟨T.X_NoForm,T.I_NoForm_NoPlace⟩ (av ⟨T.X_NoPlace,T.I_NoPlace_NoPlace⟩ (av ⟨T.X_Twice,T.I_Twice_NoPlace⟩ (av ⟨T.X_Full,T.I_Full_NoPlace⟩ (av ⟨T.X_NoWire,T.I_NoWire_NoPlace⟩ (av ⟨T.X_Open,T.I_Open_NoPlace⟩ gh)))))))) T.O_NoPlace) (aN (gu (aY 2) (dG (v:= .ref (cl 5)) rfl T.M_Twice rfl) rfl rfl T.z_isinstance (ku (av ⟨T.X_TooLong,T.I_TooLong_Twice⟩ (av ⟨T.X_NoForm,T.I_NoForm_Twice⟩ (av ⟨T.X_NoPlace,T.I_NoPlace_Twice⟩ (av ⟨T.X_Twice,T.I_Twice_Twice⟩ (av ⟨T.X_Full,T.I_Full_Twice⟩ (av ⟨T.X_NoWire,T.I_NoWire_Twice⟩ (av ⟨T.X_Open,T.I_Open_Twice⟩ gh)))))))) T.O_Twice) bV)))))) (bO (en c_.nd rfl (Or.inl rfl) (Fd aV (aD (ae 1)) (vW (aN (gu (aY 2) (dG (v:= .ref (cl 6)) rfl T.M_Full rfl) rfl rfl T.z_isinstance (ku (av ⟨T.X_TooLong,T.I_TooLong_Full⟩ (av ⟨T.X_NoForm,T.I_NoForm_Full⟩ (av ⟨T.X_NoPlace,T.I_NoPlace_Full⟩ (av ⟨T.X_Twice,T.I_Twice_Full⟩ (av ⟨T.X_Full,T.I_Full_Full⟩ (av ⟨T.X_NoWire,T.I_NoWire_Full⟩ (av ⟨T.X_Open,T.I_Open_Full⟩ gh)))))))) T.O_Full) (aN (gu (aY 2) (dG (v:= .ref (cl 7)) rfl T.M_NoWire rfl) rfl rfl T.z_isinstance (ku (av ⟨T.X_TooLong,T.I_TooLong_NoWire⟩ (av ⟨T.X_NoForm,T.I_NoForm_NoWire⟩ (av ⟨T.X_NoPlace,T.I_NoPlace_NoWire⟩ (av ⟨T.X_Twice,T.I_Twice_NoWire⟩ (av ⟨T.X_Full,T.I_Full_NoWire⟩ (av ⟨T.X_NoWire,T.I_NoWire_NoWire⟩ (av ⟨T.X_Open,T.I_Open_NoWire⟩ gh)))))))) T.O_NoWire) (aN (gu (aY 2) (dG (v:= .ref (cl 8)) rfl T.M_Open rfl) rfl rfl T.z_isinstance (ku (av ⟨T.X_TooLong,T.I_TooLong_Open⟩ (av ⟨T.X_NoForm,T.I_NoForm_Open⟩ (av ⟨T.X_NoPlace,T.I_NoPlace_Open⟩ (av ⟨T.X_Twice,T.I_Twice_Open⟩ (av ⟨T.X_Full,T.I_Full_Open⟩ (av ⟨T.X_NoWire,T.I_NoWire_Open⟩ (av ⟨T.X_Open,T.I_Open_Open⟩ gh)))))))) T.O_Open) (aN (gu (aY 2) (dG (v:= .ref (cl 9)) rfl T.M_NotPlain rfl) rfl rfl T.z_isinstance (ku (av ⟨T.X_TooLong,T.I_TooLong_NotPlain⟩ (av ⟨T.X_NoForm,T.I_NoForm_NotPlain⟩ (av ⟨T.X_NoPlace,T.I_NoPlace_NotPlain⟩ (av ⟨T.X_Twice,T.I_Twice_NotPlain⟩ (av ⟨T.X_Full,T.I_Full_NotPlain⟩ (av ⟨T.X_NoWire,T.I_NoWire_NotPlain⟩ (av ⟨T.X_Open,T.I_Open_NotPlain⟩ gh)))))))) T.O_NotPlain) bV))))))) (bO (en c_.nd rfl (Or.inl rfl) (Fd aV (aD (ae 1)) (vW (aN (gu (aY 2) (dG (v:= .ref (cl 10)) rfl T.M_NotThree rfl) rfl rfl T.z_isinstance (ku (av ⟨T.X_TooLong,T.I_TooLong_NotThree⟩ (av ⟨T.X_NoForm,T.I_NoForm_NotThree⟩ (av ⟨T.X_NoPlace,T.I_NoPlace_NotThree⟩ (av ⟨T.X_Twice,T.I_Twice_NotThree⟩ (av ⟨T.X_Full,T.I_Full_NotThree⟩ (av ⟨T.X_NoWire,T.I_NoWire_NotThree⟩ (av ⟨T.X_Open,T.I_Open_NotThree⟩ gh)))))))) T.O_NotThree) (aN (gu (aY 2) (dG (v:= .ref (cl 11)) rfl T.M_NotSound rfl) rfl rfl T.z_isinstance (ku (av ⟨T.X_TooLong,T.I_TooLong_NotSound⟩ (av ⟨T.X_NoForm,T.I_NoForm_NotSound⟩ (av ⟨T.X_NoPlace,T.I_NoPlace_NotSound⟩ (av ⟨T.X_Twice,T.I_Twice_NotSound⟩ (av ⟨T.X_Full,T.I_Full_NotSound⟩ (av ⟨T.X_NoWire,T.I_NoWire_NotSound⟩ (av ⟨T.X_Open,T.I_Open_NotSound⟩ gh)))))))) T.O_NotSound) (aN (gu (aY 2) (dG (v:= .ref (cl 12)) rfl T.M_NoFit rfl) rfl rfl T.z_isinstance (ku (av ⟨T.X_TooLong,T.I_TooLong_NoFit⟩ (av ⟨T.X_NoForm,T.I_NoForm_NoFit⟩ (av ⟨T.X_NoPlace,T.I_NoPlace_NoFit⟩ (av ⟨T.X_Twice,T.I_Twice_NoFit⟩ (av ⟨T.X_Full,T.I_Full_NoFit⟩ (av ⟨T.X_NoWire,T.I_NoWire_NoFit⟩ (av ⟨T.X_Open,T.I_Open_NoFit⟩ gh)))))))) T.O_NoFit) (aN (gu (aY 2) (dG (v:= .ref (cl 13)) rfl T.M_NoShape rfl) rfl rfl T.z_isinstance (ku (av ⟨T.X_TooLong,T.I_TooLong_NoShape⟩ (av ⟨T.X_NoForm,T.I_NoForm_NoShape⟩ (av ⟨T.X_NoPlace,T.I_NoPlace_NoShape⟩ (av ⟨T.X_Twice,T.I_Twice_NoShape⟩ (av ⟨T.X_Full,T.I_Full_NoShape⟩ (av ⟨T.X_NoWire,T.I_NoWire_NoShape⟩ (av ⟨T.X_Open,T.I_Open_NoShape⟩ gh)))))))) T.O_NoShape) bV))))))) (c6 (en c_.nd rfl (Or.inl rfl) (Fd aV (aD (ae 1)) (vW (aN (gu (aY 2) (dG (v:= .ref (cl 14)) rfl T.M_NoneYet rfl) rfl rfl T.z_isinstance (ku (av ⟨T.X_TooLong,T.I_TooLong_NoneYet⟩ (av ⟨T.X_NoForm,T.I_NoForm_NoneYet⟩ (av ⟨T.X_NoPlace,T.I_NoPlace_NoneYet⟩ (av ⟨T.X_Twice,T.I_Twice_NoneYet⟩ (av ⟨T.X_Full,T.I_Full_NoneYet⟩ (av ⟨T.X_NoWire,T.I_NoWire_NoneYet⟩ (av ⟨T.X_Open,T.I_Open_NoneYet⟩ gh)))))))) T.O_NoneYet) (aN (MG (gu (aY 2) (IU (v:= .ty "ValueError") rfl T.z_ValueError PyProof.Rows.Boot.«ValueError» rfl) rfl rfl T.z_isinstance (ku (av ⟨T.X_TooLong,T.I_TooLong_ValueError⟩ (av ⟨T.X_NoForm,T.I_NoForm_ValueError⟩ (av ⟨T.X_NoPlace,T.I_NoPlace_ValueError⟩ (av ⟨T.X_Twice,T.I_Twice_ValueError⟩ (av ⟨T.X_Full,T.I_Full_ValueError⟩ (av ⟨T.X_NoWire,T.I_NoWire_ValueError⟩ (av ⟨T.X_Open,T.I_Open_ValueError⟩ gh)))))))) T.O_ValueError)) bV))))))))))) (c6 (wj (aD (ae 1))))))),hm,F.kp,F.binds fun _ _ _ _ _ _ us hl=>match us,hl with | [_],_=>rfl⟩
abbrev ky:Stmt:=top 46
noncomputable abbrev pW:List Str:=["head","rows","k","name","wire","more","start","at"]
noncomputable def ya:{b:List Stmt // a9 ky=b}:=⟨_,by conv=>lhs;whnf⟩
noncomputable def rY:{b:Scope // aJ ky=b}:=⟨_,by conv=>lhs;whnf⟩
theorem cP:bC pW ["head"] rY.1:=⟨rfl,rfl,rfl,by decide+kernel,rfl,by decide+kernel,by decide+kernel⟩
def m4:FS:=(wV 1 (eNew (bg (ag (e2 bD (e2 bD (eC (.str "in i")) (e2 dN (eC (.str "abcdef")) (ao 2))) (eC (.str " 1"))) (ag (eC (.str "in")) (ag (e2 bD (eC (.str "i")) (e2 dN (eC (.str "abcdef")) (ao 2))) (ag (eC (.int 1)) (ag (eNew (bg aE)) aE))))))))
def mU:FS:=(br (b9 3 (e2 bD (e2 bD (eC (.str "g")) (e2 dN (eC (.str "abcdefghijklmnopqrstuvwxyz")) (e2 dv (ao 2) (eC (.int 26))))) (e2 dN (eC (.str "xyz")) (e2 gI (ao 2) (eC (.int 26)))))) (wV 1 (eNew (bg (ag (e2 bD (e2 bD (eC (.str "gate ")) (ao 3)) (eC (.str " xor ia if"))) (ag (eC (.str "gate")) (ag (ao 3) (ag (eC (.int 0)) (ag (eNew (bg (ag (eC (.str "ia")) (ag (eC (.str "if")) aE)))) aE)))))))))
def mG:FS:=(wV 1 (eNew (bg (ag (e2 bD (e2 bD (eC (.str "out o")) (e2 dN (eC (.str "abcdef")) (ao 2))) (eC (.str " gzx"))) (ag (eC (.str "out")) (ag (e2 bD (eC (.str "o")) (e2 dN (eC (.str "abcdef")) (ao 2))) (ag (eC (.int 0)) (ag (eNew (bg (ag (eC (.str "gzx")) aE))) aE))))))))
def sT:FS:=(br (yO 1 (bg aE)) (br (vi (j9 (eC (.int 6))) (bA 2) m4) (br (vi (j9 (eC (.int 60))) (bA 2) mU) (br (vi (j9 (eC (.int 6))) (bA 2) mG) (wR 1 (br (b9 3 (e2 dN (eNew (bg (ag (eC (.str "w")) (ag (eC (.str "gax")) (ag (eC (.str "ia")) aE))))) (e2 dv (bf aT (ag (ao 0) (ag (eC (.int 98)) aE))) (eC (.int 3))))) (br (b9 4 (e2 dN (eNew (bg (ag (eC (.str "ia")) (ag (eC (.str "zed")) aE)))) (e2 dv (bf aT (ag (ao 0) (ag (eC (.int 99)) aE))) (eC (.int 2))))) (br (yO 5 (bg (ag (eNew (bg (ag (eC (.str "in q 2")) (ag (eC (.str "in")) (ag (eC (.str "q")) (ag (eC (.int 2)) (ag (eNew (bg aE)) aE))))))) (ag (eNew (bg (ag (e2 bD (e2 bD (e2 bD (eC (.str "sure ")) (ao 3)) (eC (.str " not "))) (ao 4)) (ag (eC (.str "gate")) (ag (ao 3) (ag (eC (.int 0)) (ag (eNew (bg (ag (ao 4) aE))) aE))))))) aE)))) (br (wV 5 (eNew (bg (ag (eC (.str "out v ia")) (ag (eC (.str "out")) (ag (eC (.str "v")) (ag (eC (.int 0)) (ag (eNew (bg (ag (eC (.str "ia")) aE))) aE)))))))) (wR 5 (br (b9 6 (e2 dv (bf aT (ag (ao 0) (ag (eC (.int 96)) aE))) (eC (.int 3)))) (br (b9 7 (e2 dv (bf aT (ag (ao 0) (ag (eC (.int 95)) aE))) (eC (.int 73)))) (d_ (e2 bD (e2 bD (yZ (ao 1) lx (iq (ao 7))) (yZ (ao 5) (iq (ao 6)) (iq (e2 bD (ao 6) (e2 dv (bf aT (ag (ao 0) (ag (eC (.int 97)) aE))) (eC (.int 3))))))) (yZ (ao 1) (iq (ao 7)) lx)))))))))))))))
def mK:List D->R D:=va pW sT
theorem Ap(T:Tp P w K mg cl)(h:Def K mg "_law_full" ky)(bz:Callee P w K mg base 1 "_law_stir" 2 aT):Callee P w K mg base 2 "_law_full" 1 mK:=by
 obtain⟨f,fd,F,hm⟩:=h;exact⟨f,fd,_,cu (k:=1) ya.2 rY.2 F cP (fun dJ A outer s H E hr=>(aq (t8 cP.nd rfl (Or.inl rfl) (ax ah)) (aq (oj PassesOwn.never rfl (gf ai rfl T.z_range) (aZ cP.nd rfl (Or.inl rfl)) (aU (nT rfl (Or.inl rfl) (ay (ax (aa (au aV (au aV af (bp af (ae 2) (fun _ _=>rfl))) af) (aa af (aa (au aV af (bp af (ae 2) (fun _ _=>rfl))) (aa ai (aa (ay (ax ah)) ah)))))))))) (aq (oj PassesOwn.never rfl (gf ai rfl T.z_range) (aZ cP.nd rfl (Or.inl rfl)) (aq (aF cP.nd rfl (Or.inl rfl) (au aV (au aV af (bp af (au cZ (ae 2) ai) (fun _ _=>rfl))) (bp af (au kC (ae 2) ai) (fun _ _=>rfl)))) (aU (nT rfl (Or.inl rfl) (ay (ax (aa (au aV (au aV af (ae 3)) af) (aa af (aa (ae 3) (aa ai (aa (ay (ax (aa af (aa af ah)))) ah))))))))))) (aq (oj PassesOwn.never rfl (gf ai rfl T.z_range) (aZ cP.nd rfl (Or.inl rfl)) (aU (nT rfl (Or.inl rfl) (ay (ax (aa (au aV (au aV af (bp af (ae 2) (fun _ _=>rfl))) af) (aa af (aa (au aV af (bp af (ae 2) (fun _ _=>rfl))) (aa ai (aa (ay (ax (aa af ah))) ah)))))))))) (tq 1 (aq (aF cP.nd rfl (Or.inl rfl) (bp (ay (ax (aa af (aa af (aa af ah))))) (au cZ (aP bz hr (by decide) rfl (aa (ae 0) (aa ai ah)) (aA (aA a_))) ai) (fun _ _=>rfl))) (aq (aF cP.nd rfl (Or.inl rfl) (bp (ay (ax (aa af (aa af ah)))) (au cZ (aP bz hr (by decide) rfl (aa (ae 0) (aa ai ah)) (aA (aA a_))) ai) (fun _ _=>rfl))) (aq (t8 cP.nd rfl (Or.inl rfl) (ax (aa (ay (ax (aa af (aa af (aa af (aa ai (aa (ay (ax ah)) ah))))))) (aa (ay (ax (aa (au aV (au aV (au aV af (ae 3)) af) (ae 4)) (aa af (aa (ae 3) (aa ai (aa (ay (ax (aa (ae 4) ah))) ah))))))) ah)))) (aq (nT rfl (Or.inl rfl) (ay (ax (aa af (aa af (aa af (aa ai (aa (ay (ax (aa af ah))) ah)))))))) (tq 5 (aq (aF cP.nd rfl (Or.inl rfl) (au cZ (aP bz hr (by decide) rfl (aa (ae 0) (aa ai ah)) (aA (aA a_))) ai)) (aq (aF cP.nd rfl (Or.inl rfl) (au cZ (aP bz hr (by decide) rfl (aa (ae 0) (aa ai ah)) (aA (aA a_))) ai)) (aU (bq (au aV (au aV (jx (ae 1) eu (dt (ae 7))) (jx (ae 5) (dt (ae 6)) (dt (au aV (ae 6) (au cZ (aP bz hr (by decide) rfl (aa (ae 0) (aa ai ah)) (aA (aA a_))) ai))))) (jx (ae 1) (dt (ae 7)) eu))))))))))))))))),hm,F.kp,F.binds fun _ _ _ _ _ _ us hl=>match us,hl with | [_],_=>rfl⟩
abbrev BV:Stmt:=top 47
noncomputable abbrev ph:List Str:=["script","rows","cell","head","many","due","text"]
noncomputable def Me:{b:List Stmt // a9 BV=b}:=⟨_,by conv=>lhs;whnf⟩
noncomputable def xc:{b:Scope // aJ BV=b}:=⟨_,by conv=>lhs;whnf⟩
theorem nW:bC ph ["script"] xc.1:=⟨rfl,rfl,rfl,by decide+kernel,rfl,by decide+kernel,by decide+kernel⟩
def BO:FZ:=(tK (bP (b2 qr (e2 dv (bf aT (ag (ao 2) (ag (eC (.int 72)) aE))) (eC (.int 8))) (eC (.int 0)))) (CC 1 (xP (eNew (bg (ag (bf ma (ag (ao 2) aE)) (ag (eC (.str "bad")) (ag (eC (.str "")) (ag (eC (.int 0)) (ag (eNew (bg aE)) aE))))))))) (CC 1 (xP (bf ft (ag (ao 2) aE)))))
def tw:FZ:=(cR (mJ 1 (CQ (bg aE))) (cR (yT (iP (kc (yZ (ao 0) lx (iq (eC (.int 63)))))) (JY 2) BO) (EK 1 (cR (mJ 3 (xP (bf ji (ag (ao 0) (ag (eC (.int 0)) aE))))) (cR (tK (bP (b2 qr (ao 1) (eNew (bg aE)))) (mJ 1 (xP (eNew (bg (ag (eNew (bg (ag (eC (.str "in a 1")) (ag (eC (.str "in")) (ag (eC (.str "a")) (ag (eC (.int 1)) (ag (eNew (bg aE)) aE))))))) aE))))) mL) (cR (tK (bP (b2 qr (e2 dv (bf aT (ag (ao 3) (ag (eC (.int 91)) aE))) (eC (.int 3))) (eC (.int 0)))) (cR (mJ 4 (xP (e2 dN (eNew (bg (ag (eC (.int 79)) (ag (eC (.int 80)) (ag (eC (.int 81)) (ag (eC (.int 82)) (ag (e2 bD (eC (.int 81)) (e2 dv (bf aT (ag (ao 3) (ag (eC (.int 92)) aE))) (eC (.int 220)))) aE))))))) (e2 dv (bf aT (ag (ao 3) (ag (eC (.int 93)) aE))) (eC (.int 5)))))) (cR (mJ 1 (xP (yZ (e2 A0 (ao 1) (ao 4)) lx (iq (ao 4))))) (tK (bP (b2 qr (e2 dv (bf aT (ag (ao 3) (ag (eC (.int 94)) aE))) (eC (.int 2))) (eC (.int 1)))) (mJ 1 (xP (bf mK (ag (ao 3) aE)))) mL))) mL) (cR (mJ 5 (xP (bf j0 (ag (ao 1) aE)))) (cR (tK (bP (b2 M4 (bf o7 (ag (ao 1) aE)) (eC (.int 80)))) (mJ 5 (xP (eC (.int 0)))) mL) (cR (mJ 6 (xP (v_ "str" nv (eC (.str "\n")) (ag (eNew (ny (kc (ao 1)) (bA 0) zC (e2 dN (ao 0) (eC (.int 0))) ["row"] [])) aE)))) (Cn (x2 qr (ui kz (bo (xP (ao 6)) dF)) (xP (eNew (ny (j9 (e2 dN (eNew (bg (ag (eC (.int 14)) (ag (eC (.int 0)) aE)))) (bf vP (ag (e2 DJ (ao 5) (eC (.int 0))) aE)))) (bA 0) zC (e2 qr (ao 1) (ao 0)) ["k"] [5]))))))))))))))
def Tr:List V3->aR->R3 V3:=uO ph tw
def R4:List V3->aR->R3 V3:=zm ph tw
def BW:List D->R D:=QQ ph tw
structure Cf (K:W.Frag) (mg:Aaf) (cl:Aag):Prop where
 C_Draft:x8 K (cl 0)
 N_Draft_ins:dc K (cl 0) "ins"
 N_Draft_gates:dc K (cl 0) "gates"
 N_Draft_outs:dc K (cl 0) "outs"
 N_Draft_names:dc K (cl 0) "names"
 N_Draft_out_names:dc K (cl 0) "out_names"
 N_Draft_numbers:dc K (cl 0) "numbers"
 M_Draft:mg "Draft"=some (.ref (cl 0))
 M_FaultError:mg "FaultError"=some (.ref (cl 1))
 M_TooLong:mg "TooLong"=some (.ref (cl 2))
 M_NoForm:mg "NoForm"=some (.ref (cl 3))
 M_NoPlace:mg "NoPlace"=some (.ref (cl 4))
 M_Twice:mg "Twice"=some (.ref (cl 5))
 M_Full:mg "Full"=some (.ref (cl 6))
 M_NoWire:mg "NoWire"=some (.ref (cl 7))
 M_Open:mg "Open"=some (.ref (cl 8))
 M_NotPlain:mg "NotPlain"=some (.ref (cl 9))
 M_NotThree:mg "NotThree"=some (.ref (cl 10))
 M_NotSound:mg "NotSound"=some (.ref (cl 11))
 M_NoFit:mg "NoFit"=some (.ref (cl 12))
 M_NoShape:mg "NoShape"=some (.ref (cl 13))
 M_NoneYet:mg "NoneYet"=some (.ref (cl 14))
 X_TooLong:XC K (cl 2)
 X_NoForm:XC K (cl 3)
 X_NoPlace:XC K (cl 4)
 X_Twice:XC K (cl 5)
 X_Full:XC K (cl 6)
 X_NoWire:XC K (cl 7)
 X_Open:XC K (cl 8)
 I_Open_Twice:PySem.W.kitOne K (.ref (cl 8)) (.ref (cl 5))=some false
 I_NoWire_Twice:PySem.W.kitOne K (.ref (cl 7)) (.ref (cl 5))=some false
 I_Full_Twice:PySem.W.kitOne K (.ref (cl 6)) (.ref (cl 5))=some false
 I_Twice_Twice:PySem.W.kitOne K (.ref (cl 5)) (.ref (cl 5))=some true
 I_NoPlace_Twice:PySem.W.kitOne K (.ref (cl 4)) (.ref (cl 5))=some false
 I_NoForm_Twice:PySem.W.kitOne K (.ref (cl 3)) (.ref (cl 5))=some false
 I_TooLong_Twice:PySem.W.kitOne K (.ref (cl 2)) (.ref (cl 5))=some false
 O_Twice:PySem.W.kitOne K (.type "NoneType") (.ref (cl 5))=some false
 I_Open_NoPlace:PySem.W.kitOne K (.ref (cl 8)) (.ref (cl 4))=some false
 I_NoWire_NoPlace:PySem.W.kitOne K (.ref (cl 7)) (.ref (cl 4))=some false
 I_Full_NoPlace:PySem.W.kitOne K (.ref (cl 6)) (.ref (cl 4))=some false
 I_Twice_NoPlace:PySem.W.kitOne K (.ref (cl 5)) (.ref (cl 4))=some false
 I_NoPlace_NoPlace:PySem.W.kitOne K (.ref (cl 4)) (.ref (cl 4))=some true
 I_NoForm_NoPlace:PySem.W.kitOne K (.ref (cl 3)) (.ref (cl 4))=some false
 I_TooLong_NoPlace:PySem.W.kitOne K (.ref (cl 2)) (.ref (cl 4))=some false
 O_NoPlace:PySem.W.kitOne K (.type "NoneType") (.ref (cl 4))=some false
 I_Open_NoForm:PySem.W.kitOne K (.ref (cl 8)) (.ref (cl 3))=some false
 I_NoWire_NoForm:PySem.W.kitOne K (.ref (cl 7)) (.ref (cl 3))=some false
 I_Full_NoForm:PySem.W.kitOne K (.ref (cl 6)) (.ref (cl 3))=some false
 I_Twice_NoForm:PySem.W.kitOne K (.ref (cl 5)) (.ref (cl 3))=some false
 I_NoPlace_NoForm:PySem.W.kitOne K (.ref (cl 4)) (.ref (cl 3))=some false
 I_NoForm_NoForm:PySem.W.kitOne K (.ref (cl 3)) (.ref (cl 3))=some true
 I_TooLong_NoForm:PySem.W.kitOne K (.ref (cl 2)) (.ref (cl 3))=some false
 O_NoForm:PySem.W.kitOne K (.type "NoneType") (.ref (cl 3))=some false
 I_Open_TooLong:PySem.W.kitOne K (.ref (cl 8)) (.ref (cl 2))=some false
 I_NoWire_TooLong:PySem.W.kitOne K (.ref (cl 7)) (.ref (cl 2))=some false
 I_Full_TooLong:PySem.W.kitOne K (.ref (cl 6)) (.ref (cl 2))=some false
 I_Twice_TooLong:PySem.W.kitOne K (.ref (cl 5)) (.ref (cl 2))=some false
 I_NoPlace_TooLong:PySem.W.kitOne K (.ref (cl 4)) (.ref (cl 2))=some false
 I_NoForm_TooLong:PySem.W.kitOne K (.ref (cl 3)) (.ref (cl 2))=some false
 I_TooLong_TooLong:PySem.W.kitOne K (.ref (cl 2)) (.ref (cl 2))=some true
 O_TooLong:PySem.W.kitOne K (.type "NoneType") (.ref (cl 2))=some false
 I_Open_NotPlain:PySem.W.kitOne K (.ref (cl 8)) (.ref (cl 9))=some false
 I_NoWire_NotPlain:PySem.W.kitOne K (.ref (cl 7)) (.ref (cl 9))=some false
 I_Full_NotPlain:PySem.W.kitOne K (.ref (cl 6)) (.ref (cl 9))=some false
 I_Twice_NotPlain:PySem.W.kitOne K (.ref (cl 5)) (.ref (cl 9))=some false
 I_NoPlace_NotPlain:PySem.W.kitOne K (.ref (cl 4)) (.ref (cl 9))=some false
 I_NoForm_NotPlain:PySem.W.kitOne K (.ref (cl 3)) (.ref (cl 9))=some false
 I_TooLong_NotPlain:PySem.W.kitOne K (.ref (cl 2)) (.ref (cl 9))=some false
 O_NotPlain:PySem.W.kitOne K (.type "NoneType") (.ref (cl 9))=some false
 I_Open_Open:PySem.W.kitOne K (.ref (cl 8)) (.ref (cl 8))=some true
 I_NoWire_Open:PySem.W.kitOne K (.ref (cl 7)) (.ref (cl 8))=some false
 I_Full_Open:PySem.W.kitOne K (.ref (cl 6)) (.ref (cl 8))=some false
 I_Twice_Open:PySem.W.kitOne K (.ref (cl 5)) (.ref (cl 8))=some false
 I_NoPlace_Open:PySem.W.kitOne K (.ref (cl 4)) (.ref (cl 8))=some false
 I_NoForm_Open:PySem.W.kitOne K (.ref (cl 3)) (.ref (cl 8))=some false
 I_TooLong_Open:PySem.W.kitOne K (.ref (cl 2)) (.ref (cl 8))=some false
 O_Open:PySem.W.kitOne K (.type "NoneType") (.ref (cl 8))=some false
 I_Open_NoWire:PySem.W.kitOne K (.ref (cl 8)) (.ref (cl 7))=some false
 I_NoWire_NoWire:PySem.W.kitOne K (.ref (cl 7)) (.ref (cl 7))=some true
 I_Full_NoWire:PySem.W.kitOne K (.ref (cl 6)) (.ref (cl 7))=some false
 I_Twice_NoWire:PySem.W.kitOne K (.ref (cl 5)) (.ref (cl 7))=some false
 I_NoPlace_NoWire:PySem.W.kitOne K (.ref (cl 4)) (.ref (cl 7))=some false
 I_NoForm_NoWire:PySem.W.kitOne K (.ref (cl 3)) (.ref (cl 7))=some false
 I_TooLong_NoWire:PySem.W.kitOne K (.ref (cl 2)) (.ref (cl 7))=some false
 O_NoWire:PySem.W.kitOne K (.type "NoneType") (.ref (cl 7))=some false
 I_Open_Full:PySem.W.kitOne K (.ref (cl 8)) (.ref (cl 6))=some false
 I_NoWire_Full:PySem.W.kitOne K (.ref (cl 7)) (.ref (cl 6))=some false
 I_Full_Full:PySem.W.kitOne K (.ref (cl 6)) (.ref (cl 6))=some true
 I_Twice_Full:PySem.W.kitOne K (.ref (cl 5)) (.ref (cl 6))=some false
 I_NoPlace_Full:PySem.W.kitOne K (.ref (cl 4)) (.ref (cl 6))=some false
 I_NoForm_Full:PySem.W.kitOne K (.ref (cl 3)) (.ref (cl 6))=some false
 I_TooLong_Full:PySem.W.kitOne K (.ref (cl 2)) (.ref (cl 6))=some false
 O_Full:PySem.W.kitOne K (.type "NoneType") (.ref (cl 6))=some false
 I_Open_NoShape:PySem.W.kitOne K (.ref (cl 8)) (.ref (cl 13))=some false
 I_NoWire_NoShape:PySem.W.kitOne K (.ref (cl 7)) (.ref (cl 13))=some false
 I_Full_NoShape:PySem.W.kitOne K (.ref (cl 6)) (.ref (cl 13))=some false
 I_Twice_NoShape:PySem.W.kitOne K (.ref (cl 5)) (.ref (cl 13))=some false
 I_NoPlace_NoShape:PySem.W.kitOne K (.ref (cl 4)) (.ref (cl 13))=some false
 I_NoForm_NoShape:PySem.W.kitOne K (.ref (cl 3)) (.ref (cl 13))=some false
 I_TooLong_NoShape:PySem.W.kitOne K (.ref (cl 2)) (.ref (cl 13))=some false
 O_NoShape:PySem.W.kitOne K (.type "NoneType") (.ref (cl 13))=some false
 I_Open_NoFit:PySem.W.kitOne K (.ref (cl 8)) (.ref (cl 12))=some false
 I_NoWire_NoFit:PySem.W.kitOne K (.ref (cl 7)) (.ref (cl 12))=some false
 I_Full_NoFit:PySem.W.kitOne K (.ref (cl 6)) (.ref (cl 12))=some false
 I_Twice_NoFit:PySem.W.kitOne K (.ref (cl 5)) (.ref (cl 12))=some false
 I_NoPlace_NoFit:PySem.W.kitOne K (.ref (cl 4)) (.ref (cl 12))=some false
 I_NoForm_NoFit:PySem.W.kitOne K (.ref (cl 3)) (.ref (cl 12))=some false
 I_TooLong_NoFit:PySem.W.kitOne K (.ref (cl 2)) (.ref (cl 12))=some false
 O_NoFit:PySem.W.kitOne K (.type "NoneType") (.ref (cl 12))=some false
 I_Open_NotSound:PySem.W.kitOne K (.ref (cl 8)) (.ref (cl 11))=some false
 I_NoWire_NotSound:PySem.W.kitOne K (.ref (cl 7)) (.ref (cl 11))=some false
 I_Full_NotSound:PySem.W.kitOne K (.ref (cl 6)) (.ref (cl 11))=some false
 I_Twice_NotSound:PySem.W.kitOne K (.ref (cl 5)) (.ref (cl 11))=some false
 I_NoPlace_NotSound:PySem.W.kitOne K (.ref (cl 4)) (.ref (cl 11))=some false
 I_NoForm_NotSound:PySem.W.kitOne K (.ref (cl 3)) (.ref (cl 11))=some false
 I_TooLong_NotSound:PySem.W.kitOne K (.ref (cl 2)) (.ref (cl 11))=some false
 O_NotSound:PySem.W.kitOne K (.type "NoneType") (.ref (cl 11))=some false
 I_Open_NotThree:PySem.W.kitOne K (.ref (cl 8)) (.ref (cl 10))=some false
 I_NoWire_NotThree:PySem.W.kitOne K (.ref (cl 7)) (.ref (cl 10))=some false
 I_Full_NotThree:PySem.W.kitOne K (.ref (cl 6)) (.ref (cl 10))=some false
 I_Twice_NotThree:PySem.W.kitOne K (.ref (cl 5)) (.ref (cl 10))=some false
 I_NoPlace_NotThree:PySem.W.kitOne K (.ref (cl 4)) (.ref (cl 10))=some false
 I_NoForm_NotThree:PySem.W.kitOne K (.ref (cl 3)) (.ref (cl 10))=some false
 I_TooLong_NotThree:PySem.W.kitOne K (.ref (cl 2)) (.ref (cl 10))=some false
 O_NotThree:PySem.W.kitOne K (.type "NoneType") (.ref (cl 10))=some false
 I_Open_ValueError:PySem.W.kitOne K (.ref (cl 8)) (.type "ValueError")=some true
 I_NoWire_ValueError:PySem.W.kitOne K (.ref (cl 7)) (.type "ValueError")=some true
 I_Full_ValueError:PySem.W.kitOne K (.ref (cl 6)) (.type "ValueError")=some true
 I_Twice_ValueError:PySem.W.kitOne K (.ref (cl 5)) (.type "ValueError")=some true
 I_NoPlace_ValueError:PySem.W.kitOne K (.ref (cl 4)) (.type "ValueError")=some true
 I_NoForm_ValueError:PySem.W.kitOne K (.ref (cl 3)) (.type "ValueError")=some true
 I_TooLong_ValueError:PySem.W.kitOne K (.ref (cl 2)) (.type "ValueError")=some true
 O_ValueError:PySem.W.kitOne K (.type "NoneType") (.type "ValueError")=some false
 I_Open_NoneYet:PySem.W.kitOne K (.ref (cl 8)) (.ref (cl 14))=some false
 I_NoWire_NoneYet:PySem.W.kitOne K (.ref (cl 7)) (.ref (cl 14))=some false
 I_Full_NoneYet:PySem.W.kitOne K (.ref (cl 6)) (.ref (cl 14))=some false
 I_Twice_NoneYet:PySem.W.kitOne K (.ref (cl 5)) (.ref (cl 14))=some false
 I_NoPlace_NoneYet:PySem.W.kitOne K (.ref (cl 4)) (.ref (cl 14))=some false
 I_NoForm_NoneYet:PySem.W.kitOne K (.ref (cl 3)) (.ref (cl 14))=some false
 I_TooLong_NoneYet:PySem.W.kitOne K (.ref (cl 2)) (.ref (cl 14))=some false
 O_NoneYet:PySem.W.kitOne K (.type "NoneType") (.ref (cl 14))=some false
 E_Open_FaultError:PySem.W.exmOne K (.ref (cl 8)) (.ref (cl 1))=some true
 E_NoWire_FaultError:PySem.W.exmOne K (.ref (cl 7)) (.ref (cl 1))=some true
 E_Full_FaultError:PySem.W.exmOne K (.ref (cl 6)) (.ref (cl 1))=some true
 E_Twice_FaultError:PySem.W.exmOne K (.ref (cl 5)) (.ref (cl 1))=some true
 E_NoPlace_FaultError:PySem.W.exmOne K (.ref (cl 4)) (.ref (cl 1))=some true
 E_NoForm_FaultError:PySem.W.exmOne K (.ref (cl 3)) (.ref (cl 1))=some true
 E_TooLong_FaultError:PySem.W.exmOne K (.ref (cl 2)) (.ref (cl 1))=some true
 eB:sx K (cl 0) "add_in" "Draft.add_in" cm
 cC:sx K (cl 0) "wire_numbers" "Draft.wire_numbers" bw
 dy:sx K (cl 0) "add_gate" "Draft.add_gate" bQ
 dM:sx K (cl 0) "add_out" "Draft.add_out" b7
 dw:MC K (cl 0) "__init__" "Draft.__init__" bR
theorem P9{K:W.Frag}{h:Heap}{mg:Aaf}(X:K.In h)(G:h.Ns mainGlobals mg){C0:Addr}{C1:Addr}{C2:Addr}{C3:Addr}{C4:Addr}{C5:Addr}{C6:Addr}{C7:Addr}{C8:Addr}{C9:Addr}{Hi:Addr}{Hl:Addr}{Ho:Addr}{Hq:Addr}{Hm:Addr}{f0:Addr}{ZU Zs:Option Addr}{Z0:Array (Option Value)}{ZM kV0 ZK pm0 W5 ZC:Value}{f1:Addr}{ZN ZR:Option Addr}{ZJ:Array (Option Value)}{oc1 Z8 Zz ZO W9 Z9:Value}{f2:Addr}{ZT ZL:Option Addr}{Vm:Array (Option Value)}{ZE kV2 ZS pm2 W6 Zx:Value}{f3:Addr}{od3 an3:Option Addr}{Nl:Array (Option Value)}{ZI kV3 ZQ Zy Xa Zt:Value}{f4:Addr}{Z5 Z_:Option Addr}{sl4:Array (Option Value)}{Z1 kV4 dc4 ZG WS Zo:Value}(Ug:PySem.W.nsIn K mainGlobals "Draft"=some (some (.ref C0)))(Ur:PySem.W.plainGet K C0 Str.empty=true)(Ub:PySem.W.hasDictIn K C0=true)(U9:PySem.W.plainOver K C0=true)(Uv:PySem.W.findIn K (.ref C0) "__setattr__"=some (some (.builtin "object.__setattr__")))(T_:PySem.W.makesIn K C0=true)(TM:PySem.W.keepIn K (.ref C0)=true)(AG:PySem.W.findIn K (.ref C0) "ins"=some none)(uL:PySem.W.findIn K (.ref C0) "gates"=some none)(xI:PySem.W.findIn K (.ref C0) "outs"=some none)(uK:PySem.W.findIn K (.ref C0) "names"=some none)(ng:PySem.W.findIn K (.ref C0) "out_names"=some none)(qe:PySem.W.findIn K (.ref C0) "numbers"=some none)(Ux:PySem.W.nsIn K mainGlobals "FaultError"=some (some (.ref C1)))(U8:PySem.W.nsIn K mainGlobals "TooLong"=some (some (.ref C2)))(Vd:PySem.W.nsIn K mainGlobals "NoForm"=some (some (.ref C3)))(UK:PySem.W.nsIn K mainGlobals "NoPlace"=some (some (.ref C4)))(Vt:PySem.W.nsIn K mainGlobals "Twice"=some (some (.ref C5)))(UU:PySem.W.nsIn K mainGlobals "Full"=some (some (.ref C6)))(Vg:PySem.W.nsIn K mainGlobals "NoWire"=some (some (.ref C7)))(U_:PySem.W.nsIn K mainGlobals "Open"=some (some (.ref C8)))(UO:PySem.W.nsIn K mainGlobals "NotPlain"=some (some (.ref C9)))(Nn:PySem.W.nsIn K mainGlobals "NotThree"=some (some (.ref Hi)))(Nr:PySem.W.nsIn K mainGlobals "NotSound"=some (some (.ref Hl)))(Ny:PySem.W.nsIn K mainGlobals "NoFit"=some (some (.ref Ho)))(Nt:PySem.W.nsIn K mainGlobals "NoShape"=some (some (.ref Hq)))(Nk:PySem.W.nsIn K mainGlobals "NoneYet"=some (some (.ref Hm)))(U4:PySem.W.excIn K C2 F9 "ValueError.__new__"=true)(Vk:PySem.W.findIn K (.ref C2) "__getattribute__"=some (some (.builtin "BaseException.__getattribute__")))(UT:PySem.W.findIn K (.ref C2) "__getattr__"=some none)(TQ:PySem.W.findIn K (.ref C2) "__class__"=some (some (.builtin "object.__class__")))(Vi:PySem.W.mroIn K C2 (.type "object")=some true)(U2:PySem.W.mroIn K C2 (.type "BaseException")=some true)(Vl:(PySem.W.clsIn K C2).isSome=true)(UI:PySem.W.excIn K C3 F9 "ValueError.__new__"=true)(Pu:PySem.W.findIn K (.ref C3) "__getattribute__"=some (some (.builtin "BaseException.__getattribute__")))(UP:PySem.W.findIn K (.ref C3) "__getattr__"=some none)(U6:PySem.W.findIn K (.ref C3) "__class__"=some (some (.builtin "object.__class__")))(US:PySem.W.mroIn K C3 (.type "object")=some true)(Uj:PySem.W.mroIn K C3 (.type "BaseException")=some true)(UD:(PySem.W.clsIn K C3).isSome=true)(Ui:PySem.W.excIn K C4 F9 "ValueError.__new__"=true)(O7:PySem.W.findIn K (.ref C4) "__getattribute__"=some (some (.builtin "BaseException.__getattribute__")))(UN:PySem.W.findIn K (.ref C4) "__getattr__"=some none)(UC:PySem.W.findIn K (.ref C4) "__class__"=some (some (.builtin "object.__class__")))(Ve:PySem.W.mroIn K C4 (.type "object")=some true)(Vp:PySem.W.mroIn K C4 (.type "BaseException")=some true)(T8:(PySem.W.clsIn K C4).isSome=true)(Ut:PySem.W.excIn K C5 F9 "ValueError.__new__"=true)(UJ:PySem.W.findIn K (.ref C5) "__getattribute__"=some (some (.builtin "BaseException.__getattribute__")))(U1:PySem.W.findIn K (.ref C5) "__getattr__"=some none)(Uk:PySem.W.findIn K (.ref C5) "__class__"=some (some (.builtin "object.__class__")))(UL:PySem.W.mroIn K C5 (.type "object")=some true)(T9:PySem.W.mroIn K C5 (.type "BaseException")=some true)(U3:(PySem.W.clsIn K C5).isSome=true)(UZ:PySem.W.excIn K C6 F9 "ValueError.__new__"=true)(Vj:PySem.W.findIn K (.ref C6) "__getattribute__"=some (some (.builtin "BaseException.__getattribute__")))(Ua:PySem.W.findIn K (.ref C6) "__getattr__"=some none)(UX:PySem.W.findIn K (.ref C6) "__class__"=some (some (.builtin "object.__class__")))(UW:PySem.W.mroIn K C6 (.type "object")=some true)(Vn:PySem.W.mroIn K C6 (.type "BaseException")=some true)(Uz:(PySem.W.clsIn K C6).isSome=true)(Vf:PySem.W.excIn K C7 F9 "ValueError.__new__"=true)(UG:PySem.W.findIn K (.ref C7) "__getattribute__"=some (some (.builtin "BaseException.__getattribute__")))(T6:PySem.W.findIn K (.ref C7) "__getattr__"=some none)(Uq:PySem.W.findIn K (.ref C7) "__class__"=some (some (.builtin "object.__class__")))(TY:PySem.W.mroIn K C7 (.type "object")=some true)(Uu:PySem.W.mroIn K C7 (.type "BaseException")=some true)(Uo:(PySem.W.clsIn K C7).isSome=true)(Vc:PySem.W.excIn K C8 F9 "ValueError.__new__"=true)(Ue:PySem.W.findIn K (.ref C8) "__getattribute__"=some (some (.builtin "BaseException.__getattribute__")))(UQ:PySem.W.findIn K (.ref C8) "__getattr__"=some none)(Ul:PySem.W.findIn K (.ref C8) "__class__"=some (some (.builtin "object.__class__")))(Vq:PySem.W.mroIn K C8 (.type "object")=some true)(Vs:PySem.W.mroIn K C8 (.type "BaseException")=some true)(U7:(PySem.W.clsIn K C8).isSome=true)(JM:PySem.W.specialIn K (.builtin "object.__class__") "__get__"=some (some (.builtin "getset_descriptor.__get__")))(JP:PySem.W.takesIn K (.builtin "object.__class__")=some true)(lT:PySem.W.kitOne K (.ref C8) (.ref C5)=some false)(jF:PySem.W.kitOne K (.ref C7) (.ref C5)=some false)(lO:PySem.W.kitOne K (.ref C6) (.ref C5)=some false)(kR:PySem.W.kitOne K (.ref C5) (.ref C5)=some true)(iK:PySem.W.kitOne K (.ref C4) (.ref C5)=some false)(jT:PySem.W.kitOne K (.ref C3) (.ref C5)=some false)(i5:PySem.W.kitOne K (.ref C2) (.ref C5)=some false)(uH:PySem.W.kitOne K (.type "NoneType") (.ref C5)=some false)(jK:PySem.W.kitOne K (.ref C8) (.ref C4)=some false)(g_:PySem.W.kitOne K (.ref C7) (.ref C4)=some false)(jG:PySem.W.kitOne K (.ref C6) (.ref C4)=some false)(iO:PySem.W.kitOne K (.ref C5) (.ref C4)=some false)(f_:PySem.W.kitOne K (.ref C4) (.ref C4)=some true)(ib:PySem.W.kitOne K (.ref C3) (.ref C4)=some false)(fY:PySem.W.kitOne K (.ref C2) (.ref C4)=some false)(qc:PySem.W.kitOne K (.type "NoneType") (.ref C4)=some false)(kP:PySem.W.kitOne K (.ref C8) (.ref C3)=some false)(iL:PySem.W.kitOne K (.ref C7) (.ref C3)=some false)(kH:PySem.W.kitOne K (.ref C6) (.ref C3)=some false)(jN:PySem.W.kitOne K (.ref C5) (.ref C3)=some false)(hU:PySem.W.kitOne K (.ref C4) (.ref C3)=some false)(iW:PySem.W.kitOne K (.ref C3) (.ref C3)=some true)(hV:PySem.W.kitOne K (.ref C2) (.ref C3)=some false)(rP:PySem.W.kitOne K (.type "NoneType") (.ref C3)=some false)(jM:PySem.W.kitOne K (.ref C8) (.ref C2)=some false)(ie:PySem.W.kitOne K (.ref C7) (.ref C2)=some false)(jE:PySem.W.kitOne K (.ref C6) (.ref C2)=some false)(i_:PySem.W.kitOne K (.ref C5) (.ref C2)=some false)(f9:PySem.W.kitOne K (.ref C4) (.ref C2)=some false)(ig:PySem.W.kitOne K (.ref C3) (.ref C2)=some false)(fP:PySem.W.kitOne K (.ref C2) (.ref C2)=some true)(qj:PySem.W.kitOne K (.type "NoneType") (.ref C2)=some false)(iH:PySem.W.kitOne K (.ref C8) (.ref C9)=some false)(gb:PySem.W.kitOne K (.ref C7) (.ref C9)=some false)(iM:PySem.W.kitOne K (.ref C6) (.ref C9)=some false)(hJ:PySem.W.kitOne K (.ref C5) (.ref C9)=some false)(eZ:PySem.W.kitOne K (.ref C4) (.ref C9)=some false)(fS:PySem.W.kitOne K (.ref C3) (.ref C9)=some false)(eW:PySem.W.kitOne K (.ref C2) (.ref C9)=some false)(oH:PySem.W.kitOne K (.type "NoneType") (.ref C9)=some false)(nh:PySem.W.kitOne K (.ref C8) (.ref C8)=some true)(kL:PySem.W.kitOne K (.ref C7) (.ref C8)=some false)(m8:PySem.W.kitOne K (.ref C6) (.ref C8)=some false)(lP:PySem.W.kitOne K (.ref C5) (.ref C8)=some false)(jP:PySem.W.kitOne K (.ref C4) (.ref C8)=some false)(kU:PySem.W.kitOne K (.ref C3) (.ref C8)=some false)(jI:PySem.W.kitOne K (.ref C2) (.ref C8)=some false)(xM:PySem.W.kitOne K (.type "NoneType") (.ref C8)=some false)(kJ:PySem.W.kitOne K (.ref C8) (.ref C7)=some false)(i0:PySem.W.kitOne K (.ref C7) (.ref C7)=some true)(kY:PySem.W.kitOne K (.ref C6) (.ref C7)=some false)(jB:PySem.W.kitOne K (.ref C5) (.ref C7)=some false)(gZ:PySem.W.kitOne K (.ref C4) (.ref C7)=some false)(iU:PySem.W.kitOne K (.ref C3) (.ref C7)=some false)(ij:PySem.W.kitOne K (.ref C2) (.ref C7)=some false)(rR:PySem.W.kitOne K (.type "NoneType") (.ref C7)=some false)(m6:PySem.W.kitOne K (.ref C8) (.ref C6)=some false)(kO:PySem.W.kitOne K (.ref C7) (.ref C6)=some false)(m_:PySem.W.kitOne K (.ref C6) (.ref C6)=some true)(lX:PySem.W.kitOne K (.ref C5) (.ref C6)=some false)(jL:PySem.W.kitOne K (.ref C4) (.ref C6)=some false)(k_:PySem.W.kitOne K (.ref C3) (.ref C6)=some false)(jS:PySem.W.kitOne K (.ref C2) (.ref C6)=some false)(xK:PySem.W.kitOne K (.type "NoneType") (.ref C6)=some false)(jV:PySem.W.kitOne K (.ref C8) (.ref Hq)=some false)(ia:PySem.W.kitOne K (.ref C7) (.ref Hq)=some false)(jH:PySem.W.kitOne K (.ref C6) (.ref Hq)=some false)(iZ:PySem.W.kitOne K (.ref C5) (.ref Hq)=some false)(fX:PySem.W.kitOne K (.ref C4) (.ref Hq)=some false)(g7:PySem.W.kitOne K (.ref C3) (.ref Hq)=some false)(f6:PySem.W.kitOne K (.ref C2) (.ref Hq)=some false)(p9:PySem.W.kitOne K (.type "NoneType") (.ref Hq)=some false)(lM:PySem.W.kitOne K (.ref C8) (.ref Ho)=some false)(jR:PySem.W.kitOne K (.ref C7) (.ref Ho)=some false)(lW:PySem.W.kitOne K (.ref C6) (.ref Ho)=some false)(kT:PySem.W.kitOne K (.ref C5) (.ref Ho)=some false)(i3:PySem.W.kitOne K (.ref C4) (.ref Ho)=some false)(jO:PySem.W.kitOne K (.ref C3) (.ref Ho)=some false)(i4:PySem.W.kitOne K (.ref C2) (.ref Ho)=some false)(uM:PySem.W.kitOne K (.type "NoneType") (.ref Ho)=some false)(iJ:PySem.W.kitOne K (.ref C8) (.ref Hl)=some false)(fT:PySem.W.kitOne K (.ref C7) (.ref Hl)=some false)(i8:PySem.W.kitOne K (.ref C6) (.ref Hl)=some false)(g6:PySem.W.kitOne K (.ref C5) (.ref Hl)=some false)(e7:PySem.W.kitOne K (.ref C4) (.ref Hl)=some false)(fR:PySem.W.kitOne K (.ref C3) (.ref Hl)=some false)(e8:PySem.W.kitOne K (.ref C2) (.ref Hl)=some false)(oM:PySem.W.kitOne K (.type "NoneType") (.ref Hl)=some false)(iS:PySem.W.kitOne K (.ref C8) (.ref Hi)=some false)(fO:PySem.W.kitOne K (.ref C7) (.ref Hi)=some false)(iQ:PySem.W.kitOne K (.ref C6) (.ref Hi)=some false)(g4:PySem.W.kitOne K (.ref C5) (.ref Hi)=some false)(e_:PySem.W.kitOne K (.ref C4) (.ref Hi)=some false)(fV:PySem.W.kitOne K (.ref C3) (.ref Hi)=some false)(eY:PySem.W.kitOne K (.ref C2) (.ref Hi)=some false)(oK:PySem.W.kitOne K (.type "NoneType") (.ref Hi)=some false)(gc:PySem.W.kitOne K (.ref C8) (.type "ValueError")=some true)(eF:PySem.W.kitOne K (.ref C7) (.type "ValueError")=some true)(fU:PySem.W.kitOne K (.ref C6) (.type "ValueError")=some true)(fj:PySem.W.kitOne K (.ref C5) (.type "ValueError")=some true)(dX:PySem.W.kitOne K (.ref C4) (.type "ValueError")=some true)(eA:PySem.W.kitOne K (.ref C3) (.type "ValueError")=some true)(dZ:PySem.W.kitOne K (.ref C2) (.type "ValueError")=some true)(lS:PySem.W.kitOne K (.type "NoneType") (.type "ValueError")=some false)(jD:PySem.W.kitOne K (.ref C8) (.ref Hm)=some false)(g8:PySem.W.kitOne K (.ref C7) (.ref Hm)=some false)(jC:PySem.W.kitOne K (.ref C6) (.ref Hm)=some false)(iX:PySem.W.kitOne K (.ref C5) (.ref Hm)=some false)(f7:PySem.W.kitOne K (.ref C4) (.ref Hm)=some false)(h_:PySem.W.kitOne K (.ref C3) (.ref Hm)=some false)(fZ:PySem.W.kitOne K (.ref C2) (.ref Hm)=some false)(p_:PySem.W.kitOne K (.type "NoneType") (.ref Hm)=some false)(fW:PySem.W.exmOne K (.ref C8) (.ref C1)=some true)(eK:PySem.W.exmOne K (.ref C7) (.ref C1)=some true)(fQ:PySem.W.exmOne K (.ref C6) (.ref C1)=some true)(eX:PySem.W.exmOne K (.ref C5) (.ref C1)=some true)(dY:PySem.W.exmOne K (.ref C4) (.ref C1)=some true)(eD:PySem.W.exmOne K (.ref C3) (.ref C1)=some true)(dW:PySem.W.exmOne K (.ref C2) (.ref C1)=some true)(kF:PySem.W.findIn K (.ref C0) "add_in"=some (some (.ref f0)))(kI:PySem.W.isFn K (.ref f0)=true)(kW:K.lookup f0=some ⟨ZM,ZU, .func (PySem.W.fnOf "add_in" "Draft.add_in" (jf cm) (a9 cm) (aJ cm) .none kV0 ZK pm0 Zs W5 ZC),Z0⟩)(ee:PySem.W.codeIn K W5 "Draft.add_in"=true)(g9:PySem.W.keepIn K (.ref f0)=true)(eL:PySem.W.findIn K (.ref C0) "wire_numbers"=some (some (.ref f1)))(eE:PySem.W.isFn K (.ref f1)=true)(eG:K.lookup f1=some ⟨oc1,ZN, .func (PySem.W.fnOf "wire_numbers" "Draft.wire_numbers" (jf bw) (a9 bw) (aJ bw) .none Z8 Zz ZO ZR W9 Z9),ZJ⟩)(cB:PySem.W.codeIn K W9 "Draft.wire_numbers"=true)(c7:PySem.W.keepIn K (.ref f1)=true)(iR:PySem.W.findIn K (.ref C0) "add_gate"=some (some (.ref f2)))(jb:PySem.W.isFn K (.ref f2)=true)(ja:K.lookup f2=some ⟨ZE,ZT, .func (PySem.W.fnOf "add_gate" "Draft.add_gate" (jf bQ) (a9 bQ) (aJ bQ) .none kV2 ZS pm2 ZL W6 Zx),Vm⟩)(dh:PySem.W.codeIn K W6 "Draft.add_gate"=true)(eR:PySem.W.keepIn K (.ref f2)=true)(jU:PySem.W.findIn K (.ref C0) "add_out"=some (some (.ref f3)))(jJ:PySem.W.isFn K (.ref f3)=true)(jW:K.lookup f3=some ⟨ZI,od3, .func (PySem.W.fnOf "add_out" "Draft.add_out" (jf b7) (a9 b7) (aJ b7) .none kV3 ZQ Zy an3 Xa Zt),Nl⟩)(dH:PySem.W.codeIn K Xa "Draft.add_out"=true)(fK:PySem.W.keepIn K (.ref f3)=true)(iV:PySem.W.findIn K (.ref C0) "__init__"=some (some (.ref f4)))(iY:PySem.W.isFn K (.ref f4)=true)(iI:K.lookup f4=some ⟨Z1,Z5, .func (PySem.W.fnOf "__init__" "Draft.__init__" (jf bR) (a9 bR) (aJ bR) .none kV4 dc4 ZG Z_ WS Zo),sl4⟩)(di:PySem.W.codeIn K WS "Draft.__init__"=true)(jc:PySem.W.keepIn K (.ref f4)=true):∃cl,Cf K mg cl:=by
 exact⟨fun n=>if n=0 then C0 else if n=1 then C1 else if n=2 then C2 else if n=3 then C3 else if n=4 then C4 else if n=5 then C5 else if n=6 then C6 else if n=7 then C7 else if n=8 then C8 else if n=9 then C9 else if n=10 then Hi else if n=11 then Hl else if n=12 then Ho else if n=13 then Hq else Hm,⟨Ur,Ub,U9,Uv⟩,AG,uL,xI,uK,ng,qe,PySem.W.mg_of X G Ug,PySem.W.mg_of X G Ux,PySem.W.mg_of X G U8,PySem.W.mg_of X G Vd,PySem.W.mg_of X G UK,PySem.W.mg_of X G Vt,PySem.W.mg_of X G UU,PySem.W.mg_of X G Vg,PySem.W.mg_of X G U_,PySem.W.mg_of X G UO,PySem.W.mg_of X G Nn,PySem.W.mg_of X G Nr,PySem.W.mg_of X G Ny,PySem.W.mg_of X G Nt,PySem.W.mg_of X G Nk,⟨U4,Vk,UT,TQ,JM,JP,Vi,U2,Vl⟩,⟨UI,Pu,UP,U6,JM,JP,US,Uj,UD⟩,⟨Ui,O7,UN,UC,JM,JP,Ve,Vp,T8⟩,⟨Ut,UJ,U1,Uk,JM,JP,UL,T9,U3⟩,⟨UZ,Vj,Ua,UX,JM,JP,UW,Vn,Uz⟩,⟨Vf,UG,T6,Uq,JM,JP,TY,Uu,Uo⟩,⟨Vc,Ue,UQ,Ul,JM,JP,Vq,Vs,U7⟩,lT,jF,lO,kR,iK,jT,i5,uH,jK,g_,jG,iO,f_,ib,fY,qc,kP,iL,kH,jN,hU,iW,hV,rP,jM,ie,jE,i_,f9,ig,fP,qj,iH,gb,iM,hJ,eZ,fS,eW,oH,nh,kL,m8,lP,jP,kU,jI,xM,kJ,i0,kY,jB,gZ,iU,ij,rR,m6,kO,m_,lX,jL,k_,jS,xK,jV,ia,jH,iZ,fX,g7,f6,p9,lM,jR,lW,kT,i3,jO,i4,uM,iJ,fT,i8,g6,e7,fR,e8,oM,iS,fO,iQ,g4,e_,fV,eY,oK,gc,eF,fU,fj,dX,eA,dZ,lS,jD,g8,jC,iX,f7,h_,fZ,p_,fW,eK,fQ,eX,dY,eD,dW,⟨_,_,q8 (st:=cm) kW ee g9,⟨kF,kI,g9⟩⟩,⟨_,_,q8 (st:=bw) eG cB c7,⟨eL,eE,c7⟩⟩,⟨_,_,q8 (st:=bQ) ja dh eR,⟨iR,jb,eR⟩⟩,⟨_,_,q8 (st:=b7) jW dH fK,⟨jU,jJ,fK⟩⟩,⟨_,_,q8 (st:=bR) iI di jc,⟨T_,iV,iY,TM⟩⟩⟩
theorem Mp{K:W.Frag}{mg:Aaf}{f:Addr}{fd:FuncData}{cl:Aag}(T:Tp P w K mg cl)(rN:Def K mg "is_name" mC)(qd:Def K mg "in_wires" kE)(kQ:Def K mg "is_wire_form" eh)(i9:Def K mg "are_wire_forms" dk)(m5:Def K mg "is_in_form" gz)(kN:Def K mg "is_gate_form" d9)(lV:Def K mg "is_out_form" fB)(eB:sx K (cl 0) "add_in" "Draft.add_in" cm)(cC:sx K (cl 0) "wire_numbers" "Draft.wire_numbers" bw)(dy:sx K (cl 0) "add_gate" "Draft.add_gate" bQ)(dM:sx K (cl 0) "add_out" "Draft.add_out" b7)(qb:Def K mg "read_row" kf)(dw:MC K (cl 0) "__init__" "Draft.__init__" bR)(AF:Def K mg "read" ub)(lN:Def K mg "_law_cell_at" fm)(qh:Def K mg "_law_stir" ki)(rQ:Def K mg "_law_bad" l6)(lR:Def K mg "_law_any_row" fD)(rO:Def K mg "_law_due" my)(m7:Def K mg "_law_behind" gp)(nc:Def K mg "_law_judged" gr)(lQ:Def K mg "_law_refused" fw)(qg:Def K mg "_law_full" ky)(F:z0 K "law" "law" BV f fd):jk P w K mg base vT 8 f fd ["script"] (Jg K 1 BW):=by
 have cY:=Co (P:=P) (w:=w) (base:=base) T rN;have qf:=zR (P:=P) (w:=w) (base:=base) T qd;have kM:=t_ (P:=P) (w:=w) (base:=base) T kQ cY;have cM:=rq (P:=P) (w:=w) (base:=base) T i9 kM;have nj:=xh (P:=P) (w:=w) (base:=base) T m5 cY;have kZ:=tf (P:=P) (w:=w) (base:=base) T kN cY cM;have lU:=uW (P:=P) (w:=w) (base:=base) T lV cY cM;have jQ:lh P w K mg base cl 2 0 "add_in" 2 cV:=ee T eB qf;have bY:lh P w K mg base cl 1 0 "wire_numbers" 1 bB:=cB T cC;have g5:lh P w K mg base cl 2 0 "add_gate" 4 cE:=dh T dy bY;have iT:lh P w K mg base cl 2 0 "add_out" 2 cK:=dH T dM bY;have oJ:fJ P w K mg base cl 5 "read_row" 2 gd:=Ao T qb nj kZ lU jQ g5 iT;have hX:=di (P:=P) (w:=w) (base:=base) T dw;have xN:fJ P w K mg base cl 6 "read" 1 jg:=Le T AF hX oJ;have C_law_cell_at:=ve (P:=P) (w:=w) (base:=base) T lN;have bz:=zU (P:=P) (w:=w) (base:=base) T qh;have C_law_bad:=Cq (P:=P) (w:=w) (base:=base) T rQ bz;have C_law_any_row:=uR (P:=P) (w:=w) (base:=base) T lR bz;have rS:=Dx (P:=P) (w:=w) (base:=base) T rO;have nk:=wc (P:=P) (w:=w) (base:=base) T m7;have C_law_judged:=xD (P:=P) (w:=w) (base:=base) T nc rS nk;have XK_law_refused:=vb (P:=P) (w:=w) (base:=base) T lQ xN;have XP_law_refused:=XK_law_refused.p;have C_law_full:=Ap (P:=P) (w:=w) (base:=base) T qg bz;exact(uc (cl:=cl) (N:=ph) (F:=tw) (k:=7) Me.2 xc.2 F nW (fun dJ A outer s H E hr=>(bO (en nW.nd rfl (Or.inl rfl) (xb (ax ah))) (bO (FR PassesOwn.never rfl (oi (gM (jx (ae 0) eu (dt ai)))) (ox nW.nd rfl (Or.inl rfl)) (c6 (yB (gW (bE (nH hr.units) (au cZ (aP bz hr (by decide) rfl (aa (ae 2) (aa ai ah)) (aA (aA a_))) ai) ai (bJ _))) (c6 (DZ rfl (Or.inl rfl) (aD (ay (ax (aa (aP C_law_bad hr (by decide) rfl (aa (ae 2) ah) (aA a_)) (aa af (aa af (aa ai (aa (ay (ax ah)) ah)))))))))) (c6 (DZ rfl (Or.inl rfl) (aD (aP C_law_any_row hr (by decide) rfl (aa (ae 2) ah) (aA a_)))))))) (IF 1 (bO (en nW.nd rfl (Or.inl rfl) (aD (aP C_law_cell_at hr (by decide) rfl (aa (ae 0) (aa ai ah)) (aA (aA a_))))) (bO (yB (gW (bE (nH hr.units) (ae 1) (ay (ax ah)) (bJ _))) (c6 (en nW.nd rfl (Or.inl rfl) (aD (ay (ax (aa (ay (ax (aa af (aa af (aa af (aa ai (aa (ay (ax ah)) ah))))))) ah)))))) sO) (bO (yB (gW (bE (nH hr.units) (au cZ (aP bz hr (by decide) rfl (aa (ae 3) (aa ai ah)) (aA (aA a_))) ai) ai (bJ _))) (bO (en nW.nd rfl (Or.inl rfl) (aD (bp (ay (ax (aa ai (aa ai (aa ai (aa ai (aa (au aV ai (au cZ (aP bz hr (by decide) rfl (aa (ae 3) (aa ai ah)) (aA (aA a_))) ai)) ah))))))) (au cZ (aP bz hr (by decide) rfl (aa (ae 3) (aa ai ah)) (aA (aA a_))) ai) (fun _ _=>rfl)))) (bO (en nW.nd rfl (Or.inl rfl) (aD (jx (au KR (ae 1) (ae 4)) eu (dt (ae 4))))) (c6 (yB (gW (bE (nH hr.units) (au cZ (aP bz hr (by decide) rfl (aa (ae 3) (aa ai ah)) (aA (aA a_))) ai) ai (bJ _))) (c6 (en nW.nd rfl (Or.inl rfl) (aD (aP C_law_full hr (by decide) rfl (aa (ae 3) ah) (aA a_))))) sO)))) sO) (bO (en nW.nd rfl (Or.inr rfl) (aD (aP C_law_judged hr (by decide) rfl (aa (ae 1) ah) (aA a_)))) (bO (yB (gW (bE JC (cL oq rfl T.z_len PySem.boot_len (aa (ae 1) ah)) ai (bJ _))) (c6 (en nW.nd rfl (Or.inr rfl) (aD ai))) sO) (bO (en nW.nd rfl (Or.inl rfl) (aD (qx af (aa (ay (l7 rfl (eU.of (own:=["row"]) (kp:=[]) (kn:=[]) (sc:=xc.1) (N:=ph) rfl rfl (by decide+kernel)) (gM (ae 1)) (fun _ _ _=>(aZ (show List.Nodup [(Str.ofString "row")] from by decide+kernel) rfl (Or.inl rfl))) (fun _ _ _=>lZ) (fun _ _ _=>(bp (ae 0) ai (fun _ _=>rfl))))) ah)))) (c6 (wj (LG (nH hr.units) (Js XP_law_refused hr (by decide) rfl (aN (aD (ae 6)) bV) (cF js)) (aD (ay (l7 rfl (eU.of (own:=["k"]) (kp:=[5]) (kn:=["due"]) (sc:=xc.1) (N:=ph) rfl rfl (by decide+kernel)) (gf (bp (ay (ax (aa ai (aa ai ah)))) (mX Aw rfl T.z_int PyProof.Rows.boot_int (aa (eP zY (ae 5) ai (bJ _)) ah)) (fun _ _=>rfl)) rfl T.z_range) (fun _ _ _=>(aZ (show List.Nodup [(Str.ofString "k"),"due"] from by decide+kernel) rfl (Or.inl rfl))) (fun _ _ _=>lZ) (fun _ _ _=>(eP (nH hr.units) (ae 1) (ae 0) (bJ _)))))) (bJ _))))))))))))))).imp fun _ _ _ _ h=>Nf h
end K05
end
section
set_option maxHeartbeats 1000000
namespace K05
open PySem PySem.Spec PyProof.Rows L2 L3 MT JT TX
theorem mE{w:Str}(h:w.length<=10000000):dm [.str w]= .ok (.bl (isNm w)):=by
 have hz:sizeLine=16777216:=sizeLine_eq;unfold dm vR;have e:isNm w=(!(decide (w.length < 1) || (decide (8 < w.length) || nR.contains w)) && low w):=by
  unfold isNm;by_cases h1:1<=w.length
  .rw [decide_eq_true h1,decide_eq_false (by omega:¬w.length < 1)]
   by_cases h2:w.length<=8
   .rw [decide_eq_true h2,decide_eq_false (by omega:¬8 < w.length)];simp
   .rw [decide_eq_false h2,decide_eq_true (by omega:8 < w.length)];simp
  .rw [decide_eq_false h1,decide_eq_true (by omega:w.length < 1)];simp
 rw[e];refine dQ (AY (mY (cD (a:=nI w.length) (b:=nI 1) (aK (ds:=[.str w]) rfl (len_str h)) rfl (wA _ _)) fun _=>mY (cD (a:=nI w.length) (b:=nI 8) (aK (ds:=[.str w]) rfl (len_str h)) rfl (FF _ _)) fun _=>cD (a:= .str w) (b:= .tup (nR.map .str)) rfl rfl (Gj w nR)) fun _=>bW ?_)
 refine aK (ds:=[.lst ((w.cps.toList.map fun c=>decide (97<=c/\c<=122)).map D.bl)]) (aj (aL (kg (ds:=w.cps.toList.map fun c=> .str ⟨#[c]⟩) rfl (by rw[List.length_map,Array.length_toList];show w.length<=_;omega) ?_)) rfl) ?_
 .rw [List.map_map];exact NT.iA (fun c=> .str ⟨#[c]⟩) _ fun c hc=>⟨[.val (.str ⟨#[c]⟩)],rfl,rfl,az (a:= .str ⟨#[c]⟩) (b:= .str Ha) rfl rfl (LB c)⟩
 .rw [GP,List.all_map];rfl
theorem w9{w:Str}(h:w.length<=10000000):d6 [.str w]= .ok (.bl (jY w)):=by
 have hz:sizeLine=16777216:=sizeLine_eq;obtain⟨a,b,d,e⟩:=GQ w CO;have ha:a.length<=10000000:=by
  unfold ju at e;split at e
  .have:a=Builtin.Str.strSub w 0 _:=(List.cons.inj e).1.symm;rw[this];exact Nat.le_trans (strSub_length_le ..) h
  .have:a=w:=(List.cons.inj e).1.symm;rw[this];exact h
 unfold d6 oA jY;rw[e];have hp:xY (.str w) [.str CO]= .ok (.tup ([a,b,d].map .str)):=by
  rw[<-e];exact bS _ ⟨by rw[Bw];rfl,by omega⟩
 refine dQ (aH (bH (d:= .tup ([a,b,d].map .str)) (lq (x:=w) rfl rfl hp) (by simp [dn,kD])) (bW ?_))
 exact oU (aK (ds:=[.str a]) rfl (mE ha)) fun _=>Ej (az (a:= .str b) (b:= .str Str.empty) rfl rfl (rB _ _)) fun _=>az (a:= .str d) (b:= .tup (zq.map .str)) rfl rfl (Gj d zq)
theorem pk{ws:List Str}(hl:ws.length<=10000000)(h:∀w∈ws,w.length<=10000000):cn [.lst (ws.map .str)]= .ok (.bl (ws.all jY)):=by
 have hz:sizeLine=16777216:=sizeLine_eq;unfold cn mh;refine dQ (bW (aK (ds:=[.lst ((ws.map jY).map D.bl)]) (aj (aL (kg (ds:=ws.map .str) (lG rfl) (by rw[List.length_map];omega) ?_)) rfl) ?_))
 .rw [List.map_map];exact NT.iA D.str _ fun w hw=>⟨[.val (.str w)],rfl,rfl,aK (ds:=[.str w]) rfl (w9 (h w hw))⟩
 .rw [GP,List.all_map];rfl
section
variable {ws:List Str}
theorem zJ(hl:ws.length<=10000000)(h:∀w∈ws,w.length<=10000000):gE [.lst (ws.map .str)]= .ok (.bl (uY ws)):=by
 have hw:∀i,(wd ws i).length<=10000000:=fun i=>by
  unfold wd;rw[List.getD_eq_getElem?_getD];cases hx:ws[i]? with
  | none=>exact Nat.zero_le _
  | some w=>exact h w (List.mem_of_getElem? hx)
 unfold gE qR uY;refine dQ (bW (oU (az (a:=nI ws.length) (b:=nI 3) (aK (ds:=[.lst (ws.map .str)]) rfl (by rw[mV,List.length_map])) rfl (yM _ _)) fun h3=>?_))
 have h3:=of_decide_eq_true h3;refine oU (az (a:= .str (wd ws 0)) (b:= .str (Str.ofString "in")) (az (a:= .lst (ws.map .str)) (b:= .int (0:Nat)) rfl rfl (vB (by omega))) rfl (rB _ _)) fun _=>?_
 refine oU (aK (ds:=[.str (wd ws 1)]) (aj (az (a:= .lst (ws.map .str)) (b:= .int (1:Nat)) rfl rfl (vB (by omega))) rfl) (mE (hw 1))) fun _=>?_
 unfold Ll;rw[show e2 dN (ao 0) (eC (.int 2)) (dn mR [.lst (ws.map .str)])= .ok (.str (wd ws 2)) from az (a:= .lst (ws.map .str)) (b:= .int (2:Nat)) rfl rfl (vB (by omega)),R.aO]
 rfl
theorem xk(hl:ws.length<=10000000)(h:∀w∈ws,w.length<=10000000):eo [.lst (ws.map .str)]= .ok (.bl (yw ws)):=by
 have hw:∀i,(wd ws i).length<=10000000:=fun i=>by
  unfold wd;rw[List.getD_eq_getElem?_getD];cases hx:ws[i]? with
  | none=>exact Nat.zero_le _
  | some w=>exact h w (List.mem_of_getElem? hx)
 have ix:∀{i:Nat} {δ:aw},i < ws.length->ao 0 δ= .ok (.lst (ws.map .str))->e2 dN (ao 0) (eC (.int i)) δ= .ok (.str (wd ws i)):=fun hi hv=>az (a:= .lst (ws.map .str)) hv rfl (vB hi)
 unfold eo nV;have e:yw ws=(!(decide (ws.length < 4) || !([Str.ofString "gate",Str.ofString "sure"].contains (wd ws 0))) && (!(!(isNm (wd ws 1)) || !((Az.lookup (wd ws 2)).isSome)) && (decide (((ws.drop 3).length:Int)=(Az.lookup (wd ws 2)).getD 0) && (ws.drop 3).all jY))):=by
  unfold yw;by_cases h4:4<=ws.length
  .rw [decide_eq_true h4,decide_eq_false (by omega:¬ws.length < 4)];simp
  .rw [decide_eq_false h4,decide_eq_true (by omega:ws.length < 4)];simp
 rw[e];refine dQ (AY (mY (cD (a:=nI ws.length) (b:=nI 4) (aK (ds:=[.lst (ws.map .str)]) rfl (by rw[mV,List.length_map])) rfl (wA _ _)) fun h4=>cD (a:= .str (wd ws 0)) (b:= .tup ([Str.ofString "gate",Str.ofString "sure"].map .str)) (ix (i:=0) (by have:=of_decide_eq_false h4;omega) rfl) rfl (LC _ _)) fun h4=>?_)
 have h4:4<=ws.length:=by
  have:=(Bool.or_eq_false_iff.mp h4).1;have:=of_decide_eq_false this;omega
 refine AY (mY (Bc (qG (aK (ds:=[.str (wd ws 1)]) (aj (ix (i:=1) (by omega) rfl) rfl) (mE (hw 1))))) fun _=>?_) fun hk=>?_
 .unfold Mn;rw[show e2 dN (ao 0) (eC (.int 2)) (dn gy [.lst (ws.map .str)])= .ok (.str (wd ws 2)) from ix (i:=2) (by omega) rfl,R.aO]
  rfl
 .have hk:(Az.lookup (wd ws 2)).isSome=true:=by
   have:=(Bool.or_eq_false_iff.mp hk).2;cases hq:(Az.lookup (wd ws 2)).isSome with
   | true=>rfl
   | false=>rw [hq] at this;cases this
  obtain⟨n,hn⟩:=Option.isSome_iff_exists.mp hk;refine aH (bH (d:= .lst ((ws.drop 3).map .str)) (kq (d:= .lst (ws.map .str)) (lo:=some ((3:Nat):Int)) (hi:=none) rfl (dI rfl) rfl ((sP (by rw[List.length_map];omega)).trans (by rw[List.map_drop]))) (by simp [dn,gy])) (bW (oU ?_ fun _=>?_))
  .rw [hn];refine az (a:=nI (ws.drop 3).length) (b:= .int n) (aK (ds:=[.lst ((ws.drop 3).map .str)]) rfl (by rw[mV,List.length_map])) ?_ ?_
   .unfold xZ;rw[show e2 dN (ao 0) (eC (.int 2)) _= .ok (.str (wd ws 2)) from ix (i:=2) (by omega) rfl,R.aO]
    show(match Az.lookup (wd ws 2) with | some i=>R.ok (D.int i) | none=> .no)=_
    rw[hn]
   .show R.ok (D.bl ((((ws.drop 3).length:Nat):Int)==n))=_;congr 2
  .exact aK (ds:=[.lst ((ws.drop 3).map .str)]) rfl (pk (by rw[List.length_drop];omega) fun w UH=>h w (List.mem_of_mem_drop UH))
theorem yA(hl:ws.length<=10000000)(h:∀w∈ws,w.length<=10000000):fu [.lst (ws.map .str)]= .ok (.bl (xQ ws)):=by
 have hw:∀i,(wd ws i).length<=10000000:=fun i=>by
  unfold wd;rw[List.getD_eq_getElem?_getD];cases hx:ws[i]? with
  | none=>exact Nat.zero_le _
  | some w=>exact h w (List.mem_of_getElem? hx)
 have ix:∀{i:Nat} {δ:aw},i < ws.length->ao 0 δ= .ok (.lst (ws.map .str))->e2 dN (ao 0) (eC (.int i)) δ= .ok (.str (wd ws i)):=fun hi hv=>az (a:= .lst (ws.map .str)) hv rfl (vB hi)
 unfold fu pC;have e:xQ ws=(!(decide (ws.length < 3) || (!(wd ws 0==Str.ofString "out") || !(isNm (wd ws 1)))) && (decide ((ws.drop 2).length<=3) && (ws.drop 2).all jY)):=by
  unfold xQ;by_cases h4:3<=ws.length
  .rw [decide_eq_true h4,decide_eq_false (by omega:¬ws.length < 3)];simp
  .rw [decide_eq_false h4,decide_eq_true (by omega:ws.length < 3)];simp
 rw[e];refine dQ (AY (mY (cD (a:=nI ws.length) (b:=nI 3) (aK (ds:=[.lst (ws.map .str)]) rfl (by rw[mV,List.length_map])) rfl (wA _ _)) fun h4=>?_) fun h4=>?_)
 .have h4:=of_decide_eq_false h4;exact mY (cD (a:= .str (wd ws 0)) (b:= .str (Str.ofString "out")) (ix (i:=0) (by omega) rfl) rfl (M7 _ _)) fun _=>Bc (qG (aK (ds:=[.str (wd ws 1)]) (aj (ix (i:=1) (by omega) rfl) rfl) (mE (hw 1))))
 have h4:3<=ws.length:=by
  have:=(Bool.or_eq_false_iff.mp h4).1;have:=of_decide_eq_false this;omega
 refine aH (bH (d:= .lst ((ws.drop 2).map .str)) (kq (d:= .lst (ws.map .str)) (lo:=some ((2:Nat):Int)) (hi:=none) rfl (dI rfl) rfl ((sP (by rw[List.length_map];omega)).trans (by rw[List.map_drop]))) (by simp [dn,lI])) (bW (oU ?_ fun _=>?_))
 .exact az (a:=nI (ws.drop 2).length) (b:=nI 3) (aK (ds:=[.lst ((ws.drop 2).map .str)]) rfl (by rw[mV,List.length_map])) rfl (Rm _ _)
 .exact aK (ds:=[.lst ((ws.drop 2).map .str)]) rfl (pk (by rw[List.length_drop];omega) fun w UH=>h w (List.mem_of_mem_drop UH))
end
end K05
end
section
namespace K05
open PySem PySem.Spec PyProof.Rows L2 L3 MT JT TX
theorem cj{S:aR}{l:List SO}(i:Nat):(S++l)[S.length+i]? =l[i]?:=by rw[List.getElem?_append_right (by omega),Nat.add_sub_cancel_left]
theorem d5{S:List SO}{l:List SO}(i:Nat)(x:SO):(S++l).set (S.length+i) x=S++l.set i x:=by
 rw[List.set_append,if_neg (by omega),Nat.add_sub_cancel_left]
def CZ(n:Nat):List (Str × V3):=[(Str.ofString "ins", .loc (n+1)),(Str.ofString "gates", .loc (n+2)),(Str.ofString "outs", .loc (n+3)),(Str.ofString "names", .loc (n+4)),(Str.ofString "out_names", .loc (n+5)),(Str.ofString "numbers", .loc (n+6))]
def O4(n:Nat)(d:Dr):List SO:=[.ins 0 (CZ n), .lst (d.ins.map MT.inD), .lst (d.gs.map DK), .lst (d.os.map FL), .dct (xV d.nm), .dct (xV d.on), .dct (NJ d.nu)]
abbrev jv(S:aR)(d:Dr):aR:=S++O4 S.length d
theorem lk{n:Nat}{i:Nat}(h:([Str.ofString "ins",Str.ofString "gates",Str.ofString "outs",Str.ofString "names",Str.ofString "out_names",Str.ofString "numbers"].findIdx? (·==k))=some i):(CZ n).lookup k=some (.loc (n+(i+1))):=by
 unfold CZ;simp only[List.findIdx?_cons,List.findIdx?_nil] at h;have sw:∀a:Str,(k==a)=(a==k):=fun a=>by
  by_cases q:a=k
  .subst q;rfl
  .rw [beq_eq_false_iff_ne.mpr q,beq_eq_false_iff_ne.mpr (Ne.symm q)]
 simp only[List.lookup_cons,sw];split at h
 .rename_i q;rw [q];cases h;rfl
 .rename_i q1;rw[Bool.not_eq_true] at q1;rw[q1];simp only[Option.map_eq_some_iff] at h;obtain⟨j1,h,rfl⟩:=h;split at h
  .rename_i q;rw [q];cases h;rfl
  .rename_i q2;rw[Bool.not_eq_true] at q2;rw[q2];simp only[Option.map_eq_some_iff] at h;obtain⟨j2,h,rfl⟩:=h;split at h
   .rename_i q;rw [q];cases h;rfl
   .rename_i q3;rw[Bool.not_eq_true] at q3;rw[q3];simp only[Option.map_eq_some_iff] at h;obtain⟨j3,h,rfl⟩:=h;split at h
    .rename_i q;rw [q];cases h;rfl
    .rename_i q4;rw[Bool.not_eq_true] at q4;rw[q4];simp only[Option.map_eq_some_iff] at h;obtain⟨j4,h,rfl⟩:=h;split at h
     .rename_i q;rw [q];cases h;rfl
     .rename_i q5;rw[Bool.not_eq_true] at q5;rw[q5];simp only[Option.map_eq_some_iff] at h;obtain⟨j5,h,rfl⟩:=h;split at h
      .rename_i q;rw [q];cases h;rfl
      .cases h
theorem PU{n:Nat}(h:([Str.ofString "ins",Str.ofString "gates",Str.ofString "outs",Str.ofString "names",Str.ofString "out_names",Str.ofString "numbers"].contains m)=false):(CZ n).lookup m=none:=by
 unfold CZ;simp only[List.contains_cons,List.contains_nil,Bool.or_eq_false_iff] at h;obtain⟨h1,h2,h3,h4,h5,h6,_⟩:=h;simp only[List.lookup_cons,h1,h2,h3,h4,h5,h6,List.lookup_nil]
section
variable {S:aR} {d:Dr} {δ:DE}
theorem jA{i j:Nat}{Q:V3->aR->Prop}(hv:δ[j]? =some (some (.loc S.length)))(hk:([Str.ofString "ins",Str.ofString "gates",Str.ofString "outs",Str.ofString "names",Str.ofString "out_names",Str.ofString "numbers"].findIdx? (·==k))=some i)(h:Q (.loc (S.length+(i+1))) (jv S d)):W3 (eV 0 k (bX j) δ (jv S d)) Q:=
 w_fld (k:=S.length) <| w_var (v:= .loc S.length) hv ⟨_,_,rfl,cj 0,lk hk,h⟩
theorem J1:lA (jv S d) (S.length+(0+1))=some d.ins.length:=by unfold lA;rw [cj];simp [O4]
theorem J_:lA (jv S d) (S.length+(1+1))=some d.gs.length:=by unfold lA;rw [cj];simp [O4]
theorem Be:lA (jv S d) (S.length+(2+1))=some d.os.length:=by unfold lA;rw [cj];simp [O4]
theorem JV:lA (jv S d) (S.length+(5+1))=some d.nu.length:=by unfold lA;rw [cj];simp [O4,wm]
theorem Kn:rH (.d (.str x)) (.loc (S.length+(3+1))) (jv S d)=some (if x∈d.nm then some (.bl true) else none):=by
 have e:(jv S d)[S.length+(3+1)]? =some (.dct (xV d.nm)):=cj _;unfold rH;simp only[tH,e];rw[qF]
theorem P2:rH (.d (.str x)) (.loc (S.length+(4+1))) (jv S d)=some (if x∈d.on then some (.bl true) else none):=by
 have e:(jv S d)[S.length+(4+1)]? =some (.dct (xV d.on)):=cj _;unfold rH;simp only[tH,e];rw[qF]
theorem Ka:rH (.d (.str x)) (.loc (S.length+(5+1))) (jv S d)=some ((idx d.nu x).map nI):=by
 have e:(jv S d)[S.length+(5+1)]? =some (.dct (G6 0 d.nu)):=cj _;unfold rH;simp only[tH,e];rw[tO];congr 1;cases idx d.nu x with
 | none=>rfl
 | some i=>show some (nI (0+i))=_;rw [Nat.zero_add];rfl
theorem Sq{a b:Str}{f:FD}{δ:aw}{x:Str}(h:f δ= .ok (.str x))(hl:x.length<=1000000)(ha:a.length<=1000)(hb:b.length<=1000):∃y,c4 (b8 (eC (.str a)) (b8 (lY f) (b8 (eC (.str b)) pM))) δ= .ok (.str y):=by
 have hz:sizeLine=16777216:=sizeLine_eq;refine⟨_,pF (ss:=[a,x,b]) (jr rfl (jr (yu h (by omega)) (jr rfl rfl))) ?_⟩
 show(((Str.empty++a)++x)++b).length<=_;rw[Str.length_append,Str.length_append,Str.length_append];show 0+a.length+x.length+b.length<=_;omega
theorem wb{c i:Nat}{a b:Str}{x:Str}{Y:Nat->aR->Prop}{Q:Ou->aR->Prop}(h:(down δ)[i]? =some (.val (.str x)))(hl:x.length<=1000000)(ha:a.length<=1000)(hb:b.length<=1000)(hy:Y c S):WE (fN c (fM (bo (xP (c4 (b8 (eC (.str a)) (b8 (lY (ao i)) (b8 (eC (.str b)) pM))))) dF)) δ S) Q Y:=by
 obtain⟨y,e⟩:=Sq (a:=a) (b:=b) (f:=ao i) (δ:=down δ) (x:=x) (by unfold ao;rw [h]) hl ha hb
 exact qT <| ck <| il e <| iy ⟨by show 1<=sizeLine;decide,hy⟩
theorem A5{nu:List Str}:∀{ws:List Str},eT nu (ws++[w])=(eT nu ws).bind fun l=>(idx nu w).map fun i=>l++[i]
 | []=>by
   show(match idx nu w with | some i=>(eT nu []).map (i ::·) | none=>none)=_
   cases idx nu w <;> rfl
 | y ::ws=>by
   show(match idx nu y with | some i=>(eT nu (ws++[w])).map (i ::·) | none=>none)=_
   rw[A5];show _=(match idx nu y with | some i=>(eT nu ws).map (i ::·) | none=>none).bind _
   cases idx nu y with
   | none=>rfl
   | some i=>
     cases eT nu ws with
     | none=>rfl
     | some l=>cases idx nu w <;> rfl
theorem BM{nu:List Str}(h:idx nu w=none):∀{ws:List Str},w∈ws->eT nu ws=none
 | y ::ws,hm=>by
   show(match idx nu y with | some i=>(eT nu ws).map (i ::·) | none=>none)=_
   rcases List.mem_cons.mp hm with e | e
   .rw [<-e,h]
   .rw [BM h e];cases idx nu y <;> rfl
theorem FU{nu:List Str}:∀{ws:List Str},(∀w∈ws,∃i,idx nu w=some i)->∃l,eT nu ws=some l
 | [],_=>⟨[],rfl⟩
 | y ::ws,h=>by
   obtain⟨i,hi⟩:=h y List.mem_cons_self;obtain⟨l,hl⟩:=FU (ws:=ws) fun w hw=>h w (List.mem_cons_of_mem _ hw)
   refine⟨i ::l,?_⟩;show(match idx nu y with | some i=>(eT nu ws).map (i ::·) | none=>none)=_
   rw[hi,hl];rfl
theorem nq{ws:List Str}(hl:ws.length<=1000)(hw:∀w∈ws,w.length<=1000000):WE (bB [.loc S.length, .d (.lst (ws.map .str))] (jv S d)) (fun v S1=>S1=jv S d/\∃l,eT d.nu ws=some l/\v= .d (.tup (l.map nI))) (fun c S1=>S1=jv S d/\c=7/\eT d.nu ws=none):=by
 have hz:sizeLine=16777216:=sizeLine_eq;unfold bB;refine Na rfl ?_;simp only[dq,cA,List.map,List.length,List.replicate,List.cons_append,List.nil_append,Nat.reduceAdd,Nat.reduceSub];unfold et;refine gT <| Kf <| Eb (ds:=ws.map .str) (lG rfl) ?_
 refine(LN (fun i δ S1=>S1=jv S d/\(∃a2,δ=[some (.loc S.length),some (.d (.lst (ws.map .str))),a2])/\∀w∈ws.take i,∃j,idx d.nu w=some j) ⟨rfl,⟨_,rfl⟩,by simp⟩ ?_).mono (fun o S1 ⟨δ1,e1,e2,⟨a2,e3⟩,h1⟩=>⟨δ1,e1,?_⟩) fun _ _ q=>q
 .rintro i v δ1 S1 hv ⟨rfl,⟨a2,rfl⟩,hi⟩;obtain⟨w,hwi,rfl⟩:=NT.wD hv;refine⟨[some (.loc S.length),some (.d (.lst (ws.map .str))),some (.d (.str w))],rfl,?_⟩;unfold gS;refine pS <| xi <| il (d:= .str w) rfl <| jA (i:=5) rfl (by decide+kernel) ⟨_,Ka,?_⟩
  cases hj:idx d.nu w with
  | none=>
    simp only[Option.map_none,Option.isSome_none,Bool.true_bne,Bool.not_false,if_true];exact wb (x:=w) rfl (hw w (List.mem_of_getElem? hwi)) (by decide+kernel) (by decide+kernel) ⟨rfl,rfl,BM hj (List.mem_of_getElem? hwi)⟩
  | some j=>
    simp only[Option.map_some,Option.isSome_some,Bool.true_bne,Bool.not_true,Bool.false_eq_true,if_false];refine nM ⟨_,rfl,rfl,⟨_,rfl⟩,fun y hy=>?_⟩
    rw[List.take_add_one,hwi] at hy;rcases List.mem_append.mp hy with z | z
    .exact hi y z
    .rw [List.mem_singleton.mp z];exact⟨j,hj⟩
 .subst e2 e3;rw[List.length_map,List.length_map,List.take_length] at h1;obtain⟨l,Qj⟩:=FU h1;refine xF <| yD <| HN <| ck <| HA (fun i ds S2=>S2=jv S d/\∃m,eT d.nu (ws.take i)=some m/\ds=m.map nI) <| Eb (ds:=ws.map .str) (lG rfl) ⟨by rw[List.length_map,List.length_map];omega,⟨rfl,[],rfl,rfl⟩,?_,?_⟩
  .rintro i v ds S2 hv ⟨rfl,m,hm,rfl⟩;obtain⟨w,hwi,rfl⟩:=NT.wD hv;obtain⟨j,hj⟩:=h1 w (List.mem_of_getElem? hwi);refine⟨[some (.d (.str w)),some (.loc S.length)],rfl,Oe ?_⟩;rw[if_pos rfl];refine LV <| jA (i:=5) rfl (by decide+kernel) <| il (d:= .str w) rfl ⟨nI j,by rw[Ka,hj];rfl,_,rfl,rfl,m++[j],?_,?_⟩
   .rw [List.take_add_one,hwi];show eT d.nu (ws.take i++[w])=_;rw[A5,hm,hj];rfl
   .rw [List.map_append];rfl
  .rintro ds S2 ⟨rfl,m,hm,rfl⟩;rw[List.length_map,List.length_map,List.take_length] at hm;exact iy ⟨[.lst (m.map nI)], .tup (m.map nI),rfl,rfl,rfl,m,hm,rfl⟩
end
end K05
end
section
namespace K05
open PySem PySem.Spec PyProof.Rows L2 L3 MT JT TX
theorem HJ{f:FD}{δ:aw}{k:Nat}(hk:k < 3)(h:f δ= .ok (nI k)):lY f δ= .ok (.str (l8 k)):=by
 match k,hk with
 | 0,_=>exact(tT (i:=0) h (by decide+kernel)).trans (by rw[show(toString (0:Int):Str)=l8 0 by decide+kernel])
 | 1,_=>exact(tT (i:=1) h (by decide+kernel)).trans (by rw[show(toString (1:Int):Str)=l8 1 by decide+kernel])
 | 2,_=>exact(tT (i:=2) h (by decide+kernel)).trans (by rw[show(toString (2:Int):Str)=l8 2 by decide+kernel])
theorem yy{x:Str}{w:Nat}(hx:x.length<=8)(hw:w<=3):ka [.str x,nI w]= .ok (.lst ((qS x w).map .str)):=by
 have hz:sizeLine=16777216:=sizeLine_eq;unfold ka s_ qS;by_cases h1:w=1
 .rw [if_pos h1];exact dQ (NT.eM (mi (cD (a:=nI w) (b:=nI 1) rfl rfl (by rw[yM,decide_eq_true h1])) (bW (aL (aM (ds:=[.str x]) rfl (by show 1<=sizeLine;omega))))))
 .rw [if_neg h1];refine dQ (aH (kr (cD (a:=nI w) (b:=nI 1) rfl rfl (by rw[yM,decide_eq_false h1])) rfl) (bW (aL (kg (ds:=(List.range w).map nI) (rX rfl (by omega)) (by simp;omega) ?_))))
  rw[show((List.range w).map fun f=>x++CO++l8 f).map D.str=(List.range w).map fun f=>D.str (x++CO++l8 f) from List.map_map]
  refine NT.iA nI _ fun f hf=>⟨[.val (nI f), .val (.str x)],rfl,rfl,?_⟩
  have hf:f < 3:=Nat.lt_of_lt_of_le (List.mem_range.mp hf) hw;have hfl:(l8 f).length<=1:=by match f,hf with | 0,_=>decide+kernel | 1,_=>decide+kernel | 2,_=>decide+kernel
  refine(pF (ss:=[x,CO,l8 f]) (jr (yu rfl (by omega)) (jr rfl (jr (HJ hf rfl) rfl))) ?_).trans ?_
  .show(((Str.empty++x)++CO)++l8 f).length<=_;rw[Str.length_append,Str.length_append,Str.length_append];show 0+x.length+1+_<=_;omega
  .show R.ok (D.str (((Str.empty++x)++CO)++l8 f))=_;rw[empty_app]
section
variable {S:aR} {d:Dr}
theorem oy{x:Str}(h:isNm x=true):x.length<=1000000:=by have:=(d8.mp h).2.1;omega
theorem uz{α:Type}(l:List α):decide (l.length≠0)=decide (l≠[]):=by cases l <;> simp
theorem Dq{δ:DE}{Q:Bool->aR->Prop}(hv:δ[0]? =some (some (.loc S.length)))(h:Q (decide (d.gs≠[]\/d.os≠[])) (jv S d)):W3 (Pm (ot (eV 0 (Str.ofString "gates") (bX 0))) (ot (eV 0 (Str.ofString "outs") (bX 0))) δ (jv S d)) Q:=by
 refine W3.bind (tG <| jA (i:=1) hv (by decide+kernel) ⟨_,_,rfl,J_,?_⟩)
 rw[uz d.gs];by_cases hg:d.gs≠[]
 .rw [decide_eq_true hg,if_pos rfl];rw[decide_eq_true (.inl hg)] at h;exact W3.ok h
 .rw [decide_eq_false hg,if_neg (by decide)]
  refine tG <| jA (i:=2) hv (by decide+kernel) ⟨_,_,rfl,Be,?_⟩
  rw[uz d.os];have:decide (d.gs≠[]\/d.os≠[])=decide (d.os≠[]):=by
   by_cases ho:d.os≠[]
   .rw [decide_eq_true ho,decide_eq_true (.inr ho)]
   .rw [decide_eq_false ho,decide_eq_false fun q=>q.elim hg ho]
  rw[this] at h;exact h
theorem CU(DD:lF d){w:Nat}(hx:isNm x=true)(hw:w<=3):WE (cV [.loc S.length, .d (.str x), .d (nI w)] (jv S d)) (fun v S1=>v= .d .cN/\∃d',lu d x w= .ok d'/\S1=jv S d') (fun c S1=>lu d x w= .error c/\S1=jv S d):=by
 have hz:sizeLine=16777216:=sizeLine_eq;have hx8:=(d8.mp hx).2.1;unfold cV;refine Na rfl ?_;simp only[dq,gU,List.map,List.length,List.replicate,List.cons_append,List.nil_append,Nat.reduceAdd,Nat.reduceSub];unfold kj;refine gT <| pS <| Dq rfl ?_
 by_cases hb:d.gs≠[]\/d.os≠[]
 .rw [decide_eq_true hb,if_pos rfl];exact wb (x:=x) rfl (oy hx) (by decide+kernel) (by decide+kernel) ⟨by unfold lu;rw [if_pos hb],rfl⟩
 .rw [decide_eq_false hb,if_neg (by decide)]
  refine nM ⟨_,rfl,?_⟩;refine gT <| pS <| xi <| il (d:= .str x) rfl <| jA (i:=3) rfl (by decide+kernel) ⟨_,Kn,?_⟩
  by_cases h2:x∈d.nm
  .rw [if_pos h2];simp only[Option.isSome_some,Bool.false_bne,if_true];exact wb (x:=x) rfl (oy hx) (by decide+kernel) (by decide+kernel) ⟨by unfold lu;rw [if_neg hb,if_pos h2],rfl⟩
  .rw [if_neg h2];simp only[Option.isSome_none,Bool.false_bne,Bool.false_eq_true,if_false];refine nM ⟨_,rfl,?_⟩;refine gT <| pS <| MY <| yo <| jA (i:=0) rfl (by decide+kernel) ⟨_,_,rfl,J1,il (d:=nI 6) rfl ⟨nI d.ins.length,nI 6,_,rfl,rfl,Hw _ _,?_⟩⟩
   by_cases h3:6<=d.ins.length
   .rw [decide_eq_true h3,if_pos rfl];exact wb (x:=x) rfl (oy hx) (by decide+kernel) (by decide+kernel) ⟨by unfold lu;rw [if_neg hb,if_neg h2,if_pos h3],rfl⟩
   .rw [decide_eq_false h3,if_neg (by decide)]
    refine nM ⟨_,rfl,?_⟩;have T4:=DD.ln;have hl2:=DD.lw;have hl3:=DD.li;refine xF <| d7 <| qq <| il (d:= .bl true) rfl <| jA (i:=3) rfl (by decide+kernel) <| il (d:= .str x) rfl ⟨_,_,_,Sum.inr x,xV d.nm,rfl,rfl,rfl,rfl,cj _,by rw[wG];omega,_,rfl,?_⟩
    rw[show(jv S d).set (S.length+(3+1)) (.dct (pX (xV d.nm) (Sum.inr x) (.bl true)))=jv S {d with nm:=d.nm++[x]} by rw[wH h2];exact d5 _ _]
    refine d7 <| Kx <| Eb (ds:=(qS x w).map .str) (lG (aK (ds:=[.str x,nI w]) rfl (yy hx8 hw))) ?_
    refine(vy (fun i δ S1=>S1=jv S {d with nm:=d.nm++[x],nu:=d.nu++(qS x w).take i}/\∃a3,δ=[some (.loc S.length),some (.d (.str x)),some (.d (nI w)),a3]) ⟨by simp,_,rfl⟩ ?_).mono fun o S1 ⟨jj,e1,e2,a3,e3⟩=>⟨jj,e1,?_⟩
    .rintro i v δ S1 hv ⟨rfl,a3,rfl⟩;obtain⟨y,hy,rfl⟩:=NT.wD hv;refine⟨[some (.loc S.length),some (.d (.str x)),some (.d (nI w)),some (.d (.str y))],rfl,?_⟩;unfold mv;have hyn:y ∉ d.nu++(qS x w).take i:=fun q=>by
      rcases List.mem_append.mp q with z | z
      .exact oV DD h2 (ug hx y (List.mem_of_getElem? hy)) z
      .have nd:=GF (x:=x) hw;obtain⟨j,hj⟩:=List.getElem?_of_mem z;rw[List.getElem?_take] at hj;split at hj
       .rename_i hji;have:=qP nd hj hy;omega
       .cases hj
     have hil:(qS x w).length<=3:=by rw[sH];exact hw
     have htl:((qS x w).take i).length<=3:=by rw[List.length_take];omega
     refine qq <| yo <| jA (i:=5) rfl (by decide+kernel) ⟨_,_,rfl,JV,jA (i:=5) rfl (by decide+kernel) <| il (d:= .str y) rfl ⟨_,_,_,Sum.inr y,NJ (d.nu++(qS x w).take i),rfl,rfl,rfl,rfl,cj _,by rw[wm,List.length_append];omega,_,rfl,?_,_,rfl⟩⟩
     rw[show({d with nm:=d.nm++[x],nu:=d.nu++(qS x w).take i}:Dr).nu=d.nu++(qS x w).take i from rfl,show D.int ((d.nu++(qS x w).take i).length:Nat)=nI (d.nu++(qS x w).take i).length from rfl,BH hyn,List.append_assoc,show(qS x w).take i++[y]=(qS x w).take (i+1) by rw[List.take_add_one,hy];rfl]
     exact d5 _ _
    .subst e2 e3;rw[List.length_map,List.length_map,List.take_length];refine ME (k:=S.length+(0+1)) <| jA (i:=0) rfl (by decide+kernel) ⟨rfl,⟨_,cj _⟩,il (d:=MT.inD (x,w)) (II rfl (by show 2<=sizeLine;omega)) ⟨_,d.ins.map MT.inD,rfl,cj _,by rw[List.length_map];omega,trivial,_,by unfold lu;rw [if_neg hb,if_neg h2,if_neg h3],?_⟩⟩
     rw[show d.ins.map MT.inD++[MT.inD (x,w)]=(d.ins++[(x,w)]).map MT.inD by simp]
     exact d5 _ _
theorem y_(DD:lF d){ws:List Str}{s:Bool}(hx:isNm x=true)(hk:kS (yX k)=k)(hl:ws.length<=1000)(hw:∀w∈ws,w.length<=1000000):WE (cE [.loc S.length, .d (.str x), .d (.str k), .d (.lst (ws.map .str)), .d (.bl s)] (jv S d)) (fun v S1=>v= .d .cN/\∃d',addGate d x (yX k) ws s= .ok d'/\S1=jv S d') (fun c S1=>addGate d x (yX k) ws s= .error c/\S1=jv S d):=by
 have hz:sizeLine=16777216:=sizeLine_eq;unfold cE;refine Na rfl ?_;simp only[dq,eQ,List.map,List.length,List.replicate,List.cons_append,List.nil_append,Nat.reduceAdd,Nat.reduceSub];unfold iG;refine gT <| pS <| tG <| jA (i:=2) rfl (by decide+kernel) ⟨_,_,rfl,Be,?_⟩
 rw[uz d.os];by_cases h1:d.os≠[]
 .rw [decide_eq_true h1,if_pos rfl];exact wb (x:=x) rfl (oy hx) (by decide+kernel) (by decide+kernel) ⟨by unfold addGate;rw [if_pos h1],rfl⟩
 rw[decide_eq_false h1,if_neg (by decide)]
 refine nM ⟨_,rfl,?_⟩;refine gT <| pS <| xi <| il (d:= .str x) rfl <| jA (i:=3) rfl (by decide+kernel) ⟨_,Kn,?_⟩
 by_cases h2:x∈d.nm
 .rw [if_pos h2];simp only[Option.isSome_some,Bool.false_bne,if_true];exact wb (x:=x) rfl (oy hx) (by decide+kernel) (by decide+kernel) ⟨by unfold addGate;rw [if_neg h1,if_pos h2],rfl⟩
 rw[if_neg h2];simp only[Option.isSome_none,Bool.false_bne,Bool.false_eq_true,if_false];refine nM ⟨_,rfl,?_⟩;refine gT <| pS <| MY <| yo <| jA (i:=1) rfl (by decide+kernel) ⟨_,_,rfl,J_,il (d:=nI 60) rfl ⟨nI d.gs.length,nI 60,_,rfl,rfl,Hw _ _,?_⟩⟩
 by_cases h3:60<=d.gs.length
 .rw [decide_eq_true h3,if_pos rfl];exact wb (x:=x) rfl (oy hx) (by decide+kernel) (by decide+kernel) ⟨by unfold addGate;rw [if_neg h1,if_neg h2,if_pos h3],rfl⟩
 rw[decide_eq_false h3,if_neg (by decide)]
 refine nM ⟨_,rfl,?_⟩;have T4:=DD.ln;have hl2:=DD.lw;have hl3:=DD.lg;refine gT <| Ea (k:=S.length+(1+1)) <| jA (i:=1) rfl (by decide+kernel) ⟨rfl,⟨_,cj _⟩,Kc <| uw <| E5 <| il (d:= .str k) rfl <| uw <| tL (k:=S.length) <| w_var (v:= .loc S.length) rfl ⟨_,rfl,cj 0,PU (by decide+kernel),ck <| il (d:= .lst (ws.map .str)) rfl <| iy ?_⟩⟩
 refine(nq hl hw).mono ?_ ?_
 .rintro v S1 ⟨rfl,l,Qj,rfl⟩;refine uw <| E5 <| il (d:= .bl s) rfl <| D3 ⟨by show 3<=sizeLine;omega,DK (yX k,l,s),d.gs.map DK,?_,cj _,by rw[List.length_map];omega,_,rfl,?_⟩
  .show V3.d (.tup [.str k, .tup (l.map nI), .bl s])=_;unfold DK;rw[hk]
  rw[show(jv S d).set (S.length+(1+1)) (.lst (d.gs.map DK++[DK (yX k,l,s)]))=jv S {d with gs:=d.gs++[(yX k,l,s)]} by rw[show d.gs.map DK++[DK (yX k,l,s)]=(d.gs++[(yX k,l,s)]).map DK by simp];exact d5 _ _]
  refine xF <| d7 <| qq <| il (d:= .bl true) rfl <| jA (i:=3) rfl (by decide+kernel) <| il (d:= .str x) rfl ⟨_,_,_,Sum.inr x,xV d.nm,rfl,rfl,rfl,rfl,cj _,by rw[wG];omega,_,rfl,?_⟩
  rw[show(jv S {d with gs:=d.gs++[(yX k,l,s)]}).set (S.length+(3+1)) (.dct (pX (xV d.nm) (Sum.inr x) (.bl true)))=jv S {d with gs:=d.gs++[(yX k,l,s)],nm:=d.nm++[x]} by rw[wH h2];exact d5 _ _]
  refine qq <| yo <| jA (i:=5) rfl (by decide+kernel) ⟨_,_,rfl,JV,jA (i:=5) rfl (by decide+kernel) <| il (d:= .str x) rfl ⟨_,_,_,Sum.inr x,NJ d.nu,rfl,rfl,rfl,rfl,cj _,by rw[wm];omega,trivial,_,by unfold addGate;rw [if_neg h1,if_neg h2,if_neg h3,Qj],?_⟩⟩
  rw[show D.int (d.nu.length:Nat)=nI d.nu.length from rfl,BH (oV DD h2 (sI hx))]
  exact d5 _ _
 .rintro c S1 ⟨rfl,rfl,hn⟩;exact⟨by unfold addGate;rw [if_neg h1,if_neg h2,if_neg h3,hn],rfl⟩
theorem zZ(DD:lF d){ws:List Str}(hx:isNm x=true)(hl:ws.length<=1000)(hw:∀w∈ws,w.length<=1000000):WE (cK [.loc S.length, .d (.str x), .d (.lst (ws.map .str))] (jv S d)) (fun v S1=>v= .d .cN/\∃d',gq d x ws= .ok d'/\S1=jv S d') (fun c S1=>gq d x ws= .error c/\S1=jv S d):=by
 have hz:sizeLine=16777216:=sizeLine_eq;unfold cK;refine Na rfl ?_;simp only[dq,fG,List.map,List.length,List.replicate,List.cons_append,List.nil_append,Nat.reduceAdd,Nat.reduceSub];unfold jw;refine gT <| pS <| xi <| il (d:= .str x) rfl <| jA (i:=4) rfl (by decide+kernel) ⟨_,P2,?_⟩
 by_cases h2:x∈d.on
 .rw [if_pos h2];simp only[Option.isSome_some,Bool.false_bne,if_true];exact wb (x:=x) rfl (oy hx) (by decide+kernel) (by decide+kernel) ⟨by unfold gq;rw [if_pos h2],rfl⟩
 rw[if_neg h2];simp only[Option.isSome_none,Bool.false_bne,Bool.false_eq_true,if_false];refine nM ⟨_,rfl,?_⟩;refine gT <| pS <| MY <| yo <| jA (i:=2) rfl (by decide+kernel) ⟨_,_,rfl,Be,il (d:=nI 6) rfl ⟨nI d.os.length,nI 6,_,rfl,rfl,Hw _ _,?_⟩⟩
 by_cases h3:6<=d.os.length
 .rw [decide_eq_true h3,if_pos rfl];exact wb (x:=x) rfl (oy hx) (by decide+kernel) (by decide+kernel) ⟨by unfold gq;rw [if_neg h2,if_pos h3],rfl⟩
 rw[decide_eq_false h3,if_neg (by decide)]
 refine nM ⟨_,rfl,?_⟩;have hl3:=DD.lo;have hon:d.on.length=d.os.length:=by unfold Dr.on;rw [List.length_map]
 refine gT <| Ea (k:=S.length+(2+1)) <| jA (i:=2) rfl (by decide+kernel) ⟨rfl,⟨_,cj _⟩,Kc <| uw <| E5 <| il (d:= .str x) rfl <| uw <| tL (k:=S.length) <| w_var (v:= .loc S.length) rfl ⟨_,rfl,cj 0,PU (by decide+kernel),ck <| il (d:= .lst (ws.map .str)) rfl <| iy ?_⟩⟩
 refine(nq hl hw).mono ?_ ?_
 .rintro v S1 ⟨rfl,l,Qj,rfl⟩;refine D3 ⟨by show 2<=sizeLine;omega,FL (x,l),d.os.map FL,rfl,cj _,by rw[List.length_map];omega,_,rfl,?_⟩
  rw[show(jv S d).set (S.length+(2+1)) (.lst (d.os.map FL++[FL (x,l)]))=S++[.ins 0 (CZ S.length), .lst (d.ins.map MT.inD), .lst (d.gs.map DK), .lst ((d.os++[(x,l)]).map FL), .dct (xV d.nm), .dct (xV d.on), .dct (NJ d.nu)] by rw[show d.os.map FL++[FL (x,l)]=(d.os++[(x,l)]).map FL by simp];exact d5 _ _]
  refine xF <| qq <| il (d:= .bl true) rfl <| w_fld (k:=S.length) <| w_var (v:= .loc S.length) rfl ⟨_,_,rfl,cj 0,lk (i:=4) (by decide+kernel),il (d:= .str x) rfl ⟨_,_,_,Sum.inr x,xV d.on,rfl,rfl,rfl,rfl,cj _,by rw[wG,hon];omega,trivial,_,by unfold gq;rw [if_neg h2,if_neg h3,Qj],?_⟩⟩
  rw[wH h2,show d.on++[x]=({d with os:=d.os++[(x,l)]}:Dr).on by unfold Dr.on;simp]
  exact d5 _ _
 .rintro c S1 ⟨rfl,rfl,hn⟩;exact⟨by unfold gq;rw [if_neg h2,if_neg h3,hn],rfl⟩
end
end K05
end
section
namespace K05
open PySem PySem.Spec PyProof.Rows L2 L3 MT JT TX
structure Rw (n:Nat) (r:Str):Prop where
 len:r.length<=n
 cps:∀c∈r.cps.toList,c < 16 ^ 8
section
variable {S:aR} {d:Dr}
theorem CG{r:Str}{n:Nat}(h:r.length<=n):(Txt.split r SP).length<=n+2/\∀w∈Txt.split r SP,w.length<=n:=
 ⟨Nat.le_trans (split_le r SP) (by omega),fun w hw=>Nat.le_trans (part_short hw) h⟩
theorem M5(DD:lF d)(hr:Rw 1000000 r):WE (gd [.loc S.length, .d (.str r)] (jv S d)) (fun v S1=>v= .d .cN/\∃d',eS d (Txt.split r SP)= .ok d'/\S1=jv S d') (fun c S1=>eS d (Txt.split r SP)= .error c/\S1=jv S d):=by
 have hz:sizeLine=16777216:=sizeLine_eq;have hrl:=hr.len;obtain⟨Qi,hww⟩:=CG hrl;unfold gd;refine Na rfl ?_;simp only[dq,mW,List.map,List.length,List.replicate,List.cons_append,List.nil_append,Nat.reduceAdd,Nat.reduceSub];unfold pJ;refine gT <| xF <| iu (by simp) <| il (d:= .lst ((Txt.split r SP).map .str)) (lq (x:=r) rfl (aj rfl rfl) (by rw[pj];exact tS (by omega))) ⟨_,rfl,?_⟩
 simp only[List.set];generalize Txt.split r SP=ws at Qi hww;have h7:∀w∈ws,w.length<=10000000:=fun w hw=>Nat.le_trans (hww w hw) (by omega)
 have ix:∀{i:Nat} {δ:aw},i < ws.length->ao 2 δ= .ok (.lst (ws.map .str))->e2 dN (ao 2) (eC (.int i)) δ= .ok (.str (wd ws i)):=fun hi hv=>az (a:= .lst (ws.map .str)) hv rfl (vB hi)
 refine pS <| uZ (b:=uY ws) (qG (aK (ds:=[.lst (ws.map .str)]) rfl (zJ (by omega) h7))) ?_
 unfold eS;cases hi:uY ws with
 | true=>
   rw[if_pos rfl,if_pos rfl];have hi':=hi;unfold uY at hi';simp only[Bool.and_eq_true,decide_eq_true_eq] at hi';obtain⟨h3,_,hn,UA⟩:=hi';obtain⟨_,w3,wk⟩:=Gx UA;refine uq <| tL (k:=S.length) <| w_var (v:= .loc S.length) rfl ⟨_,rfl,cj 0,PU (by decide+kernel),ck <| il (d:= .str (wd ws 1)) (ix (i:=1) (by omega) rfl) <| ck <| il (d:=nI (Kq (wd ws 2))) ?_ <| iy ?_⟩
   .unfold xZ;rw[show e2 dN (ao 2) (eC (.int 2)) _= .ok (.str (wd ws 2)) from ix (i:=2) (by omega) rfl,R.aO]
    show(match Br.lookup (wd ws 2) with | some i=>R.ok (D.int i) | none=> .no)=_
    rw[wk];rfl
   .refine(CU DD hn w3).mono ?_ fun _ _ q=>q
    rintro v S1 ⟨rfl,q⟩;exact⟨trivial,q⟩
 | false=>
   rw[if_neg (by decide),if_neg (by decide)]
   refine pS <| uZ (b:=yw ws) (qG (aK (ds:=[.lst (ws.map .str)]) rfl (xk (by omega) h7))) ?_
   cases hg:yw ws with
   | true=>
     rw[if_pos rfl,if_pos rfl];have hg':=hg;unfold yw at hg';simp only[Bool.and_eq_true,decide_eq_true_eq] at hg';obtain⟨⟨h4,_⟩,⟨hn,hk⟩,_,_⟩:=hg';obtain⟨k1,_,_⟩:=EU hk;have hdl:(ws.drop 3).length<=1000:=by
      have hg':=hg;unfold yw at hg';simp only[Bool.and_eq_true,decide_eq_true_eq] at hg';have h5:=hg'.2.2.1;obtain⟨_,k2,k3⟩:=EU hk;rw[k3] at h5;have:=Ew (yX (wd ws 2));simp only[Option.getD_some] at h5;omega
     refine uq <| tL (k:=S.length) <| w_var (v:= .loc S.length) rfl ⟨_,rfl,cj 0,PU (by decide+kernel),ck <| il (d:= .str (wd ws 1)) (ix (i:=1) (by omega) rfl) <| ck <| il (d:= .str (wd ws 2)) (ix (i:=2) (by omega) rfl) <| ck <| il (d:= .lst ((ws.drop 3).map .str)) (kq (d:= .lst (ws.map .str)) (lo:=some ((3:Nat):Int)) (hi:=none) rfl (dI rfl) rfl ((sP (by rw[List.length_map];omega)).trans (by rw[List.map_drop]))) <| ck <| il (d:= .bl (wd ws 0==Str.ofString "sure")) (az (a:= .str (wd ws 0)) (b:= .str (Str.ofString "sure")) (ix (i:=0) (by omega) rfl) rfl (rB _ _)) <| iy ?_⟩
     refine(y_ DD hn k1 hdl fun w hw=>Nat.le_trans (hww w (List.mem_of_mem_drop hw)) (by omega)).mono ?_ fun _ _ q=>q
     rintro v S1 ⟨rfl,q⟩;exact⟨trivial,q⟩
   | false=>
     rw[if_neg (by decide),if_neg (by decide)]
     refine pS <| uZ (b:=xQ ws) (qG (aK (ds:=[.lst (ws.map .str)]) rfl (yA (by omega) h7))) ?_
     cases ho:xQ ws with
     | true=>
       rw[if_pos rfl,if_pos rfl];have vn:=ho;unfold xQ at vn;simp only[Bool.and_eq_true,decide_eq_true_eq] at vn;obtain⟨⟨h4,_,hn⟩,h5,_⟩:=vn;refine uq <| tL (k:=S.length) <| w_var (v:= .loc S.length) rfl ⟨_,rfl,cj 0,PU (by decide+kernel),ck <| il (d:= .str (wd ws 1)) (ix (i:=1) (by omega) rfl) <| ck <| il (d:= .lst ((ws.drop 2).map .str)) (kq (d:= .lst (ws.map .str)) (lo:=some ((2:Nat):Int)) (hi:=none) rfl (dI rfl) rfl ((sP (by rw[List.length_map];omega)).trans (by rw[List.map_drop]))) <| iy ?_⟩
       refine(zZ DD hn (by omega) fun w hw=>Nat.le_trans (hww w (List.mem_of_mem_drop hw)) (by omega)).mono ?_ fun _ _ q=>q
       rintro v S1 ⟨rfl,q⟩;exact⟨trivial,q⟩
     | false=>
       rw[if_neg (by decide),if_neg (by decide)]
       have hrp:=StrLaws.reprText_len r hr.cps;refine qT <| ck <| il (d:= .str _) (pF (ss:=[Str.ofString "a row of no form: ",reprText r]) (jr rfl (jr (x:=reprText r) ?_ rfl)) ?_) <| iy ⟨by show 1<=sizeLine;omega,rfl,rfl⟩
       .show R.aW (decide ((reprText r).length<=sizeLine)) (R.ok (D.str (reprText r)))=_;exact bS _ (by omega)
       .show((Str.empty++Str.ofString "a row of no form: ")++reprText r).length<=_;rw[Str.length_append,Str.length_append];have:(Str.ofString "a row of no form: ").length<=100:=by decide+kernel
        show 0+_+_<=_;omega
theorem pl{v:V3}{n:Nat}:∀{fs:List (Str × V3)},fs.length < n->(wY f v fs).length < n+1
 | [],h=>by show 1 < n+1;simp at h;omega
 | (g,x) ::r,h=>by
   unfold wY;split
   .simp at h ⊢;omega
   .have:=pl (f:=f) (v:=v) (n:=n - 1) (fs:=r) (by simp at h;omega)
    simp at h ⊢;omega
theorem Io{Q:V3->aR->Prop}(h:Q (.d .cN) (jv S d0)):W3 (c5 [.loc S.length] (S++[.ins 0 []])) Q:=by
 unfold c5;refine SV rfl ?_;simp only[dq,eO,List.map,List.length,List.replicate,List.cons_append,List.nil_append,Nat.reduceAdd,Nat.reduceSub];unfold iC;have a0:∀{l:List SO},(S++l)[S.length]? =l[0]?:=fun {l}=>cj 0
 have ln:∀{l:List SO},(S++l).length=S.length+l.length:=fun {l}=>List.length_append
 refine d7 <| me (k:=S.length) <| AW (ds:=[]) rfl <| w_var (v:= .loc S.length) rfl ⟨[],rfl,by rw[List.append_assoc];exact a0,by decide,_,rfl,?_⟩
 rw[ln,List.append_assoc,show ∀x:SO,List.set (S++([.ins 0 []]++[.lst []])) S.length x=S++[x, .lst []] from fun x=>d5 (S:=S) (l:=[.ins 0 [], .lst []]) 0 x]
 refine d7 <| me (k:=S.length) <| AW (ds:=[]) rfl <| w_var (v:= .loc S.length) rfl ⟨_,rfl,by rw[List.append_assoc];exact a0,pl (by decide),_,rfl,?_⟩
 rw[ln,List.append_assoc];refine(show ∀{F:FZ} {δ:DE} {Q:Ou->aR->Prop} {x y:aR},x=y->W3 (F δ y) Q->W3 (F δ x) Q from fun e h=>by rw[e];exact h) (d5 (S:=S) (l:=[_, .lst [], .lst []]) 0 _) ?_
 show W3 (cR _ _ _ (S++[_,SO.lst [],SO.lst []])) _;refine d7 <| me (k:=S.length) <| AW (ds:=[]) rfl <| w_var (v:= .loc S.length) rfl ⟨_,rfl,by rw[List.append_assoc];exact a0,pl (pl (by decide)),_,rfl,?_⟩
 rw[ln,List.append_assoc];refine(show ∀{F:FZ} {δ:DE} {Q:Ou->aR->Prop} {x y:aR},x=y->W3 (F δ y) Q->W3 (F δ x) Q from fun e h=>by rw[e];exact h) (d5 (S:=S) (l:=[_, .lst [], .lst [], .lst []]) 0 _) ?_
 show W3 (cR _ _ _ (S++[_,SO.lst [],SO.lst [],SO.lst []])) _;refine d7 <| me (k:=S.length) <| Aa <| w_var (v:= .loc S.length) rfl ⟨_,rfl,by rw[List.append_assoc];exact a0,pl (pl (pl (by decide))),_,rfl,?_⟩
 rw[ln,List.append_assoc];refine(show ∀{F:FZ} {δ:DE} {Q:Ou->aR->Prop} {x y:aR},x=y->W3 (F δ y) Q->W3 (F δ x) Q from fun e h=>by rw[e];exact h) (d5 (S:=S) (l:=[_, .lst [], .lst [], .lst [], .dct []]) 0 _) ?_
 show W3 (cR _ _ _ (S++[_,SO.lst [],SO.lst [],SO.lst [],SO.dct []])) _;refine d7 <| me (k:=S.length) <| Aa <| w_var (v:= .loc S.length) rfl ⟨_,rfl,by rw[List.append_assoc];exact a0,pl (pl (pl (pl (by decide)))),_,rfl,?_⟩
 rw[ln,List.append_assoc];refine(show ∀{F:FZ} {δ:DE} {Q:Ou->aR->Prop} {x y:aR},x=y->W3 (F δ y) Q->W3 (F δ x) Q from fun e h=>by rw[e];exact h) (d5 (S:=S) (l:=[_, .lst [], .lst [], .lst [], .dct [], .dct []]) 0 _) ?_
 show W3 (wZ _ _ _ _ _ (S++[_,SO.lst [],SO.lst [],SO.lst [],SO.dct [],SO.dct []])) _;refine me (k:=S.length) <| Aa <| w_var (v:= .loc S.length) rfl ⟨_,rfl,by rw[List.append_assoc];exact a0,pl (pl (pl (pl (pl (by decide))))),_,rfl,?_⟩
 rw[ln,List.append_assoc];refine(show ∀{x y:aR},x=y->Q (.d .cN) y->Q (.d .cN) x from fun e h=>by rw[e];exact h) (d5 (S:=S) (l:=[_, .lst [], .lst [], .lst [], .dct [], .dct [], .dct []]) 0 _) ?_
 exact h
end
end K05
end
section
namespace K05
open PySem PySem.Spec PyProof.Rows L2 L3 MT JT TX
theorem tI{c a:Nat}:∀{l:Aae} {x:List Nat},x∈l->a∈x->a∈jn c l
 | [y],x,hx,ha=>by rw[List.mem_singleton.mp hx] at ha;exact ha
 | y ::z ::r,x,hx,ha=>by
   show a∈y++c ::jn c (z ::r);rcases List.mem_cons.mp hx with e | e
   .rw [e] at ha;exact List.mem_append_left _ ha
   .exact List.mem_append_right _ (List.mem_cons_of_mem _ (tI e ha))
theorem HR{n c:Nat}(h:Rw n x)(hp:p∈Txt.split x ⟨#[c]⟩):Rw n p:=by
 refine⟨Nat.le_trans (part_short hp) h.len,fun a ha=>h.cps a ?_⟩
 rw[<-StrLaws.join_split x ⟨#[c]⟩,er];exact tI (List.mem_map_of_mem hp) ha
section
variable {S:aR}
theorem Iq{rs:List Str}(hr:∀r∈rs,Rw 1000000 r){d:Dr}(DD:lF d){T:Str}{ws:List Str}{a3:Option V3}:WE (ip (JY 3) qp ((rs.map D.str).map V3.d) [some (.d (.str T)),some (.d (.lst (ws.map .str))),some (.loc S.length),a3] (jv S d)) (fun o S1=>∃d' b3,o= .nx [some (.d (.str T)),some (.d (.lst (ws.map .str))),some (.loc S.length),b3]/\o_ d rs= .ok d'/\lF d'/\S1=jv S d') (fun c S1=>o_ d rs= .error c/\∃T,S1=S++T):=by
 induction rs generalizing d a3 with
 | nil=>exact .inl ⟨_,_,rfl,d,a3,rfl,rfl,DD,rfl⟩
 | cons r rs ih=>
   show WE ((qp [some (.d (.str T)),some (.d (.lst (ws.map .str))),some (.loc S.length),some (.d (.str r))] (jv S d)).bind _) _ _;refine WE.bind ?_;unfold qp;refine uq <| Gd <| ck <| w_var (v:= .loc S.length) rfl <| ck <| il (d:= .str r) rfl <| iy <| (M5 DD (hr r List.mem_cons_self)).mono ?_ ?_
   .rintro v S1 ⟨rfl,d',h1,rfl⟩;have:=ih (fun x hx=>hr x (List.mem_cons_of_mem _ hx)) (sJ DD h1) (a3:=some (.d (.str r)))
    unfold o_;rw[h1];exact this
   .rintro c S1 ⟨h1,rfl⟩;unfold o_;rw[h1];exact⟨rfl,_,rfl⟩
theorem Jn(ht:Rw 1000000 text):WE (jg [.d (.str text)] S) (fun v S1=>∃d,jq (Txt.split text NL)= .ok d/\lF d/\v= .tup [.loc (S.length+1), .loc (S.length+2), .loc (S.length+3)]/\S1=jv S d) (fun c S1=>jq (Txt.split text NL)= .error c/\∃T,S1=S++T):=by
 have hz:sizeLine=16777216:=sizeLine_eq;have htl:=ht.len;unfold jg;refine Na rfl ?_;simp only[dq,ur,List.map,List.length,List.replicate,List.cons_append,List.nil_append,Nat.reduceAdd,Nat.reduceSub];unfold xf;have hrl:(Txt.split text NL).length<=1000002:=Nat.le_trans (split_le text NL) (by omega)
 have hrr:∀r∈Txt.split text NL,Rw 1000000 r:=by rw[vL];exact fun r hr=>HR ht hr
 refine gT <| xF <| iu (by simp) <| il (d:= .lst ((Txt.split text NL).map .str)) (lq (x:=text) rfl (aj rfl rfl) (by rw[vL];exact tS (by omega))) ⟨_,rfl,?_⟩
 simp only[List.set];generalize Txt.split text NL=rs at hrl hrr;refine gT <| pS <| uZ (b:=decide (80 < rs.length)) (cD (a:=nI rs.length) (b:=nI 80) (aK (ds:=[.lst (rs.map .str)]) rfl (by rw[mV,List.length_map])) rfl (FF _ _)) ?_
 unfold jq;by_cases h1:80 < rs.length
 .rw [decide_eq_true h1,if_pos rfl,if_pos h1];exact qT <| ck <| il (d:= .str _) rfl <| iy ⟨by show 1<=sizeLine;omega,rfl,[],by simp⟩
 .rw [decide_eq_false h1,if_neg (by decide),if_neg h1]
  refine nM ⟨_,rfl,?_⟩;refine gT <| xF <| iu (by simp) <| MW <| iy <| Io ⟨rfl,_,rfl,?_⟩
  simp only[List.set];refine gT <| Kf <| Eb (ds:=rs.map .str) (lG rfl) ?_
  refine(Iq hrr Kh).mono ?_ ?_
  .rintro o S1 ⟨d,b3,rfl,h2,DD,rfl⟩;refine⟨_,rfl,?_⟩;rw[h2];have key:W3 (Pm (GG (ot (eV 0 (Str.ofString "ins") (bX 2)))) (GG (ot (eV 0 (Str.ofString "outs") (bX 2)))) [some (.d (.str text)),some (.d (.lst (rs.map .str))),some (.loc S.length),b3] (jv S d)) fun b S1=>b=decide (d.ins=[]\/d.os=[])/\S1=jv S d:=by
    refine W3.bind (W3.bind (tG <| jA (i:=0) rfl (by decide+kernel) ⟨_,_,rfl,J1,W3.ok ?_⟩))
    rw[uz d.ins];by_cases hi:d.ins=[]
    .rw [decide_eq_false (fun q=>q hi),decide_eq_true (.inl hi)]
     exact W3.ok ⟨rfl,rfl⟩
    .rw [decide_eq_true hi,show(!true)=false from rfl,if_neg (by decide)]
     refine W3.bind (tG <| jA (i:=2) rfl (by decide+kernel) ⟨_,_,rfl,Be,W3.ok ?_⟩)
     rw[uz d.os];refine⟨?_,rfl⟩;by_cases ho:d.os=[]
     .rw [decide_eq_false (fun q=>q ho),decide_eq_true (.inr ho)];rfl
     .rw [decide_eq_true ho,decide_eq_false fun q=>q.elim hi ho];rfl
   refine gT <| pS <| key.mono ?_
   rintro b S1 ⟨rfl,rfl⟩;simp only;by_cases h3:d.ins=[]\/d.os=[]
   .rw [decide_eq_true h3,if_pos rfl,if_pos h3];exact qT <| ck <| il (d:= .str _) rfl <| iy ⟨by show 1<=sizeLine;omega,rfl,_,rfl⟩
   .rw [decide_eq_false h3,if_neg (by decide),if_neg h3]
    refine nM ⟨_,rfl,?_⟩;exact xF <| yD <| Oj <| ck <| jA (i:=0) rfl (by decide+kernel) <| ck <| jA (i:=1) rfl (by decide+kernel) <| ck <| jA (i:=2) rfl (by decide+kernel) <| iy ⟨by show 3<=sizeLine;omega,d,rfl,DD,rfl,rfl⟩
  .rintro c S1 ⟨h2,q⟩;rw[h2];exact⟨rfl,q⟩
end
end K05
end
section
set_option maxHeartbeats 4000000
namespace K05
open PySem PySem.Spec PyProof.Rows L2 L3 MT JT
def stir(cell k:Int):Int:=if 10 ^ 18<=cell then(cell - 10 ^ 18) / 2 ^ (28*k).toNat % 2 ^ 28
 else((cell+1013*k+1)*16807 % 2147483647)*((cell+1013*k+1)*16807 % 2147483647) % 2147483629*39373 % 2147483587 / 8
theorem IB(cell k:Int)(hk:0<=k):aT [.int cell, .int k]= .ok (.int (stir cell k)):=by
 have p1:∀δ,e2 Dn (eC (.int 10)) (eC (.int 18)) δ= .ok (.int (10 ^ 18)):=fun δ=>rfl
 have p2:∀δ,e2 Dn (eC (.int 2)) (eC (.int 28)) δ= .ok (.int (2 ^ 28)):=fun δ=>rfl
 have ge:∀a b:Int,Hc (.int a) (.int b)= .ok (.bl (decide (a>=b))):=fun a b=>rfl
 have mulc:∀(a b:Int),(-(2 ^ 64) < b/\b < 2 ^ 64)->mB (.int a) (.int b)= .ok (.int (a*b)):=fun a b h=>by
  show R.aW (decide _) (R.ok (D.int (a*b)))=_;exact bS _ (.inr h)
 have mulc':∀(a b:Int),(-(2 ^ 64) < a/\a < 2 ^ 64)->mB (.int a) (.int b)= .ok (.int (a*b)):=fun a b h=>by
  show R.aW (decide _) (R.ok (D.int (a*b)))=_;exact bS _ (.inl h)
 unfold aT uy stir;by_cases h:(10:Int) ^ 18<=cell
 .rw [if_pos h];refine dQ (NT.eM (mi (cD (a:= .int cell) (b:= .int (10 ^ 18)) rfl (p1 _) ((ge _ _).trans (by rw[decide_eq_true h]))) (bW (az (a:= .int ((cell - 10 ^ 18) / 2 ^ (28*k).toNat)) (b:= .int (2 ^ 28)) (az (a:= .int (cell - 10 ^ 18)) (b:= .int (28*k)) (az (a:= .int cell) (b:= .int (10 ^ 18)) rfl (p1 _) rfl) (az (a:= .int 28) (b:= .int k) rfl rfl (mulc' _ _ ⟨by omega,by omega⟩)) ?_) (p2 _) (uu (by omega))))))
  show R.aW (decide ((0:Int)<=28*k)) (R.ok (D.int ((cell - 10 ^ 18) / 2 ^ (28*k).toNat)))=_;exact bS _ (by omega)
 .rw [if_neg h];refine dQ (aH (kr (cD (a:= .int cell) (b:= .int (10 ^ 18)) rfl (p1 _) ((ge _ _).trans (by rw[decide_eq_false h]))) rfl) (aH (bH (d:= .int ((cell+1013*k+1)*16807 % 2147483647)) (az (a:= .int ((cell+1013*k+1)*16807)) (b:= .int 2147483647) (az (a:= .int (cell+1013*k+1)) (b:= .int 16807) (az (a:= .int (cell+1013*k)) (b:= .int 1) (az (a:= .int cell) (b:= .int (1013*k)) rfl (az (a:= .int 1013) (b:= .int k) rfl rfl (mulc' _ _ ⟨by omega,by omega⟩)) rfl) rfl rfl) rfl (mulc _ _ ⟨by omega,by omega⟩)) rfl (uu (by omega))) (by simp [dn,mM])) ?_))
  have b1:0<=(cell+1013*k+1)*16807 % 2147483647:=Int.emod_nonneg _ (by omega)
  have TV:(cell+1013*k+1)*16807 % 2147483647 < 2147483647:=Int.emod_lt_of_pos _ (by omega)
  generalize (cell+1013*k+1)*16807 % 2147483647=x at b1 TV;refine aH (bH (d:= .int (x*x % 2147483629)) (az (a:= .int (x*x)) (b:= .int 2147483629) (az (a:= .int x) (b:= .int x) rfl rfl (mulc _ _ ⟨by omega,by omega⟩)) rfl (uu (by omega))) (by simp [dn,mM])) (bW ?_)
  exact az (a:= .int (x*x % 2147483629*39373 % 2147483587)) (b:= .int 8) (az (a:= .int (x*x % 2147483629*39373)) (b:= .int 2147483587) (az (a:= .int (x*x % 2147483629)) (b:= .int 39373) rfl rfl (mulc _ _ ⟨by omega,by omega⟩)) rfl (uu (by omega))) rfl (Bb (by omega) (by omega))
theorem Jp(cell k:Int):0<=stir cell k:=by
 unfold stir;split <;> omega
def stN(cell:Int)(k:Nat):Nat:=(stir cell k).toNat
theorem rT(cell:Int)(k:Nat):aT [.int cell,nI k]= .ok (nI (stN cell k)):=by
 show aT [.int cell, .int k]=_;rw[IB cell k (by omega)]
 unfold nI stN;rw[Int.toNat_of_nonneg (Jp _ _)]
end K05
end
section
set_option maxHeartbeats 1000000
namespace K05
open PySem PySem.Spec PyProof.Rows L2 L3 MT JT
theorem IP(ns:List Int)(k:Nat):ji [.lst (ns.map .int),nI k]= .ok (.int (ns.getD k 0)):=by
 unfold ji pq;by_cases h:k < ns.length
 .refine dQ (NT.eM (mi (cD (a:=nI k) (b:=nI ns.length) rfl (aK (ds:=[.lst (ns.map .int)]) rfl (by rw[Of,List.length_map];rfl)) (by rw[wA,decide_eq_true h])) (bW (az (a:= .lst (ns.map .int)) (b:=nI k) rfl rfl (NT.o3 ?_)))))
  rw[List.getElem?_map,List.getD_eq_getElem?_getD,List.getElem?_eq_getElem h];rfl
 .refine dQ (aH (kr (cD (a:=nI k) (b:=nI ns.length) rfl (aK (ds:=[.lst (ns.map .int)]) rfl (by rw[Of,List.length_map];rfl)) (by rw[wA,decide_eq_false h])) rfl) (bW ?_))
  rw[List.getD_eq_getElem?_getD,List.getElem?_eq_none (by omega)]
  rfl
end K05
end
section
namespace K05
open PySem PySem.Spec PyProof.Rows L2 L3 MT JT TX
theorem K3{r:Rx}{s:Ls}(h3:r.wd=IN\/r.wd=GA\/r.wd=OU)(hs:∀w∈r.ws,PyData.strOk w=true)(hl:r.ws.length<=1000):j7 [r.d,s.d]= .ok (oD (pP r s)):=by
 have hz:sizeLine=16777216:=sizeLine_eq;unfold j7 vM;have E:aw:=[];refine dQ (aH (δ1:=[.val r.d, .val s.d, .val (.str r.t), .val (.str r.wd), .val (.str r.nm), .val (nI r.w), .val (.lst (r.ws.map .str)), .un, .un, .un, .un]) rfl (aH (δ1:=[.val r.d, .val s.d, .val (.str r.t), .val (.str r.wd), .val (.str r.nm), .val (nI r.w), .val (.lst (r.ws.map .str)), .val (.lst (s.wd.map .str)), .val (.lst (s.nm.map .str)), .val (.lst (s.on.map .str)), .val (.lst (s.kn.map .str))]) rfl ?_));generalize hδ:([.val r.d, .val s.d, .val (.str r.t), .val (.str r.wd), .val (.str r.nm), .val (nI r.w), .val (.lst (r.ws.map .str)), .val (.lst (s.wd.map .str)), .val (.lst (s.nm.map .str)), .val (.lst (s.on.map .str)), .val (.lst (s.kn.map .str))]:aw)=δ;have v3:ao 3 δ= .ok (.str r.wd):=by rw[<-hδ];rfl
 have v4:ao 4 δ= .ok (.str r.nm):=by rw[<-hδ];rfl
 have v6:ao 6 δ= .ok (.lst (r.ws.map .str)):=by rw[<-hδ];rfl
 have v7:ao 7 δ= .ok (.lst (s.wd.map .str)):=by rw[<-hδ];rfl
 have v8:ao 8 δ= .ok (.lst (s.nm.map .str)):=by rw[<-hδ];rfl
 have v9:ao 9 δ= .ok (.lst (s.on.map .str)):=by rw[<-hδ];rfl
 have q:∀w:Str,b2 qr (ao 3) (eC (.str w)) δ= .ok (r.wd==w):=fun w=>cD (a:= .str r.wd) (b:= .str w) v3 rfl (rB _ _)
 have n:∀w:Str,b2 HQ (ao 3) (eC (.str w)) δ= .ok (r.wd !=w):=fun w=>cD (a:= .str r.wd) (b:= .str w) v3 rfl rfl
 have i7:∀w:Str,b2 zF (eC (.str w)) (ao 7) δ= .ok (s.wd.contains w):=fun w=>cD (a:= .str w) (b:= .lst (s.wd.map .str)) rfl v7 (zM _ _)
 have c1:=mY (sL (q IN) fun _=>mY (i7 GA) fun _=>i7 OU) fun _=>sL (q GA) fun _=>i7 OU
 have c2:Bv (vd (b2 qr (ao 3) (eC (.str (Str.ofString "out")))) (b2 zF (ao 4) (ao 9))) (vd (b2 HQ (ao 3) (eC (.str (Str.ofString "out")))) (b2 zF (ao 4) (ao 8))) δ= .ok ((r.wd==OU && s.on.contains r.nm) || (r.wd !=OU && s.nm.contains r.nm)):=mY (sL (q OU) fun _=>cD (a:= .str r.nm) (b:= .lst (s.on.map .str)) v4 v9 (zM _ _)) fun _=>sL (n OU) fun _=>cD (a:= .str r.nm) (b:= .lst (s.nm.map .str)) v4 v8 (zM _ _)
 have hlm:Ge (CI [((Str.ofString "in"),6),((Str.ofString "gate"),60),((Str.ofString "out"),6)]) (.str r.wd)= .ok (nI (lim r.wd)):=by
  rcases h3 with e | e | e <;> rw[e] <;> rfl
 have c3:b2 qr (v_ "list" qH (ao 7) (ag (ao 3) aE)) (e2 Ge (eC (CI [((Str.ofString "in"),6),((Str.ofString "gate"),60),((Str.ofString "out"),6)])) (ao 3)) δ= .ok (decide (s.wd.count r.wd=lim r.wd)):=by
  refine cD (a:=nI (s.wd.count r.wd)) (b:=nI (lim r.wd)) (Jm (ds:=[.str r.wd]) v7 (aj v3 rfl) ?_) (az (a:=CI [((Str.ofString "in"),6),((Str.ofString "gate"),60),((Str.ofString "out"),6)]) (b:= .str r.wd) rfl v3 hlm) (yM _ _);show(match strs? (s.wd.map D.str) with | some ss=>R.ok (D.int (ss.count r.wd:Nat)) | none=> .no)=_
  rw[L2.strs_map];rfl
 unfold pP;by_cases g1:((r.wd==IN && (s.wd.contains GA || s.wd.contains OU)) || (r.wd==GA && s.wd.contains OU))=true
 .rw [if_pos g1];rw[g1] at c1;exact NT.eM (mi c1 (bW rfl))
 rw[if_neg g1];rw[Bool.not_eq_true] at g1;rw[g1] at c1;refine aH (kr c1 rfl) ?_;by_cases g2:((r.wd==OU && s.on.contains r.nm) || (r.wd !=OU && s.nm.contains r.nm))=true
 .rw [if_pos g2];rw[g2] at c2;exact NT.eM (mi c2 (bW rfl))
 rw[if_neg g2];rw[Bool.not_eq_true] at g2;rw[g2] at c2;refine aH (kr c2 rfl) ?_;by_cases g3:s.wd.count r.wd=lim r.wd
 .rw [if_pos g3];rw[decide_eq_true g3] at c3;exact NT.eM (mi c3 (bW rfl))
 rw[if_neg g3];rw[decide_eq_false g3] at c3;refine aH (kr c3 rfl) ?_;have hc:eNew (ny (kc (ao 6)) (bA 0) (b2 mZ (ao 0) (ao 1)) (ao 0) [(Str.ofString "wire")] [10]) δ= .ok (.lst ((r.ws.filter fun w=>!s.kn.contains w).map .str)):=by
  refine aL (kg (ds:=r.ws.map .str) (lG v6) (by rw[List.length_map];omega) (NT.tR (fun w=>!s.kn.contains w) D.str D.str fun w hw=>⟨[.val (.str w), .val (.lst (s.kn.map .str))],by rw[<-hδ];rfl,cD (a:= .str w) (b:= .lst (s.kn.map .str)) rfl rfl (DX _ _),fun _=>rfl⟩))
 have hn:=Ib (ss:=r.ws.filter fun w=>!s.kn.contains w) fun w hw=>hs w (List.mem_filter.mp hw).1
 refine bW (az (a:= .lst [.int (-1), .int 5]) (b:=nI (if !(r.ws.filter fun w=>!s.kn.contains w).isEmpty then 1 else 0)) (aL (aM (ds:=[.int (-1), .int 5]) rfl (by show 2<=sizeLine;omega))) (aK (ds:=[.bl (!(r.ws.filter fun w=>!s.kn.contains w).isEmpty)]) (aj (az (a:= .lst ((r.ws.filter fun w=>!s.kn.contains w).map .str)) (b:= .lst []) hc (aL (aM rfl (by show 0<=sizeLine;omega))) hn) rfl) (J2 _)) ?_)
 cases hf:r.ws.filter fun w=>!s.kn.contains w with
 | nil=>rfl
 | cons a l=>rw [if_neg (show ¬a ::l=[] from List.cons_ne_nil a l)];rfl
theorem HC{r:Rx}{s:Ls}(hn:r.nm.length<=1000)(hw:r.w<=3)(h1:s.wd.length<=10000)(h2:s.nm.length<=10000)(h3:s.on.length<=10000)(h4:s.kn.length<=10000):gP [r.d,s.d]= .ok (mF r s).d:=by
 have hz:sizeLine=16777216:=sizeLine_eq;unfold gP qo;refine dQ (aH (δ1:=[.val r.d, .val s.d, .val (.str r.t), .val (.str r.wd), .val (.str r.nm), .val (nI r.w), .val (.lst (r.ws.map .str)), .un, .un, .un, .un, .un]) rfl (aH (δ1:=[.val r.d, .val s.d, .val (.str r.t), .val (.str r.wd), .val (.str r.nm), .val (nI r.w), .val (.lst (r.ws.map .str)), .val (.lst (s.wd.map .str)), .val (.lst (s.nm.map .str)), .val (.lst (s.on.map .str)), .val (.lst (s.kn.map .str)), .un]) rfl ?_));have ad:∀(l:List Str) (x:Str),l.length<=10000->bD (.lst (l.map .str)) (.lst [.str x])= .ok (.lst ((l++[x]).map .str)):=fun l x h=>(lC (by rw[List.length_map];show l.length+1<=_;omega)).trans (by rw[List.map_append];rfl)
 have one:∀(i:Nat) (x:Str) (δ:aw),ao i δ= .ok (.str x)->eNew (bg (ag (ao i) aE)) δ= .ok (.lst [.str x]):=fun i x δ h=>aL (aM (ds:=[.str x]) (aj h rfl) (by show 1<=sizeLine;omega))
 generalize hδ:([.val r.d, .val s.d, .val (.str r.t), .val (.str r.wd), .val (.str r.nm), .val (nI r.w), .val (.lst (r.ws.map .str)), .val (.lst (s.wd.map .str)), .val (.lst (s.nm.map .str)), .val (.lst (s.on.map .str)), .val (.lst (s.kn.map .str)), .un]:aw)=δ;have q:b2 qr (ao 3) (eC (.str (Str.ofString "out"))) δ= .ok (r.wd==OU):=by rw[<-hδ];exact cD (a:= .str r.wd) (b:= .str OU) rfl rfl (rB _ _)
 unfold mF;by_cases g:(r.wd==OU)=true
 .rw [if_pos g];rw[g] at q;refine NT.eM (mi q (bW ?_));rw[<-hδ];exact aL (aM (ds:=[.lst ((s.wd++[r.wd]).map .str), .lst (s.nm.map .str), .lst ((s.on++[r.nm]).map .str), .lst (s.kn.map .str)]) (aj (az (a:= .lst (s.wd.map .str)) (b:= .lst [.str r.wd]) rfl (one 3 _ _ rfl) (ad _ _ h1)) (aj rfl (aj (az (a:= .lst (s.on.map .str)) (b:= .lst [.str r.nm]) rfl (one 4 _ _ rfl) (ad _ _ h3)) (aj rfl rfl)))) (by show 4<=sizeLine;omega))
 .rw [if_neg g];rw[Bool.not_eq_true] at g;rw[g] at q;refine aH (kr q rfl) ?_;rw[<-hδ];refine aH (bH (d:= .lst [.str r.nm]) (one 4 _ _ rfl) (by simp)) ?_
  obtain⟨own,hown⟩:∃own,(if 1 < r.w then qS r.nm r.w else [r.nm])=own:=⟨_,rfl⟩
  have ol:own.length<=3:=by
   rw[<-hown];split
   .rw [sH];exact hw
   .simp
  rw[hown];refine aH (δ1:=[.val r.d, .val s.d, .val (.str r.t), .val (.str r.wd), .val (.str r.nm), .val (nI r.w), .val (.lst (r.ws.map .str)), .val (.lst (s.wd.map .str)), .val (.lst (s.nm.map .str)), .val (.lst (s.on.map .str)), .val (.lst (s.kn.map .str)), .val (.lst (own.map .str))]) ?_ ?_
  .have c:b2 M4 (ao 5) (eC (.int 1)) [.val r.d, .val s.d, .val (.str r.t), .val (.str r.wd), .val (.str r.nm), .val (nI r.w), .val (.lst (r.ws.map .str)), .val (.lst (s.wd.map .str)), .val (.lst (s.nm.map .str)), .val (.lst (s.on.map .str)), .val (.lst (s.kn.map .str)), .val (.lst [.str r.nm])]= .ok (decide (1 < r.w)):=cD (a:=nI r.w) (b:=nI 1) rfl rfl (FF _ _);have pw:∀(x:Str) (δ:aw),x.length=2->ao 4 δ= .ok (.str r.nm)->e2 bD (ao 4) (eC (.str x)) δ= .ok (.str (r.nm++x)):=fun x δ hx h=>az (a:= .str r.nm) (b:= .str x) h rfl (bN (by omega))
   by_cases g2:1 < r.w
   .rw [if_pos g2] at hown;rw[decide_eq_true g2] at c;refine mi c ((bH (d:= .lst (own.map .str)) (kq (d:= .lst ([r.nm++Str.ofString ":0",r.nm++Str.ofString ":1",r.nm++Str.ofString ":2"].map .str)) (lo:=none) (hi:=some (r.w:Int)) (aL (aM (ds:=[r.nm++Str.ofString ":0",r.nm++Str.ofString ":1",r.nm++Str.ofString ":2"].map .str) (aj (pw _ _ (by decide+kernel) rfl) (aj (pw _ _ (by decide+kernel) rfl) (aj (pw _ _ (by decide+kernel) rfl) rfl))) (by show 3<=sizeLine;omega))) rfl (dI rfl) ?_) (by simp)).trans rfl)
    rw[qL,<-List.map_take,IT hn ⟨by omega,hw⟩,hown]
   .rw [if_neg g2] at hown;rw[decide_eq_false g2] at c;rw[<-hown];exact kr c rfl
  .exact bW (aL (aM (ds:=[.lst ((s.wd++[r.wd]).map .str), .lst ((s.nm++[r.nm]).map .str), .lst (s.on.map .str), .lst ((s.kn++own).map .str)]) (aj (az (a:= .lst (s.wd.map .str)) (b:= .lst [.str r.wd]) rfl (one 3 _ _ rfl) (ad _ _ h1)) (aj (az (a:= .lst (s.nm.map .str)) (b:= .lst [.str r.nm]) rfl (one 4 _ _ rfl) (ad _ _ h2)) (aj rfl (aj (az (a:= .lst (s.kn.map .str)) (b:= .lst (own.map .str)) rfl rfl ((lC (by rw[List.length_map,List.length_map];omega)).trans (by rw[List.map_append]))) rfl)))) (by show 4<=sizeLine;omega)))
end K05
end
section
namespace K05
open PySem PySem.Spec PyProof.Rows L2 L3 MT JT TX
structure Q0 (r:Rx):Prop where
 w4:r.wd=IN\/r.wd=GA\/r.wd=OU\/r.wd=BD
 so:∀w∈r.ws,PyData.strOk w=true
 wl:r.ws.length<=1000
 nl:r.nm.length<=1000
 w3:r.w<=3
structure Bd (n:Nat) (s:Ls):Prop where
 a:s.wd.length<=n
 b:s.nm.length<=n
 c:s.on.length<=n
 d:s.kn.length<=3*n
theorem LF{n:Nat}{r:Rx}{s:Ls}(h:Bd n s)(hw:r.w<=3):Bd (n+1) (mF r s):=by
 have h1:=h.a;have h2:=h.b;have h3:=h.c;have h4:=h.d;have ol:(if 1 < r.w then qS r.nm r.w else [r.nm]).length<=3:=by
  split
  .rw [sH];exact hw
  .simp
 unfold mF;split
 .refine⟨?_,?_,?_,?_⟩ <;> simp only[List.length_append,List.length_cons,List.length_nil] <;> omega
 .refine⟨?_,?_,?_,?_⟩ <;> simp only[List.length_append,List.length_cons,List.length_nil] <;> omega
theorem yH(x:Sl):∀(rs:List Rx) (s:Ls) (n:Nat) (a b:Sl),(∀r∈rs,Q0 r)->Bd n s->n+rs.length<=3000->(match Cc s rs with | .error m=>kh (bA 2) cf (rs.map Rx.d) [x, .val s.d,a,b]= .ok (.rt (nI m)) | .ok s'=>∃a' b',kh (bA 2) cf (rs.map Rx.d) [x, .val s.d,a,b]= .ok (.nx [x, .val s'.d,a',b']))
 | [],s,n,a,b,_,_,_=>⟨a,b,rfl⟩
 | r ::rs,s,n,a,b,hj,hb,hn=>by
   rw[List.length_cons] at hn;have J:=hj r List.mem_cons_self;have h1:=hb.a;have h2:=hb.b;have h3:=hb.c;have h4:=hb.d;have q:b2 qr (e2 dN (ao 2) (eC (.int 1))) (eC (.str (Str.ofString "bad"))) [x, .val s.d, .val r.d,b]= .ok (r.wd==BD):=cD (a:= .str r.wd) (b:= .str BD) (az (a:=r.d) (b:= .int 1) rfl rfl rfl) rfl (rB _ _);have lp:∀(o:R Out),cf [x, .val s.d, .val r.d,b]=o->kh (bA 2) cf ((r ::rs).map Rx.d) [x, .val s.d,a,b]=o.bind fun o=>match o with | .nx jj=>kh (bA 2) cf (rs.map Rx.d) jj | .rt r=> .ok (.rt r):=fun o h=>by
    rw[<-h];rfl
   unfold Cc;by_cases g:(r.wd==BD)=true
   .rw [if_pos g];rw[g] at q;rw[lp (.ok (.rt (nI 1))) (by unfold cf;exact NT.eM (mi q (bW rfl)))]
    rfl
   .rw [if_neg g];have sF:r.wd≠BD:=fun e=>g (by rw[e];rfl)
    rw[Bool.not_eq_true] at g;rw[g] at q;have du:=K3 (r:=r) (s:=s) (by rcases J.w4 with e | e | e | e;exact .inl e;exact .inr (.inl e);exact .inr (.inr e);exact absurd e sF) J.so J.wl
    have Np:b9 3 (bf j7 (ag (ao 2) (ag (ao 1) aE))) [x, .val s.d, .val r.d,b]= .ok (.nx [x, .val s.d, .val r.d, .val (oD (pP r s))]):=bH (d:=oD (pP r s)) (aK (ds:=[r.d,s.d]) rfl du) (by simp)
    cases hd:pP r s with
    | some m=>
      rw[hd] at Np;have q2:b2 Hc (ao 3) (eC (.int 0)) [x, .val s.d, .val r.d, .val (oD (some m))]= .ok true:=(cD (a:=nI m) (b:=nI 0) rfl rfl (Hw _ _)).trans (by rw[decide_eq_true (Nat.zero_le m)])
      show kh _ _ _ _=_;rw[lp (.ok (.rt (nI m))) (by unfold cf;exact aH (kr q rfl) (aH Np (NT.eM (mi q2 (bW rfl)))))]
      rfl
    | none=>
      rw[hd] at Np;have q2:b2 Hc (ao 3) (eC (.int 0)) [x, .val s.d, .val r.d, .val (oD none)]= .ok false:=rfl;have bh:=HC (r:=r) (s:=s) J.nl J.w3 (by omega) (by omega) (by omega) (by omega)
      have ih:=yH x rs (mF r s) (n+1) (.val r.d) (.val (oD none)) (fun y hy=>hj y (List.mem_cons_of_mem _ hy)) (LF hb J.w3) (by omega)
      have e:=lp (.ok (.nx [x, .val (mF r s).d, .val r.d, .val (oD none)])) (by unfold cf;exact aH (kr q rfl) (aH Np (aH (kr q2 rfl) (bH (d:=(mF r s).d) (aK (ds:=[r.d,s.d]) rfl bh) (by simp)))))
      rw[e];exact ih
theorem Ci{rs:List Rx}(hj:∀r∈rs,Q0 r)(hl:rs.length<=3000):j0 [.lst (rs.map Rx.d)]= .ok (oD (rL s0 rs)):=by
 have hz:sizeLine=16777216:=sizeLine_eq;have lp:=yH (.val (.lst (rs.map Rx.d))) rs s0 0 .un .un hj ⟨Nat.le_refl _,Nat.le_refl _,Nat.le_refl _,Nat.le_refl _⟩ (by omega)
 unfold j0 qv;have e0:eNew (bg aE) (dn jZ [.lst (rs.map Rx.d)])= .ok (.lst []):=aL (aM rfl (by show 0<=sizeLine;omega))
 refine dQ (aH (δ1:=[.val (.lst (rs.map Rx.d)), .val s0.d, .un, .un]) (bH (d:=s0.d) (aL (aM (ds:=[.lst [], .lst [], .lst [], .lst []]) (aj e0 (aj e0 (aj e0 (aj e0 rfl)))) (by show 4<=sizeLine;omega))) (by simp [dn,jZ])) ?_)
 rw[A2];cases hx:Cc s0 rs with
 | error m=>
   rw[hx] at lp;refine NT.eM ?_;unfold vi;rw[show kc (ao 0) [.val (.lst (rs.map Rx.d)), .val s0.d, .un, .un]= .ok (rs.map Rx.d) from lG rfl,R.aO]
   exact lp
 | ok s'=>
   rw[hx] at lp;obtain⟨a,b,lp⟩:=lp;refine aH (oP (ds:=rs.map Rx.d) (lG rfl) lp) ?_;have ni:∀w:Str,e2 mZ (eC (.str w)) (e2 dN (ao 1) (eC (.int 0))) [.val (.lst (rs.map Rx.d)), .val s'.d,a,b]= .ok (.bl (!s'.wd.contains w)):=fun w=>az (a:= .str w) (b:= .lst (s'.wd.map .str)) rfl (az (a:=s'.d) (b:= .int 0) rfl rfl rfl) (DX _ _)
   refine bW (az (a:= .lst [.int (-1), .int 6]) (b:=nI (if(!s'.wd.contains IN || !s'.wd.contains OU) then 1 else 0)) (aL (aM (ds:=[.int (-1), .int 6]) rfl (by show 2<=sizeLine;omega))) (aK (ds:=[.bl (!s'.wd.contains IN || !s'.wd.contains OU)]) (aj (Ej (ni IN) fun _=>ni OU) rfl) (J2 _)) ?_)
   show _=R.ok (oD (if(!s'.wd.contains IN || !s'.wd.contains OU)=true then some 6 else none))
   cases(!s'.wd.contains IN || !s'.wd.contains OU) <;> rfl
theorem qZ{r:Rx}(R:vf r)(hs:∀w∈r.ws,PyData.strOk w=true)(h3:r.w<=3):Q0 r:=by
 refine⟨?_,hs,by have:=R.wl;omega,by have:=R.nl;omega,h3⟩
 rcases R.by4 with⟨e,_⟩ | ⟨e,_⟩ | ⟨e,_⟩ | ⟨e,_⟩
 .exact .inl e
 .exact .inr (.inl e)
 .exact .inr (.inr (.inl e))
 .exact .inr (.inr (.inr e))
end K05
end
section
namespace K05
open PySem PySem.Spec PyProof.Rows L2 L3 MT JT TX
def Iz(o:Option Nat):D:=match o with | none=> .lst [] | some n=> .lst ((List.range 14).map fun k=> .bl (decide (n=k)))
theorem Ay{S:aR}(hS:MN S)(WU:WE (jg [.d (.str text)] S) (fun v S1=>∃d,jq (Txt.split text NL)= .ok d/\lF d/\v= .tup [.loc (S.length+1), .loc (S.length+2), .loc (S.length+3)]/\S1=jv S d) (fun c S1=>jq (Txt.split text NL)= .error c/\∃T,S1=S++T)){o:Option Nat}(ho:match jq (Txt.split text NL) with | .ok _=>o=none | .error c=>2<=c/\c<=8/\o=some (c - 2)){Q:V3->aR->Prop}(h:Q (.d (Iz o)) S):W3 (kz [.d (.str text)] S) Q:=by
 have hz:sizeLine=16777216:=sizeLine_eq;unfold kz;refine Ki hS (V0 rfl ?_);simp only[dq,fq,List.map,List.length,List.replicate,List.cons_append,List.nil_append,Nat.reduceAdd,Nat.reduceSub];unfold lK;refine d7 <| iu (by simp) <| il (d:= .lst []) (aL (aM rfl (by show 0<=sizeLine;omega))) ⟨_,rfl,?_⟩
 simp only[List.set];refine d7 <| Oq <| uq <| Gd <| ck <| il (d:= .str text) rfl <| iy <| Yr hS <| WU.mono ?_ ?_
 .rintro v S1 ⟨d,hd,_,rfl,rfl⟩;rw[hd] at ho;subst ho;have e1:(jv S d)[S.length+1]? =some (.lst (d.ins.map MT.inD)):=by rw[cj];rfl
  have e2:(jv S d)[S.length+2]? =some (.lst (d.gs.map DK)):=by rw[cj];rfl
  have e3:(jv S d)[S.length+3]? =some (.lst (d.os.map FL)):=by rw[cj];rfl
  refine⟨by simp [nF,qY],⟨_,rfl⟩,Rq d.ins d.gs d.os,by simp only[res,yb,e1,e2,e3];rfl,⟨_,rfl,yD <| il rfl ⟨_,rfl,rfl,⟨[],by simp⟩,_,rfl,h⟩⟩⟩
 .rintro c S1 ⟨hc,T,rfl⟩;rw[hc] at ho;obtain⟨c2,c8,rfl⟩:=ho;refine⟨⟨_,rfl⟩,?_⟩;have isE:∀{tb:List (Nat × Bool)} {b:Bool} {δ:DE} {Q:V3->aR->Prop},δ[2]? =some (some (.loc S.length))->r6 tb c=some b->Q (.d (.bl b)) (S++[.exc c])->W3 (lH (bX 2) (r6 tb) δ (S++[.exc c])) Q:=fun h1 h2 h3=>Pl <| w_var h1 ⟨S.length,c,_,rfl,NT.Gg S _,h2,h3⟩
  have l4:∀{W0 WM WQ W8:List (Nat × Bool)} {b1 b2 b3 b4:Bool} {δ:DE} {Q:V3->aR->Prop},δ[2]? =some (some (.loc S.length))->r6 W0 c=some b1->r6 WM c=some b2->r6 WQ c=some b3->r6 W8 c=some b4->Q (.d (.lst [.bl b1, .bl b2, .bl b3, .bl b4])) (S++[.exc c])->W3 (Af (bo (lH (bX 2) (r6 W0)) (bo (lH (bX 2) (r6 WM)) (bo (lH (bX 2) (r6 WQ)) (bo (lH (bX 2) (r6 W8)) dF)))) δ (S++[.exc c])) Q:=fun h1 t1 t2 t3 t4 hq=>Kt <| ck <| isE h1 t1 <| ck <| isE h1 t2 <| ck <| isE h1 t3 <| ck <| isE h1 t4 <| iy ⟨by show 4<=sizeLine;omega,hq⟩
  have ad:∀(a b:List D),a.length+b.length<=14->bD (.lst a) (.lst b)= .ok (.lst (a++b)):=fun a b h=>lC (by omega)
  refine⟨by rcases(show c=2\/c=3\/c=4\/c=5\/c=6\/c=7\/c=8 by omega) with rfl | rfl | rfl | rfl | rfl | rfl | rfl <;> rfl,?_⟩
  simp only[dq,fq,List.map,List.length,List.replicate,List.cons_append,List.nil_append,Nat.reduceAdd,Nat.reduceSub];simp only[List.set];rcases(show c=2\/c=3\/c=4\/c=5\/c=6\/c=7\/c=8 by omega) with rfl | rfl | rfl | rfl | rfl | rfl | rfl
  all_goals
   refine d7 <| iu (by simp) <| l4 rfl rfl rfl rfl rfl ⟨_,rfl,?_⟩
   simp only[List.set];refine d7 <| iu (by simp) <| O1 <| il rfl <| l4 rfl rfl rfl rfl rfl ⟨_,_,_,rfl,rfl,ad _ _ (by decide),⟨_,rfl,?_⟩⟩
   simp only[List.set];refine d7 <| iu (by simp) <| O1 <| il rfl <| l4 rfl rfl rfl rfl rfl ⟨_,_,_,rfl,rfl,ad _ _ (by decide),⟨_,rfl,?_⟩⟩
   simp only[List.set];refine iu (by simp) <| O1 <| il rfl <| Kt <| ck <| isE rfl rfl <| ck <| Lq <| isE rfl rfl ⟨_,rfl,iy ⟨by show 2<=sizeLine;omega,⟨_,_,_,rfl,rfl,ad _ _ (by decide),⟨_,rfl,⟨_,rfl,yD <| il rfl ⟨_,rfl,rfl,⟨_,rfl⟩,_,rfl,h⟩⟩⟩⟩⟩⟩
end K05
end
section
namespace K05
open PySem PySem.Spec PyProof.Rows L2 L3 MT JT TX
abbrev SOM:List Str:=[Str.ofString "a",Str.ofString "ab",Str.ofString "b",Str.ofString "c",Str.ofString "q",Str.ofString "r",Str.ofString "s",Str.ofString "t"]
abbrev OY:List Str:=[Str.ofString "",Str.ofString "",Str.ofString ":0",Str.ofString ":1",Str.ofString ":2",Str.ofString ":7"]
abbrev QT:List Str:=[Str.ofString "a",Str.ofString "ab",Str.ofString "b:1",Str.ofString "a:0"]
theorem Mb:∀a∈SOM,isNm a=true:=by decide+kernel
theorem KL:∀a∈SOM,∀b∈OY,Ef (a++b)=true:=by decide+kernel
theorem MU:∀a∈QT,Ef a=true:=by decide+kernel
theorem OC:∀i,i < 26->isNm (Str.ofString "ab"++fL i)=true:=by decide+kernel
theorem IX:∀a∈SOM,a.length<=8:=by decide+kernel
theorem IQ:∀a∈OY,a.length<=8:=by decide+kernel
theorem F1{n:Nat}(h:n < 2):∃w,(w=a\/w=b)/\dN (.lst [.str a, .str b]) (nI n)= .ok (.str w):=by
 rcases(show n=0\/n=1 by omega) with rfl | rfl
 .exact⟨a, .inl rfl,NT.o3 (z:=0) rfl⟩
 .exact⟨b, .inr rfl,NT.o3 (z:=1) rfl⟩
theorem zy(cell:Int):∃r:Rx,vf r/\r.wd≠BD/\r.w<=3/\(∀w∈r.ws,PyData.strOk w=true)/\PyData.strOk r.nm=true/\ft [.int cell]= .ok r.d:=by
 have hz:sizeLine=16777216:=sizeLine_eq;obtain⟨n,hn⟩:∃n,stN cell 80=n:=⟨_,rfl⟩;obtain⟨f,hf⟩:∃f,stN cell 81=f:=⟨_,rfl⟩;obtain⟨so,hso,eso⟩:=Ac (l:=SOM) (i:=f % 8) (by show f % 8 < 8;omega)
 obtain⟨nm,hnm,enm⟩:=F1 (a:=so) (b:=Str.ofString "ab"++fL (f / 8 % 26)) (n:=n / 8 % 2) (by omega)
 have nmok:isNm nm=true:=by
  rcases hnm with rfl | rfl
  .exact Mb _ hso
  .exact OC _ (by omega)
 have nml:nm.length<=8:=(d8.mp nmok).2.1;have abl:(Str.ofString "ab").length=2:=by decide+kernel
 have strok:∀w:Str,Ef w=true->PyData.strOk w=true:=fun w hw=>by
  have:=(rG hw).1.cps;unfold PyData.strOk;rw[<-Array.all_toList,List.all_eq_true];exact fun c hc=>decide_eq_true (by have:=this c hc;omega)
 have lp:∃(ws:List Str) (δ1:aw) (a b c:Sl),ws.length=3/\(∀w∈ws,Ef w=true)/\δ1=[.val (.int cell), .val (nI n),a, .val (.lst (SOM.map .str)), .val (.str nm), .val (nI (n % 8)), .un, .bld (ws.map .str),b,c, .un, .un]/\kh (bA 8) fH ((List.range 3).map nI) [.val (.int cell), .val (nI n), .val (nI f), .val (.lst (SOM.map .str)), .val (.str nm), .val (nI (n % 8)), .un, .bld [], .un, .un, .un, .un]= .ok (.nx δ1):=by
  obtain⟨dC,h1,ws,a,b,c,hδ,hlen,hg⟩:=vG (t:=bA 8) (body:=fH) (ds:=(List.range 3).map nI) (fun i δ=>∃(ws:List Str) (a b c:Sl),δ=[.val (.int cell), .val (nI n),a, .val (.lst (SOM.map .str)), .val (.str nm), .val (nI (n % 8)), .un, .bld (ws.map .str),b,c, .un, .un]/\ws.length=i/\∀w∈ws,Ef w=true)
   (δ:=[.val (.int cell), .val (nI n), .val (nI f), .val (.lst (SOM.map .str)), .val (.str nm), .val (nI (n % 8)), .un, .bld [], .un, .un, .un, .un]) ⟨[],_,_,_,rfl,rfl,by simp⟩ (by
     rintro i d δ hd ⟨ws,a,b,c,rfl,hl,hg⟩;obtain⟨j,hj,rfl⟩:=NT.AN hd;obtain⟨hjl,ej⟩:=List.getElem?_eq_some_iff.mp hj;rw[List.length_range] at hjl;obtain⟨m,hm⟩:∃m,stN cell (82+j)=m:=⟨_,rfl⟩;obtain⟨w1,WO,e1⟩:=Ac (l:=SOM) (i:=m % 8) (by show m % 8 < 8;omega)
     obtain⟨w2,Xb,e2⟩:=Ac (l:=OY) (i:=m / 8 % 6) (by show m / 8 % 6 < 6;omega)
     obtain⟨w3,hw3,e3⟩:=Ac (l:=QT) (i:=m / 64 % 4) (by show m / 64 % 4 < 4;omega)
     obtain⟨w,hw,ew⟩:=F1 (a:=w1++w2) (b:=w3) (n:=m / 256 % 2) (by omega)
     have wok:Ef w=true:=by
      rcases hw with rfl | rfl
      .exact KL _ WO _ Xb
      .exact MU _ hw3
     have l1:=IX _ WO;have l2:=IQ _ Xb;refine⟨[.val (.int cell), .val (nI n), .val (nI m), .val (.lst (SOM.map .str)), .val (.str nm), .val (nI (n % 8)), .un, .bld ((ws++[w]).map .str), .val (nI j), .val (.str (w1++w2)), .un, .un],?_,ws++[w],_,_,_,rfl,by simp [hl],fun x hx=>?_⟩
     .rw [show bA 8 (nI j) [.val (.int cell), .val (nI n),a, .val (.lst (SOM.map .str)), .val (.str nm), .val (nI (n % 8)), .un, .bld (ws.map .str),b,c, .un, .un]= .ok [.val (.int cell), .val (nI n),a, .val (.lst (SOM.map .str)), .val (.str nm), .val (nI (n % 8)), .un, .bld (ws.map .str), .val (nI j),c, .un, .un] from rfl,R.aO]
      unfold fH;refine aH (bH (d:=nI m) (aK (ds:=[.int cell,nI (82+j)]) (aj rfl (aj (az (a:=nI 82) (b:=nI j) rfl rfl (zc _ _)) rfl)) (by rw[rT,hm])) (by simp)) ?_
      refine aH (bH (d:= .str (w1++w2)) (az (a:= .str w1) (b:= .str w2) (az (a:= .lst (SOM.map .str)) (b:=nI (m % 8)) rfl (az (a:=nI m) (b:=nI 8) rfl rfl (jX (by omega))) e1) (az (a:= .lst (OY.map .str)) (b:=nI (m / 8 % 6)) (aL (aM (ds:=OY.map .str) rfl (by show 6<=sizeLine;omega))) (az (a:=nI (m / 8)) (b:=nI 6) (az (a:=nI m) (b:=nI 8) rfl rfl (sd (by omega) (by omega))) rfl (jX (by omega))) e2) (bN (by omega))) (by simp)) ?_
      refine(qB (d:= .str w) (ds:=ws.map .str) (az (a:= .lst [.str (w1++w2), .str w3]) (b:=nI (m / 256 % 2)) (aL (aM (ds:=[.str (w1++w2), .str w3]) (aj rfl (aj (az (a:= .lst (QT.map .str)) (b:=nI (m / 64 % 4)) (aL (aM (ds:=QT.map .str) rfl (by show 4<=sizeLine;omega))) (az (a:=nI (m / 64)) (b:=nI 4) (az (a:=nI m) (b:=nI 64) rfl rfl (sd (by omega) (by omega))) rfl (jX (by omega))) e3) rfl)) (by show 2<=sizeLine;omega))) (az (a:=nI (m / 256)) (b:=nI 2) (az (a:=nI m) (b:=nI 256) rfl rfl (sd (by omega) (by omega))) rfl (jX (by omega))) ew) rfl (by rw[List.length_map];omega)).trans ?_
      rw[show ws.map D.str++[.str w]=(ws++[w]).map .str by simp]
      rfl
     .rcases List.mem_append.mp hx with z | z
      .exact hg x z
      .rw [List.mem_singleton.mp z];exact wok)
  rw[List.length_map,List.length_range] at hlen;exact⟨ws,dC,a,b,c,hlen,hg,hδ,h1⟩
 obtain⟨ws,δ1,a,b,c,wl,wg,hδ,hlp⟩:=lp;subst hδ;have wwo:∀(l:List Str),(∀w∈l,w∈ws)->∀y∈l,Wo y/\jY y=true:=fun l hl y hy=>rG (wg y (hl y hy))
 let N4:aw:=[.val (.int cell), .val (nI n), .val (nI f), .val (.lst (SOM.map .str)), .val (.str nm), .val (nI (n % 8)), .un, .un, .un, .un, .un, .un]
 have c1:b2 DJ (ao 5) (eC (.int 2)) N4= .ok (decide (n % 8 < 2)):=cD (a:=nI (n % 8)) (b:=nI 2) rfl rfl (wA _ _);have lead:∀(r:Rx) (F:FS),F N4= .ok (.rt r.d)->va jh (br (b9 1 (bf aT (ag (ao 0) (ag (eC (.int 80)) aE)))) (br (b9 2 (bf aT (ag (ao 0) (ag (eC (.int 81)) aE)))) (br (b9 3 (eNew (bg (ag (eC (.str (Str.ofString "a"))) (ag (eC (.str (Str.ofString "ab"))) (ag (eC (.str (Str.ofString "b"))) (ag (eC (.str (Str.ofString "c"))) (ag (eC (.str (Str.ofString "q"))) (ag (eC (.str (Str.ofString "r"))) (ag (eC (.str (Str.ofString "s"))) (ag (eC (.str (Str.ofString "t"))) aE))))))))))) (br (b9 4 (e2 dN (eNew (bg (ag (e2 dN (ao 3) (e2 dv (ao 2) (eC (.int 8)))) (ag (e2 bD (eC (.str (Str.ofString "ab"))) (e2 dN (eC (.str (Str.ofString "abcdefghijklmnopqrstuvwxyz"))) (e2 dv (e2 gI (ao 2) (eC (.int 8))) (eC (.int 26))))) aE)))) (e2 dv (e2 gI (ao 1) (eC (.int 8))) (eC (.int 2))))) (br (b9 5 (e2 dv (ao 1) (eC (.int 8)))) F))))) [.int cell]= .ok r.d:=fun r F hF=>by
  refine dQ (aH (δ1:=[.val (.int cell), .val (nI n), .un, .un, .un, .un, .un, .un, .un, .un, .un, .un]) (bH (d:=nI n) (aK (ds:=[.int cell,nI 80]) rfl (by rw[rT,hn])) (by simp [dn,jh])) ?_)
  refine aH (bH (d:=nI f) (aK (ds:=[.int cell,nI 81]) rfl (by rw[rT,hf])) (by simp)) ?_
  refine aH (bH (d:= .lst (SOM.map .str)) (aL (aM (ds:=SOM.map .str) rfl (by show 8<=sizeLine;omega))) (by simp)) ?_
  refine aH (bH (d:= .str nm) (az (a:= .lst [.str so, .str (Str.ofString "ab"++fL (f / 8 % 26))]) (b:=nI (n / 8 % 2)) (aL (aM (ds:=[.str so, .str (Str.ofString "ab"++fL (f / 8 % 26))]) (aj (az (a:= .lst (SOM.map .str)) (b:=nI (f % 8)) rfl (az (a:=nI f) (b:=nI 8) rfl rfl (jX (by omega))) eso) (aj (az (a:= .str (Str.ofString "ab")) (b:= .str (fL (f / 8 % 26))) rfl (az (a:= .str Ha) (b:=nI (f / 8 % 26)) rfl (az (a:=nI (f / 8)) (b:=nI 26) (az (a:=nI f) (b:=nI 8) rfl rfl (sd (by omega) (by omega))) rfl (jX (by omega))) (Bo (by omega))) (bN (by rw[abl];show 2+1<=_;omega))) rfl)) (by show 2<=sizeLine;omega))) (az (a:=nI (n / 8)) (b:=nI 2) (az (a:=nI n) (b:=nI 8) rfl rfl (sd (by omega) (by omega))) rfl (jX (by omega))) enm) (by simp)) ?_
  exact aH (bH (d:=nI (n % 8)) (az (a:=nI n) (b:=nI 8) rfl rfl (jX (by omega))) (by simp)) hF
 have n16:∀(m:Nat) (δ:aw),0 < m->ao 1 δ= .ok (nI n)->e2 dv (e2 gI (ao 1) (eC (.int 16))) (eC (.int m)) δ= .ok (nI (n / 16 % m)):=fun m δ hm h=>az (a:=nI (n / 16)) (b:=nI m) (az (a:=nI n) (b:=nI 16) h rfl (sd (by omega) (by omega))) rfl (jX hm)
 unfold ft pA;by_cases g1:n % 8 < 2
 .rw [decide_eq_true g1] at c1;have hw:1<=1+n / 16 % 3/\1+n / 16 % 3<=3:=by omega
  refine⟨⟨Str.join SP (zG (nm,1+n / 16 % 3)),IN,nm,1+n / 16 % 3,[]⟩,zO nmok hw,by show IN≠BD;decide+kernel,hw.2,(fun w h=>by cases h),D0 nmok,lead _ _ (NT.eM (mi c1 (aH (bH (d:=nI (1+n / 16 % 3)) (az (a:=nI 1) (b:=nI (n / 16 % 3)) rfl (n16 3 _ (by omega) rfl) (zc _ _)) (by simp [N4])) (bW ?_))))⟩
  refine aL (aM (ds:=[.str (Str.join SP (zG (nm,1+n / 16 % 3))), .str IN, .str nm,nI (1+n / 16 % 3), .lst []]) (aj (lq (x:=SP) rfl (aj (aL (aM (ds:=(zG (nm,1+n / 16 % 3)).map .str) (aj rfl (aj rfl (aj (aK (ds:=[nI (1+n / 16 % 3)]) rfl (P_ hw)) rfl))) (by show 3<=sizeLine;omega))) rfl) (vX (by unfold zG;simp) (FQ (x:=(nm,1+n / 16 % 3)) nmok))) (aj rfl (aj rfl (aj rfl (aj (aL (aM rfl (by show 0<=sizeLine;omega))) rfl))))) (by show 5<=sizeLine;omega))
 rw[decide_eq_false g1] at c1;have wt:∀k,∀w∈ws.take k,w∈ws:=fun k w hw=>List.mem_of_mem_take hw
 have sl:∀(k:Nat) (δ:aw) (fk:FD),ao 7 δ= .ok (.lst (ws.map .str))->fk δ= .ok (nI k)->yZ (ao 7) lx (iq fk) δ= .ok (.lst ((ws.take k).map .str)):=fun k δ fk h1 h2=>kq (d:= .lst (ws.map .str)) (lo:=none) (hi:=some (k:Int)) h1 rfl (dI h2) (by rw[qL,List.map_take])
 by_cases g2:n % 8 < 6
 .obtain⟨k,hk⟩:∃k,n / 16 % 5=k:=⟨_,rfl⟩;have k4:k<=4:=by omega
  have ek:dN (.lst ([Str.ofString "not",Str.ofString "and",Str.ofString "or",Str.ofString "xor",Str.ofString "vote"].map .str)) (nI k)= .ok (.str (kS k)):=by
   rcases(show k=0\/k=1\/k=2\/k=3\/k=4 by omega) with e | e | e | e | e <;> rw[e] <;> rfl
  obtain⟨sr,hsr⟩:∃sr,decide (n / 80 % 2=1)=sr:=⟨_,rfl⟩;have es:dN (.lst ([Str.ofString "gate",Str.ofString "sure"].map .str)) (nI (n / 80 % 2))= .ok (.str (if sr then Str.ofString "sure" else Str.ofString "gate")):=by
   rcases(show n / 80 % 2=0\/n / 80 % 2=1 by omega) with e | e <;> rw[<-hsr,e] <;> rfl
  have al:=Ew k;have tl:(ws.take (ar k)).length=ar k:=by rw[List.length_take];omega
  have RK:=Em (s:=sr) nmok k4 tl (wwo (ws.take (ar k)) (wt _));have hwo:∀y∈[if sr then Str.ofString "sure" else Str.ofString "gate",nm,kS k]++ws.take (ar k),Wo y:=by
   intro y hy;rcases List.mem_append.mp hy with z | z
   .have:=EB (W:=[]) (g:=(k,[],sr)) (n:=nm) nmok (fun y hy=>by cases hy) (fun w hw=>by cases hw)
    exact this y (List.mem_append_left _ z)
   .exact(wwo _ (wt _) y z).1
  refine⟨_,RK,by show GA≠BD;decide+kernel,Nat.zero_le _,fun w hw=>strok w (wg w (wt _ w hw)),D0 nmok,lead _ _ (aH (kr c1 rfl) (aH (sQ (ds:=[]) (aM rfl (by show 0<=sizeLine;omega)) (by simp [N4])) (aH (oP (ds:=(List.range 3).map nI) (rX (n:=3) rfl (by omega)) hlp) ?_)))⟩
  unfold wR;have c2:b2 DJ (ao 5) (eC (.int 6)) (ik 7 [.val (.int cell), .val (nI n),a, .val (.lst (SOM.map .str)), .val (.str nm), .val (nI (n % 8)), .un, .bld (ws.map .str),b,c, .un, .un])= .ok true:=(cD (a:=nI (n % 8)) (b:=nI 6) rfl rfl (wA _ _)).trans (by rw[decide_eq_true g2])
  refine NT.eM (mi c2 ?_);refine aH (bH (d:= .str (kS k)) (az (a:= .lst ([Str.ofString "not",Str.ofString "and",Str.ofString "or",Str.ofString "xor",Str.ofString "vote"].map .str)) (b:=nI k) (aL (aM (ds:=[Str.ofString "not",Str.ofString "and",Str.ofString "or",Str.ofString "xor",Str.ofString "vote"].map .str) rfl (by show 5<=sizeLine;omega))) ((n16 5 _ (by omega) rfl).trans (by rw[hk])) ek) (by simp [ik])) ?_
  refine aH (bH (d:= .lst ((ws.take (ar k)).map .str)) (sl (ar k) _ _ rfl (O6 k4 rfl)) (by simp [ik])) ?_
  refine aH (bH (d:= .str (if sr then Str.ofString "sure" else Str.ofString "gate")) (az (a:= .lst ([Str.ofString "gate",Str.ofString "sure"].map .str)) (b:=nI (n / 80 % 2)) (aL (aM (ds:=[Str.ofString "gate",Str.ofString "sure"].map .str) rfl (by show 2<=sizeLine;omega))) (az (a:=nI (n / 80)) (b:=nI 2) (az (a:=nI n) (b:=nI 80) rfl rfl (sd (by omega) (by omega))) rfl (jX (by omega))) es) (by simp [ik])) ?_
  refine bW (aL (aM (ds:=[.str (Str.join SP ([if sr then Str.ofString "sure" else Str.ofString "gate",nm,kS k]++ws.take (ar k))), .str GA, .str nm,nI 0, .lst ((ws.take (ar k)).map .str)]) (aj (lq (x:=SP) rfl (aj (az (a:= .lst ([if sr then Str.ofString "sure" else Str.ofString "gate",nm,kS k].map .str)) (b:= .lst ((ws.take (ar k)).map .str)) (aL (aM (ds:=[if sr then Str.ofString "sure" else Str.ofString "gate",nm,kS k].map .str) rfl (by show 3<=sizeLine;omega))) rfl ((lC (by simp;omega)).trans (by rw[<-List.map_append]))) rfl) (vX (by simp;omega) hwo)) rfl) (by show 5<=sizeLine;omega)))
 .have hw:1<=1+n / 16 % 3/\1+n / 16 % 3<=3:=by omega
  have tl:(ws.take (1+n / 16 % 3)).length=1+n / 16 % 3:=by rw[List.length_take];omega
  have RK:=EH nmok (by rw[tl];exact hw) (wwo (ws.take (1+n / 16 % 3)) (wt _))
  have hwo:∀y∈[Str.ofString "out",nm]++ws.take (1+n / 16 % 3),Wo y:=by
   intro y hy;rcases List.mem_append.mp hy with z | z
   .have:=GI (W:=[]) (o:=(nm,[])) nmok (fun y hy=>by cases hy) (fun w hw=>by cases hw)
    exact this y (List.mem_append_left _ z)
   .exact(wwo _ (wt _) y z).1
  refine⟨_,RK,by show OU≠BD;decide+kernel,Nat.zero_le _,fun w hw=>strok w (wg w (wt _ w hw)),D0 nmok,lead _ _ (aH (kr c1 rfl) (aH (sQ (ds:=[]) (aM rfl (by show 0<=sizeLine;omega)) (by simp [N4])) (aH (oP (ds:=(List.range 3).map nI) (rX (n:=3) rfl (by omega)) hlp) ?_)))⟩
  unfold wR;have c2:b2 DJ (ao 5) (eC (.int 6)) (ik 7 [.val (.int cell), .val (nI n),a, .val (.lst (SOM.map .str)), .val (.str nm), .val (nI (n % 8)), .un, .bld (ws.map .str),b,c, .un, .un])= .ok false:=(cD (a:=nI (n % 8)) (b:=nI 6) rfl rfl (wA _ _)).trans (by rw[decide_eq_false g2])
  refine aH (kr c2 rfl) ?_;refine aH (bH (d:= .lst ((ws.take (1+n / 16 % 3)).map .str)) (sl (1+n / 16 % 3) _ _ rfl (az (a:=nI 1) (b:=nI (n / 16 % 3)) rfl (n16 3 _ (by omega) rfl) (zc _ _))) (by simp [ik])) ?_
  refine bW (aL (aM (ds:=[.str (Str.join SP ([Str.ofString "out",nm]++ws.take (1+n / 16 % 3))), .str OU, .str nm,nI 0, .lst ((ws.take (1+n / 16 % 3)).map .str)]) (aj (lq (x:=SP) rfl (aj (az (a:= .lst ([Str.ofString "out",nm].map .str)) (b:= .lst ((ws.take (1+n / 16 % 3)).map .str)) (aL (aM (ds:=[Str.ofString "out",nm].map .str) rfl (by show 2<=sizeLine;omega))) rfl ((lC (by simp;omega)).trans (by rw[<-List.map_append]))) rfl) (vX (by simp;omega) hwo)) rfl) (by show 5<=sizeLine;omega)))
end K05
end
section
namespace K05
open PySem PySem.Spec PyProof.Rows L2 L3 MT JT TX
def nC(l:List (List Str)):D:= .lst ((l.map (Str.join SP)).map .str)
theorem fA{acc L:List (List Str)}{g:aw->R (List D)}{cell:Int}{b c:Sl}{F:FS}{o:R Out}(hl:acc.length+L.length<=1000)(hL:g [.val (.int cell), .val (nC acc),b,c]= .ok ((L.map (Str.join SP)).map .str))(h:F [.val (.int cell), .val (nC (acc++L)),b,c]=o):br (b9 1 (e2 bD (ao 1) (eNew (bg g)))) F [.val (.int cell), .val (nC acc),b,c]=o:=by
 have hz:sizeLine=16777216:=sizeLine_eq;refine aH (bH (d:=nC (acc++L)) (az (a:=nC acc) (b:=nC L) rfl (aL (aM hL (by rw[List.length_map,List.length_map];omega))) ?_) (by simp)) h
 unfold nC;rw[lC (by simp only[List.length_map];omega),List.map_append,List.map_append]
theorem cy{a b:List (List Str)}(h1:∀ws∈a,dR ws=true)(h2:∀ws∈b,dR ws=true):∀ws∈a++b,dR ws=true:=fun ws h=>(List.mem_append.mp h).elim (h1 ws) (h2 ws)
theorem ET:∀w∈nR,w.length<=8:=by decide+kernel
theorem Lk(cell:Int):∃ws,dR ws=true/\ma [.int cell]= .ok (.str (Str.join SP ws)):=by
 have hz:sizeLine=16777216:=sizeLine_eq;obtain⟨w,hw,ew⟩:=Ac (l:=nR) (i:=stN cell 75 % 9) (by show stN cell 75 % 9 < 9;omega)
 have wl:=ET w hw;have k0:(Str.ofString "in ").length=3:=by decide+kernel
 have k1:(Str.ofString " 2").length=2:=by decide+kernel
 have k2:(Str.ofString "gate ").length=5:=by decide+kernel
 have k3:(Str.ofString " not b").length=6:=by decide+kernel
 have k4:(Str.ofString "sure q not ").length=11:=by decide+kernel
 have k5:(Str.ofString "out ").length=4:=by decide+kernel
 have k6:(Str.ofString " b").length=2:=by decide+kernel
 have k7:(Str.ofString "out q ").length=6:=by decide+kernel
 have k8:(Str.ofString "in a ").length=5:=by decide+kernel
 have k9:(Str.ofString "gate a not b:").length=13:=by decide+kernel
 have Zu:(Str.ofString "out a b:").length=8:=by decide+kernel
 have Z7:(Str.ofString " 1").length=2:=by decide+kernel
 have x1:=Pt;have x2:=Rc;have x3:=Tn;have hA:∀ws∈(((((((((((((((((((((JW++NC)++NX)++NN)++NQ)++NM)++NS)++NI)++NA)++NH)++Dt)++B4)++Dl)++Cs)++CW)++CL)++Cm)++CN)++yx w)++yF w)++y7 w)++yY),dR ws=true:=cy (cy (cy (cy (cy (cy (cy (cy (cy (cy (cy (cy (cy (cy (cy (cy (cy (cy (cy (cy (cy (Xs) (Xk)) (Xh)) (Zk)) (Zb)) (Yv)) (Zl)) (YG)) (XU)) (XY)) (Sg)) (TC)) (RG)) (RP)) (To)) (Ra)) (Sv)) (Rz)) (RQ hw)) (RC hw)) (R6 hw)) (RZ);have l0:0 < (((((((((((((((((((((JW++NC)++NX)++NN)++NQ)++NM)++NS)++NI)++NA)++NH)++Dt)++B4)++Dl)++Cs)++CW)++CL)++Cm)++CN)++yx w)++yF w)++y7 w)++yY).length:=List.length_pos_of_mem (List.mem_append_right _ (show [Str.ofString "gate",Str.ofString "a",Str.ofString "or",Str.ofString "b",Str.ofString "c",Str.ofString "d"]∈yY by unfold yY;exact List.mem_cons_self))
 obtain⟨A,hAe⟩:∃A,(((((((((((((((((((((JW++NC)++NX)++NN)++NQ)++NM)++NS)++NI)++NA)++NH)++Dt)++B4)++Dl)++Cs)++CW)++CL)++Cm)++CN)++yx w)++yF w)++y7 w)++yY)=A:=⟨_,rfl⟩;rw[hAe] at hA l0;obtain⟨k,hk⟩:∃k,stN cell 70 % A.length=k:=⟨_,rfl⟩;have kl:k < A.length:=by rw[<-hk];exact Nat.mod_lt _ l0
 refine⟨A[k],hA _ (List.getElem_mem kl),?_⟩;unfold ma vz;refine dQ (aH (δ1:=[.val (.int cell), .val (nC JW), .un, .un]) (bH (d:=nC JW) (aL (aM (ds:=(JW.map (Str.join SP)).map .str) ((show _=R.ok ([Str.ofString "",Str.ofString " ",Str.ofString "in",Str.ofString "in a",Str.ofString "in a 0",Str.ofString "in a 4",Str.ofString "in a 01",Str.ofString "in a x",Str.ofString "in a 1 1",Str.ofString "in A 1",Str.ofString "in a1 1"].map D.str) from rfl).trans (by rw[Yw])) (by show 11<=sizeLine;omega))) (by simp [dn,rJ])) ?_)
 refine fA (L:=NC) (by show 18<=1000;omega) ((show _=R.ok ([Str.ofString "in abcdefghi 1",Str.ofString "in  a 1",Str.ofString "in a 1 ",Str.ofString " in a 1",Str.ofString "In a 1",Str.ofString "ins a 1",Str.ofString "in 1 a"].map D.str) from rfl).trans (by rw[XQ])) ?_
 refine fA (L:=NX) (by show 26<=1000;omega) ((show _=R.ok ([Str.ofString "in gate 1",Str.ofString "in in 1",Str.ofString "in a -1",Str.ofString "in a 1.",Str.ofString "in a 11",Str.ofString "in :a 1",Str.ofString "in a:0 1",Str.ofString "gate"].map D.str) from rfl).trans (by rw[Zc])) ?_
 refine fA (L:=NN) (by show 32<=1000;omega) ((show _=R.ok ([Str.ofString "gate a",Str.ofString "gate a not",Str.ofString "gate a and",Str.ofString "gate a not b c",Str.ofString "gate a and b",Str.ofString "gate a and b c d"].map D.str) from rfl).trans (by rw[Zm])) ?_
 refine fA (L:=NQ) (by show 36<=1000;omega) ((show _=R.ok ([Str.ofString "gate a or b",Str.ofString "gate a xor b c d",Str.ofString "gate a vote b c",Str.ofString "gate a vote b c d e"].map D.str) from rfl).trans (by rw[Y5])) ?_
 refine fA (L:=NM) (by show 41<=1000;omega) ((show _=R.ok ([Str.ofString "gate a nand b c",Str.ofString "gate a NOT b",Str.ofString "gate A not b",Str.ofString "gate a1 not b",Str.ofString "gate not not b"].map D.str) from rfl).trans (by rw[Ze])) ?_
 refine fA (L:=NS) (by show 46<=1000;omega) ((show _=R.ok ([Str.ofString "gate a not B",Str.ofString "gate a not 1",Str.ofString "gate a not b:",Str.ofString "gate a not b:00",Str.ofString "gate a not b:x"].map D.str) from rfl).trans (by rw[Yg])) ?_
 refine fA (L:=NI) (by show 51<=1000;omega) ((show _=R.ok ([Str.ofString "gate a not :0",Str.ofString "gate a not b:0:0",Str.ofString "gate a not b;0",Str.ofString "gate a and b, c",Str.ofString "gate a  not b"].map D.str) from rfl).trans (by rw[YS])) ?_
 refine fA (L:=NA) (by show 56<=1000;omega) ((show _=R.ok ([Str.ofString "gate a not  b",Str.ofString "gate a not b ",Str.ofString " gate a not b",Str.ofString "Gate a not b",Str.ofString "gates a not b"].map D.str) from rfl).trans (by rw[XA])) ?_
 refine fA (L:=NH) (by show 60<=1000;omega) ((show _=R.ok ([Str.ofString "gate abcdefghi not b",Str.ofString "gate a not abcdefghi",Str.ofString "gate vote vote b c d",Str.ofString "gate a in b"].map D.str) from rfl).trans (by rw[YH])) ?_
 refine fA (L:=Dt) (by show 65<=1000;omega) ((show _=R.ok ([Str.ofString "gate a not not",Str.ofString "gate a and b or",Str.ofString "gate a not b:-1",Str.ofString "gate a not -b",Str.ofString "gate a not(b)"].map D.str) from rfl).trans (by rw[Ry])) ?_
 refine fA (L:=B4) (by show 71<=1000;omega) ((show _=R.ok ([Str.ofString "gate a = not b",Str.ofString "sure",Str.ofString "sure a",Str.ofString "sure a not",Str.ofString "sure a not b c",Str.ofString "sure a or b"].map D.str) from rfl).trans (by rw[Tg])) ?_
 refine fA (L:=Dl) (by show 76<=1000;omega) ((show _=R.ok ([Str.ofString "sure A or b c",Str.ofString "sure a nor b c",Str.ofString "Sure a not b",Str.ofString "sures a not b",Str.ofString "sure  a not b"].map D.str) from rfl).trans (by rw[Sn])) ?_
 refine fA (L:=Cs) (by show 82<=1000;omega) ((show _=R.ok ([Str.ofString "sure a vote b c",Str.ofString "sure sure not b",Str.ofString "sure a not b:a",Str.ofString "out",Str.ofString "out a",Str.ofString "out a b c d e"].map D.str) from rfl).trans (by rw[RX])) ?_
 refine fA (L:=CW) (by show 89<=1000;omega) ((show _=R.ok ([Str.ofString "out A b",Str.ofString "out a B",Str.ofString "out a 1",Str.ofString "out a b:",Str.ofString "out a b:10",Str.ofString "out a  b",Str.ofString "out a b "].map D.str) from rfl).trans (by rw[Tq])) ?_
 refine fA (L:=CL) (by show 96<=1000;omega) ((show _=R.ok ([Str.ofString " out a b",Str.ofString "Out a b",Str.ofString "outs a b",Str.ofString "out out b",Str.ofString "out a out",Str.ofString "out 1 b",Str.ofString "out abcdefghi b"].map D.str) from rfl).trans (by rw[Td])) ?_
 refine fA (L:=Cm) (by show 104<=1000;omega) ((show _=R.ok ([Str.ofString "out a b,c",Str.ofString "out a b: 0",Str.ofString "not a b",Str.ofString "and a b c",Str.ofString "a",Str.ofString "1",Str.ofString "wire a b",Str.ofString "gate: a not b"].map D.str) from rfl).trans (by rw[Tj])) ?_
 refine fA (L:=CN) (by show 107<=1000;omega) ((show _=R.ok ([Str.ofString "# in a 1",Str.ofString "end",Str.ofString "vote a b c"].map D.str) from rfl).trans (by rw[Te])) ?_
 refine aH (bH (d:= .lst (nR.map .str)) (aL (aM (ds:=nR.map .str) rfl (by show 9<=sizeLine;omega))) (by simp)) ?_
 refine aH (bH (d:= .str w) (az (a:= .lst (nR.map .str)) (b:=nI (stN cell 75 % 9)) rfl (az (a:=nI (stN cell 75)) (b:=nI 9) (aK (ds:=[.int cell,nI 75]) rfl (rT _ 75)) rfl (jX (by omega))) ew) (by simp)) ?_
 simp only[List.set];refine fA (L:=yx w) (by show 110<=1000;omega) ((show _=R.ok ([Str.ofString "in "++w++Str.ofString " 2",Str.ofString "gate "++w++Str.ofString " not b",Str.ofString "sure q not "++w].map D.str) from(aj (az (a:= .str (Str.ofString "in "++w)) (b:= .str (Str.ofString " 2")) (az (a:= .str (Str.ofString "in ")) (b:= .str (w)) rfl rfl (bN (by(try simp only[Str.length_append]);omega))) rfl (bN (by(try simp only[Str.length_append]);omega))) (aj (az (a:= .str (Str.ofString "gate "++w)) (b:= .str (Str.ofString " not b")) (az (a:= .str (Str.ofString "gate ")) (b:= .str (w)) rfl rfl (bN (by(try simp only[Str.length_append]);omega))) rfl (bN (by(try simp only[Str.length_append]);omega))) (aj (az (a:= .str (Str.ofString "sure q not ")) (b:= .str (w)) rfl rfl (bN (by(try simp only[Str.length_append]);omega))) rfl)))).trans (by rw[TF hw])) ?_
 refine fA (L:=yF w) (by show 114<=1000;omega) ((show _=R.ok ([Str.ofString "out "++w++Str.ofString " b",Str.ofString "out q "++w,Str.ofString "in a "++X1,Str.ofString "gate a not b:"++X1].map D.str) from(aj (az (a:= .str (Str.ofString "out "++w)) (b:= .str (Str.ofString " b")) (az (a:= .str (Str.ofString "out ")) (b:= .str (w)) rfl rfl (bN (by(try simp only[Str.length_append]);omega))) rfl (bN (by(try simp only[Str.length_append]);omega))) (aj (az (a:= .str (Str.ofString "out q ")) (b:= .str (w)) rfl rfl (bN (by(try simp only[Str.length_append]);omega))) (aj (az (a:= .str (Str.ofString "in a ")) (b:= .str (X1)) rfl (az (a:= .str (Str.ofString "1")) (b:= .int 5000) rfl rfl Wl) (bN (by(try simp only[Str.length_append]);omega))) (aj (az (a:= .str (Str.ofString "gate a not b:")) (b:= .str (X1)) rfl (az (a:= .str (Str.ofString "1")) (b:= .int 5000) rfl rfl Wl) (bN (by(try simp only[Str.length_append]);omega))) rfl))))).trans (by rw[Rn hw])) ?_
 refine fA (L:=y7 w) (by show 120<=1000;omega) ((show _=R.ok ([Str.ofString "out a b:"++X2,Str.ofString "in "++X3++Str.ofString " 1",Str.ofString "in a 12",Str.ofString "in a 23",Str.ofString "in a 123",Str.ofString "in a "].map D.str) from(aj (az (a:= .str (Str.ofString "out a b:")) (b:= .str (X2)) rfl (az (a:= .str (Str.ofString "0")) (b:= .int 4301) rfl rfl Yy) (bN (by(try simp only[Str.length_append]);omega))) (aj (az (a:= .str (Str.ofString "in "++X3)) (b:= .str (Str.ofString " 1")) (az (a:= .str (Str.ofString "in ")) (b:= .str (X3)) rfl (az (a:= .str (Str.ofString "a")) (b:= .int 5000) rfl rfl Zg) (bN (by(try simp only[Str.length_append]);omega))) rfl (bN (by(try simp only[Str.length_append]);omega))) (aj rfl (aj rfl (aj rfl (aj rfl rfl))))))).trans (by rw[RI hw])) ?_
 refine fA (L:=yY) (by show 125<=1000;omega) ((show _=R.ok ([Str.ofString "gate a or b c d",Str.ofString "sure a or b c d",Str.ofString "sure a vote b c d e",Str.ofString "gate a not b:01",Str.ofString "out a b:12"].map D.str) from rfl).trans (by rw[Rp])) ?_
 rw[hAe];refine bW (az (a:=nC A) (b:=nI k) rfl ((az (a:=nI (stN cell 70)) (b:=nI A.length) (aK (ds:=[.int cell,nI 70]) rfl (rT _ 70)) (aK (ds:=[nC A]) rfl (by unfold nC;rw [mV,List.length_map,List.length_map])) (jX l0)).trans (by rw[hk])) (NT.o3 (by rw[List.getElem?_map,List.getElem?_map,List.getElem?_eq_getElem kl];rfl)))
end K05
end
section
namespace K05
open PySem PySem.Spec PyProof.Rows L2 L3 MT JT TX
structure Gq (r:Rx):Prop where
 R:vf r
 J:Q0 r
theorem Fp{w:Nat}(h:isNm n=true)(hw:1<=w/\w<=3)(e:t=Str.join SP (zG (n,w))):Gq ⟨t,IN,n,w,[]⟩:=by
 subst e;exact⟨zO h hw,qZ (zO h hw) (fun w h=>by cases h) hw.2⟩
theorem KC{k:Nat}{ws:List Str}{s:Bool}(h:isNm n=true)(hk:k<=4)(hl:ws.length=ar k)(hW:∀y∈ws,Ef y=true)(e:t=Str.join SP ([if s then Str.ofString "sure" else Str.ofString "gate",n,kS k]++ws)):Gq ⟨t,GA,n,0,ws⟩:=by
 subst e;have R:=Em (s:=s) h hk hl fun y hy=>rG (hW y hy)
 exact⟨R,qZ R (fun w hw=>by
  have:=(rG (hW w hw)).1.cps;unfold PyData.strOk;rw[<-Array.all_toList,List.all_eq_true];exact fun c hc=>decide_eq_true (by have:=this c hc;omega)) (Nat.zero_le _)⟩
theorem Kz{ws:List Str}(h:isNm n=true)(hl:1<=ws.length/\ws.length<=3)(hW:∀y∈ws,Ef y=true)(e:t=Str.join SP ([Str.ofString "out",n]++ws)):Gq ⟨t,OU,n,0,ws⟩:=by
 subst e;have R:=EH h hl fun y hy=>rG (hW y hy)
 exact⟨R,qZ R (fun w hw=>by
  have:=(rG (hW w hw)).1.cps;unfold PyData.strOk;rw[<-Array.all_toList,List.all_eq_true];exact fun c hc=>decide_eq_true (by have:=this c hc;omega)) (Nat.zero_le _)⟩
def r0(k:Nat):Rx:=⟨Str.ofString "in i"++fL k++Str.ofString " 1",IN,Str.ofString "i"++fL k,1,[]⟩
def DR(k:Nat):Str:=Str.ofString "g"++fL (k % 26)++fL (23+k / 26)
def r1(k:Nat):Rx:=⟨Str.ofString "gate "++DR k++Str.ofString " xor ia if",GA,DR k,0,[Str.ofString "ia",Str.ofString "if"]⟩
def r2(k:Nat):Rx:=⟨Str.ofString "out o"++fL k++Str.ofString " gzx",OU,Str.ofString "o"++fL k,0,[Str.ofString "gzx"]⟩
theorem PY:∀k,k < 6->Gq (r0 k):=fun k hk=>by
 have h1:∀k,k < 6->isNm (Str.ofString "i"++fL k)=true:=by decide+kernel
 have h2:∀k,k < 6->Str.ofString "in i"++fL k++Str.ofString " 1"=Str.join SP (zG (Str.ofString "i"++fL k,1)):=by decide+kernel
 exact Fp (h1 k hk) ⟨by omega,by omega⟩ (h2 k hk)
theorem O8:∀k,k < 60->Gq (r1 k):=fun k hk=>by
 have h1:∀k,k < 60->isNm (DR k)=true:=by decide+kernel
 have h2:∀k,k < 60->Str.ofString "gate "++DR k++Str.ofString " xor ia if"=Str.join SP ([if false then Str.ofString "sure" else Str.ofString "gate",DR k,kS 3]++[Str.ofString "ia",Str.ofString "if"]):=by decide+kernel
 exact KC (k:=3) (s:=false) (h1 k hk) (by omega) rfl (by decide+kernel) (h2 k hk)
theorem Ov:∀k,k < 6->Gq (r2 k):=fun k hk=>by
 have h1:∀k,k < 6->isNm (Str.ofString "o"++fL k)=true:=by decide+kernel
 have h2:∀k,k < 6->Str.ofString "out o"++fL k++Str.ofString " gzx"=Str.join SP ([Str.ofString "out",Str.ofString "o"++fL k]++[Str.ofString "gzx"]):=by decide+kernel
 exact Kz (h1 k hk) ⟨by decide,by decide⟩ (by decide+kernel) (h2 k hk)
abbrev fE(hd:Int)(rs:List Rx)(a b:Sl):aw:=[.val (.int hd), .bld (rs.map Rx.d),a,b, .un, .un, .un, .un]
theorem sU{body:FS}{N:Nat}{hd:Int}{r:Nat->Rx}{rs0:List Rx}{a b:Sl}(hb:∀k,k < N->∀(rs:List Rx) (b:Sl),rs.length<=200->∃b',body (fE hd rs (.val (nI k)) b)= .ok (.nx (fE hd (rs++[r k]) (.val (nI k)) b')))(hl:rs0.length+N<=200):∃a' b',kh (bA 2) body ((List.range N).map nI) (fE hd rs0 a b)= .ok (.nx (fE hd (rs0++(List.range N).map r) a' b')):=by
 obtain⟨dC,h1,a',b',hδ⟩:=vG (t:=bA 2) (body:=body) (ds:=(List.range N).map nI) (fun i δ=>∃a b,δ=fE hd (rs0++(List.range i).map r) a b) (δ:=fE hd rs0 a b) ⟨a,b,by simp⟩ (by
  rintro i d δ JN ⟨a,b,rfl⟩;obtain⟨k,hk,rfl⟩:=NT.AN JN;obtain⟨hkl,ek⟩:=List.getElem?_eq_some_iff.mp hk;rw[List.length_range] at hkl;rw[List.getElem_range] at ek;subst ek;obtain⟨b',e⟩:=hb i hkl (rs0++(List.range i).map r) b (by rw[List.length_append,List.length_map,List.length_range];omega)
  refine⟨_,?_, .val (nI i),b',rfl⟩;rw[show bA 2 (nI i) (fE hd (rs0++(List.range i).map r) a b)= .ok (fE hd (rs0++(List.range i).map r) (.val (nI i)) b) from rfl,R.aO,e,List.range_succ,List.map_append,List.append_assoc]
  rfl)
 rw[List.length_map,List.length_range] at hδ;subst hδ;exact⟨a',b',h1⟩
theorem Bf{k:Nat}(h:k < 6):dN (.str (Str.ofString "abcdef")) (nI k)= .ok (.str (fL k)):=by
 rcases(show k=0\/k=1\/k=2\/k=3\/k=4\/k=5 by omega) with rfl | rfl | rfl | rfl | rfl | rfl <;> rfl
theorem MB{k:Nat}(h:k < 3):dN (.str (Str.ofString "xyz")) (nI k)= .ok (.str (fL (23+k))):=by
 rcases(show k=0\/k=1\/k=2 by omega) with rfl | rfl | rfl <;> rfl
theorem HE{ds:List D}{n:Nat}:JU (.lst ds) (some (n:Int)) none= .ok (.lst (ds.drop n)):=by
 show R.ok (D.lst (L2.cutD _ (some ((n:Nat):Int)) none))=_;unfold L2.cutD;rw[HT.wJ,HT.ue];by_cases h:n<=ds.length
 .rw [Nat.min_eq_left h,List.take_of_length_le (by rw[List.length_drop];omega)]
 .rw [Nat.min_eq_right (by omega),List.drop_of_length_le (Nat.le_refl _),List.drop_of_length_le (by omega),List.take_nil]
theorem La{ds:List D}{lo hi:Option Int}:∃p q,JU (.lst ds) lo hi= .ok (.lst ((ds.drop p).take q)):=⟨_,_,rfl⟩
theorem HP(hd:Int):∃rs:List Rx,(∀r∈rs,Gq r)/\1<=rs.length/\rs.length<=80/\mK [.int hd]= .ok (.lst (rs.map Rx.d)):=by
 have hz:sizeLine=16777216:=sizeLine_eq;have ll:∀k,(fL k).length=1:=fun k=>rfl
 have kl:(Str.ofString "in i").length=4/\(Str.ofString " 1").length=2/\(Str.ofString "i").length=1/\(Str.ofString "g").length=1/\(Str.ofString "gate ").length=5/\(Str.ofString " xor ia if").length=10/\(Str.ofString "out o").length=5/\(Str.ofString " gzx").length=4/\(Str.ofString "o").length=1/\(Str.ofString "sure ").length=5/\(Str.ofString " not ").length=5:=by decide+kernel
 obtain⟨k1,k2,k3,k4,k5,k6,k7,k8,k9,Zu,Z7⟩:=kl;have e0:∀δ,eNew (bg aE) δ= .ok (.lst []):=fun δ=>aL (aM rfl (by show 0<=sizeLine;omega))
 have gl:∀k,(DR k).length=3:=fun k=>by unfold DR;rw [Str.length_append,Str.length_append,ll,ll,k4]
 obtain⟨a1,b1,l1⟩:=sU (body:=m4) (N:=6) (hd:=hd) (r:=r0) (rs0:=[]) (a:= .un) (b:= .un) (fun k hk rs b hl=>⟨b,by
  unfold m4;refine(qB (d:=(r0 k).d) (ds:=rs.map Rx.d) (aL (aM (ds:=[.str (r0 k).t, .str IN, .str (r0 k).nm,nI 1, .lst []]) (aj (az (a:= .str (Str.ofString "in i"++fL k)) (b:= .str (Str.ofString " 1")) (az (a:= .str (Str.ofString "in i")) (b:= .str (fL k)) rfl (az (a:= .str (Str.ofString "abcdef")) (b:=nI k) rfl rfl (Bf hk)) (bN (by rw[ll];omega))) rfl (bN (by rw[Str.length_append,ll];omega))) (aj rfl (aj (az (a:= .str (Str.ofString "i")) (b:= .str (fL k)) rfl (az (a:= .str (Str.ofString "abcdef")) (b:=nI k) rfl rfl (Bf hk)) (bN (by rw[ll];omega))) (aj rfl (aj (e0 _) rfl))))) (by show 5<=sizeLine;omega))) rfl (by rw[List.length_map];omega)).trans ?_
  rw[show rs.map Rx.d++[(r0 k).d]=(rs++[r0 k]).map Rx.d by simp];rfl⟩) (by simp)
 obtain⟨a2,TV,l2⟩:=sU (body:=mU) (N:=60) (hd:=hd) (r:=r1) (rs0:=[]++(List.range 6).map r0) (a:=a1) (b:=b1) (fun k hk rs b hl=>⟨.val (.str (DR k)),by
  unfold mU;refine aH (bH (d:= .str (DR k)) (az (a:= .str (Str.ofString "g"++fL (k % 26))) (b:= .str (fL (23+k / 26))) (az (a:= .str (Str.ofString "g")) (b:= .str (fL (k % 26))) rfl (az (a:= .str Ha) (b:=nI (k % 26)) rfl (az (a:=nI k) (b:=nI 26) rfl rfl (jX (by omega))) (Bo (by omega))) (bN (by rw[ll];omega))) (az (a:= .str (Str.ofString "xyz")) (b:=nI (k / 26)) rfl (az (a:=nI k) (b:=nI 26) rfl rfl (sd (by omega) (by omega))) (MB (by omega))) (bN (by rw[Str.length_append,ll,ll];omega))) (by simp)) ?_
  refine(qB (d:=(r1 k).d) (ds:=rs.map Rx.d) (aL (aM (ds:=[.str (r1 k).t, .str GA, .str (DR k),nI 0, .lst [.str (Str.ofString "ia"), .str (Str.ofString "if")]]) (aj (az (a:= .str (Str.ofString "gate "++DR k)) (b:= .str (Str.ofString " xor ia if")) (az (a:= .str (Str.ofString "gate ")) (b:= .str (DR k)) rfl rfl (bN (by rw[gl];omega))) rfl (bN (by rw[Str.length_append,gl];omega))) (aj rfl (aj rfl (aj rfl (aj (aL (aM (ds:=[.str (Str.ofString "ia"), .str (Str.ofString "if")]) rfl (by show 2<=sizeLine;omega))) rfl))))) (by show 5<=sizeLine;omega))) rfl (by rw[List.length_map];omega)).trans ?_
  rw[show rs.map Rx.d++[(r1 k).d]=(rs++[r1 k]).map Rx.d by simp];rfl⟩) (by simp)
 obtain⟨a3,b3,l3⟩:=sU (body:=mG) (N:=6) (hd:=hd) (r:=r2) (rs0:=[]++(List.range 6).map r0++(List.range 60).map r1) (a:=a2) (b:=TV) (fun k hk rs b hl=>⟨b,by
  unfold mG;refine(qB (d:=(r2 k).d) (ds:=rs.map Rx.d) (aL (aM (ds:=[.str (r2 k).t, .str OU, .str (r2 k).nm,nI 0, .lst [.str (Str.ofString "gzx")]]) (aj (az (a:= .str (Str.ofString "out o"++fL k)) (b:= .str (Str.ofString " gzx")) (az (a:= .str (Str.ofString "out o")) (b:= .str (fL k)) rfl (az (a:= .str (Str.ofString "abcdef")) (b:=nI k) rfl rfl (Bf hk)) (bN (by rw[ll];omega))) rfl (bN (by rw[Str.length_append,ll];omega))) (aj rfl (aj (az (a:= .str (Str.ofString "o")) (b:= .str (fL k)) rfl (az (a:= .str (Str.ofString "abcdef")) (b:=nI k) rfl rfl (Bf hk)) (bN (by rw[ll];omega))) (aj rfl (aj (aL (aM (ds:=[.str (Str.ofString "gzx")]) rfl (by show 1<=sizeLine;omega))) rfl))))) (by show 5<=sizeLine;omega))) rfl (by rw[List.length_map];omega)).trans ?_
  rw[show rs.map Rx.d++[(r2 k).d]=(rs++[r2 k]).map Rx.d by simp];rfl⟩) (by simp)
 obtain⟨A,hA⟩:∃A,[]++(List.range 6).map r0++(List.range 60).map r1++(List.range 6).map r2=A:=⟨_,rfl⟩;rw[hA] at l3;have Al:A.length=72:=by rw[<-hA];simp
 have Ag:∀r∈A,Gq r:=fun r hr=>by
  rw[<-hA] at hr;rcases List.mem_append.mp hr with z | z
  .rcases List.mem_append.mp z with z | z
   .rw [List.nil_append] at z;obtain⟨k,hk,rfl⟩:=List.mem_map.mp z;exact PY k (List.mem_range.mp hk)
   .obtain⟨k,hk,rfl⟩:=List.mem_map.mp z;exact O8 k (List.mem_range.mp hk)
  .obtain⟨k,hk,rfl⟩:=List.mem_map.mp z;exact Ov k (List.mem_range.mp hk)
 obtain⟨nm,hnm,enm⟩:=Ac (l:=[Str.ofString "w",Str.ofString "gax",Str.ofString "ia"]) (i:=stN hd 98 % 3) (by show _ < 3;omega)
 obtain⟨wi,hwi,ewi⟩:=Ac (l:=[Str.ofString "ia",Str.ofString "zed"]) (i:=stN hd 99 % 2) (by show _ < 2;omega)
 have nml:nm.length<=8:=(show ∀nm∈[Str.ofString "w",Str.ofString "gax",Str.ofString "ia"],nm.length<=8 by decide+kernel) nm hnm
 have wil:wi.length<=8:=(show ∀wi∈[Str.ofString "ia",Str.ofString "zed"],wi.length<=8 by decide+kernel) wi hwi
 let m0:Rx:=⟨Str.ofString "in q 2",IN,Str.ofString "q",2,[]⟩
 let m1:Rx:=⟨Str.ofString "sure "++nm++Str.ofString " not "++wi,GA,nm,0,[wi]⟩
 let m2:Rx:=⟨Str.ofString "out v ia",OU,Str.ofString "v",0,[Str.ofString "ia"]⟩
 have g0:Gq m0:=Fp (by decide+kernel) ⟨by omega,by omega⟩ (by decide+kernel)
 have g2:Gq m2:=Kz (by decide+kernel) ⟨by decide,by decide⟩ (by decide+kernel) (by decide+kernel)
 have g1:Gq m1:=by
  have q1:∀nm∈[Str.ofString "w",Str.ofString "gax",Str.ofString "ia"],isNm nm=true:=by decide+kernel
  have q2:∀wi∈[Str.ofString "ia",Str.ofString "zed"],Ef wi=true:=by decide+kernel
  have q3:∀nm∈[Str.ofString "w",Str.ofString "gax",Str.ofString "ia"],∀wi∈[Str.ofString "ia",Str.ofString "zed"],Str.ofString "sure "++nm++Str.ofString " not "++wi=Str.join SP ([if true then Str.ofString "sure" else Str.ofString "gate",nm,kS 0]++[wi]):=by decide+kernel
  exact KC (k:=0) (s:=true) (q1 nm hnm) (by omega) rfl (fun y hy=>by rw[List.mem_singleton.mp hy];exact q2 wi hwi) (q3 nm hnm wi hwi)
 have gm:∀r∈[m0,m1,m2],Gq r:=fun r hr=>by
  simp only[List.mem_cons,List.not_mem_nil,or_false] at hr;rcases hr with rfl | rfl | rfl
  .exact g0
  .exact g1
  .exact g2
 obtain⟨at',hat⟩:∃t,stN hd 95 % 73=t:=⟨_,rfl⟩;obtain⟨sa,hsa⟩:∃t,stN hd 96 % 3=t:=⟨_,rfl⟩;obtain⟨sb,hsb⟩:∃t,stN hd 97 % 3=t:=⟨_,rfl⟩;obtain⟨p,q,hpq⟩:=La (ds:=[m0,m1,m2].map Rx.d) (lo:=some (sa:Int)) (hi:=some ((sa+sb:Nat):Int));have ml:(([m0,m1,m2].drop p).take q).length<=3:=by rw[List.length_take,List.length_drop];show min q (3 - p)<=3;omega
 refine⟨A.take at'++([m0,m1,m2].drop p).take q++A.drop at',fun r hr=>?_,?_,?_,?_⟩
 .rcases List.mem_append.mp hr with z | z
  .rcases List.mem_append.mp z with z | z
   .exact Ag r (List.mem_of_mem_take z)
   .exact gm r (List.mem_of_mem_drop (List.mem_of_mem_take z))
  .exact Ag r (List.mem_of_mem_drop z)
 .simp only[List.length_append,List.length_take,List.length_drop] at ml ⊢;omega
 .simp only[List.length_append,List.length_take,List.length_drop,Al] at ml ⊢;omega
 unfold mK sT;refine dQ (aH (δ1:=fE hd [] .un .un) (sQ (ds:=[]) (aM rfl (by show 0<=sizeLine;omega)) (by simp [dn,pW])) ?_)
 refine aH (oP (ds:=(List.range 6).map nI) (rX (n:=6) rfl (by omega)) l1) ?_
 refine aH (oP (ds:=(List.range 60).map nI) (rX (n:=60) rfl (by omega)) l2) ?_
 refine aH (oP (ds:=(List.range 6).map nI) (rX (n:=6) rfl (by omega)) l3) ?_
 unfold wR;have stm:∀(m k:Nat) (δ:aw),0 < m->ao 0 δ= .ok (.int hd)->e2 dv (bf aT (ag (ao 0) (ag (eC (.int k)) aE))) (eC (.int m)) δ= .ok (nI (stN hd k % m)):=fun m k δ hm h=>az (a:=nI (stN hd k)) (b:=nI m) (aK (ds:=[.int hd,nI k]) (aj h rfl) (rT _ k)) rfl (jX hm)
 refine aH (bH (d:= .str nm) (az (a:= .lst ([Str.ofString "w",Str.ofString "gax",Str.ofString "ia"].map .str)) (b:=nI (stN hd 98 % 3)) (aL (aM (ds:=[Str.ofString "w",Str.ofString "gax",Str.ofString "ia"].map .str) rfl (by show 3<=sizeLine;omega))) (stm 3 98 _ (by omega) rfl) enm) (by simp [ik])) ?_
 refine aH (bH (d:= .str wi) (az (a:= .lst ([Str.ofString "ia",Str.ofString "zed"].map .str)) (b:=nI (stN hd 99 % 2)) (aL (aM (ds:=[Str.ofString "ia",Str.ofString "zed"].map .str) rfl (by show 2<=sizeLine;omega))) (stm 2 99 _ (by omega) rfl) ewi) (by simp [ik])) ?_
 refine aH (sQ (ds:=[m0,m1].map Rx.d) (aM (ds:=[m0.d,m1.d]) (aj (aL (aM (ds:=[.str m0.t, .str IN, .str m0.nm,nI 2, .lst []]) (aj rfl (aj rfl (aj rfl (aj rfl (aj (e0 _) rfl))))) (by show 5<=sizeLine;omega))) (aj (aL (aM (ds:=[.str m1.t, .str GA, .str nm,nI 0, .lst [.str wi]]) (aj (az (a:= .str (Str.ofString "sure "++nm++Str.ofString " not ")) (b:= .str wi) (az (a:= .str (Str.ofString "sure "++nm)) (b:= .str (Str.ofString " not ")) (az (a:= .str (Str.ofString "sure ")) (b:= .str nm) rfl rfl (bN (by omega))) rfl (bN (by rw[Str.length_append];omega))) rfl (bN (by rw[Str.length_append,Str.length_append];omega))) (aj rfl (aj rfl (aj rfl (aj (aL (aM (ds:=[.str wi]) rfl (by show 1<=sizeLine;omega))) rfl))))) (by show 5<=sizeLine;omega))) rfl)) (by show 2<=sizeLine;omega)) (by simp [ik])) ?_
 refine aH (qB (d:=m2.d) (ds:=[m0,m1].map Rx.d) (aL (aM (ds:=[.str m2.t, .str OU, .str m2.nm,nI 0, .lst [.str (Str.ofString "ia")]]) (aj rfl (aj rfl (aj rfl (aj rfl (aj (aL (aM (ds:=[.str (Str.ofString "ia")]) rfl (by show 1<=sizeLine;omega))) rfl))))) (by show 5<=sizeLine;omega))) rfl (by show 2 < sizeLine;omega)) ?_
 refine aH (bH (d:=nI sa) ((stm 3 96 _ (by omega) rfl).trans (by rw[hsa])) (by simp [ik])) ?_
 refine aH (bH (d:=nI at') ((stm 73 95 _ (by omega) rfl).trans (by rw[hat])) (by simp [ik])) ?_
 refine bW (az (a:= .lst ((A.take at'++([m0,m1,m2].drop p).take q).map Rx.d)) (b:= .lst ((A.drop at').map Rx.d)) (az (a:= .lst ((A.take at').map Rx.d)) (b:= .lst ((([m0,m1,m2].drop p).take q).map Rx.d)) (kq (d:= .lst (A.map Rx.d)) (lo:=none) (hi:=some (at':Int)) rfl rfl (dI rfl) (by rw[qL,List.map_take])) (kq (d:= .lst ([m0,m1,m2].map Rx.d)) (lo:=some (sa:Int)) (hi:=some ((sa+sb:Nat):Int)) rfl (dI rfl) (dI (az (a:=nI sa) (b:=nI sb) rfl ((stm 3 97 _ (by omega) rfl).trans (by rw[hsb])) (zc _ _))) (by rw[hpq,List.map_take,List.map_drop])) ?_) (kq (d:= .lst (A.map Rx.d)) (lo:=some (at':Int)) (hi:=none) rfl (dI rfl) rfl (by rw[HE,List.map_drop])) ?_)
 .rw [lC (by simp only[List.length_map,List.length_append,List.length_take,List.length_drop] at ml ⊢;omega),List.map_append]
 .rw [lC (by simp only[List.length_map,List.length_append,List.length_take,List.length_drop] at ml ⊢;omega),<-List.map_append]
end K05
end
section
namespace K05
open PySem PySem.Spec PyProof.Rows L2 L3 MT JT TX
theorem Dv{text:Str}{S:aR}(ht:text.length<=9000000)(BY:80 < (Txt.split text NL).length):WE (jg [.d (.str text)] S) (fun v S1=>∃d,jq (Txt.split text NL)= .ok d/\lF d/\v= .tup [.loc (S.length+1), .loc (S.length+2), .loc (S.length+3)]/\S1=jv S d) (fun c S1=>jq (Txt.split text NL)= .error c/\∃T,S1=S++T):=by
 have hz:sizeLine=16777216:=sizeLine_eq;unfold jg;refine Na rfl ?_;simp only[dq,ur,List.map,List.length,List.replicate,List.cons_append,List.nil_append,Nat.reduceAdd,Nat.reduceSub];unfold xf;refine gT <| xF <| iu (by simp) <| il (d:= .lst ((Txt.split text NL).map .str)) (lq (x:=text) rfl (aj rfl rfl) (by rw[vL];exact tS (by omega))) ⟨_,rfl,?_⟩
 simp only[List.set];generalize Txt.split text NL=rs at BY;refine gT <| pS <| uZ (b:=decide (80 < rs.length)) (cD (a:=nI rs.length) (b:=nI 80) (aK (ds:=[.lst (rs.map .str)]) rfl (by rw[mV,List.length_map])) rfl (FF _ _)) ?_
 unfold jq;rw[decide_eq_true BY,if_pos rfl,if_pos BY];exact qT <| ck <| il (d:= .str _) rfl <| iy ⟨by show 1<=sizeLine;omega,rfl,[],by simp⟩
def rA:Rx:=⟨Str.ofString "in a 1",IN,Str.ofString "a",1,[]⟩
theorem Ol:Gq rA:=Fp (by decide+kernel) ⟨by omega,by omega⟩ (by decide+kernel)
theorem A_{r:Rx}(h:Gq r)(hn:PyData.strOk r.nm=true):lD 2 r.d:=MS h.R hn h.J.so
theorem K_(cell:Int):∃r:Rx,Gq r/\lD 2 r.d/\ft [.int cell]= .ok r.d:=by
 obtain⟨r,R,_,w3,so,sn,e⟩:=zy cell;have G:Gq r:=⟨R,qZ R so w3⟩;exact⟨r,G,A_ G sn,e⟩
theorem HM(cell:Int):∃r:Rx,Gq r/\lD 2 r.d/\r.wd=BD/\r.nm=Str.ofString ""/\r.w=0/\r.ws=[]/\ma [.int cell]= .ok (.str r.t):=by
 obtain⟨ws,hb,e⟩:=Lk cell;have R:=IA hb;have G:Gq ⟨Str.join SP ws,BD,Str.ofString "",0,[]⟩:=⟨R,qZ R (fun w h=>by cases h) (Nat.zero_le _)⟩
 exact⟨_,G,A_ G (by show PyData.strOk (Str.ofString "")=true;decide+kernel),rfl,rfl,rfl,rfl,e⟩
theorem IG{ds:List D}{m:Nat}(h1:m < 1000000)(h2:ds.length*m<=sizeLine):A0 (.lst ds) (nI m)= .ok (.lst (List.replicate m ds).flatten):=by
 show R.aW (decide (0<=(m:Int)/\(m:Int) < 1000000/\ds.length*(m:Int).toNat<=sizeLine)) (R.ok (D.lst (List.replicate (m:Int).toNat ds).flatten))=_;rw[Int.toNat_natCast];exact bS _ ⟨by omega,by omega,h2⟩
theorem ES(ns:List Int)(hn:ns.length<=63):BW [.lst (ns.map D.int)]= .ok (.bl true):=by
 have hz:sizeLine=16777216:=sizeLine_eq;have f0:Flat ([]:aR):=Flat.nil;have e0:∀δ,eNew (bg aE) δ= .ok (.lst []):=fun δ=>aL (aM rfl (by show 0<=sizeLine;omega))
 have Tx:MN [SO.ik]:=fun o ho=>by rw[List.mem_singleton.mp ho];rfl
 have key:W3 (zm ph tw [.d (.lst (ns.map .int))] []) fun v S1=>v= .d (.bl true)/\S1=[]:=by
  refine Ki f0.Tx (V0 rfl ?_);simp only[dq,ph,List.map,List.length,List.replicate,List.cons_append,List.nil_append,Nat.reduceAdd,Nat.reduceSub];unfold tw;have tk:ns.take 63=ns:=List.take_of_length_le hn;refine d7 <| iu (by simp) <| AW (ds:=[]) (aM rfl (by show 0<=sizeLine;omega)) ⟨_,rfl,?_⟩
  simp only[List.set];refine d7 <| Kx <| Eb (ds:=ns.map .int) (lG (kq (d:= .lst (ns.map .int)) (lo:=none) (hi:=some ((63:Nat):Int)) rfl rfl (dI rfl) (by rw[qL,<-List.map_take,tk]))) <| (vy (fun i δ S=>∃(rs:List Rx) (a:Option V3),rs.length=i/\(∀r∈rs,Gq r/\lD 2 r.d)/\δ=[some (.d (.lst (ns.map .int))),some (.loc 0),a,none,none,none,none]/\S=[.lst (rs.map Rx.d)]) ⟨[],none,rfl,by simp,rfl,rfl⟩ ?_).mono ?_
  .rintro i v δ S hv ⟨rs,a,hl,hg,rfl,rfl⟩;obtain⟨c,hc,rfl⟩:=NT.wD hv;have hil:=(List.getElem?_eq_some_iff.mp hc).1;refine⟨[some (.d (.lst (ns.map .int))),some (.loc 0),some (.d (.int c)),none,none,none,none],rfl,?_⟩;unfold BO;have fin:∀r:Rx,Gq r->lD 2 r.d->∃jj,Ou.nx [some (.d (.lst (ns.map .int))),some (.loc 0),some (.d (.int c)),none,none,none,none]= .nx jj/\∃(Uh:List Rx) (a:Option V3),Uh.length=i+1/\(∀r∈Uh,Gq r/\lD 2 r.d)/\jj=[some (.d (.lst (ns.map .int))),some (.loc 0),a,none,none,none,none]/\([SO.lst (rs.map Rx.d++[r.d])]:aR)=[.lst (Uh.map Rx.d)]:=fun r hr hf=>⟨_,rfl,rs++[r],_,by simp [hl],(fun x hx=>by
    rcases List.mem_append.mp hx with z | z
    .exact hg x z
    .rw [List.mem_singleton.mp z];exact⟨hr,hf⟩),rfl,by simp⟩
   refine GB <| uZ (b:=decide (stN c 72 % 8=0)) (cD (a:=nI (stN c 72 % 8)) (b:=nI 0) (az (a:=nI (stN c 72)) (b:=nI 8) (aK (ds:=[.int c,nI 72]) rfl (rT _ 72)) rfl (jX (by omega))) rfl (yM _ _)) ?_
   by_cases hb:stN c 72 % 8=0
   .rw [decide_eq_true hb];obtain⟨⟨rt,rwd,rnm,xW,rws⟩,G,F,rfl,rfl,rfl,rfl,e⟩:=HM c;exact J0 rfl ⟨_,rfl⟩ <| il (d:=Rx.d ⟨rt,BD,Str.ofString "",0,[]⟩) (aL (aM (ds:=[.str rt, .str BD, .str (Str.ofString ""),nI 0, .lst []]) (aj (aK (ds:=[.int c]) rfl e) (aj rfl (aj rfl (aj rfl (aj (e0 _) rfl))))) (by show 5<=sizeLine;omega))) ⟨_,_,rfl,rfl,by rw[List.length_map];omega,fin _ G F⟩
   .rw [decide_eq_false hb];obtain⟨r,G,F,e⟩:=K_ c;exact J0 rfl ⟨_,rfl⟩ <| il (d:=r.d) (aK (ds:=[.int c]) rfl e) ⟨_,_,rfl,rfl,by rw[List.length_map];omega,fin _ G F⟩
  rintro o S1 ⟨jj,rfl,rs0,a,l0,g0,rfl,rfl⟩;rw[List.length_map,List.length_map] at l0;refine⟨_,rfl,Ph rfl rfl ?_⟩;simp only[List.set];obtain⟨hd,hhd⟩:∃hd,ns.getD 0 0=hd:=⟨_,rfl⟩;refine d7 <| iu (by simp) <| il (d:= .int hd) (aK (ds:=[.lst (ns.map .int),nI 0]) rfl (by rw[IP,hhd])) ⟨_,rfl,?_⟩
  simp only[List.set];have stm:∀(m k:Nat) (δ:aw),0 < m->ao 3 δ= .ok (.int hd)->e2 dv (bf aT (ag (ao 3) (ag (eC (.int k)) aE))) (eC (.int m)) δ= .ok (nI (stN hd k % m)):=fun m k δ hm h=>az (a:=nI (stN hd k)) (b:=nI m) (aK (ds:=[.int hd,nI k]) (aj h rfl) (rT _ k)) rfl (jX hm)
  refine d7 (W3.mono (Q:=fun o S1=>S1=[SO.ik]/\∃rs:List Rx,(∀r∈rs,Gq r)/\1<=rs.length/\rs.length<=63/\o= .nx [some (.d (.lst (ns.map .int))),some (.d (.lst (rs.map Rx.d))),a,some (.d (.int hd)),none,none,none]) ?_ ?_)
  .refine GB <| uZ (b:=rs0.isEmpty) (cD (a:= .lst (rs0.map Rx.d)) (b:= .lst []) (by cases a <;> rfl) (e0 _) (EF fun r hr=>(g0 r hr).2)) ?_
   cases hr0:rs0 with
   | nil=>
     exact iu (by simp) <| il (d:= .lst [rA.d]) (aL (aM (ds:=[rA.d]) (aj (aL (aM (ds:=[.str rA.t, .str IN, .str rA.nm,nI 1, .lst []]) (aj rfl (aj rfl (aj rfl (aj rfl (aj (e0 _) rfl))))) (by show 5<=sizeLine;omega))) rfl) (by show 1<=sizeLine;omega))) ⟨rfl,[rA],(fun r hr=>by rw[List.mem_singleton.mp hr];exact Ol),by simp,by simp,rfl⟩
   | cons r l=>
     subst hr0;exact xA ⟨rfl,r ::l,(fun x hx=>(g0 x hx).1),by simp,by omega,rfl⟩
  rintro o S1 ⟨rfl,DT,g1,o1,l1,rfl⟩;refine⟨_,rfl,?_⟩;refine d7 (W3.mono (Q:=fun o S1=>S1=[SO.ik]/\∃(rs:List Rx) (b:Option V3),(∀r∈rs,Gq r)/\1<=rs.length/\rs.length<=300/\o= .nx [some (.d (.lst (ns.map .int))),some (.d (.lst (rs.map Rx.d))),a,some (.d (.int hd)),b,none,none]) ?_ ?_)
  .refine GB <| uZ (b:=decide (stN hd 91 % 3=0)) (cD (a:=nI (stN hd 91 % 3)) (b:=nI 0) (stm 3 91 _ (by omega) (by cases a <;> rfl)) rfl (yM _ _)) ?_
   by_cases h3:stN hd 91 % 3=0
   .rw [decide_eq_true h3];obtain⟨m,Z3,Zp,em⟩:∃m:Nat,79<=m/\m<=300/\dN (.lst [.int 79, .int 80, .int 81, .int 82,nI (81+stN hd 92 % 220)]) (nI (stN hd 93 % 5))= .ok (nI m):=by
     rcases(show stN hd 93 % 5=0\/stN hd 93 % 5=1\/stN hd 93 % 5=2\/stN hd 93 % 5=3\/stN hd 93 % 5=4 by omega) with e | e | e | e | e <;> rw[e]
     .exact⟨79,by omega,by omega,rfl⟩
     .exact⟨80,by omega,by omega,rfl⟩
     .exact⟨81,by omega,by omega,rfl⟩
     .exact⟨82,by omega,by omega,rfl⟩
     .exact⟨81+stN hd 92 % 220,by omega,by omega,rfl⟩
    refine d7 <| iu (by simp) <| il (d:=nI m) (az (a:= .lst [.int 79, .int 80, .int 81, .int 82,nI (81+stN hd 92 % 220)]) (b:=nI (stN hd 93 % 5)) (aL (aM (ds:=[.int 79, .int 80, .int 81, .int 82,nI (81+stN hd 92 % 220)]) (aj rfl (aj rfl (aj rfl (aj rfl (aj (az (a:=nI 81) (b:=nI (stN hd 92 % 220)) rfl (stm 220 92 _ (by omega) (by cases a <;> rfl)) (zc _ _)) rfl))))) (by show 5<=sizeLine;omega))) (stm 5 93 _ (by omega) (by cases a <;> rfl)) em) ⟨_,rfl,?_⟩
    simp only[List.set];have fl:∀k:Nat,(List.replicate k DT).flatten.length=k*DT.length:=fun k=>L2.len_rep DT k
    have mp:∀k:Nat,(List.replicate k (DT.map Rx.d)).flatten=(List.replicate k DT).flatten.map Rx.d:=fun k=>by rw[List.map_flatten,List.map_replicate]
    have mn:(nI m:D)= .int (m:Int):=rfl;refine d7 <| iu (by simp) <| il (d:= .lst (((List.replicate m DT).flatten.take m).map Rx.d)) (kq (d:= .lst ((List.replicate m DT).flatten.map Rx.d)) (lo:=none) (hi:=some (m:Int)) (az (a:= .lst (DT.map Rx.d)) (b:=nI m) (by cases a <;> rfl) (by cases a <;> rfl) ?_) rfl (dI (by cases a <;> rfl)) (by rw[qL,List.map_take])) ⟨_,rfl,?_⟩
    .have hb:DT.length*m<=sizeLine:=by
      have:=Nat.mul_le_mul l1 Zp;omega
     rw[IG (by omega) (by rw[List.length_map];exact hb),mp]
    simp only[List.set];have big:m<=(List.replicate m DT).flatten.length:=by rw[fl];exact Nat.le_mul_of_pos_right m o1
    refine GB <| uZ (b:=decide (stN hd 94 % 2=1)) (cD (a:=nI (stN hd 94 % 2)) (b:=nI 1) (stm 2 94 _ (by omega) (by cases a <;> rfl)) rfl (yM _ _)) ?_
    by_cases h2:stN hd 94 % 2=1
    .rw [decide_eq_true h2];obtain⟨fs,fg,f1,f80,fe⟩:=HP hd;exact iu (by simp) <| il (d:= .lst (fs.map Rx.d)) (aK (ds:=[.int hd]) (aj (by cases a <;> rfl) rfl) fe) ⟨rfl,fs,some (.d (nI m)),fg,f1,by omega,rfl⟩
    .rw [decide_eq_false h2];refine xA ⟨rfl,(List.replicate m DT).flatten.take m,some (.d (nI m)),fun r hr=>?_,by rw[List.length_take];omega,by rw[List.length_take];omega,rfl⟩
     have:=List.mem_of_mem_take hr;obtain⟨l,hl,hr⟩:=List.mem_flatten.mp this;rw[(List.mem_replicate.mp hl).2] at hr;exact g1 r hr
   .rw [decide_eq_false h3];exact xA ⟨rfl,DT,none,g1,o1,by omega,rfl⟩
  rintro o S1 ⟨rfl,rs,b,g,WZ,aan,rfl⟩;refine⟨_,rfl,?_⟩;have hR:∀r∈rs,vf r:=fun r hr=>(g r hr).R
  have sF:rs≠[]:=fun e=>by rw[e] at WZ;simp at WZ
  refine d7 <| iu (by simp) <| il (d:=oD (rL s0 rs)) (aK (ds:=[.lst (rs.map Rx.d)]) (aj (by cases a <;> cases b <;> rfl) rfl) (Ci (fun r hr=>(g r hr).J) (by omega))) ⟨_,rfl,?_⟩
  simp only[List.set];obtain⟨du,hdu⟩:∃du,(if 80 < rs.length then some 0 else rL s0 rs)=du:=⟨_,rfl⟩
  refine d7 (W3.mono (Q:=fun o S1=>S1=[SO.ik]/\o= .nx [some (.d (.lst (ns.map .int))),some (.d (.lst (rs.map Rx.d))),a,some (.d (.int hd)),b,some (.d (oD du)),none]) ?_ ?_)
  .refine GB <| uZ (b:=decide (80 < rs.length)) (cD (a:=nI rs.length) (b:=nI 80) (aK (ds:=[.lst (rs.map Rx.d)]) (aj (by cases a <;> cases b <;> rfl) rfl) (by rw[mV,List.length_map])) rfl (FF _ _)) ?_
   by_cases BY:80 < rs.length
   .rw [if_pos BY] at hdu;subst hdu;rw[decide_eq_true BY];exact iu (by simp) <| il rfl ⟨rfl,rfl⟩
   .rw [if_neg BY] at hdu;subst hdu;rw[decide_eq_false BY];exact xA ⟨rfl,rfl⟩
  rintro o S1 ⟨rfl,rfl⟩;refine⟨_,rfl,?_⟩;refine d7 <| iu (by simp) <| il (d:= .str (Str.join NL (rs.map (·.t)))) (lq (x:=NL) rfl (aj (aL (kg (ds:=rs.map Rx.d) (lG (by cases a <;> cases b <;> rfl)) (by rw[List.length_map];omega) (NT.iA Rx.d (fun r=> .str r.t) fun r _=>⟨[.val r.d],rfl,rfl,az (a:=r.d) (b:= .int 0) rfl rfl rfl⟩))) rfl) (by rw[show(rs.map fun r=>D.str r.t)=(rs.map (·.t)).map .str by rw[List.map_map];rfl];exact zW hR (by omega))) ⟨_,rfl,?_⟩
  simp only[List.set];have htl:=CK hR;have DC:=yf hR sF;have hcp:=Cv hR;have rd:WE (jg [.d (.str (Str.join NL (rs.map (·.t))))] [SO.ik]) (fun v S1=>∃d,jq (Txt.split (Str.join NL (rs.map (·.t))) NL)= .ok d/\lF d/\v= .tup [.loc ([SO.ik].length+1), .loc ([SO.ik].length+2), .loc ([SO.ik].length+3)]/\S1=jv [SO.ik] d) (fun c S1=>jq (Txt.split (Str.join NL (rs.map (·.t))) NL)= .error c/\∃T,S1=[SO.ik]++T):=by
   by_cases BY:80 < rs.length
   .exact Dv (by omega) (by rw[DC,List.length_map];exact BY)
   .exact Jn ⟨by omega,fun c hc=>by have:=hcp c hc;omega⟩
  have ho:(match jq (Txt.split (Str.join NL (rs.map (·.t))) NL) with | .ok _=>du=none | .error c=>2<=c/\c<=8/\du=some (c - 2)):=by
   rw[DC];by_cases BY:80 < rs.length
   .rw [if_pos BY] at hdu;have:jq (rs.map (·.t))= .error 2:=by unfold jq;rw [if_pos (by rw[List.length_map];exact BY)]
    rw[this];exact⟨by omega,by omega,hdu.symm⟩
   .rw [if_neg BY] at hdu;have sim:=D7 hR (by omega)
    rw[hdu] at sim;cases du with
    | none=>
      obtain⟨d,JN,_⟩:=sim;rw[JN]
    | some n=>
      obtain⟨n6,JN⟩:=sim;rw[JN];exact⟨by omega,by omega,rfl⟩
  refine yD <| O1 <| Mv <| ck <| il (by cases a <;> cases b <;> rfl) <| iy <| Ay Tx rd ho <| il (d:=Iz du) ?_ ⟨_,_, .bl true,rfl,rfl,?_,_,rfl,rfl,⟨_,rfl⟩,_,rfl,rfl,trivial⟩
  .cases du with
   | none=>
     refine aL (kg (ds:=(List.range 0).map nI) (rX (n:=0) (az (a:= .lst [.int 14, .int 0]) (b:=nI 1) (aL (aM (ds:=[.int 14, .int 0]) rfl (by show 2<=sizeLine;omega))) (aK (ds:=[.bl true]) (aj (by cases a <;> cases b <;> rfl) rfl) rfl) rfl) (by omega)) (by simp) rfl)
   | some n=>
     refine aL (kg (ds:=(List.range 14).map nI) (rX (n:=14) (az (a:= .lst [.int 14, .int 0]) (b:=nI 0) (aL (aM (ds:=[.int 14, .int 0]) rfl (by show 2<=sizeLine;omega))) (aK (ds:=[.bl false]) (aj ((az (a:=nI n) (b:=nI 0) (by cases a <;> cases b <;> rfl) rfl (wA _ _)).trans (by rw[decide_eq_false (Nat.not_lt_zero n)])) rfl) rfl) rfl) (by omega)) (by simp;omega) (NT.iA nI (fun k=> .bl (decide (n=k))) fun k _=>⟨[.val (nI k), .val (nI n)],by cases a <;> cases b <;> rfl,rfl,az (a:=nI n) (b:=nI k) rfl rfl (yM _ _)⟩))
  .cases du with
   | none=>rfl
   | some n=>
     have:Iz (some n)= .lst (((List.range 14).map fun k=>decide (n=k)).map .bl):=by unfold Iz;rw [List.map_map];rfl
     rw[this];exact EG _
 obtain⟨v,S1,e1,sf,e3⟩:=key;unfold BW QQ;show(match zm ph tw ([D.lst (ns.map D.int)].map V3.d) [] with | .ok (.d d) []=>R.aW d.atom (R.ok d) | _=> .no)=_
 rw[show [D.lst (ns.map D.int)].map V3.d=[V3.d (.lst (ns.map .int))] from rfl,e1,sf,e3]
 rfl
end K05
end
open PySem PySem.W PyProof.Rows
set_option maxRecDepth 100000 in
set_option maxHeartbeats 0 in
theorem PySem.Challenge.cw_bearfaults_k05_faults_together_holds : PySem.Challenge.rw_bearfaults_k05_faults_together.Holds := by
 w_on;o_law;k_head;(case hw=>w_witness2)
 k_fill
 refine L2.Qd (l:=PySem.Challenge.rw_bearfaults_k05_faults_together) (n:=63) (k:=8) (x:="script") (g:=K05.BW) rfl (by decide) rfl ⟨rfl,by decide,by decide⟩ (fun w h Y=>PySem.W.kIn_of Y) ?F K05.ES
 case F=>
  intro w mg fa h KX G Ql
  have rN:L2.Def (L2.fF KX) mg "is_name" K05.mC:=by
   dsimp only[L2.fF]
   refine' L2.dE KX G ?a ?l ?c ?k
   (case a=>k_is);(case l=>k_is);(case c=>k_is);(case k=>k_is)
  have qd:L2.Def (L2.fF KX) mg "in_wires" K05.kE:=by
   dsimp only[L2.fF]
   refine' L2.dE KX G ?a ?l ?c ?k
   (case a=>k_is);(case l=>k_is);(case c=>k_is);(case k=>k_is)
  have kQ:L2.Def (L2.fF KX) mg "is_wire_form" K05.eh:=by
   dsimp only[L2.fF]
   refine' L2.dE KX G ?a ?l ?c ?k
   (case a=>k_is);(case l=>k_is);(case c=>k_is);(case k=>k_is)
  have i9:L2.Def (L2.fF KX) mg "are_wire_forms" K05.dk:=by
   dsimp only[L2.fF]
   refine' L2.dE KX G ?a ?l ?c ?k
   (case a=>k_is);(case l=>k_is);(case c=>k_is);(case k=>k_is)
  have m5:L2.Def (L2.fF KX) mg "is_in_form" K05.gz:=by
   dsimp only[L2.fF]
   refine' L2.dE KX G ?a ?l ?c ?k
   (case a=>k_is);(case l=>k_is);(case c=>k_is);(case k=>k_is)
  have kN:L2.Def (L2.fF KX) mg "is_gate_form" K05.d9:=by
   dsimp only[L2.fF]
   refine' L2.dE KX G ?a ?l ?c ?k
   (case a=>k_is);(case l=>k_is);(case c=>k_is);(case k=>k_is)
  have lV:L2.Def (L2.fF KX) mg "is_out_form" K05.fB:=by
   dsimp only[L2.fF]
   refine' L2.dE KX G ?a ?l ?c ?k
   (case a=>k_is);(case l=>k_is);(case c=>k_is);(case k=>k_is)
  have qb:L2.Def (L2.fF KX) mg "read_row" K05.kf:=by
   dsimp only[L2.fF]
   refine' L2.dE KX G ?a ?l ?c ?k
   (case a=>k_is);(case l=>k_is);(case c=>k_is);(case k=>k_is)
  have AF:L2.Def (L2.fF KX) mg "read" K05.ub:=by
   dsimp only[L2.fF]
   refine' L2.dE KX G ?a ?l ?c ?k
   (case a=>k_is);(case l=>k_is);(case c=>k_is);(case k=>k_is)
  have lN:L2.Def (L2.fF KX) mg "_law_cell_at" K05.fm:=by
   dsimp only[L2.fF]
   refine' L2.dE KX G ?a ?l ?c ?k
   (case a=>k_is);(case l=>k_is);(case c=>k_is);(case k=>k_is)
  have qh:L2.Def (L2.fF KX) mg "_law_stir" K05.ki:=by
   dsimp only[L2.fF]
   refine' L2.dE KX G ?a ?l ?c ?k
   (case a=>k_is);(case l=>k_is);(case c=>k_is);(case k=>k_is)
  have rQ:L2.Def (L2.fF KX) mg "_law_bad" K05.l6:=by
   dsimp only[L2.fF]
   refine' L2.dE KX G ?a ?l ?c ?k
   (case a=>k_is);(case l=>k_is);(case c=>k_is);(case k=>k_is)
  have lR:L2.Def (L2.fF KX) mg "_law_any_row" K05.fD:=by
   dsimp only[L2.fF]
   refine' L2.dE KX G ?a ?l ?c ?k
   (case a=>k_is);(case l=>k_is);(case c=>k_is);(case k=>k_is)
  have rO:L2.Def (L2.fF KX) mg "_law_due" K05.my:=by
   dsimp only[L2.fF]
   refine' L2.dE KX G ?a ?l ?c ?k
   (case a=>k_is);(case l=>k_is);(case c=>k_is);(case k=>k_is)
  have m7:L2.Def (L2.fF KX) mg "_law_behind" K05.gp:=by
   dsimp only[L2.fF]
   refine' L2.dE KX G ?a ?l ?c ?k
   (case a=>k_is);(case l=>k_is);(case c=>k_is);(case k=>k_is)
  have nc:L2.Def (L2.fF KX) mg "_law_judged" K05.gr:=by
   dsimp only[L2.fF]
   refine' L2.dE KX G ?a ?l ?c ?k
   (case a=>k_is);(case l=>k_is);(case c=>k_is);(case k=>k_is)
  have lQ:L2.Def (L2.fF KX) mg "_law_refused" K05.fw:=by
   dsimp only[L2.fF]
   refine' L2.dE KX G ?a ?l ?c ?k
   (case a=>k_is);(case l=>k_is);(case c=>k_is);(case k=>k_is)
  have qg:L2.Def (L2.fF KX) mg "_law_full" K05.ky:=by
   dsimp only[L2.fF]
   refine' L2.dE KX G ?a ?l ?c ?k
   (case a=>k_is);(case l=>k_is);(case c=>k_is);(case k=>k_is)
  have D_law:L2.Def (L2.fF KX) mg "law" K05.BV:=by
   dsimp only[L2.fF]
   refine' L2.dE KX G ?a ?l ?c ?k
   (case a=>k_is);(case l=>k_is);(case c=>k_is);(case k=>k_is)
  have uN:L2.Glob (L2.fF KX) mg "MOST_LETTERS" K05.ef:=by
   dsimp only[L2.fF]
   refine' L2.mf KX G ?a
   (case a=>k_is)
  have G1:L2.Glob (L2.fF KX) mg "BARRED" K05.oh:=by
   dsimp only[L2.fF]
   refine' L2.x5 KX G ["in","gate","sure","out","not","and","or","xor","vote"] ?a ?l ?c ?d ?z ?r
   (case a=>k_is);(case l=>k_is);(case c=>rfl);(case d=>rfl);(case z=>decide);(case r=>exact .cons ⟨_,rfl⟩ (.cons ⟨_,rfl⟩ (.cons ⟨_,rfl⟩ (.cons ⟨_,rfl⟩ (.cons ⟨_,rfl⟩ (.cons ⟨_,rfl⟩ (.cons ⟨_,rfl⟩ (.cons ⟨_,rfl⟩ (.cons ⟨_,rfl⟩ (.nil))))))))))
  have Dz:L2.Glob (L2.fF KX) mg "LETTERS" K05.mm:=by
   dsimp only[L2.fF]
   refine' L2.D8 KX G ?a
   (case a=>k_is)
  have DB:L2.Glob (L2.fF KX) mg "FIGURES" K05.mw:=by
   dsimp only[L2.fF]
   refine' L2.x5 KX G ["0","1","2","3","4","5","6","7","8","9"] ?a ?l ?c ?d ?z ?r
   (case a=>k_is);(case l=>k_is);(case c=>rfl);(case d=>rfl);(case z=>decide);(case r=>exact .cons ⟨_,rfl⟩ (.cons ⟨_,rfl⟩ (.cons ⟨_,rfl⟩ (.cons ⟨_,rfl⟩ (.cons ⟨_,rfl⟩ (.cons ⟨_,rfl⟩ (.cons ⟨_,rfl⟩ (.cons ⟨_,rfl⟩ (.cons ⟨_,rfl⟩ (.cons ⟨_,rfl⟩ (.nil)))))))))))
  have rM:L2.Glob (L2.fF KX) mg "MOST_OUT_WIRES" K05.dg:=by
   dsimp only[L2.fF]
   refine' L2.mf KX G ?a
   (case a=>k_is)
  have AE:L2.Glob (L2.fF KX) mg "MOST_INS" K05.j_:=by
   dsimp only[L2.fF]
   refine' L2.mf KX G ?a
   (case a=>k_is)
  have xG:L2.Glob (L2.fF KX) mg "MOST_GATES" K05.gY:=by
   dsimp only[L2.fF]
   refine' L2.mf KX G ?a
   (case a=>k_is)
  have zi:L2.Glob (L2.fF KX) mg "MOST_OUTS" K05.jm:=by
   dsimp only[L2.fF]
   refine' L2.mf KX G ?a
   (case a=>k_is)
  have zj:L2.Glob (L2.fF KX) mg "MOST_ROWS" K05.jo:=by
   dsimp only[L2.fF]
   refine' L2.mf KX G ?a
   (case a=>k_is)
  have DA:L2.og PySem.Challenge.rw_bearfaults_k05_faults_together.prog w (L2.fF KX) mg "WIDTHS" K05.oS:=by
   dsimp only[L2.fF]
   refine' L2.yE KX G [("1",_,1,_),("2",_,2,_),("3",_,3,_)] ?a ?l ?s ?k ?d ?m ?z
   (case a=>k_is);(case l=>k_is);(case s=>rfl);(case k=>rfl);(case d=>decide);(case m=>rfl);(case z=>decide)
  have vk:L2.og PySem.Challenge.rw_bearfaults_k05_faults_together.prog w (L2.fF KX) mg "KIND_WIRES" K05.je:=by
   dsimp only[L2.fF]
   refine' L2.yE KX G [("not",_,1,_),("and",_,2,_),("or",_,2,_),("xor",_,2,_),("vote",_,3,_)] ?a ?l ?s ?k ?d ?m ?z
   (case a=>k_is);(case l=>k_is);(case s=>rfl);(case k=>rfl);(case d=>decide);(case m=>rfl);(case z=>decide)
  obtain⟨cl,CF⟩:∃cl,K05.Cf (L2.fF KX) mg cl:=by
   dsimp only[L2.fF]
   refine' K05.P9 KX G ?Ug ?Ur ?Ub ?U9 ?Uv ?T_ ?TM ?AG ?uL ?xI ?uK ?ng ?qe ?Ux ?U8 ?Vd ?UK ?Vt ?UU ?Vg ?U_ ?UO ?Nn ?Nr ?Ny ?Nt ?Nk ?U4 ?Vk ?UT ?TQ ?Vi ?U2 ?Vl ?UI ?Pu ?UP ?U6 ?US ?Uj ?UD ?Ui ?O7 ?UN ?UC ?Ve ?Vp ?T8 ?Ut ?UJ ?U1 ?Uk ?UL ?T9 ?U3 ?UZ ?Vj ?Ua ?UX ?UW ?Vn ?Uz ?Vf ?UG ?T6 ?Uq ?TY ?Uu ?Uo ?Vc ?Ue ?UQ ?Ul ?Vq ?Vs ?U7 ?JM ?JP ?lT ?jF ?lO ?kR ?iK ?jT ?i5 ?uH ?jK ?g_ ?jG ?iO ?f_ ?ib ?fY ?qc ?kP ?iL ?kH ?jN ?hU ?iW ?hV ?rP ?jM ?ie ?jE ?i_ ?f9 ?ig ?fP ?qj ?iH ?gb ?iM ?hJ ?eZ ?fS ?eW ?oH ?nh ?kL ?m8 ?lP ?jP ?kU ?jI ?xM ?kJ ?i0 ?kY ?jB ?gZ ?iU ?ij ?rR ?m6 ?kO ?m_ ?lX ?jL ?k_ ?jS ?xK ?jV ?ia ?jH ?iZ ?fX ?g7 ?f6 ?p9 ?lM ?jR ?lW ?kT ?i3 ?jO ?i4 ?uM ?iJ ?fT ?i8 ?g6 ?e7 ?fR ?e8 ?oM ?iS ?fO ?iQ ?g4 ?e_ ?fV ?eY ?oK ?gc ?eF ?fU ?fj ?dX ?eA ?dZ ?lS ?jD ?g8 ?jC ?iX ?f7 ?h_ ?fZ ?p_ ?fW ?eK ?fQ ?eX ?dY ?eD ?dW ?kF ?kI ?kW ?ee ?g9 ?eL ?eE ?eG ?cB ?c7 ?iR ?jb ?ja ?dh ?eR ?jU ?jJ ?jW ?dH ?fK ?iV ?iY ?iI ?di ?jc
   (case Ug=>k_is)
   (case Ur=>k_is)
   (case Ub=>k_is)
   (case U9=>k_is)
   (case Uv=>k_is)
   (case T_=>k_is)
   (case TM=>k_is)
   (case AG=>k_is)
   (case uL=>k_is)
   (case xI=>k_is)
   (case uK=>k_is)
   (case ng=>k_is)
   (case qe=>k_is)
   (case Ux=>k_is)
   (case U8=>k_is)
   (case Vd=>k_is)
   (case UK=>k_is)
   (case Vt=>k_is)
   (case UU=>k_is)
   (case Vg=>k_is)
   (case U_=>k_is)
   (case UO=>k_is)
   (case Nn=>k_is)
   (case Nr=>k_is)
   (case Ny=>k_is)
   (case Nt=>k_is)
   (case Nk=>k_is)
   (case U4=>kernel_rfl)
   (case Vk=>k_is)
   (case UT=>k_is)
   (case TQ=>k_is)
   (case Vi=>k_is)
   (case U2=>k_is)
   (case Vl=>kernel_rfl)
   (case UI=>kernel_rfl)
   (case Pu=>k_is)
   (case UP=>k_is)
   (case U6=>k_is)
   (case US=>k_is)
   (case Uj=>k_is)
   (case UD=>kernel_rfl)
   (case Ui=>kernel_rfl)
   (case O7=>k_is)
   (case UN=>k_is)
   (case UC=>k_is)
   (case Ve=>k_is)
   (case Vp=>k_is)
   (case T8=>kernel_rfl)
   (case Ut=>kernel_rfl)
   (case UJ=>k_is)
   (case U1=>k_is)
   (case Uk=>k_is)
   (case UL=>k_is)
   (case T9=>k_is)
   (case U3=>kernel_rfl)
   (case UZ=>kernel_rfl)
   (case Vj=>k_is)
   (case Ua=>k_is)
   (case UX=>k_is)
   (case UW=>k_is)
   (case Vn=>k_is)
   (case Uz=>kernel_rfl)
   (case Vf=>kernel_rfl)
   (case UG=>k_is)
   (case T6=>k_is)
   (case Uq=>k_is)
   (case TY=>k_is)
   (case Uu=>k_is)
   (case Uo=>kernel_rfl)
   (case Vc=>kernel_rfl)
   (case Ue=>k_is)
   (case UQ=>k_is)
   (case Ul=>k_is)
   (case Vq=>k_is)
   (case Vs=>k_is)
   (case U7=>kernel_rfl)
   (case JM=>k_is)
   (case JP=>k_is)
   (case lT=>first | kit_is | kernel_rfl)
   (case jF=>first | kit_is | kernel_rfl)
   (case lO=>first | kit_is | kernel_rfl)
   (case kR=>first | kit_is | kernel_rfl)
   (case iK=>first | kit_is | kernel_rfl)
   (case jT=>first | kit_is | kernel_rfl)
   (case i5=>first | kit_is | kernel_rfl)
   (case uH=>first | kit_is | kernel_rfl)
   (case jK=>first | kit_is | kernel_rfl)
   (case g_=>first | kit_is | kernel_rfl)
   (case jG=>first | kit_is | kernel_rfl)
   (case iO=>first | kit_is | kernel_rfl)
   (case f_=>first | kit_is | kernel_rfl)
   (case ib=>first | kit_is | kernel_rfl)
   (case fY=>first | kit_is | kernel_rfl)
   (case qc=>first | kit_is | kernel_rfl)
   (case kP=>first | kit_is | kernel_rfl)
   (case iL=>first | kit_is | kernel_rfl)
   (case kH=>first | kit_is | kernel_rfl)
   (case jN=>first | kit_is | kernel_rfl)
   (case hU=>first | kit_is | kernel_rfl)
   (case iW=>first | kit_is | kernel_rfl)
   (case hV=>first | kit_is | kernel_rfl)
   (case rP=>first | kit_is | kernel_rfl)
   (case jM=>first | kit_is | kernel_rfl)
   (case ie=>first | kit_is | kernel_rfl)
   (case jE=>first | kit_is | kernel_rfl)
   (case i_=>first | kit_is | kernel_rfl)
   (case f9=>first | kit_is | kernel_rfl)
   (case ig=>first | kit_is | kernel_rfl)
   (case fP=>first | kit_is | kernel_rfl)
   (case qj=>first | kit_is | kernel_rfl)
   (case iH=>first | kit_is | kernel_rfl)
   (case gb=>first | kit_is | kernel_rfl)
   (case iM=>first | kit_is | kernel_rfl)
   (case hJ=>first | kit_is | kernel_rfl)
   (case eZ=>first | kit_is | kernel_rfl)
   (case fS=>first | kit_is | kernel_rfl)
   (case eW=>first | kit_is | kernel_rfl)
   (case oH=>first | kit_is | kernel_rfl)
   (case nh=>first | kit_is | kernel_rfl)
   (case kL=>first | kit_is | kernel_rfl)
   (case m8=>first | kit_is | kernel_rfl)
   (case lP=>first | kit_is | kernel_rfl)
   (case jP=>first | kit_is | kernel_rfl)
   (case kU=>first | kit_is | kernel_rfl)
   (case jI=>first | kit_is | kernel_rfl)
   (case xM=>first | kit_is | kernel_rfl)
   (case kJ=>first | kit_is | kernel_rfl)
   (case i0=>first | kit_is | kernel_rfl)
   (case kY=>first | kit_is | kernel_rfl)
   (case jB=>first | kit_is | kernel_rfl)
   (case gZ=>first | kit_is | kernel_rfl)
   (case iU=>first | kit_is | kernel_rfl)
   (case ij=>first | kit_is | kernel_rfl)
   (case rR=>first | kit_is | kernel_rfl)
   (case m6=>first | kit_is | kernel_rfl)
   (case kO=>first | kit_is | kernel_rfl)
   (case m_=>first | kit_is | kernel_rfl)
   (case lX=>first | kit_is | kernel_rfl)
   (case jL=>first | kit_is | kernel_rfl)
   (case k_=>first | kit_is | kernel_rfl)
   (case jS=>first | kit_is | kernel_rfl)
   (case xK=>first | kit_is | kernel_rfl)
   (case jV=>first | kit_is | kernel_rfl)
   (case ia=>first | kit_is | kernel_rfl)
   (case jH=>first | kit_is | kernel_rfl)
   (case iZ=>first | kit_is | kernel_rfl)
   (case fX=>first | kit_is | kernel_rfl)
   (case g7=>first | kit_is | kernel_rfl)
   (case f6=>first | kit_is | kernel_rfl)
   (case p9=>first | kit_is | kernel_rfl)
   (case lM=>first | kit_is | kernel_rfl)
   (case jR=>first | kit_is | kernel_rfl)
   (case lW=>first | kit_is | kernel_rfl)
   (case kT=>first | kit_is | kernel_rfl)
   (case i3=>first | kit_is | kernel_rfl)
   (case jO=>first | kit_is | kernel_rfl)
   (case i4=>first | kit_is | kernel_rfl)
   (case uM=>first | kit_is | kernel_rfl)
   (case iJ=>first | kit_is | kernel_rfl)
   (case fT=>first | kit_is | kernel_rfl)
   (case i8=>first | kit_is | kernel_rfl)
   (case g6=>first | kit_is | kernel_rfl)
   (case e7=>first | kit_is | kernel_rfl)
   (case fR=>first | kit_is | kernel_rfl)
   (case e8=>first | kit_is | kernel_rfl)
   (case oM=>first | kit_is | kernel_rfl)
   (case iS=>first | kit_is | kernel_rfl)
   (case fO=>first | kit_is | kernel_rfl)
   (case iQ=>first | kit_is | kernel_rfl)
   (case g4=>first | kit_is | kernel_rfl)
   (case e_=>first | kit_is | kernel_rfl)
   (case fV=>first | kit_is | kernel_rfl)
   (case eY=>first | kit_is | kernel_rfl)
   (case oK=>first | kit_is | kernel_rfl)
   (case gc=>first | kit_is | kernel_rfl)
   (case eF=>first | kit_is | kernel_rfl)
   (case fU=>first | kit_is | kernel_rfl)
   (case fj=>first | kit_is | kernel_rfl)
   (case dX=>first | kit_is | kernel_rfl)
   (case eA=>first | kit_is | kernel_rfl)
   (case dZ=>first | kit_is | kernel_rfl)
   (case lS=>first | kit_is | kernel_rfl)
   (case jD=>first | kit_is | kernel_rfl)
   (case g8=>first | kit_is | kernel_rfl)
   (case jC=>first | kit_is | kernel_rfl)
   (case iX=>first | kit_is | kernel_rfl)
   (case f7=>first | kit_is | kernel_rfl)
   (case h_=>first | kit_is | kernel_rfl)
   (case fZ=>first | kit_is | kernel_rfl)
   (case p_=>first | kit_is | kernel_rfl)
   (case fW=>kernel_rfl)
   (case eK=>kernel_rfl)
   (case fQ=>kernel_rfl)
   (case eX=>kernel_rfl)
   (case dY=>kernel_rfl)
   (case eD=>kernel_rfl)
   (case dW=>kernel_rfl)
   (case kF=>k_is)
   (case kI=>k_is)
   (case kW=>k_is)
   (case ee=>k_is)
   (case g9=>k_is)
   (case eL=>k_is)
   (case eE=>k_is)
   (case eG=>k_is)
   (case cB=>k_is)
   (case c7=>k_is)
   (case iR=>k_is)
   (case jb=>k_is)
   (case ja=>k_is)
   (case dh=>k_is)
   (case eR=>k_is)
   (case jU=>k_is)
   (case jJ=>k_is)
   (case jW=>k_is)
   (case dH=>k_is)
   (case fK=>k_is)
   (case iV=>k_is)
   (case iY=>k_is)
   (case iI=>k_is)
   (case di=>k_is)
   (case jc=>k_is)
  have eB:=CF.eB
  have cC:=CF.cC
  have dy:=CF.dy
  have dM:=CF.dM
  have dw:=CF.dw
  have T:K05.Tp PySem.Challenge.rw_bearfaults_k05_faults_together.prog w (L2.fF KX) mg cl:=by
   dsimp only[L2.fF]
   refine' ⟨PySem.W.mg_none_of KX G ?z_len,PySem.W.mg_none_of KX G ?z_all,PySem.W.mg_none_of KX G ?z_range,PySem.W.mg_none_of KX G ?z_tuple,PySem.W.mg_none_of KX G ?z_str,PySem.W.mg_none_of KX G ?z_int,PySem.W.mg_none_of KX G ?z_isinstance,PySem.W.mg_none_of KX G ?z_ValueError,uN,G1,Dz,DB,rM,AE,xG,zi,zj,DA,vk,CF.C_Draft,CF.N_Draft_ins,CF.N_Draft_gates,CF.N_Draft_outs,CF.N_Draft_names,CF.N_Draft_out_names,CF.N_Draft_numbers,CF.M_Draft,CF.M_FaultError,CF.M_TooLong,CF.M_NoForm,CF.M_NoPlace,CF.M_Twice,CF.M_Full,CF.M_NoWire,CF.M_Open,CF.M_NotPlain,CF.M_NotThree,CF.M_NotSound,CF.M_NoFit,CF.M_NoShape,CF.M_NoneYet,CF.X_TooLong,CF.X_NoForm,CF.X_NoPlace,CF.X_Twice,CF.X_Full,CF.X_NoWire,CF.X_Open,CF.I_Open_Twice,CF.I_NoWire_Twice,CF.I_Full_Twice,CF.I_Twice_Twice,CF.I_NoPlace_Twice,CF.I_NoForm_Twice,CF.I_TooLong_Twice,CF.O_Twice,CF.I_Open_NoPlace,CF.I_NoWire_NoPlace,CF.I_Full_NoPlace,CF.I_Twice_NoPlace,CF.I_NoPlace_NoPlace,CF.I_NoForm_NoPlace,CF.I_TooLong_NoPlace,CF.O_NoPlace,CF.I_Open_NoForm,CF.I_NoWire_NoForm,CF.I_Full_NoForm,CF.I_Twice_NoForm,CF.I_NoPlace_NoForm,CF.I_NoForm_NoForm,CF.I_TooLong_NoForm,CF.O_NoForm,CF.I_Open_TooLong,CF.I_NoWire_TooLong,CF.I_Full_TooLong,CF.I_Twice_TooLong,CF.I_NoPlace_TooLong,CF.I_NoForm_TooLong,CF.I_TooLong_TooLong,CF.O_TooLong,CF.I_Open_NotPlain,CF.I_NoWire_NotPlain,CF.I_Full_NotPlain,CF.I_Twice_NotPlain,CF.I_NoPlace_NotPlain,CF.I_NoForm_NotPlain,CF.I_TooLong_NotPlain,CF.O_NotPlain,CF.I_Open_Open,CF.I_NoWire_Open,CF.I_Full_Open,CF.I_Twice_Open,CF.I_NoPlace_Open,CF.I_NoForm_Open,CF.I_TooLong_Open,CF.O_Open,CF.I_Open_NoWire,CF.I_NoWire_NoWire,CF.I_Full_NoWire,CF.I_Twice_NoWire,CF.I_NoPlace_NoWire,CF.I_NoForm_NoWire,CF.I_TooLong_NoWire,CF.O_NoWire,CF.I_Open_Full,CF.I_NoWire_Full,CF.I_Full_Full,CF.I_Twice_Full,CF.I_NoPlace_Full,CF.I_NoForm_Full,CF.I_TooLong_Full,CF.O_Full,CF.I_Open_NoShape,CF.I_NoWire_NoShape,CF.I_Full_NoShape,CF.I_Twice_NoShape,CF.I_NoPlace_NoShape,CF.I_NoForm_NoShape,CF.I_TooLong_NoShape,CF.O_NoShape,CF.I_Open_NoFit,CF.I_NoWire_NoFit,CF.I_Full_NoFit,CF.I_Twice_NoFit,CF.I_NoPlace_NoFit,CF.I_NoForm_NoFit,CF.I_TooLong_NoFit,CF.O_NoFit,CF.I_Open_NotSound,CF.I_NoWire_NotSound,CF.I_Full_NotSound,CF.I_Twice_NotSound,CF.I_NoPlace_NotSound,CF.I_NoForm_NotSound,CF.I_TooLong_NotSound,CF.O_NotSound,CF.I_Open_NotThree,CF.I_NoWire_NotThree,CF.I_Full_NotThree,CF.I_Twice_NotThree,CF.I_NoPlace_NotThree,CF.I_NoForm_NotThree,CF.I_TooLong_NotThree,CF.O_NotThree,CF.I_Open_ValueError,CF.I_NoWire_ValueError,CF.I_Full_ValueError,CF.I_Twice_ValueError,CF.I_NoPlace_ValueError,CF.I_NoForm_ValueError,CF.I_TooLong_ValueError,CF.O_ValueError,CF.I_Open_NoneYet,CF.I_NoWire_NoneYet,CF.I_Full_NoneYet,CF.I_Twice_NoneYet,CF.I_NoPlace_NoneYet,CF.I_NoForm_NoneYet,CF.I_TooLong_NoneYet,CF.O_NoneYet,CF.E_Open_FaultError,CF.E_NoWire_FaultError,CF.E_Full_FaultError,CF.E_Twice_FaultError,CF.E_NoPlace_FaultError,CF.E_NoForm_FaultError,CF.E_TooLong_FaultError⟩
   (case z_len=>k_is);(case z_all=>k_is);(case z_range=>k_is);(case z_tuple=>k_is);(case z_str=>k_is);(case z_int=>k_is);(case z_isinstance=>k_is);(case z_ValueError=>k_is)
  obtain⟨fl,fd,Fl,hl⟩:=D_law
  have e0:=Ql.symm.trans hl
  cases e0
  refine' ⟨fd,?b,fun base kb nb=>K05.Mp T rN qd kQ i9 m5 kN lV eB cC dy dM qb dw AF lN qh rQ lR rO m7 nc lQ qg Fl⟩
  obtain⟨_,_,_,_,_,_,_,_,_,e,_,_⟩:=Fl.ex
  subst e
  exact fun s u=> .of_eq rfl
