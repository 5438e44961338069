import PyProof.Rows.All
import Wide.All
import OpenK.AllK
import Wide.FinOn
import Lean
import PyProof.EqAt
import PyProof.EqKinds
import PyProof.TupleCall
import PyProof.Rows.StrJoin2
import PyProof.TupleOfGen
import PyProof.ListRange
import PyProof.Draws
import PyProof.Rows.StrClose3
import KE.KSortedM
import PyProof.Rows.SortWalk
import PyProof.WalkInts
import PyProof.Rows.Range3
import PyProof.ZipIter
import PyProof.ConsumeWalk
import PyProof.Rows.SeqMore
import KE.KRevIter
import KE.KRevSl
import KE.KUnpack
import KE.KDictSum
import PySem.Challenge.RW_bearfaults_k25_whole_surest_bear
noncomputable section
set_option bootstrap.genMatcherCode false
section
open PySem
abbrev Zy:=List (Addr×Obj)
abbrev Zz:=Value->Shared->Prop
abbrev ZA:=List (Str×Nat)
abbrev ZC:=List (Str×List Nat)
abbrev ZD:=List (List Nat)
abbrev ZE:=Str->Option Value
abbrev ZF:=Nat->Addr
end
def PySem.W.Fast.tw3434322610657996211:=0
def PySem.W.Fast.tw7451252850774019045:=0
def PySem.W.Fast.tw14141589133213310414:=0
def PySem.W.Fast.tw6063727083261954828:=0
def PySem.W.Fast.tw4419657682326334489:=0
def PySem.W.Fast.tw5685802097437876983:=0
def PySem.W.Fast.tw10673933306577768449:=0
def PySem.W.Fast.tw3618178132464547760:=0
def PySem.W.Fast.tw1477134271963200797:=0
def PySem.W.Fast.tw3131091713759747786:=0
def PySem.W.Fast.tw2356206772976170915:=0
def PySem.W.Fast.tw3056771068845855032:=0
def PySem.W.Fast.tw1525131040518638087:=0
def PySem.W.Fast.tw15656469178038368130:=0
def PySem.W.Fast.tw17443552816950644645:=0
def PySem.W.Fast.tw322285413142526064:=0
def PySem.W.Fast.tw4979166017492966192:=0
def PySem.W.Fast.tw3608416265073339947:=0
def PySem.W.Fast.tw3803113035192609209:=0
def PySem.W.Fast.tw15272741532255738837:=0
def PySem.W.Fast.tw2711616817936488953:=0
def PySem.W.Fast.tw1361737036874180041:=0
def PySem.W.Fast.tw17706211406301430557:=0
def PySem.W.Fast.tw15555127573820218985:=0
def PySem.W.Fast.tw2432083855911252720:=0
def PySem.W.Fast.tw113515367717650905:=0
def PySem.W.Fast.tw8846653486353237379:=0
def PySem.W.Fast.tw12892749790618174881:=0
def PySem.W.Fast.tw13084774350460360852:=0
def PySem.W.Fast.tw3907974672021739927:=0
def PySem.W.Fast.tw17329228784860707163:=0
def PySem.W.Fast.tw16196719258561896961:=0
def PySem.W.Fast.tw12910915332415749255:=0
def PySem.W.Fast.tw258809932181908469:=0
def PySem.W.Fast.tw8515673240738697190:=0
def PySem.W.Fast.tw3985326412454861116:=0
def PySem.W.Fast.tw15910661716434397765:=0
def PySem.W.Fast.tw16598260991315617276:=0
def PySem.W.Fast.tw16318159957516277854:=0
def PySem.W.Fast.tw16175424194174239791:=0
set_option Elab.async false
set_option linter.all false
set_option maxRecDepth 100000
set_option maxHeartbeats 4000000
section
namespace L2
open PySem PySem.Spec PyProof.Rows
abbrev Key:=Sum Int Str
def vq:Key->Value->Bool
 | .inl k,v=>Value.isInt k v
 | .inr x,v=>Value.isStrOf x v
def Sw(w:World):Key->Int
 | .inl k=>hashInt k
 | .inr x=>hashStr w x
theorem dq:∀{k:Key} {v:Value},vq k v=true->(∃i t,k=Sum.inl i/\v=Value.int i t)\/(∃x t,k=Sum.inr x/\v=Value.str x t)
 | .inl i,v,h=>by
   obtain⟨t,e⟩:=Value.isInt_shape (k:=i) (v:=v) h;exact .inl ⟨i,t,rfl,e⟩
 | .inr x,v,h=>by
   obtain⟨t,e⟩:=Value.isStrOf_shape (x:=x) (v:=v) h;exact .inr ⟨x,t,rfl,e⟩
theorem F5(i:Int)(t:Tok):vq (.inl i) (.int i t)=true:=by simp [vq,Value.isInt]
theorem Fg(x:Str)(t:Tok):vq (.inr x) (.str x t)=true:=by simp [vq,Value.isStrOf]
theorem N1(a b:Int):decide ((Sum.inl a:Key)=Sum.inl b)=(a==b):=by
 by_cases e:a=b
 .subst e;simp
 .have h:¬(Sum.inl a:Key)=Sum.inl b:=fun q=>e (Sum.inl.inj q)
  rw[decide_eq_false h];exact(beq_eq_false_iff_ne.mpr e).symm
theorem NJ(a b:Str):decide ((Sum.inr a:Key)=Sum.inr b)=decide (a=b):=by
 by_cases e:a=b
 .subst e;simp
 .have h:¬(Sum.inr a:Key)=Sum.inr b:=fun q=>e (Sum.inr.inj q)
  rw[decide_eq_false h,decide_eq_false e]
theorem Mx(a:Int)(b:Str):decide ((Sum.inl a:Key)=Sum.inr b)=false:=decide_eq_false (fun q=>nomatch q)
theorem ND(a:Str)(b:Int):decide ((Sum.inr a:Key)=Sum.inl b)=false:=decide_eq_false (fun q=>nomatch q)
def cU(prog:Program)(w:World):PySem.KeyKind prog w Key where
 is:=vq
 hash:=Sw w
 inj:=fun v a b ha hb=>by
  rcases dq ha with⟨i,t,rfl,rfl⟩ | ⟨x,t,rfl,rfl⟩
  .rcases dq hb with⟨j,u,rfl,e⟩ | ⟨y,u,rfl,e⟩
   .injection e with e1 _;rw [e1]
   .exact nomatch e
  .rcases dq hb with⟨j,u,rfl,e⟩ | ⟨y,u,rfl,e⟩
   .exact nomatch e
   .injection e with e1 _;rw [e1]
 byValue:=fun k v h=>by
  rcases dq h with⟨i,t,rfl,rfl⟩ | ⟨x,t,rfl,rfl⟩ <;> rfl
 pyHash:=fun hv h=>by
  rcases dq hv with⟨i,t,rfl,rfl⟩ | ⟨x,t,rfl,rfl⟩
  .exact wpAny_pyHash_int h
  .exact wpAny_pyHash_str h
 eqBool:=fun hu hv h=>by
  rcases dq hu with⟨i,t,rfl,rfl⟩ | ⟨x,t,rfl,rfl⟩
  .rcases dq hv with⟨j,u,rfl,rfl⟩ | ⟨y,u,rfl,rfl⟩
   .rw [N1] at h;exact wpAny_eqBool_int h
   .rw [Mx] at h;exact SeqAt.EqAt.int_str i t y u _ _ _ _ h
  .rcases dq hv with⟨j,u,rfl,rfl⟩ | ⟨y,u,rfl,rfl⟩
   .rw [ND] at h;exact SeqAt.EqAt.str_int x t j u _ _ _ _ h
   .rw [NJ] at h;exact wpAny_eqBool_str h
 «strs»:=fun k x t v h=>by
  rcases dq h with⟨i,u,rfl,e⟩ | ⟨y,u,rfl,e⟩
  .exact nomatch e
  .injection e with e1 _
   subst e1;cases v <;> rfl
theorem Bu(prog:Program)(w:World)(i:Int)(t:Tok):(cU prog w).is (.inl i) (.int i t)=true:=F5 i t
theorem A7(prog:Program)(w:World)(x:Str)(t:Tok):(cU prog w).is (.inr x) (.str x t)=true:=Fg x t
inductive V where
 | cH | bl (b:Bool) | int (i:Int) | str (x:Str) | byt (b:Array UInt8) | flt (b:UInt64) | ref (a:Addr) | ty (n:String)
 deriving DecidableEq
def RelV:V->Value->Prop
 | .cH,u=>u=Value.none
 | .bl b,u=>u=Value.bool b
 | .int i,u=>∃t,u=Value.int i t
 | .str x,u=>∃t,u=Value.str x t
 | .byt b,u=>∃t,u=Value.bytes b t
 | .flt b,u=>∃t,u=Value.float b t
 | .ref a,u=>u=Value.ref a
 | .ty n,u=>u=Value.type n
abbrev Vals:List V->List Value->Prop:=Paired RelV
theorem Vals.length{xs:List V}{us:List Value}(r:Vals xs us):xs.length=us.length:=Paired.length r
theorem Vals.get:∀{xs:List V} {us:List Value} {i:Nat} {x:V},Vals xs us->xs[i]? =some x->∃u,us[i]? =some u/\RelV x u
 | _,_,_,_, .nil,e=>by simp at e
 | _,_,0,_, .cons r _,e=>by simp at e;subst e;exact⟨_,rfl,r⟩
 | _,_,i+1,x, .cons _ t,e=>by
   obtain⟨u,h1,h2⟩:=Vals.get (i:=i) (x:=x) t (by simpa using e)
   exact⟨u,by simpa using h1,h2⟩
theorem Vals.set{x:V}{u:Value}(r:RelV x u):∀{xs:List V} {us:List Value} (i:Nat),Vals xs us->Vals (xs.set i x) (us.set i u)
 | _,_,_, .nil=> .nil
 | _,_,0, .cons _ t=> .cons r t
 | _,_,i+1, .cons q t=> .cons q (Vals.set r i t)
theorem Vals.append:∀{xs ys:List V} {us ws:List Value},Vals xs us->Vals ys ws->Vals (xs++ys) (us++ws)
 | _,_,_,_, .nil,s=>s
 | _,_,_,_, .cons r t,s=> .cons r (Vals.append t s)
theorem Vals.take:∀{xs:List V} {us:List Value} (n:Nat),Vals xs us->Vals (xs.take n) (us.take n)
 | _,_,0,_=> .nil
 | _,_,_+1, .nil=> .nil
 | _,_,n+1, .cons r t=> .cons r (Vals.take n t)
theorem Vals.drop:∀{xs:List V} {us:List Value} (n:Nat),Vals xs us->Vals (xs.drop n) (us.drop n)
 | _,_,0,r=>r
 | _,_,_+1, .nil=> .nil
 | _,_,n+1, .cons _ t=>Vals.drop n t
def pC:Option V->Option Value->Prop
 | some v,some u=>RelV v u
 | none,none=>True
 | _,_=>False
def KV{κ:Type}:List (κ × V)->List (κ × Value)->Prop:=Paired fun(p:κ × V) (q:κ × Value)=>p.1=q.1/\RelV p.2 q.2
def kV:Key->V
 | .inl i=> .int i
 | .inr x=> .str x
inductive HO where
 | lst (xs:List V)
 | tup (xs:List V)
 | dK (kvs:List (Key × V)) | dT (kvs:List (List Key × V))
 | set (S:Int->Bool) (n:Nat)
 | ins (C dx:Addr) (fs:List (Str × V))
 | own (x:Addr)
 | xd (fs:List (Str × V))
 | met (f x:Addr)
 | rng (lo hi:Int)
 | hV (o:Obj) (u:HO)
 | tbl (ps:Array Value)
 | ext (φ:Heap->Prop)
abbrev Hp:=Addr->Option HO
def upd(H:Hp)(a:Addr)(o:HO):Hp:=fun b=>if b=a then some o else H b
theorem ba{a:Addr}{o:HO}:upd H a o a=some o:=by unfold upd;rw [if_pos rfl]
theorem bj{H:Hp}{a b:Addr}{o:HO}(h:b≠a):upd H a o b=H b:=by unfold upd;rw [if_neg h]
theorem Ll{a:Addr}{o u:HO}:upd (upd H a o) a u=upd H a u:=by
 funext b;unfold upd;split <;> rfl
theorem PV{H:Hp}{a b:Addr}{o u:HO}(h:H a=some o)(h':H b=some u)(d:o≠u):a≠b:=by
 intro e;subst e;rw [h] at h';exact d (Option.some.inj h')
theorem b_{H:Hp}{a b:Addr}{o:HO}(h:H a=some o)(h':H b=none):a≠b:=by
 intro e;subst e;rw [h] at h';cases h'
section
variable (P:Program) (w:World)
def e_(H:Hp)(h:Heap)(a:Addr):HO->Prop
 | .lst xs=>xs.length<=sizeLine/\∃(its:List Value) (n:Nat),Vals xs its/\h.get? a=some {cls:= .type "list",data:= .seq its.toArray n}
 | .tup xs=>xs.length<=sizeLine/\∃its:List Value,Vals xs its/\IsTup h a its.toArray
 | .dK kvs=>kvs.length<=sizeLine/\(a==sysModules)=false/\∃vs,KV kvs vs/\h.DictOf (cU P w) a vs
 | .dT kvs=>kvs.length<=sizeLine/\(a==sysModules)=false/\∃xs:List (List Key × Addr × Value),
    Paired (fun(p:List Key × V) (q:List Key × Addr × Value)=>p.1=q.1/\H q.2.1=some (.tup (p.1.map kV))/\RelV p.2 q.2.2) kvs xs/\
    ∃o es ep,h.get? a=some o/\o.ExactDict/\o.data= .dict es ep/\es.toList=xs.map (entryOfKey (tupleKind (cU P w)))/\(xs.map (·.1)).Nodup
 | .set S n=>h.SetOf (intKind P w) a S n
 | .ins C dx fs=>H dx=some (.own a)/\fs.length<=1000/\dx≠a/\h.get? a=some (PySem.W.instObj C dx)/\
    ∃mA,h.Ns1 dx mA/\(∀f,pC (fs.lookup f) (mA f))/\PySem.Within mA (fs.map (·.1))
 | .own _=>∃o,h.get? a=some o
 | .xd fs=>∃mA,h.Ns1 a mA/\∀f,pC (fs.lookup f) (mA f)
 | .rng lo hi=>∃t u v,h.get? a=some {cls:= .type "range",data:= .fields #[.int lo t, .int hi u, .int 1 v]}
 | .hV o u=>h.get? a=some o/\e_ H h a u
 | .tbl ps=>h.get? a=some {cls:= .none,data:= .fields ps}
 | .met f x=>h.get? a=some (PySem.W.methodObj (.ref f) (.ref x))
 | .ext φ=>φ h/\(∃o,h.get? a=some o)/\∀h1 h2:Heap,φ h1->(∀o,h1.get? a=some o->h2.get? a=some o)->φ h2
def pF(H:Hp)(h:Heap):Prop:=∀a o,H a=some o->e_ P w H h a o
end
section
variable {P:Program} {w:World} {H H':Hp} {h h':Heap} {a:Addr} {o:HO}
theorem e_.lt(x:e_ P w H h a o):a < h.objs.size:=by
 cases o with
 | lst xs=>obtain⟨_,_,_,_,e⟩:=x;exact Heap.lt_size e
 | tup xs=>obtain⟨_,_,_,p⟩:=x;exact p.lt
 | dK kvs=>obtain⟨_,_,_,_,o,_,_,e,_⟩:=x;exact Heap.lt_size e
 | dT kvs=>obtain⟨_,_,_,_,o,_,_,e,_⟩:=x;exact Heap.lt_size e
 | set S n=>obtain⟨o,_,_,_,e,_⟩:=x;exact Heap.lt_size e
 | ins C dx fs=>obtain⟨_,_,_,e,_⟩:=x;exact Heap.lt_size e
 | own y=>obtain⟨_,e⟩:=x;exact Heap.lt_size e
 | xd fs=>obtain⟨_,⟨_,_,_,e,_⟩,_⟩:=x;exact Heap.lt_size e
 | rng lo hi=>obtain⟨_,_,_,e⟩:=x;exact Heap.lt_size e
 | hV ob u=>obtain⟨e,_⟩:=x;exact Heap.lt_size e
 | tbl ps=>exact Heap.lt_size (show h.get? a=some _ from x)
 | met f y=>exact Heap.lt_size (show h.get? a=some _ from x)
 | ext φ=>obtain⟨_,⟨_,e⟩,_⟩:=x;exact Heap.lt_size e
theorem Paired.Nb{α β:Type}{F G:α->β->Prop}:∀{Ro:List α} {Rq:List β},Paired F Ro Rq->(∀a b,F a b->G a b)->Paired G Ro Rq
 | _,_, .nil,_=> .nil
 | _,_, .cons r t,f=> .cons (f _ _ r) (Paired.Nb t f)
theorem e_.yT(x:e_ P w H h a o)(k:∀b u,(b=a\/H b=some (.own a))->h.get? b=some u->h'.get? b=some u)
 (ho:∀b,H b=some (.own a)->H' b=some (.own a)) (ht:∀b xs,H b=some (.tup xs)->H' b=some (.tup xs)):e_ P w H' h' a o:=by
 induction o with
 | lst xs=>obtain⟨z,its,n,r,e⟩:=x;exact⟨z,its,n,r,k _ _ (.inl rfl) e⟩
 | tup xs=>obtain⟨z,its,r,ob,e,c⟩:=x;exact⟨z,its,r,ob,k _ _ (.inl rfl) e,c⟩
 | dK kvs=>obtain⟨z,y,vs,r,ob,es,ep,e,c⟩:=x;exact⟨z,y,vs,r,ob,es,ep,k _ _ (.inl rfl) e,c⟩
 | dT kvs=>
   obtain⟨z,y,xs,r,ob,es,ep,e,c⟩:=x;exact⟨z,y,xs,Paired.Nb r fun p q z=>⟨z.1,ht _ _ z.2.1,z.2.2⟩,ob,es,ep,k _ _ (.inl rfl) e,c⟩
 | set S n=>obtain⟨ob,es,ep,t,e,c⟩:=x;exact⟨ob,es,ep,t,k _ _ (.inl rfl) e,c⟩
 | ins C dx fs=>
   obtain⟨d,z,ne,e,mA,⟨od,es,ep,e2,c⟩,r⟩:=x;exact⟨ho _ d,z,ne,k _ _ (.inl rfl) e,mA,⟨od,es,ep,k _ _ (.inr d) e2,c⟩,r⟩
 | own y=>obtain⟨ob,e⟩:=x;exact⟨ob,k _ _ (.inl rfl) e⟩
 | xd fs=>obtain⟨mA,⟨od,es,ep,e,c⟩,r⟩:=x;exact⟨mA,⟨od,es,ep,k _ _ (.inl rfl) e,c⟩,r⟩
 | rng lo hi=>obtain⟨t,u,v,e⟩:=x;exact⟨t,u,v,k _ _ (.inl rfl) e⟩
 | hV ob u ih=>obtain⟨e,q⟩:=x;exact⟨k _ _ (.inl rfl) e,ih q⟩
 | tbl ps=>
   have e:h.get? a=some {cls:= .none,data:= .fields ps}:=x;show h'.get? a=some {cls:= .none,data:= .fields ps};exact k a _ (.inl rfl) e
 | met f y=>
   have e:h.get? a=some (PySem.W.methodObj (.ref f) (.ref y)):=x;show h'.get? a=some (PySem.W.methodObj (.ref f) (.ref y));exact k a _ (.inl rfl) e
 | ext φ=>obtain⟨p,⟨o,e⟩,st⟩:=x;exact⟨st _ _ p fun o q=>k _ _ (.inl rfl) q,⟨o,k _ _ (.inl rfl) e⟩,st⟩
theorem pF.lt(x:pF P w H h)(e:H a=some o):a < h.objs.size:=(x a o e).lt
theorem pF.fresh(x:pF P w H h)(e:h.objs.size<=a):H a=none:=by
 cases q:H a with
 | none=>rfl
 | some u=>exact absurd (Nat.lt_of_lt_of_le (x.lt q) e) (Nat.lt_irrefl _)
theorem pF.kept(x:pF P w H h)(k:∀b u,h.get? b=some u->h'.get? b=some u):pF P w H h':=fun a o e=>
 (x a o e).yT (fun b u _ q=>k b u q) (fun _ q=>q) fun _ _ q=>q
theorem pF.laid(x:pF P w H h)(k:∀b u,h.get? b=some u->h'.get? b=some u)(hp:h.objs.size<=a)(new:e_ P w (upd H a o) h' a o):pF P w (upd H a o) h':=fun b u e=>by
 have hn:=x.fresh hp;by_cases hb:b=a
 .subst hb;rw [ba] at e;cases e;exact new
 .rw [bj hb] at e;exact(x b u e).yT (fun c v _ q=>k c v q) (fun c q=>by rw[bj (b_ q hn)];exact q) fun c xs q=>by rw[bj (b_ q hn)];exact q
end
def Rd(H:Hp)(a:Addr)(u:HO):Prop:=H a=some u\/∃o,H a=some (.hV o u)
theorem Rd.of{H:Hp}{a:Addr}{u:HO}(h:H a=some u):Rd H a u:= .inl h
theorem Rd.ok{a:Addr}{u:HO}(r:Rd H a u)(x:pF P w H h):e_ P w H h a u:=by
 rcases r with r | ⟨o,r⟩
 .exact x a u r
 .obtain⟨_,q⟩:=x a _ r;exact q
def QX:Option HO->Prop
 | some (.lst _)=>True
 | some (.dK _)=>True
 | some (.dT _)=>True
 | some (.set _ _)=>True
 | some (.ins _ _ _)=>True
 | some (.ext _)=>True
 | _=>False
section
variable {P:Program} {w:World} {H:Hp} {h h':Heap} {x e:Addr} {o':HO}
theorem pF.write(ok:pF P w H h)(mu:QX (H x))(he:e=x\/H e=some (.own x))(k:∀b u,b≠e->h.get? b=some u->h'.get? b=some u)(JN:∃u,h'.get? e=some u)
 (new:e_ P w (upd H x o') h' x o'):pF P w (upd H x o') h':=fun b u q=>by
 have nown:∀c y,H c=some (.own y)->c≠x:=fun c y r z=>by subst z;rw [r] at mu;exact mu
 have ntup:∀c xs,H c=some (.tup xs)->c≠x:=fun c xs r z=>by subst z;rw [r] at mu;exact mu
 by_cases hb:b=x
 .subst hb;rw [ba] at q;cases q;exact new
 .rw [bj hb] at q;by_cases hbe:b=e
  .have q':H b=some (.own x):=by
    rcases he with z | z
    .exact absurd (hbe.trans z) hb
    .rw [hbe];exact z
   rw[q] at q';cases q';obtain⟨v,hv⟩:=JN;exact⟨v,by rw[hbe];exact hv⟩
  .refine(ok b u q).yT (fun c v hc r=>k c v ?_ r) (fun c r=>by rw[bj (nown c b r)];exact r) fun c xs r=>by rw[bj (ntup c xs r)];exact r
   rcases hc with rfl | hc
   .exact hbe
   .rintro rfl;rcases he with z | z
    .exact nown c b hc z
    .rw [hc] at z;cases z;exact hb rfl
end
structure Un (fs ex:List Addr) (H H':Hp) (h h':Heap):Prop where
 keep:∀b o,h.get? b=some o->H b=none->b ∉ fs->b ∉ ex->h'.get? b=some o
 slot:∀b o,h.get? b=some o->H b=none->b∈fs->b ∉ ex->∃sl,h'.get? b=some {o with slots:=sl}
 free:∀b o,h.get? b=some o->H b=none->b ∉ ex->H' b=none
 there:∀b o,h.get? b=some o->b ∉ ex->∃o',h'.get? b=some o'
 tups:∀b xs,H b=some (.tup xs)->H' b=some (.tup xs)
 frzs:∀b o u,H b=some (.hV o u)->H' b=some (.hV o u)
 tbls:∀b ps,H b=some (.tbl ps)->∃more,H' b=some (.tbl (ps++more))
section
variable {fs Pf ex Zg:List Addr} {H H1 H2:Hp} {h h1 h2 h':Heap} {a x e:Addr} {o:HO}
theorem Un.any(u:Un fs ex H H1 h h1){b:Addr}{ob:Obj}(q:h.get? b=some ob)(n:H b=none)(hx:b ∉ ex):∃sl,h1.get? b=some {ob with slots:=sl}:=by
 by_cases hb:b∈fs
 .exact u.slot b ob q n hb hx
 .exact⟨ob.slots,u.keep b ob q n hb hx⟩
theorem Un.kept(k:∀b u,h.get? b=some u->h'.get? b=some u):Un fs ex H H h h':=
 ⟨fun b ob q _ _ _=>k b ob q,fun b ob q _ _ _=>⟨ob.slots,k b ob q⟩,fun _ _ _ n _=>n,fun b ob q _=>⟨ob,k b ob q⟩,fun _ _ q=>q,fun _ _ _ q=>q,fun _ ps q=>⟨#[],by rw[q];simp⟩⟩
theorem Un.refl:Un fs ex H H h h:=Un.kept fun _ _ q=>q
theorem Un.laid(k:∀b u,h.get? b=some u->h'.get? b=some u)(hp:h.objs.size<=a)(hn:H a=none):Un fs ex H (upd H a o) h h' where
 keep:=fun b u q _ _ _=>k b u q
 slot:=fun b u q _ _ _=>⟨u.slots,k b u q⟩
 free:=fun b u q n _=>by rw[bj (Nat.ne_of_lt (Nat.lt_of_lt_of_le (Heap.lt_size q) hp))];exact n
 there:=fun b u q _=>⟨u,k b u q⟩
 tups:=fun b xs q=>by rw[bj (b_ q hn)];exact q
 frzs:=fun b u xs q=>by rw[bj (b_ q hn)];exact q
 tbls:=fun b ps q=>⟨#[],by rw[bj (b_ q hn),q];simp⟩
theorem Un.write(mu:QX (H x))(he:e=x\/H e=some (.own x))(k:∀b u,b≠e->h.get? b=some u->h'.get? b=some u)(JN:∃u,h'.get? e=some u):Un fs ex H (upd H x o) h h':=by
 have hx:∀b,H b=none->b≠x:=fun b n z=>by subst z;rw [n] at mu;exact mu
 have hb:∀b,H b=none->b≠e:=fun b n z=>by
  subst z;rcases he with r | r
  .exact hx b n r
  .rw [n] at r;cases r
 have hm:∀b u,H b=some u->¬QX (some u)->b≠x:=fun b u q nm z=>by subst z;rw [q] at mu;exact nm mu
 refine⟨fun b u q n _ _=>k b u (hb b n) q,fun b u q n _ _=>⟨u.slots,k b u (hb b n) q⟩,fun b u q n _=>by rw[bj (hx b n)];exact n,fun b u q _=>?_,
  fun b xs q=>by rw[bj (hm b _ q fun z=>z)];exact q,fun b u xs q=>by rw[bj (hm b _ q fun z=>z)];exact q,fun b ps q=>⟨#[],by rw[bj (hm b _ q fun z=>z),q];simp⟩⟩
 by_cases hbe:b=e
 .subst hbe;exact JN
 .exact⟨u,k b u hbe q⟩
end
def RN(h:Heap)(H:Hp):List Addr:=(List.range h.objs.size).filter fun a=>(H a).isSome
def zh(h:Heap)(H:Hp):Heap:=PySem.W.hideAll h (RN h H)
theorem Fi(h:Heap)(H:Hp):(zh h H).objs.size=h.objs.size:=PySem.W.hideAll_size _ _
theorem HS{h:Heap}{H:Hp}{b:Addr}{o:Obj}(e:h.get? b=some o)(n:H b=none):(zh h H).get? b=some o:=
 PySem.W.hideAll_get _ e fun hm=>by
  have q:(H b).isSome=true:=(List.mem_filter.mp hm).2;rw[n] at q;simp at q
theorem K4{h:Heap}{H:Hp}{b:Addr}{o:Obj}(e:(zh h H).get? b=some o):h.get? b=some o/\H b=none:=by
 have e':h.get? b=some o:=PySem.W.of_hideAll (RN h H) e;refine⟨e',?_⟩;cases q:H b with
 | none=>rfl
 | some x=>
   have hm:b∈RN h H:=List.mem_filter.mpr ⟨List.mem_range.mpr (Heap.lt_size e'),by simp [q]⟩
   have z:(zh h H).get? b=none:=PySem.W.hideAll_none (RN h H) hm;rw[z] at e;cases e
def KZ(g h:Heap)(L:Addr):Zy:=(List.range h.objs.size).filterMap fun a=>if a=L\/(g.get? a).isSome=true then none else(h.get? a).map fun o=>(a,o)
def rest(g h:Heap)(L d:Addr):Zy:=(KZ g h L).filter fun p=>decide (p.1≠d)
structure Mod (K:W.Frag) (mg:ZE) (base:Heap):Prop where
 kin:K.In base
 glob:base.Ns mainGlobals mg
 blt:∃mb,base.Ns builtinsNs mb/\∀x:Str,x≠"__name__"->mb x=bootBuiltins x
 nolimit:base.NoLimit
structure Cx where
 prog:Program
 w:World
 K:W.Frag
 mg:ZE
 base:Heap
 A:Around
 N:List Str
 s₀:Shared
 H₀:Hp
 env:Env
 outer:List Env
 stack:List Env
 ex:List Addr
 fn:Str->Bool
 calm:Bool
 pn:Zy
 xe:Zz
def Gi(l:List Env):List Addr:=l.filterMap (·.frame)
abbrev Cx.fs(X:Cx):List Addr:=Gi X.outer
def JA(sc:Scope)(x:Str):Prop:=sc.names.lookup x=some .local\/sc.names.lookup x=some .cell\/sc.names.lookup x=some .free
def Loc(sc:Scope)(x:Str):Prop:=sc.names.lookup x=some .local\/sc.names.lookup x=some .cell
def Look(env:Env)(h:Heap)(m:ZE)(x:Str)(u:Value):Prop:=
 (env.kindOf x=some .local/\m x=some u)\/((env.kindOf x=some .cell\/env.kindOf x=some .free)/\∃c,env.cells.lookup x=some c/\h.IsCell c (some u))
structure Cx.Ok (X:Cx):Prop where
 mod:Mod X.K X.mg X.base
 kind:X.env.scope.kind= .function
 glob:X.env.globals=mainGlobals
 blt:X.env.builtins=builtinsNs
 above:X.s₀.heap.objs.size<=X.env.locals
 inj:∀x y c,X.env.cells.lookup x=some c->X.env.cells.lookup y=some c->x=y
 has:∀x,(X.env.kindOf x=some .cell\/X.env.kindOf x=some .free)->∃c,X.env.cells.lookup x=some c
 cab:∀x c,X.fn x=true->X.env.cells.lookup x=some c->X.s₀.heap.objs.size<=c
 hd:X.calm=true->X.A.handled=none
 frames:X.A.frames=some X.stack
 stk:X.stack=X.outer\/(X.stack=X.env ::X.outer/\X.env.frame=some X.env.locals)
 exf:∀b∈X.ex,b≠X.env.locals/\∀x c,X.env.cells.lookup x=some c->c≠b
 bs:∀b o,X.base.get? b=some o->X.s₀.heap.get? b=some o/\X.H₀ b=none
 bsz:X.base.objs.size<=X.s₀.heap.objs.size
 noex:∀b o,X.base.get? b=some o->b ∉ X.ex
 exfs:∀b∈X.ex,b ∉ X.fs
 uf:X.s₀.heap.FunFrames X.base X.outer
 frf:∀b∈X.fs,X.H₀ b=none
structure Inv (X:Cx) (pins:Zy) (σ:List (Option V)) (H:Hp) (s:Shared):Prop where
 ok:X.Ok
 os:s.os=X.s₀.os
 bare:AllBare s.gens
 base:Un X.fs X.ex X.H₀ H X.s₀.heap s.heap
 loc:∃m,s.heap.Ns X.env.locals m/\∀(i:Nat) (x:Str) (v:V),X.N[i]? =some x->σ[i]? =some (some v)->JA X.env.scope x->∃u,RelV v u/\Look X.env s.heap m x u
 cell:∀x c,X.env.cells.lookup x=some c->∃v,s.heap.IsCell c v
 free:H X.env.locals=none
 freeC:∀x c,X.env.cells.lookup x=some c->H c=none
 pin:∀p∈X.pn++pins,s.heap.get? p.1=some p.2/\H p.1=none/\p.1≠X.env.locals/\p.1 ∉ X.fs/\∀v,p.2.data≠ .cell v
 hok:pF X.prog X.w H s.heap
 len:σ.length=X.N.length
section
variable {X:Cx} {pins:Zy} {σ:List (Option V)} {H H':Hp} {s:Shared} {h':Heap}
theorem Cx.Ok.Sq(ok:X.Ok){b:Addr}{o:Obj}(e:X.base.get? b=some o):b ∉ X.fs:=fun hb=>by
 have:=(ok.uf.mem hb).1;rw[e] at this;cases this
theorem Inv.bs(I:Inv X pins σ H s):∀b o,X.base.get? b=some o->s.heap.get? b=some o/\H b=none:=fun b o e=>
 ⟨I.base.keep b o (I.ok.bs b o e).1 (I.ok.bs b o e).2 (I.ok.Sq e) (I.ok.noex b o e),I.base.free b o (I.ok.bs b o e).1 (I.ok.bs b o e).2 (I.ok.noex b o e)⟩
theorem Inv.bk(I:Inv X pins σ H s):∀b o,X.base.get? b=some o->s.heap.get? b=some o:=fun b o e=>(I.bs b o e).1
theorem Inv.mod(I:Inv X pins σ H s):Mod X.K X.mg X.base:=I.ok.mod
theorem Inv.Ed(I:Inv X pins σ H s):X.K.In s.heap:=I.ok.mod.kin.keeps I.bk
theorem Inv.lt(I:Inv X pins σ H s):X.env.locals < s.heap.objs.size:=let⟨_,hn,_⟩:=I.loc;hn.lt
theorem Inv.sz(I:Inv X pins σ H s):X.s₀.heap.objs.size<=s.heap.objs.size:=Nat.le_trans I.ok.above (Nat.le_of_lt I.lt)
theorem Inv.TN(I:Inv X pins σ H s){a:Addr}(h:s.heap.objs.size<=a):a ∉ X.fs:=fun hb=>by
 obtain⟨_,o,ho,_⟩:=I.ok.uf.mem hb;exact absurd (Nat.lt_of_lt_of_le (Heap.lt_size ho) (Nat.le_trans I.sz h)) (Nat.lt_irrefl _)
theorem Inv.MP(I:Inv X pins σ H s):∀x c,X.env.cells.lookup x=some c->c≠X.env.locals:=fun x c e z=>by
 obtain⟨v,o,ho,hd⟩:=I.cell x c e;obtain⟨m,⟨o',es,ep,Gb,R5,_⟩,_⟩:=I.loc;rw[z,Gb] at ho;cases ho;rw [R5] at hd;cases hd
theorem Inv.uf(I:Inv X pins σ H s):s.heap.FunFrames X.base X.outer:=by
 have all:∀(l:List Env),(∀b∈Gi l,b∈X.fs)->X.s₀.heap.FunFrames X.base l->s.heap.FunFrames X.base l:=by
  intro l
  induction l with
  | nil=>intro _ _;trivial
  | cons env r ih=>
    intro hs hl;obtain⟨hk,⟨L,o,hf,hn,ho,hd⟩,hr⟩:=hl;have hL:L∈X.fs:=hs L (by unfold Gi;rw [List.filterMap_cons,hf];exact List.mem_cons_self)
    obtain⟨sl,e⟩:=I.base.slot L o ho (I.ok.frf L hL) hL fun z=>I.ok.exfs L z hL
    exact⟨hk,⟨L,_,hf,hn,e,hd⟩,ih (fun b hb=>hs b (by unfold Gi;rw [List.filterMap_cons,hf];exact List.mem_cons_of_mem _ hb)) hr⟩
 exact all X.outer (fun _ hb=>hb) I.ok.uf
theorem Inv.stack(I:Inv X pins σ H s):s.heap.FunFrames X.base X.stack:=by
 rcases I.ok.stk with e | ⟨e,hf⟩
 .rw [e];exact I.uf
 .rw [e];obtain⟨m,hn,_⟩:=I.loc;refine .cons (by rw[I.ok.kind];decide) hf hn ?_ I.uf
  exact Heap.get?_none_of_le (Nat.le_trans I.ok.bsz I.ok.above)
theorem Inv.Dh(I:Inv X pins σ H s):∀b∈Gi X.stack,b∈X.env.locals ::X.fs:=fun b hb=>by
 rcases I.ok.stk with e | ⟨e,hf⟩
 .rw [e] at hb;exact List.mem_cons_of_mem _ hb
 .rw [e] at hb;unfold Gi at hb;rw[List.filterMap_cons,hf] at hb;exact hb
theorem Inv.Dt(I:Inv X pins σ H s):∀b∈Gi X.stack,H b=none:=fun b hb=>by
 rcases List.mem_cons.mp (I.Dh b hb) with e | hb
 .rw [e];exact I.free
 .obtain⟨_,o,ho,_⟩:=I.ok.uf.mem hb;exact I.base.free b o ho (I.ok.frf b hb) fun z=>I.ok.exfs b z hb
theorem Inv.step{g':Array GenState}{t':Nat}{d':Drawn}{ch:List Addr}(I:Inv X pins σ H s)
 (JI:∀b∈ch,(b∈X.ex\/X.s₀.heap.objs.size<=b)/\b≠X.env.locals/\(∀x c,X.env.cells.lookup x=some c->c≠b)/\∀p∈X.pn++pins,p.1≠b)
 (keep:∀b o,b≠X.env.locals->b ∉ X.fs->b ∉ ch->s.heap.get? b=some o->H b=none->h'.get? b=some o)
 (slot:∀b o,b≠X.env.locals->b∈X.fs->b ∉ ch->s.heap.get? b=some o->H b=none->∃sl,h'.get? b=some {o with slots:=sl}) (free:∀b o,b ∉ ch->s.heap.get? b=some o->H b=none->H' b=none)
 (there:∀b o,b ∉ ch->s.heap.get? b=some o->∃o',h'.get? b=some o')
 (tups:∀b xs,H b=some (.tup xs)->H' b=some (.tup xs)) (frzs:∀b o u,H b=some (.hV o u)->H' b=some (.hV o u)) (tbls:∀b ps,H b=some (.tbl ps)->∃more,H' b=some (.tbl (ps++more)))
 (ns:∀m,s.heap.Ns X.env.locals m->h'.Ns X.env.locals m) (hok:pF X.prog X.w H' h') (hg:AllBare g') :
 Inv X pins σ H' {s with heap:=h',gens:=g',drawn:=d',toks:=t'}:=by
 have neL:∀b o,X.s₀.heap.get? b=some o->b≠X.env.locals:=fun b o e=>Nat.ne_of_lt (Nat.lt_of_lt_of_le (Heap.lt_size e) I.ok.above)
 have neC:∀b o,X.s₀.heap.get? b=some o->b ∉ X.ex->b ∉ ch:=fun b o e hx hb=>by
  rcases(JI b hb).1 with z | z
  .exact hx z
  .exact absurd (Nat.lt_of_lt_of_le (Heap.lt_size e) z) (Nat.lt_irrefl _)
 have cellK:∀x c,X.env.cells.lookup x=some c->∀v,s.heap.IsCell c v->h'.IsCell c v:=fun x c e v ⟨o,ho,hd⟩=>by
  have nch:c ∉ ch:=fun z=>(JI c z).2.2.1 x c e rfl
  by_cases hc:c∈X.fs
  .obtain⟨sl,q⟩:=slot c o (I.MP x c e) hc nch ho (I.freeC x c e);exact⟨_,q,hd⟩
  .exact⟨o,keep c o (I.MP x c e) hc nch ho (I.freeC x c e),hd⟩
 refine⟨I.ok,I.os,hg,⟨fun b o e n hb hx=>?_,fun b o e n hb hx=>?_,fun b o e n hx=>?_,fun b o e hx=>?_,fun b xs e=>tups b xs (I.base.tups b xs e),fun b o xs e=>frzs b o xs (I.base.frzs b o xs e),fun b ps e=>?_⟩,?_,fun x c e=>?_,?_,fun x c e=>?_,fun p hp=>?_,hok,I.len⟩
 .exact keep b o (neL b o e) hb (neC b o e hx) (I.base.keep b o e n hb hx) (I.base.free b o e n hx)
 .obtain⟨sl,e1⟩:=I.base.slot b o e n hb hx;obtain⟨XW,e2⟩:=slot b _ (neL b o e) hb (neC b o e hx) e1 (I.base.free b o e n hx);exact⟨XW,e2⟩
 .obtain⟨o',e1⟩:=I.base.there b o e hx;exact free b o' (neC b o e hx) e1 (I.base.free b o e n hx)
 .obtain⟨o',e1⟩:=I.base.there b o e hx;exact there b o' (neC b o e hx) e1
 .obtain⟨m1,e1⟩:=I.base.tbls b ps e;obtain⟨m2,e2⟩:=tbls b _ e1;exact⟨m1++m2,by rw[e2,Array.append_assoc]⟩
 .obtain⟨m,hn,hl⟩:=I.loc;refine⟨m,ns m hn,fun i x v e1 e2 e3=>?_⟩
  obtain⟨u,r,l⟩:=hl i x v e1 e2 e3;refine⟨u,r,?_⟩;rcases l with l | ⟨k,c,e,z⟩
  .exact .inl l
  .exact .inr ⟨k,c,e,cellK x c e _ z⟩
 .obtain⟨v,z⟩:=I.cell x c e;exact⟨v,cellK x c e v z⟩
 .obtain⟨m,⟨o,_,_,ho,_⟩,_⟩:=I.loc;exact free _ o (fun z=>(JI _ z).2.1 rfl) ho I.free
 .obtain⟨v,o,ho,hd⟩:=I.cell x c e;exact free c o (fun z=>(JI c z).2.2.1 x c e rfl) ho (I.freeC x c e)
 .obtain⟨e,n,ne,nf,d⟩:=I.pin p hp;have nch:p.1 ∉ ch:=fun z=>(JI p.1 z).2.2.2 p hp rfl
  exact⟨keep p.1 p.2 ne nf nch e n,free p.1 p.2 nch e n,ne,nf,d⟩
theorem Inv.un{t':Nat}(I:Inv X pins σ H s)(u:Un X.fs [] H H' s.heap h')(hok:pF X.prog X.w H' h'):Inv X pins σ H' {s with heap:=h',toks:=t'}:=by
 obtain⟨m,⟨o,es,ep,ho,r⟩,_⟩:=id I.loc;obtain⟨sl,hL⟩:=u.any ho I.free (by simp)
 exact I.step (g':=s.gens) (d':=s.drawn) (ch:=[]) (fun _ z=>nomatch z) (fun b o _ hb _ e n=>u.keep b o e n hb (by simp)) (fun b o _ hb _ e n=>u.slot b o e n hb (by simp)) (fun b o _ e n=>u.free b o e n (by simp)) (fun b o _ e=>u.there b o e (by simp)) u.tups u.frzs u.tbls (fun m' hm=>by
  obtain⟨o',Us,Rw,Gb,r'⟩:=hm;rw[ho] at Gb;cases Gb;exact⟨_,Us,Rw,hL,r'⟩) hok I.bare
theorem Inv.call{g':Array GenState}{t':Nat}{d':Drawn}{ch:List Addr}(I:Inv X pins σ H s)(u:Un (Gi X.stack) ch H H' s.heap h')(hok:pF X.prog X.w H' h')(hg:AllBare g')
 (JI:∀b∈ch,(b∈X.ex\/X.s₀.heap.objs.size<=b)/\b≠X.env.locals/\(∀x c,X.env.cells.lookup x=some c->c≠b)/\∀p∈X.pn++pins,p.1≠b) :
 Inv X pins σ H' {s with heap:=h',gens:=g',drawn:=d',toks:=t'}:=by
 obtain⟨m,⟨o,es,ep,ho,r⟩,_⟩:=id I.loc;obtain⟨sl,hL⟩:=u.any ho I.free fun z=>(JI _ z).2.1 rfl
 exact I.step (ch:=ch) JI (fun b o hL hb hc e n=>u.keep b o e n (fun z=>(List.mem_cons.mp (I.Dh b z)).elim hL hb) hc) (fun b o _ _ hc e n=>u.any e n hc) (fun b o hc e n=>u.free b o e n hc) (fun b o hc e=>u.there b o e hc) u.tups u.frzs u.tbls (fun m' hm=>by
  obtain⟨o',Us,Rw,Gb,r'⟩:=hm;rw[ho] at Gb;cases Gb;exact⟨_,Us,Rw,hL,r'⟩) hok hg
theorem Inv.turned{t':Nat}{it:Addr}(I:Inv X pins σ H s)(k:∀b o,b≠it->s.heap.get? b=some o->h'.get? b=some o)(hn:H it=none)(hL:it≠X.env.locals)
 (h1:it∈X.ex\/X.s₀.heap.objs.size<=it) (h2:∀x c,X.env.cells.lookup x=some c->c≠it) (h3:∀p∈X.pn++pins,p.1≠it):Inv X pins σ H {s with heap:=h',toks:=t'}:=by
 have nit:∀b u,H b=some u->b≠it:=fun b u e z=>by rw[z,hn] at e;cases e
 refine I.step (g':=s.gens) (d':=s.drawn) (ch:=[it]) (fun b hb=>?_) (fun b o _ _ hc e _=>k b o (fun z=>hc (by simp [z])) e) (fun b o _ _ hc e _=>⟨o.slots,k b o (fun z=>hc (by simp [z])) e⟩) (fun _ _ _ _ n=>n)
  (fun b o hc e=>⟨o,k b o (fun z=>hc (by simp [z])) e⟩) (fun _ _ e=>e) (fun _ _ _ e=>e) (fun b ps e=>⟨#[],by rw[e];simp⟩) (fun m hm=>?_) (fun b u e=>?_) I.bare
 .have e:b=it:=by simpa using hb
  subst e;exact⟨h1,hL,h2,h3⟩
 .obtain⟨o,es,ep,ho,r⟩:=hm;exact⟨o,es,ep,k _ o (Ne.symm hL) ho,r⟩
 .refine(I.hok b u e).yT (fun c v hc q=>k c v ?_ q) (fun _ q=>q) fun _ _ q=>q
  rcases hc with z | z
  .rw [z];exact nit b u e
  .exact nit c _ z
theorem Inv.tok(I:Inv X pins σ H s)(t:Nat):Inv X pins σ H {s with toks:=t}:=I.un (h':=s.heap) (t':=t) Un.refl I.hok
theorem Inv.kept{t':Nat}(I:Inv X pins σ H s)(k:∀b u,s.heap.get? b=some u->h'.get? b=some u):Inv X pins σ H {s with heap:=h',toks:=t'}:=I.un (Un.kept k) (I.hok.kept k)
theorem Inv.laid{a:Addr}{o:HO}{t':Nat}(I:Inv X pins σ H s)(k:∀b u,s.heap.get? b=some u->h'.get? b=some u)(hp:s.heap.objs.size<=a)(new:e_ X.prog X.w (upd H a o) h' a o) :
 Inv X pins σ (upd H a o) {s with heap:=h',toks:=t'}:=I.un (Un.laid k hp (I.hok.fresh hp)) (I.hok.laid k hp new)
theorem Inv.write{x e:Addr}{o:HO}{t':Nat}(I:Inv X pins σ H s)(mu:QX (H x))(he:e=x\/H e=some (.own x))(k:∀b u,b≠e->s.heap.get? b=some u->h'.get? b=some u)(JN:∃u,h'.get? e=some u)
 (new:e_ X.prog X.w (upd H x o) h' x o):Inv X pins σ (upd H x o) {s with heap:=h',toks:=t'}:=I.un (Un.write mu he k JN) (I.hok.write mu he k JN new)
theorem Inv.DX{Ms:Zy}(I:Inv X pins σ H s)(h:∀p∈Ms,s.heap.get? p.1=some p.2/\H p.1=none/\p.1≠X.env.locals/\p.1 ∉ X.fs/\∀v,p.2.data≠ .cell v):Inv X Ms σ H s:=
 ⟨I.ok,I.os,I.bare,I.base,I.loc,I.cell,I.free,I.freeC,fun p hp=>(List.mem_append.mp hp).elim (fun z=>I.pin p (List.mem_append_left _ z)) (h p),I.hok,I.len⟩
theorem AR{N:List Str}(hN:N.Nodup){i j:Nat}(a:N[i]? =some x)(b:N[j]? =some x):i=j:=by
 obtain⟨h1,e1⟩:=List.getElem?_eq_some_iff.mp a;obtain⟨h2,e2⟩:=List.getElem?_eq_some_iff.mp b;exact(List.getElem_inj hN).mp (e1.trans e2.symm)
theorem x9{M:Model}{A:Around}{E:Zz}{i:Nat}{x:Str}{v:V}{u:Value}{Q:Unit->Shared->Prop}(I:Inv X pins σ H s)(hN:X.N.Nodup)(hi:X.N[i]? =some x)(hx:Loc X.env.scope x)(r:RelV v u)
 (h:∀s',Inv X pins (σ.set i (some v)) H s'->(∃a,Heap.SameBut a s.heap s'.heap/\(a=X.env.locals\/X.env.cells.lookup x=some a))->Q () s') (hf:X.fn x=true\/X.env.scope.names.lookup x=some .local:=by first | exact .inl rfl | exact .inr rfl | assumption):wpAny M A (storeName X.env x u) Q E s:=by
 obtain⟨m,hn,hl⟩:=id I.loc;have hcls:(X.env.scope.kind== .class || (X.env.scope.kind== .module && X.env.locals !=X.env.globals))=false:=by rw[I.ok.kind];rfl
 have hiσ:i < σ.length:=by rw[I.len];exact(List.getElem?_eq_some_iff.mp hi).1
 have MP:=I.MP;have tracked:∀{a:Addr} {h':Heap},(∃o,s.heap.get? a=some o/\H a=none)->Heap.SameBut a s.heap h'->pF X.prog X.w H h':=fun {a h'} ha hs b ob e=>by
  obtain⟨_,_,hfree⟩:=ha;refine(I.hok b ob e).yT (fun c w' hc q=>(hs.2 c ?_).trans q) (fun _ q=>q) fun _ _ q=>q
  rintro rfl;rcases hc with rfl | hc
  .rw [hfree] at e;cases e
  .rw [hfree] at hc;cases hc
 rcases hx with hk | hk
 .refine wpAny_storeName_local hk hn (fun h' OF hs=>?_) hcls
  obtain⟨oL,_,_,hoL,_⟩:=id hn;refine h _ ⟨I.ok,I.os,I.bare,⟨fun b o e n hb hx=>?_,fun b o e n hb hx=>?_,I.base.free,fun b o e hx=>?_,I.base.tups,I.base.frzs,I.base.tbls⟩,⟨_,OF,fun j y v' e1 e2 e3=>?_⟩,fun y c e=>?_,I.free,I.freeC,fun p hp=>?_,tracked ⟨oL,hoL,I.free⟩ hs,by simpa using I.len⟩ ⟨_,hs, .inl rfl⟩
  .exact(hs.2 b (Nat.ne_of_lt (Nat.lt_of_lt_of_le (Heap.lt_size e) I.ok.above))).trans (I.base.keep b o e n hb hx)
  .obtain⟨sl,e1⟩:=I.base.slot b o e n hb hx;exact⟨sl,(hs.2 b (Nat.ne_of_lt (Nat.lt_of_lt_of_le (Heap.lt_size e) I.ok.above))).trans e1⟩
  .obtain⟨o',e1⟩:=I.base.there b o e hx;exact⟨o',(hs.2 b (Nat.ne_of_lt (Nat.lt_of_lt_of_le (Heap.lt_size e) I.ok.above))).trans e1⟩
  .by_cases hj:j=i
   .subst hj;rw[hi] at e1;cases e1;rw[List.getElem?_set_self hiσ] at e2;cases e2;exact⟨u,r, .inl ⟨hk,by simp⟩⟩
   .rw [List.getElem?_set_ne (Ne.symm hj)] at e2;obtain⟨u',r',q⟩:=hl j y v' e1 e2 e3;refine⟨u',r',?_⟩;rcases q with⟨k,e⟩ | ⟨k,c,e,z⟩
    .refine .inl ⟨k,?_⟩;have:y≠x:=fun e=>hj (AR hN e1 (e▸hi))
     simp [this,e]
    .exact .inr ⟨k,c,e,z.sameBut hs (MP y c e)⟩
  .obtain⟨w',z⟩:=I.cell y c e;exact⟨w',z.sameBut hs (MP y c e)⟩
  .obtain⟨e,n,ne,nf,d⟩:=I.pin p hp;exact⟨(hs.2 p.1 ne).trans e,n,ne,nf,d⟩
 .have hfn:X.fn x=true:=by
   rcases hf with z | z
   .exact z
   .rw [z] at hk;cases hk
  obtain⟨c,hc⟩:=I.ok.has x (.inl hk);obtain⟨w',z⟩:=I.cell x c hc;refine wpAny_storeName_cell I.ok.kind hk hc z (fun h' Gp hs=>?_)
  obtain⟨oc,hoc,hocd⟩:=id z;refine h {s with heap:=h'} ⟨I.ok,I.os,I.bare,⟨fun b o e n hb hx=>?_,fun b o e n hb hx=>?_,I.base.free,fun b o e hx=>?_,I.base.tups,I.base.frzs,I.base.tbls⟩,⟨m,hn.sameBut hs (Ne.symm (MP x c hc)),fun j y v' e1 e2 e3=>?_⟩,fun y c' e=>?_,I.free,I.freeC,fun p hp=>?_,tracked ⟨oc,hoc,I.freeC x c hc⟩ hs,by simpa using I.len⟩ ⟨c,hs, .inr hc⟩
  .exact(hs.2 b (Nat.ne_of_lt (Nat.lt_of_lt_of_le (Heap.lt_size e) (I.ok.cab x c hfn hc)))).trans (I.base.keep b o e n hb hx)
  .obtain⟨sl,e1⟩:=I.base.slot b o e n hb hx;exact⟨sl,(hs.2 b (Nat.ne_of_lt (Nat.lt_of_lt_of_le (Heap.lt_size e) (I.ok.cab x c hfn hc)))).trans e1⟩
  .obtain⟨o',e1⟩:=I.base.there b o e hx;exact⟨o',(hs.2 b (Nat.ne_of_lt (Nat.lt_of_lt_of_le (Heap.lt_size e) (I.ok.cab x c hfn hc)))).trans e1⟩
  .by_cases hj:j=i
   .subst hj;rw[hi] at e1;cases e1;rw[List.getElem?_set_self hiσ] at e2;cases e2;exact⟨u,r, .inr ⟨.inl hk,c,hc,Gp⟩⟩
   .rw [List.getElem?_set_ne (Ne.symm hj)] at e2;obtain⟨u',r',q⟩:=hl j y v' e1 e2 e3;refine⟨u',r',?_⟩;rcases q with q | ⟨k,c',e,z'⟩
    .exact .inl q
    .refine .inr ⟨k,c',e,z'.sameBut hs ?_⟩;rintro rfl;exact hj (AR hN e1 (I.ok.inj _ _ _ e hc▸hi))
  .by_cases hcc:c'=c
   .subst hcc;exact⟨_,Gp⟩
   .obtain⟨w2,z2⟩:=I.cell y c' e;exact⟨w2,z2.sameBut hs hcc⟩
  .obtain⟨e,n,ne,nf,d⟩:=I.pin p hp;refine⟨(hs.2 p.1 ?_).trans e,n,ne,nf,d⟩;intro q;rw[q,hoc] at e;have q':oc=p.2:=Option.some.inj e;exact d w' (by rw[<-q'];exact hocd)
theorem Ap{M:Model}{A:Around}{E:Zz}{i:Nat}{x:Str}{v:V}{u:Value}{Q:Unit->Shared->Prop}(I:Inv X pins σ H s)(hN:X.N.Nodup)(hi:X.N[i]? =some x)(hx:Loc X.env.scope x)(r:RelV v u)
 (h:∀s',Inv X pins (σ.set i (some v)) H s'->Q () s') (hf:X.fn x=true\/X.env.scope.names.lookup x=some .local:=by first | exact .inl rfl | exact .inr rfl | assumption):wpAny M A (storeName X.env x u) Q E s:=
 x9 I hN hi hx r (fun s' I' _=>h s' I') hf
theorem Inv.PM{s':Shared}{ch:List Addr}(I:Inv X pins σ H s)(ho:s'.os=s.os)(u:Un (Gi X.stack) ch H H' s.heap s'.heap)(hok:pF X.prog X.w H' s'.heap)(hg:AllBare s'.gens)
 (JI:∀b∈ch,(b∈X.ex\/X.s₀.heap.objs.size<=b)/\b≠X.env.locals/\(∀x c,X.env.cells.lookup x=some c->c≠b)/\∀p∈X.pn++pins,p.1≠b):Inv X pins σ H' s':=by
 obtain⟨h',g',d',t',o'⟩:=s';have e:o'=s.os:=ho;subst e;exact I.call (g':=g') (t':=t') (d':=d') u hok hg JI
end
abbrev XK:=Value->Option Addr->Hp->Prop
abbrev St:=List (Option V)
abbrev VK:=V->Hp->Prop
abbrev TE:=St->Hp->VK->Prop
abbrev TT:=St->Hp->(Bool->Hp->Prop)->Prop
abbrev TA:=St->Hp->(List V->Hp->Prop)->Prop
structure Ends where
 nx:St->Hp->Prop
 rt:VK
 bk:St->Hp->Prop:=fun _ _=>False
 ct:St->Hp->Prop:=fun _ _=>False
abbrev TS:=Ends->St->Hp->Prop
def EP(X:Cx)(pins:Zy)(σ:St)(Q:VK)(u:Value)(s':Shared):Prop:=∃v H',Inv X pins σ H' s'/\RelV v u/\Q v H'
def TP(X:Cx)(pins:Zy)(σ:St)(Q:Bool->Hp->Prop)(b:Bool)(s':Shared):Prop:=∃H',Inv X pins σ H' s'/\Q b H'
def AP(X:Cx)(pins:Zy)(σ:St)(Q:List V->Hp->Prop)(us:List Value)(s':Shared):Prop:=∃vs H',Inv X pins σ H' s'/\Vals vs us/\Q vs H'
def SP(X:Cx)(pins:Zy)(D:Ends)(f:Flow)(s':Shared):Prop:=
 match f with
 | .next=>∃dc H',Inv X pins dc H' s'/\D.nx dc H'
 | .brk=>∃dc H',Inv X pins dc H' s'/\D.bk dc H'
 | .cont=>∃dc H',Inv X pins dc H' s'/\D.ct dc H'
 | .ret u=>∃v dc H',Inv X pins dc H' s'/\RelV v u/\D.rt v H'
def PE(X:Cx)(e:Expr)(t:TE):Prop:=
 ∀(pins:Zy) (s:Shared) (σ:St) (H:Hp) (Q:VK),Inv X pins σ H s->t σ H Q->wpAny (model X.prog X.w) X.A (eval e X.env) (EP X pins σ Q) X.xe s
def PT(X:Cx)(e:Expr)(t:TT):Prop:=
 ∀(pins:Zy) (s:Shared) (σ:St) (H:Hp) (Q:Bool->Hp->Prop),Inv X pins σ H s->t σ H Q->wpAny (model X.prog X.w) X.A (isTrue e X.env (eval e X.env)) (TP X pins σ Q) X.xe s
def PW(X:Cx)(e:Expr)(t:TT):Prop:=
 ∀(whole:Sem Value) (pins:Zy) (s:Shared) (σ:St) (H:Hp) (Q:Bool->Hp->Prop),Inv X pins σ H s->t σ H Q->wpAny (model X.prog X.w) X.A (isTrue e X.env whole) (TP X pins σ Q) X.xe s
theorem PW.pt{X:Cx}{t:TT}(h:PW X e t):PT X e t:=h _
def PA(X:Cx)(es:List Expr)(t:TA):Prop:=
 ∀(pos:Pos) (pins:Zy) (s:Shared) (σ:St) (H:Hp) (Q:List V->Hp->Prop),Inv X pins σ H s->t σ H Q->wpAny (model X.prog X.w) X.A (spliced (backTo pos (starEach es X.env))) (AP X pins σ Q) X.xe s
def PS(X:Cx)(st:Stmt)(t:TS):Prop:=
 ∀(pins:Zy) (s:Shared) (σ:St) (H:Hp) (D:Ends),Inv X pins σ H s->t D σ H->wpAny (model X.prog X.w) X.A (exec st X.env) (SP X pins D) X.xe s
def zc(X:Cx)(st:List Stmt)(t:TS):Prop:=
 ∀(pins:Zy) (s:Shared) (σ:St) (H:Hp) (D:Ends),Inv X pins σ H s->t D σ H->wpAny (model X.prog X.w) X.A (execs st X.env) (SP X pins D) X.xe s
theorem dY{α:Type}{t:Sem α}{Q Q':α->Shared->Prop}{M:Model}{E:Zz}{s:Shared}(h:wpAny M A t Q E s)(hQ:∀a s,Q a s->Q' a s):wpAny M A t Q' E s:=wpAny_mono h hQ fun _ _ x=>x
section
variable {X:Cx}
def Ta(i:Nat):TE:=fun σ H Q=>∃v,σ[i]? =some (some v)/\Q v H
def tC(v:V):TE:=fun _ H Q=>Q v H
theorem sL{i:Nat}{pos:Pos}(hN:X.N[i]? =some x)(hv:JA X.env.scope x)(hd:(x==("__debug__":Str))=false:=by decide)(uq:(x==("__classdict__":Str))=false:=by decide):PE X (.Name x pos) (Ta i):=by
 intro pins s σ H Q I h;obtain⟨v,e,h⟩:=h;obtain⟨m,hn,hl⟩:=I.loc;obtain⟨u,r,l⟩:=hl i x v hN e hv;have fin:EP X pins σ Q u s:=⟨v,H,I,r,h⟩;rcases l with⟨hk,hm⟩ | ⟨hk,c,hc,hcell⟩
 .exact wpAny_Name (wpAny_loadName_local I.ok.kind hk hn hm fin) hd
 .rcases hk with hk | hk
  .exact wpAny_Name (wpAny_loadName_cell I.ok.kind hk hc hcell fin) hd
  .exact wpAny_Name (wpAny_loadName_free I.ok.kind hk hc hcell fin uq) hd
theorem u6{i j pos}:PE X (.Constant (.int i) j pos) (tC (.int i)):=fun _ _ _ H _ I h=>wpAny_Constant_int ⟨.int i,H,I.tok _,⟨_,rfl⟩,h⟩
theorem Qq{b j pos}:PE X (.Constant (.bool b) j pos) (tC (.bl b)):=fun _ _ _ H _ I h=>Constant_bool ⟨.bl b,H,I,rfl,h⟩
theorem Oq{j pos}:PE X (.Constant .none j pos) (tC .cH):=fun _ _ _ H _ I h=>Constant_none ⟨.cH,H,I,rfl,h⟩
theorem vF{x j pos}:PE X (.Constant (.str x) j pos) (tC (.str x)):=fun _ _ _ H _ I h=>Calls.Constant_str ⟨.str x,H,I.tok _,⟨_,rfl⟩,h⟩
def Gl(X:Cx)(x:Str):Prop:=X.env.kindOf x=some .globalImplicit
theorem DZ{E:Zz}{pins:Zy}{s:Shared}{σ:St}{H:Hp}{x:Str}{u:Value}{pos:Pos}{Q:Zz}(I:Inv X pins σ H s)(hg:Gl X x)(hm:X.mg x=some u)(h:Q u s)
 (hd:(x==("__debug__":Str))=false:=by decide):wpAny (model X.prog X.w) X.A (eval (.Name x pos) X.env) Q E s:=
 Calls.Name_function_global I.ok.kind hg (Calls.loadGlobal_global (by rw[I.ok.glob];exact I.mod.glob.keeps I.bk) hm h) hd
theorem qa{E:Zz}{pins:Zy}{s:Shared}{σ:St}{H:Hp}{x:Str}{u:Value}{pos:Pos}{Q:Zz}(I:Inv X pins σ H s)(hg:Gl X x)(hm:X.mg x=none)(hv:bootBuiltins x=some u)(h:Q u s)
 (hn:x≠"__name__":=by decide) (hd:(x==("__debug__":Str))=false:=by decide):wpAny (model X.prog X.w) X.A (eval (.Name x pos) X.env) Q E s:=by
 obtain⟨mb,h1,h2⟩:=I.mod.blt;exact Calls.Name_function_global I.ok.kind hg (Calls.loadGlobal_builtin (by rw[I.ok.glob];exact I.mod.glob.keeps I.bk) hm (by rw[I.ok.blt];exact h1.keeps I.bk) ((h2 x hn).trans hv) h) hd
def RI(ta tb:TE)(k:Int->Int->Hp->Prop):St->Hp->Prop:=fun σ H=>ta σ H fun x H1=>tb σ H1 fun y H2=>∃i j,x= .int i/\y= .int j/\k i j H2
def We(ta tb:TE):TE:=fun σ H Q=>RI ta tb (fun i j H2=>Q (.int (i+j)) H2) σ H
def W7(ta tb:TE):TE:=fun σ H Q=>RI ta tb (fun i j H2=>Q (.int (i - j)) H2) σ H
def W8(ta tb:TE):TE:=fun σ H Q=>RI ta tb (fun i j H2=>(-(2 ^ 64) < i/\i < 2 ^ 64)/\Q (.int (i*j)) H2) σ H
variable {a b:Expr} {ta tb:TE} {pos:Pos}
def PC(X:Cx)(op:CmpOp)(a b:Expr)(t:TE):Prop:=
 ∀(pins:Zy) (s:Shared) (σ:St) (H:Hp) (Q:VK),Inv X pins σ H s->t σ H Q->
  wpAny (model X.prog X.w) X.A (eval a X.env) (fun v s₁=>wpAny (model X.prog X.w) X.A (eval b X.env) (fun u OG=>wpAny (model X.prog X.w) X.A (compareOp op v u) (EP X pins σ Q) X.xe OG) X.xe s₁) X.xe s
def Fy(p:Int->Int->Bool)(ta tb:TE):TE:=fun σ H Q=>RI ta tb (fun i j H2=>Q (.bl (p i j)) H2) σ H
abbrev Zf:TE->TE->TE:=Fy fun i j=>decide (i < j)
abbrev Y1:TE->TE->TE:=Fy fun i j=>decide (i<=j)
abbrev Y0:TE->TE->TE:=Fy fun i j=>decide (j < i)
abbrev Y8:TE->TE->TE:=Fy fun i j=>decide (j<=i)
abbrev WR:TE->TE->TE:=Fy fun i j=>decide (i=j)
abbrev Xj:TE->TE->TE:=Fy fun i j=>!decide (i=j)
def WH(ta:TE):TE:=fun σ H Q=>ta σ H fun x H1=>Q (.bl (decide (x= .cH))) H1
def VG(ta:TE):TE:=fun σ H Q=>ta σ H fun x H1=>Q (.bl (!decide (x= .cH))) H1
def tB(t:TE):TT:=fun σ H Q=>t σ H fun x H1=>∃c,x= .bl c/\Q c H1
theorem MG{op:CmpOp}{t:TE}(h:PC X op a b t)(h1:behindInMarks op b=false:=by first | exact nobehind _ (by decide) (by decide) | rfl):PE X (.Compare a [op] [b] pos) t:=fun pins s σ H Q I hw=>wpAny_Compare1 (h pins s σ H Q I hw) h1
variable {tA RY:TT} {rest:List Expr}
def SI(t u:TT):TT:=fun σ H Q=>t σ H fun c H1=>if c=true then u σ H1 Q else Q false H1
def Wf(t u:TT):TT:=fun σ H Q=>t σ H fun c H1=>if c=true then Q true H1 else u σ H1 Q
def Sg(t:TT):TT:=fun σ H Q=>t σ H fun c H1=>Q (!c) H1
theorem DL(ha:PT X a tA):PW X (.BoolOp .And [a] pos) tA:=by
 intro wh pins s σ H Q I h;refine isTrue_and (dY (ha pins s σ H Q I h) fun c s1 e=>?_)
 cases c with
 | true=>exact isTrue_and_nil e
 | false=>exact e
theorem IM(ha:PT X a tA):PW X (.BoolOp .Or [a] pos) tA:=by
 intro wh pins s σ H Q I h;refine isTrue_or (dY (ha pins s σ H Q I h) fun c s1 e=>?_)
 cases c with
 | false=>exact isTrue_or_nil e
 | true=>exact e
theorem HI(ha:PT X a tA)(hb:PW X (.BoolOp .And (b ::rest) pos) RY):PW X (.BoolOp .And (a ::b ::rest) pos) (SI tA RY):=by
 intro wh pins s σ H Q I h;refine isTrue_and (dY (ha pins s σ H _ I h) fun c s1 ⟨H1,I1,q1⟩=>?_)
 cases c with
 | true=>exact hb wh pins s1 σ H1 Q I1 q1
 | false=>exact⟨H1,I1,q1⟩
theorem Mg(ha:PT X a tA)(hb:PW X (.BoolOp .Or (b ::rest) pos) RY):PW X (.BoolOp .Or (a ::b ::rest) pos) (Wf tA RY):=by
 intro wh pins s σ H Q I h;refine isTrue_or (dY (ha pins s σ H _ I h) fun c s1 ⟨H1,I1,q1⟩=>?_)
 cases c with
 | true=>exact⟨H1,I1,q1⟩
 | false=>exact hb wh pins s1 σ H1 Q I1 q1
theorem HG(ha:PT X a tA):PT X (.UnaryOp .Not a pos) (Sg tA):=by
 intro pins s σ H Q I h;exact isTrue_not (ha pins s σ H (fun c H1=>Q (!c) H1) I h)
def Vg(ta tb:TE):TE:=fun σ H Q=>ta σ H fun x H1=>∃c,x= .bl c/\if c=true then tb σ H1 Q else Q (.bl false) H1
def Ss(ta tb:TE):TE:=fun σ H Q=>ta σ H fun x H1=>∃c,x= .bl c/\if c=true then Q (.bl true) H1 else tb σ H1 Q
def Vr(ta:TE):TE:=fun σ H Q=>ta σ H fun x H1=>∃c,x= .bl c/\Q (.bl (!c)) H1
theorem MU{op}{t:TE}(h:PE X a t):PE X (.BoolOp op [a] pos) t:=fun pins s σ H Q I hw=>BoolOp_one (h pins s σ H Q I hw)
theorem PR(ha:PE X a ta)(hb:PE X (.BoolOp .Or (b ::rest) pos) tb):PE X (.BoolOp .Or (a ::b ::rest) pos) (Ss ta tb):=by
 intro pins s σ H Q I h;refine BoolOp_or (dY (ha pins s σ H _ I h) fun v s1 ⟨x,H1,I1,r1,q1⟩=>?_)
 obtain⟨c,rfl,q1⟩:=q1;cases r1;refine wpAny_truthy_bool ?_;cases c with
 | false=>exact hb pins s1 σ H1 Q I1 q1
 | true=>exact⟨.bl true,H1,I1,rfl,q1⟩
def WQ(t:TT)(ta tb:TE):TE:=fun σ H Q=>t σ H fun c H1=>if c=true then ta σ H1 Q else tb σ H1 Q
theorem HD(hc:PT X c tA)(ha:PE X a ta)(hb:PE X b tb):PE X (.IfExp c a b pos) (WQ tA ta tb):=by
 intro pins s σ H Q I h;refine wpAny_IfExp (dY (hc pins s σ H _ I h) fun d s1 ⟨H1,I1,q1⟩=>?_)
 cases d with
 | true=>exact ha pins s1 σ H1 Q I1 q1
 | false=>exact hb pins s1 σ H1 Q I1 q1
end
def pM(K:W.Frag)(H:Hp)(a:Addr)(xs:List V):Prop:=
 Rd H a (.lst xs)\/
  ∃(o:Obj) (its:Array Value) (n:Nat),K.lookup a=some o/\o.cls= .type "list"/\o.dict=none/\o.data= .seq its n/\its.size<=sizeLine/\Vals xs its.toList
def tM(K:W.Frag)(H:Hp)(a:Addr)(xs:List V):Prop:=
 Rd H a (.tup xs)\/
  ∃(o:Obj) (its:Array Value) (n:Nat),K.lookup a=some o/\o.cls= .type "tuple"/\o.data= .seq its n/\its.size<=sizeLine/\Vals xs its.toList
def Tx:Value->Option V
 | .none=>some .cH
 | .bool b=>some (.bl b)
 | .int i _=>some (.int i)
 | .str x _=>some (.str x)
 | .bytes b _=>some (.byt b)
 | .float b _=>some (.flt b)
 | .ref a=>some (.ref a)
 | .type n=>some (.ty n)
 | _=>none
theorem RelV.abs{x:V}{u:Value}(r:RelV x u):Tx u=some x:=by
 cases x with
 | cH=>cases r;rfl
 | bl _=>cases r;rfl
 | int _=>obtain⟨t,rfl⟩:=r;rfl
 | str _=>obtain⟨t,rfl⟩:=r;rfl
 | byt _=>obtain⟨t,rfl⟩:=r;rfl
 | flt _=>obtain⟨t,rfl⟩:=r;rfl
 | ref _=>cases r;rfl
 | ty _=>cases r;rfl
theorem RelV.inj{x y:V}{u:Value}(r:RelV x u)(q:RelV y u):x=y:=Option.some.inj (r.abs.symm.trans q.abs)
theorem Vals.inj:∀{xs ys:List V} {us:List Value},Vals xs us->Vals ys us->xs=ys
 | _,_,_, .nil, .nil=>rfl
 | _,_,_, .cons r t, .cons r' t'=>by rw[r.inj r',Vals.inj t t']
section
variable {X:Cx} {pins:Zy} {σ:St} {H:Hp} {s:Shared} {a:Addr} {xs ys:List V}
theorem pM.of{K:W.Frag}(h:H a=some (.lst xs)):pM K H a xs:= .inl (.inl h)
theorem Inv.list(I:Inv X pins σ H s)(h:pM X.K H a xs):∃its:List Value,Vals xs its/\PlainL s.heap a its.toArray/\xs.length<=sizeLine:=by
 rcases h with h | ⟨o,its,n,hk,hc,hd,hs,hz,r⟩
 .obtain⟨z,its,n,r,e⟩:=h.ok I.hok;exact⟨its,r,⟨_,n,e,rfl,rfl,rfl⟩,z⟩
 .refine⟨its.toList,r,⟨o,n,I.Ed a o hk,hc,hd,by simpa using hs⟩,?_⟩
  have e:=r.length;simp only[Array.length_toList] at e;omega
theorem Inv.tuple(I:Inv X pins σ H s)(h:tM X.K H a xs):∃its:List Value,Vals xs its/\IsTup s.heap a its.toArray/\xs.length<=sizeLine:=by
 rcases h with h | ⟨o,its,n,hk,hc,hs,hz,r⟩
 .obtain⟨z,its,r,p⟩:=h.ok I.hok;exact⟨its,r,p,z⟩
 .refine⟨its.toList,r,⟨o,I.Ed a o hk,hc,n,by simpa using hs⟩,?_⟩
  have e:=r.length;simp only[Array.length_toList] at e;omega
theorem Inv.rj(I:Inv X pins σ H s)(h:pM X.K H a xs)(h':pM X.K H a ys):xs=ys:=by
 obtain⟨its,r,⟨o,n,e,_,_,d⟩,_⟩:=I.list h;obtain⟨its',r',⟨o',n',e',_,_,d'⟩,_⟩:=I.list h';rw[e] at e';cases e';rw[d] at d';injection d' with d1 _
 have:its=its':=by simpa using congrArg Array.toList d1
 subst this;exact r.inj r'
theorem Inv.sO(I:Inv X pins σ H s)(h:tM X.K H a xs)(h':tM X.K H a ys):xs=ys:=by
 obtain⟨its,r,⟨o,e,_,n,d⟩,_⟩:=I.tuple h;obtain⟨its',r',⟨o',e',_,n',d'⟩,_⟩:=I.tuple h';rw[e] at e';cases e';rw[d] at d';injection d' with d1 _
 have:its=its':=by simpa using congrArg Array.toList d1
 subst this;exact r.inj r'
end
abbrev Cx.wW(X:Cx)(E:Zz):Cx:={X with xe:=E}
abbrev Cx.Kg(X:Cx):Cx:=X.wW fun _ _=>False
theorem Cx.Ok.wW{X:Cx}(ok:X.Ok)(E:Zz):(X.wW E).Ok:=
 ⟨ok.mod,ok.kind,ok.glob,ok.blt,ok.above,ok.inj,ok.has,ok.cab,ok.hd,ok.frames,ok.stk,ok.exf,ok.bs,ok.bsz,ok.noex,ok.exfs,ok.uf,ok.frf⟩
theorem Cx.Ok.om{X:Cx}{E:Zz}(ok:(X.wW E).Ok):X.Ok:=
 ⟨ok.mod,ok.kind,ok.glob,ok.blt,ok.above,ok.inj,ok.has,ok.cab,ok.hd,ok.frames,ok.stk,ok.exf,ok.bs,ok.bsz,ok.noex,ok.exfs,ok.uf,ok.frf⟩
section
variable {X:Cx} {pins:Zy} {σ:St} {H:Hp} {s:Shared} {E:Zz}
theorem Inv.wW(I:Inv X pins σ H s)(E:Zz):Inv (X.wW E) pins σ H s:=⟨I.ok.wW E,I.os,I.bare,I.base,I.loc,I.cell,I.free,I.freeC,I.pin,I.hok,I.len⟩
theorem Inv.om(I:Inv (X.wW E) pins σ H s):Inv X pins σ H s:=⟨I.ok.om,I.os,I.bare,I.base,I.loc,I.cell,I.free,I.freeC,I.pin,I.hok,I.len⟩
theorem SP.om{D:Ends}{f:Flow}{s':Shared}(h:SP (X.wW E) pins D f s'):SP X pins D f s':=by
 cases f with
 | next=>obtain⟨dc,H',I,q⟩:=h;exact⟨dc,H',I.om,q⟩
 | brk=>obtain⟨dc,H',I,q⟩:=h;exact⟨dc,H',I.om,q⟩
 | cont=>obtain⟨dc,H',I,q⟩:=h;exact⟨dc,H',I.om,q⟩
 | ret u=>obtain⟨v,dc,H',I,r,q⟩:=h;exact⟨v,dc,H',I.om,r,q⟩
theorem zc.Kg{st:List Stmt}{t:TS}(h:zc X.Kg st t):zc X st t:=fun pins s σ H D I hw=>
 wpAny_mono (h pins s σ H D (I.wW _) hw) (fun _ _ q=>q.om) fun _ _ z=>False.elim z
end
section
variable {X:Cx} {st:Stmt} {rest:List Stmt} {t u:TS} {e:Expr} {te:TE} {pos:Pos}
def Pn:TS:=fun D σ H=>D.nx σ H
def Q3(t u:TS):TS:=fun D σ H=>t {D with nx:=u D} σ H
theorem ze:zc X [] Pn:=fun _ _ σ H _ I h=>wpAny_execs_nil ⟨σ,H,I,h⟩
theorem we(h1:PS X st t)(h2:zc X rest u):zc X (st ::rest) (Q3 t u):=by
 intro pins s σ H D I h;refine wpAny_execs_cons (dY (h1 pins s σ H {D with nx:=u D} I h) fun f s1 q=>?_)
 cases f with
 | next=>
   obtain⟨dc,H',I',q⟩:=q;exact h2 pins s1 dc H' D I' q
 | ret v=>exact q
 | brk=>exact q
 | cont=>exact q
theorem yK(h1:PS X st t):zc X [st] t:=by
 intro pins s σ H D I h;refine wpAny_execs_cons (dY (h1 pins s σ H D I h) fun f s1 q=>?_)
 cases f with
 | next=>exact wpAny_execs_nil q
 | ret v=>exact q
 | brk=>exact q
 | cont=>exact q
def Sj:TS:=fun D σ H=>D.bk σ H
def QW:TS:=fun D σ H=>D.ct σ H
theorem AY:PS X (.Continue pos) QW:=fun _ _ σ H _ I h=>wpAny_Continue ⟨σ,H,I,h⟩
theorem Inv.quiet{pins:Zy}{s:Shared}(I:Inv X pins σ H s):interactive X.env=false:=by simp [interactive,I.ok.kind]
def QM(te:TE):TS:=fun D σ H=>te σ H fun _ H1=>D.nx σ H1
theorem uA(he:PE X e te)(hs:swapsWith e none pos.line X.env=pure false:=by rfl):PS X (.Expr e pos) (QM te):=by
 intro pins s σ H D I h;exact wpAny_Expr_any (dY (he pins s σ H _ I h) fun v s1 ⟨x,H1,I1,r1,q1⟩=>⟨σ,H1,I1,q1⟩) I.quiet hs
def Sr(te:TE):TS:=fun D σ H=>te σ H D.rt
theorem IS(he:PE X e te):PS X (.Return (some e) pos) (Sr te):=by
 intro pins s σ H D I h;exact wpAny_Return_some (dY (he pins s σ H _ I h) fun v s1 ⟨x,H1,I1,r1,q1⟩=>⟨x,σ,H1,I1,r1,q1⟩)
def VE:TS:=fun D _ H=>D.rt .cH H
def Tw(c:TT)(t u:TS):TS:=fun D σ H=>c σ H fun b H1=>if b=true then t D σ H1 else u D σ H1
theorem IX{tc:TT}(hc:PT X c tc)(ha:zc X a t)(hb:zc X b u):PS X (.If c a b pos) (Tw tc t u):=by
 intro pins s σ H D I h;refine wpAny_If (dY (hc pins s σ H _ I h) fun d s1 ⟨H1,I1,q1⟩=>?_)
 cases d with
 | true=>exact ha pins s1 σ H1 D I1 q1
 | false=>exact hb pins s1 σ H1 D I1 q1
def SR:TS:=fun _ _ _=>False
end
abbrev TG:=V->St->Hp->(St->Hp->Prop)->Prop
abbrev Gx:=List V->St->Hp->(St->Hp->Prop)->Prop
def PG(X:Cx)(target:Expr)(t:TG):Prop:=
 ∀(pins:Zy) (s:Shared) (σ:St) (H:Hp) (v:V) (u:Value) (Q:St->Hp->Prop),Inv X pins σ H s->RelV v u->t v σ H Q->
  wpAny (model X.prog X.w) X.A (assign target X.env u) (fun _ s'=>∃dc H',Inv X pins dc H' s'/\Q dc H') X.xe s
def JZ(X:Cx)(ts:List Expr)(t:Gx):Prop:=
 ∀(pins:Zy) (s:Shared) (σ:St) (H:Hp) (vs:List V) (us:List Value) (Q:St->Hp->Prop),Inv X pins σ H s->Vals vs us->t vs σ H Q->
  wpAny (model X.prog X.w) X.A (assignInOrder ((assignEach ts X.env).map (·.2)) us) (fun _ s'=>∃dc H',Inv X pins dc H' s'/\Q dc H') X.xe s
abbrev J7:=V->V->V->Hp->(Hp->Prop)->Prop
def Pl(X:Cx)(t:J7):Prop:=
 ∀(pins:Zy) (s:Shared) (σ:St) (H:Hp) (o i v:V) (ov iv u:Value) (Q:Hp->Prop),Inv X pins σ H s->RelV o ov->RelV i iv->RelV v u->t o i v H Q->
  wpAny (model X.prog X.w) X.A (setItem ov iv u) (fun _ s'=>∃H',Inv X pins σ H' s'/\Q H') X.xe s
abbrev RO:=V->V->Hp->VK->Prop
def Zd(X:Cx)(op:Operator)(t:RO):Prop:=
 ∀(pins:Zy) (s:Shared) (σ:St) (H:Hp) (x y:V) (v u:Value) (Q:VK),Inv X pins σ H s->RelV x v->RelV y u->t x y H Q->
  wpAny (model X.prog X.w) X.A (inplaceOp op v u) (EP X pins σ Q) X.xe s
section
variable {X:Cx} {pos:Pos}
def wb(i:Nat):TG:=fun v σ H Q=>Q (σ.set i (some v)) H
theorem D4{i:Nat}(hN:X.N.Nodup)(hi:X.N[i]? =some x)(hx:Loc X.env.scope x)(hf:X.fn x=true\/X.env.scope.names.lookup x=some .local:=by first | exact .inl rfl | exact .inr rfl | assumption):PG X (.Name x pos) (wb i):=by
 intro pins s σ H v u Q I r h;exact wpAny_assign_Name (Ap I hN hi hx r (fun s' I'=>⟨_,H,I',h⟩) hf)
def Sf:Gx:=fun vs σ H Q=>vs=[]/\Q σ H
def QG(t:TG)(u:Gx):Gx:=fun vs σ H Q=>∃v r,vs=v ::r/\t v σ H fun dc H'=>u r dc H' Q
theorem Ee:JZ X [] Sf:=by
 intro pins s σ H vs us Q I r h;obtain⟨e,h⟩:=h;subst e;cases r;exact assignInOrder_nil ⟨σ,H,I,h⟩
theorem Av{e:Expr}{es:List Expr}{t:TG}{u:Gx}(h1:PG X e t)(h2:JZ X es u)
 (hs:(assignEach (e ::es) X.env).map (·.2)=assign e X.env ::(assignEach es X.env).map (·.2):=by rfl):JZ X (e ::es) (QG t u):=by
 intro pins s σ H vs us Q I r h;obtain⟨v,vr,e1,h⟩:=h;subst e1;cases r with
 | cons r rr=>
   rw[hs];refine assignInOrder_cons (dY (h1 pins s σ H _ _ _ I r h) fun _ s1 ⟨JM,H1,I1,q1⟩=>?_)
   exact h2 pins s1 JM H1 _ _ Q I1 rr q1
def TH(K:W.Frag)(n:Nat)(t:Gx):TG:=fun v σ H Q=>∃a xs,v= .ref a/\tM K H a xs/\xs.length=n/\t xs σ H Q
theorem HJ{es:List Expr}{k:Nat}{t:Gx}{n:Nat}(hc:X.calm=true)(h:JZ X es t)
 (hn:(assignEach es X.env).length=n:=by rfl) (Js:(assignEach es X.env).findIdx? (·.1)=none:=by rfl):PG X (.Tuple es k pos) (TH X.K n t):=by
 intro pins s σ H v u Q I r hw;obtain⟨a,xs,e1,hq,hl,hw⟩:=hw;subst e1;cases r;obtain⟨its,rv,ht,hz⟩:=I.tuple hq;refine assign_Tuple_tuple (I.ok.hd hc) ht (by simp [hn,<-hl,rv.length]) Js fun h' hx=>?_
 have I1:Inv X pins σ H {s with heap:=h'}:=I.kept (t':=s.toks) fun b o e=>hx b o (Nat.ne_of_lt (Heap.lt_size e)) e
 exact h pins _ σ H xs _ Q I1 (by simpa using rv) hw
def P0(to ti:TE)(t:J7):TG:=fun v σ H Q=>to σ H fun o H1=>ti σ H1 fun i H2=>t o i v H2 fun H3=>Q σ H3
theorem CI{o i:Expr}{to ti:TE}{t:J7}(ho:PE X o to)(hi:PE X i ti)(hs:Pl X t)
 (ha:∀v,assign (.Subscript o i pos) X.env v=(do
   let ov <-holding [v] (eval o X.env)
   let iv <-holding [v,ov] (eval i X.env)
   standAt pos
   holding [v,ov,iv] (setItem ov iv v)
   release [v,ov,iv] []):=by intro _;rfl):PG X (.Subscript o i pos) (P0 to ti t):=by
 intro pins s σ H v u Q I r h;rw[ha];refine wpAny_bind (wpAny_holding (dY (ho pins s σ H _ I h) fun ov s1 ⟨x,H1,I1,r1,q1⟩=>?_))
 refine wpAny_bind (wpAny_holding (dY (hi pins s1 σ H1 _ I1 q1) fun iv s2 ⟨y,H2,I2,r2,q2⟩=>?_))
 refine wpAny_bind (wpAny_standAt (wpAny_bind (wpAny_holding (dY (hs pins s2 σ H2 x y v ov iv u _ I2 r1 r2 r q2) fun _ s3 ⟨H3,I3,q3⟩=>?_))))
 exact wpAny_release ⟨σ,H3,I3,q3⟩
def Fx(te:TE)(g:TG):TS:=fun D σ H=>te σ H fun x H1=>g x σ H1 D.nx
theorem Ia{tg e:Expr}{te:TE}{g:TG}(he:PE X e te)(hg:PG X tg g)(hs:swapsWithSole [tg] e pos.line X.env=pure false:=by rfl)(hw:swappedStores [tg] e X.env=pure none:=by rfl)
 (h1:(assignEach [tg] X.env).map (·.2)=[assign tg X.env]:=by rfl):PS X (.Assign [tg] e pos) (Fx te g):=by
 intro pins s σ H D I h;refine wpAny_Assign_stores (dY (he pins s σ H _ I h) fun v s1 ⟨x,H1,I1,r1,q1⟩=>?_) hs hw
 rw[h1];exact dY (hg pins s1 σ H1 x v _ I1 r1 q1) fun _ s2 q=>q
theorem B4{i:Nat}{te:TE}(hN:X.N.Nodup)(hi:X.N[i]? =some x)(hx:Loc X.env.scope x)(he:PE X e te)(hs:swapsWith e (some (.Name x pos')) pos.line X.env=pure false:=by rfl)(hf:X.fn x=true\/X.env.scope.names.lookup x=some .local:=by first | exact .inl rfl | exact .inr rfl | assumption) :
 PS X (.Assign [.Name x pos'] e pos) (Fx te (wb i)):=by
 intro pins s σ H D I h;refine wpAny_Assign_Name (dY (he pins s σ H _ I h) fun v s1 ⟨y,H1,I1,r1,q1⟩=>?_) hs
 exact Ap I1 hN hi hx r1 (fun s2 I2=>⟨_,H1,I2,q1⟩) hf
def WD(i j:Nat)(ta:TA):TS:=fun D σ H=>ta σ H fun vs H1=>∃v w,vs=[v,w]/\D.nx ((σ.set i (some v)).set j (some w)) H1
def Xb(i:Nat)(te:TE)(ti:RO):TS:=fun D σ H=>∃x,σ[i]? =some (some x)/\te σ H fun y H1=>ti x y H1 fun z H2=>D.nx (σ.set i (some z)) H2
def Vy(to ti te:TE)(Uu:V->V->Hp->VK->Prop)(YE:RO)(U2:J7):TS:=fun D σ H=>to σ H fun o H1=>ti σ H1 fun i H2=>Uu o i H2 fun x H3=>te σ H3 fun y H4=>YE x y H4 fun z H5=>U2 o i z H5 fun H6=>D.nx σ H6
def Wt(X:Cx)(t:V->V->Hp->VK->Prop):Prop:=
 ∀(pins:Zy) (s:Shared) (σ:St) (H:Hp) (o i:V) (ov iv:Value) (Q:VK),Inv X pins σ H s->RelV o ov->RelV i iv->t o i H Q->
  wpAny (model X.prog X.w) X.A (getItem ov iv) (EP X pins σ Q) X.xe s
def Zb(f:Int->Int->Int):RO:=fun x y H Q=>∃i j,x= .int i/\y= .int j/\Q (.int (f i j)) H
end
section
variable {X:Cx} {pos:Pos}
def Od(c:TT)(tb:TS):TS:=fun D σ H=>∃W:Nat->St->Hp->Prop,(∃m,W m σ H)/\∀m σ H,W m σ H->
 c σ H fun b H1=>if b=true then ∃N:St->Hp->Prop,(∀dc H',N dc H'->∃m',m' < m/\W m' dc H')/\tb {D with nx:=N,ct:=N,bk:=D.nx} σ H1 else D.nx σ H1
theorem Hn{tc:TT}{tb:TS}(hp:PassesOwn (model X.prog X.w) X.A X.env X.xe)(hc:PT X c tc)(hb:zc X body tb):PS X (.While c body [] pos) (Od tc tb):=by
 intro pins s σ H D I h;obtain⟨W,⟨m0,w0⟩,turn⟩:=h;refine wpAny_While (codeAny_whileLoop (fun n s'=>∃dc H',Inv X pins dc H' s'/\W n dc H') ?_ m0 ⟨σ,H,I,w0⟩)
 rintro n s1 ⟨JM,H1,I1,w1⟩;refine wpAny_passesOwn hp (dY (hc pins s1 JM H1 _ I1 (turn n JM H1 w1)) fun b s2 ⟨H2,I2,q2⟩=>?_)
 cases b with
 | true=>
   obtain⟨N,hN,q2⟩:=q2;rw[if_pos rfl];refine wpAny_passesOwn hp (dY (hb pins s2 JM H2 _ I2 q2) fun f s3 q3=>?_)
   cases f with
   | next=>
     obtain⟨Bz,H3,I3,n3⟩:=q3;obtain⟨m',hm,w3⟩:=hN Bz H3 n3;exact⟨m',hm,Bz,H3,I3,w3⟩
   | cont=>
     obtain⟨Bz,H3,I3,n3⟩:=q3;obtain⟨m',hm,w3⟩:=hN Bz H3 n3;exact⟨m',hm,Bz,H3,I3,w3⟩
   | brk=>exact q3
   | ret v=>exact q3
 | false=>
   rw[if_neg Bool.false_ne_true];exact wpAny_execs_nil ⟨JM,H2,I2,q2⟩
end
structure It where
 go:Nat->Hp->Prop
 yld:Nat->Hp->V->Hp->Prop
 stop:Nat->Hp->Prop
def t7(X:Cx)(pins:Zy)(H:Hp)(b:Addr):Prop:=
 H b=none/\b≠X.env.locals/\b ∉ X.fs/\(b∈X.ex\/X.s₀.heap.objs.size<=b)/\(∀x c,X.env.cells.lookup x=some c->c≠b)/\∀p∈X.pn++pins,p.1≠b
theorem Inv.xl{X:Cx}{pins:Zy}{H H':Hp}{s:Shared}{b:Addr}(I:Inv X pins σ H s)(hb:s.heap.objs.size<=b)(hn:H' b=none):t7 X pins H' b:=by
 refine⟨hn,Nat.ne_of_gt (Nat.lt_of_lt_of_le I.lt hb),I.TN hb, .inr (Nat.le_trans I.sz hb),fun x c e z=>?_,fun p hp z=>?_⟩
 .obtain⟨v,q⟩:=I.cell x c e;exact absurd (Nat.lt_of_lt_of_le q.lt (by rw[z];exact hb)) (Nat.lt_irrefl _)
 .exact absurd (Nat.lt_of_lt_of_le (Heap.lt_size (I.pin p hp).1) (by rw[z];exact hb)) (Nat.lt_irrefl _)
structure Turn (P:Program) (w:World) (K:W.Frag) (tg:Expr) (J:It) (fp:List Addr) (it:Addr) (tn:Nat->Heap->Prop):Prop where
 mem:it∈fp
 obj:∀i h,tn i h->∀b∈fp,∃o,h.get? b=some o/\∀v,o.data≠ .cell v
 keep:∀i h h',tn i h->(∀b∈fp,∀o,h.get? b=some o->h'.get? b=some o)->tn i h'
 item:∀(X:Cx),X.prog=P->X.w=w->X.K=K->X.calm=true->∀(i:Nat) (pins:Zy) (s:Shared) (σ:St) (H:Hp) (E:Zz),Inv X pins σ H s->(∀b∈fp,t7 X pins H b)->tn i s.heap->J.go i H->
  wpAny (model P w) X.A (pyNext (.ref it)) (fun r s1=>∃u,r=some u/\
   wpAny (model P w) X.A (letOwnedTupleGo tg (.ref it) u) (fun _ s2=>∃x H',Inv X pins σ H' s2/\RelV x u/\J.yld i H x H'/\tn (i+1) s2.heap/\∀b∈fp,H' b=none) E s1) E s
 done:∀(X:Cx),X.prog=P->X.w=w->X.K=K->X.calm=true->∀(i:Nat) (pins:Zy) (s:Shared) (σ:St) (H:Hp) (E:Zz),Inv X pins σ H s->(∀b∈fp,t7 X pins H b)->tn i s.heap->J.stop i H->
  wpAny (model P w) X.A (pyNext (.ref it)) (fun r s1=>r=none/\Inv X pins σ H s1) E s
 self:∀(A:Around) (i:Nat) (s:Shared) (Q:Zz) (E:Zz),tn i s.heap->Q (.ref it) s->wpAny (model P w) A (pyIter (.ref it)) Q E s
abbrev TI:=St->Hp->(It->Hp->Prop)->Prop
def VI(X:Cx)(pins:Zy)(σ:St)(tg:Expr)(R:It->Hp->Prop)(R6:Value)(s2:Shared):Prop:=
 ∃(it:Addr) (fp:List Addr) (tn:Nat->Heap->Prop) (J:It) (H':Hp),R6= .ref it/\Inv X pins σ H' s2/\Turn X.prog X.w X.K tg J fp it tn/\tn 0 s2.heap/\(∀b∈fp,t7 X pins H' b)/\R J H'
def PI(X:Cx)(tg iter:Expr)(wi:TI):Prop:=
 ∀(pins:Zy) (s:Shared) (σ:St) (H:Hp) (R:It->Hp->Prop),Inv X pins σ H s->wi σ H R->
  wpAny (model X.prog X.w) X.A (eval iter X.env) (fun v s1=>wpAny (model X.prog X.w) X.A (pyIter v) (VI X pins σ tg R) X.xe s1) X.xe s
theorem DD{M:Model}{A:Around}{E:Zz}{s:Shared}{tg:Expr}{it:Addr}{u:Value}{o:Obj}{n:String}{vs:Array Value}{Q:Unit->Shared->Prop}(ho:s.heap.get? it=some o)(hc:o.cls= .type n)(hd:o.data= .fields vs)
 (hn:["enumerate","zip","dict_itemiterator","dict_reverseitemiterator","odict_iterator","itertools.zip_longest","itertools.pairwise"].contains n=false) (hQ:Q () s):wpAny M A (letOwnedTupleGo tg (.ref it) u) Q E s:=by
 unfold letOwnedTupleGo;cases tg <;> first
  | exact wpAny_pure hQ
  | (cases u <;> first
      | exact wpAny_pure hQ
      | (refine wpAny_bind (wpAny_load ho ?_)
         rw[hc,hd];show wpAny M A (if(["enumerate","zip","dict_itemiterator","dict_reverseitemiterator","odict_iterator","itertools.zip_longest","itertools.pairwise"].contains n && vs[0]? ==some (rawInt _))=true then _ else _) Q E s
         rw[if_neg (by intro h;rw [hn,Bool.false_and] at h;cases h)]
         exact wpAny_pure hQ))
def VD(K:W.Frag)(a:Addr):It:=
 ⟨fun i H=>∃xs x,pM K H a xs/\xs[i]? =some x,fun i H x H'=>H'=H/\∀xs,pM K H a xs->xs[i]? =some x,fun i H=>∃xs,pM K H a xs/\xs.length<=i⟩
def Vf(K:W.Frag)(a:Addr):It:=
 ⟨fun i H=>∃xs x,tM K H a xs/\xs[i]? =some x,fun i H x H'=>H'=H/\∀xs,tM K H a xs->xs[i]? =some x,fun i H=>∃xs,tM K H a xs/\xs.length<=i⟩
def Qp(lo:Int)(n:Nat):It:=⟨fun i _=>i < n,fun i H x H'=>H'=H/\x= .int (lo+i),fun i _=>n<=i⟩
theorem x3{K:W.Frag}(a it:Addr):Turn P w K tg (VD K a) [it] it (fun i h=>h.IsListIter it a i) where
 mem:=by simp
 obj:=fun i h st b hb=>by
  have e:b=it:=by simpa using hb
  subst e;obtain⟨o,e,c,d⟩:=st;exact⟨o,e,fun v z=>by rw[d] at z;cases z⟩
 keep:=fun i h h' st k=>st.at fun o e=>k it (by simp) o e
 item:=by
  intro X hP hw hK hc i pins s σ H E I hf st hg;subst hP hw hK;obtain⟨xs,x,hq,hx⟩:=hg;obtain⟨its,rv,p,hz⟩:=I.list hq;obtain⟨u,hu,ru⟩:=rv.get hx;obtain⟨f0,f1,f2,f3,f4,f5⟩:=hf it (by simp)
  refine wpAny_pyNext_list_item st p.isList (x:=u) (by simpa using hu) fun h' Jy sb=>?_
  have I1:Inv X pins σ H {s with heap:=h'}:=I.turned (t':=s.toks) (fun b o hb e=>(sb.2 b hb).trans e) f0 f1 f3 f4 f5
  obtain⟨o,e,c,d⟩:=id Jy;exact⟨u,rfl,DD (s:={s with heap:=h'}) e c d (by decide) ⟨x,H,I1,ru,⟨rfl,fun ys hy=>by rw[I.rj hy hq];exact hx⟩,Jy,fun b hb=>(hf b hb).1⟩⟩
 done:=by
  intro X hP hw hK hc i pins s σ H E I hf st hg;subst hP hw hK;obtain⟨xs,hq,hx⟩:=hg;obtain⟨its,rv,p,hz⟩:=I.list hq;obtain⟨f0,f1,f2,f3,f4,f5⟩:=hf it (by simp)
  have hl:=rv.length;exact wpAny_pyNext_list_end (I.ok.hd hc) st p.isList (by simp;omega) fun h' eb=>⟨rfl,I.turned (t':=s.toks) (fun b o hb e=>eb b o hb e) f0 f1 f3 f4 f5⟩
 self:=fun _ _ _ _ _ st h=>wpAny_pyIter_listiter st h
theorem C9{K:W.Frag}(a it:Addr):Turn P w K tg (Vf K a) [it] it (fun i h=>h.IsTupleIter it a i) where
 mem:=by simp
 obj:=fun i h st b hb=>by
  have e:b=it:=by simpa using hb
  subst e;obtain⟨o,e,c,d⟩:=st;exact⟨o,e,fun v z=>by rw[d] at z;cases z⟩
 keep:=fun i h h' st k=>st.at fun o e=>k it (by simp) o e
 item:=by
  intro X hP hw hK hc i pins s σ H E I hf st hg;subst hP hw hK;obtain⟨xs,x,hq,hx⟩:=hg;obtain⟨its,rv,p,hz⟩:=I.tuple hq;obtain⟨u,hu,ru⟩:=rv.get hx;obtain⟨f0,f1,f2,f3,f4,f5⟩:=hf it (by simp)
  refine wpAny_pyNext_tuple_item st (show s.heap.IsTuple a its.toArray from p) (x:=u) (by simpa using hu) fun h' Jy sb=>?_
  have I1:Inv X pins σ H {s with heap:=h'}:=I.turned (t':=s.toks) (fun b o hb e=>(sb.2 b hb).trans e) f0 f1 f3 f4 f5
  obtain⟨o,e,c,d⟩:=id Jy;exact⟨u,rfl,DD (s:={s with heap:=h'}) e c d (by decide) ⟨x,H,I1,ru,⟨rfl,fun ys hy=>by rw[I.sO hy hq];exact hx⟩,Jy,fun b hb=>(hf b hb).1⟩⟩
 done:=by
  intro X hP hw hK hc i pins s σ H E I hf st hg;subst hP hw hK;obtain⟨xs,hq,hx⟩:=hg;obtain⟨its,rv,p,hz⟩:=I.tuple hq;obtain⟨f0,f1,f2,f3,f4,f5⟩:=hf it (by simp)
  have hl:=rv.length;exact wpAny_pyNext_tuple_end (I.ok.hd hc) st (show s.heap.IsTuple a its.toArray from p) (by simp;omega) fun h' eb=>⟨rfl,I.turned (t':=s.toks) (fun b o hb e=>eb b o hb e) f0 f1 f3 f4 f5⟩
 self:=fun _ _ _ _ _ st h=>wpAny_pyIter_tupleiter st h
theorem Cv{K:W.Frag}(it:Addr)(lo:Int)(n:Nat):Turn P w K tg (Qp lo n) [it] it (fun i h=>IsRangeIter h it (lo+(i:Nat)*1) ((n:Int) - (i:Nat)) 1) where
 mem:=by simp
 obj:=fun i h st b hb=>by
  have e:b=it:=by simpa using hb
  subst e;exact⟨_,st,fun v z=>by
   have z':Data.fields _=Data.cell v:=z;cases z'⟩
 keep:=fun i h h' st k=>k it (by simp) _ st
 item:=by
  intro X hP hw hK hc i pins s σ H E I hf st hg;subst hP hw hK;obtain⟨f0,f1,f2,f3,f4,f5⟩:=hf it (by simp)
  have W:=Walks.range (prog:=X.prog) (w:=X.w) (I.ok.hd hc) it lo 1 n;refine W.item i s _ _ hg st fun v h' tk hv Jy kk=>?_
  obtain⟨t,rfl⟩:=hv;have I1:Inv X pins σ H {s with heap:=h',toks:=tk}:=I.turned (fun b o hb e=>kk b o (by simpa using hb) e) f0 f1 f3 f4 f5
  refine⟨_,rfl,DD (s:={s with heap:=h',toks:=tk}) (n:="range_iterator") Jy rfl rfl (by decide) ⟨.int (lo+i),H,I1,⟨t,?_⟩,⟨rfl,rfl⟩,Jy,fun b hb=>(hf b hb).1⟩⟩
  rw[Int.mul_one]
 done:=by
  intro X hP hw hK hc i pins s σ H E I hf st hg;subst hP hw hK;obtain⟨f0,f1,f2,f3,f4,f5⟩:=hf it (by simp)
  exact wpAny_pyNext_range_end (I.ok.hd hc) st (by have:n<=i:=hg;omega) fun h' eb=>⟨rfl,I.turned (t':=s.toks) (fun b o hb e=>eb b o hb e) f0 f1 f3 f4 f5⟩
 self:=fun _ _ _ _ _ st h=>wpAny_pyIter_rangeiter st h
section
variable {X:Cx} {tg:Expr}
def U6(K:W.Frag)(tl:TE):TI:=fun σ H R=>tl σ H fun x H1=>∃a,x= .ref a/\(∃xs,pM K H1 a xs)/\R (VD K a) H1
def TM(K:W.Frag)(tl:TE):TI:=fun σ H R=>tl σ H fun x H1=>∃a,x= .ref a/\(∃xs,tM K H1 a xs)/\R (Vf K a) H1
theorem GP{pins:Zy}{σ:St}{H:Hp}{s:Shared}{R:It->Hp->Prop}{E:Zz}{lo hi:Int}{t u v:Tok}{tk:Nat}(I:Inv X pins σ H s)(h1: -(2 ^ 62)<=lo)(h2:lo < 2 ^ 62)(h3: -(2 ^ 62)<=hi)(h4:hi < 2 ^ 62)
 (q:R (Qp lo (hi - lo).toNat) H):wpAny (model X.prog X.w) X.A (pyIter (.ref s.heap.objs.size)) (VI X pins σ tg R) E {s with heap:=s.heap.push {cls:= .type "range",data:= .fields #[.int lo t, .int hi u, .int 1 v]},toks:=tk}:=by
 refine wpAny_pyIter_range (IsRange.new ..) (small_one h1 h2 h3 h4) ?_;have I1:Inv X pins σ H {s with heap:=s.heap.push {cls:= .type "range",data:= .fields #[.int lo t, .int hi u, .int 1 v]},toks:=tk}:=I.kept fun b o e=>Heap.get?_push_of_some _ e
 refine⟨(s.heap.push {cls:= .type "range",data:= .fields #[.int lo t, .int hi u, .int 1 v]}).objs.size,[(s.heap.push {cls:= .type "range",data:= .fields #[.int lo t, .int hi u, .int 1 v]}).objs.size],_,_,H,rfl,
  I1.kept (t':=tk) fun b o e=>Heap.get?_push_of_some _ e,Cv _ lo (hi - lo).toNat,?_,fun b hb=>?_,q⟩
 .have e1:lo+((0:Nat):Int)*1=lo:=by simp
  have e2:(((hi - lo).toNat:Nat):Int) - ((0:Nat):Int)=Builtin.Range.rangeSize lo hi 1:=by rw[rangeSize_one];split <;> omega
  show IsRangeIter _ _ (lo+((0:Nat):Int)*1) ((((hi - lo).toNat:Nat):Int) - ((0:Nat):Int)) 1;rw[e1,e2];exact Heap.get?_push_size _ rfl
 .have e:b=(s.heap.push {cls:= .type "range",data:= .fields #[.int lo t, .int hi u, .int 1 v]}).objs.size:=by simpa using hb
  subst e;exact I1.xl (Nat.le_refl _) (I1.hok.fresh (Nat.le_refl _))
def rm(ta:TA):TI:=fun σ H R=>ta σ H fun vs H1=>∃j:Int,vs=[.int j]/\ -(2 ^ 62)<=j/\j < 2 ^ 62/\R (Qp 0 j.toNat) H1
def Vc(ta:TA):TI:=fun σ H R=>ta σ H fun vs H1=>∃i j:Int,vs=[.int i, .int j]/\(-(2 ^ 62)<=i/\i < 2 ^ 62/\ -(2 ^ 62)<=j/\j < 2 ^ 62)/\R (Qp i (j - i).toNat) H1
theorem xJ{ta:TA}{p pos:Pos}(hg:Gl X "range")(hm:X.mg "range"=none)(ha:PA X [a] ta)(hs:starEach [a] X.env=[(false,eval a X.env)]:=by rfl):PI X tg (.Call (.Name "range" p) [a] [] pos) (rm ta):=by
 intro pins s σ H R I h;refine Call_ (qa I hg hm boot_range (PyProof.Rows.callWith_type1 (dY (ha pos pins s σ H _ I h) fun us s1 ⟨vs,H1,I1,r1,q1⟩=>?_) hs rfl))
 obtain⟨j,e,q1,q2,q⟩:=q1;subst e;cases r1 with
 | cons r rr=>
   cases rr;obtain⟨t,rfl⟩:=r;exact call_range_1 (GP I1 (by omega) (by omega) q1 q2 (by simpa using q))
def Sh(wi:TI)(g:TG)(tb:TS):TS:=fun D σ H=>wi σ H fun J H1=>∃W:Nat->Nat->St->Hp->Prop,(∃m,W 0 m σ H1)/\∀i m σ H,W i m σ H->
 (J.stop i H/\D.nx σ H)\/(J.go i H/\∃N:St->Hp->Prop,(∀dc H',N dc H'->∃m',m' < m/\W (i+1) m' dc H')/\∀x H',J.yld i H x H'->g x σ H' fun wo H2=>tb {D with nx:=N,ct:=N,bk:=D.nx} wo H2)
def pX(fp:List Addr)(h:Heap):Zy:=fp.filterMap fun b=>(h.get? b).map fun o=>(b,o)
theorem mH{fp:List Addr}{h:Heap}{b:Addr}{o:Obj}(hb:b∈fp)(e:h.get? b=some o):(b,o)∈pX fp h:=List.mem_filterMap.mpr ⟨b,hb,by rw[e];rfl⟩
theorem Ga{fp:List Addr}{h:Heap}{p:Addr × Obj}(hp:p∈pX fp h):p.1∈fp/\h.get? p.1=some p.2:=by
 obtain⟨b,hb,e⟩:=List.mem_filterMap.mp hp;cases q:h.get? b with
 | none=>rw [q] at e;cases e
 | some o=>
   rw[q] at e;have e':(b,o)=p:=Option.some.inj e;subst e';exact⟨hb,q⟩
theorem Inv.pinned{pins:Zy}{s:Shared}{fp:List Addr}(I:Inv X pins σ H s)(hf:∀b∈fp,t7 X pins H b)(ho:∀b∈fp,∃o,s.heap.get? b=some o/\∀v,o.data≠ .cell v):Inv X (pins++pX fp s.heap) σ H s:=
 I.DX fun p hp=>(List.mem_append.mp hp).elim (fun z=>I.pin p (List.mem_append_right _ z)) fun z=>by
  obtain⟨hb,e⟩:=Ga z;obtain⟨f0,f1,f2,_⟩:=hf p.1 hb;obtain⟨o,e',d⟩:=ho p.1 hb;rw[e] at e';cases e';exact⟨e,f0,f1,f2,d⟩
theorem Inv.rg{pins pl:Zy}{s:Shared}(I:Inv X (pins++pl) σ H s):Inv X pins σ H s:=I.DX fun p hp=>I.pin p (List.mem_append_right _ (List.mem_append_left _ hp))
theorem BS{iter:Expr}{body:List Stmt}{wi:TI}{g:TG}{tb:TS}{pos:Pos}(hp:PassesOwn (model X.prog X.w) X.A X.env X.xe)(hc:X.calm=true)(hi:PI X tg iter wi)(hg:PG X tg g)(hb:zc X body tb)
 (hs:∀x,foldedSetIterable iter X.env x=pure x:=by intro _;rfl):PS X (.For tg iter body [] pos) (Sh wi g tb):=by
 intro pins s σ H D I h;refine wpAny_For (dY (hi pins s σ H _ I h) fun v s1 h1=>dY h1 fun R6 s2 h2=>?_) hs
 obtain⟨it,fp,tn,J,H2,e,I2,T,JL,f2,W,⟨m0,w0⟩,turn⟩:=h2;subst e;have stat:∀{H':Hp},(∀b∈fp,H' b=none)->∀b∈fp,t7 X pins H' b:=fun hn b hb=>⟨hn b hb,(f2 b hb).2⟩
 refine codeAny_forLoop_any (fun n s'=>∃i dc H',Inv X pins dc H' s'/\tn i s'.heap/\(∀b∈fp,H' b=none)/\W i n dc H') ?_ m0 ⟨0,σ,H2,I2,JL,fun b hb=>(f2 b hb).1,w0⟩
 rintro n s3 ⟨i,Bz,H3,I3,LF,Rm,w3⟩;rcases turn i n Bz H3 w3 with⟨stop,qn⟩ | ⟨go,N,hN,step⟩
 .refine wpAny_passesOwn hp (dY (T.done X rfl rfl rfl hc i pins s3 Bz H3 X.xe I3 (stat Rm) LF stop) fun r s4 ⟨hr,I4⟩=>?_)
  subst hr;exact wpAny_execs_nil ⟨Bz,H3,I4,qn⟩
 .refine wpAny_passesOwn hp (dY (T.item X rfl rfl rfl hc i pins s3 Bz H3 X.xe I3 (stat Rm) LF go) fun r s4 ⟨u,hr,h4⟩=>?_)
  subst hr;refine wpAny_passesOwn hp (dY h4 fun _ s5 ⟨x,H5,I5,r5,y5,OL,U5⟩=>?_)
  have I5':=I5.pinned (stat U5) (T.obj _ _ OL);refine wpAny_passesOwn hp (dY (hg _ s5 Bz H5 x u _ I5' r5 (step x H5 y5)) fun _ s6 ⟨Q9,H6,I6,q6⟩=>?_)
  refine wpAny_passesOwn hp (dY (hb _ s6 Q9 H6 _ I6 q6) fun f s7 q7=>?_)
  have again:∀{Bx:St} {H7:Hp},Inv X (pins++pX fp s5.heap) Bx H7 s7->N Bx H7->∃m,m < n/\∃i dc H',Inv X pins dc H' s7/\tn i s7.heap/\(∀b∈fp,H' b=none)/\W i m dc H':=fun {Bx H7} I7 n7=>by
   obtain⟨m',hm,w7⟩:=hN Bx H7 n7;refine⟨m',hm,i+1,Bx,H7,I7.rg,T.keep _ _ _ OL fun b hb o e=>(I7.pin (b,o) (List.mem_append_right _ (List.mem_append_right _ (mH hb e)))).1,fun b hb=>?_,w7⟩
   obtain⟨o,e,d⟩:=T.obj _ _ OL b hb;exact(I7.pin (b,o) (List.mem_append_right _ (List.mem_append_right _ (mH hb e)))).2.1
  cases f with
  | next=>obtain⟨Bx,H7,I7,n7⟩:=q7;exact again I7 n7
  | cont=>obtain⟨Bx,H7,I7,n7⟩:=q7;exact again I7 n7
  | brk=>obtain⟨Bx,H7,I7,q7⟩:=q7;exact⟨Bx,H7,I7.rg,q7⟩
  | ret v=>obtain⟨x7,Bx,H7,I7,r7,q7⟩:=q7;exact⟨x7,Bx,H7,I7.rg,r7,q7⟩
end
abbrev R2:=V->V->Hp->VK->Prop
def mT(X:Cx)(f:Value->Value->Sem Value)(r:R2):Prop:=
 ∀(pins:Zy) (s:Shared) (σ:St) (H:Hp) (x y:V) (v u:Value) (Q:VK),Inv X pins σ H s->RelV x v->RelV y u->r x y H Q->
  wpAny (model X.prog X.w) X.A (f v u) (EP X pins σ Q) X.xe s
def Te(X:Cx)(f:Value->Sem Value)(r:V->Hp->VK->Prop):Prop:=
 ∀(pins:Zy) (s:Shared) (σ:St) (H:Hp) (x:V) (v:Value) (Q:VK),Inv X pins σ H s->RelV x v->r x H Q->
  wpAny (model X.prog X.w) X.A (f v) (EP X pins σ Q) X.xe s
def oz(X:Cx)(f:Value)(r:List V->Hp->VK->Prop):Prop:=
 ∀(pins:Zy) (s:Shared) (σ:St) (H:Hp) (xs:List V) (us:List Value) (Q:VK),Inv X pins σ H s->Vals xs us->r xs H Q->
  wpAny (model X.prog X.w) X.A (call f us) (EP X pins σ Q) X.xe s
def Su(X:Cx)(r:V->Hp->(Bool->Hp->Prop)->Prop):Prop:=
 ∀(pins:Zy) (s:Shared) (σ:St) (H:Hp) (x:V) (v:Value) (Q:Bool->Hp->Prop),Inv X pins σ H s->RelV x v->r x H Q->
  wpAny (model X.prog X.w) X.A (truthy v) (TP X pins σ Q) X.xe s
def O2(r:R2)(ta tb:TE):TE:=fun σ H Q=>ta σ H fun x H1=>tb σ H1 fun y H2=>r x y H2 Q
def Wg(r:V->Hp->VK->Prop)(ta:TE):TE:=fun σ H Q=>ta σ H fun x H1=>r x H1 Q
def rI(C:Int->Int->Prop)(g:Int->Int->V):R2:=fun x y H Q=>∃i j,x= .int i/\y= .int j/\C i j/\Q (g i j) H
def FP(g:Int->Int->V):R2:=fun x y H Q=>∃i j,x= .int i/\y= .int j/\Q (g i j) H
def rU(g:Int->V):V->Hp->VK->Prop:=fun x H Q=>∃i,x= .int i/\Q (g i) H
section
variable {X:Cx} {a b c:Expr} {ta tb tc:TE} {pos:Pos}
theorem Nk(ha:PE X a ta)(hb:PE X b tb){pins:Zy}{s:Shared}{σ:St}{H:Hp}{R:V->V->Hp->Prop}(I:Inv X pins σ H s)
 (h:ta σ H fun x H1=>tb σ H1 fun y H2=>R x y H2) {Q:Zz} {f:Value->Value->Sem Value}
 (hf:∀v u s2 x y H2,Inv X pins σ H2 s2->RelV x v->RelV y u->R x y H2->wpAny (model X.prog X.w) X.A (f v u) Q X.xe s2) :
 wpAny (model X.prog X.w) X.A (eval a X.env) (fun v s₁=>wpAny (model X.prog X.w) X.A (eval b X.env) (fun u OG=>wpAny (model X.prog X.w) X.A (f v u) Q X.xe OG) X.xe s₁) X.xe s:=by
 refine dY (ha pins s σ H _ I h) fun v s1 ⟨x,H1,I1,r1,q1⟩=>?_
 refine dY (hb pins s1 σ H1 _ I1 q1) fun u s2 ⟨y,H2,I2,r2,q2⟩=>?_
 exact hf v u s2 x y H2 I2 r1 r2 q2
theorem DY{op:Operator}{r:R2}(ho:mT X (binaryOp op) r)(ha:PE X a ta)(hb:PE X b tb):PE X (.BinOp a op b pos) (O2 r ta tb):=by
 intro pins s σ H Q I h;exact wpAny_BinOp (Nk ha hb I h fun v u s2 x y H2 I2 rx ry q=>ho pins s2 σ H2 x y v u Q I2 rx ry q)
theorem Qs{op:UnaryOp}{r:V->Hp->VK->Prop}(ho:Te X (unaryOp op) r)(ha:PE X a ta):PE X (.UnaryOp op a pos) (Wg r ta):=by
 intro pins s σ H Q I h;exact UnaryOp_ (dY (ha pins s σ H _ I h) fun v s1 ⟨x,H1,I1,r1,q1⟩=>ho pins s1 σ H1 x v Q I1 r1 q1)
theorem PY{f:Value->Value->Sem Value}{C:Int->Int->Prop}{g:Int->Int->Int}
 (rule:∀(i j:Int) (t u:Tok) (s:Shared) (Q:Zz) (E:Zz),C i j->Q (.int (g i j) s.toks) {s with toks:=s.toks+1}->wpAny (model X.prog X.w) X.A (f (.int i t) (.int j u)) Q E s) :
 mT X f (rI C fun i j=> .int (g i j)):=by
 intro pins s σ H x y v u Q I rx ry h;obtain⟨i,j,rfl,rfl,hc,q⟩:=h;obtain⟨t,rfl⟩:=rx;obtain⟨t',rfl⟩:=ry;exact rule i j t t' s _ _ hc ⟨.int (g i j),H,I.tok _,⟨_,rfl⟩,q⟩
theorem Hs{f:Value->Value->Sem Value}{g:Int->Int->Int}
 (rule:∀(i j:Int) (t u:Tok) (s:Shared) (Q:Zz) (E:Zz),Q (.int (g i j) s.toks) {s with toks:=s.toks+1}->wpAny (model X.prog X.w) X.A (f (.int i t) (.int j u)) Q E s) :
 mT X f (FP fun i j=> .int (g i j)):=by
 intro pins s σ H x y v u Q I rx ry h;obtain⟨i,j,rfl,rfl,q⟩:=h;obtain⟨t,rfl⟩:=rx;obtain⟨t',rfl⟩:=ry;exact rule i j t t' s _ _ ⟨.int (g i j),H,I.tok _,⟨_,rfl⟩,q⟩
theorem Ls{f:Value->Value->Sem Value}{g:Int->Int->Bool}
 (rule:∀(i j:Int) (t u:Tok) (s:Shared) (Q:Zz) (E:Zz),Q (.bool (g i j)) s->wpAny (model X.prog X.w) X.A (f (.int i t) (.int j u)) Q E s) :
 mT X f (FP fun i j=> .bl (g i j)):=by
 intro pins s σ H x y v u Q I rx ry h;obtain⟨i,j,rfl,rfl,q⟩:=h;obtain⟨t,rfl⟩:=rx;obtain⟨t',rfl⟩:=ry;exact rule i j t t' s _ _ ⟨.bl (g i j),H,I,rfl,q⟩
def SJ(i j:Int):Prop:=0 < j/\j < 1073741824
def Vl(i j:Int):Prop:=j≠0/\j.natAbs < 1073741824
def To(i j:Int):Prop:=0<=j/\j<=1000000/\i.natAbs < 2 ^ 64
def Nl(i j:Int):Prop:=(-(2 ^ 64) < i/\i < 2 ^ 64)\/(-(2 ^ 64) < j/\j < 2 ^ 64)
theorem Nl.ok{i j:Int}(h:Nl i j):IntMulOk i j:=by
 rcases h with⟨h1,h2⟩ | ⟨h1,h2⟩
 .exact .of_left (intBits_le_64 h1 h2)
 .exact .of_right (intBits_le_64 h1 h2)
theorem B_(k:Nat):(0:Int)<=2 ^ k:=by
 rw[two_pow_cast];exact Int.natCast_nonneg _
theorem Og:mT X (binaryOp .Add) (FP fun i j=> .int (i+j)):=Hs fun _ _ _ _ _ _ _ q=>add_int q
theorem Oa:mT X (binaryOp .Sub) (FP fun i j=> .int (i - j)):=Hs fun _ _ _ _ _ _ _ q=>sub_int q
theorem OB:mT X (binaryOp .Mult) (rI Nl fun i j=> .int (i*j)):=PY fun _ _ _ _ _ _ _ hc q=>mul_int q hc.ok
theorem KW:mT X (binaryOp .FloorDiv) (rI SJ fun i j=> .int (i / j)):=PY fun i j _ _ _ _ _ hc q=>by
 have h1:(0:Int) < j:=hc.1;have h2:j < 1073741824:=hc.2;exact floordiv_int (by omega) (by rw[Int.fdiv_eq_ediv_of_nonneg i (by omega)];exact q) (.inl (PyProof.noPylong_small (by omega)))
theorem NY:mT X (binaryOp .Mod) (rI (fun _ j=>0 < j) fun i j=> .int (i % j)):=PY fun i j _ _ _ _ _ hc q=>by
 have h1:(0:Int) < j:=hc;exact mod_int' (by omega) (by rw[Int.fmod_eq_emod_of_nonneg i (by omega)];exact q)
theorem NR:mT X (binaryOp .Pow) (rI To fun i j=> .int (i ^ j.toNat)):=PY fun _ _ _ _ _ _ _ hc q=>pow_int_small hc.1 hc.2.1 hc.2.2 q
theorem Nj:mT X (binaryOp .RShift) (rI (fun _ j=>0<=j) fun i j=> .int (i / 2 ^ j.toNat)):=PY fun i j _ _ _ _ _ hc q=>
 rshift_int hc (by rw[Int.fdiv_eq_ediv_of_nonneg i (B_ _)];exact q)
theorem N0:mT X (binaryOp .BitAnd) (FP fun i j=> .int (Builtin.bitAnd i j)):=Hs fun _ _ _ _ _ _ _ q=>and_int q
theorem P7:mT X (binaryOp .BitOr) (FP fun i j=> .int (Builtin.bitOr i j)):=Hs fun _ _ _ _ _ _ _ q=>or_int q
theorem MX:mT X (binaryOp .BitXor) (FP fun i j=> .int (Builtin.bitXor i j)):=Hs fun _ _ _ _ _ _ _ q=>xor_int q
theorem Wj{f:Value->Sem Value}{g:Int->Int}
 (rule:∀(i:Int) (t:Tok) (s:Shared) (Q:Zz) (E:Zz),Q (.int (g i) s.toks) {s with toks:=s.toks+1}->wpAny (model X.prog X.w) X.A (f (.int i t)) Q E s) :
 Te X f (rU fun i=> .int (g i)):=by
 intro pins s σ H x v Q I rx h;obtain⟨i,rfl,q⟩:=h;obtain⟨t,rfl⟩:=rx;exact rule i t s _ _ ⟨.int (g i),H,I.tok _,⟨_,rfl⟩,q⟩
theorem Nq:Te X (unaryOp .USub) (rU fun i=> .int (-i)):=Wj fun _ _ _ _ _ q=>neg_int q
end
def Ql:V->V->Bool
 | .cH, .cH=>true | .cH, .int _=>true | .int _, .cH=>true | .cH, .bl _=>true | .bl _, .cH=>true | .cH, .str _=>true | .str _, .cH=>true
 | .int _, .int _=>true | .bl _, .bl _=>true | .str _, .str _=>true | .byt _, .byt _=>true
 | .int _, .str _=>true | .str _, .int _=>true | .bl _, .str _=>true | .str _, .bl _=>true
 | _,_=>false
def WT:R2:=fun x y H Q=>Ql x y=true/\Q (.bl (decide (x=y))) H
def Xc:R2:=fun x y H Q=>Ql x y=true/\Q (.bl (!decide (x=y))) H
theorem Dx{i j:Int}:decide (V.int i=V.int j)=(i==j):=by
 rw[Bool.eq_iff_iff];simp
theorem HU{i j:Bool}:decide (V.bl i=V.bl j)=(i==j):=by
 rw[Bool.eq_iff_iff];simp
theorem Ek:decide (V.str i=V.str j)=(i==j):=by
 rw[Bool.eq_iff_iff];simp
theorem En{i j:Array UInt8}:decide (V.byt i=V.byt j)=(i.toList==j.toList):=by
 rw[Bool.eq_iff_iff];cases i;cases j;simp
section
variable {X:Cx} {a b c:Expr} {ta tb tc:TE} {pos:Pos}
theorem cb{pins:Zy}{s:Shared}{Q:VK}{k k':Bool}(I:Inv X pins σ H s)(q:Q (.bl k) H)(e:k=k'):EP X pins σ Q (.bool k') s:=by
 subst e;exact⟨.bl k,H,I,rfl,q⟩
theorem Gs:mT X (compareOp .Eq) WT:=by
 intro pins s σ H x y v u Q I rx ry h;obtain⟨hs,q⟩:=h;cases x with
 | cH=>
   cases rx;cases y with
   | cH=>cases ry;exact PySem.EqNone.eq_none_none (cb I q (by simp))
   | bl j=>cases ry;exact PySem.EqNone.eq_none_bool (cb I q (by simp))
   | int j=>obtain⟨t',rfl⟩:=ry;exact PySem.EqNone.eq_none_int (cb I q (by simp))
   | str j=>obtain⟨t',rfl⟩:=ry;exact PySem.EqNone.eq_none_str (cb I q (by simp))
   | _=>exact absurd (show false=true from hs) Bool.false_ne_true
 | bl i=>
   cases rx;cases y with
   | cH=>cases ry;exact PySem.EqNone.eq_bool_none (cb I q (by simp))
   | bl j=>cases ry;exact eq_bool (cb I q HU)
   | str j=>obtain⟨t',rfl⟩:=ry;exact PySem.EqMixed.eq_bool_str (cb I q (by simp))
   | _=>exact absurd (show false=true from hs) Bool.false_ne_true
 | int i=>
   obtain⟨t,rfl⟩:=rx;cases y with
   | cH=>cases ry;exact PySem.EqNone.eq_int_none (cb I q (by simp))
   | int j=>obtain⟨t',rfl⟩:=ry;exact eq_int (cb I q Dx)
   | str j=>obtain⟨t',rfl⟩:=ry;exact PySem.EqMixed.eq_int_str (cb I q (by simp))
   | _=>exact absurd (show false=true from hs) Bool.false_ne_true
 | str i=>
   obtain⟨t,rfl⟩:=rx;cases y with
   | cH=>cases ry;exact PySem.EqNone.eq_str_none (cb I q (by simp))
   | bl j=>cases ry;exact PySem.EqMixed.eq_str_bool (cb I q (by simp))
   | int j=>obtain⟨t',rfl⟩:=ry;exact PySem.EqMixed.eq_str_int (cb I q (by simp))
   | str j=>obtain⟨t',rfl⟩:=ry;exact eq_str (cb I q Ek)
   | _=>exact absurd (show false=true from hs) Bool.false_ne_true
 | byt i=>
   obtain⟨t,rfl⟩:=rx;cases y with
   | byt j=>obtain⟨t',rfl⟩:=ry;exact PySem.W.eq_bytes (cb I q En)
   | _=>exact absurd (show false=true from hs) Bool.false_ne_true
 | _=>cases y <;> exact absurd (show false=true from hs) Bool.false_ne_true
theorem HB:mT X (compareOp .NotEq) Xc:=by
 intro pins s σ H x y v u Q I rx ry h;obtain⟨hs,q⟩:=h;cases x with
 | cH=>
   cases rx;cases y with
   | cH=>cases ry;exact PySem.EqNone.ne_none_none (cb I q (by simp))
   | bl j=>cases ry;exact PySem.EqNone.ne_none_bool (cb I q (by simp))
   | int j=>obtain⟨t',rfl⟩:=ry;exact PySem.EqNone.ne_none_int (cb I q (by simp))
   | str j=>obtain⟨t',rfl⟩:=ry;exact PySem.EqNone.ne_none_str (cb I q (by simp))
   | _=>exact absurd (show false=true from hs) Bool.false_ne_true
 | bl i=>
   cases rx;cases y with
   | cH=>cases ry;exact PySem.EqNone.ne_bool_none (cb I q (by simp))
   | bl j=>cases ry;exact ne_bool (cb I q (congrArg not HU))
   | str j=>obtain⟨t',rfl⟩:=ry;exact PySem.EqMixed.ne_bool_str (cb I q (by simp))
   | _=>exact absurd (show false=true from hs) Bool.false_ne_true
 | int i=>
   obtain⟨t,rfl⟩:=rx;cases y with
   | cH=>cases ry;exact PySem.EqNone.ne_int_none (cb I q (by simp))
   | int j=>obtain⟨t',rfl⟩:=ry;exact ne_int (cb I q (congrArg not Dx))
   | str j=>obtain⟨t',rfl⟩:=ry;exact PySem.EqMixed.ne_int_str (cb I q (by simp))
   | _=>exact absurd (show false=true from hs) Bool.false_ne_true
 | str i=>
   obtain⟨t,rfl⟩:=rx;cases y with
   | cH=>cases ry;exact PySem.EqNone.ne_str_none (cb I q (by simp))
   | bl j=>cases ry;exact PySem.EqMixed.ne_str_bool (cb I q (by simp))
   | int j=>obtain⟨t',rfl⟩:=ry;exact PySem.EqMixed.ne_str_int (cb I q (by simp))
   | str j=>obtain⟨t',rfl⟩:=ry;exact ne_str (cb I q (congrArg not Ek))
   | _=>exact absurd (show false=true from hs) Bool.false_ne_true
 | byt i=>
   obtain⟨t,rfl⟩:=rx;cases y with
   | byt j=>obtain⟨t',rfl⟩:=ry;exact PySem.W.ne_bytes (cb I q (congrArg not En))
   | _=>exact absurd (show false=true from hs) Bool.false_ne_true
 | _=>cases y <;> exact absurd (show false=true from hs) Bool.false_ne_true
theorem Q0:mT X (compareOp .Lt) (FP fun i j=> .bl (decide (i < j))):=Ls fun _ _ _ _ _ _ _ q=>lt_int q
theorem PF:mT X (compareOp .LtE) (FP fun i j=> .bl (decide (i<=j))):=Ls fun _ _ _ _ _ _ _ q=>le_int q
theorem QH:mT X (compareOp .Gt) (FP fun i j=> .bl (decide (j < i))):=Ls fun _ _ _ _ _ _ _ q=>gt_int q
theorem QI:mT X (compareOp .GtE) (FP fun i j=> .bl (decide (j<=i))):=Ls fun _ _ _ _ _ _ _ q=>ge_int q
theorem FH:mT X (compareOp .In) (fun x y H Q=>∃i j,x= .str i/\y= .str j/\Q (.bl (!(Builtin.Str.occurrences j i 0 j.length 1).isEmpty)) H):=by
 intro pins s σ H x y v u Q I rx ry h;obtain⟨i,j,rfl,rfl,q⟩:=h;obtain⟨t,rfl⟩:=rx;obtain⟨t',rfl⟩:=ry;exact in_str (cb I q rfl)
theorem My:mT X (compareOp .Is) (fun x y H Q=>y= .cH/\Q (.bl (decide (x= .cH))) H):=by
 intro pins s σ H x y v u Q I rx ry h;obtain⟨rfl,q⟩:=h;cases ry;refine is_none_gen (cb I q ?_);cases x <;> first
  | (cases rx;rfl)
  | (obtain⟨t,rfl⟩:=rx;rfl)
theorem Kw:mT X (compareOp .IsNot) (fun x y H Q=>y= .cH/\Q (.bl (!decide (x= .cH))) H):=by
 intro pins s σ H x y v u Q I rx ry h;obtain⟨rfl,q⟩:=h;cases ry;refine isnot_none_gen (cb I q ?_);cases x <;> first
  | (cases rx;rfl)
  | (obtain⟨t,rfl⟩:=rx;rfl)
theorem yy:mT X (compareOp .NotIn) (fun x y H Q=>∃i j,x= .str i/\y= .str j/\Q (.bl (!(!(Builtin.Str.occurrences j i 0 j.length 1).isEmpty))) H):=by
 intro pins s σ H x y v u Q I rx ry h;obtain⟨i,j,rfl,rfl,q⟩:=h;obtain⟨t,rfl⟩:=rx;obtain⟨t',rfl⟩:=ry;exact notIn_str (cb I q rfl)
def isObj:HO->Bool
 | .lst _=>true
 | .ins _ _ _=>true
 | _=>false
theorem bw(b:Expr){op:CmpOp}(h:op≠ .In:=by decide)(h2:op≠ .NotIn:=by decide):behindInMarks op b=false:=by
 have e1:(op==CmpOp.In)=false:=by cases op <;> first | rfl | exact absurd rfl h
 have e2:(op==CmpOp.NotIn)=false:=by cases op <;> first | rfl | exact absurd rfl h2
 cases b <;> simp [behindInMarks,e1,e2]
theorem Dv{op:CmpOp}{r:R2}(ho:mT X (compareOp op) r)(ha:PE X a ta)(hb:PE X b tb)(hm:behindInMarks op b=false):PE X (.Compare a [op] [b] pos) (O2 r ta tb):=by
 intro pins s σ H Q I h;exact wpAny_Compare1 (Nk ha hb I h fun v u s2 x y H2 I2 rx ry q=>ho pins s2 σ H2 x y v u Q I2 rx ry q) hm
def Po(t:TE):TT:=fun σ H Q=>t σ H fun x H'=>∃k,x= .bl k/\Q k H'
theorem EC{op:CmpOp}{r:R2}(ho:mT X (compareOp op) r)(ha:PE X a ta)(hb:PE X b tb)(hm:behindInMarks op b=false):PT X (.Compare a [op] [b] pos) (Po (O2 r ta tb)):=by
 intro pins s σ H Q I h;refine wpAny_isTrue_Compare1 (dY (ha pins s σ H _ I h) fun v s1 ⟨x,H1,I1,r1,q1⟩=>dY (hb pins s1 σ H1 _ I1 q1) fun u s2 ⟨y,H2,I2,r2,q2⟩=>
  dY (ho pins s2 σ H2 x y v u _ I2 r1 r2 q2) fun c s3 ⟨z,H3,I3,r3,k,e,q3⟩=>?_) hm
 subst e;cases r3;exact wpAny_truthy_bool ⟨H3,I3,q3⟩
def T4(r r':R2)(ta tb tc:TE):TE:=fun σ H Q=>ta σ H fun x H1=>tb σ H1 fun y H2=>r x y H2 fun z H3=>∃k,z= .bl k/\
 (if k=true then tc σ H3 fun w' H4=>r' y w' H4 Q else Q (.bl false) H3)
def Lk(K:W.Frag)(x:V)(H:Hp)(k:Bool):Prop:=
 match x with
 | .cH=>k=false
 | .bl b=>k=b
 | .int i=>k=(i !=0)
 | .str y=>y.length<=sizeLine/\k=((y.length:Int) !=0)
 | .byt y=>y.size<=sizeLine/\k=((y.size:Int) !=0)
 | .ref p=>(∃xs,pM K H p xs/\k=!xs.isEmpty)\/(∃xs,tM K H p xs/\k=!xs.isEmpty)\/∃kvs,H p=some (.dK kvs)/\k=!kvs.isEmpty
 | _=>False
theorem BN{κ:Type}{kvs:List (κ × V)}{vs:List (κ × Value)}(r:KV kvs vs):(!vs.isEmpty)=!kvs.isEmpty:=by
 cases r <;> rfl
theorem v_{xs:List V}{its:List Value}(r:Vals xs its):(!its.toArray.isEmpty)=!xs.isEmpty:=by
 cases r <;> simp
theorem sj:(sizeLine:Nat) < 2 ^ 63:=by rw[sizeLine_eq];decide
theorem Oo:Su X (fun x H Q=>∃k,Lk X.K x H k/\Q k H):=by
 intro pins s σ H x v Q I rx h;obtain⟨k,e,q⟩:=h;have hl:=sj;have hs:sizeLine=16777216:=sizeLine_eq;cases x with
 | cH=>
   cases rx;have e':k=false:=e;subst e';exact truthy_none ⟨H,I,q⟩
 | bl b=>
   cases rx;have e':k=b:=e;subst e';exact wpAny_truthy_bool ⟨H,I,q⟩
 | int i=>
   obtain⟨t,rfl⟩:=rx;have e':k=(i !=0):=e;subst e';exact PySem.P.truthy_int ⟨H,I,q⟩
 | str y=>
   obtain⟨t,rfl⟩:=rx;obtain⟨hy,e'⟩:y.length<=sizeLine/\k=((y.length:Int) !=0):=e;subst e';exact PySem.P.truthy_str (by omega) ⟨H,I.tok _,q⟩
 | byt y=>
   obtain⟨t,rfl⟩:=rx;obtain⟨hy,e'⟩:y.size<=sizeLine/\k=((y.size:Int) !=0):=e;subst e';exact PySem.W.truthy_bytes (by omega) ⟨H,I.tok _,q⟩
 | ref p=>
   cases rx;have e':(∃xs,pM X.K H p xs/\k=!xs.isEmpty)\/(∃xs,tM X.K H p xs/\k=!xs.isEmpty)\/∃kvs,H p=some (.dK kvs)/\k=!kvs.isEmpty:=e;rcases e' with⟨xs,hx,e'⟩ | ⟨xs,hx,e'⟩ | ⟨kvs,hx,e'⟩
   .subst e';obtain⟨its,r,pl,hz⟩:=I.list hx;have hlen:=r.length;exact wpAny_truthy_list pl.isList (by simp only[List.size_toArray];omega) ⟨H,I.tok _,by rw[v_ r];exact q⟩
   .subst e';obtain⟨its,r,pl,hz⟩:=I.tuple hx;have hlen:=r.length;exact truthy_tuple pl (by simp only[List.size_toArray];omega) ⟨H,I.tok _,by rw[v_ r];exact q⟩
   .subst e';obtain⟨hz,hS,vs,r,m⟩:kvs.length<=sizeLine/\(p==sysModules)=false/\∃vs,KV kvs vs/\s.heap.DictOf (cU X.prog X.w) p vs:=I.hok p _ hx;have hlen:kvs.length=vs.length:=Paired.length r;exact wpAny_truthy_dict hS m (by omega) ⟨H,I.tok _,by rw[BN r];exact q⟩
 | _=>exact(show False from e).elim
theorem Ao(ha:PE X a ta)(he:∀whole,isTrue a X.env whole=(do let v <-whole;standAt a.pos;holding [v] (truthy v))) :
 PT X a (fun σ H Q=>ta σ H fun x H'=>∃k,Lk X.K x H' k/\Q k H'):=by
 intro pins s σ H Q I h;exact isTrue_plain (dY (ha pins s σ H _ I h) fun v s1 ⟨x,H1,I1,r1,q1⟩=>Oo pins s1 σ H1 x v Q I1 r1 q1) (he _)
theorem CC:mT X (binaryOp .Add) (fun x y H Q=>∃i j,x= .str i/\y= .str j/\i.length+j.length<=sizeLine/\Q (.str (i++j)) H):=by
 intro pins s σ H x y v u Q I rx ry h;obtain⟨i,j,rfl,rfl,hz,q⟩:=h;obtain⟨t,rfl⟩:=rx;obtain⟨t',rfl⟩:=ry;exact add_str (fun t' tk=>⟨.str (i++j),H,I.tok _,⟨_,rfl⟩,q⟩) hz
def Qb(b:Expr):Prop:=∀o i,subscripted b false o i=operate [o,i] (getItem o i)
theorem vals1{x:V}{us:List Value}(r:Vals [x] us):∃u,us=[u]/\RelV x u:=by
 cases r with
 | cons r1 r2=>cases r2;exact⟨_,rfl,r1⟩
theorem vals2{x y:V}{us:List Value}(r:Vals [x,y] us):∃u w',us=[u,w']/\RelV x u/\RelV y w':=by
 cases r with
 | cons r1 r2=>
   cases r2 with
   | cons r3 r4=>cases r4;exact⟨_,_,rfl,r1,r3⟩
theorem Ft(hc:X.calm=true):oz X (.builtin "min") (fun xs H Q=>∃i j,xs=[.int i, .int j]/\Q (.int (if j < i then j else i)) H):=by
 intro pins s σ H xs us Q I r h;obtain⟨i,j,rfl,q⟩:=h;obtain⟨u,w',rfl,⟨t,rfl⟩,⟨t',rfl⟩⟩:=vals2 r;refine min_two_ints (I.ok.hd hc) fun h' tk k=>⟨_,H,I.kept k,?_,q⟩
 by_cases hj:j < i
 .rw [if_pos hj,if_pos hj];exact⟨_,rfl⟩
 .rw [if_neg hj,if_neg hj];exact⟨_,rfl⟩
theorem EX:oz X (.type "int") (fun xs H Q=>(∃i,xs=[.int i]/\Q (.int i) H)\/∃k,xs=[.bl k]/\Q (.int (if k then 1 else 0)) H):=by
 intro pins s σ H xs us Q I r h;rcases h with⟨i,rfl,q⟩ | ⟨k,rfl,q⟩
 .obtain⟨u,rfl,t,rfl⟩:=vals1 r;exact call_int_int ⟨.int i,H,I,⟨_,rfl⟩,q⟩
 .obtain⟨u,rfl,r1⟩:=vals1 r;cases r1;exact call_int_bool ⟨.int (if k then 1 else 0),H,I.tok _,⟨_,rfl⟩,q⟩
def Se(K:W.Frag)(x:V)(H:Hp)(n:Nat):Prop:=
 match x with
 | .str y=>y.length<=sizeLine/\n=y.length
 | .byt y=>y.size<=sizeLine/\n=y.size
 | .ref p=>(∃xs,pM K H p xs/\n=xs.length)\/∃xs,tM K H p xs/\n=xs.length
 | _=>False
theorem Ja:oz X (.builtin "len") (fun xs H Q=>∃x n,xs=[x]/\Se X.K x H n/\Q (.int n) H):=by
 intro pins s σ H xs us Q I r h;obtain⟨x,n,rfl,e,q⟩:=h;obtain⟨u,rfl,rx⟩:=vals1 r;have hl:=sj;have hs:sizeLine=16777216:=sizeLine_eq;cases x with
 | str y=>
   obtain⟨t,rfl⟩:=rx;obtain⟨hy,e'⟩:y.length<=sizeLine/\n=y.length:=e;subst e';exact len_str (by omega) ⟨.int _,H,I.tok _,⟨_,rfl⟩,q⟩
 | byt y=>
   obtain⟨t,rfl⟩:=rx;obtain⟨hy,e'⟩:y.size<=sizeLine/\n=y.size:=e;subst e';exact PySem.W.len_bytes (by omega) ⟨.int _,H,I.tok _,⟨_,rfl⟩,q⟩
 | ref p=>
   cases rx;have e':(∃xs,pM X.K H p xs/\n=xs.length)\/∃xs,tM X.K H p xs/\n=xs.length:=e;rcases e' with⟨xs,hx,e'⟩ | ⟨xs,hx,e'⟩
   .subst e';obtain⟨its,r',pl,hz⟩:=I.list hx;have hlen:=r'.length;exact Calls.call_len_list pl.isList (by simp only[List.size_toArray];omega) ⟨.int xs.length,H,I.tok _,⟨_,by simp only[List.size_toArray];rw [hlen]⟩,q⟩
   .subst e';obtain⟨its,r',pl,hz⟩:=I.tuple hx;have hlen:=r'.length;exact len_tuple pl (by simp only[List.size_toArray];omega) ⟨.int xs.length,H,I.tok _,⟨_,by simp only[List.size_toArray];rw [hlen]⟩,q⟩
 | _=>exact(show False from e).elim
end
structure BV (h:Heap) (x dx C:Addr) (mA:ZE):Prop where
 obj:h.get? x=some (PySem.W.instObj C dx)
 ns:h.Ns1 dx mA
 ne:dx≠x
theorem Fj{h:Heap}{dx:Addr}{mA:ZE}(n:h.Ns1 dx mA):∃od,h.get? dx=some od/\∀name,PySem.W.lookIn name od=some (mA name):=by
 obtain⟨o,es,ep,ho,hd,hk,_,hm⟩:=n;refine⟨o,ho,fun name=>?_⟩
 have e:=hm name;unfold nsFind findBy at e;rw[<-Array.find?_toList] at e;unfold PySem.W.lookIn;rw[hd];dsimp only;split
 .rename_i y q;rw[q] at e;exact congrArg some e
 .rename_i q;rw[q] at e;have a:es.toList.any (·.refKey)=false:=by
   rw[List.any_eq_false];intro y hy;obtain⟨z,t,hkey⟩:=hk y (Array.mem_toList_iff.mp hy);simp [DictEntry.refKey,hkey]
  have a':¬es.toList.any (·.refKey)=true:=by rw[a];exact Bool.false_ne_true
  rw[if_neg a'];exact congrArg some e
theorem BV.look{x dx C:Addr}{mA:ZE}(I:BV h x dx C mA):∃od,PySem.W.InstAt h x (PySem.W.instObj C dx) C (some od)/\∀name,PySem.W.lookIn name od=some (mA name):=
 let⟨od,ho,hl⟩:=Fj I.ns
 ⟨od,⟨I.obj,rfl,rfl,ho⟩,hl⟩
section
variable {prog:Program} {w:World} {A:Around} {E:Zz} {s:Shared} {K:W.Frag} {x dx C f:Addr} {mA:ZE} {name:Str} {v:Value}
theorem get_map{expr:Bool}{Q:Zz}(X:K.In s.heap)(I:BV s.heap x dx C mA)(hg:PySem.W.plainGet K C name=true)(hh:PySem.W.hasDictIn K C=true)
 (ha:PySem.W.findIn K (.ref C) name=some none) (hv:mA name=some v) (T_:PySem.W.handedIn v=true) (h:Q v {s with toks:=s.toks+1}) :
 wpAny (model prog w) A (getAttr (.ref x) name expr) Q E s:=by
 obtain⟨od,J,hl⟩:=I.look;exact PySem.W.get_value X J (PySem.W.plainGet_of hg).1 (PySem.W.findObj_own hh ha rfl (by rw[hl,hv])) T_ h
theorem HY{pl:Sem Bool}{Q:Value × List Value->Shared->Prop}(X:K.In s.heap)(I:BV s.heap x dx C mA)(hg:PySem.W.plainGet K C name=true)
 (hf:PySem.W.findIn K (.ref C) name=some (some (.ref f))) (ht:PySem.W.isFn K (.ref f)=true) (hv:mA name=none) (h:Q (.ref f,[.ref x]) s) :
 wpAny (model prog w) A (getMethod (.ref x) name pl) Q E s:=by
 obtain⟨od,J,hl⟩:=I.look;exact PySem.W.method_fn X J (PySem.W.plainGet_of hg).1 (PySem.W.plainGet_of hg).2 hf (beq_iff_eq.mp ht) (by show(PySem.W.lookIn name od).map (·.isSome)=some false;rw [hl,hv];rfl) h
theorem KQ{ns:List Str}{Q:Unit->Shared->Prop}(X:K.In s.heap)(I:BV s.heap x dx C mA)
 (hs:PySem.W.findIn K (.ref C) "__setattr__"=some (some (.builtin "object.__setattr__"))) (hp:PySem.W.plainOver K C=true) (ht:PySem.W.takerIn K C name=some none) (hh:PySem.W.hasDictIn K C=true)
 (hw:PySem.Within mA ns) (hsz:ns.length<=sizeLine)
 (h:∀h',BV h' x dx C (fun y=>if y=name then some v else mA y)->Heap.SameBut dx s.heap h'->Q () {s with heap:=h',toks:=s.toks+2}) :
 wpAny (model prog w) A (setAttr (.ref x) name v) Q E s:=by
 obtain⟨od,J,hl⟩:=I.look;refine PySem.W.set_plain X J hs (PySem.W.osa_open (s:={s with toks:=s.toks+1}) (r:=none) X J hp ht fun b=>?_)
 obtain⟨cd,hc,R5⟩:=PySem.W.any_some hh;have hx:s.heap.get? x=some ⟨.ref C,some dx, .plain,#[]⟩:=I.obj;refine wpAny_bind (wpAny_pure (wpAny_bind (wpAny_bind (wpAny_loadPart hx (wpAny_bind (PySem.W.Looks.here (s:={s with toks:=s.toks+1}) (PySem.W.looks_clsIn X hc) ?_))))))
 rw[R5];refine wpAny_pure (a:=some dx) (wpAny_bind (wpAny_pure (wpAny_bind ?_)));refine wpAny_nsSet1 (s:={s with toks:=s.toks+1}) I.ns fun h' R9 OS=>?_
 obtain⟨oD,esD,epD,hoD,hdD,hcD⟩:=R9.count (PySem.Within.cons name v hw);refine wpAny_bind (wpAny_lookBehind hoD (by rw[hdD];exact pastItsLine_dict (Nat.le_trans hcD (by rw[List.length_cons];omega))) ?_)
 exact wpAny_pure (h _ ⟨(OS.2 _ (Ne.symm I.ne)).trans I.obj,R9,I.ne⟩ OS)
theorem Jc{R:Result->Shared->Prop}{vs:List Value}{kw:List (Str × Value)}(X:K.In s.heap)(hm:PySem.W.makesIn K C=true)
 (hi:PySem.W.findIn K (.ref C) "__init__"=some (some (.ref f))) (hf:PySem.W.typeIn K (.ref f)=some (.type "function"))
 (h:codeAny (model prog w) (A.under (.builtin "type.__call__" ⟨.ref C ::vs,kw⟩)) (.call (.ref f) ⟨.ref (s.heap.objs.size+1) ::vs,kw⟩) (PySem.W.InitBack (s.heap.objs.size+1) R)
   {s with heap:=(s.heap.push PySem.W.emptyDict).push (PySem.W.instObj C s.heap.objs.size)}) :
 codeAny (model prog w) A (.call (.ref C) ⟨vs,kw⟩) R s:=by
 obtain⟨hh,g,d,t,os⟩:=s;exact PySem.W.make_core (PySem.W.makes_of X hm) (PySem.W.looks_findIn X hi) (fun self=>PySem.W.bind_fn X self hf) (.inl rfl) h
end
def lr(f:Str)(v:V):List (Str × V)->List (Str × V)
 | []=>[(f,v)]
 | (g,x) ::r=>if g=f then(g,v) ::r else(g,x) ::lr f v r
theorem tS(f g:Str)(v:V):∀fs:List (Str × V),(lr f v fs).lookup g=if g=f then some v else fs.lookup g
 | []=>by
   show List.lookup g [(f,v)]=_;by_cases h:g=f
   .have hb:(g==f)=true:=beq_iff_eq.mpr h;simp only[List.lookup,hb,if_pos h]
   .have hb:(g==f)=false:=beq_eq_false_iff_ne.mpr h;simp only[List.lookup,hb,if_neg h]
 | (k,x) ::r=>by
   have ih:=tS f g v r;rw[show lr f v ((k,x) ::r)=(if k=f then(k,v) ::r else(k,x) ::lr f v r) from rfl]
   by_cases hk:k=f
   .rw [if_pos hk];by_cases h:g=k
    .have hb:(g==k)=true:=beq_iff_eq.mpr h;simp only[List.lookup,hb,if_pos (h.trans hk)]
    .have hb:(g==k)=false:=beq_eq_false_iff_ne.mpr h;simp only[List.lookup,hb,if_neg (fun e:g=f=>h (e.trans hk.symm))]
   .rw [if_neg hk];by_cases h:g=k
    .have hb:(g==k)=true:=beq_iff_eq.mpr h;simp only[List.lookup,hb,if_neg (fun e:g=f=>hk (h.symm.trans e))]
    .have hb:(g==k)=false:=beq_eq_false_iff_ne.mpr h;simp only[List.lookup,hb];exact ih
theorem sF(f:Str)(v:V):∀fs:List (Str × V),f∈(lr f v fs).map (·.1)/\∀g,g∈fs.map (·.1)->g∈(lr f v fs).map (·.1)
 | []=>⟨by simp [lr],fun g h=>by simp at h⟩
 | (k,x) ::r=>by
   obtain⟨i1,i2⟩:=sF f v r;rw[show lr f v ((k,x) ::r)=(if k=f then(k,v) ::r else(k,x) ::lr f v r) from rfl]
   by_cases hk:k=f
   .rw [if_pos hk];subst hk;exact⟨by simp,fun g h=>by simpa using h⟩
   .rw [if_neg hk];refine⟨?_,fun g h=>?_⟩
    .rw [List.map_cons];exact List.mem_cons_of_mem _ i1
    .rw [List.map_cons] at h ⊢;rcases List.mem_cons.mp h with e | e
     .exact List.mem_cons.mpr (.inl e)
     .exact List.mem_cons_of_mem _ (i2 g e)
theorem tT(f:Str)(v:V):∀fs:List (Str × V),(lr f v fs).length<=fs.length+1
 | []=>by simp [lr]
 | (k,x) ::r=>by
   have ih:=tT f v r;rw[show lr f v ((k,x) ::r)=(if k=f then(k,v) ::r else(k,x) ::lr f v r) from rfl]
   by_cases hk:k=f
   .rw [if_pos hk,List.length_cons,List.length_cons];omega
   .rw [if_neg hk,List.length_cons,List.length_cons];omega
theorem pC.some_of{v:V}{o:Option Value}(r:pC (some v) o):∃u,o=some u/\RelV v u:=by
 cases o with
 | none=>exact(show False from r).elim
 | some u=>exact⟨u,rfl,r⟩
theorem pC.none_of{o:Option Value}(r:pC none o):o=none:=by
 cases o with
 | none=>rfl
 | some u=>exact(show False from r).elim
theorem ET{v:V}{u:Value}(r:RelV v u):PySem.W.handedIn u=true:=by
 cases v with
 | cH=>cases(show u=Value.none from r);rfl
 | bl b=>cases(show u=Value.bool b from r);rfl
 | int i=>obtain⟨t,e⟩:=(show ∃t,u=Value.int i t from r);cases e;rfl
 | str x=>obtain⟨t,e⟩:=(show ∃t,u=Value.str x t from r);cases e;rfl
 | byt b=>obtain⟨t,e⟩:=(show ∃t,u=Value.bytes b t from r);cases e;rfl
 | flt b=>obtain⟨t,e⟩:=(show ∃t,u=Value.float b t from r);cases e;rfl
 | ref a=>cases(show u=Value.ref a from r);rfl
 | ty n=>cases(show u=Value.type n from r);rfl
section
variable {P:Program} {w:World} {H H':Hp} {h h':Heap} {a C dx:Addr} {fs Pf:List (Str × V)}
theorem zr(hok:pF P w H h)(e:H a=some (.ins C dx fs)):∃mA,BV h a dx C mA/\(∀f,pC (fs.lookup f) (mA f))/\PySem.Within mA (fs.map (·.1))/\fs.length<=1000/\H dx=some (.own a):=by
 obtain⟨d,z,ne,ob,mA,n,r,q⟩:=(show e_ P w H h a (.ins C dx fs) from hok a _ e)
 exact⟨mA,⟨ob,n,ne⟩,r,q,z,d⟩
end
structure zD (K:W.Frag) (C:Addr):Prop where
 pg:PySem.W.plainGet K C Str.empty=true
 hd:PySem.W.hasDictIn K C=true
 po:PySem.W.plainOver K C=true
 sa:PySem.W.findIn K (.ref C) "__setattr__"=some (some (.builtin "object.__setattr__"))
theorem zD.get{K:W.Frag}{C:Addr}(c:zD K C)(f:Str):PySem.W.plainGet K C f=true:=c.pg
def dw(K:W.Frag)(C:Addr)(f:Str):Prop:=PySem.W.findIn K (.ref C) f=some none
theorem dw.P2{K:W.Frag}{C:Addr}(n:dw K C f):PySem.W.takerIn K C f=some none:=by
 unfold PySem.W.takerIn;rw[show PySem.W.findIn K (.ref C) f=some none from n]
 rfl
structure Xi (K:W.Frag) (C:Addr) (f:Str) (v:V) (u:Value):Prop where
 at_:PySem.W.findIn K (.ref C) f=some (some u)
 rel:RelV v u
 get:PySem.W.specialIn K u "__get__"=some none
 cp:PySem.W.copiedNames.contains f=false
structure Meth (K:W.Frag) (C:Addr) (m:Str) (f:Addr):Prop where
 at_:PySem.W.findIn K (.ref C) m=some (some (.ref f))
 fn:PySem.W.isFn K (.ref f)=true
 kp:PySem.W.keepIn K (.ref f)=true
section
variable {X:Cx} {pins:Zy} {σ:St} {H:Hp} {s:Shared} {a C dx:Addr} {fs:List (Str × V)} {f:Str} {v:V} {A:Around} {E:Zz}
theorem Cw{b:Bool}{Q:Zz}(I:Inv X pins σ H s)(e:H a=some (.ins C dx fs))(c:zD X.K C)(n:dw X.K C f)(l:fs.lookup f=some v)
 (h:∀u s',Inv X pins σ H s'->RelV v u->Q u s'):wpAny (model X.prog X.w) A (getAttr (.ref a) f b) Q E s:=by
 obtain⟨mA,O,r,_,_,_⟩:=zr I.hok e;obtain⟨u,hu,ru⟩:=pC.some_of (v:=v) (o:=mA f) (by rw[<-l];exact r f)
 exact get_map I.Ed O (c.get f) c.hd n hu (ET ru) (h u _ (I.tok _) ru)
theorem CO{m:Str}{g:Addr}{pl:Sem Bool}{Q:Value × List Value->Shared->Prop}(I:Inv X pins σ H s)(e:H a=some (.ins C dx fs))(c:zD X.K C)(k:Meth X.K C m g)(l:fs.lookup m=none)
 (h:Q (.ref g,[.ref a]) s):wpAny (model X.prog X.w) A (getMethod (.ref a) m pl) Q E s:=by
 obtain⟨mA,O,r,_,_,_⟩:=zr I.hok e;have hn:mA m=none:=pC.none_of (by rw[<-l];exact r m)
 exact HY I.Ed O (c.get m) k.at_ k.fn hn h
theorem Cz{y:V}{u:Value}{Q:Unit->Shared->Prop}(I:Inv X pins σ H s)(e:H a=some (.ins C dx fs))(c:zD X.K C)(n:dw X.K C f)(hl:fs.length < 1000)(ry:RelV y u)
 (h:∀s',Inv X pins σ (upd H a (.ins C dx (lr f y fs))) s'->Q () s'):wpAny (model X.prog X.w) A (setAttr (.ref a) f u) Q E s:=by
 obtain⟨mA,O,r,wi,_,ho⟩:=zr I.hok e;have hz:(fs.map (·.1)).length<=sizeLine:=by rw[List.length_map,sizeLine_eq];omega
 refine KQ I.Ed O c.sa c.po n.P2 c.hd wi hz fun h' O' sb=>h _ ?_
 have hd:∃o,h'.get? dx=some o:=let⟨o,_,_,e',_⟩:=O'.ns;⟨o,e'⟩
 refine I.write (x:=a) (e:=dx) (by rw[e];exact True.intro) (.inr ho) (fun b q hb z=>(sb.2 b hb).trans z) hd ?_
 refine⟨by rw[bj O.ne];exact ho,?_,O.ne,O'.obj,_,O'.ns,fun g=>?_,fun g hg=>?_⟩
 .have:=tT f y fs;omega
 .show pC ((lr f y fs).lookup g) (if g=f then some u else mA g)
  rw[tS];by_cases q:g=f
  .rw [if_pos q,if_pos q];exact ry
  .rw [if_neg q,if_neg q];exact r g
 .by_cases q:g=f
  .rw [q];exact(sF f y fs).1
  .refine(sF f y fs).2 g (wi g fun z=>hg ?_)
   show(if g=f then some u else mA g)=none
   rw[if_neg q];exact z
theorem Inv.made(I:Inv X pins σ H s):Inv X pins σ (upd (upd H s.heap.objs.size (.own (s.heap.objs.size+1))) (s.heap.objs.size+1) (.ins C s.heap.objs.size []))
 {s with heap:=(s.heap.push PySem.W.emptyDict).push (PySem.W.instObj C s.heap.objs.size)}:=by
 have e1:(s.heap.push PySem.W.emptyDict).get? s.heap.objs.size=some PySem.W.emptyDict:=Heap.get?_push_size s.heap rfl;have e2:((s.heap.push PySem.W.emptyDict).push (PySem.W.instObj C s.heap.objs.size)).get? (s.heap.objs.size+1)=some (PySem.W.instObj C s.heap.objs.size):=by
  have:=Heap.get?_push_size (s.heap.push PySem.W.emptyDict) (o:=PySem.W.instObj C s.heap.objs.size) rfl
  rwa [Heap.size_push] at this
 have e3:(s.heap.push PySem.W.emptyDict).Ns s.heap.objs.size (fun _=>none):=⟨PySem.W.emptyDict,#[],_,e1,rfl,(fun e he=>absurd he (by simp)),fun _=>rfl⟩
 have I1:=I.laid (a:=s.heap.objs.size) (o:= .own (s.heap.objs.size+1)) (h':=s.heap.push PySem.W.emptyDict) (t':=s.toks) (fun b u q=>Heap.get?_push_of_some _ q) (Nat.le_refl _) ⟨_,e1⟩
 refine I1.laid (a:=s.heap.objs.size+1) (o:= .ins C s.heap.objs.size []) (t':=s.toks) (fun b u q=>Heap.get?_push_of_some _ q) (Nat.le_of_eq (Heap.size_push _ _)) ?_
 have ne:s.heap.objs.size≠s.heap.objs.size+1:=Nat.ne_of_lt (Nat.lt_succ_self _);refine⟨by rw[bj ne,ba],Nat.zero_le _,ne,e2,fun _=>none,(Heap.Ns1.of_empty e3).at fun o q=>Heap.get?_push_of_some _ q,fun _=>True.intro,fun y hy=>absurd rfl hy⟩
theorem Kz{prog:Program}{w:World}{env:Env}{e:Expr}{f:Str}{pos:Pos}{s:Shared}{Q:Zz}(hb:attributeBase e f env (eval e env)=eval e env)
 (h:wpAny (model prog w) A (eval e env) (fun o s₁=>wpAny (model prog w) A (getAttr o f true) Q E s₁) E s):wpAny (model prog w) A (eval (.Attribute e f pos) env) Q E s:=
 Attribute_any_ h (by rw[arm_eval_Attribute,hb])
end
def SQ(K:W.Frag)(ta:TE)(f:Str):TE:=fun σ H Q=>ta σ H fun x H1=>∃a C dx fs v,x= .ref a/\H1 a=some (.ins C dx fs)/\zD K C/\dw K C f/\fs.lookup f=some v/\Q v H1
def WE(K:W.Frag)(ta:TE)(f:Str):TE:=fun σ H Q=>ta σ H fun x H1=>∃a C dx fs v u,x= .ref a/\H1 a=some (.ins C dx fs)/\zD K C/\Xi K C f v u/\fs.lookup f=none/\Q v H1
def SG(K:W.Frag)(ta tv:TE)(f:Str):TS:=fun D σ H=>tv σ H fun y H1=>ta σ H1 fun x H2=>∃a C dx fs,x= .ref a/\H2 a=some (.ins C dx fs)/\zD K C/\dw K C f/\fs.length < 1000/\
 D.nx σ (upd H2 a (.ins C dx (lr f y fs)))
def Wl(X:Cx)(op:Operator)(rd:V->V->Hp->VK->Prop):Prop:=
 ∀(pins:Zy) (s:Shared) (σ:St) (H:Hp) (x y:V) (u v:Value) (Q:VK),Inv X pins σ H s->RelV x u->RelV y v->rd x y H Q->wpAny (model X.prog X.w) X.A (inplaceOp op u v) (EP X pins σ Q) X.xe s
def RL(K:W.Frag)(ta tv:TE)(rd:V->V->Hp->VK->Prop)(f:Str):TS:=fun D σ H=>ta σ H fun x H1=>∃a C dx fs v,x= .ref a/\H1 a=some (.ins C dx fs)/\zD K C/\dw K C f/\fs.lookup f=some v/\
 tv σ H1 fun y H2=>rd v y H2 fun z H3=>∃dx' Pf,H3 a=some (.ins C dx' Pf)/\Pf.length < 1000/\D.nx σ (upd H3 a (.ins C dx' (lr f z Pf)))
section
variable {X:Cx} {o e value:Expr} {f:Str} {pos pos' wH:Pos} {ta tv:TE}
theorem NB(he:PE X e ta)(hb:attributeBase e f X.env (eval e X.env)=eval e X.env):PE X (.Attribute e f pos) (SQ X.K ta f):=by
 intro pins s σ H Q I h;refine Kz hb (dY (he pins s σ H _ I h) fun u s1 ⟨x,H1,I1,rx,a,C,dx,fs,v,ex,ea,c,n,l,q⟩=>?_)
 subst ex;obtain rfl:u=Value.ref a:=rx;exact Cw I1 ea c n l fun u' s2 I2 ru=>⟨v,H1,I2,ru,q⟩
theorem N9(ha:PE X o ta)(hv:PE X value tv)(hs:swapsWith value (some (.Attribute o f pos')) pos.line X.env=pure false):PS X (.Assign [.Attribute o f pos'] value pos) (SG X.K ta tv f):=by
 intro pins s σ H D I h;refine plainObj_wpAny_Assign_Attribute (dY (hv pins s σ H _ I h) fun u s1 ⟨y,H1,I1,ry,q⟩=>dY (ha pins s1 σ H1 _ I1 q) fun ov s2 ⟨x,H2,I2,rx,a,C,dx,fs,ex,ea,c,n,l,q2⟩=>?_) hs
 subst ex;obtain rfl:ov=Value.ref a:=rx;exact Cz I2 ea c n l ry fun s3 I3=>⟨σ,_,I3,q2⟩
def WX:V->V->Hp->VK->Prop:=fun x y H Q=>∃i j,x= .int i/\y= .int j/\Q (.int (i+j)) H
def Wr:V->V->Hp->VK->Prop:=fun x y H Q=>∃i j,x= .int i/\y= .int j/\Q (.int (i - j)) H
end
section
variable {X:Cx} {pins:Zy} {σ:St} {H:Hp} {s:Shared} {A:Around} {E:Zz} {Q:Zz} {c:Value} {b:Bool}
inductive vC (K:W.Frag) (H:Hp):V->Value->Prop where
 | cH:vC K H .cH (.type "NoneType")
 | bl (x:Bool):vC K H (.bl x) (.type "bool")
 | int (i:Int):vC K H (.int i) (.type "int")
 | str (x:Str):vC K H (.str x) (.type "str")
 | flt (x:UInt64):vC K H (.flt x) (.type "float")
 | lst {a:Addr} {xs:List V} (e:H a=some (.lst xs)):vC K H (.ref a) (.type "list")
 | hV {a:Addr} {o:Obj} {xs:List V} (e:H a=some (.hV o (.lst xs))):vC K H (.ref a) (.type "list")
 | tup {a:Addr} {xs:List V} (e:H a=some (.tup xs)):vC K H (.ref a) (.type "tuple")
 | dK {a:Addr} {kvs:List (Key × V)} (e:H a=some (.dK kvs)):vC K H (.ref a) (.type "dict")
 | dT {a:Addr} {kvs:List (List Key × V)} (e:H a=some (.dT kvs)):vC K H (.ref a) (.type "dict")
 | ins {a C dx:Addr} {fs:List (Str × V)} (e:H a=some (.ins C dx fs)) (cl:zD K C) (ha:PySem.W.findIn K (.ref C) "__class__"=some (some (.builtin "object.__class__")))
    (hn:PySem.W.specialIn K (.builtin "object.__class__") "__get__"=some (some (.builtin "getset_descriptor.__get__"))) (Zm:PySem.W.takesIn K (.builtin "object.__class__")=some true)
    (hm:PySem.W.mroIn K C (.type "object")=some true):vC K H (.ref a) (.ref C)
end
structure eU (k:Nat) (A:Around):Prop where
 hd:A.handled=none
 dp:A.depth+3*k+5 < recursionLimit
 un:A.units+16*k+200 < cLine
theorem eU.mono{j k:Nat}(r:eU k A)(h:j<=k):eU j A:=⟨r.hd,by have:=r.dp;omega,by have:=r.un;omega⟩
theorem eU.deeper{k:Nat}{A:Around}(r:eU (k+1) A)(env:Env):eU k (A.deeper env):=
 ⟨r.hd,by have:=r.dp;show A.depth+1+3*k+5 < _;omega,by have:=r.un;show A.units+3+16*k+200 < _;omega⟩
theorem B6{A:Around}{C:Addr}{us:List Value}{kw:List (Str × Value)}:(A.under (.builtin "type.__call__" ⟨.ref C ::us,kw⟩)).depth=A.depth+1:=by
 first | rfl | simp [Around.under,Code.weight,Code.isCreation,Code.isGuard,Code.isCaller,Code.frames,Code.isFrame,guardIds]
theorem CG{A:Around}{C:Addr}{us:List Value}{kw:List (Str × Value)}:(A.under (.builtin "type.__call__" ⟨.ref C ::us,kw⟩)).units=A.units+1:=by
 first | rfl | simp [Around.under,Code.cUnits,Code.frames,Code.isFrame]
theorem eU.make{k:Nat}{A:Around}(r:eU (k+1) A)(C:Addr)(us:List Value)(kw:List (Str × Value)):eU k (A.under (.builtin "type.__call__" ⟨.ref C ::us,kw⟩)):=
 ⟨r.hd,by have:=r.dp;rw [B6];omega,by have:=r.un;rw [CG];omega⟩
theorem eU.depth{k:Nat}{A:Around}(r:eU k A):A.depth < recursionLimit:=by have:=r.dp;omega
theorem eU.units{k:Nat}{A:Around}(r:eU k A):A.units+64 < cLine:=by have:=r.un;omega
def SY:TA:=fun _ H Q=>Q [] H
def QU(ta:TE)(tr:TA):TA:=fun σ H Q=>ta σ H fun x H1=>tr σ H1 fun xs H2=>Q (x ::xs) H2
section
variable {X:Cx} {e:Expr} {es:List Expr} {te:TE} {t:TA} {pos:Pos}
theorem ji:PA X [] SY:=fun _ _ _ _ H Q I h=>Calls.spliced_nil ⟨[],H,I, .nil,h⟩
theorem fK(ha:PE X e te)(hr:PA X es t)(hs:starEach (e ::es) X.env=(false,eval e X.env) ::starEach es X.env:=by rfl):PA X (e ::es) (QU te t):=by
 intro pos pins s σ H Q I h;rw[hs];show wpAny _ _ (spliced ((false,eval e X.env) ::backTo pos (starEach es X.env))) _ _ s;refine Calls.spliced_cons (dY (ha pins s σ H _ I h) fun u s1 ⟨x,H1,I1,r1,q1⟩=>?_)
 exact dY (hr pos pins s1 σ H1 _ I1 q1) fun us s2 ⟨xs,H2,I2,r2,q2⟩=>⟨x ::xs,H2,I2, .cons r1 r2,q2⟩
def Tb(t:TA):TE:=fun σ H Q=>t σ H fun xs H1=>xs.length<=sizeLine/\∀p,H1 p=none->Q (.ref p) (upd H1 p (.tup xs))
def Th(t:TA):TE:=fun σ H Q=>t σ H fun xs H1=>xs.length<=sizeLine/\∀p,H1 p=none->Q (.ref p) (upd H1 p (.lst xs))
theorem GH{x1}(h:PA X es t):PE X (.Tuple es x1 pos) (Tb t):=by
 intro pins s σ H Q I hq;refine wpAny_Tuple_spliced (dY (h pos pins s σ H _ I hq) fun us s1 ⟨xs,H1,I1,r,z,q⟩=>⟨by rw[<-r.length];exact z,?_⟩)
 have hf:H1 s1.heap.objs.size=none:=I1.hok.fresh (Nat.le_refl _);refine⟨.ref s1.heap.objs.size,upd H1 s1.heap.objs.size (.tup xs),I1.laid (t':=s1.toks) (fun b u e=>Heap.get?_push_of_some _ e) (Nat.le_refl _) ?_,rfl,q _ hf⟩
 exact⟨z,us,r,⟨_,Heap.get?_push_size _ rfl,rfl,_,rfl⟩⟩
theorem BR(h:PA X es t):PE X (.List es pos) (Th t):=by
 intro pins s σ H Q I hq;refine wpAny_List_spliced (dY (h pos pins s σ H _ I hq) fun us s1 ⟨xs,H1,I1,r,z,q⟩=>⟨by rw[<-r.length];exact z,?_⟩)
 have hf:H1 s1.heap.objs.size=none:=I1.hok.fresh (Nat.le_refl _);refine⟨.ref s1.heap.objs.size,upd H1 s1.heap.objs.size (.lst xs),I1.laid (t':=s1.toks) (fun b u e=>Heap.get?_push_of_some _ e) (Nat.le_refl _) ?_,rfl,q _ hf⟩
 exact⟨z,us,0,r,Heap.get?_push_size _ rfl⟩
end
abbrev Sp:=List V->Hp->VK->XK->Prop
abbrev IB:=List Env->Hp->Shared->XK->Value->Shared->Prop
structure CW (P:Program) (w:World) (K:W.Frag) (mg:ZE) (base:Heap) (A:Around) (outer:List Env) (s:Shared) (H:Hp):Prop where
 frames:A.frames=some outer
 mod:Mod K mg base
 bs:∀b o,base.get? b=some o->s.heap.get? b=some o/\H b=none
 bsz:base.objs.size<=s.heap.objs.size
 uf:s.heap.FunFrames base outer
 frf:∀b∈Gi outer,H b=none
 hok:pF P w H s.heap
 bare:AllBare s.gens
def CE(outer:List Env)(P:Program)(w:World)(H:Hp)(s:Shared)(Q:VK)(u:Value)(s':Shared):Prop:=
 ∃v H',s'.os=s.os/\AllBare s'.gens/\Un (Gi outer) [] H H' s.heap s'.heap/\pF P w H' s'.heap/\RelV v u/\Q v H'
def CR(CX:IB)(outer:List Env)(P:Program)(w:World)(H:Hp)(s:Shared)(Q:VK)(E:XK)(r:Result)(s':Shared):Prop:=
 match r with
 | .ok (.ret u)=>CE outer P w H s Q u s'
 | .ok _=>False
 | .error e=>CX outer H s E e s'
structure jl (P:Program) (w:World) (K:W.Frag) (mg:ZE) (base:Heap) (CX:IB) (k:Nat) (f:Addr) (fd:FuncData) (ps:List Str) (sp:Sp):Prop where
 len:∀vs H Q E,sp vs H Q E->vs.length=ps.length
 run:∀(A:Around) (outer:List Env) (s:Shared) (H:Hp) (args:Args) (us:List Value) (vs:List V) (Q:VK) (E:XK),eU k A->CW P w K mg base A outer s H->BindsTo s fd args (ps.zip us)->Vals vs us->sp vs H Q E->
  codeAny (model P w) A (.call (.ref f) args) (CR CX outer P w H s Q E) s
theorem jl.imp{P:Program}{w:World}{K:W.Frag}{mg:ZE}{base:Heap}{CX:IB}{k:Nat}{f:Addr}{fd:FuncData}{ps:List Str}{sp V9:Sp}(F:jl P w K mg base CX k f fd ps sp)
 (h:∀vs H Q E,V9 vs H Q E->sp vs H Q E):jl P w K mg base CX k f fd ps V9:=
 ⟨fun vs H Q E q=>F.len vs H Q E (h _ _ _ _ q),fun A outer s H args us vs Q E hr he hb hv hs=>F.run A outer s H args us vs Q E hr he hb hv (h _ _ _ _ hs)⟩
theorem CW.make{K:W.Frag}{mg:ZE}{outer:List Env}{s:Shared}(e:CW P w K mg base A outer s H)(C:Addr)(us:List Value)(kw:List (Str × Value)) :
 CW P w K mg base (A.under (.builtin "type.__call__" ⟨.ref C ::us,kw⟩)) outer s H:=⟨by first | exact e.frames | (simpa [Around.under,Code.envs,Code.isFrame,pushEnvs] using e.frames),e.mod,e.bs,e.bsz,e.uf,e.frf,e.hok,e.bare⟩
section
variable {X:Cx} {pins:Zy} {σ:St} {H:Hp} {s s':Shared}
theorem Inv.Pz(I:Inv X pins σ H s):CW X.prog X.w X.K X.mg X.base X.A X.stack s H:=
 ⟨I.ok.frames,I.ok.mod,I.bs,Nat.le_trans I.ok.bsz I.sz,I.stack,I.Dt,I.hok,I.bare⟩
theorem Inv.after{Q:VK}{u:Value}(I:Inv X pins σ H s)(h:CE X.stack X.prog X.w H s Q u s'):EP X pins σ Q u s':=by
 obtain⟨v,H',os,bare,un,hok,r,q⟩:=h;obtain⟨hh,g,d,t,XS⟩:=s';obtain rfl:XS=s.os:=os;exact⟨v,H',I.call (h':=hh) (g':=g) (d':=d) (t':=t) (ch:=[]) un hok bare (fun b z=>absurd z (by simp)),r,q⟩
end
def QF(sp:Sp)(zx:List V)(E:XK)(t:TA):TE:=fun σ H Q=>t σ H fun vs H1=>sp (vs++zx) H1 Q E
def Pt(C:Addr)(m:Str)(sp:Sp)(zx:List V)(E:XK)(ta:TE)(t:TA):TE:=fun σ H Q=>ta σ H fun x H1=>∃a dx fs,x= .ref a/\H1 a=some (.ins C dx fs)/\fs.lookup m=none/\
 t σ H1 fun vs H2=>sp (x ::(vs++zx)) H2 Q E
def QS(C:Addr)(sp:Sp)(zx:List V)(E:XK)(t:TA):TE:=fun σ H Q=>t σ H fun vs H1=>∀x dx,H1 x=none->H1 dx=none->dx≠x->
 sp (.ref x ::(vs++zx)) (upd (upd H1 dx (.own x)) x (.ins C dx [])) (fun v H2=>v= .cH/\Q (.ref x) H2) E
def Binds(K:W.Frag)(fd:FuncData)(ps:List Str)(ds:List Value):Prop:=
 ∀(s:Shared) (us:List Value),K.In s.heap->(us++ds).length=ps.length->BindsTo s fd ⟨us,[]⟩ (ps.zip (us++ds))
theorem Binds.all{K:W.Frag}{fd:FuncData}{ps:List Str}(h:∀us:List Value,us.length=ps.length->bindArgs fd ⟨us,[]⟩=pure (ps.zip us)):Binds K fd ps []:=fun s us _ hl=>by
 rw[List.append_nil] at hl ⊢;exact .of_eq (h us hl)
def Passes(CX:IB)(X:Cx)(E:XK):Prop:=∀(pins:Zy) (σ:St) (H:Hp) (s:Shared) (e:Value) (s':Shared),Inv X pins σ H s->CX X.stack H s E e s'->X.xe e s'
section
variable {X:Cx} {CX:IB} {k:Nat} {f C:Addr} {fd:FuncData} {ps:List Str} {sp:Sp} {zx:List V} {ds:List Value} {E:XK} {x m:Str} {p pos apos:Pos} {e o:Expr} {es:List Expr} {ta:TE} {t:TA}
theorem HZ{pins:Zy}{σ:St}{H:Hp}{s:Shared}{Q:VK}{us:List Value}{vs:List V}(F:jl X.prog X.w X.K X.mg X.base CX k f fd ps sp)(hr:eU k X.A)(hb:Binds X.K fd ps ds)(hd:Vals zx ds)(hx:Passes CX X E)
 (I:Inv X pins σ H s) (r:Vals vs us) (h:sp (vs++zx) H Q E):wpAny (model X.prog X.w) X.A (call (.ref f) us) (EP X pins σ Q) X.xe s:=by
 have r2:Vals (vs++zx) (us++ds):=r.append hd;have hl:(us++ds).length=ps.length:=by rw[<-r2.length];exact F.len _ _ _ _ h
 refine wpAny_call (codeAny_mono (F.run X.A X.stack s H ⟨us,[]⟩ (us++ds) (vs++zx) Q E hr I.Pz (hb s us I.Ed hl) r2 h) fun r s' hq=>?_)
 cases r with
 | error e=>exact hx pins σ H s e s' I hq
 | ok fl=>
   cases fl with
   | ret u=>exact I.after hq
   | next=>exact False.elim hq
   | brk=>exact False.elim hq
   | cont=>exact False.elim hq
theorem yN(F:jl X.prog X.w X.K X.mg X.base CX k f fd ps sp)(hr:eU k X.A)(hg:Gl X x)(hm:X.mg x=some (.ref f))(hk:PySem.W.keepIn X.K (.ref f)=true)(hb:Binds X.K fd ps ds)(hd:Vals zx ds)(hx:Passes CX X E)
 (ha:PA X (e ::es) t) (qG:(x==("__debug__":Str))=false:=by decide) (he:starEach (e ::es) X.env=(false,eval e X.env) ::starEach es X.env:=by rfl) (m7:(backTo pos (starEach es X.env)).any (·.1)=false:=by rfl) :
 PE X (.Call (.Name x p) (e ::es) [] pos) (QF sp zx E t):=by
 intro pins s σ H Q I h;refine wpAny_Call_Name_kw (DZ I hg hm ?_ qG);refine PySem.W.callWith_K (h₀:=X.base) I.ok.mod.kin hk (dY (ha pos pins s σ H _ I h) fun us s1 ⟨vs,H1,I1,r,q⟩=>⟨I1.Ed,?_⟩) he m7
 exact HZ F hr hb hd hx I1 r q
theorem Lu{pl:Sem Bool}(he:PE X o ta)(c:zD X.K C)(hm:Meth X.K C m f)(F:jl X.prog X.w X.K X.mg X.base CX k f fd ps sp)(hr:eU k X.A)(hb:Binds X.K fd ps ds)(hd:Vals zx ds)(hx:Passes CX X E)(ha:PA X (e ::es) t)
 (Js:starEach (e ::es) X.env=(false,eval e X.env) ::starEach es X.env:=by rfl) (m7:(backTo pos (starEach es X.env)).any (·.1)=false:=by rfl)
 (ht:eval (.Call (.Attribute o m apos) (e ::es) [] pos) X.env=(do
   let ov <-eval o X.env
   standAt apos.atName
   let(f,first) <-holding [ov] (getMethod ov m pl)
   callWith pos f first (backTo pos (starEach (e ::es) X.env)) (backToKw pos (keywordEach [] X.env))):=by rfl) :
 PE X (.Call (.Attribute o m apos) (e ::es) [] pos) (Pt C m sp zx E ta t):=by
 intro pins s σ H Q I h;refine PySem.W.methodCall_KW (pl:=pl) (dY (he pins s σ H _ I h) fun u s1 ⟨x,H1,I1,rx,a,dx,fs,ex,ea,l,q⟩=>?_) ht
 subst ex;obtain rfl:u=Value.ref a:=rx;refine CO I1 ea c hm l ?_;refine PySem.W.callWith_K (first:=[.ref a]) (h₀:=X.base) I.ok.mod.kin hm.kp (dY (ha pos pins s1 σ H1 _ I1 q) fun us s2 ⟨vs,H2,I2,r,q2⟩=>⟨I2.Ed,?_⟩) Js m7
 exact HZ (us:= .ref a ::us) (vs:= .ref a ::vs) F hr hb hd hx I2 (.cons rfl r) q2
structure Mk (K:W.Frag) (C f:Addr):Prop where
 makes:PySem.W.makesIn K C=true
 init:PySem.W.findIn K (.ref C) "__init__"=some (some (.ref f))
 fn:PySem.W.isFn K (.ref f)=true
 kp:PySem.W.keepIn K (.ref C)=true
theorem Jd{pins:Zy}{σ:St}{H:Hp}{s:Shared}{Q:VK}{us:List Value}{vs:List V}(M:Mk X.K C f)(F:jl X.prog X.w X.K X.mg X.base CX k f fd ps sp)(hr:eU (k+1) X.A)(hb:Binds X.K fd ps ds)(hd:Vals zx ds)
 (hx:Passes CX X E) (I:Inv X pins σ H s) (r:Vals vs us)
 (h:∀x dx,H x=none->H dx=none->dx≠x->sp (.ref x ::(vs++zx)) (upd (upd H dx (.own x)) x (.ins C dx [])) (fun v H2=>v= .cH/\Q (.ref x) H2) E) :
 wpAny (model X.prog X.w) X.A (call (.ref C) us) (EP X pins σ Q) X.xe s:=by
 have hq:=h (s.heap.objs.size+1) s.heap.objs.size (I.hok.fresh (Nat.le_succ _)) (I.hok.fresh (Nat.le_refl _)) (Nat.ne_of_lt (Nat.lt_succ_self _));have I2:=Inv.made (C:=C) I;have r2:Vals (V.ref (s.heap.objs.size+1) ::(vs++zx)) (Value.ref (s.heap.objs.size+1) ::(us++ds)):= .cons rfl (r.append hd);have hl:(Value.ref (s.heap.objs.size+1) ::us++ds).length=ps.length:=by
  have e:=r2.length;rw[F.len _ _ _ _ hq] at e;exact e.symm
 refine wpAny_call (Jc (f:=f) I.Ed M.makes M.init (beq_iff_eq.mp M.fn) (codeAny_mono (F.run _ X.stack _ _ ⟨Value.ref (s.heap.objs.size+1) ::us,[]⟩ (Value.ref (s.heap.objs.size+1) ::(us++ds)) _ _ E (hr.make C us [])
  (I2.Pz.make C us []) (hb _ (Value.ref (s.heap.objs.size+1) ::us) I2.Ed hl) r2 hq) fun r s' Ru=>?_))
 cases r with
 | error e=>exact hx pins σ _ _ e s' I2 Ru
 | ok fl=>
   cases fl with
   | ret u=>
     obtain⟨v,H',I3,rv,ev,q3⟩:=I2.after Ru;subst ev;exact⟨rv,⟨V.ref (s.heap.objs.size+1),H',I3,rfl,q3⟩⟩
   | next=>exact False.elim Ru
   | brk=>exact False.elim Ru
   | cont=>exact False.elim Ru
theorem JV(M:Mk X.K C f)(F:jl X.prog X.w X.K X.mg X.base CX k f fd ps sp)(hr:eU (k+1) X.A)(hg:Gl X x)(hm:X.mg x=some (.ref C))(hb:Binds X.K fd ps ds)(hd:Vals zx ds)(hx:Passes CX X E)
 (ha:PA X (e ::es) t) (qG:(x==("__debug__":Str))=false:=by decide) (he:starEach (e ::es) X.env=(false,eval e X.env) ::starEach es X.env:=by rfl) (m7:(backTo pos (starEach es X.env)).any (·.1)=false:=by rfl) :
 PE X (.Call (.Name x p) (e ::es) [] pos) (QS C sp zx E t):=by
 intro pins s σ H Q I h;refine wpAny_Call_Name_kw (DZ I hg hm ?_ qG);refine PySem.W.callWith_K (h₀:=X.base) I.ok.mod.kin M.kp (dY (ha pos pins s σ H _ I h) fun us s1 ⟨vs,H1,I1,r,q⟩=>⟨I1.Ed,?_⟩) he m7
 exact Jd M F hr hb hd hx I1 r q
end
def PK(X:Cx)(V4:List Keyword)(t:TA):Prop:=
 ∀(pos:Pos) (pins:Zy) (s:Shared) (σ:St) (H:Hp) (Q:List V->Hp->Prop),Inv X pins σ H s->t σ H Q->wpAny (model X.prog X.w) X.A (evalAll ((backToKw pos (keywordEach V4 X.env)).map (·.2))) (AP X pins σ Q) X.xe s
section
variable {X:Cx} {CX:IB} {k:Nat} {f C:Addr} {fd:FuncData} {ps ks:List Str} {sp:Sp} {E:XK} {x m:Str} {p pos apos X_:Pos} {e o:Expr} {es:List Expr} {V4:List Keyword} {te ta:TE} {t tk:TA} {nm:Option Str}
structure Si (K:W.Frag) (fd:FuncData) (ps ks:List Str) (g:List Value->List Value->List Value) (gV:List V->List V->List V):Prop where
 to:∀(s:Shared) (us ws:List Value),K.In s.heap->(g us ws).length=ps.length->BindsTo s fd ⟨us,ks.zip ws⟩ (ps.zip (g us ws))
 rel:∀{vs:List V} {us:List Value} {zs:List V} {ws:List Value},Vals vs us->Vals zs ws->Vals (gV vs zs) (g us ws)
def SN(sp:Sp)(gV:List V->List V->List V)(E:XK)(t tk:TA):TE:=fun σ H Q=>t σ H fun vs H1=>tk σ H1 fun zs H2=>sp (gV vs zs) H2 Q E
variable {g:List Value->List Value->List Value} {gV:List V->List V->List V}
end
structure a_ (N P:List Str) (sc:Scope):Prop where
 kind:sc.kind= .function
 co:sc.isCoroutine=false
 gen:sc.isGenerator=false
 nd:N.Nodup
 pre:N.take P.length=P
 par:∀x∈P,sc.names.lookup x=some .local\/sc.names.lookup x=some .cell
 nofree:∀y∈sc.names,y.2≠ .free
theorem xA{kindOf:Str->Option NameKind}:∀{binds:List (Str × Value)} {m:ZE},(∀v,(x,v) ∉ binds)->bindL kindOf binds m x=m x
 | [],_,_=>rfl
 | (n,v) ::r,m,h=>by
   unfold bindL;rw[xA fun w hw=>h w (List.mem_cons_of_mem _ hw)]
   split
   .have:x≠n:=by rintro rfl;exact h v List.mem_cons_self
    simp [this]
   .rfl
theorem xu{kindOf:Str->Option NameKind}:∀{binds:List (Str × Value)} {m:ZE},(∀v,(x,v) ∉ binds)->bindC kindOf binds m x=m x
 | [],_,_=>rfl
 | (n,v) ::r,m,h=>by
   unfold bindC;rw[xu fun w hw=>h w (List.mem_cons_of_mem _ hw)]
   split
   .rfl
   .have:x≠n:=by rintro rfl;exact h v List.mem_cons_self
    simp [this]
theorem xS{kindOf:Str->Option NameKind}{v:Value}:∀{P:List Str} {vs:List Value} {i:Nat} {m:ZE},P.Nodup->P[i]? =some x->vs[i]? =some v->kindOf x=some .local->
 bindL kindOf (P.zip vs) m x=some v
 | [],_,_,_,_,h,_,_=>by simp at h
 | _ ::_,[],_,_,_,_,h,_=>by simp at h
 | p ::P,w ::vs,0,m,nd,h1,h2,hk=>by
   simp at h1 h2;subst h1;subst h2;show bindL kindOf ((p,w) ::P.zip vs) m p=_;unfold bindL;rw[xA fun v hv=>(List.nodup_cons.mp nd).1 (List.of_mem_zip hv).1,if_pos hk]
   simp
 | p ::P,w ::vs,i+1,m,nd,h1,h2,hk=>by
   show bindL kindOf ((p,w) ::P.zip vs) m x=_;unfold bindL;exact xS (i:=i) (List.nodup_cons.mp nd).2 (by simpa using h1) (by simpa using h2) hk
theorem xy{kindOf:Str->Option NameKind}{v:Value}:∀{P:List Str} {vs:List Value} {i:Nat} {m:ZE},P.Nodup->P[i]? =some x->vs[i]? =some v->kindOf x≠some .local->
 bindC kindOf (P.zip vs) m x=some v
 | [],_,_,_,_,h,_,_=>by simp at h
 | _ ::_,[],_,_,_,_,h,_=>by simp at h
 | p ::P,w ::vs,0,m,nd,h1,h2,hk=>by
   simp at h1 h2;subst h1;subst h2;show bindC kindOf ((p,w) ::P.zip vs) m p=_;unfold bindC;rw[xu fun v hv=>(List.nodup_cons.mp nd).1 (List.of_mem_zip hv).1,if_neg hk]
   simp
 | p ::P,w ::vs,i+1,m,nd,h1,h2,hk=>by
   show bindC kindOf ((p,w) ::P.zip vs) m x=_;unfold bindC;exact xy (i:=i) (List.nodup_cons.mp nd).2 (by simpa using h1) (by simpa using h2) hk
def start(N:List Str)(vs:List V):St:=vs.map some++List.replicate (N.length - vs.length) none
def wm(CX:IB)(P:Program)(w:World)(K:W.Frag)(mg:ZE)(base:Heap)(N:List Str)(qual:Str)(scope:Scope)(f:Addr)(cd:Value)(A:Around)(outer:List Env)(s:Shared)(H:Hp)(E:XK):Cx where
 prog:=P
 w:=w
 K:=K
 mg:=mg
 base:=base
 A:=A.deeper (envOfC qual scope s.heap.objs.size f cd)
 N:=N
 s₀:=s
 H₀:=H
 env:=envOfC qual scope s.heap.objs.size f cd
 outer:=outer
 stack:=envOfC qual scope s.heap.objs.size f cd ::outer
 ex:=[]
 calm:=true
 fn:=fun _=>true
 pn:=[]
 xe:=fun e s'=>wpAny (model P w) (A.deeper (envOfC qual scope s.heap.objs.size f cd)) (leaving (envOfC qual scope s.heap.objs.size f cd) e) (fun _ UE=>CX outer H s E e UE) (fun e' UE=>CX outer H s E e' UE) s'
theorem vb{sc:Scope}{n:Nat}(h:sc.names.lookup x=some .cell):∃c,(cellsFrom n sc.names []).lookup x=some c:=by
 have q:=PySem.W.cellsFrom_some sc.names n [] (.inl h);exact Option.isSome_iff_exists.mp q
theorem FE{CX:IB}{P:Program}{w:World}{K:W.Frag}{mg:ZE}{base:Heap}{N ps:List Str}{qual:Str}{scope:Scope}{f:Addr}{cd:Value}{A:Around}{outer:List Env}{s s1:Shared}{H:Hp}{E:XK}{us:List Value}{vs:List V}
 (S:a_ N ps scope) (hd:A.handled=none) (e0:CW P w K mg base A outer s H) (hl:vs.length=ps.length) (r:Vals vs us)
 (x:InCallC s s.heap.objs.size (bindL (envOfC qual scope s.heap.objs.size f cd).kindOf (ps.zip us) fun _=>none) (cellsFrom (s.heap.objs.size+1) scope.names []) (bindC (envOfC qual scope s.heap.objs.size f cd).kindOf (ps.zip us) fun _=>none) s1) :
 Inv (wm CX P w K mg base N qual scope f cd A outer s H E) [] (start N vs) H s1:=by
 have m7:ps.length<=N.length:=by have:=congrArg List.length S.pre;rw [List.length_take] at this;omega
 obtain⟨h1,tk,rfl,hk⟩:=x.done;have noA:∀b:Addr,b ∉ (wm CX P w K mg base N qual scope f cd A outer s H E).ex:=fun b z=>absurd (show b∈([]:List Addr) from z) (by simp)
 refine⟨⟨e0.mod,S.kind,rfl,rfl,Nat.le_refl _,fun y z c h1 h2=>?_,fun y hy=>?_,fun y c _ h=>?_,fun _=>hd,Around.frames_deeper e0.frames, .inr ⟨rfl,rfl⟩,fun b z=>absurd z (noA b),e0.bs,e0.bsz,fun b _ _=>noA b,fun b z=>absurd z (noA b),e0.uf,e0.frf⟩,
  rfl,e0.bare,Un.kept hk,⟨_,x.toInCall.ns,fun i y v h1 h2 h3=>?_⟩,fun y c h=>⟨_,x.cell y c h⟩,e0.hok.fresh (Nat.le_refl _),fun y c h=>?_,fun p hp=>absurd (show p∈([]:Zy) from hp) (by simp),e0.hok.kept hk,?_⟩
 .exact name_of_addr x.apart (PySem.mem_of_lookup h1) (PySem.mem_of_lookup h2)
 .have hy:scope.names.lookup y=some .cell\/scope.names.lookup y=some .free:=hy;rcases hy with hy | hy
  .exact vb hy
  .exact absurd rfl (S.nofree _ (PySem.mem_of_lookup hy))
 .exact Nat.le_of_lt (x.above y c (PySem.mem_of_lookup h))
 .have hi:i < vs.length:=by
   unfold start at h2;by_cases hi:i < vs.length
   .exact hi
   .rw [List.getElem?_append_right (by simpa using hi)] at h2
    rw[List.getElem?_replicate] at h2;split at h2 <;> cases h2
  have ha:vs[i]? =some v:=by
   unfold start at h2;rw[List.getElem?_append_left (by simpa using hi),List.getElem?_map] at h2
   cases e:vs[i]? with
   | none=>rw [e] at h2;cases h2
   | some a=>rw [e] at h2;cases h2;rfl
  obtain⟨u,hu,rv⟩:=r.get ha;have hp:ps[i]? =some y:=by
   rw[<-S.pre,List.getElem?_take_of_lt (by omega)];exact h1
  have ndP:ps.Nodup:=by rw[<-S.pre];exact S.nd.sublist (List.take_sublist _ _)
  refine⟨u,rv,?_⟩;rcases S.par y (List.mem_of_getElem? hp) with k | k
  .exact .inl ⟨k,xS ndP hp hu k⟩
  .obtain⟨c,e⟩:=vb (n:=s.heap.objs.size+1) k;refine .inr ⟨.inl k,c,e,?_⟩;have q:=x.cell y c e;rw[xy ndP hp hu (by show scope.names.lookup y≠_;rw [k];decide)] at q
   exact q
 .exact e0.hok.fresh (Nat.le_of_lt (x.above y c (PySem.mem_of_lookup h)))
 .unfold start;show _=N.length;rw[List.length_append,List.length_map,List.length_replicate];omega
theorem QR{CX:IB}{P:Program}{w:World}{K:W.Frag}{mg:ZE}{base:Heap}{k:Nat}{f:Addr}{name qual:Str}{params:Arguments}{body:List Stmt}{scope:Scope}{dV kV doc pm dU ct oc:Value}{an od:Option Addr}
 {JH:Array (Option Value)} {N ps:List Str} {sp:Sp} (lk:K.lookup f=some ⟨oc,od, .func (PySem.W.fnOf name qual params body scope dV kV doc pm an dU ct),JH⟩) (uq:PySem.W.codeIn K dU qual=true) (S:a_ N ps scope)
 (len:∀vs H Q E,sp vs H Q E->vs.length=ps.length)
 (mv:∀(A:Around) (outer:List Env) (s:Shared) (H:Hp) (vs:List V) (Q:VK) (E:XK),eU k (A.deeper (envOfC qual scope s.heap.objs.size f dU))->sp vs H Q E->
   ∃t,zc (wm CX P w K mg base N qual scope f dU A outer s H E) body t/\t {nx:=fun _ H'=>Q .cH H',rt:=Q} (start N vs) H) :
 jl P w K mg base CX (k+1) f (PySem.W.fnOf name qual params body scope dV kV doc pm an dU ct) ps sp:=by
 refine⟨len,fun A outer s H args us vs Q E hr e0 hb r Pc=>?_⟩
 have hl:=len _ _ _ _ Pc;have KX:K.In s.heap:=e0.mod.kin.keeps fun b o e=>(e0.bs b o e).1
 have lim:s.heap.NoLimit:=e0.mod.nolimit.keeps fun b o e=>(e0.bs b o e).1
 have hkind:∀y∈ps.zip us,scope.names.lookup y.1=some .local\/(scope.names.lookup y.1=some .cell/\((cellsFrom (s.heap.objs.size+1) scope.names []).lookup y.1).isSome=true):=fun⟨n,v⟩ hy=>by
  rcases S.par n (List.of_mem_zip hy).1 with q | q
  .exact .inl q
  .exact .inr ⟨q,PySem.W.cellsFrom_some _ _ _ (.inl q)⟩
 refine codeAny_call_function hr.depth (KX _ _ lk) rfl S.co S.gen rfl (PySem.W.codeRec_of KX uq) (hb _ _ _ _ ?_);refine wpAny_newFunctionEnv_cells S.kind hkind fun env he s1 x=>?_
 subst he;refine⟨lim.keeps x.toInCall.keep,codeAny_func ?_⟩;obtain⟨t,ht,hq⟩:=mv A outer s H vs Q E (hr.deeper _) Pc;have I:Inv (wm CX P w K mg base N qual scope f dU A outer s H E) [] (start N vs) H s1:=FE S hr.hd e0 hl r x;refine wpAny_mono (ht [] s1 (start N vs) H _ I hq) (fun fl s' hs=>?_) fun e s' hs=>hs
 have fin:∀{dc:St} {H':Hp} {v:V} {u:Value},Inv (wm CX P w K mg base N qual scope f dU A outer s H E) [] dc H' s'->RelV v u->Q v H'->CE outer P w H s Q u s':=
  fun {dc H' v u} J rv q=>⟨v,H',J.os,J.bare,J.base,J.hok,rv,q⟩
 cases fl with
 | ret u=>
   obtain⟨v,dc,H',J,rv,q⟩:=hs;exact fin J rv q
 | next=>
   obtain⟨dc,H',J,q⟩:=hs;exact fin (v:=V.cH) (u:=Value.none) J rfl q
 | brk=>
   obtain⟨_,_,_,q⟩:=hs;exact False.elim q
 | cont=>
   obtain⟨_,_,_,q⟩:=hs;exact False.elim q
section
variable {X:Cx} {x:Str} {p pos:Pos} {e:Expr} {es:List Expr} {t:TA} {id T:String} {r:List V->Hp->VK->Prop}
def U_(r:List V->Hp->VK->Prop)(t:TA):TE:=fun σ H Q=>t σ H fun vs H1=>r vs H1 Q
theorem uK(hc:oz X (.builtin id) r)(hg:Gl X x)(hm:X.mg x=none)(hv:bootBuiltins x=some (.builtin id))(ha:PA X (e ::es) t)(hn:x≠"__name__":=by decide)(qG:(x==("__debug__":Str))=false:=by decide)
 (he:starEach (e ::es) X.env=(false,eval e X.env) ::starEach es X.env:=by rfl) (m7:(backTo pos (starEach es X.env)).any (·.1)=false:=by rfl):PE X (.Call (.Name x p) (e ::es) [] pos) (U_ r t):=by
 intro pins s σ H Q I h;refine wpAny_Call_Name_kw (qa I hg hm hv ?_ hn qG);exact PyProof.Rows.callWith_builtin1 (dY (ha pos pins s σ H _ I h) fun us s1 ⟨vs,H1,I1,r1,q1⟩=>hc pins s1 σ H1 vs us Q I1 r1 q1) he m7
theorem yh(hc:oz X (.type T) r)(hg:Gl X x)(hm:X.mg x=none)(hv:bootBuiltins x=some (.type T))(ha:PA X (e ::es) t)(hn:x≠"__name__":=by decide)(qG:(x==("__debug__":Str))=false:=by decide)
 (he:starEach (e ::es) X.env=(false,eval e X.env) ::starEach es X.env:=by rfl) (m7:(backTo pos (starEach es X.env)).any (·.1)=false:=by rfl):PE X (.Call (.Name x p) (e ::es) [] pos) (U_ r t):=by
 intro pins s σ H Q I h;refine wpAny_Call_Name_kw (qa I hg hm hv ?_ hn qG);exact PyProof.Rows.callWith_type1 (dY (ha pos pins s σ H _ I h) fun us s1 ⟨vs,H1,I1,r1,q1⟩=>hc pins s1 σ H1 vs us Q I1 r1 q1) he m7
end
section
variable {κ:Type} [DecidableEq κ]
def lh(kvs:List (κ × V))(k:κ):Option V:=(kvs.find? fun kv=>decide (kv.1=k)).map (·.2)
def putK(kvs:List (κ × V))(k:κ)(v:V):List (κ × V):=
 if(kvs.any fun kv=>decide (kv.1=k))=true then kvs.map (fun kv=>if kv.1=k then(kv.1,v) else kv) else kvs++[(k,v)]
def Hb(kvs:List (κ × V))(k:κ):List (κ × V):=kvs.filter fun kv=>decide (kv.1≠k)
theorem vM{p:κ × V}{r:List (κ × V)}{k:κ}(e:p.1=k):lh (p ::r) k=some p.2:=by simp [lh,List.find?_cons,e]
theorem vf{p:κ × V}{r:List (κ × V)}{k:κ}(e:¬p.1=k):lh (p ::r) k=lh r k:=by simp [lh,List.find?_cons,e]
theorem Ag(k:κ):∀kvs:List (κ × V),(kvs.any fun kv=>decide (kv.1=k))=(lh kvs k).isSome
 | []=>rfl
 | p ::r=>by
   rw[List.any_cons];by_cases e:p.1=k
   .simp only[vM e,decide_eq_true e,Bool.true_or,Option.isSome_some]
   .rw [vf e,decide_eq_false e,Bool.false_or];exact Ag k r
theorem oO(kvs:List (κ × V))(k:κ)(v:V):(putK kvs k v).length<=kvs.length+1:=by
 unfold putK;split
 .rw [List.length_map];omega
 .rw [List.length_append,List.length_cons,List.length_nil];omega
theorem pC.sP{o:Option V}{u:Option Value}(r:pC o u):o.isSome=u.isSome:=by
 cases o with
 | none=>cases u with
   | none=>rfl
   | some _=>exact(show False from r).elim
 | some _=>cases u with
   | none=>exact(show False from r).elim
   | some _=>rfl
theorem pC.getD{o:Option V}{u:Option Value}{d:V}{d':Value}(r:pC o u)(rd:RelV d d'):RelV (o.getD d) (u.getD d'):=by
 cases o with
 | none=>cases u with
   | none=>exact rd
   | some _=>exact(show False from r).elim
 | some _=>cases u with
   | none=>exact(show False from r).elim
   | some _=>exact r
theorem KV.val{kvs:List (κ × V)}{vs:List (κ × Value)}(r:KV kvs vs)(k:κ):pC (lh kvs k) (valueAt vs k):=by
 unfold KV at r
 induction r with
 | nil=>exact True.intro
 | @cons p q ps qs h t ih=>
   obtain⟨h1,h2⟩:=h;by_cases e:p.1=k
   .have e':q.1=k:=h1.symm.trans e;have b:valueAt (q ::qs) k=some q.2:=by simp [valueAt,List.find?_cons,e']
    rw[vM e,b];exact h2
   .have e':¬q.1=k:=fun z=>e (h1.trans z)
    have b:valueAt (q ::qs) k=valueAt qs k:=by simp [valueAt,List.find?_cons,e']
    rw[vf e,b];exact ih
theorem KV.any{kvs:List (κ × V)}{vs:List (κ × Value)}(r:KV kvs vs)(k:κ):(kvs.any fun kv=>decide (kv.1=k))=vs.any fun kv=>decide (kv.1=k):=by
 unfold KV at r
 induction r with
 | nil=>rfl
 | cons h t ih=>rw [List.any_cons,List.any_cons,ih,h.1]
theorem KV.Ot{kvs:List (κ × V)}{vs:List (κ × Value)}(r:KV kvs vs)(k:κ){y:V}{u:Value}(ry:RelV y u) :
 KV (kvs.map fun kv=>if kv.1=k then(kv.1,y) else kv) (vs.map fun kv=>if kv.1=k then(kv.1,u) else kv):=by
 unfold KV at r ⊢
 induction r with
 | nil=>exact .nil
 | @cons p q ps qs h t ih=>
   rw[List.map_cons,List.map_cons];refine .cons ?_ ih;obtain⟨h1,h2⟩:=h;by_cases e:p.1=k
   .rw [if_pos e,if_pos (h1.symm.trans e)];exact⟨h1,ry⟩
   .rw [if_neg e,if_neg (fun z=>e (h1.trans z))];exact⟨h1,h2⟩
theorem KV.put{kvs:List (κ × V)}{vs:List (κ × Value)}(r:KV kvs vs)(k:κ){y:V}{u:Value}(ry:RelV y u):KV (putK kvs k y) (stored vs k u):=by
 unfold putK stored;rw[r.any k];by_cases e:(vs.any fun kv=>decide (kv.1=k))=true
 .rw [if_pos e,if_pos e];exact r.Ot k ry
 .rw [if_neg e,if_neg e];exact Paired.snoc r ⟨rfl,ry⟩
theorem KV.length{kvs:List (κ × V)}{vs:List (κ × Value)}(r:KV kvs vs):kvs.length=vs.length:=Paired.length r
end
theorem Ac{k:Key}{u:Value}(r:RelV (kV k) u):(cU P w).is k u=true:=by
 cases k with
 | inl i=>obtain⟨t,e⟩:=(show ∃t,u=Value.int i t from r);subst e;exact Bu P w i t
 | inr x=>obtain⟨t,e⟩:=(show ∃t,u=Value.str x t from r);subst e;exact A7 P w x t
theorem xE:∀{ks:List Key} {us:List Value},Vals (ks.map kV) us->ItemsAre (cU P w) ks us
 | [],_,r=>by rw[List.map_nil] at r;cases r;exact .nil
 | k ::ks,_,r=>by
   rw[List.map_cons] at r;cases r with
   | cons h t=>exact .cons (Ac h) (xE t)
abbrev KT(H:Hp):List (List Key × V)->List (List Key × Addr × Value)->Prop:=Paired fun p q=>p.1=q.1/\H q.2.1=some (.tup (p.1.map kV))/\RelV p.2 q.2.2
theorem KT.val{kvs:List (List Key × V)}{xs:List (List Key × Addr × Value)}(r:KT H kvs xs)(k:List Key):pC (lh kvs k) ((atKey xs k).map (·.2)):=by
 induction r with
 | nil=>exact True.intro
 | @cons p q ps qs h t ih=>
   obtain⟨h1,_,h2⟩:=h;by_cases e:p.1=k
   .have e':q.1=k:=h1.symm.trans e;have b:atKey (q ::qs) k=some q.2:=by simp [atKey,List.find?_cons,e']
    rw[vM e,b];exact h2
   .have e':¬q.1=k:=fun z=>e (h1.trans z)
    have b:atKey (q ::qs) k=atKey qs k:=by simp [atKey,List.find?_cons,e']
    rw[vf e,b];exact ih
theorem KT.Ot{kvs:List (List Key × V)}{xs:List (List Key × Addr × Value)}(r:KT H kvs xs)(k:List Key){y:V}{u:Value}(ry:RelV y u) :
 KT H (kvs.map fun kv=>if kv.1=k then(kv.1,y) else kv) (xs.map (putAt k u)):=by
 induction r with
 | nil=>exact .nil
 | @cons p q ps qs h t ih=>
   rw[List.map_cons,List.map_cons];refine .cons ?_ ih;obtain⟨h1,h2,h3⟩:=h;unfold putAt;by_cases e:p.1=k
   .rw [if_pos e,if_pos (h1.symm.trans e)];exact⟨h1,h2,ry⟩
   .rw [if_neg e,if_neg (fun z=>e (h1.trans z))];exact⟨h1,h2,h3⟩
theorem KT.put{H:Hp}{kvs:List (List Key × V)}{xs:List (List Key × Addr × Value)}(r:KT H kvs xs)(k:List Key){b:Addr}{y:V}{u:Value}(hb:H b=some (.tup (k.map kV)))(ry:RelV y u) :
 KT H (putK kvs k y) (storedH xs k b u):=by
 have e:(kvs.any fun kv=>decide (kv.1=k))=(atKey xs k).isSome:=by
  rw[Ag,(r.val k).sP,Option.isSome_map]
 unfold putK storedH;rw[e];by_cases q:(atKey xs k).isSome=true
 .rw [if_pos q,if_pos q];exact r.Ot k ry
 .rw [if_neg q,if_neg q];exact Paired.snoc r ⟨rfl,hb,ry⟩
theorem KT.keeps{H H':Hp}{kvs:List (List Key × V)}{xs:List (List Key × Addr × Value)}(r:KT H kvs xs)(ht:∀b ys,H b=some (.tup ys)->H' b=some (.tup ys)):KT H' kvs xs:=
 Paired.Nb r fun _ _ z=>⟨z.1,ht _ _ z.2.1,z.2.2⟩
section
variable {P:Program} {w:World} {H:Hp} {h:Heap} {a:Addr}
theorem L8{u:HO}(ok:pF P w H h)(e:Rd H a u):e_ P w H h a u:=e.ok ok
theorem Du{kvs:List (Key × V)}(ok:pF P w H h)(e:Rd H a (.dK kvs)):kvs.length<=sizeLine/\(a==sysModules)=false/\∃vs,KV kvs vs/\h.DictOf (cU P w) a vs:=
 show e_ P w H h a (.dK kvs) from L8 ok e
theorem GS{kvs:List (Key × V)}(ok:pF P w H h)(e:H a=some (.dK kvs)):kvs.length<=sizeLine/\(a==sysModules)=false/\∃vs,KV kvs vs/\h.DictOf (cU P w) a vs:=Du ok (.inl e)
theorem yM{ks:List Key}(ok:pF P w H h)(e:H a=some (.tup (ks.map kV))):(tupleKind (cU P w)).is h ks a:=by
 obtain⟨_,its,r,o,h1,h2,n,h3⟩:=(show e_ P w H h a (.tup (ks.map kV)) from ok a _ e)
 exact⟨o,its.toArray,n,h1,h2,h3,by simpa using xE r⟩
theorem Eh{kvs:List (List Key × V)}(ok:pF P w H h)(e:Rd H a (.dT kvs)):kvs.length<=sizeLine/\(a==sysModules)=false/\
 ∃xs,KT H kvs xs/\h.DictOfH (tupleKind (cU P w)) a xs:=by
 obtain⟨z,y,xs,r,o,es,ep,h1,h2,h3,h4,h5⟩:=(show e_ P w H h a (.dT kvs) from L8 ok e)
 refine⟨z,y,xs,r,o,es,ep,h1,h2,h3,h4,fun x hx=>?_,h5⟩
 have all:∀{l:List (List Key × V)} {m:List (List Key × Addr × Value)},KT H l m->∀x∈m,(tupleKind (cU P w)).is h x.1 x.2.1:=by
  intro l m q
  induction q with
  | nil=>intro x hx;exact nomatch hx
  | @cons p q ps qs hq t ih=>
    intro x hx;rcases List.mem_cons.mp hx with e | hx
    .subst e;exact yM ok (by rw[<-hq.1];exact hq.2.1)
    .exact ih x hx
 exact all r x hx
theorem Q1{kvs:List (List Key × V)}(ok:pF P w H h)(e:H a=some (.dT kvs)):kvs.length<=sizeLine/\(a==sysModules)=false/\
 ∃xs,KT H kvs xs/\h.DictOfH (tupleKind (cU P w)) a xs:=Eh ok (.inl e)
end
def uc(H:Hp)(a:Addr)(y:V)(r:Option V):Prop:=
 (∃kvs k,Rd H a (.dK kvs)/\y=kV k/\r=lh kvs k)\/∃kvs k b,Rd H a (.dT kvs)/\y= .ref b/\H b=some (.tup (k.map kV))/\r=lh kvs k
def F7(H:Hp)(a:Addr)(y v:V)(H':Hp):Prop:=
 (∃kvs k,H a=some (.dK kvs)/\y=kV k/\kvs.length < sizeLine/\H'=upd H a (.dK (putK kvs k v)))\/
 ∃kvs k b,H a=some (.dT kvs)/\y= .ref b/\H b=some (.tup (k.map kV))/\kvs.length < sizeLine/\H'=upd H a (.dT (putK kvs k v))
theorem uc.k{H:Hp}{a:Addr}{kvs:List (Key × V)}{k:Key}(e:H a=some (.dK kvs)):uc H a (kV k) (lh kvs k):= .inl ⟨kvs,k, .inl e,rfl,rfl⟩
theorem F7.k{H:Hp}{a:Addr}{kvs:List (Key × V)}{k:Key}{v:V}(e:H a=some (.dK kvs))(hl:kvs.length < sizeLine):F7 H a (kV k) v (upd H a (.dK (putK kvs k v))):= .inl ⟨kvs,k,e,rfl,hl,rfl⟩
section
variable {X:Cx} {pins:Zy} {σ:St} {H:Hp} {s:Shared} {a:Addr} {y v:V} {u r:Value} {o:Option V} {A:Around} {E:Zz}
theorem Inv.big(I:Inv X pins σ H s):sysModules < s.heap.objs.size:=by
 have h:mainGlobals < s.heap.objs.size:=(I.mod.glob.keeps I.bk).lt;exact Nat.lt_trans (by decide) h
theorem SK{Q:Zz}(hu:A.units+1 < cLine)(I:Inv X pins σ H s)(g:uc H a y o)(ry:RelV y u)(h:∀s',Inv X pins σ H s'->Q (.bool o.isSome) s') :
 wpAny (model X.prog X.w) A (compareOp .In u (.ref a)) Q E s:=by
 rcases g with⟨kvs,k,e,ey,l⟩ | ⟨kvs,k,b,e,ey,eb,l⟩
 .subst ey;obtain⟨z,hd,vs,rel,dd⟩:=Du I.hok e;refine wpAny_in_of (Ac ry) hd dd.mapOf ?_;rw[<-(rel.val k).sP,<-l];exact h _ (I.tok _)
 .subst ey;cases(show u=Value.ref b from ry)
  obtain⟨z,hd,xs,rel,dd⟩:=Eh I.hok e;refine wpAny_in_heap (tupleKind_room_in1 hu) (yM I.hok eb) hd dd ?_;have q:=(rel.val k).sP;rw[Option.isSome_map] at q;rw[<-q,<-l];exact h _ (I.tok _)
theorem yI{h':Heap}{t':Nat}{ob:HO}(I:Inv X pins σ H s)(mu:QX (H a))(hs:Heap.SameBut a s.heap h')(he:∃q,h'.get? a=some q)(new:e_ X.prog X.w (upd H a ob) h' a ob) :
 Inv X pins σ (upd H a ob) {s with heap:=h',toks:=t'}:=
 I.write (x:=a) (e:=a) mu (.inl rfl) (fun b q hb z=>(hs.2 b hb).trans z) he new
theorem GX{H':Hp}{h':Heap}{kvs:List (Key × V)}{vs:List (Key × Value)}(z:kvs.length<=sizeLine)(hd:(a==sysModules)=false)(rel:KV kvs vs)(dd:h'.DictOf (cU P w) a vs) :
 e_ P w H' h' a (.dK kvs):=⟨z,hd,vs,rel,dd⟩
theorem FW{Q:Unit->Shared->Prop}(hu:A.units+1 < cLine)(I:Inv X pins σ H s)(g:F7 H a y v H')(ry:RelV y u)(rv:RelV v r)(h:∀s',Inv X pins σ H' s'->Q () s') :
 wpAny (model X.prog X.w) A (setItem (.ref a) u r) Q E s:=by
 rcases g with⟨kvs,k,e,ey,l,eH⟩ | ⟨kvs,k,b,e,ey,eb,l,eH⟩
 .subst ey eH;obtain⟨z,hd,vs,rel,dd⟩:=GS I.hok e;have hz:vs.length<=sizeLine:=by rw[<-rel.length];exact z
  have hl:(putK kvs k v).length<=sizeLine:=by have:=oO kvs k v;omega
  refine wpAny_setItem_pairs (hsz:=hz) (Ac ry) dd fun h' OQ hs=>h _ ?_
  have he:∃q,h'.get? a=some q:=let⟨q,_,_,hq,_⟩:=OQ;⟨q,hq⟩
  exact yI I (by rw[e];exact True.intro) hs he (GX hl hd (rel.put k rv) OQ)
 .subst ey eH;cases(show u=Value.ref b from ry)
  obtain⟨z,hd,xs,rel,dd⟩:=Q1 I.hok e;have hz:xs.length<=sizeLine:=by rw[<-Paired.length rel];exact z
  have hl:(putK kvs k v).length<=sizeLine:=by have:=oO kvs k v;omega
  refine wpAny_setItem_heap (hsz:=hz) (tupleKind_room_in1 hu) (yM I.hok eb) dd fun h' OQ hs=>h _ ?_
  obtain⟨q,es,ep,hq,h2,h3,h4,_,h5⟩:=OQ;refine yI I (by rw[e];exact True.intro) hs ⟨q,hq⟩ ⟨hl,hd,_,(rel.put k eb rv).keeps fun c ys ec=>?_,q,es,ep,hq,h2,h3,h4,h5⟩
  rw[bj (PV ec e (fun z=>nomatch z))]
  exact ec
end
section
variable {X:Cx} {pins:Zy} {σ:St} {H:Hp} {s:Shared} {a:Addr} {kvs:List (Key × V)} {k:Key} {u:Value} {A:Around} {E:Zz}
end
def WN(i:Expr):Prop:=∀ov iv,subscripted i false ov iv=operate [ov,iv] (getItem ov iv)
def VF(td ty:TE):TE:=fun σ H Q=>td σ H fun x H1=>ty σ H1 fun y H2=>∃a v,x= .ref a/\uc H2 a y (some v)/\Q v H2
def TV(ty td:TE):TE:=fun σ H Q=>ty σ H fun y H1=>td σ H1 fun x H2=>∃a o,x= .ref a/\uc H2 a y o/\Q (.bl o.isSome) H2
def RQ(ty td:TE):TE:=fun σ H Q=>ty σ H fun y H1=>td σ H1 fun x H2=>∃a o,x= .ref a/\uc H2 a y o/\Q (.bl (!o.isSome)) H2
def P9(td ty tv:TE):TS:=fun D σ H=>tv σ H fun v H1=>td σ H1 fun x H2=>ty σ H2 fun y H3=>∃a H4,x= .ref a/\F7 H3 a y v H4/\D.nx σ H4
def Vn(td ty tv:TE)(rd:V->V->Hp->VK->Prop):TS:=fun D σ H=>td σ H fun x H1=>ty σ H1 fun y H2=>∃a v,x= .ref a/\uc H2 a y (some v)/\
 tv σ H2 fun y2 H3=>rd v y2 H3 fun z H4=>∃H5,F7 H4 a y z H5/\D.nx σ H5
def U8(td ty:TE):TS:=fun D σ H=>td σ H fun x H1=>ty σ H1 fun y H2=>∃a kvs k,x= .ref a/\H2 a=some (.dK kvs)/\y=kV k/\(lh kvs k).isSome=true/\D.nx σ (upd H2 a (.dK (Hb kvs k)))
section
variable {X:Cx} {o i e value:Expr} {pos pos' wH:Pos} {td ty tv:TE}
theorem Ng(hu:X.A.units+1 < cLine)(hi:PE X i ty)(ho:PE X o td):PC X .In i o (TV ty td):=by
 intro pins s σ H Q I h;refine dY (hi pins s σ H _ I h) fun iv s1 ⟨y,H1,I1,ry,q1⟩=>dY (ho pins s1 σ H1 _ I1 q1) fun u s2 ⟨x,H2,I2,rx,a,ov,ex,g,q2⟩=>?_
 subst ex;obtain rfl:u=Value.ref a:=rx;exact SK hu I2 g ry fun s3 I3=>⟨.bl ov.isSome,H2,I3,rfl,q2⟩
theorem J6(hu:X.A.units+1 < cLine)(ho:PE X o td)(hi:PE X i ty)(hv:PE X value tv)(hs:swapsWith value (some (.Subscript o i pos')) pos.line X.env=pure false) :
 PS X (.Assign [.Subscript o i pos'] value pos) (P9 td ty tv):=by
 intro pins s σ H D I h;refine wpAny_Assign_Subscript (dY (hv pins s σ H _ I h) fun r s1 ⟨v,H1,I1,rv,q1⟩=>dY (ho pins s1 σ H1 _ I1 q1) fun u s2 ⟨x,H2,I2,rx,q2⟩=>dY (hi pins s2 σ H2 _ I2 q2) fun iv s3 ⟨y,H3,I3,ry,a,H4,ex,g,q3⟩=>?_) hs
 subst ex;obtain rfl:u=Value.ref a:=rx;exact FW hu I3 g ry rv fun s4 I4=>⟨σ,H4,I4,q3⟩
end
theorem z8(h:Heap)(hb:sysModules < h.objs.size):e_ P w H (h.push {cls:= .type "dict",data:= .dict #[]}) h.objs.size (.dK []):=
 ⟨Nat.zero_le _,beq_eq_false_iff_ne.mpr (Ne.symm (Nat.ne_of_lt hb)),[], .nil,Heap.DictOf.new h⟩
def NM:TE:=fun _ H Q=>∀p,H p=none->Q (.ref p) (upd H p (.dK []))
def Tn:TE:=fun _ H Q=>∀p,H p=none->Q (.ref p) (upd H p (.dT []))
section
variable {X:Cx} {pos:Pos}
theorem Jg:PE X (.Dict [] [] pos) NM:=fun pins s σ H Q I h=>
 wpAny_Dict_empty ⟨.ref s.heap.objs.size,_,I.laid (a:=s.heap.objs.size) (o:= .dK []) (t':=s.toks) (fun _ _ q=>Heap.get?_push_of_some _ q) (Nat.le_refl _) (z8 s.heap I.big),rfl,h _ (I.hok.fresh (Nat.le_refl _))⟩
end
def vD:List (TE × TE)->St->Hp->(List (V × V)->Hp->Prop)->Prop
 | [],_,H,Q=>Q [] H
 | (tk,tv) ::r,σ,H,Q=>tk σ H fun x H1=>tv σ H1 fun y H2=>vD r σ H2 fun ps H3=>Q ((x,y) ::ps) H3
abbrev VV:List (V × V)->List (Value × Value)->Prop:=Paired fun p q=>RelV p.1 q.1/\RelV p.2 q.2
def O4(X:Cx)(pos:Pos)(keys:List (Option Expr))(values:List Expr)(BD:List (TE × TE)):Prop:=
 ∀(pins:Zy) (s:Shared) (σ:St) (H:Hp) (Q:List (V × V)->Hp->Prop),Inv X pins σ H s->vD BD σ H Q->
  wpAny (model X.prog X.w) X.A (evalPairs (pairTrees keys values X.env pos)) (fun vs s'=>∃ps H',Inv X pins σ H' s'/\VV ps vs/\Q ps H') X.xe s
theorem Eb{X:Cx}:O4 X pos [] [] []:=fun pins s σ H Q I h=>pairTrees_nil_walk ⟨[],H,I, .nil,h⟩
theorem qR{X:Cx}{ks:List (Option Expr)}{tk tv:TE}{BD:List (TE × TE)}(hk:PE X k tk)(hv:PE X v tv)(hr:O4 X pos ks vs BD) :
 O4 X pos (some k ::ks) (v ::vs) ((tk,tv) ::BD):=fun pins s σ H Q I h=>
 pairTrees_cons_walk (dY (hk pins s σ H _ I h) fun u s1 ⟨x,H1,I1,rx,q1⟩=>dY (hv pins s1 σ H1 _ I1 q1) fun w2 s2 ⟨y,H2,I2,ry,q2⟩=>
  dY (hr pins s2 σ H2 _ I2 q2) fun ws s3 ⟨ps,H3,I3,rel,q3⟩=>⟨(x,y) ::ps,H3,I3, .cons ⟨rx,ry⟩ rel,q3⟩)
def lg(kvs more:List (Key × V)):List (Key × V):=more.foldl (fun acc kv=>putK acc kv.1 kv.2) kvs
theorem KV.merge:∀{more:List (Key × V)} {rs:List (Key × Value)} {kvs:List (Key × V)} {vs:List (Key × Value)},KV more rs->KV kvs vs->KV (lg kvs more) (merged vs rs):=by
 intro more rs kvs vs r;unfold KV at r
 induction r generalizing kvs vs with
 | nil=>intro q;exact q
 | @cons p q ps qs h t ih=>
   intro r0;have e:KV (putK kvs p.1 p.2) (stored vs q.1 q.2):=by
    have:=r0.put p.1 h.2;rw[<-h.1];exact this
   exact ih e
theorem pS:∀(more kvs:List (Key × V)),(lg kvs more).length<=kvs.length+more.length
 | [],kvs=>by show kvs.length<=kvs.length+0;omega
 | p ::r,kvs=>by
   have h1:=pS r (putK kvs p.1 p.2);have h2:=oO kvs p.1 p.2;show(lg (putK kvs p.1 p.2) r).length<=_;rw[List.length_cons];omega
theorem uO:∀{kvs:List (Key × V)} {ws:List (Value × Value)},VV (kvs.map fun kv=>(kV kv.1,kv.2)) ws->∃rs,Carries (cU P w) ws rs/\KV kvs rs
 | [],_,r=>by rw[List.map_nil] at r;cases r;exact⟨[],True.intro, .nil⟩
 | p ::kvs,_,r=>by
   rw[List.map_cons] at r;cases r with
   | @cons a b as bs h t=>
     obtain⟨rs,c,q⟩:=uO (P:=P) (w:=w) t;obtain⟨b1,b2⟩:=b;exact⟨(p.1,b2) ::rs,⟨Ac h.1,rfl,c⟩, .cons ⟨rfl,h.2⟩ q⟩
def IA(BD:List (TE × TE)):TE:=fun σ H Q=>∀p,H p=none->vD BD σ (upd H p (.dK [])) fun ps H2=>H2 p=some (.dK [])/\∃kvs:List (Key × V),ps=kvs.map (fun kv=>(kV kv.1,kv.2))/\kvs.length<=15/\Q (.ref p) (upd H2 p (.dK (lg [] kvs)))
theorem Ln{X:Cx}{pos:Pos}{keys:List (Option Expr)}{values:List Expr}{BD:List (TE × TE)}(h:O4 X pos keys values BD)(uo:keys.all (·.isSome)=true)(hl:keys.length=values.length)(h0:keys≠[])
 (Yw:keys.length<=15):PE X (.Dict keys values pos) (IA BD):=by
 intro pins s σ H Q I q;have hn:=I.hok.fresh (Nat.le_refl s.heap.objs.size);have I1:=I.laid (a:=s.heap.objs.size) (o:= .dK []) (h':=s.heap.push {cls:= .type "dict",data:= .dict #[]}) (t':=s.toks) (fun _ _ q=>Heap.get?_push_of_some _ q) (Nat.le_refl _) (z8 s.heap I.big)
 refine wpAny_Dict_walk (knd:=cU X.prog X.w) uo hl h0 Yw (dY (h pins _ σ _ _ I1 (q _ hn)) fun ws s2 ⟨ps,H2,I2,rel,e,kvs,ep,lk,q2⟩=>?_)
 subst ep;obtain⟨rs,c,rk⟩:=uO (P:=X.prog) (w:=X.w) rel;obtain⟨z,hd,Zp,r0,dd⟩:=GS I2.hok e;cases r0;refine⟨rs,c,dd,fun h' OQ hs=>⟨.ref s.heap.objs.size,_,?_,rfl,q2⟩⟩
 have hz:(lg [] kvs).length<=sizeLine:=by
  have h1:=pS kvs [];rw[List.length_nil] at h1;rw[sizeLine_eq];omega
 have he:∃q,h'.get? s.heap.objs.size=some q:=let⟨q,_,_,hq,_⟩:=OQ;⟨q,hq⟩
 exact yI I2 (by rw[e];exact True.intro) hs he (GX hz hd (rk.merge .nil) OQ)
structure M1 (X:Cx) (o:Expr) (m:Str) (apos:Pos) (e:Expr) (cD:Pos):Prop where
 base:attributeBase o m X.env (eval o X.env)=eval o X.env
 few:((backTo cD (starEach [e] X.env)).all (fun x=>!x.1) && (backToKw cD (keywordEach [] X.env)).all (fun x=>x.1.isSome)
  && decide (([e]:List Expr).length+([]:List Keyword).length+(if([]:List Keyword).isEmpty then 0 else 1) < 30))=true
 line:(apos.endLine==cD.line)=true
 trees:backTo cD (starEach [e] X.env)=[(false,eval e X.env)]
structure M2 (X:Cx) (o:Expr) (m:Str) (apos:Pos) (e f:Expr) (cD:Pos):Prop where
 base:attributeBase o m X.env (eval o X.env)=eval o X.env
 few:((backTo cD (starEach [e,f] X.env)).all (fun x=>!x.1) && (backToKw cD (keywordEach [] X.env)).all (fun x=>x.1.isSome)
  && decide (([e,f]:List Expr).length+([]:List Keyword).length+(if([]:List Keyword).isEmpty then 0 else 1) < 30))=true
 line:(apos.endLine==cD.line)=true
 trees:backTo cD (starEach [e,f] X.env)=[(false,eval e X.env),(false,eval f X.env)]
def Pq(H:Hp)(a:Addr):Prop:=(∃kvs,Rd H a (.dK kvs))\/∃kvs,Rd H a (.dT kvs)
theorem MK{X:Cx}{pins:Zy}{s:Shared}{a:Addr}(I:Inv X pins σ H s)(d:Pq H a) :
 s.TypeIs (.ref a) "dict"/\(∀b,Value.ref a= .ref b->∃ob,s.heap.get? b=some ob/\ob.dict=none)/\(a==sysModules)=false:=by
 rcases d with⟨kvs,e⟩ | ⟨kvs,e⟩
 .obtain⟨_,hd,vs,_,dd⟩:=Du I.hok e;refine⟨dd.typeIs,fun b q=>?_,hd⟩
  cases q;obtain⟨ob,_,_,h1,h2,_⟩:=dd;exact⟨ob,h1,h2.2.1⟩
 .obtain⟨_,hd,xs,_,dd⟩:=Eh I.hok e;refine⟨dd.typeIs,fun b q=>?_,hd⟩
  cases q;obtain⟨ob,_,_,h1,h2,_⟩:=dd;exact⟨ob,h1,h2.2.1⟩
section
variable {X:Cx} {pins:Zy} {σ:St} {H:Hp} {s:Shared} {a:Addr} {y d:V} {u r:Value} {o:Option V} {A:Around} {E:Zz}
theorem NZ{Q:Zz}(hu:A.units+1 < cLine)(I:Inv X pins σ H s)(g:uc H a y o)(ry:RelV y u)(rd:RelV d r)(h:∀w' s',Inv X pins σ H s'->RelV (o.getD d) w'->Q w' s') :
 wpAny (model X.prog X.w) A (call (.builtin "dict.get") [.ref a,u,r]) Q E s:=by
 rcases g with⟨kvs,k,e,ey,l⟩ | ⟨kvs,k,b,e,ey,eb,l⟩
 .subst ey;obtain⟨z,hd,vs,rel,dd⟩:=Du I.hok e;refine call_meetsIn PySem.F.slot_dict_get dd.typeIs PySem.F.entry_dict_get (PySem.F.args_dict_get_3 _ _ _) (meets_dict_get_default (cU X.prog X.w) a (Ac ry) hd r) ⟨_,dd.mapOf,h _ _ (I.tok _) ?_⟩;rw[l];exact(rel.val k).getD rd
 .subst ey;cases(show u=Value.ref b from ry)
  obtain⟨z,hd,xs,rel,dd⟩:=Eh I.hok e;refine call_meetsIn PySem.F.slot_dict_get dd.typeIs PySem.F.entry_dict_get (PySem.F.args_dict_get_3 _ _ _) (meetsH_dict_get_default (tupleKind (cU X.prog X.w)) a b hd r) ⟨tupleKind_room_in1 hu,k,xs,yM I.hok eb,dd,h _ _ (I.tok _) ?_⟩;rw[l];exact(rel.val k).getD rd
end
def Sn(td ty:TE):TE:=fun σ H Q=>td σ H fun x H1=>∃a,x= .ref a/\Pq H1 a/\ty σ H1 fun y H2=>∃o,uc H2 a y o/\Q (o.getD .cH) H2
def Mv(td ty tx:TE):TE:=fun σ H Q=>td σ H fun x H1=>∃a,x= .ref a/\Pq H1 a/\ty σ H1 fun y H2=>tx σ H2 fun z H3=>∃o,uc H3 a y o/\Q (o.getD z) H3
def S_(td ty:TE):TE:=fun σ H Q=>td σ H fun x H1=>∃a,x= .ref a/\Pq H1 a/\ty σ H1 fun y H2=>∃kvs k v,H2 a=some (.dK kvs)/\y=kV k/\lh kvs k=some v/\Q v (upd H2 a (.dK (Hb kvs k)))
def SX(td ty tx:TE):TE:=fun σ H Q=>td σ H fun x H1=>∃a,x= .ref a/\Pq H1 a/\ty σ H1 fun y H2=>tx σ H2 fun z H3=>∃kvs k,H3 a=some (.dK kvs)/\y=kV k/\
 (∀v,lh kvs k=some v->Q v (upd H3 a (.dK (Hb kvs k))))/\(lh kvs k=none->Q z H3)
section
variable {X:Cx} {o e f:Expr} {apos cD:Pos} {td ty tx:TE}
theorem G7(hu:X.A.units+1 < cLine)(ho:PE X o td)(he:PE X e ty)(hf:PE X f tx)(m:M2 X o "get" apos e f cD):PE X (.Call (.Attribute o "get" apos) [e,f] [] cD) (Mv td ty tx):=by
 intro pins s σ H Q I h;refine wpAny_Call_method m.base m.few m.line PySem.F.plainAttrs_dict PySem.F.slot_dict_get PySem.F.type_dict_get (dY (ho pins s σ H _ I h) fun u s1 ⟨x,H1,I1,rx,a,ex,d,q1⟩=>?_)
 subst ex;obtain rfl:u=Value.ref a:=rx;obtain⟨t1,t2,_⟩:=MK I1 d;refine⟨t1,t2,?_⟩;rw[m.trees];refine Calls.callWith_builtin rfl (Calls.evalArgs_plain (Calls.spliced_cons (dY (he pins s1 σ H1 _ I1 q1) fun iv s2 ⟨y,H2,I2,ry,q2⟩=>
  Calls.spliced_cons (dY (hf pins s2 σ H2 _ I2 q2) fun fv s3 ⟨z,H3,I3,rz,ov,g,q3⟩=>Calls.spliced_nil ?_))))
 exact NZ hu I3 g ry rz fun w' s4 I4 JJ=>⟨_,H3,I4,JJ,q3⟩
end
section
variable {X:Cx} {pins:Zy} {σ:St} {H:Hp} {s:Shared} {a:Addr} {kvs:List (Key × V)} {A:Around} {E:Zz}
end
section
variable {X:Cx} {pins:Zy} {σ:St} {H:Hp} {s:Shared} {a:Addr} {y:V} {u:Value} {A:Around} {E:Zz}
end
end L2
namespace HT
open PySem PyProof.Rows
def lexLt:List Int->List Int->Bool
 | [],[]=>false
 | [],_ ::_=>true
 | _ ::_,[]=>false
 | x ::xs,y ::ys=>if x=y then lexLt xs ys else decide (x < y)
section
open PySem.SeqAt
open PySem.AutoSeq1 (wpAny_loadPart')
open PySem.MeetsSeq PySem.MeetsSeq2 PySem.MeetsSeq3
end
section
variable {prog:Program} {w:World} {A:Around} {E:Zz} {s:Shared}
theorem KH{t b:Addr}{vs ws:List Value}{Q:Zz}(ht:IsTup s.heap t vs.toArray)(hb:IsTup s.heap b ws.toArray)(hv:vs≠[])
 (h1:ws=[]->Q (.ref t) s) (h2:ws≠[]->Q (.ref s.heap.objs.size) {s with heap:=s.heap.push {cls:= .type "tuple",data:= .seq (vs++ws).toArray}})
 (hsz:vs.length+ws.length<=sizeLine):wpAny (model prog w) A (binaryOp .Add (.ref t) (.ref b)) Q E s:=by
 obtain⟨⟨cls,dd,data,sl⟩,ho,hc,n,hd⟩:=id ht;obtain⟨⟨Ui,RV,data2,Pe⟩,OM,hc2,n2,hd2⟩:=id hb;simp only at hc hd hc2 hd2;subst hc hd hc2 hd2;have e:vs.toArray++ws.toArray=(vs++ws).toArray:=by simp
 by_cases hw:ws=[]
 .exact concat_meets ⟨_,ho,rfl⟩ ⟨_,OM,rfl⟩ noFill_tuple_add seq_tuple_add PySem.F.slot_tuple_add PySem.F.entry_tuple_add (PySem.F.args_tuple_add_2 _ _)
   (tuple_addW1 t b vs.toArray ws.toArray n n2 dd RV sl Pe (by simpa using hv) (by simp [hw])) ⟨ho,OM,h1 hw⟩
 .refine concat_meets ⟨_,ho,rfl⟩ ⟨_,OM,rfl⟩ noFill_tuple_add seq_tuple_add PySem.F.slot_tuple_add PySem.F.entry_tuple_add (PySem.F.args_tuple_add_2 _ _)
   (tuple_addW2 t b vs.toArray ws.toArray n n2 dd RV sl Pe (by simpa using hv) (by simpa using hw) (by rw[List.size_toArray,List.size_toArray];exact hsz)) ⟨ho,OM,?_⟩
  rw[e];exact h2 hw
def hJ(n d:Nat):Option Int->Nat
 | none=>d
 | some v=>if v < 0 then(v+(n:Int)).toNat else min v.toNat n
theorem AF(n d:Nat):hJ n d none=d:=rfl
theorem DC(n d k:Nat):hJ n d (some (k:Int))=min k n:=by
 show(if(k:Int) < 0 then((k:Int)+(n:Int)).toNat else min (k:Int).toNat n)=min k n
 rw[if_neg (by omega),Int.toNat_natCast]
theorem Of(n d:Nat)(hd:d<=n)(o:Option Int):hJ n d o<=n:=by
 cases o with
 | none=>exact hd
 | some v=>
   show(if v < 0 then(v+(n:Int)).toNat else min v.toNat n)<=n
   by_cases hv:v < 0
   .rw [if_pos hv];omega
   .rw [if_neg hv];exact Nat.min_le_right _ _
theorem Ez(v:Int)(n d:Nat):(if v < 0 then max (v+(n:Int)) 0 else min v (n:Int))=((hJ n d (some v):Nat):Int):=by
 show(if v < 0 then max (v+(n:Int)) 0 else min v (n:Int))=(((if v < 0 then(v+(n:Int)).toNat else min v.toNat n):Nat):Int)
 by_cases hv:v < 0
 .simp only[if_pos hv];omega
 .simp only[if_neg hv];omega
theorem Ck(lo hi:Option Int)(n:Nat):Builtin.Slice.sliceAdjust lo hi 1 (n:Int)=(((hJ n 0 lo:Nat):Int),((hJ n n hi:Nat):Int)):=by
 have h1:¬((1:Int) < 0):=by omega
 unfold Builtin.Slice.sliceAdjust;simp only[h1,if_false];refine Prod.ext ?_ ?_
 .cases lo with
  | none=>rfl
  | some v=>exact Ez v n 0
 .cases hi with
  | none=>rfl
  | some v=>exact Ez v n n
theorem CN(i j:Nat):Builtin.Slice.slicePlaces (i:Int) (j:Int) 1=j - i:=by
 unfold Builtin.Slice.slicePlaces;have h1:(1:Int) > 0:=by omega
 simp only[h1,if_true,Int.ediv_one];split <;> omega
theorem uV{v:Value}{o:Option Int}{Q:Option Int->Shared->Prop}(p:IsPart v o)(h:Q o s):wpAny (model prog w) A (Builtin.Slice.slicePartIndex v) Q E s:=by
 cases p with
 | none=>exact slicePart_none h
 | int i t=>exact slicePart_int h
theorem sC{sl:Addr}{vl vu:Value}{lo hi:Option Int}{n:Nat}{Q:Int × Int × Nat->Shared->Prop}(hs:s.heap.IsSliceOf sl vl vu .none)(pl:IsPart vl lo)(pu:IsPart vu hi)
 (h:Q (((hJ n 0 lo:Nat):Int),1,hJ n n hi - hJ n 0 lo) s):wpAny (model prog w) A (Builtin.Slice.sliceApplied (.ref sl) (pure (n:Int))) Q E s:=by
 obtain⟨os,hos,hcs,hds⟩:=id hs;unfold Builtin.Slice.sliceApplied Builtin.Slice.sliceFields;refine wpAny_bind (wpAny_bind (wpAny_field hos hds (x:=vl) rfl (wpAny_bind (wpAny_field hos hds (x:=vu) rfl (wpAny_bind (wpAny_field hos hds (x:= .none) rfl (wpAny_pure ?_)))))));refine wpAny_bind (slicePart_none ?_);show wpAny _ _ (if((1:Int)==0)=true then _ else _) _ _ s
 rw[if_neg (by decide)]
 refine wpAny_bind (uV pl (wpAny_bind (uV pu (wpAny_bind (wpAny_pure ?_)))));show wpAny _ _ (match Builtin.Slice.sliceAdjust lo hi 1 (n:Int) with | (lo,hi)=>pure (lo,(1:Int),Builtin.Slice.slicePlaces lo hi 1)) _ _ s
 rw[Ck lo hi n];show wpAny _ _ (pure (((hJ n 0 lo:Nat):Int),(1:Int),Builtin.Slice.slicePlaces ((hJ n 0 lo:Nat):Int) ((hJ n n hi:Nat):Int) 1)) _ _ s;rw[CN];exact wpAny_pure h
theorem Hh(xs:Array Value)(i k:Nat):((List.range k).filterMap fun(m:Nat)=>xs[((i:Int)+(m:Int)*1).toNat]?).toArray=((xs.toList.drop i).take k).toArray:=by
 have e:(fun(m:Nat)=>xs[((i:Int)+(m:Int)*1).toNat]?)=fun m=>xs[i+m]?:=by
  funext m;have:((i:Int)+(m:Int)*1).toNat=i+m:=by omega
  rw[this]
 rw[e];have:=pick_run xs i k;rw[List.filterMap_map] at this;have e2:((fun x=>xs[x]?) ∘ fun x=>i+x)=fun m=>xs[i+m]?:=rfl
 rw[e2] at this;rw[this]
theorem qO{t sl:Addr}{items:Array Value}{vl vu:Value}{lo hi:Option Int}{Q:Zz}(ht:IsTup s.heap t items)(hs:s.heap.IsSliceOf sl vl vu .none)(pl:IsPart vl lo)(pu:IsPart vu hi)
 (hw:¬(hJ items.size 0 lo=0/\hJ items.size items.size hi=items.size))
 (h:Q (.ref s.heap.objs.size) {s with heap:=s.heap.push {cls:= .type "tuple",data:= .seq ((items.toList.drop (hJ items.size 0 lo)).take (hJ items.size items.size hi - hJ items.size 0 lo)).toArray}})
 (hsz:items.size<=sizeLine):wpAny (model prog w) A (getItem (.ref t) (.ref sl)) Q E s:=by
 have htake:sizeOk (.seq ((items.toList.drop (hJ items.size 0 lo)).take (hJ items.size items.size hi - hJ items.size 0 lo)).toArray):=by
  show((items.toList.drop (hJ items.size 0 lo)).take (hJ items.size items.size hi - hJ items.size 0 lo)).toArray.size<=sizeLine;rw[List.size_toArray,List.length_take,List.length_drop,Array.length_toList];omega
 have hj:hJ items.size items.size hi<=items.size:=Of _ _ (Nat.le_refl _) hi;obtain⟨os,hos,hcs,hds⟩:=id hs;have hTs:s.TypeIs (.ref sl) "slice":=⟨os,hos,hcs⟩;unfold getItem
 try with_reducible refine wpAny_holding ?_
 first | refine wpAny_bind (wpAny_pure ?_) | skip
 refine wpAny_bind (wpAny_sequenceKey ht.typeIs (by decide) ?_)
 refine wpAny_bind (wpAny_callSpecial?_slot (name:="__getitem__") ht.typeIs PyProof.Rows.slot_tuple_getitem
  (wpAny_call_entry PyProof.Rows.slot_tuple_getitem ht.typeIs entry_tuple_getitem ?_ (args_tuple_getitem _ _)))
 show wpAny _ _ (Builtin.Tuple.tupleItemsOf (.ref t) >>=_) _ _ s;refine wpAny_bind (tupleItemsOf_ ht ?_);refine wpAny_bind (wpAny_typeOf hTs ?_);rw[if_pos (by decide)]
 refine wpAny_bind (sC hs pl pu ?_);have hno:¬((((hJ items.size 0 lo:Nat):Int)==0 && (1:Int)==1 && (hJ items.size items.size hi - hJ items.size 0 lo)==items.size)=true):=by
  intro q;rw[Bool.and_eq_true,Bool.and_eq_true] at q;have q1:((hJ items.size 0 lo:Nat):Int)=0:=eq_of_beq q.1.1;have q2:hJ items.size items.size hi - hJ items.size 0 lo=items.size:=eq_of_beq q.2;exact hw ⟨by omega,by omega⟩
 show wpAny _ _ (if(((hJ items.size 0 lo:Nat):Int)==0 && (1:Int)==1 && (hJ items.size items.size hi - hJ items.size 0 lo)==items.size)=true then _ else _) _ _ s
 rw[if_neg hno,Hh]
 first
  | exact wpAny_bind (m:=Builtin.Tuple.tupleExact _) (wpAny_newObj_type (wpAny_pure ⟨_,rfl,wpAny_pure h⟩) htake)
  | exact wpAny_bind (m:=Builtin.Tuple.tupleExact _) (wpAny_newObj_type (wpAny_bind (wpAny_pure (wpAny_pure ⟨_,rfl,wpAny_pure h⟩))) htake)
  | exact wpAny_bind (wpAny_bind (m:=Builtin.Tuple.tupleExact _) (wpAny_newObj_type (wpAny_pure (wpAny_pure ⟨_,rfl,wpAny_pure h⟩)) htake))
  | exact wpAny_bind (wpAny_bind (m:=Builtin.Tuple.tupleExact _) (wpAny_newObj_type (wpAny_pure ⟨_,rfl,wpAny_pure h⟩) htake))
end
end HT
namespace L2
open PySem PySem.Spec PyProof.Rows
abbrev TO:=St->Hp->(Option Int->Hp->Prop)->Prop
def PO(X:Cx)(e:Option Expr)(t:TO):Prop:=
 ∀(pins:Zy) (s:Shared) (σ:St) (H:Hp) (Q:Option Int->Hp->Prop),Inv X pins σ H s->t σ H Q->
  wpAny (model X.prog X.w) X.A (evalPart e X.env) (fun u s'=>∃o H',Inv X pins σ H' s'/\IsPart u o/\Q o H') X.xe s
def KA:TO:=fun _ H Q=>Q none H
def PH(t:TE):TO:=fun σ H Q=>t σ H fun x H1=>∃i,x= .int i/\Q (some i) H1
section
variable {X:Cx} {e:Expr} {te:TE} {lo hi:Option Expr} {tl th:TO} {pos p2:Pos}
theorem LD:PO X none KA:=by
 intro pins s σ H Q I h;rw[evalPart_none];exact wpAny_pure ⟨none,H,I, .none,h⟩
theorem Lg(h:PE X e te):PO X (some e) (PH te):=by
 intro pins s σ H Q I hw;rw[evalPart_some];refine dY (h pins s σ H _ I hw) fun u s1 ⟨x,H1,I1,r1,q1⟩=>?_
 obtain⟨i,rfl,q⟩:=q1;obtain⟨t,rfl⟩:=r1;exact⟨some i,H1,I1, .int i t,q⟩
def Mi(X:Cx)(r:V->Option Int->Option Int->Hp->VK->Prop):Prop:=
 ∀(pins:Zy) (s:Shared) (σ:St) (H:Hp) (x:V) (v vl vu:Value) (lo hi:Option Int) (sl:Addr) (Q:VK),Inv X pins σ H s->RelV x v->s.heap.IsSliceOf sl vl vu .none->IsPart vl lo->IsPart vu hi->r x lo hi H Q->
  ∃T id,typeLookup (.type T) "__getitem__"=pure (some (.builtin id))/\s.TypeIs v T/\wpAny (model X.prog X.w) X.A (getItem v (.ref sl)) (EP X pins σ Q) X.xe s
theorem Mi.or{r r':V->Option Int->Option Int->Hp->VK->Prop}(h:Mi X r)(h':Mi X r'):Mi X (fun x lo hi H Q=>r x lo hi H Q\/r' x lo hi H Q):=by
 intro pins s σ H x v vl vu lo hi sl Q I rx hs pl pu q;rcases q with q | q
 .exact h pins s σ H x v vl vu lo hi sl Q I rx hs pl pu q
 .exact h' pins s σ H x v vl vu lo hi sl Q I rx hs pl pu q
def Xe(r:V->Option Int->Option Int->Hp->VK->Prop)(te:TE)(tl th:TO):TE:=fun σ H Q=>te σ H fun x H1=>tl σ H1 fun l H2=>th σ H2 fun u H3=>r x l u H3 Q
theorem An{r:V->Option Int->Option Int->Hp->VK->Prop}(hr:Mi X r)(he:PE X e te)(hl:PO X lo tl)(hu:PO X hi th):PE X (.Subscript e (.Slice lo hi none p2) pos) (Xe r te tl th):=by
 intro pins s σ H Q I h;refine Subscript_ (dY (he pins s σ H _ I h) fun v s1 ⟨x,H1,I1,r1,q1⟩=>?_)
 refine wpAny_Slice (dY (hl pins s1 σ H1 _ I1 q1) fun vl s2 ⟨l,H2,I2,pl,q2⟩=>dY (hu pins s2 σ H2 _ I2 q2) fun vu s3 ⟨u,H3,I3,pu,q3⟩=>?_)
 rw[evalPart_none];refine wpAny_pure ?_;have I4:Inv X pins σ H3 {s3 with heap:=s3.heap.push {cls:= .type "slice",data:= .fields #[vl,vu, .none]}}:=I3.kept (t':=s3.toks) fun b ob q=>Heap.get?_push_of_some _ q
 obtain⟨T,id,hT,ht,hg⟩:=hr pins {s3 with heap:=s3.heap.push {cls:= .type "slice",data:= .fields #[vl,vu, .none]}} σ H3 x v vl vu l u s3.heap.objs.size Q I4 r1 (Heap.IsSliceOf.new ..) pl pu q3
 show wpAny (model X.prog X.w) X.A (subscriptTail e (.Slice lo hi none p2) v (.ref s3.heap.objs.size)) (EP X pins σ Q) X.xe {s3 with heap:=s3.heap.push {cls:= .type "slice",data:= .fields #[vl,vu, .none]}}
 exact tail_any (ops:=[.ref s3.heap.objs.size,v]) ht hT hg (by with_unfolding_all rfl)
def Bo(xs:List V)(lo hi:Option Int):List V:=(xs.drop (HT.hJ xs.length 0 lo)).take (HT.hJ xs.length xs.length hi - HT.hJ xs.length 0 lo)
theorem tU(xs:List V)(lo hi:Option Int):(Bo xs lo hi).length<=xs.length:=by
 unfold Bo;rw[List.length_take,List.length_drop];omega
def TK(K:W.Frag):V->Option Int->Option Int->Hp->VK->Prop:=fun x lo hi H Q=>∃a xs,x= .ref a/\tM K H a xs/\
 ¬(HT.hJ xs.length 0 lo=0/\HT.hJ xs.length xs.length hi=xs.length)/\∀p,H p=none->Q (.ref p) (upd H p (.tup (Bo xs lo hi)))
theorem MJ:Mi X (TK X.K):=by
 intro pins s σ H x v vl vu lo hi sl Q I rx hs pl pu h;obtain⟨a,xs,rfl,hx,hw,q⟩:=h;cases rx;obtain⟨its,r,ht,hz⟩:=I.tuple hx;have hlen:its.toArray.size=xs.length:=by rw[List.size_toArray];exact r.length.symm
 refine⟨"tuple",_,PyProof.Rows.slot_tuple_getitem.lookup,ht.typeIs,?_⟩;refine HT.qO ht hs pl pu (by rw[hlen];exact hw) ?_ (by rw[hlen];exact hz)
 rw[hlen];refine⟨.ref s.heap.objs.size,_,I.laid (t':=s.toks) (o:= .tup (Bo xs lo hi)) (fun b ob q=>Heap.get?_push_of_some _ q) (Nat.le_refl _) ?_,rfl,q _ (I.hok.fresh (Nat.le_refl _))⟩
 exact⟨Nat.le_trans (tU xs lo hi) hz,_,(r.drop (HT.hJ xs.length 0 lo)).take (HT.hJ xs.length xs.length hi - HT.hJ xs.length 0 lo),IsTup.new _ _⟩
def W_(K:W.Frag):R2:=fun x y H Q=>∃a b ns ms,x= .ref a/\y= .ref b/\tM K H a (ns.map V.int)/\tM K H b (ms.map V.int)/\Q (.bl (HT.lexLt ns ms)) H
def Vs(K:W.Frag):R2:=fun x y H Q=>∃a b xs ys,x= .ref a/\y= .ref b/\tM K H a xs/\tM K H b ys/\xs≠[]/\xs.length+ys.length<=sizeLine/\
 (ys=[]->Q (.ref a) H)/\(ys≠[]->∀p,H p=none->Q (.ref p) (upd H p (.tup (xs++ys))))
end
def Ai(n:Nat)(i:Int):Option Nat:=if 0<=i then(if i < n then some i.toNat else none) else if -(n:Int)<=i then some (i+n).toNat else none
def sU{α:Type}(xs:List α)(i:Int):Option α:=(Ai xs.length i).bind fun j=>xs[j]?
theorem DV{n:Nat}{i:Int}{j:Nat}(h:Ai n i=some j):seqIndex? i n=some j/\j < n/\ -(n:Int)<=i/\i < n:=by
 unfold Ai at h;by_cases h0:0<=i
 .rw [if_pos h0] at h;by_cases h1:i < n
  .rw [if_pos h1] at h;have e:i.toNat=j:=Option.some.inj h;exact⟨by rw[seqIndex_of h0 h1,e],by omega,by omega,h1⟩
  .rw [if_neg h1] at h;cases h
 .rw [if_neg h0] at h;by_cases h1: -(n:Int)<=i
  .rw [if_pos h1] at h;have e:(i+n).toNat=j:=Option.some.inj h;exact⟨by rw[seqIndex_neg (by omega) h1,e],by omega,h1,by omega⟩
  .rw [if_neg h1] at h;cases h
theorem zm{α:Type}{xs:List α}{i:Int}{v:α}(h:sU xs i=some v):∃j,seqIndex? i xs.length=some j/\xs[j]? =some v/\j < xs.length/\ -(xs.length:Int)<=i/\i < xs.length:=by
 unfold sU at h;cases e:Ai xs.length i with
 | none=>rw [e] at h;cases h
 | some j=>
   rw[e] at h;obtain⟨h1,h2,h3,h4⟩:=DV e;exact⟨j,h1,h,h2,h3,h4⟩
def uD(b:Expr):Prop:=∀o i,subscripted b false o i=operate [o,i] (getItem o i)
def Kk(X:Cx)(r:R2):Prop:=
 ∀(value slice:Expr) (pins:Zy) (s:Shared) (σ:St) (H:Hp) (x y:V) (v u:Value) (Q:VK),Inv X pins σ H s->RelV x v->RelV y u->r x y H Q->
  subscripted slice false v u=operate [v,u] (getItem v u)->wpAny (model X.prog X.w) X.A (subscriptTail value slice v u) (EP X pins σ Q) X.xe s
def Wz(X:Cx)(id:String)(r:V->List V->Hp->VK->Prop):Prop:=
 ∀(pins:Zy) (s:Shared) (σ:St) (H:Hp) (x:V) (xs:List V) (v:Value) (us:List Value) (Q:VK),Inv X pins σ H s->RelV x v->Vals xs us->r x xs H Q->
  wpAny (model X.prog X.w) X.A (call (.builtin id) (v ::us)) (EP X pins σ Q) X.xe s
section
variable {X:Cx} {a b:Expr} {ta tb:TE} {pos:Pos}
theorem Kk.or{r r':R2}(h:Kk X r)(h':Kk X r'):Kk X (fun x y H Q=>r x y H Q\/r' x y H Q):=by
 intro value slice pins s σ H x y v u Q I rx ry q hs;rcases q with q | q
 .exact h value slice pins s σ H x y v u Q I rx ry q hs
 .exact h' value slice pins s σ H x y v u Q I rx ry q hs
theorem LQ{r:R2}(hr:Kk X r)(ha:PE X a ta)(hb:PE X b tb)(hs:uD b):PE X (.Subscript a b pos) (O2 r ta tb):=by
 intro pins s σ H Q I h;exact Subscript_ (Nk ha hb I h fun v u s2 x y H2 I2 rx ry q=>hr a b pins s2 σ H2 x y v u Q I2 rx ry q (hs _ _))
def Qn(K:W.Frag):R2:=fun x y H Q=>∃p xs i v,x= .ref p/\y= .int i/\pM K H p xs/\sU xs i=some v/\Q v H
def QT(K:W.Frag):R2:=fun x y H Q=>∃p xs i v,x= .ref p/\y= .int i/\tM K H p xs/\sU xs i=some v/\Q v H
def P5:R2:=fun x y H Q=>∃z i c,x= .str z/\y= .int i/\z.length<=sizeLine/\sU z.cps.toList i=some c/\Q (.str ⟨#[c]⟩) H
theorem Kl:Kk X (Qn X.K):=by
 intro value slice pins s σ H x y v u Q I rx ry h hs;obtain⟨p,xs,i,z,rfl,rfl,hq,he,q⟩:=h;cases rx;obtain⟨t,rfl⟩:=ry;obtain⟨its,r,pl,hz⟩:=I.list hq;obtain⟨j,h1,h2,h3,h4,h5⟩:=zm he;obtain⟨w,ew,JJ⟩:=r.get h2;have hl:=r.length;have hn:=sj;have fin:EP X pins σ Q w s:=⟨z,H,I,JJ,q⟩;by_cases h0:0<=i
 .have hj:i.toNat=j:=by
   rw[seqIndex_of h0 h5] at h1;exact Option.some.inj h1
  exact item_listR pl.isList h0 (by omega) (by rw[hj];simpa using ew) fin hs
 .have hj:(i+(its.toArray.size:Int)).toNat=j:=by
   rw[seqIndex_neg (by omega) h4] at h1
   rw[List.size_toArray,<-hl];exact Option.some.inj h1
  exact subscriptTail_builtinR (x:=w) pl.isList.typeIs slot_list_getitem.lookup
   (wpAny_getItem_list_neg (Q:=fun r s'=>r=w/\EP X pins σ Q r s') pl.isList (by omega) (by rw[List.size_toArray] <;> omega) (by omega) (by rw[hj];simpa using ew) ⟨rfl,fin⟩) hs
theorem Mw:Kk X (QT X.K):=by
 intro value slice pins s σ H x y v u Q I rx ry h hs;obtain⟨p,xs,i,z,rfl,rfl,hq,he,q⟩:=h;cases rx;obtain⟨t,rfl⟩:=ry;obtain⟨its,r,pl,hz⟩:=I.tuple hq;obtain⟨j,h1,h2,h3,h4,h5⟩:=zm he;obtain⟨w,ew,JJ⟩:=r.get h2;have hl:=r.length;have hn:=sj;have fin:EP X pins σ Q w s:=⟨z,H,I,JJ,q⟩;exact subscriptTail_builtinR (x:=w) pl.typeIs slot_tuple_getitem.lookup
  (getItem_tuple (j:=j) (Q:=fun r s'=>r=w/\EP X pins σ Q r s') pl (by omega) (by omega) (by rw[List.size_toArray,<-hl];exact h1) (by simpa using ew) ⟨rfl,fin⟩) hs
theorem Ny:Kk X P5:=by
 intro value slice pins s σ H x y v u Q I rx ry h hs;obtain⟨z,i,c,rfl,rfl,hz,he,q⟩:=h;obtain⟨t,rfl⟩:=rx;obtain⟨t',rfl⟩:=ry;obtain⟨j,h1,h2,h3,h4,h5⟩:=zm he;have hl:z.cps.toList.length=z.length:=by simp [Str.length]
 rw[hl] at h1 h4 h5;have hn:=sj;exact tail_any (typeIs_str s z t) slot_str_getitem.lookup (getItem_str (c:=c) (by
  have e1:decide (i < -(2 ^ 63:Int))=false:=decide_eq_false (by omega)
  have e2:decide (i>=2 ^ 63)=false:=decide_eq_false (by omega)
  rw[e1,e2,Bool.or_false]) (by rw[h1];simpa using h2) ⟨.str ⟨#[c]⟩,H,I.tok _,⟨_,rfl⟩,q⟩) hs
def Tz(K:W.Frag):R2:=fun x y H Q=>Qn K x y H Q\/QT K x y H Q\/P5 x y H Q
theorem IG:Kk X (Tz X.K):=Kl.or (Mw.or Ny)
theorem CB(its:List Value)(n j:Nat)(u:Value):Obj.mapSeq (·.setIfInBounds j u) {cls:= .type "list",data:= .seq its.toArray n}={cls:= .type "list",data:= .seq (its.set j u).toArray n}:=by
 simp [Obj.mapSeq]
theorem Inv.lst{pins:Zy}{H:Hp}{s:Shared}{p:Addr}{xs:List V}(I:Inv X pins σ H s)(h:H p=some (.lst xs)) :
 ∃(its:List Value) (n:Nat),Vals xs its/\s.heap.get? p=some {cls:= .type "list",data:= .seq its.toArray n}/\xs.length<=sizeLine:=by
 obtain⟨z,its,n,r,e⟩:=I.hok p _ h;exact⟨its,n,r,e,z⟩
theorem Inv.Oc{pins:Zy}{σ:St}{H:Hp}{s:Shared}{p:Addr}{xs ys:List V}{its its':List Value}{n n':Nat}{f:Obj->Obj}(I:Inv X pins σ H s)(h:H p=some (.lst xs))
 (ho:s.heap.get? p=some {cls:= .type "list",data:= .seq its.toArray n}) (hf:f {cls:= .type "list",data:= .seq its.toArray n}={cls:= .type "list",data:= .seq its'.toArray n'}) (r:Vals ys its') (hz:ys.length<=sizeLine) (t:Nat) :
 Inv X pins σ (upd H p (.lst ys)) {s with heap:=s.heap.update p f,toks:=t}:=by
 have e:(s.heap.update p f).get? p=some {cls:= .type "list",data:= .seq its'.toArray n'}:=by
  rw[Heap.get?_update_self f ho (by rw[hf] <;> rfl),hf]
 refine I.write (x:=p) (e:=p) (by rw[h];trivial) (.inl rfl) (fun b u hb q=>(Heap.get?_update_other _ _ (Ne.symm hb)).trans q) ⟨_,e⟩ ?_
 exact⟨hz,its',n',r,e⟩
def L4:V->V->V->Hp->(Hp->Prop)->Prop:=fun o i v H Q=>∃p xs k j,o= .ref p/\i= .int k/\H p=some (.lst xs)/\Ai xs.length k=some j/\Q (upd H p (.lst (xs.set j v)))
theorem set_list:Pl X L4:=by
 intro pins s σ H o i v ov iv u Q I ro ri rv h;obtain⟨p,xs,k,j,rfl,rfl,hp,hj,q⟩:=h;cases ro;obtain⟨t,rfl⟩:=ri;obtain⟨its,n,r,ho,hz⟩:=I.lst hp;obtain⟨h1,h2,h3,h4⟩:=DV hj;have hl:=r.length;have hn:=sj;have I':Inv X pins σ (upd H p (.lst (xs.set j v))) {s with heap:=s.heap.update p (Obj.mapSeq (·.setIfInBounds j u))}:=
  I.Oc hp ho (CB its n j u) (r.set rv j) (by rw[List.length_set];exact hz) s.toks
 by_cases h0:0<=k
 .have hk:k.toNat=j:=by
   rw[seqIndex_of h0 h4] at h1;exact Option.some.inj h1
  exact PySem.W.ki_setAt ho h0 (by omega) (by rw[List.size_toArray,<-hl];exact h4) (by rw[hk];exact⟨_,I',q⟩)
 .have hk:(k+(its.toArray.size:Int)).toNat=j:=by
   rw[seqIndex_neg (by omega) h3] at h1
   rw[List.size_toArray,<-hl];exact Option.some.inj h1
  exact PySem.W.ki_setBack ho (by omega) (by rw[List.size_toArray,<-hl];exact h3) (by omega) (by rw[hk];exact⟨_,I',q⟩)
theorem y4(lo hi:Option Int)(n:Nat):(sliceBounds lo hi none n).1=((HT.hJ n 0 lo:Nat):Int)/\(sliceBounds lo hi none n).2.1=((HT.hJ n n hi:Nat):Int)/\(sliceBounds lo hi none n).2.2=1:=by
 refine⟨?_,?_,rfl⟩
 .cases lo with
  | none=>simp [sliceBounds,HT.hJ]
  | some i=>
    simp only[sliceBounds,HT.hJ,Option.getD_none,show(1:Int) > 0 by decide,if_true]
    by_cases h:i < 0
    .simp only[h,if_true] <;> omega
    .simp only[h,if_false] <;> omega
 .cases hi with
  | none=>simp [sliceBounds,HT.hJ]
  | some i=>
    simp only[sliceBounds,HT.hJ,Option.getD_none,show(1:Int) > 0 by decide,if_true]
    by_cases h:i < 0
    .simp only[h,if_true] <;> omega
    .simp only[h,if_false] <;> omega
theorem wY(its:List Value)(lo hi:Option Int):slicePick its.toArray lo hi none=((its.drop (HT.hJ its.length 0 lo)).take (HT.hJ its.length its.length hi - HT.hJ its.length 0 lo)).toArray:=by
 obtain⟨h1,h2,h3⟩:=y4 lo hi its.toArray.size;unfold slicePick;rw[h1,h2,h3];simp only[sliceRange_one,pick_run,List.size_toArray] <;> rfl
def SD(K:W.Frag):V->Option Int->Option Int->Hp->VK->Prop:=fun x lo hi H Q=>∃a xs,x= .ref a/\pM K H a xs/\∀p,H p=none->Q (.ref p) (upd H p (.lst (Bo xs lo hi)))
theorem Lj:Mi X (SD X.K):=by
 intro pins s σ H x v vl vu lo hi sl Q I rx hs pl pu h;obtain⟨a,xs,rfl,hx,q⟩:=h;cases rx;obtain⟨its,r,ht,hz⟩:=I.list hx;have hlen:=r.length;refine⟨"list",_,slot_list_getitem.lookup,ht.isList.typeIs,?_⟩;refine wpAny_getItem_list_slice ht.isList hs pl pu .none (by simp) ?_ (by rw[List.size_toArray] <;> omega)
 rw[wY,<-hlen];refine⟨.ref s.heap.objs.size,_,I.laid (t':=s.toks) (o:= .lst (Bo xs lo hi)) (fun b ob q=>Heap.get?_push_of_some _ q) (Nat.le_refl _) ?_,rfl,q _ (I.hok.fresh (Nat.le_refl _))⟩
 exact⟨Nat.le_trans (tU xs lo hi) hz,_,0,(r.drop (HT.hJ xs.length 0 lo)).take (HT.hJ xs.length xs.length hi - HT.hJ xs.length 0 lo),Heap.get?_push_size _ rfl⟩
def nj:V->Bool
 | .cH=>true
 | .bl _=>true
 | .int _=>true
 | .str _=>true
 | _=>false
def LR:V->V->Bool
 | .cH, .cH=>true
 | .bl a, .bl b=>a==b
 | .bl a, .int b=>(if a then 1 else 0)==b
 | .int a, .bl b=>a==(if b then 1 else 0)
 | .int a, .int b=>a==b
 | .str a, .str b=>a==b
 | _,_=>false
theorem Nm{s:Shared}{y x:V}{u v:Value}(ry:RelV y u)(rx:RelV x v)(fy:nj y=true)(fx:nj x=true):SeqAt.EqAt A s u v (LR y x):=by
 cases y with
 | cH=>
   cases ry;cases x with
   | cH=>cases rx;exact SeqAt.EqAt.same _
   | bl b=>cases rx;exact SeqAt.EqAt.none_bool b
   | int b=>obtain⟨t,rfl⟩:=rx;exact SeqAt.EqAt.none_int b t
   | str b=>obtain⟨t,rfl⟩:=rx;exact SeqAt.EqAt.none_str b t
   | _=>exact absurd (show false=true from fx) Bool.false_ne_true
 | bl a=>
   cases ry;cases x with
   | cH=>cases rx;exact SeqAt.EqAt.bool_none a
   | bl b=>cases rx;exact SeqAt.EqAt.bool_bool a b
   | int b=>obtain⟨t,rfl⟩:=rx;exact SeqAt.EqAt.bool_int a b t
   | str b=>obtain⟨t,rfl⟩:=rx;exact SeqAt.EqAt.bool_str a b t
   | _=>exact absurd (show false=true from fx) Bool.false_ne_true
 | int a=>
   obtain⟨t',rfl⟩:=ry;cases x with
   | cH=>cases rx;exact SeqAt.EqAt.int_none a t'
   | bl b=>cases rx;exact SeqAt.EqAt.int_bool a t' b
   | int b=>obtain⟨t,rfl⟩:=rx;exact SeqAt.EqAt.int_int a t' b t
   | str b=>obtain⟨t,rfl⟩:=rx;exact SeqAt.EqAt.int_str a t' b t
   | _=>exact absurd (show false=true from fx) Bool.false_ne_true
 | str a=>
   obtain⟨t',rfl⟩:=ry;cases x with
   | cH=>cases rx;exact SeqAt.EqAt.str_none a t'
   | bl b=>cases rx;exact SeqAt.EqAt.str_bool a t' b
   | int b=>obtain⟨t,rfl⟩:=rx;exact SeqAt.EqAt.str_int a t' b t
   | str b=>obtain⟨t,rfl⟩:=rx;exact SeqAt.EqAt.str_str a t' b t
   | _=>exact absurd (show false=true from fx) Bool.false_ne_true
 | _=>exact absurd (show false=true from fy) Bool.false_ne_true
def Ca(x:V)(u:Value):Bool:=match u with
 | .none=>LR .cH x
 | .bool b=>LR (.bl b) x
 | .int i _=>LR (.int i) x
 | .str z _=>LR (.str z) x
 | _=>false
theorem GW{x y:V}{u:Value}(r:RelV y u)(f:nj y=true):Ca x u=LR y x:=by
 cases y with
 | cH=>cases r;rfl
 | bl b=>cases r;rfl
 | int i=>obtain⟨t,rfl⟩:=r;rfl
 | str z=>obtain⟨t,rfl⟩:=r;rfl
 | _=>exact absurd (show false=true from f) Bool.false_ne_true
theorem rS{x:V}:∀{xs:List V} {us:List Value},Vals xs us->xs.all nj=true->us.any (Ca x)=xs.any fun y=>LR y x
 | _,_, .nil,_=>rfl
 | y ::xs,u ::us, .cons r t,f=>by
   rw[List.all_cons,Bool.and_eq_true] at f;rw[List.any_cons,List.any_cons,GW r f.1,rS t f.2]
theorem oy{s:Shared}{x:V}{v:Value}(rx:RelV x v)(fx:nj x=true):∀{xs:List V} {us:List Value},Vals xs us->xs.all nj=true->∀u∈us,SeqAt.EqAt A s u v (Ca x u)
 | _,_, .nil,_=>fun u hu=>by cases hu
 | y ::xs,u ::us, .cons r t,f=>fun u' hu=>by
   rw[List.all_cons,Bool.and_eq_true] at f;rcases List.mem_cons.mp hu with rfl | hu
   .rw [GW r f.1];exact Nm r rx f.1 fx
   .exact oy rx fx t f.2 u' hu
def L6(x:V)(xs:List V):Bool:=xs.any fun y=>LR y x
def TC(K:W.Frag)(neg:Bool):R2:=fun x y H Q=>∃p xs,y= .ref p/\(pM K H p xs\/tM K H p xs)/\nj x=true/\xs.all nj=true/\Q (.bl (if neg then !L6 x xs else L6 x xs)) H
theorem FQ:mT X (compareOp .In) (TC X.K false):=by
 intro pins s σ H x y v u Q I rx ry h;obtain⟨p,xs,rfl,hq,fx,fs,q⟩:=h;cases ry;rcases hq with hq | hq
 .obtain⟨its,r,pl,hz⟩:=I.list hq;refine SeqAt.in_listAt (Ca x) pl.isList (fun w hw=>oy rx fx r fs w (by simpa using hw)) ⟨.bl _,H,I,rfl,?_⟩
  rw[show its.toArray.any (Ca x)=its.any (Ca x) by simp,rS r fs]
  exact q
 .obtain⟨its,r,pl,hz⟩:=I.tuple hq;refine SeqAt.in_tupleAt (Ca x) pl (fun w hw=>oy rx fx r fs w (by simpa using hw)) ⟨.bl _,H,I,rfl,?_⟩
  rw[show its.toArray.any (Ca x)=its.any (Ca x) by simp,rS r fs]
  exact q
theorem yU:mT X (compareOp .NotIn) (TC X.K true):=by
 intro pins s σ H x y v u Q I rx ry h;obtain⟨p,xs,rfl,hq,fx,fs,q⟩:=h;cases ry;rcases hq with hq | hq
 .obtain⟨its,r,pl,hz⟩:=I.list hq;refine SeqAt.notIn_listAt (Ca x) pl.isList (fun w hw=>oy rx fx r fs w (by simpa using hw)) ⟨.bl _,H,I,rfl,?_⟩
  rw[show its.toArray.any (Ca x)=its.any (Ca x) by simp,rS r fs]
  exact q
 .obtain⟨its,r,pl,hz⟩:=I.tuple hq;refine SeqAt.notIn_tupleAt (Ca x) pl (fun w hw=>oy rx fx r fs w (by simpa using hw)) ⟨.bl _,H,I,rfl,?_⟩
  rw[show its.toArray.any (Ca x)=its.any (Ca x) by simp,rS r fs]
  exact q
theorem yQ:oz X (.type "list") (fun xs H Q=>∃p ys,xs=[.ref p]/\(pM X.K H p ys\/tM X.K H p ys)/\∀l,H l=none->Q (.ref l) (upd H l (.lst ys))):=by
 intro pins s σ H xs us Q I r h;obtain⟨p,ys,rfl,hq,q⟩:=h;obtain⟨u,rfl,rx⟩:=vals1 r;cases rx;have fin:∀(its:List Value),Vals ys its->ys.length<=sizeLine->∀(h':Heap) (c':Nat),(∀b o',s.heap.get? b=some o'->h'.get? b=some o')->
  h'.get? s.heap.objs.size=some {cls:= .type "list",dict:=none,data:= .seq its.toArray c',slots:=#[]}->EP X pins σ Q (.ref s.heap.objs.size) {s with heap:=h'}:=fun its r' hz h' c' kp e=>
  ⟨.ref s.heap.objs.size,_,I.laid (t':=s.toks) kp (Nat.le_refl _) (show e_ X.prog X.w _ h' _ (.lst ys) from⟨hz,its,c',r',e⟩),rfl,q _ (I.hok.fresh (Nat.le_refl _))⟩
 rcases hq with hq | hq
 .obtain⟨its,r',pl,hz⟩:=I.list hq;have hlen:=r'.length;obtain⟨o,ho,hc,n,hd⟩:=pl.isList;exact call_list_seq p (.inl rfl) ho hc hd (fun h' c' kp e=>fin its r' hz h' c' kp e) (by simp only[List.size_toArray] <;> omega)
 .obtain⟨its,r',pl,hz⟩:=I.tuple hq;have hlen:=r'.length;obtain⟨o,ho,hc,n,hd⟩:=pl;exact call_list_seq p (.inr rfl) ho hc hd (fun h' c' kp e=>fin its r' hz h' c' kp e) (by simp only[List.size_toArray] <;> omega)
theorem wO:oz X (.type "tuple") (fun xs H Q=>∃p ys,xs=[.ref p]/\((pM X.K H p ys/\∀l,H l=none->Q (.ref l) (upd H l (.tup ys)))\/(tM X.K H p ys/\Q (.ref p) H))):=by
 intro pins s σ H xs us Q I r h;obtain⟨p,ys,rfl,h⟩:=h;obtain⟨u,rfl,rx⟩:=vals1 r;cases rx;rcases h with⟨hq,q⟩ | ⟨hq,q⟩
 .obtain⟨its,r',pl,hz⟩:=I.list hq;have hlen:=r'.length;refine call_tuple_list pl.isList (fun h' kp=>?_) (by simp only[List.size_toArray] <;> omega)
  have I1:Inv X pins σ H {s with heap:=h'}:=I.kept (t':=s.toks) kp
  have I2:Inv X pins σ (upd H h'.objs.size (.tup ys)) {s with heap:=h'.push {cls:= .type "tuple",data:= .seq its.toArray}}:=
   I1.laid (t':=s.toks) (fun b o e=>Heap.get?_push_of_some _ e) (Nat.le_refl _) (show e_ X.prog X.w _ _ _ (.tup ys) from⟨hz,its,r',IsTup.new _ _⟩)
  exact⟨.ref h'.objs.size,_,I2,rfl,q _ (I1.hok.fresh (Nat.le_refl _))⟩
 .obtain⟨its,r',pl,hz⟩:=I.tuple hq;exact call_tuple_same pl ⟨.ref p,H,I,rfl,q⟩
def SM(K:W.Frag)(T:String)(x:V)(H:Hp):Prop:=match x with
 | .str _=>T="str"
 | .int _=>T="int"
 | .ref p=>(T="list"/\∃xs,pM K H p xs)\/(T="tuple"/\∃o,K.lookup p=some o/\o.cls= .type "tuple"/\o.dict=none)\/
    (T="dict"/\((∃kvs,H p=some (.dK kvs))\/∃kvs,H p=some (.dT kvs)))\/(T="set"/\∃S n,H p=some (.set S n))
 | _=>False
theorem NI{pins:Zy}{s:Shared}{T:String}{x:V}{v:Value}(I:Inv X pins σ H s)(r:RelV x v)(ty:SM X.K T x H) :
 s.TypeIs v T/\∀a,v= .ref a->∃ob,s.heap.get? a=some ob/\ob.dict=none:=by
 cases x with
 | str z=>
   obtain⟨t,rfl⟩:=r;cases(show T="str" from ty)
   exact⟨typeIs_str s z t,fun _ e=>nomatch e⟩
 | int i=>
   obtain⟨t,rfl⟩:=r;cases(show T="int" from ty)
   exact⟨typeIs_int s i t,fun _ e=>nomatch e⟩
 | ref p=>
   cases r;rcases ty with⟨rfl,xs,hq⟩ | ⟨rfl,o,hk,hc,hd⟩ | ⟨rfl,hk⟩ | ⟨rfl,S,n,hk⟩
   .obtain⟨its,_,pl,_⟩:=I.list hq;refine⟨pl.isList.typeIs,fun a e=>?_⟩
    cases e;obtain⟨o,n,e,c,hd,_⟩:=pl;exact⟨o,e,hd⟩
   .refine⟨⟨o,I.Ed p o hk,hc⟩,fun a e=>?_⟩
    cases e;exact⟨o,I.Ed _ o hk,hd⟩
   .have z:∃o,s.heap.get? p=some o/\o.ExactDict:=by
     rcases hk with⟨kvs,hk⟩ | ⟨kvs,hk⟩
     .obtain⟨_,_,_,_,o,_,_,e,ex,_⟩:=I.hok p _ hk;exact⟨o,e,ex⟩
     .obtain⟨_,_,_,_,o,_,_,e,ex,_⟩:=I.hok p _ hk;exact⟨o,e,ex⟩
    obtain⟨o,e,ex⟩:=z;refine⟨⟨o,e,ex.1⟩,fun a e2=>?_⟩
    cases e2;exact⟨o,e,ex.2.1⟩
   .obtain⟨o,_,_,_,e,ex,_⟩:=I.hok p _ hk;refine⟨⟨o,e,ex.1⟩,fun a e2=>?_⟩
    cases e2;exact⟨o,e,ex.2.1⟩
 | _=>exact False.elim ty
def Wv(K:W.Frag)(T:String)(r:V->List V->Hp->VK->Prop)(to:TE):TE:=fun σ H Q=>to σ H fun x H1=>SM K T x H1/\r x [] H1 Q
def Wy(K:W.Frag)(T:String)(r:V->List V->Hp->VK->Prop)(to:TE)(t:TA):TE:=fun σ H Q=>to σ H fun x H1=>SM K T x H1/\t σ H1 fun xs H2=>r x xs H2 Q
variable {o e:Expr} {es:List Expr} {to:TE} {t:TA} {name:Str} {apos cD:Pos} {T id:String} {r:V->List V->Hp->VK->Prop}
theorem Eo(pa:PlainAttrs T)(slot:Slot T name id)(YO:typeOf (.builtin id)=pure (.type "method_descriptor"))(hm:Wz X id r)(ho:PE X o to)(ha:PA X (e ::es) t)
 (o7:attributeBase o name X.env (eval o X.env)=eval o X.env:=by rfl)
 (wC:((backTo cD (starEach (e ::es) X.env)).all (fun x=>!x.1) && (backToKw cD (keywordEach [] X.env)).all (fun x=>x.1.isSome)
   && decide ((e ::es).length+([]:List Keyword).length+(if([]:List Keyword).isEmpty then 0 else 1) < 30))=true:=by rfl)
 (o4:(apos.endLine==cD.line)=true:=by rfl) (hs:starEach (e ::es) X.env=(false,eval e X.env) ::starEach es X.env:=by rfl) (Dp:(backTo cD (starEach es X.env)).any (·.1)=false:=by rfl) :
 PE X (.Call (.Attribute o name apos) (e ::es) [] cD) (Wy X.K T r to t):=by
 intro pins s σ H Q I h;refine wpAny_Call_method_late o7 wC o4 rfl (dY (ho pins s σ H _ I h) fun v s1 ⟨x,H1,I1,r1,ty,q1⟩=>?_)
 obtain⟨h1,h2⟩:=NI I1 r1 ty;refine⟨T,id,pa,slot,YO,h1,h2,?_⟩;have hA:=ha cD pins s1 σ H1 _ I1 q1;rw[hs] at hA ⊢;refine Calls.callWith_builtin (by show(false || (backTo cD (starEach es X.env)).any (·.1))=false;rw [Dp] <;> rfl) (Calls.evalArgs_plain ?_)
 exact dY hA fun us s2 ⟨vs,H2,I2,r2,q2⟩=>hm pins s2 σ H2 x vs v us Q I2 r1 r2 q2
end
def SS(X:Cx)(id:String)(r:V->List V->Hp->VK->Prop):Prop:=
 ∀(pins:Zy) (s:Shared) (σ:St) (H:Hp) (x:V) (xs:List V) (v:Value) (us:List Value) (Q:VK),Inv X pins σ H s->RelV x v->Vals xs us->r x xs H Q->
  wpAny (model X.prog X.w) X.A (call (.builtin id) (v ::us)) (EP X pins σ Q) X.xe s
theorem Vals.one:∀{x:V} {us:List Value},Vals [x] us->∃u,us=[u]/\RelV x u
 | _,_, .cons r .nil=>⟨_,rfl,r⟩
theorem Vals.rep{xs:List V}{us:List Value}(h:Vals xs us):∀k:Nat,Vals (List.replicate k xs).flatten (List.replicate k us).flatten
 | 0=> .nil
 | k+1=>by
   rw[List.replicate_succ,List.replicate_succ,List.flatten_cons,List.flatten_cons];exact Vals.append h (Vals.rep h k)
theorem foldl_rep(its:List Value):∀(k:Nat) (acc:List Value),
 List.foldl (fun x1 x2=>x1++x2) acc.toArray (List.replicate k its.toArray)=(acc++(List.replicate k its).flatten).toArray
 | 0,acc=>by simp
 | k+1,acc=>by
   have e:acc.toArray++its.toArray=(acc++its).toArray:=by simp
   have e2:(acc++its)++(List.replicate k its).flatten=acc++(List.replicate (k+1) its).flatten:=by
    rw[List.replicate_succ,List.flatten_cons,List.append_assoc]
   rw[<-e2,<-foldl_rep its k (acc++its),<-e,List.replicate_succ,List.foldl_cons]
section
variable {X:Cx} {pins:Zy} {σ:St} {H:Hp} {s:Shared} {l b:Addr} {xs ys zs:List V}
theorem Inv.NS{its its':List Value}{n:Nat}{f:Array Value->Array Value}{t':Nat}(I:Inv X pins σ H s)(hH:H l=some (.lst xs))
 (e:s.heap.get? l=some {cls:= .type "list",data:= .seq its.toArray n}) (hf:f its.toArray=its'.toArray) (hv:Vals ys its') (hz:ys.length<=sizeLine) :
 Inv X pins σ (upd H l (.lst ys)) {s with heap:=s.heap.update l (Obj.mapSeq f),toks:=t'}:=by
 have q:=PySem.IsL.update e f;rw[hf] at q;refine I.write (x:=l) (e:=l) (by rw[hH];exact trivial) (.inl rfl) (fun b' u hb hu=>(Heap.get?_update_other s.heap (Obj.mapSeq f) (Ne.symm hb)).trans hu) ⟨_,q⟩ ?_
 exact⟨hz,its',_,hv,q⟩
theorem Inv.KC{its:List Value}{t':Nat}(I:Inv X pins σ H s)(hv:Vals ys its)(hz:ys.length<=sizeLine) :
 Inv X pins σ (upd H s.heap.objs.size (.lst ys)) {s with heap:=s.heap.push {cls:= .type "list",data:= .seq its.toArray},toks:=t'}:=
 I.laid (fun _ _ q=>Heap.get?_push_of_some _ q) (Nat.le_refl _) ⟨hz,its,0,hv,Heap.get?_push_size _ rfl⟩
theorem Inv.fresh(I:Inv X pins σ H s):H s.heap.objs.size=none:=I.hok.fresh (Nat.le_refl _)
theorem Inv.Kv(I:Inv X pins σ H s)(hH:H l=some (.lst xs)):xs.length<=sizeLine/\∃(its:List Value) (n:Nat),Vals xs its/\xs.length=its.length/\s.heap.get? l=some {cls:= .type "list",data:= .seq its.toArray n}:=by
 obtain⟨z,its,n,r,e⟩:=I.hok l _ hH;exact⟨z,its,n,r,r.length,e⟩
theorem z7{n:Nat}(h:n<=sizeLine):Builtin.List.listTooLong n=false:=by
 unfold Builtin.List.listTooLong;exact decide_eq_false (by omega)
end
section
variable {X:Cx}
def JR:V->List V->Hp->VK->Prop:=fun x vs H Q=>∃l xs y,x= .ref l/\vs=[y]/\H l=some (.lst xs)/\xs.length < sizeLine/\Q .cH (upd H l (.lst (xs++[y])))
theorem r9:SS X "list.append" JR:=by
 intro pins s σ H x vs v us Q I rx rv h;obtain⟨l,xs,y,rfl,rfl,hH,hz,q⟩:=h;cases rx;obtain⟨u,rfl,ru⟩:=rv.one;obtain⟨z,its,n,r,hl,e⟩:=I.Kv hH;refine call_meets F.slot_list_append ⟨_,e,rfl⟩ F.entry_list_append (F.args_list_append_2 _ _) (PySem.list_append l its.toArray n u (by rw[List.size_toArray];omega)) ⟨e,?_⟩
 refine⟨.cH,_,I.NS (its':=its++[u]) hH e (by simp) (r.append (.cons ru .nil)) ?_,rfl,q⟩
 rw[List.length_append,List.length_singleton];omega
def RE:V->List V->Hp->VK->Prop:=fun x vs H Q=>∃l b xs zs,x= .ref l/\vs=[.ref b]/\H l=some (.lst xs)/\H b=some (.lst zs)/\xs.length+zs.length<=sizeLine/\Q .cH (upd H l (.lst (xs++zs)))
def WK:V->List V->Hp->VK->Prop:=fun x vs H Q=>∃l xs y,x= .ref l/\vs=[]/\H l=some (.lst xs)/\xs[xs.length - 1]? =some y/\Q y (upd H l (.lst xs.dropLast))
def TQ:V->List V->Hp->VK->Prop:=fun x vs H Q=>∃l xs i k y,x= .ref l/\vs=[.int i]/\H l=some (.lst xs)/\ -(2 ^ 63)<=i/\i < 2 ^ 63/\seqIndex? i xs.length=some k/\xs[k]? =some y/\Q y (upd H l (.lst (xs.eraseIdx k)))
def QZ:V->List V->Hp->VK->Prop:=fun x vs H Q=>∃l xs,x= .ref l/\vs=[]/\H l=some (.lst xs)/\Q .cH (upd H l (.lst xs.reverse))
def SA:V->List V->Hp->VK->Prop:=fun x vs H Q=>∃l xs,x= .ref l/\vs=[]/\H l=some (.lst xs)/\Q .cH (upd H l (.lst []))
def WL:R2:=fun x y H Q=>∃l b xs zs,x= .ref l/\y= .ref b/\H l=some (.lst xs)/\H b=some (.lst zs)/\xs.length+zs.length<=sizeLine/\∀p,H p=none->Q (.ref p) (upd H p (.lst (xs++zs)))
def Ts:R2:=fun x y H Q=>∃l k xs,x= .ref l/\y= .int k/\H l=some (.lst xs)/\ -(2 ^ 63)<=k/\k < 2 ^ 63/\xs.length*k.toNat<=sizeLine/\
 ∀p,H p=none->Q (.ref p) (upd H p (.lst (List.replicate k.toNat xs).flatten))
theorem len_rep{α:Type}(xs:List α)(k:Nat):(List.replicate k xs).flatten.length=k*xs.length:=by
 induction k with
 | zero=>simp
 | succ k ih=>rw [List.replicate_succ,List.flatten_cons,List.length_append,ih,Nat.succ_mul,Nat.add_comm]
theorem Ob:mT X (binaryOp .Mult) Ts:=by
 intro pins s σ H x y v u Q I rx ry h;obtain⟨l,k,xs,rfl,rfl,hH,h1,h2,hz,q⟩:=h;cases rx;obtain⟨t,rfl⟩:=ry;obtain⟨z,its,n,r,hl,e⟩:=I.Kv hH;have hlen:its.toArray.size*k.toNat<=sizeLine:=by rw[List.size_toArray,<-hl];exact hz
 have hcap:¬its.toArray.size*k.toNat > (2 ^ 63 - 1) / 8:=by
  have:(sizeLine:Nat)<=(2 ^ 63 - 1) / 8:=by decide
  omega
 have hfit:¬(!Builtin.List.listFitsIndex k)=true:=by
  rw[fitsIndex_both h1 h2];exact Bool.false_ne_true
 have hlong:¬Builtin.List.listTooLong (its.toArray.size*k.toNat)=true:=by
  rw[z7 hlen];exact Bool.false_ne_true
 have hnew:List.foldl (fun x1 x2=>x1++x2) #[] (List.replicate (if its.toArray.isEmpty=true then 0 else k.toNat) its.toArray)=(List.replicate k.toNat its).flatten.toArray:=by
  have f0:∀m:Nat,List.foldl (fun x1 x2=>x1++x2) #[] (List.replicate m its.toArray)=(List.replicate m its).flatten.toArray:=fun m=>by
   have:=foldl_rep its m [];rw[List.nil_append] at this;exact this
  rw[f0];cases its with
  | nil=>simp
  | cons a r'=>rw [if_neg (by simp)]
 refine wpAny_binaryOp_repeat_ref (T:="list") (U:="int") (by decide) ⟨_,e,rfl⟩ (fun s'=>typeIs_int s' k t) noFill_list_mul F.fills_int_mul F.slot_int_rmul repeat_list F.slot_int_index.lookup
  (call_meets F.slot_int_rmul (typeIs_int s k t) F.entry_int_rmul (F.args_int_rmul_2 _ _) (int___rmul___int_list k t l its.toArray n)
    ⟨e,rfl,⟨_,e,rfl⟩,call_meets F.slot_list_mul ⟨_,e,rfl⟩ F.entry_list_mul (F.args_list_mul_2 _ _) (AutoListH.list___mul___list_int_3 l its.toArray n k t hfit hcap hlong) ⟨e,?_⟩⟩)
 rw[hnew];exact⟨.ref _,_,I.KC (t':=s.toks) (r.rep k.toNat) (by rw[len_rep,Nat.mul_comm];exact hz),rfl,q _ I.fresh⟩
end
section
variable {prog:Program} {w:World} {A:Around} {E:Zz} {s:Shared}
set_option maxRecDepth 100000 in
end
section
variable {X:Cx}
end
end L2
namespace Att
open PySem PySem.W PySem.Calls PyProof.Rows
theorem ue{P:Params}:∀(ns:List Int) (vs:List Value),WellAll P h vs (ns.map WData.int)->IntsAre vs ns:=by
 intro ns
 induction ns with
 | nil=>
   intro vs w;rw[List.map_nil] at w;cases w;exact .nil
 | cons n ns ih=>
   intro vs w;rw[List.map_cons] at w;cases w with
   | cons a b=>
     cases a;exact .cons _ _ (ih _ b)
theorem E6{l:OpenLaw}{n:Nat}(hn:l.most=some n){P:Params}{h:Heap}{args:List WData}{vals:List Value}
 (LH:l.row.toRowW.claim.pre args=true) (zF:WellAll P h vals args) :
 ∃a vs ns,vals=[Value.ref a]/\args=[WData.list (ns.map WData.int)]/\h.get? a=some {cls:= .type "list",data:= .seq vs.toArray}/\IntsAre vs ns/\ns.length<=n:=by
 have hsh:WShape.hasAll [] args [.list .int]=true:=(pre_splitW LH).1;have hc:l.pre.holds [] {args:=args}=true:=(pre_splitW LH).2;obtain⟨d,r,rfl,h1,h2⟩:=hasAllW_cons hsh;obtain rfl:=hasAllW_nil h2;obtain⟨xs,rfl,h3⟩:=hasW_list h1;obtain⟨ns,rfl⟩:=items_int h3;have hlen:ns.length<=n:=by
  unfold OpenLaw.pre at hc;have h4:(WTm.not (.lt (.lit (.int (n:Int))) (.len (.arg 0)))).holds [] {args:=[.list (ns.map .int)]}=true:=by
   have h4:=(holds_andW hc).1;rw[hn] at h4;exact h4
  have h5:=condW_of h4 (w_not (w_lt w_lit (w_len_list (w_arg rfl))));rw[List.length_map] at h5;refine Nat.le_of_not_lt fun q=>?_
  have q':(n:Int) < ((ns.length:Nat):Int):=by omega
  first
   | (rw [decide_eq_true q'] at h5;exact absurd h5 (by decide))
   | (simp at h5;omega)
 cases zF with
 | cons w1 w2=>
   cases w2;cases w1 with
   | list ho uo=>exact⟨_,_,ns,rfl,rfl,ho,ue ns _ uo,hlen⟩
theorem Fq(l:OpenLaw)(args:List WData):l.row.toRowW.claim.post args (.bool true) args=true:=
 postW_of (r:=l.row.toRowW) (X:=(true==true))
  (show WShape.has [] (.bool true) .bool=true by first | rfl | decide | simp [WShape.has,WShape.arms,WShape.armsAll])
  (show(WTm.eq .res (.lit (.bool true))).value [] {args:=args,res:=some (.bool true),after:=args}=some (.bool (true==true)) from w_eq_bool (w_res rfl) w_lit) rfl
theorem Ba{l:OpenLaw}{n:Nat}{q:Program}{loose:List Str}{XP:(Str->Option Value)->Heap->Prop}{YP:World->Heap->Prop}{d:DefRec}
 (hn:l.most=some n) (T5:d.params.defaults=[])
 (call:∀(w:World) (s₀ s₁:Shared) (mg mb:ZE) (fa:Addr) (o:Obj) (pm cd doc:Value) (a:Addr) (vs:List Value) (ns:List Int),
   Ground q loose [] XP w s₀ mg mb s₁.heap->YP w s₁.heap->
   s₁.heap.get? fa=some o->o.data= .func (docDef d.name d.params d.body d.scope pm cd doc)->s₁.heap.CodeRec cd d.name->mg d.name=some (.ref fa)->
   s₁.heap.get? a=some {cls:= .type "list",data:= .seq vs.toArray}->IntsAre vs ns->ns.length<=n->s₁.gens=#[]->
   codeAny (model l.prog w) callerA (.call (.ref fa) ⟨[.ref a],[]⟩) (fun r s'=>r= .ok (.ret (.bool true))/\OldK s₁.heap s'.heap/\s'.os=s₁.os/\AllBare s'.gens) s₁) :
 WalkO q loose XP YP l.row.toRowW d [] (fun f vs=>PySem.call f vs):=by
 intro w s₀ s₁ mg mb G Y fa o pm cd doc dV kV ho hd uq hD Ra hg args vals as LH hlay hrd zF hlo;obtain rfl:dV= .none:=Dflts.none hD T5;obtain rfl:kV= .none:=Dflts.noKw hD;obtain⟨a,vs,ns,rfl,rfl,OJ,hints,hlen⟩:=E6 hn LH zF;refine enter_call (codeAny_mono (call w s₀ s₁ mg mb fa o pm cd doc a vs ns G Y ho (fd_plain hd) uq Ra OJ hints hlen hg) fun r s' hq=>?_)
 obtain⟨rfl,h2,h3,h4⟩:=hq;exact⟨.inl ⟨.bool true, .bool true,[],rfl,fun _=>rfl, .bool true,Fq l _,fun _=>⟨List.Pairwise.nil,fun _ hm=>(nomatch hm)⟩⟩,h2,h3,h4⟩
section
variable {prog:Program} {w:World} {A:Around} {E:Zz} {s:Shared} {K:Frag}
def TU(h:Heap):Heap:={h with objs:=#[]}
def ledger(h:Heap)(L d:Addr):Zy:=(List.range h.objs.size).filterMap fun a=>if a=L\/a=d then none else(h.get? a).map fun o=>(a,o)
end
end Att
namespace L2
open PySem PySem.Spec PyProof.Rows
theorem xv:∀{vs:List Value} {ns:List Int},IntsAre vs ns->Vals (ns.map V.int) vs
 | _,_, .nil=> .nil
 | _,_, .cons n t h=> .cons ⟨t,rfl⟩ (xv h)
def QE(H:Hp):Prop:=∀b,H b=none\/∃o xs,H b=some (.hV o (.lst xs))
abbrev fJ{K:W.Frag}{h:Heap}(_:K.In h):W.Frag:=K
def inClass(s:Stmt)(j:Nat):Stmt:=match s with
 | .ClassDef _ _ _ body _ _ _ _ _ _ _=>body.getD j (.Pass ⟨0,0,0,0⟩)
 | _=> .Pass ⟨0,0,0,0⟩
def gM(s:Stmt):Arguments:=match s with
 | .FunctionDef _ a _ _ _ _ _ _ _ _=>a
 | _=>{posonlyargs:=[],args:=[],vararg:=none,kwonlyargs:=[],kw_defaults:=[],kwarg:=none,defaults:=[]}
def aO(s:Stmt):List Stmt:=match s with
 | .FunctionDef _ _ b _ _ _ _ _ _ _=>b
 | _=>[]
def az(s:Stmt):Scope:=match s with
 | .FunctionDef _ _ _ _ _ _ sc _ _ _=>sc
 | _=>{kind:= .function,names:=[],isGenerator:=false,isCoroutine:=false}
abbrev wI:IB:=fun _ _ _ _ _ _=>False
abbrev E0:XK:=fun _ _ _=>False
theorem AO{X:Cx}:Passes wI X E0:=fun _ _ _ _ _ _ _ h=>h.elim
structure DP (K:W.Frag) (x qual:Str) (st:Stmt) (f:Addr) (fd:FuncData):Prop where
 ex:∃(oc:Value) (od:Option Addr) (kV doc pm:Value) (an:Option Addr) (dU ct:Value) (JH:Array (Option Value)),
  fd=PySem.W.fnOf x qual (gM st) (aO st) (az st) .none kV doc pm an dU ct/\K.lookup f=some ⟨oc,od, .func fd,JH⟩/\PySem.W.codeIn K dU qual=true
 kp:PySem.W.keepIn K (.ref f)=true
section
variable {P:Program} {w:World} {K:W.Frag} {mg:ZE} {base:Heap}
theorem DP.ok{x qual:Str}{st:Stmt}{f:Addr}{fd:FuncData}{N ps:List Str}{k:Nat}{sp:Sp}(F:DP K x qual st f fd)(S:a_ N ps (az st))(len:∀vs H Q E,sp vs H Q E->vs.length=ps.length)
 (mv:∀(dU:Value) (A:Around) (outer:List Env) (s:Shared) (H:Hp) (vs:List V) (Q:VK) (E:XK),eU k (A.deeper (envOfC qual (az st) s.heap.objs.size f dU))->sp vs H Q E->
   ∃t,zc (wm wI P w K mg base N qual (az st) f dU A outer s H E).Kg (aO st) t/\t {nx:=fun _ H'=>Q .cH H',rt:=Q} (start N vs) H):jl P w K mg base wI (k+1) f fd ps sp:=by
 obtain⟨oc,od,kV,doc,pm,an,dU,ct,JH,rfl,lk,uq⟩:=F.ex;refine QR lk uq S len fun A outer s H vs Q E hr Pc=>?_
 obtain⟨t,h,q⟩:=mv dU A outer s H vs Q E hr Pc;exact⟨t,h.Kg,q⟩
theorem DP.binds{x qual:Str}{st:Stmt}{f:Addr}{fd:FuncData}{ps:List Str}(F:DP K x qual st f fd)
 (h:∀(kV doc pm:Value) (an:Option Addr) (dU ct:Value) (us:List Value),us.length=ps.length->bindArgs (PySem.W.fnOf x qual (gM st) (aO st) (az st) .none kV doc pm an dU ct) ⟨us,[]⟩=pure (ps.zip us)):Binds K fd ps []:=by
 obtain⟨oc,od,kV,doc,pm,an,dU,ct,JH,rfl,lk,uq⟩:=F.ex;exact .all (h kV doc pm an dU ct)
theorem qf{x qual:Str}{st:Stmt}{f:Addr}{oc:Value}{od an:Option Addr}{JH:Array (Option Value)}{kV doc pm dU ct:Value}(l:K.lookup f=some ⟨oc,od, .func (PySem.W.fnOf x qual (gM st) (aO st) (az st) .none kV doc pm an dU ct),JH⟩)
 (c:PySem.W.codeIn K dU qual=true) (k:PySem.W.keepIn K (.ref f)=true):DP K x qual st f (PySem.W.fnOf x qual (gM st) (aO st) (az st) .none kV doc pm an dU ct):=⟨⟨oc,od,kV,doc,pm,an,dU,ct,JH,rfl,l,c⟩,k⟩
end
theorem AK{A:Around}{k:Nat}(hr:eU k A):A.units+1 < cLine:=Nat.lt_of_le_of_lt (Nat.add_le_add_left (by decide:1<=64) _) hr.units
section
variable {X:Cx}
end
theorem Fe{A B:Prop}(h:B):if false=true then A else B:=by
 rw[if_neg Bool.false_ne_true];exact h
theorem F6{A B:Prop}(h:A):if true=true then A else B:=by
 rw[if_pos rfl];exact h
def bb(H H':Hp):Prop:=∀b o,H b=some o->H' b=some o
theorem bb.refl(H:Hp):bb H H:=fun _ _ h=>h
theorem bb.trans(a:bb H H1)(b:bb H1 H2):bb H H2:=fun c o h=>b c o (a c o h)
theorem bb.free{H H':Hp}(e:bb H H'){l:Addr}(h:H' l=Option.none):H l=Option.none:=by
 cases q:H l with
 | none=>rfl
 | some o=>
   rw[e l o q] at h;cases h
section
variable {κ:Type} [DecidableEq κ]
end
end L2
end
section
namespace L2
open PySem PySem.Spec PyProof.Rows
def pG(cells:List (Str × Addr)):List (Str × NameKind)->List (Str × Addr)->List (Str × Addr)
 | [],acc=>acc
 | (n,k) ::r,acc=>pG cells r (if k==NameKind.free then(n,(cells.lookup n).getD 0) ::acc else acc)
theorem mR{env:Env}:∀(names:List (Str × NameKind)) (acc:List (Str × Addr)),(∀y∈names,y.2= .free->∃c,env.cells.lookup y.1=some c)->
 (forIn names acc fun(x:Str × NameKind) (cs:List (Str × Addr))=>(match x with
   | (name,kind)=>if kind== .free then do let a <-cellOf env name;pure (ForInStep.yield ((name,a) ::cs)) else pure (ForInStep.yield cs):Sem (ForInStep (List (Str × Addr)))))=pure (pG env.cells names acc)
 | [],acc,_=>by simp [pG]
 | (n,k) ::r,acc,h=>by
   rw[List.forIn_cons];by_cases hk:k=NameKind.free
   .subst hk;obtain⟨c,hc⟩:=h (n, .free) List.mem_cons_self rfl;have e:cellOf env n=pure c:=by unfold cellOf;rw [hc]
    simp only[beq_self_eq_true,if_true,e,pure_bind,pG,hc,Option.getD_some];exact mR r _ fun y hy=>h y (List.mem_cons_of_mem _ hy)
   .have hb:(k==NameKind.free)=false:=by simpa using hk
    simp only[hb,Bool.false_eq_true,if_false,pure_bind,pG];exact mR r _ fun y hy=>h y (List.mem_cons_of_mem _ hy)
theorem nq{env:Env}{scope:Scope}(h:∀y∈scope.names,y.2= .free->∃c,env.cells.lookup y.1=some c):closureFor scope env=pure (pG env.cells scope.names []):=by
 unfold closureFor;have:=mR (env:=env) scope.names [] h;simp only[bind_pure];exact this
theorem kI{cells:List (Str × Addr)}:∀(names:List (Str × NameKind)) (acc:List (Str × Addr)) {x:Str} {c:Addr},(pG cells names acc).lookup x=some c->
 acc.lookup x=some c\/((x,NameKind.free)∈names/\c=(cells.lookup x).getD 0)
 | [],acc,x,c,h=> .inl h
 | (n,k) ::r,acc,x,c,h=>by
   rcases kI r _ h with q | ⟨q1,q2⟩
   .by_cases hk:k=NameKind.free
    .subst hk;simp only[beq_self_eq_true,if_true] at q;cases hx:x==n with
     | true=>
       have e:x=n:=by simpa using hx
       subst e;rw[List.lookup_cons,hx] at q;exact .inr ⟨List.mem_cons_self,(Option.some.inj q).symm⟩
     | false=>
       rw[List.lookup_cons,hx] at q;exact .inl q
    .have hb:(k==NameKind.free)=false:=by simpa using hk
     simp only[hb,Bool.false_eq_true,if_false] at q;exact .inl q
   .exact .inr ⟨List.mem_cons_of_mem _ q1,q2⟩
theorem zX{cells:List (Str × Addr)}:∀(names:List (Str × NameKind)) (acc:List (Str × Addr)) {x:Str},((x,NameKind.free)∈names\/∃c,acc.lookup x=some c)->∃c,(pG cells names acc).lookup x=some c
 | [],acc,x,h=>by
   rcases h with h | h
   .simp at h
   .exact h
 | (n,k) ::r,acc,x,h=>by
   refine zX r _ ?_;rcases h with h | ⟨c,h⟩
   .rcases List.mem_cons.mp h with e | e
    .cases e;exact .inr ⟨(cells.lookup n).getD 0,by simp [List.lookup_cons]⟩
    .exact .inl e
   .by_cases hk:k=NameKind.free
    .subst hk;simp only[beq_self_eq_true,if_true];cases hx:x==n with
     | true=>exact .inr ⟨(cells.lookup n).getD 0,by rw[List.lookup_cons,hx]⟩
     | false=>exact .inr ⟨c,by rw[List.lookup_cons,hx];exact h⟩
    .have hb:(k==NameKind.free)=false:=by simpa using hk
     simp only[hb,Bool.false_eq_true,if_false];exact .inr ⟨c,h⟩
theorem yF:∀(names:List (Str × NameKind)) (n:Nat) (acc:List (Str × Addr)) {x:Str},(x,NameKind.cell) ∉ names->(cellsFrom n names acc).lookup x=acc.lookup x
 | [],_,_,_,_=>rfl
 | (y,k) ::r,n,acc,x,h=>by
   unfold cellsFrom;split
   .rename_i hk;have hk:k= .cell:=by simpa using hk
    subst hk;rw[yF r _ _ fun z=>h (List.mem_cons_of_mem _ z),List.lookup_cons]
    cases hx:x==y with
    | true=>
      have e:x=y:=by simpa using hx
      subst e;exact absurd List.mem_cons_self h
    | false=>rfl
   .exact yF r _ _ fun z=>h (List.mem_cons_of_mem _ z)
theorem qu:∀(names:List (Str × NameKind)) (n:Nat) (acc:List (Str × Addr)),cellsFrom n names acc=cellsFrom n names []++acc
 | [],_,_=>rfl
 | (y,k) ::r,n,acc=>by
   unfold cellsFrom;split
   .rw [qu r (n+1) ((y,n) ::acc),qu r (n+1) [(y,n)],List.append_assoc];rfl
   .exact qu r n acc
theorem Cd{a b:List (Str × Addr)}{c:Addr}(h:(a++b).lookup x=some c):(x,c)∈a\/b.lookup x=some c:=by
 induction a with
 | nil=>exact .inr h
 | cons y r ih=>
   obtain⟨n,v⟩:=y;rw[List.cons_append,List.lookup_cons] at h;cases hx:x==n with
   | true=>
     rw[hx] at h;have e:x=n:=by simpa using hx
     subst e;cases h;exact .inl List.mem_cons_self
   | false=>
     rw[hx] at h;exact(ih h).imp (List.mem_cons_of_mem _) id
theorem oC{a b:List (Str × Addr)}(h:∃c,b.lookup x=some c):∃c,(a++b).lookup x=some c:=by
 induction a with
 | nil=>exact h
 | cons y r ih=>
   rw[List.cons_append,List.lookup_cons];cases x==y.1 with
   | true=>exact⟨_,rfl⟩
   | false=>exact ih
theorem zf{a b:List (Str × Addr)}{c:Addr}(h:a.lookup x=some c):∃c,(a++b).lookup x=some c:=by
 induction a with
 | nil=>cases h
 | cons y r ih=>
   rw[List.cons_append,List.lookup_cons];rw[List.lookup_cons] at h;cases hx:x==y.1 with
   | true=>exact⟨_,rfl⟩
   | false=>rw [hx] at h;exact ih h
theorem yd{M:Model}{A:Around}{E:Zz}{s:Shared}{scope:Scope}{cl:List (Str × Addr)}{qual:Str}{env:Env}{Q:Env->Shared->Prop}(hQ:∀h',h'.Ns s.heap.objs.size (fun _=>none)->(∀b o,s.heap.get? b=some o->h'.get? b=some o)->CellsOk h' (s.heap.objs.size+1) (cellsFrom (s.heap.objs.size+1) scope.names [])->
 Q (newEnv scope s.heap.objs.size env.globals (cellsFrom (s.heap.objs.size+1) scope.names cl) qual none .none (some env) builtinsNs) {s with heap:=h'}) :
 wpAny M A (newFunctionEnv scope env.globals cl [] qual none .none (some env)) Q E s:=by
 simp only[newFunctionEnv,Option.isSome_some,if_true];refine wpAny_bind (wpAny_alloc ?_);refine wpAny_bind (wpAny_layCells _ (fun name kind cells=>by cases hkc:kind==NameKind.cell <;> simp [hkc]) _ _ _ _ ?_)
 have ok:=cellsFrom_ok scope.names (s.heap.push {cls:= .type "dict",data:= .dict #[]}) (s.heap.objs.size+1) [] ⟨fun _ _ hm=>(nomatch hm),List.Pairwise.nil⟩ (by rw[Heap.size_push];exact Nat.le_refl _)
 rw[Heap.size_push] at ok;rw[show({s with heap:=s.heap.push {cls:= .type "dict",data:= .dict #[]}}:Shared).heap.objs.size=s.heap.objs.size+1 from Heap.size_push ..]
 rw[List.forIn_nil];refine wpAny_bind (wpAny_pure (wpAny_pure ?_));exact hQ _ ((Heap.Ns.new s.heap (.type "dict")).keeps (pushCells_keeps _ _)) (fun b o e=>pushCells_keeps _ _ b o (Heap.get?_push_of_some _ e)) ok
def bX(X:Cx)(scope:Scope)(N':List Str)(fp:List Addr)(s:Shared)(H:Hp):Cx where
 prog:=X.prog
 w:=X.w
 K:=X.K
 mg:=X.mg
 base:=X.base
 A:=X.A
 N:=N'
 s₀:=s
 H₀:=H
 env:=compEnvC scope (cellsFrom (s.heap.objs.size+1) scope.names (pG X.env.cells scope.names [])) s.heap.objs.size X.env
 outer:=X.stack
 stack:=X.stack
 ex:=fp
 fn:=fun x=>scope.names.lookup x==some .cell
 calm:=X.calm
 pn:=[]
 xe:=fun _ _=>False
structure bZ (X:Cx) (scope:Scope) (own:List Str) (kp:List Nat) (kn:List Str):Prop where
 kind:scope.kind= .function
 cel:∀y∈scope.names,y.2= .cell->scope.names.lookup y.1=some .cell
 nd:∀y∈scope.names,y.2= .local->scope.names.lookup y.1=some .local
 free:∀y∈scope.names,y.2= .free->X.env.kindOf y.1=some .cell\/X.env.kindOf y.1=some .free
 frl:∀y∈scope.names,y.2= .free->scope.names.lookup y.1=some .free
 names:kn.length=kp.length
 at_:∀(j i:Nat) (x:Str),kp[j]? =some i->kn[j]? =some x->X.N[i]? =some x
 isfree:∀x∈kn,scope.names.lookup x=some .free
def dS(own:List Str)(kp:List Nat)(σ:St):St:=List.replicate own.length none++kp.map fun i=>(σ[i]?).getD none
section
variable {X:Cx} {scope:Scope} {own:List Str} {kp:List Nat} {kn:List Str}
theorem eV{env:Env}:∀{names:List (Str × NameKind)} {x:Str} {k:NameKind},
 (names.map fun(n,k)=>if(k==NameKind.free && env.scope.kind== .function && env.kindOf n==some .cell) then(n,NameKind.cell) else(n,k)).lookup x=some k->
 names.lookup x=some k\/(k= .cell/\names.lookup x=some .free)
 | [],_,_,h=>by simp at h
 | (n,k) ::r,x,k',h=>by
   have ih:=@eV env r x k';have h:List.lookup x ((if(k==NameKind.free && env.scope.kind== .function && env.kindOf n==some .cell)=true then(n,NameKind.cell) else(n,k)) ::_)=some k':=h
   by_cases hc:(k==NameKind.free && env.scope.kind== .function && env.kindOf n==some .cell)=true
   .rw [if_pos hc] at h;have hkf:k= .free:=by
     simp only[Bool.and_eq_true,beq_iff_eq] at hc;exact hc.1.1
    cases hx:x==n with
    | true=>
      rw[List.lookup_cons,hx] at h;cases h;exact .inr ⟨rfl,by rw[List.lookup_cons,hx,hkf]⟩
    | false=>
      rw[List.lookup_cons,hx] at h;rw[List.lookup_cons,hx];exact ih h
   .rw [if_neg hc] at h;cases hx:x==n with
    | true=>
      rw[List.lookup_cons,hx] at h;rw[List.lookup_cons,hx];exact .inl h
    | false=>
      rw[List.lookup_cons,hx] at h;rw[List.lookup_cons,hx];exact ih h
theorem ql{pins:Zy}{s:Shared}(C:bZ X scope own kp kn)(I:Inv X pins σ H s):∀y∈scope.names,y.2= .free->∃c,X.env.cells.lookup y.1=some c:=fun y hy hf=>
 I.ok.has y.1 (C.free y hy hf)
theorem H0{pins:Zy}{σ:St}{H:Hp}{s:Shared}{fp:List Addr}{jo:Heap}{tk:Nat}(C:bZ X scope own kp kn)(I:Inv X pins σ H s)(hf:∀b∈fp,t7 X pins H b)(hb:∀b∈fp,b < s.heap.objs.size)
 (hn:jo.Ns s.heap.objs.size (fun _=>none)) (hk:∀b o,s.heap.get? b=some o->jo.get? b=some o) (hC:CellsOk jo (s.heap.objs.size+1) (cellsFrom (s.heap.objs.size+1) scope.names [])):Inv (bX X scope (own++kn) fp s H) [] (dS own kp σ) H {s with heap:=jo,toks:=tk}:=by
 have cl:∀x c,(pG X.env.cells scope.names []).lookup x=some c->X.env.cells.lookup x=some c:=fun x c e=>by
  rcases kI scope.names [] e with q | ⟨q1,q2⟩
  .simp at q
  .obtain⟨c',Gp⟩:=ql C I (x, .free) q1 rfl;have Gp:X.env.cells.lookup x=some c':=Gp;rw[Gp] at q2;rw[Gp,q2];rfl
 have clA:∀x c,(cellsFrom (s.heap.objs.size+1) scope.names (pG X.env.cells scope.names [])).lookup x=some c->(x,c)∈cellsFrom (s.heap.objs.size+1) scope.names []\/(pG X.env.cells scope.names []).lookup x=some c:=fun x c e=>by
  rw[qu] at e;exact Cd e
 have old:∀x c,(pG X.env.cells scope.names []).lookup x=some c->c < s.heap.objs.size:=fun x c e=>by
  obtain⟨v,h⟩:=I.cell x c (cl x c e);exact h.lt
 have new:∀x c,(x,c)∈cellsFrom (s.heap.objs.size+1) scope.names []->s.heap.objs.size<=c:=fun x c e=>Nat.le_of_lt (hC.empty x c e).2
 have clh:∀x,scope.names.lookup x=some .free->∃c,(pG X.env.cells scope.names []).lookup x=some c:=fun x hx=>zX scope.names [] (.inl (PySem.mem_of_lookup hx))
 refine⟨⟨I.ok.mod,C.kind,I.ok.glob,I.ok.blt,Nat.le_refl _,fun x y c h1 h2=>?inj,fun x hx=>?_,fun x c hn h=>?cab,I.ok.hd,I.ok.frames, .inl rfl,fun b zu=>⟨Nat.ne_of_lt (hb b zu),fun x c e z=>?exf⟩,
  fun b o e=>I.bs b o e,Nat.le_trans I.ok.bsz I.sz,fun b o e zu=>?_,fun b zu hs=>?_,I.stack,I.Dt⟩,
  rfl,I.bare,Un.kept hk,⟨_,hn,fun i x v h1 h2 h3=>?_⟩,fun x c e=>?_,I.hok.fresh (Nat.le_refl _),fun x c e=>?frc,fun p hp=>(by cases hp),I.hok.kept hk,?_⟩
 case inj=>
  rcases clA x c h1 with a | a <;> rcases clA y c h2 with b | b
  .exact name_of_addr hC.apart a b
  .exact absurd (Nat.lt_of_lt_of_le (old y c b) (new x c a)) (Nat.lt_irrefl _)
  .exact absurd (Nat.lt_of_lt_of_le (old x c a) (new y c b)) (Nat.lt_irrefl _)
  .exact I.ok.inj x y c (cl x c a) (cl y c b)
 case cab=>
  have hn:(scope.names.lookup x==some .cell)=true:=hn;rcases clA x c h with a | a
  .exact new x c a
  .rcases kI scope.names [] a with q | ⟨q1,q2⟩
   .simp at q
   .have hx:scope.names.lookup x=some .cell:=by simpa using hn
    have h7:scope.names.lookup x=some .free:=C.frl _ q1 rfl;rw[hx] at h7;cases h7
 case exf=>
  rcases clA x c e with a | a
  .subst z;exact absurd (Nat.lt_of_lt_of_le (hb _ zu) (new x _ a)) (Nat.lt_irrefl _)
  .exact(hf b zu).2.2.2.2.1 x c (cl x c a) z
 case frc=>
  rcases clA x c e with a | a
  .exact I.hok.fresh (new x c a)
  .exact I.freeC x c (cl x c a)
 .have hx:(relabel scope X.env).names.lookup x=some .cell\/(relabel scope X.env).names.lookup x=some .free:=hx;show ∃c,(cellsFrom (s.heap.objs.size+1) scope.names (pG X.env.cells scope.names [])).lookup x=some c;rcases hx with hx | hx
  .rcases eV hx with q | ⟨_,q⟩
   .rw [qu];obtain⟨c,hc⟩:=vb (n:=s.heap.objs.size+1) q;exact zf hc
   .rw [qu];exact oC (clh x q)
  .rcases eV hx with q | ⟨q,_⟩
   .rw [qu];exact oC (clh x q)
   .cases q
 .rcases(hf b zu).2.2.2.1 with z | z
  .exact I.ok.noex b o e z
  .exact absurd (Nat.lt_of_lt_of_le (Heap.lt_size (I.ok.bs b o e).1) z) (Nat.lt_irrefl _)
 .rcases List.mem_cons.mp (I.Dh b hs) with z | z
  .exact(hf b zu).2.1 z
  .exact(hf b zu).2.2.1 z
 .-- a kept name
  have h1:(own++kn)[i]? =some x:=h1;have h2:(dS own kp σ)[i]? =some (some v):=h2;unfold dS at h2;by_cases hi:i < own.length
  .rw [List.getElem?_append_left (by simpa using hi),List.getElem?_replicate] at h2
   split at h2 <;> cases h2
  .rw [List.getElem?_append_right (by simpa using hi),List.length_replicate,List.getElem?_map] at h2
   rw[List.getElem?_append_right (by simpa using hi)] at h1
   cases e:kp[i - own.length]? with
   | none=>rw [e] at h2;cases h2
   | some j=>
     rw[e] at h2;have h2:(σ[j]?).getD none=some v:=Option.some.inj h2;have hj:X.N[j]? =some x:=C.at_ _ j x e h1;have LG:σ[j]? =some (some v):=by
      cases q:σ[j]? with
      | none=>rw [q] at h2;cases h2
      | some y=>rw [q] at h2;exact congrArg some h2
     have hfree:scope.names.lookup x=some .free:=C.isfree x (List.mem_of_getElem? h1);have hkind:=C.free (x, .free) (PySem.mem_of_lookup hfree) rfl;obtain⟨m,hm,hl⟩:=I.loc;obtain⟨u,r,l⟩:=hl j x v hj LG (hkind.elim (fun q=>Or.inr (Or.inl q)) fun q=>Or.inr (Or.inr q))
     refine⟨u,r, .inr ⟨?_,?_⟩⟩
     .have h3:(relabel scope X.env).names.lookup x=some .local\/(relabel scope X.env).names.lookup x=some .cell\/(relabel scope X.env).names.lookup x=some .free:=h3;rcases h3 with q | q | q
      .rcases eV q with z | ⟨z,_⟩
       .rw [hfree] at z;cases z
       .cases z
      .exact .inl q
      .exact .inr q
     .rcases l with⟨k,_⟩ | ⟨_,c,hc,hcell⟩
      .rcases hkind with q | q
       .rw [show X.env.kindOf x=some .cell from q] at k;cases k
       .rw [show X.env.kindOf x=some .free from q] at k;cases k
      .obtain⟨c',Gp⟩:=clh x hfree;have:=cl x c' Gp;rw[hc] at this;cases this;obtain⟨o,ho,hd⟩:=hcell;exact⟨c,(yF _ _ _ fun z=>by have:=C.cel _ z rfl;rw [hfree] at this;cases this).trans Gp,o,hk c o ho,hd⟩
 .rcases clA x c e with a | a
  .exact⟨_,(hC.empty x c a).1⟩
  obtain⟨v,o,ho,hd⟩:=I.cell x c (cl x c a);exact⟨v,o,hk c o ho,hd⟩
 .show(dS own kp σ).length=(own++kn).length;unfold dS;rw[List.length_append,List.length_replicate,List.length_map,List.length_append,C.names]
theorem vI{pins:Zy}{s s':Shared}{fp:List Addr}{N':List Str}(I:Inv X pins σ H s)(hf:∀b∈fp,t7 X pins H b)(J:Inv (bX X scope N' fp s H) [] dc H' s'):Inv X pins σ H' s':=
 I.PM (ch:=fp) J.os J.base J.hok J.bare fun b hb=>⟨(hf b hb).2.2.2.1,(hf b hb).2.1,(hf b hb).2.2.2.2.1,(hf b hb).2.2.2.2.2⟩
end
def sv(X:Cx)(ifs:List Expr)(t:TT):Prop:=
 ∀(pins:Zy) (s:Shared) (σ:St) (H:Hp) (Q:Bool->Hp->Prop),Inv X pins σ H s->t σ H Q->
  wpAny (model X.prog X.w) X.A (forIn ifs true fun c r=>if r=true then do let ok <-isTrue c X.env (eval c X.env);pure (ForInStep.yield ok) else pure (ForInStep.yield r)) (TP X pins σ Q) X.xe s
def TF:TT:=fun _ H Q=>Q true H
theorem Bq{X:Cx}:sv X [] TF:=fun _ _ _ H _ I h=>wpAny_tests_nil ⟨H,I,h⟩
theorem Be{X:Cx}{t:TT}(h:PT X c t):sv X [c] t:=fun pins s σ H Q I hq=>wpAny_tests_one (h pins s σ H Q I hq)
def Ew(wi:TI)(g:TG)(tc:TT)(te:TE)(own:List Str)(kp:List Nat):TE:=fun σ H Q=>wi σ H fun J H1=>∀D,H1 D=none->
 ∃W:Nat->Nat->List V->Hp->Prop,(∃m,W 0 m [] (upd H1 D (.lst [])))/\∀i m ys H,W i m ys H->
  (J.stop i H/\Q (.ref D) H)\/(J.go i H/\∀x H',J.yld i H x H'->g x (dS own kp σ) H' fun wo H2=>tc wo H2 fun c H3=>
    if c=true then te wo H3 fun y H4=>H4 D=some (.lst ys)/\ys.length < sizeLine/\∃m',m' < m/\W (i+1) m' (ys++[y]) (upd H4 D (.lst (ys++[y])))
    else ∃m',m' < m/\W (i+1) m' ys H3)
section
variable {X:Cx} {scope:Scope} {own:List Str} {kp:List Nat} {kn:List Str} {tg iter elt:Expr} {ifs:List Expr} {wi:TI} {g:TG} {tc:TT} {te:TE} {pos:Pos}
theorem AG{pins:Zy}{σ:St}{H:Hp}{s:Shared}{fp:List Addr}{it D:Addr}{tn:Nat->Heap->Prop}{J:It}{Q:VK}{jo:Heap}{tk:Nat}{R:Result->Shared->Prop}
 (hc:X.calm=true) (C:bZ X scope own kp kn) (I:Inv X pins σ H s) (hf:∀b∈fp,t7 X pins H b) (hb:∀b∈fp,b < s.heap.objs.size) (T:Turn X.prog X.w X.K tg J fp it tn)
 (hg:PG (bX X scope (own++kn) fp s H) tg g) (hi:sv (bX X scope (own++kn) fp s H) ifs tc) (he:PE (bX X scope (own++kn) fp s H) elt te)
 (hn:jo.Ns s.heap.objs.size (fun _=>none)) (hk:∀b o,s.heap.get? b=some o->jo.get? b=some o) (hC:CellsOk jo (s.heap.objs.size+1) (cellsFrom (s.heap.objs.size+1) scope.names [])) (st:tn 0 s.heap)
 (W:Nat->Nat->List V->Hp->Prop) (w0:∃m,W 0 m [] H)
 (turn:∀i m ys H,W i m ys H->
   (J.stop i H/\Q (.ref D) H)\/(J.go i H/\∀x H',J.yld i H x H'->g x (dS own kp σ) H' fun wo H2=>tc wo H2 fun c H3=>
     if c=true then te wo H3 fun y H4=>H4 D=some (.lst ys)/\ys.length < sizeLine/\∃m',m' < m/\W (i+1) m' (ys++[y]) (upd H4 D (.lst (ys++[y])))
     else ∃m',m' < m/\W (i+1) m' ys H3))
 (hR:∀H' s' dc,Inv (bX X scope (own++kn) fp s H) [] dc H' s'->Q (.ref D) H'->R (.ok .next) s') :
 codeAny (model X.prog X.w) X.A (.compStart (.ListComp elt [⟨tg,iter,ifs,0⟩] scope pos) 0 (.ref it) (.ref D) (bX X scope (own++kn) fp s H).env) R {s with heap:=jo,toks:=tk}:=by
 have I1:Inv (bX X scope (own++kn) fp s H) [] (dS own kp σ) H {s with heap:=jo,toks:=tk}:=H0 C I hf hb hn hk hC
 have Wa:tn 0 jo:=T.keep _ _ _ st fun b _ o e=>hk b o e
 have fp1:∀{H':Hp} {p:Zy},(∀b∈fp,H' b=none)->(∀b∈fp,∀q∈p,q.1≠b)->∀b∈fp,t7 (bX X scope (own++kn) fp s H) p H' b:=fun {H' p} hn hp b zu=>
  ⟨hn b zu,(I1.ok.exf b zu).1,I1.ok.exfs b zu, .inl zu,fun x c e=>(I1.ok.exf b zu).2 x c e,fun q hq=>hp b zu q hq⟩
 obtain⟨m0,w0⟩:=w0;have loop:codeAny (model X.prog X.w) X.A (.compLoop (.ListComp elt [⟨tg,iter,ifs,0⟩] scope pos) 0 (.ref it) (.ref D) (bX X scope (own++kn) fp s H).env) R {s with heap:=jo,toks:=tk}:=by
  refine codeAny_loop rfl (fun n s'=>∃i ys H',Inv (bX X scope (own++kn) fp s H) [] (dS own kp σ) H' s'/\tn i s'.heap/\(∀b∈fp,H' b=none)/\W i n ys H') (fun n s' hI=>?_) m0 ⟨0,[],H,I1,Wa,fun b zu=>(hf b zu).1,w0⟩
  obtain⟨i,ys,H3,I3,LF,Rm,w3⟩:=hI;show wpAny _ _ ((compTurn (.ListComp elt [⟨tg,iter,ifs,0⟩] scope pos) 0 (.ref it) (.ref D) (bX X scope (own++kn) fp s H).env).onRaise (fun x=>do noteFrame x (bX X scope (own++kn) fp s H).env;theTreesLotGoes x)) _ _ s'
  refine wpAny_noted (wpAny_noRaise ?_);rw[compTurn_list];refine wpAny_bind (wpAny_standAt (wpAny_bind ?_));rcases turn i n ys H3 w3 with⟨stop,q⟩ | ⟨go,step⟩
  .refine dY (T.done (bX X scope (own++kn) fp s H) rfl rfl rfl hc i [] s' _ H3 _ I3 (fp1 Rm (fun _ _ q hq=>by cases hq)) LF stop) fun r s4 ⟨hr,I4⟩=>?_
   subst hr;exact wpAny_pure (hR H3 s4 _ I4 q)
  .refine dY (T.item (bX X scope (own++kn) fp s H) rfl rfl rfl hc i [] s' _ H3 _ I3 (fp1 Rm (fun _ _ q hq=>by cases hq)) LF go) fun r s4 ⟨u,hr,h4⟩=>?_
   subst hr;refine wpAny_bind (dY h4 fun _ s5 ⟨x,H5,I5,r5,y5,OL,U5⟩=>?_)
   have I5':=I5.pinned (fp1 U5 (fun _ _ q hq=>by cases hq)) (T.obj _ _ OL)
   have keepIt:∀{Bx:St} {H7:Hp} {s7:Shared},Inv (bX X scope (own++kn) fp s H) ([]++pX fp s5.heap) Bx H7 s7->tn (i+1) s7.heap/\∀b∈fp,H7 b=none:=fun {Bx H7 s7} I7=>by
    refine⟨T.keep _ _ _ OL fun b hb o e=>(I7.pin (b,o) (List.mem_append_right _ (List.mem_append_right _ (mH hb e)))).1,fun b hb=>?_⟩
    obtain⟨o,e,d⟩:=T.obj _ _ OL b hb;exact(I7.pin (b,o) (List.mem_append_right _ (List.mem_append_right _ (mH hb e)))).2.1
   have reset:∀{Bx:St} {H7:Hp} {s7:Shared},Inv (bX X scope (own++kn) fp s H) ([]++pX fp s5.heap) Bx H7 s7->Inv (bX X scope (own++kn) fp s H) [] (dS own kp σ) H7 s7:=fun {Bx H7 s7} I7=>by
    have I8:=I7.rg;have hun:Un (Gi X.stack) fp H H7 s.heap s7.heap:=I8.base;have I9:Inv X pins σ H7 s7:=vI I hf I8;refine⟨I8.ok,I8.os,I8.bare,I8.base,?_,I8.cell,I8.free,I8.freeC,I8.pin,I8.hok,I1.len⟩;obtain⟨m,hm,_⟩:=I8.loc;refine⟨m,hm,fun i x v h1 h2 h3=>?_⟩
    obtain⟨m1,Ul,yw⟩:=I1.loc;obtain⟨u1,r1,l1⟩:=yw i x v h1 h2 h3;have h1:(own++kn)[i]? =some x:=h1;have h2:(dS own kp σ)[i]? =some (some v):=h2;unfold dS at h2;by_cases hi:i < own.length
    .rw [List.getElem?_append_left (by simpa using hi),List.getElem?_replicate] at h2
     split at h2 <;> cases h2
    .rw [List.getElem?_append_right (by simpa using hi),List.length_replicate,List.getElem?_map] at h2
     rw[List.getElem?_append_right (by simpa using hi)] at h1
     cases e:kp[i - own.length]? with
     | none=>rw [e] at h2;cases h2
     | some j=>
       rw[e] at h2;have h2:(σ[j]?).getD none=some v:=Option.some.inj h2;have hj:X.N[j]? =some x:=C.at_ _ j x e h1;have LG:σ[j]? =some (some v):=by
        cases q:σ[j]? with
        | none=>rw [q] at h2;cases h2
        | some y=>rw [q] at h2;exact congrArg some h2
       have hfree:scope.names.lookup x=some .free:=C.isfree x (List.mem_of_getElem? h1);have hkind:=C.free (x, .free) (PySem.mem_of_lookup hfree) rfl;obtain⟨m9,Zt,Yz⟩:=I9.loc;obtain⟨u,r,l⟩:=Yz j x v hj LG (hkind.elim (fun q=>Or.inr (Or.inl q)) fun q=>Or.inr (Or.inr q))
       refine⟨u,r, .inr ?_⟩;rcases l1 with⟨k,k2⟩ | ⟨k,c,hc,hcell⟩
       .have k:(relabel scope X.env).names.lookup x=some .local:=k;rcases eV k with z | ⟨z,_⟩
        .rw [hfree] at z;cases z
        .cases z
       .refine⟨k,c,hc,?_⟩;rcases l with⟨k',_⟩ | ⟨_,c',Gp,OY⟩
        .rcases hkind with q | q
         .rw [show X.env.kindOf x=some .cell from q] at k';cases k'
         .rw [show X.env.kindOf x=some .free from q] at k';cases k'
        .have hcl:(pG X.env.cells scope.names []).lookup x=some c:=(yF _ _ _ fun z=>by have:=C.cel _ z rfl;rw [hfree] at this;cases this).symm.trans hc
         rcases kI scope.names [] hcl with q | ⟨q1,q2⟩
         .simp at q
         .rw [Gp] at q2;have q2:c=c':=q2;rw[q2];exact OY
   have hmm:=hg ([]++pX fp s5.heap) s5 (dS own kp σ) H5 x u _ I5' r5 (step x H5 y5);refine wpAny_bind (dY hmm fun _ s6 ⟨Q9,H6,I6,q6⟩=>?_)
   refine wpAny_bind (dY (hi _ s6 Q9 H6 _ I6 q6) fun ok s7 ⟨H7,I7,q7⟩=>?_)
   cases ok with
   | false=>
     simp only[Bool.false_eq_true,if_false] at q7 ⊢;obtain⟨m',OU,w7⟩:=q7;obtain⟨a1,a2⟩:=keepIt I7;exact wpAny_pure ⟨rfl,m',OU,i+1,ys,H7,reset I7,a1,a2,w7⟩
   | true=>
     simp only[if_true] at q7 ⊢;refine wpAny_bind (wpAny_bind (dY (he _ s7 Q9 H7 _ I7 q7) fun yv s8 ⟨y,H8,I8,r8,hD,hlt,m',OU,w8⟩=>wpAny_bind ?_))
     obtain⟨a1,a2⟩:=keepIt I8;refine dY (r9 _ s8 Q9 H8 (.ref D) [y] (.ref D) [yv] (fun v H9=>v= .cH/\H9=upd H8 D (.lst (ys++[y]))) I8 rfl (.cons r8 .nil) ⟨D,ys,y,rfl,rfl,hD,hlt,rfl,rfl⟩) fun _ s9 ⟨v9,H9,I9,_,_,e9⟩=>?_
     subst e9;obtain⟨b1,b2⟩:=keepIt I9;exact wpAny_pure (wpAny_pure ⟨rfl,m',OU,i+1,ys++[y],_,reset I9,b1,b2,w8⟩)
 exact codeAny_compStart_list loop (T.self _ _ _ _ _ Wa loop)
theorem ED(hc:X.calm=true)(C:bZ X scope own kp kn)(hi:PI X tg iter wi)(hg:∀fp s H,PG (bX X scope (own++kn) fp s H) tg g)(Jo:∀fp s H,sv (bX X scope (own++kn) fp s H) ifs tc)
 (he:∀fp s H,PE (bX X scope (own++kn) fp s H) elt te) (hs:∀x,foldedSetIterable iter X.env x=pure x:=by intro _;rfl):PE X (.ListComp elt [⟨tg,iter,ifs,0⟩] scope pos) (Ew wi g tc te own kp):=by
 intro pins s σ H Q I h;rw[eval_ListComp];refine wpAny_comprehension_free (use:=none) rfl hs (nq (ql C I)) C.kind C.nd (dY (hi pins s σ H _ I h) fun v s1 h1=>dY h1 fun R6 s2 h2=>?_)
 obtain⟨it,fp,tn,J,H2,e,I2,T,JL,f2,q⟩:=h2;subst e;refine wpAny_newObj_type ?_;have I3:Inv X pins σ (upd H2 s2.heap.objs.size (.lst [])) {s2 with heap:=s2.heap.push {cls:= .type "list",dict:=none,data:= .seq ([]:List Value).toArray}}:=I2.KC (its:=[]) (t':=s2.toks) .nil (Nat.zero_le _)
 obtain⟨W,w0,turn⟩:=q s2.heap.objs.size I2.fresh;have fne:∀b∈fp,b < s2.heap.objs.size:=fun b hb=>let⟨o,e,_⟩:=T.obj _ _ JL b hb;Heap.lt_size e
 have f3:∀b∈fp,t7 X pins (upd H2 s2.heap.objs.size (.lst [])) b:=fun b hb=>⟨by rw[bj (Nat.ne_of_lt (fne b hb))];exact(f2 b hb).1,(f2 b hb).2⟩
 generalize hs3:({s2 with heap:=s2.heap.push {cls:= .type "list",dict:=none,data:= .seq ([]:List Value).toArray}}:Shared)=s3 at I3 ⊢
 have LF:tn 0 s3.heap:=by rw[<-hs3];exact T.keep _ _ _ JL fun b _ o e=>Heap.get?_push_of_some _ e
 have fne3:∀b∈fp,b < s3.heap.objs.size:=fun b hb=>by rw[<-hs3];exact Nat.lt_of_lt_of_le (fne b hb) (by rw[Heap.size_push];exact Nat.le_succ _)
 refine yd fun jo Dl hk hC=>?_
 refine AG (D:=s2.heap.objs.size) hc C I3 f3 fne3 T (hg fp s3 _) (Jo fp s3 _) (he fp s3 _) Dl hk hC LF W w0 turn fun H' s' dc J' hq=>?_
 have B:=vI I3 f3 J';obtain⟨m',OU,_⟩:=J'.loc;refine⟨m',OU,fun h' sb=>⟨.ref s2.heap.objs.size,H',?_,rfl,hq⟩⟩
 have fC:=I3.xl (H':=H') (b:=s3.heap.objs.size) (Nat.le_refl _) J'.free;exact B.turned (it:=s3.heap.objs.size) (t':=s'.toks) (fun b o hb e=>(sb.2 b hb).trans e) fC.1 fC.2.1 fC.2.2.2.1 fC.2.2.2.2.1 fC.2.2.2.2.2
theorem BZ{i:Nat}{x:Str}{pos' uu:Pos}(hc:X.calm=true)(hN:X.N.Nodup)(hx:X.N[i]? =some x)(Pg:X.env.scope.names.lookup x=some .local)(C:bZ X scope own kp kn)(hi:PI X tg iter wi)
 (hg:∀fp s H,PG (bX X scope (own++kn) fp s H) tg g) (Jo:∀fp s H,sv (bX X scope (own++kn) fp s H) ifs tc)
 (he:∀fp s H,PE (bX X scope (own++kn) fp s H) elt te)
 (Ge:swapsWith (.ListComp elt [⟨tg,iter,ifs,0⟩] scope pos) (some (.Name x pos')) uu.line X.env=pure true:=by rfl)
 (hs:∀x,foldedSetIterable iter X.env x=pure x:=by intro _;rfl) :
 PS X (.Assign [.Name x pos'] (.ListComp elt [⟨tg,iter,ifs,0⟩] scope pos) uu) (Fx (Ew wi g tc te own kp) (wb i)):=by
 intro pins s σ H D I h;rw[exec_Assign_Name_used _ _ _ _ Ge];refine wpAny_bind (wpAny_standAt (wpAny_bind ?_));show wpAny _ X.A (do let _ <-comprehension (.ListComp elt [⟨tg,iter,ifs,0⟩] scope pos) scope X.env _ (newList []) false (eval iter X.env) (some (assign (.Name x pos') X.env))) _ _ s
 refine wpAny_bind (wpAny_mono (wpAny_comprehension_free (use:=some (assign (.Name x pos') X.env)) (Q:=fun _ s'=>SP X pins D .next s') rfl hs (nq (ql C I)) C.kind C.nd
  (dY (hi pins s σ H _ I h) fun v s1 h1=>dY h1 fun R6 s2 h2=>?_)) (fun _ s' hq=>wpAny_pure (wpAny_pure hq)) fun _ _ e=>e)
 obtain⟨it,fp,tn,J,H2,e,I2,T,JL,f2,q⟩:=h2;subst e;refine wpAny_newObj_type ?_;have I3:Inv X pins σ (upd H2 s2.heap.objs.size (.lst [])) {s2 with heap:=s2.heap.push {cls:= .type "list",dict:=none,data:= .seq ([]:List Value).toArray}}:=I2.KC (its:=[]) (t':=s2.toks) .nil (Nat.zero_le _)
 obtain⟨W,w0,turn⟩:=q s2.heap.objs.size I2.fresh;have fne:∀b∈fp,b < s2.heap.objs.size:=fun b hb=>let⟨o,e,_⟩:=T.obj _ _ JL b hb;Heap.lt_size e
 have f3:∀b∈fp,t7 X pins (upd H2 s2.heap.objs.size (.lst [])) b:=fun b hb=>⟨by rw[bj (Nat.ne_of_lt (fne b hb))];exact(f2 b hb).1,(f2 b hb).2⟩
 generalize hs3:({s2 with heap:=s2.heap.push {cls:= .type "list",dict:=none,data:= .seq ([]:List Value).toArray}}:Shared)=s3 at I3 ⊢
 have LF:tn 0 s3.heap:=by rw[<-hs3];exact T.keep _ _ _ JL fun b _ o e=>Heap.get?_push_of_some _ e
 have fne3:∀b∈fp,b < s3.heap.objs.size:=fun b hb=>by rw[<-hs3];exact Nat.lt_of_lt_of_le (fne b hb) (by rw[Heap.size_push];exact Nat.le_succ _)
 refine yd fun jo Dl hk hC=>?_
 refine AG (Q:=fun x H1=>wb i x σ H1 D.nx) (D:=s2.heap.objs.size) hc C I3 f3 fne3 T (hg fp s3 _) (Jo fp s3 _) (he fp s3 _) Dl hk hC LF W w0 turn fun H' s' dc J' hq=>?_
 have B:=vI I3 f3 J';obtain⟨m',OU,_⟩:=J'.loc;have fC:=I3.xl (H':=H') (b:=s3.heap.objs.size) (Nat.le_refl _) J'.free;show wpAny _ X.A (assign (.Name x pos') X.env (.ref s2.heap.objs.size)) _ _ s';refine wpAny_assign_Name (x9 B hN hx (.inl Pg) (v:= .ref s2.heap.objs.size) rfl (fun s4 I4 ⟨a,sb,ha⟩=>?_) (.inr Pg))
 have ha':s3.heap.objs.size≠a:=by
  rcases ha with rfl | z
  .exact fC.2.1
  .exact fun e=>fC.2.2.2.2.1 x a z e.symm
 refine⟨m',OU.sameBut sb ha',fun h' XO=>⟨_,H',?_,hq⟩⟩
 exact I4.turned (it:=s3.heap.objs.size) (t':=s4.toks) (fun b o hb e=>(XO.2 b hb).trans e) fC.1 fC.2.1 fC.2.2.2.1 fC.2.2.2.2.1 fC.2.2.2.2.2
end
end L2
end
section
namespace L2
open PySem PySem.Spec PyProof.Rows
inductive D where
 | cH | bl (b:Bool) | int (i:Int) | str (x:Str) | lst (ds:List D) | tup (ds:List D) | dct (ks:List Key) (ds:List D)
inductive R (α:Type) where
 | ok (a:α) | ex (c:Nat) | no
def R.bind{α β:Type}:R α->(α->R β)->R β
 | .ok a,f=>f a
 | .ex c,_=> .ex c
 | .no,_=> .no
theorem R.ak{α β:Type}{r:R α}{f:α->R β}{b:β}(h:r.bind f= .ok b):∃a,r= .ok a/\f a= .ok b:=by
 cases r with
 | ok a=>exact⟨a,rfl,h⟩
 | ex c=>cases h
 | no=>cases h
@[simp] theorem R.aT{α β:Type}(a:α)(f:α->R β):(R.ok a).bind f=f a:=rfl
def R.bW{α:Type}(c:Bool)(r:R α):R α:=if c then r else .no
theorem R.bf{α:Type}{c:Bool}{r:R α}{a:α}(h:R.bW c r= .ok a):c=true/\r= .ok a:=by
 cases c with
 | true=>exact⟨rfl,h⟩
 | false=>cases h
@[simp] theorem R.O0{α:Type}(r:R α):R.bW true r=r:=rfl
def uZ(K:W.Frag)(B:List Addr)(H:Hp)(a:Addr)(xs:List V):Prop:=
 (a ∉ B/\Rd H a (.lst xs))\/∃(its:List Value) (n:Nat),K.lookup a=some {cls:= .type "list",data:= .seq its.toArray n}/\xs.length<=sizeLine/\Vals xs its
def xZ(K:W.Frag)(B:List Addr)(H:Hp)(a:Addr)(xs:List V):Prop:=
 (a ∉ B/\Rd H a (.tup xs))\/∃(o:Obj) (its:Array Value) (n:Nat),K.lookup a=some o/\o.cls= .type "tuple"/\o.data= .seq its n/\its.size<=sizeLine/\Vals xs its.toList
theorem uZ.sq{K:W.Frag}{B:List Addr}{a:Addr}{xs:List V}(h:uZ K B H a xs):pM K H a xs:=by
 rcases h with z | ⟨its,n,hk,hz,r⟩
 .exact .inl z.2
 .exact .inr ⟨_,its.toArray,n,hk,rfl,rfl,rfl,by rw[List.size_toArray,<-r.length];exact hz,by simpa using r⟩
theorem xZ.sq{K:W.Frag}{B:List Addr}{a:Addr}{xs:List V}(h:xZ K B H a xs):tM K H a xs:=h.elim (fun z=> .inl z.2) .inr
mutual
def Rep(K:W.Frag)(B:List Addr)(H:Hp):D->V->Prop
 | .cH,v=>v= .cH
 | .bl b,v=>v= .bl b
 | .int i,v=>v= .int i
 | .str x,v=>v= .str x
 | .lst ds,v=>∃a xs,v= .ref a/\uZ K B H a xs/\aD K B H ds xs
 | .tup ds,v=>∃a xs,v= .ref a/\xZ K B H a xs/\aD K B H ds xs
 | .dct ks ds,v=>∃(a:Addr) (kvs:List (Key × V)),v= .ref a/\(a ∉ B/\H a=some (.dK kvs))/\kvs.map (·.1)=ks/\aD K B H ds (kvs.map (·.2))
def aD(K:W.Frag)(B:List Addr)(H:Hp):List D->List V->Prop
 | [],xs=>xs=[]
 | d ::ds,xs=>∃x r,xs=x ::r/\Rep K B H d x/\aD K B H ds r
end
def dX(B:List Addr)(H:Hp)(B':List Addr)(H':Hp):Prop:=∀b o,H b=some o->b ∉ B->H' b=some o/\b ∉ B'
theorem dX.rd{B B':List Addr}(p:dX B H B' H'){a:Addr}{u:HO}(h:Rd H a u)(n:a ∉ B):Rd H' a u/\a ∉ B':=by
 rcases h with e | ⟨o,e⟩
 .exact⟨.inl (p a _ e n).1,(p a _ e n).2⟩
 .exact⟨.inr ⟨o,(p a _ e n).1⟩,(p a _ e n).2⟩
theorem dX.trans{B B' Q7:List Addr}(p:dX B H B' H')(q:dX B' H' Q7 o3):dX B H Q7 o3:=fun b o e n=>
 let⟨e1,n1⟩:=p b o e n;q b o e1 n1
theorem dX.same{B:List Addr}(s:bb H H'):dX B H B H':=fun b o e n=>⟨s b o e,n⟩
theorem dX.refl(B:List Addr)(H:Hp):dX B H B H:=dX.same (bb.refl H)
theorem uZ.bt{K:W.Frag}{B B':List Addr}(p:dX B H B' H'){a:Addr}{xs:List V}(l:uZ K B H a xs):uZ K B' H' a xs:=
 l.elim (fun z=> .inl ⟨(p.rd z.2 z.1).2,(p.rd z.2 z.1).1⟩) .inr
mutual
theorem Rep.bt{K:W.Frag}{B B':List Addr}(p:dX B H B' H'):∀{d:D} {v:V},Rep K B H d v->Rep K B' H' d v
 | .cH,_,h=>h
 | .bl _,_,h=>h
 | .int _,_,h=>h
 | .str _,_,h=>h
 | .lst ds,v,h=>by
   unfold Rep at h ⊢;obtain⟨a,xs,e,l,r⟩:=h;exact⟨a,xs,e,l.bt p,aD.bt p r⟩
 | .tup ds,v,h=>by
   unfold Rep at h ⊢;obtain⟨a,xs,e,l,r⟩:=h;exact⟨a,xs,e,l.elim (fun z=> .inl ⟨(p.rd z.2 z.1).2,(p.rd z.2 z.1).1⟩) .inr,aD.bt p r⟩
 | .dct ks ds,v,h=>by
   unfold Rep at h ⊢;obtain⟨a,kvs,e,⟨n,l⟩,k,r⟩:=h;exact⟨a,kvs,e,⟨(p a _ l n).2,(p a _ l n).1⟩,k,aD.bt p r⟩
theorem aD.bt{K:W.Frag}{B B':List Addr}(p:dX B H B' H'):∀{ds:List D} {xs:List V},aD K B H ds xs->aD K B' H' ds xs
 | [],_,h=>h
 | d ::ds,xs,h=>by
   unfold aD at h ⊢;obtain⟨x,r,e,h1,h2⟩:=h;exact⟨x,r,e,Rep.bt p h1,aD.bt p h2⟩
end
theorem Rep.same{K:W.Frag}{B:List Addr}{d:D}{v:V}(h:Rep K B H d v)(s:bb H H'):Rep K B H' d v:=h.bt (dX.same s)
theorem aD.same{K:W.Frag}{B:List Addr}{d:List D}{v:List V}(h:aD K B H d v)(s:bb H H'):aD K B H' d v:=h.bt (dX.same s)
theorem aD.nil{K:W.Frag}{B:List Addr}:aD K B H [] []:=by unfold aD;rfl
theorem aD.cons{K:W.Frag}{B:List Addr}{d:D}{ds:List D}{x:V}{xs:List V}(h:Rep K B H d x)(t:aD K B H ds xs):aD K B H (d ::ds) (x ::xs):=by
 unfold aD;exact⟨x,xs,rfl,h,t⟩
theorem aD.cu{K:W.Frag}{B:List Addr}{d:D}{ds:List D}{xs:List V}(h:aD K B H (d ::ds) xs):∃x r,xs=x ::r/\Rep K B H d x/\aD K B H ds r:=by
 unfold aD at h;exact h
theorem aD.length{K:W.Frag}{B:List Addr}:∀{ds:List D} {xs:List V},aD K B H ds xs->ds.length=xs.length
 | [],_,h=>by unfold aD at h;rw [h];rfl
 | d ::ds,xs,h=>by
   obtain⟨x,r,rfl,_,h2⟩:=h.cu;simp [h2.length]
theorem aD.get{K:W.Frag}{B:List Addr}:∀{ds:List D} {xs:List V} {i:Nat} {d:D},aD K B H ds xs->ds[i]? =some d->∃x,xs[i]? =some x/\Rep K B H d x
 | [],_,_,_,_,e=>by simp at e
 | d ::ds,xs,0,d',h,e=>by
   obtain⟨x,r,rfl,h1,h2⟩:=h.cu;simp at e;subst e;exact⟨x,rfl,h1⟩
 | d ::ds,xs,i+1,d',h,e=>by
   obtain⟨x,r,rfl,h1,h2⟩:=h.cu;obtain⟨y,e1,e2⟩:=aD.get (i:=i) h2 (by simpa using e)
   exact⟨y,by simpa using e1,e2⟩
theorem aD.append{K:W.Frag}{B:List Addr}:∀{ds es:List D} {xs ys:List V},aD K B H ds xs->aD K B H es ys->aD K B H (ds++es) (xs++ys)
 | [],_,_,_,h,t=>by unfold aD at h;subst h;exact t
 | d ::ds,es,xs,ys,h,t=>by
   obtain⟨x,r,rfl,h1,h2⟩:=h.cu;exact aD.cons h1 (aD.append h2 t)
theorem aD.drop{K:W.Frag}{B:List Addr}:∀{ds:List D} {xs:List V} (n:Nat),aD K B H ds xs->aD K B H (ds.drop n) (xs.drop n)
 | _,_,0,h=>h
 | [],_,n+1,h=>by unfold aD at h;subst h;exact aD.nil
 | d ::ds,xs,n+1,h=>by
   obtain⟨x,r,rfl,h1,h2⟩:=h.cu;exact aD.drop n h2
theorem aD.take{K:W.Frag}{B:List Addr}:∀{ds:List D} {xs:List V} (n:Nat),aD K B H ds xs->aD K B H (ds.take n) (xs.take n)
 | _,_,0,h=>aD.nil
 | [],_,n+1,h=>by unfold aD at h;subst h;exact aD.nil
 | d ::ds,xs,n+1,h=>by
   obtain⟨x,r,rfl,h1,h2⟩:=h.cu;exact aD.cons h1 (aD.take n h2)
def D.atom:D->Bool
 | .cH=>true | .bl _=>true | .int _=>true | .str _=>true | _=>false
theorem Rep.atom{K:W.Frag}{B B':List Addr}{d:D}{v:V}(a:d.atom=true)(h:Rep K B H d v):Rep K B' H' d v:=by
 cases d <;> first | exact h | cases a
inductive Sl where
 | un | val (d:D) | bld (ds:List D)
abbrev aw:=List Sl
structure eK (K:W.Frag) (Z B:List Addr) (H:Hp) (σ:St) (δ:aw):Prop where
 len:δ.length=σ.length
 bs:∀a∈B,∃o,H a=some o
 zb:∀a∈Z,a∈B
 val:∀(i:Nat) (d:D),δ[i]? =some (.val d)->∃v,σ[i]? =some (some v)/\Rep K B H d v
 bld:∀(i:Nat) (ds:List D),δ[i]? =some (.bld ds)->∃a xs,σ[i]? =some (some (.ref a))/\a∈B/\a ∉ Z/\H a=some (.lst xs)/\aD K B H ds xs
 dis:∀(i j:Nat) (a:Addr) (ds es:List D),δ[i]? =some (.bld ds)->δ[j]? =some (.bld es)->σ[i]? =some (some (.ref a))->σ[j]? =some (some (.ref a))->i=j
theorem eK.same{K:W.Frag}{Z B:List Addr}{δ:aw}(E:eK K Z B H σ δ)(s:bb H H'):eK K Z B H' σ δ where
 len:=E.len
 bs:=fun a ha=>let⟨o,e⟩:=E.bs a ha;⟨o,s a o e⟩
 zb:=E.zb
 val:=fun i d e=>let⟨v,h1,h2⟩:=E.val i d e;⟨v,h1,h2.same s⟩
 bld:=fun i ds e=>let⟨a,xs,h1,h2,h3,h4,h5⟩:=E.bld i ds e;⟨a,xs,h1,h2,h3,s a _ h4,h5.same s⟩
 dis:=E.dis
def Q6(δ:aw):aw:=δ.map fun x=>match x with | .bld ds=> .val (.lst ds) | y=>y
theorem PE.imp{X:Cx}{t t':TE}(h:PE X e t)(w:∀σ H Q,t' σ H Q->t σ H Q):PE X e t':=fun pins s σ H Q I hq=>h pins s σ H Q I (w σ H Q hq)
theorem PT.imp{X:Cx}{t t':TT}(h:PT X e t)(w:∀σ H Q,t' σ H Q->t σ H Q):PT X e t':=fun pins s σ H Q I hq=>h pins s σ H Q I (w σ H Q hq)
theorem PA.imp{X:Cx}{t t':TA}(h:PA X e t)(w:∀σ H Q,t' σ H Q->t σ H Q):PA X e t':=fun pos pins s σ H Q I hq=>h pos pins s σ H Q I (w σ H Q hq)
theorem PS.imp{X:Cx}{t t':TS}(h:PS X e t)(w:∀D σ H,t' D σ H->t D σ H):PS X e t':=fun pins s σ H D I hq=>h pins s σ H D I (w D σ H hq)
theorem zc.imp{X:Cx}{t t':TS}(h:zc X e t)(w:∀D σ H,t' D σ H->t D σ H):zc X e t':=fun pins s σ H D I hq=>h pins s σ H D I (w D σ H hq)
theorem PG.imp{X:Cx}{t t':TG}(h:PG X e t)(w:∀v σ H Q,t' v σ H Q->t v σ H Q):PG X e t':=fun pins s σ H v u Q I r hq=>h pins s σ H v u Q I r (w v σ H Q hq)
theorem PI.imp{X:Cx}{t t':TI}(h:PI X tg e t)(w:∀σ H Q,t' σ H Q->t σ H Q):PI X tg e t':=fun pins s σ H Q I hq=>h pins s σ H Q I (w σ H Q hq)
abbrev FD:=aw->R D
def tD(K:W.Frag)(f:FD):TE:=fun σ H Q=>∃Z B δ d,eK K Z B H σ δ/\f δ= .ok d/\∀v H',bb H H'->Rep K B H' d v->Q v H'
def tN(K:W.Frag)(f:aw->R (List D)):TE:=fun σ H Q=>∃Z B δ ds,eK K Z B H σ δ/\f δ= .ok ds/\∀a xs H',bb H H'->H a=none->H' a=some (.lst xs)->aD K (a ::B) H' ds xs->Q (.ref a) H'
def MN(K:W.Frag)(f:aw->R Bool):TT:=fun σ H Q=>∃Z B δ b,eK K Z B H σ δ/\f δ= .ok b/\∀H',bb H H'->Q b H'
def Va(K:W.Frag)(f:aw->R (List D)):TA:=fun σ H Q=>∃Z B δ ds,eK K Z B H σ δ/\f δ= .ok ds/\∀vs H',bb H H'->aD K B H' ds vs->Q vs H'
abbrev PD(X:Cx)(e:Expr)(f:FD):Prop:=PE X e (tD X.K f)
abbrev PN(X:Cx)(e:Expr)(f:aw->R (List D)):Prop:=PE X e (tN X.K f)
abbrev PB(X:Cx)(e:Expr)(f:aw->R Bool):Prop:=PT X e (MN X.K f)
abbrev JB(X:Cx)(es:List Expr)(f:aw->R (List D)):Prop:=PA X es (Va X.K f)
section
variable {X:Cx}
def eNew(f:aw->R (List D)):FD:=fun δ=>(f δ).bind fun ds=> .ok (.lst ds)
theorem N7{f:aw->R (List D)}(h:PN X e f):PD X e (eNew f):=h.imp fun σ H Q ⟨Z,B,δ,d,E,hf,q⟩=>by
 obtain⟨ds,h1,h2⟩:=R.ak hf;cases h2;refine⟨Z,B,δ,ds,E,h1,fun a xs H' s n e r=>q _ H' s ?_⟩
 unfold Rep;refine⟨a,xs,rfl, .inl ⟨fun ha=>?_, .inl e⟩,r.bt fun b o e nb=>⟨e,fun hb=>nb (List.mem_cons_of_mem _ hb)⟩⟩
 obtain⟨o,ho⟩:=E.bs a ha;rw[n] at ho;cases ho
theorem Bj{B:List Addr}{H:Hp}{p:Addr}{o:HO}(h:H p=none):dX B H (p ::B) (upd H p o):=fun b u e nb=>
 ⟨by rw[bj (b_ e h)];exact e,fun hb=>by
   rcases List.mem_cons.mp hb with z | z
   .exact b_ e h z
   .exact nb z⟩
def VJ(f:FD):FD:=fun δ=>(f (Q6 δ)).bind fun d=>R.bW d.atom (.ok d)
def Vj(f:aw->R Bool):aw->R Bool:=fun δ=>f (Q6 δ)
def ah(i:Nat):FD:=fun δ=>match δ[i]? with | some (.val d)=> .ok d | _=> .no
def eC(d:D):FD:=fun _=> .ok d
theorem M3(i:Nat){x:Str}{pos:Pos}(hN:X.N[i]? =some x:=by rfl)(hv:JA X.env.scope x:=by first | exact Or.inl rfl | exact Or.inr (Or.inl rfl) | exact Or.inr (Or.inr rfl))(hd:(x==("__debug__":Str))=false:=by decide)
 (uq:(x==("__classdict__":Str))=false:=by decide):PD X (.Name x pos) (ah i):=(sL hN hv hd uq).imp fun σ H Q ⟨Z,B,δ,d,E,hf,q⟩=>by
 unfold ah at hf;split at hf
 .rename_i d' e;cases hf;obtain⟨v,h1,h2⟩:=E.val i d e;exact⟨v,h1,q v H (bb.refl H) h2⟩
 .cases hf
theorem rp{v:V}{d:D}(h:PE X e (tC v))(r:∀B H,Rep X.K B H d v):PD X e (eC d):=h.imp fun σ H Q ⟨Z,B,δ,d',E,hf,q⟩=>by
 cases hf;exact q v H (bb.refl H) (r B H)
theorem N_{i j pos}:PD X (.Constant (.int i) j pos) (eC (.int i)):=rp u6 fun _ _=>by unfold Rep;rfl
theorem Qt{b j pos}:PD X (.Constant (.bool b) j pos) (eC (.bl b)):=rp Qq fun _ _=>by unfold Rep;rfl
theorem Nv{j pos}:PD X (.Constant .none j pos) (eC .cH):=rp Oq fun _ _=>by unfold Rep;rfl
theorem NC{x j pos}:PD X (.Constant (.str x) j pos) (eC (.str x)):=rp vF fun _ _=>by unfold Rep;rfl
def Glob(K:W.Frag)(mg:ZE)(x:Str)(d:D):Prop:=∃(u:Value) (v:V),mg x=some u/\RelV v u/\∀B H,Rep K B H d v
def aP:aw->R (List D):=fun _=> .ok []
def av(f:FD)(g:aw->R (List D)):aw->R (List D):=fun δ=>(f δ).bind fun d=>(g δ).bind fun ds=> .ok (d ::ds)
theorem K7:JB X [] aP:=ji.imp fun σ H Q ⟨Z,B,δ,d,E,hf,q⟩=>by
 cases hf;exact q [] H (bb.refl H) aD.nil
theorem GZ{g:aw->R (List D)}(h:PD X e f)(t:JB X es g)(hs:starEach (e ::es) X.env=(false,eval e X.env) ::starEach es X.env:=by rfl):JB X (e ::es) (av f g):=
 (fK h t hs).imp fun σ H Q ⟨Z,B,δ,d,E,hf,q⟩=>by
   obtain⟨d1,h1,h2⟩:=R.ak hf;obtain⟨ds,h3,h4⟩:=R.ak h2;cases h4;exact⟨Z,B,δ,d1,E,h1,fun v H1 s1 r1=>⟨Z,B,δ,ds,E.same s1,h3,fun vs H2 s2 r2=>q _ H2 (s1.trans s2) (aD.cons (r1.same s2) r2)⟩⟩
def eT(g:aw->R (List D)):FD:=fun δ=>(g δ).bind fun ds=>R.bW (decide (ds.length<=sizeLine)) (.ok (.tup ds))
def dy(g:aw->R (List D)):aw->R (List D):=fun δ=>(g δ).bind fun ds=>R.bW (decide (ds.length<=sizeLine)) (.ok ds)
theorem aU{H:Hp}{p:Addr}{o:HO}(h:H p=none):bb H (upd H p o):=fun b u e=>by rw[bj (b_ e h)];exact e
theorem Np{g:aw->R (List D)}{x1 pos}(h:JB X es g):PD X (.Tuple es x1 pos) (eT g):=(GH h).imp fun σ H Q ⟨Z,B,δ,d,E,hf,q⟩=>by
 obtain⟨ds,h1,h2⟩:=R.ak hf;obtain⟨hl,h3⟩:=R.bf h2;cases h3;refine⟨Z,B,δ,ds,E,h1,fun vs H1 s1 r1=>⟨by rw[<-r1.length];exact of_decide_eq_true hl,fun p hp=>q _ _ (s1.trans (aU hp)) ?_⟩⟩
 unfold Rep;refine⟨p,vs,rfl, .inl ⟨fun ha=>?_, .inl ba⟩,r1.same (aU hp)⟩
 obtain⟨o,ho⟩:=(E.same s1).bs p ha;rw[hp] at ho;cases ho
theorem Ol{g:aw->R (List D)}{pos}(h:JB X es g):PN X (.List es pos) (dy g):=(BR h).imp fun σ H Q ⟨Z,B,δ,d,E,hf,q⟩=>by
 obtain⟨ds,h1,h2⟩:=R.ak hf;obtain⟨hl,h3⟩:=R.bf h2;cases h3;exact⟨Z,B,δ,_,E,h1,fun vs H1 s1 r1=>⟨by rw[<-r1.length];exact of_decide_eq_true hl,fun p hp=>q p vs _ (s1.trans (aU hp)) (s1.free hp) ba (r1.bt (Bj hp))⟩⟩
def lx(X:Cx)(f:Value->Value->Sem Value)(g:D->D->R D):Prop:=
 ∀(pins:Zy) (s:Shared) (σ:St) (H:Hp) (B:List Addr) (da db d:D) (x y:V) (v u:Value),Inv X pins σ H s->(∀a∈B,∃o,H a=some o)->RelV x v->RelV y u->Rep X.K B H da x->Rep X.K B H db y->g da db= .ok d->
  wpAny (model X.prog X.w) X.A (f v u) (EP X pins σ fun z H'=>bb H H'/\Rep X.K B H' d z) X.xe s
def e2(g:D->D->R D)(fa fb:FD):FD:=fun δ=>(fa δ).bind fun a=>(fb δ).bind fun b=>g a b
theorem lx.r{f:Value->Value->Sem Value}{g:D->D->R D}(h:lx X f g):mT X f (fun x y H Q=>∃B da db d,(∀a∈B,∃o,H a=some o)/\Rep X.K B H da x/\Rep X.K B H db y/\g da db= .ok d/\∀z H',bb H H'->Rep X.K B H' d z->Q z H'):=by
 intro pins s σ H x y v u Q I rx ry ⟨B,da,db,d,hb,ha,zu,hg,q⟩;exact dY (h pins s σ H B da db d x y v u I hb rx ry ha zu hg) fun z s' ⟨zv,H',I',r',s1,r1⟩=>⟨zv,H',I',r',q zv H' s1 r1⟩
theorem Ni{K:W.Frag}{g:D->D->R D}{Q:VK}(h:tD K (e2 g fa fb) σ H Q) :
 O2 (fun x y H Q=>∃B da db d,(∀a∈B,∃o,H a=some o)/\Rep K B H da x/\Rep K B H db y/\g da db= .ok d/\∀z H',bb H H'->Rep K B H' d z->Q z H') (tD K fa) (tD K fb) σ H Q:=by
 obtain⟨Z,B,δ,d,E,hf,q⟩:=h;obtain⟨d1,h1,h2⟩:=R.ak hf;obtain⟨d2,h3,h4⟩:=R.ak h2;exact⟨Z,B,δ,d1,E,h1,fun v1 H1 s1 r1=>⟨Z,B,δ,d2,E.same s1,h3,fun v2 H2 s2 r2=>⟨B,d1,d2,d,(E.same (s1.trans s2)).bs,r1.same s2,r2,h4,fun z H' s3 r3=>q z H' (s1.trans (s2.trans s3)) r3⟩⟩⟩
theorem PQ{op:Operator}{g:D->D->R D}(ho:lx X (binaryOp op) g)(ha:PD X a fa)(hb:PD X b fb):PD X (.BinOp a op b pos) (e2 g fa fb):=
 (DY ho.r ha hb).imp fun σ H Q h=>Ni h
theorem Mz{op:CmpOp}{g:D->D->R D}(ho:lx X (compareOp op) g)(ha:PD X a fa)(hb:PD X b fb)(hm:behindInMarks op b=false):PD X (.Compare a [op] [b] pos) (e2 g fa fb):=
 (Dv ho.r ha hb hm).imp fun σ H Q h=>Ni h
def b2(g:D->D->R D)(fa fb:FD):aw->R Bool:=fun δ=>(e2 g fa fb δ).bind fun d=>match d with | .bl b=> .ok b | _=> .no
theorem M0{op:CmpOp}{g:D->D->R D}(ho:lx X (compareOp op) g)(ha:PD X a fa)(hb:PD X b fb)(hm:behindInMarks op b=false):PB X (.Compare a [op] [b] pos) (b2 g fa fb):=
 (EC ho.r ha hb hm).imp fun σ H Q ⟨Z,B,δ,b,E,hf,q⟩=>by
   obtain⟨d,h1,h2⟩:=R.ak hf;cases d with
   | bl k=>
     cases h2;exact Ni (g:=g) (Q:=fun x H'=>∃k,x= .bl k/\Q k H') ⟨Z,B,δ, .bl b,E,h1,fun v H' s r=>⟨b,by unfold Rep at r;exact r,q H' s⟩⟩
   | _=>cases h2
def Tt(g g':D->D->R D)(fa fb fc:FD):FD:=fun δ=>(fa δ).bind fun a=>(fb δ).bind fun b=>(g a b).bind fun r=>match r with
 | .bl true=>(fc δ).bind fun c=>g' b c
 | .bl false=> .ok (.bl false)
 | _=> .no
def JO:D->R Bool
 | .cH=> .ok false
 | .bl b=> .ok b
 | .int i=> .ok (i !=0)
 | .str x=>R.bW (decide (x.length<=sizeLine)) (.ok ((x.length:Int) !=0))
 | .lst ds=> .ok (!ds.isEmpty)
 | .tup ds=> .ok (!ds.isEmpty)
 | .dct _ _=> .no
def vY(f:FD):aw->R Bool:=fun δ=>(f δ).bind JO
theorem aD.isEmpty{K:W.Frag}{B:List Addr}{ds:List D}{xs:List V}(h:aD K B H ds xs):ds.isEmpty=xs.isEmpty:=by
 have:=h.length;cases ds <;> cases xs <;> simp_all
theorem Je{K:W.Frag}{B:List Addr}{d:D}{v:V}{b:Bool}(r:Rep K B H d v)(h:JO d= .ok b):Lk K v H b:=by
 cases d with
 | cH=>unfold Rep at r;subst r;cases h;exact rfl
 | bl k=>unfold Rep at r;subst r;cases h;exact rfl
 | int i=>unfold Rep at r;subst r;cases h;exact rfl
 | str x=>unfold Rep at r;subst r;obtain⟨h1,h2⟩:=R.bf h;cases h2;exact⟨of_decide_eq_true h1,rfl⟩
 | lst ds=>unfold Rep at r;obtain⟨a,xs,rfl,l,r⟩:=r;cases h;exact .inl ⟨xs,l.sq,by rw[r.isEmpty]⟩
 | tup ds=>unfold Rep at r;obtain⟨a,xs,rfl,l,r⟩:=r;cases h;exact .inr (.inl ⟨xs,l.sq,by rw[r.isEmpty]⟩)
 | dct _ _=>cases h
theorem M6{a:Expr}(ha:PD X a f)(he:∀whole,isTrue a X.env whole=(do let v <-whole;standAt a.pos;holding [v] (truthy v)):=by intro _;rfl):PB X a (vY f):=
 (Ao ha he).imp fun σ H Q ⟨Z,B,δ,b,E,hf,q⟩=>by
   obtain⟨d,h1,h2⟩:=R.ak hf;exact⟨Z,B,δ,d,E,h1,fun v H' s r=>⟨b,Je r h2,q H' s⟩⟩
def wM(f g:aw->R Bool):aw->R Bool:=fun δ=>(f δ).bind fun b=>if b then g δ else .ok false
def Jz(f g:aw->R Bool):aw->R Bool:=fun δ=>(f δ).bind fun b=>if b then .ok true else g δ
def HF(f:aw->R Bool):aw->R Bool:=fun δ=>(f δ).bind fun b=> .ok (!b)
def JF(X:Cx)(e:Expr)(f:aw->R Bool):Prop:=PW X e (MN X.K f)
theorem JF.pb{f:aw->R Bool}(h:JF X e f):PB X e f:=PW.pt h
theorem HC{f:aw->R Bool}(h:PB X a f):JF X (.BoolOp .And [a] pos) f:=DL h
theorem Kc{f:aw->R Bool}(h:PB X a f):JF X (.BoolOp .Or [a] pos) f:=IM h
theorem J9{rest:List Expr}{f g:aw->R Bool}(ha:PB X a f)(hb:JF X (.BoolOp .And (b ::rest) pos) g):JF X (.BoolOp .And (a ::b ::rest) pos) (wM f g):=by
 intro wh pins s σ H Q I ⟨Z,B,δ,k,E,hf,q⟩;refine HI ha hb wh pins s σ H Q I ?_;obtain⟨c,h1,h2⟩:=R.ak hf;refine⟨Z,B,δ,c,E,h1,fun H1 s1=>?_⟩
 cases c with
 | true=>rw [if_pos rfl] at h2 ⊢;exact⟨Z,B,δ,k,E.same s1,h2,fun H' s2=>q H' (s1.trans s2)⟩
 | false=>rw [if_neg (by decide)] at h2 ⊢;cases h2;exact q H1 s1
theorem Oi{rest:List Expr}{f g:aw->R Bool}(ha:PB X a f)(hb:JF X (.BoolOp .Or (b ::rest) pos) g):JF X (.BoolOp .Or (a ::b ::rest) pos) (Jz f g):=by
 intro wh pins s σ H Q I ⟨Z,B,δ,k,E,hf,q⟩;refine Mg ha hb wh pins s σ H Q I ?_;obtain⟨c,h1,h2⟩:=R.ak hf;refine⟨Z,B,δ,c,E,h1,fun H1 s1=>?_⟩
 cases c with
 | true=>rw [if_pos rfl] at h2 ⊢;cases h2;exact q H1 s1
 | false=>rw [if_neg (by decide)] at h2 ⊢;exact⟨Z,B,δ,k,E.same s1,h2,fun H' s2=>q H' (s1.trans s2)⟩
theorem Nc{f:aw->R Bool}(ha:PB X a f):PB X (.UnaryOp .Not a pos) (HF f):=(HG ha).imp fun σ H Q ⟨Z,B,δ,k,E,hf,q⟩=>by
 obtain⟨c,h1,h2⟩:=R.ak hf;cases h2;exact⟨Z,B,δ,c,E,h1,fun H1 s1=>q H1 s1⟩
def O3(f:FD):aw->R Bool:=fun δ=>(f δ).bind fun d=>match d with | .bl b=> .ok b | _=> .no
def WI(f g:FD):FD:=fun δ=>(O3 f δ).bind fun b=>if b then g δ else .ok (.bl false)
def QL(f g:FD):FD:=fun δ=>(O3 f δ).bind fun b=>if b then .ok (.bl true) else g δ
def Wc(f:FD):FD:=fun δ=>(O3 f δ).bind fun b=> .ok (.bl (!b))
theorem N3{f:FD}{δ:aw}{b:Bool}(h:O3 f δ= .ok b):f δ= .ok (.bl b):=by
 obtain⟨d,h1,h2⟩:=R.ak h;cases d with
 | bl k=>cases h2;exact h1
 | _=>cases h2
theorem MS{op}(h:PD X a f):PD X (.BoolOp op [a] pos) f:=MU h
theorem Qr{rest:List Expr}(ha:PD X a f)(hb:PD X (.BoolOp .Or (b ::rest) pos) g):PD X (.BoolOp .Or (a ::b ::rest) pos) (QL f g):=(PR ha hb).imp fun σ H Q ⟨Z,B,δ,k,E,hf,q⟩=>by
 obtain⟨c,h1,h2⟩:=R.ak hf;refine⟨Z,B,δ, .bl c,E,N3 h1,fun v H1 s1 r1=>⟨c,by unfold Rep at r1;exact r1,?_⟩⟩
 cases c with
 | true=>rw [if_pos rfl] at h2 ⊢;cases h2;exact q _ H1 s1 (by unfold Rep;rfl)
 | false=>rw [if_neg (by decide)] at h2 ⊢;exact⟨Z,B,δ,k,E.same s1,h2,fun v H' s2 r2=>q v H' (s1.trans s2) r2⟩
def M_(c:aw->R Bool)(f g:FD):FD:=fun δ=>(c δ).bind fun b=>if b then f δ else g δ
theorem Qe{fc:aw->R Bool}(hc:PB X c fc)(ha:PD X a f)(hb:PD X b g):PD X (.IfExp c a b pos) (M_ fc f g):=(HD hc ha hb).imp fun σ H Q ⟨Z,B,δ,k,E,hf,q⟩=>by
 obtain⟨c,h1,h2⟩:=R.ak hf;refine⟨Z,B,δ,c,E,h1,fun H1 s1=>?_⟩
 cases c with
 | true=>rw [if_pos rfl] at h2 ⊢;exact⟨Z,B,δ,k,E.same s1,h2,fun v H' s2 r2=>q v H' (s1.trans s2) r2⟩
 | false=>rw [if_neg (by decide)] at h2 ⊢;exact⟨Z,B,δ,k,E.same s1,h2,fun v H' s2 r2=>q v H' (s1.trans s2) r2⟩
def dz(X:Cx)(f:Value)(g:List D->R D):Prop:=
 ∀(pins:Zy) (s:Shared) (σ:St) (H:Hp) (B:List Addr) (ds:List D) (d:D) (xs:List V) (us:List Value),Inv X pins σ H s->(∀a∈B,∃o,H a=some o)->Vals xs us->aD X.K B H ds xs->g ds= .ok d->
  wpAny (model X.prog X.w) X.A (call f us) (EP X pins σ fun z H'=>bb H H'/\Rep X.K B H' d z) X.xe s
def bp(g:List D->R D)(fs:aw->R (List D)):FD:=fun δ=>(fs δ).bind g
theorem dz.r{f:Value}{g:List D->R D}(h:dz X f g):oz X f (fun xs H Q=>∃B ds d,(∀a∈B,∃o,H a=some o)/\aD X.K B H ds xs/\g ds= .ok d/\∀z H',bb H H'->Rep X.K B H' d z->Q z H'):=by
 intro pins s σ H xs us Q I rx ⟨B,ds,d,hb,hr,hg,q⟩;exact dY (h pins s σ H B ds d xs us I hb rx hr hg) fun z s' ⟨zv,H',I',r',s1,r1⟩=>⟨zv,H',I',r',q zv H' s1 r1⟩
theorem EB{K:W.Frag}{g:List D->R D}{fs:aw->R (List D)}{Q:VK}(h:tD K (bp g fs) σ H Q) :
 Va K fs σ H fun vs H1=>∃B ds d,(∀a∈B,∃o,H1 a=some o)/\aD K B H1 ds vs/\g ds= .ok d/\∀z H',bb H1 H'->Rep K B H' d z->Q z H':=by
 obtain⟨Z,B,δ,d,E,hf,q⟩:=h;obtain⟨ds,h1,h2⟩:=R.ak hf;exact⟨Z,B,δ,ds,E,h1,fun vs H1 s1 r1=>⟨B,ds,d,(E.same s1).bs,r1,h2,fun z H' s2 r2=>q z H' (s1.trans s2) r2⟩⟩
theorem GV{g:List D->R D}{x:Str}{id:String}{p pos:Pos}{e:Expr}{es:List Expr}{fs:aw->R (List D)}(hc:dz X (.builtin id) g)(hg:Gl X x)(hm:X.mg x=none)(hv:bootBuiltins x=some (.builtin id))(ha:JB X (e ::es) fs)(hn:x≠"__name__":=by decide)(qG:(x==("__debug__":Str))=false:=by decide)
 (he:starEach (e ::es) X.env=(false,eval e X.env) ::starEach es X.env:=by rfl) (m7:(backTo pos (starEach es X.env)).any (·.1)=false:=by rfl):PD X (.Call (.Name x p) (e ::es) [] pos) (bp g fs):=
 (uK hc.r hg hm hv ha hn qG he m7).imp fun σ H Q h=>EB h
theorem FY{g:List D->R D}{x:Str}{T:String}{p pos:Pos}{e:Expr}{es:List Expr}{fs:aw->R (List D)}(hc:dz X (.type T) g)(hg:Gl X x)(hm:X.mg x=none)(hv:bootBuiltins x=some (.type T))(ha:JB X (e ::es) fs)(hn:x≠"__name__":=by decide)(qG:(x==("__debug__":Str))=false:=by decide)
 (he:starEach (e ::es) X.env=(false,eval e X.env) ::starEach es X.env:=by rfl) (m7:(backTo pos (starEach es X.env)).any (·.1)=false:=by rfl):PD X (.Call (.Name x p) (e ::es) [] pos) (bp g fs):=
 (yh hc.r hg hm hv ha hn qG he m7).imp fun σ H Q h=>EB h
def IE(K:W.Frag)(n:Nat)(g:List D->R D):Sp:=fun vs H Q _=>vs.length=n/\∃B ds d,(∀a∈B,∃o,H a=some o)/\aD K B H ds vs/\g ds= .ok d/\∀z H',bb H H'->Rep K B H' d z->Q z H'
theorem Ld{g:List D->R D}{k n:Nat}{f:Addr}{fd:FuncData}{ps:List Str}{x:Str}{p pos:Pos}{e:Expr}{es:List Expr}{fs:aw->R (List D)}
 (F:jl X.prog X.w X.K X.mg X.base wI k f fd ps (IE X.K n g)) (hr:eU k X.A) (hg:Gl X x) (hm:X.mg x=some (.ref f)) (hk:PySem.W.keepIn X.K (.ref f)=true) (hb:Binds X.K fd ps []) (ha:JB X (e ::es) fs)
 (hn:∀δ ds,fs δ= .ok ds->ds.length=n) (qG:(x==("__debug__":Str))=false:=by decide) (he:starEach (e ::es) X.env=(false,eval e X.env) ::starEach es X.env:=by rfl) (m7:(backTo pos (starEach es X.env)).any (·.1)=false:=by rfl) :
 PD X (.Call (.Name x p) (e ::es) [] pos) (bp g fs):=
 (yN F hr hg hm hk hb .nil AO ha qG he m7).imp fun σ H Q ⟨Z,B,δ,d,E,hf,q⟩=>by
   obtain⟨ds,h1,h2⟩:=R.ak hf;refine⟨Z,B,δ,ds,E,h1,fun vs H1 s1 r1=>?_⟩
   show IE X.K n g (vs++[]) H1 Q E0;rw[List.append_nil];exact⟨by rw[<-r1.length];exact hn δ ds h1,B,ds,d,(E.same s1).bs,r1,h2,fun z H' s2 r2=>q z H' (s1.trans s2) r2⟩
end
end L2
end
section
namespace L2
open PySem PySem.Spec PyProof.Rows
inductive Out where
 | nx (δ:aw) | rt (d:D)
abbrev FS:=aw->R Out
structure Ev (Z B:List Addr) (H:Hp) (B':List Addr) (H':Hp):Prop where
 bt:dX B H B' H'
 zs:∀b o,H b=some o->b∈Z->H' b=some o/\b∈B'
theorem Ev.refl(Z B:List Addr)(H:Hp)(zb:∀a∈Z,a∈B):Ev Z B H B H:=⟨dX.refl B H,fun b o e z=>⟨e,zb b z⟩⟩
theorem Ev.trans{Z B B' Q7:List Addr}(a:Ev Z B H B' H')(b:Ev Z B' H' Q7 o3):Ev Z B H Q7 o3:=
 ⟨a.bt.trans b.bt,fun c o e z=>let⟨e1,_⟩:=a.zs c o e z;b.zs c o e1 z⟩
theorem Ev.same{Z B:List Addr}(zb:∀a∈Z,a∈B)(s:bb H H'):Ev Z B H B H':=⟨dX.same s,fun b o e z=>⟨s b o e,zb b z⟩⟩
def DT(K:W.Frag)(Z B:List Addr)(H:Hp)(D:Ends):Out->Prop
 | .nx ei=>∀dc B' H',Ev Z B H B' H'->eK K Z B' H' dc ei->D.nx dc H'
 | .rt d=>∀v B' H',Ev Z B H B' H'->(∀a∈Z,a∈B')->Rep K B' H' d v->D.rt v H'
theorem DT.ev{K:W.Frag}{Z B B1:List Addr}{D:Ends}{o:Out}(q:DT K Z B H D o)(ev:Ev Z B H B1 H1):DT K Z B1 H1 D o:=by
 cases o with
 | nx ei=>exact fun dc B' H' Gd E'=>q dc B' H' (ev.trans Gd) E'
 | rt d=>exact fun v B' H' Gd z r=>q v B' H' (ev.trans Gd) z r
def sD(K:W.Frag)(F:FS):TS:=fun D σ H=>∃Z B δ o,eK K Z B H σ δ/\F δ= .ok o/\DT K Z B H D o
abbrev Lq(X:Cx)(st:Stmt)(F:FS):Prop:=PS X st (sD X.K F)
abbrev ui(X:Cx)(st:List Stmt)(F:FS):Prop:=zc X st (sD X.K F)
section
variable {X:Cx}
def zg:FS:=fun δ=> .ok (.nx δ)
def k_(F G:FS):FS:=fun δ=>(F δ).bind fun o=>match o with | .nx ei=>G ei | .rt d=> .ok (.rt d)
theorem JS:ui X [] zg:=ze.imp fun D σ H ⟨Z,B,δ,o,E,hf,q⟩=>by
 cases hf;exact q σ B H (Ev.refl Z B H E.zb) E
theorem Nx{K:W.Frag}{F G:FS}{D:Ends}(h:sD K (k_ F G) D σ H):Q3 (sD K F) (sD K G) D σ H:=by
 obtain⟨Z,B,δ,o,E,hf,q⟩:=h;obtain⟨o1,h1,h2⟩:=R.ak hf;refine⟨Z,B,δ,o1,E,h1,?_⟩;cases o1 with
 | nx c_=>
   intro JM B1 H1 ev E1;refine⟨Z,B1,c_,o,E1,h2,?_⟩;cases o with
   | nx cK=>exact fun dc B' H' Gd E'=>q dc B' H' (ev.trans Gd) E'
   | rt d=>exact fun v B' H' Gd z r=>q v B' H' (ev.trans Gd) z r
 | rt d=>
   cases h2;exact q
theorem IF{st:Stmt}{rest:List Stmt}{F G:FS}(h1:Lq X st F)(h2:ui X rest G):ui X (st ::rest) (k_ F G):=(we h1 h2).imp fun D σ H h=>Nx h
theorem Le{st:Stmt}{F:FS}(h1:Lq X st F):ui X [st] F:=yK h1
theorem eK.set{K:W.Frag}{Z B:List Addr}{σ:St}{δ:aw}(E:eK K Z B H σ δ){i:Nat}{d:D}{v:V}(hi:i < σ.length)(r:Rep K B H d v):eK K Z B H (σ.set i (some v)) (δ.set i (.val d)) where
 len:=by rw[List.length_set,List.length_set];exact E.len
 bs:=E.bs
 zb:=E.zb
 val:=fun j d' e=>by
  by_cases h:i=j
  .subst h;rw[List.getElem?_set_self (by rw[E.len];exact hi)] at e
   cases e;exact⟨v,List.getElem?_set_self hi,r⟩
  .rw [List.getElem?_set_ne h] at e ⊢;exact E.val j d' e
 bld:=fun j ds e=>by
  by_cases h:i=j
  .subst h;rw[List.getElem?_set_self (by rw[E.len];exact hi)] at e
   cases e
  .rw [List.getElem?_set_ne h] at e ⊢;exact E.bld j ds e
 dis:=fun j k a ds es e1 e2 e3 e4=>by
  by_cases h:i=j
  .subst h;rw[List.getElem?_set_self (by rw[E.len];exact hi)] at e1
   cases e1
  .by_cases h':i=k
   .subst h';rw[List.getElem?_set_self (by rw[E.len];exact hi)] at e2
    cases e2
   .rw [List.getElem?_set_ne h] at e1 e3;rw[List.getElem?_set_ne h'] at e2 e4;exact E.dis j k a ds es e1 e2 e3 e4
theorem eK.setB{K:W.Frag}{Z B:List Addr}{H:Hp}{σ:St}{δ:aw}(E:eK K Z B H σ δ){i:Nat}{ds:List D}{a:Addr}{xs:List V}(hi:i < σ.length)(hB:a∈B)(hZ:a ∉ Z)(hH:H a=some (.lst xs))(r:aD K B H ds xs)
 (new:∀j es,j≠i->δ[j]? =some (.bld es)->σ[j]?≠some (some (.ref a))):eK K Z B H (σ.set i (some (.ref a))) (δ.set i (.bld ds)) where
 len:=by rw[List.length_set,List.length_set];exact E.len
 bs:=E.bs
 zb:=E.zb
 val:=fun j d' e=>by
  by_cases h:i=j
  .subst h;rw[List.getElem?_set_self (by rw[E.len];exact hi)] at e
   cases e
  .rw [List.getElem?_set_ne h] at e ⊢;exact E.val j d' e
 bld:=fun j es e=>by
  by_cases h:i=j
  .subst h;rw[List.getElem?_set_self (by rw[E.len];exact hi)] at e
   cases e;exact⟨a,xs,List.getElem?_set_self hi,hB,hZ,hH,r⟩
  .rw [List.getElem?_set_ne h] at e ⊢;exact E.bld j es e
 dis:=fun j k b Rg Rp e1 e2 e3 e4=>by
  by_cases h:i=j
  .subst h;by_cases h':i=k
   .exact h'
   .rw [List.getElem?_set_self hi] at e3;cases e3;rw[List.getElem?_set_ne h'] at e2 e4;exact absurd e4 (new k Rp (Ne.symm h') e2)
  .by_cases h':i=k
   .subst h';rw[List.getElem?_set_self hi] at e4;cases e4;rw[List.getElem?_set_ne h] at e1 e3;exact absurd e3 (new j Rg (Ne.symm h) e1)
   .rw [List.getElem?_set_ne h] at e1 e3;rw[List.getElem?_set_ne h'] at e2 e4;exact E.dis j k b Rg Rp e1 e2 e3 e4
def AU(i:Nat)(f:FD):FS:=fun δ=>(f δ).bind fun d=>R.bW (decide (i < δ.length)) (.ok (.nx (δ.set i (.val d))))
theorem OE{K:W.Frag}{i:Nat}{D:Ends}(h:sD K (AU i f) D σ H):Fx (tD K f) (wb i) D σ H:=by
 obtain⟨Z,B,δ,o,E,hf,q⟩:=h;obtain⟨d,h1,h2⟩:=R.ak hf;obtain⟨hi,h3⟩:=R.bf h2;cases h3;refine⟨Z,B,δ,d,E,h1,fun v H1 s1 r1=>?_⟩
 exact q _ B H1 (Ev.same E.zb s1) ((E.same s1).set (by rw[<-E.len];exact of_decide_eq_true hi) r1)
theorem LB{i:Nat}{pos pos':Pos}(hN:X.N.Nodup)(hi:X.N[i]? =some x)(hx:Loc X.env.scope x)(he:PD X e f)(hs:swapsWith e (some (.Name x pos')) pos.line X.env=pure false:=by rfl)(hf:X.fn x=true\/X.env.scope.names.lookup x=some .local:=by first | exact .inl rfl | exact .inr rfl | assumption) :
 Lq X (.Assign [.Name x pos'] e pos) (AU i f):=(B4 hN hi hx he hs hf).imp fun D σ H h=>OE h
def B5(i:Nat)(f:aw->R (List D)):FS:=fun δ=>(f δ).bind fun ds=>R.bW (decide (i < δ.length)) (.ok (.nx (δ.set i (.bld ds))))
theorem MA{K:W.Frag}{i:Nat}{f:aw->R (List D)}{D:Ends}(h:sD K (B5 i f) D σ H):Fx (tN K f) (wb i) D σ H:=by
 obtain⟨Z,B,δ,o,E,hf,q⟩:=h;obtain⟨ds,h1,h2⟩:=R.ak hf;obtain⟨hi,h3⟩:=R.bf h2;cases h3;refine⟨Z,B,δ,ds,E,h1,fun a xs H1 s1 n e r=>?_⟩
 have E1:=E.same s1;have aB:a ∉ B:=fun ha=>by obtain⟨o,ho⟩:=E.bs a ha;rw [n] at ho;cases ho
 have nZ:a ∉ Z:=fun ha=>aB (E.zb a ha)
 have p0:dX B H (a ::B) H1:=fun b o e' nb=>⟨s1 b o e',fun hb=>by
  rcases List.mem_cons.mp hb with z | z
  .subst z;rw [n] at e';cases e'
  .exact nb z⟩
 have E2:eK K Z (a ::B) H1 σ δ:={
  len:=E.len
  bs:=fun b hb=>by
   rcases List.mem_cons.mp hb with z | z
   .subst z;exact⟨_,e⟩
   .exact E1.bs b z
  zb:=fun b hb=>List.mem_cons_of_mem _ (E.zb b hb)
  val:=fun j d e=>let⟨v,q1,q2⟩:=E.val j d e;⟨v,q1,q2.bt p0⟩
  bld:=fun j es e=>let⟨b,ys,q1,q2,q3,q4,q5⟩:=E.bld j es e;⟨b,ys,q1,List.mem_cons_of_mem _ q2,q3,s1 b _ q4,q5.bt p0⟩
  dis:=E.dis}
 refine q _ (a ::B) H1 ⟨p0,fun b o e' hb=>⟨s1 b o e',List.mem_cons_of_mem _ (E.zb b hb)⟩⟩ (E2.setB (by rw[<-E.len];exact of_decide_eq_true hi) List.mem_cons_self nZ e r fun j es hj ej LG=>?_)
 obtain⟨b,ys,q1,_,_,q4,_⟩:=E.bld j es ej;rw[LG] at q1;cases q1;rw[n] at q4;cases q4
theorem LC{i:Nat}{f:aw->R (List D)}{pos pos':Pos}(hN:X.N.Nodup)(hi:X.N[i]? =some x)(hx:Loc X.env.scope x)(he:PN X e f)(hs:swapsWith e (some (.Name x pos')) pos.line X.env=pure false:=by rfl)(hf:X.fn x=true\/X.env.scope.names.lookup x=some .local:=by first | exact .inl rfl | exact .inr rfl | assumption) :
 Lq X (.Assign [.Name x pos'] e pos) (B5 i f):=(B4 hN hi hx he hs hf).imp fun D σ H h=>MA h
theorem eK.grow{K:W.Frag}{Z B:List Addr}{H:Hp}{σ:St}{δ:aw}(E:eK K Z B H σ δ){i:Nat}{ds es:List D}{a:Addr}{xs ys:List V}(hd:δ[i]? =some (.bld ds))(LG:σ[i]? =some (some (.ref a)))(hB:a∈B)(hH:H a=some (.lst xs))(r:aD K B H es ys) :
 eK K Z B (upd H a (.lst ys)) σ (δ.set i (.bld es))/\dX B H B (upd H a (.lst ys)):=by
 have p:dX B H B (upd H a (.lst ys)):=fun b o e nb=>⟨by rw[bj (fun(z:b=a)=>nb (by rw[z];exact hB))];exact e,nb⟩
 have hi:i < δ.length:=(List.getElem?_eq_some_iff.mp hd).1;refine⟨{
  len:=by rw[List.length_set];exact E.len
  bs:=fun b hb=>by
   by_cases z:b=a
   .subst z;exact⟨_,ba⟩
   .rw [bj z];exact E.bs b hb
  zb:=E.zb
  val:=fun j d e=>by
   by_cases h:i=j
   .subst h;rw [List.getElem?_set_self hi] at e;cases e
   .rw [List.getElem?_set_ne h] at e;obtain⟨v,q1,q2⟩:=E.val j d e;exact⟨v,q1,q2.bt p⟩
  bld:=fun j fs e=>by
   by_cases h:i=j
   .subst h;rw [List.getElem?_set_self hi] at e;cases e;obtain⟨b,zs,q1,q2,q3,_,_⟩:=E.bld i ds hd;rw[LG] at q1;cases q1;exact⟨a,ys,LG,hB,q3,ba,r.bt p⟩
   .rw [List.getElem?_set_ne h] at e;obtain⟨b,zs,q1,q2,q3,q4,q5⟩:=E.bld j fs e;have ne:b≠a:=fun z=>by subst z;exact h (E.dis i j b ds fs hd e LG q1)
    exact⟨b,zs,q1,q2,q3,by rw[bj ne];exact q4,q5.bt p⟩
  dis:=fun j k b Rg Rp e1 e2 e3 e4=>by
   have f1:∃fs,δ[j]? =some (.bld fs):=by
    by_cases h:i=j
    .subst h;exact⟨ds,hd⟩
    .rw [List.getElem?_set_ne h] at e1;exact⟨_,e1⟩
   have f2:∃fs,δ[k]? =some (.bld fs):=by
    by_cases h:i=k
    .subst h;exact⟨ds,hd⟩
    .rw [List.getElem?_set_ne h] at e2;exact⟨_,e2⟩
   obtain⟨_,f1⟩:=f1;obtain⟨_,f2⟩:=f2;exact E.dis j k b _ _ f1 f2 e3 e4},p⟩
theorem Ev.grow{Z B:List Addr}{a:Addr}{o:HO}(zb:∀a∈Z,a∈B)(hZ:a ∉ Z)(p:dX B H B (upd H a o)):Ev Z B H B (upd H a o):=
 ⟨p,fun b u e hb=>⟨by rw[bj (fun(z:b=a)=>hZ (by rw[<-z];exact hb))];exact e,zb b hb⟩⟩
def x6(δ:aw)(i:Nat):R (List D):=match δ[i]? with | some (.bld ds)=> .ok ds | _=> .no
theorem HN{δ:aw}{i:Nat}{ds:List D}(h:x6 δ i= .ok ds):δ[i]? =some (.bld ds):=by
 unfold x6 at h;split at h
 .rename_i q;cases h;exact q
 .cases h
def EL(i:Nat)(f:FD):FS:=fun δ=>(f δ).bind fun d=>(x6 δ i).bind fun ds=>R.bW (decide (ds.length < sizeLine)) (.ok (.nx (δ.set i (.bld (ds++[d])))))
theorem KJ{i:Nat}{x:Str}{e:Expr}{f:FD}{gU apos cD pos:Pos}(hN:X.N[i]? =some x)(hv:JA X.env.scope x)(he:PD X e f)
 (hd:(x==("__debug__":Str))=false:=by decide) (uq:(x==("__classdict__":Str))=false:=by decide)
 (hs:starEach [e] X.env=(false,eval e X.env) ::starEach [] X.env:=by rfl) (o4:(apos.endLine==cD.line)=true:=by rfl)
 (wC:((backTo cD (starEach [e] X.env)).all (fun x=>!x.1) && (backToKw cD (keywordEach [] X.env)).all (fun x=>x.1.isSome)
   && decide (([e]:List Expr).length+([]:List Keyword).length+(if([]:List Keyword).isEmpty then 0 else 1) < 30))=true:=by rfl)
 (Ge:swapsWith (.Call (.Attribute (.Name x gU) "append" apos) [e] [] cD) none pos.line X.env=pure false:=by rfl)
 (o7:attributeBase (.Name x gU) "append" X.env (eval (.Name x gU) X.env)=eval (.Name x gU) X.env:=by rfl) :
 Lq X (.Expr (.Call (.Attribute (.Name x gU) "append" apos) [e] [] cD) pos) (EL i f):=by
 refine(uA (Eo (X:=X) PySem.F.plainAttrs_list PySem.F.slot_list_append PySem.F.type_list_append r9 (sL hN hv hd uq) (fK he ji hs) o7 wC o4 hs) Ge).imp fun D σ H ⟨Z,B,δ,o,E,hf,q⟩=>?_
 obtain⟨d,h1,h2⟩:=R.ak hf;obtain⟨ds,h3,h4⟩:=R.ak h2;obtain⟨hl,h5⟩:=R.bf h4;cases h5;have hb:=HN h3;obtain⟨a,xs,q1,q2,q3,q4,q5⟩:=E.bld i ds hb;refine⟨.ref a,q1, .inl ⟨rfl,xs,pM.of q4⟩,⟨Z,B,δ,d,E,h1,fun v H1 s1 r1=>?_⟩⟩
 have E1:=E.same s1;refine⟨a,xs,v,rfl,rfl,s1 a _ q4,by rw[<-q5.length];exact of_decide_eq_true hl,?_⟩
 obtain⟨E2,p2⟩:=E1.grow (es:=ds++[d]) (ys:=xs++[v]) hb q1 q2 (s1 a _ q4) ((q5.same s1).append (aD.cons r1 aD.nil));exact q σ B _ ((Ev.same E.zb s1).trans (Ev.grow E.zb q3 p2)) E2
def WJ(i:Nat)(f:aw->R (List D)):FS:=fun δ=>(f δ).bind fun es=>(x6 δ i).bind fun ds=>R.bW (decide (ds.length+es.length<=sizeLine)) (.ok (.nx (δ.set i (.bld (ds++es)))))
def hV(i:Nat)(δ:aw):aw:=match δ[i]? with | some (.bld ds)=>δ.set i (.val (.lst ds)) | _=>δ
theorem eK.hV{K:W.Frag}{Z B:List Addr}{δ:aw}(E:eK K Z B H σ δ)(i:Nat):∃B',Ev Z B H B' H/\eK K Z B' H σ (hV i δ):=by
 unfold L2.hV;cases hd:δ[i]? with
 | none=>exact⟨B,Ev.refl Z B H E.zb,E⟩
 | some x=>
   cases x with
   | un=>exact⟨B,Ev.refl Z B H E.zb,E⟩
   | val d=>exact⟨B,Ev.refl Z B H E.zb,E⟩
   | bld ds=>
     obtain⟨a,xs,q1,q2,q3,q4,q5⟩:=E.bld i ds hd;have hi:i < δ.length:=(List.getElem?_eq_some_iff.mp hd).1;have p:dX B H (B.filter fun b=>decide (b≠a)) H:=fun b o e nb=>⟨e,fun hb=>nb (List.mem_filter.mp hb).1⟩
     have zb:∀b∈Z,b∈B.filter fun b=>decide (b≠a):=fun b hb=>List.mem_filter.mpr ⟨E.zb b hb,decide_eq_true fun z=>q3 (z▸hb)⟩
     refine⟨B.filter fun b=>decide (b≠a),⟨p,fun b o e hb=>⟨e,zb b hb⟩⟩,{
      len:=by rw[List.length_set];exact E.len
      bs:=fun b hb=>E.bs b (List.mem_filter.mp hb).1
      zb:=zb
      val:=fun j d e=>by
       by_cases h:i=j
       .subst h;rw [List.getElem?_set_self hi] at e;cases e;refine⟨.ref a,q1,?_⟩;unfold Rep;exact⟨a,xs,rfl, .inl ⟨fun hb=>by simpa using(List.mem_filter.mp hb).2, .inl q4⟩,q5.bt p⟩
       .rw [List.getElem?_set_ne h] at e;obtain⟨v,z1,z2⟩:=E.val j d e;exact⟨v,z1,z2.bt p⟩
      bld:=fun j fs e=>by
       by_cases h:i=j
       .subst h;rw [List.getElem?_set_self hi] at e;cases e
       .rw [List.getElem?_set_ne h] at e;obtain⟨b,zs,z1,z2,z3,z4,z5⟩:=E.bld j fs e;exact⟨b,zs,z1,List.mem_filter.mpr ⟨z2,decide_eq_true fun z=>by subst z;exact h (E.dis i j b ds fs hd e q1 z1)⟩,z3,z4,z5.bt p⟩
      dis:=fun j k b Rg Rp e1 e2 e3 e4=>by
       by_cases h:i=j
       .subst h;rw [List.getElem?_set_self hi] at e1;cases e1
       .by_cases h':i=k
        .subst h';rw [List.getElem?_set_self hi] at e2;cases e2
        .rw [List.getElem?_set_ne h] at e1;rw[List.getElem?_set_ne h'] at e2;exact E.dis j k b Rg Rp e1 e2 e3 e4}⟩
def ID(i:Nat)(F:FS):FS:=fun δ=>F (hV i δ)
theorem Oy{K:W.Frag}{i:Nat}{F:FS}{D:Ends}(h:sD K (ID i F) D σ H):sD K F D σ H:=by
 obtain⟨Z,B,δ,o,E,hf,q⟩:=h;obtain⟨B1,ev,E1⟩:=E.hV i;refine⟨Z,B1,L2.hV i δ,o,E1,hf,?_⟩;cases o with
 | nx ei=>exact fun dc B' H' Gd E'=>q dc B' H' (ev.trans Gd) E'
 | rt d=>exact fun v B' H' Gd z r=>q v B' H' (ev.trans Gd) z r
theorem Kx(i:Nat){F:FS}(h:ui X Mr F):ui X Mr (ID i F):=h.imp fun D σ H h=>Oy h
def jH(f:FD):FS:=fun δ=>(f δ).bind fun d=> .ok (.rt d)
theorem K_(he:PD X e f):Lq X (.Return (some e) pos) (jH f):=(IS he).imp fun D σ H ⟨Z,B,δ,o,E,hf,q⟩=>by
 obtain⟨d,h1,h2⟩:=R.ak hf;cases h2;exact⟨Z,B,δ,d,E,h1,fun v H1 s1 r1=>q v B H1 (Ev.same E.zb s1) E.zb r1⟩
def Fz(c:aw->R Bool)(F G:FS):FS:=fun δ=>(c δ).bind fun b=>if b then F δ else G δ
theorem N6{fc:aw->R Bool}{F G:FS}(hc:PB X c fc)(ha:ui X a F)(hb:ui X b G):Lq X (.If c a b pos) (Fz fc F G):=(IX hc ha hb).imp fun D σ H ⟨Z,B,δ,o,E,hf,q⟩=>by
 obtain⟨k,h1,h2⟩:=R.ak hf;refine⟨Z,B,δ,k,E,h1,fun H1 s1=>?_⟩
 have q':=q.ev (Ev.same E.zb s1);cases k with
 | true=>rw [if_pos rfl] at h2;exact F6 ⟨Z,B,δ,o,E.same s1,h2,q'⟩
 | false=>rw [if_neg (by decide)] at h2;exact Fe ⟨Z,B,δ,o,E.same s1,h2,q'⟩
abbrev FT:=D->aw->R aw
def gD(K:W.Frag)(t:FT):TG:=fun v σ H Q=>∃Z B δ d ei,eK K Z B H σ δ/\Rep K B H d v/\t d δ= .ok ei/\∀dc H',bb H H'->eK K Z B H' dc ei->dc.length=σ.length->Q dc H'
abbrev O1(X:Cx)(tg:Expr)(t:FT):Prop:=PG X tg (gD X.K t)
def bh(i:Nat):FT:=fun d δ=>R.bW (decide (i < δ.length)) (.ok (δ.set i (.val d)))
theorem Gy{i:Nat}{pos:Pos}(hN:X.N.Nodup)(hi:X.N[i]? =some x)(hx:Loc X.env.scope x)(hf:X.fn x=true\/X.env.scope.names.lookup x=some .local:=by first | exact .inl rfl | exact .inr rfl | assumption):O1 X (.Name x pos) (bh i):=
 (D4 hN hi hx hf).imp fun v σ H Q ⟨Z,B,δ,d,ei,E,r,ht,q⟩=>by
   obtain⟨hi,h⟩:=R.bf ht;cases h;exact q _ H (bb.refl H) (E.set (by rw[<-E.len];exact of_decide_eq_true hi) r) (List.length_set ..)
abbrev Hd:=List D->aw->R aw
def WU(K:W.Frag)(t:Hd):Gx:=fun vs σ H Q=>∃Z B δ ds ei,eK K Z B H σ δ/\aD K B H ds vs/\t ds δ= .ok ei/\∀dc H',bb H H'->eK K Z B H' dc ei->dc.length=σ.length->Q dc H'
abbrev II(X:Cx)(ts:List Expr)(t:Hd):Prop:=JZ X ts (WU X.K t)
theorem JZ.imp{X:Cx}{t t':Gx}(h:JZ X e t)(w:∀v σ H Q,t' v σ H Q->t v σ H Q):JZ X e t':=fun pins s σ H v u Q I r hq=>h pins s σ H v u Q I r (w v σ H Q hq)
def nF:Hd:=fun ds δ=>match ds with | []=> .ok δ | _=> .no
def d6(t:FT)(u:Hd):Hd:=fun ds δ=>match ds with | d ::r=>(t d δ).bind fun ei=>u r ei | []=> .no
theorem G5:II X [] nF:=Ee.imp fun vs σ H Q ⟨Z,B,δ,ds,ei,E,r,ht,q⟩=>by
 cases ds with
 | nil=>unfold aD at r;cases ht;exact⟨r,q σ H (bb.refl H) E rfl⟩
 | cons=>cases ht
theorem EY{u:Hd}(h1:O1 X e t)(h2:II X es u)(hs:(assignEach (e ::es) X.env).map (·.2)=assign e X.env ::(assignEach es X.env).map (·.2):=by rfl):II X (e ::es) (d6 t u):=
 (Av h1 h2 hs).imp fun vs σ H Q ⟨Z,B,δ,ds,ei,E,r,ht,q⟩=>by
   cases ds with
   | nil=>cases ht
   | cons d ds=>
     obtain⟨x,xs,rfl,r1,r2⟩:=r.cu;obtain⟨c_,h1,h2⟩:=R.ak ht;exact⟨x,xs,rfl,Z,B,δ,d,c_,E,r1,h1,fun JM H1 s1 E1 l1=>⟨Z,B,c_,ds,ei,E1,r2.same s1,h2,fun wo H2 s2 E2 l2=>q wo H2 (s1.trans s2) E2 (l2.trans l1)⟩⟩
def nL(n:Nat)(t:Hd):FT:=fun d δ=>match d with | .tup ds=>R.bW (decide (ds.length=n)) (t ds δ) | _=> .no
theorem Lm{k:Nat}{t:Hd}{n:Nat}{pos:Pos}(hc:X.calm=true)(h:II X es t)(hn:(assignEach es X.env).length=n:=by rfl)(Js:(assignEach es X.env).findIdx? (·.1)=none:=by rfl):O1 X (.Tuple es k pos) (nL n t):=
 (HJ hc h hn Js).imp fun v σ H Q ⟨Z,B,δ,d,ei,E,r,ht,q⟩=>by
   cases d with
   | tup ds=>
     unfold Rep at r;obtain⟨a,xs,rfl,l,r⟩:=r;obtain⟨hl,h⟩:=R.bf ht;exact⟨a,xs,rfl,l.sq,by rw[<-r.length];exact of_decide_eq_true hl,Z,B,δ,ds,ei,E,r,h,q⟩
   | _=>cases ht
def Xf(f:FD)(t:FT):FS:=fun δ=>(f δ).bind fun d=>(t d δ).bind fun ei=> .ok (.nx ei)
def H_(K:W.Frag)(B:List Addr)(H:Hp)(J:It)(ds:List D):Prop:=∀B' H',dX B H B' H'->(∀(i:Nat) (d:D),ds[i]? =some d->J.go i H'/\∀x o3,J.yld i H' x o3->(∀a∈B',∃o,H' a=some o)->bb H' o3/\Rep K B' o3 d x)/\J.stop ds.length H'
def iD(K:W.Frag)(f:aw->R (List D)):TI:=fun σ H R=>∃Z B δ ds,eK K Z B H σ δ/\f δ= .ok ds/\∀J H1,bb H H1->H_ K B H1 J ds->R J H1
abbrev O8(X:Cx)(tg e:Expr)(f:aw->R (List D)):Prop:=PI X tg e (iD X.K f)
def cq(f:FD):aw->R (List D):=fun δ=>(f δ).bind fun d=>match d with | .lst ds=> .ok ds | .tup ds=> .ok ds | _=> .no
theorem Lo(h:PD X e f):O8 X tg e (cq f):=by
 intro pins s σ H RR I ⟨Z,B,δ,ds,E,hf,q⟩;obtain⟨d,h1,h2⟩:=R.ak hf;refine dY (h pins s σ H (fun v H1=>bb H H1/\Rep X.K B H1 d v) I ⟨Z,B,δ,d,E,h1,fun v H1 s1 r1=>⟨s1,r1⟩⟩) fun v s1 ⟨x,H1,I1,r1,ss,rr⟩=>?_
 cases d with
 | lst es=>
   cases h2;unfold Rep at rr;obtain⟨a,xs,rfl,l,rr⟩:=rr;cases r1;obtain⟨its,rv,p,hz⟩:=I1.list l.sq;refine wpAny_pyIter_list p.isList ?_;refine⟨s1.heap.objs.size,[s1.heap.objs.size],_,_,H1,rfl,I1.kept (t':=s1.toks) fun b o e=>Heap.get?_push_of_some _ e,x3 a _,⟨_,Heap.get?_push_size _ rfl,rfl,rfl⟩,fun b hb=>?_,q _ H1 ss fun B' H' pr=>?_⟩
   .have e:b=s1.heap.objs.size:=by simpa using hb
    subst e;exact I1.xl (Nat.le_refl _) (I1.hok.fresh (Nat.le_refl _))
   .have l':uZ X.K B' H' a xs:=l.bt pr;have rr':=rr.bt pr;refine⟨fun i d hd=>?_,⟨xs,l'.sq,by rw[rr.length];exact Nat.le_refl _⟩⟩
    obtain⟨x,hx,rx⟩:=rr'.get hd;exact⟨⟨xs,x,l'.sq,hx⟩,fun y o3 ⟨e1,e2⟩ _=>by
     subst e1;have:=e2 xs l'.sq;rw[hx] at this;cases this;exact⟨bb.refl _,rx⟩⟩
 | tup es=>
   cases h2;unfold Rep at rr;obtain⟨a,xs,rfl,l,rr⟩:=rr;cases r1;obtain⟨its,rv,p,hz⟩:=I1.tuple l.sq;refine wpAny_pyIter_tuple (show s1.heap.IsTuple a its.toArray from p) ?_
   refine⟨s1.heap.objs.size,[s1.heap.objs.size],_,_,H1,rfl,I1.kept (t':=s1.toks) fun b o e=>Heap.get?_push_of_some _ e,C9 a _,⟨_,Heap.get?_push_size _ rfl,rfl,rfl⟩,fun b hb=>?_,q _ H1 ss fun B' H' pr=>?_⟩
   .have e:b=s1.heap.objs.size:=by simpa using hb
    subst e;exact I1.xl (Nat.le_refl _) (I1.hok.fresh (Nat.le_refl _))
   .have l':xZ X.K B' H' a xs:=l.elim (fun z=> .inl ⟨(pr.rd z.2 z.1).2,(pr.rd z.2 z.1).1⟩) .inr
    have rr':=rr.bt pr;refine⟨fun i d hd=>?_,⟨xs,l'.sq,by rw[rr.length];exact Nat.le_refl _⟩⟩
    obtain⟨x,hx,rx⟩:=rr'.get hd;exact⟨⟨xs,x,l'.sq,hx⟩,fun y o3 ⟨e1,e2⟩ _=>by
     subst e1;have:=e2 xs l'.sq;rw[hx] at this;cases this;exact⟨bb.refl _,rx⟩⟩
 | _=>cases h2
def eM(lo:Int)(n:Nat):List D:=(List.range n).map fun(i:Nat)=>D.int (lo+i)
theorem HA{K:W.Frag}{B:List Addr}(lo:Int)(n:Nat):H_ K B H (Qp lo n) (eM lo n):=fun B' H' _=>by
 refine⟨fun i d hd=>?_,?_⟩
 .unfold eM at hd;rw[List.getElem?_map] at hd;cases e:(List.range n)[i]? with
  | none=>rw [e] at hd;cases hd
  | some j=>
    rw[e] at hd;cases hd;obtain⟨hi,ej⟩:=List.getElem?_eq_some_iff.mp e;rw[List.getElem_range] at ej;subst ej;rw[List.length_range] at hi;exact⟨hi,fun x o3 ⟨e1,e2⟩ _=>by subst e1 e2;exact⟨bb.refl _,by unfold Rep;rfl⟩⟩
 .show n<=(eM lo n).length;unfold eM;rw[List.length_map,List.length_range];exact Nat.le_refl _
def jm(f:FD):aw->R (List D):=fun δ=>(f δ).bind fun d=>match d with | .int j=>R.bW (decide (-(2 ^ 62)<=j/\j < 2 ^ 62)) (.ok (eM 0 j.toNat)) | _=> .no
theorem Ce{tg a:Expr}{p pos:Pos}(h:PD X a f)(hg:Gl X "range")(hm:X.mg "range"=none)(hs:starEach [a] X.env=[(false,eval a X.env)]:=by rfl):O8 X tg (.Call (.Name "range" p) [a] [] pos) (jm f):=
 (xJ hg hm (fK h ji hs) hs).imp fun σ H RR ⟨Z,B,δ,ds,E,hf,q⟩=>by
   obtain⟨d,h1,h2⟩:=R.ak hf;cases d with
   | int j=>
     obtain⟨hb,h3⟩:=R.bf h2;cases h3;have hb:=of_decide_eq_true hb;refine⟨Z,B,δ, .int j,E,h1,fun v H1 s1 r1=>⟨j,?_,hb.1,hb.2,q _ H1 s1 (HA 0 _)⟩⟩
     unfold Rep at r1;rw[r1]
   | _=>cases h2
def Sa(f g:FD):aw->R (List D):=fun δ=>(f δ).bind fun d=>(g δ).bind fun e=>match d,e with
 | .int i, .int j=>R.bW (decide (-(2 ^ 62)<=i/\i < 2 ^ 62/\ -(2 ^ 62)<=j/\j < 2 ^ 62)) (.ok (eM i (j - i).toNat)) | _,_=> .no
def pT(t:FT)(body:FS):List D->FS
 | [],δ=> .ok (.nx δ)
 | d ::ds,δ=>(t d δ).bind fun c_=>(body c_).bind fun o=>match o with | .nx cK=>pT t body ds cK | .rt r=> .ok (.rt r)
def yZ(it:aw->R (List D))(t:FT)(body:FS):FS:=fun δ=>(it δ).bind fun ds=>pT t body ds δ
theorem Lr{tg iter:Expr}{body:List Stmt}{it:aw->R (List D)}{t:FT}{F:FS}{pos:Pos}(hp:PassesOwn (model X.prog X.w) X.A X.env X.xe)(hc:X.calm=true)(hi:O8 X tg iter it)(hg:O1 X tg t)(hb:ui X body F)
 (hs:∀x,foldedSetIterable iter X.env x=pure x:=by intro _;rfl):Lq X (.For tg iter body [] pos) (yZ it t F):=(BS hp hc hi hg hb hs).imp fun D σ H ⟨Z,B,δ,o,E,hf,q⟩=>by
 obtain⟨ds,h1,h2⟩:=R.ak hf;refine⟨Z,B,δ,ds,E,h1,fun J H1 s1 ir=>?_⟩
 refine⟨fun i m dc H'=>m=ds.length - i/\i<=ds.length/\∃B' ei,Ev Z B H1 B' H'/\eK X.K Z B' H' dc ei/\pT t F (ds.drop i) ei= .ok o,⟨ds.length,rfl,Nat.zero_le _,B,δ,Ev.refl Z B H1 E.zb,E.same s1,by simpa using h2⟩,?_⟩
 rintro i m dc H' ⟨rfl,hi,B',ei,ev,E',hl⟩;obtain⟨go,stop⟩:=ir B' H' ev.bt;by_cases hlt:i < ds.length
 .have hd:ds[i]? =some ds[i]:=List.getElem?_eq_getElem hlt;have hdrop:ds.drop i=ds[i] ::ds.drop (i+1):=List.drop_eq_getElem_cons hlt;rw[hdrop] at hl;obtain⟨c_,h3,h4⟩:=R.ak hl;obtain⟨o1,h5,h6⟩:=R.ak h4;obtain⟨g1,g2⟩:=go i _ hd;refine .inr ⟨g1,fun wo H2=>∃B2 cK,Ev Z B H1 B2 H2/\eK X.K Z B2 H2 wo cK/\pT t F (ds.drop (i+1)) cK= .ok o,fun wo H2 n=>⟨ds.length - (i+1),by omega,rfl,hlt,n⟩,fun x o3 y=>?_⟩
  obtain⟨ss,rr⟩:=g2 x o3 y E'.bs;refine⟨Z,B',ei,ds[i],c_,E'.same ss,rr,h3,fun wo H2 s2 E2 l2=>⟨Z,B',c_,o1,E2,h5,?_⟩⟩
  have ev2:Ev Z B H1 B' H2:=ev.trans (Ev.same E'.zb (ss.trans s2));cases o1 with
  | nx cK=>exact fun Bz B3 H3 UO E3=>⟨B3,cK,ev2.trans UO,E3,h6⟩
  | rt d=>
    cases h6;exact fun v B3 H3 UO z r=>q v B3 H3 ((Ev.same E.zb s1).trans (ev2.trans UO)) z r
 .have e:i=ds.length:=by omega
  subst e;rw[List.drop_length] at hl;cases hl;exact .inl ⟨stop,q dc B' H' ((Ev.same E.zb s1).trans ev) E'⟩
def Gv(c:aw->R Bool)(body:FS):Nat->FS
 | 0,_=> .no
 | n+1,δ=>(c δ).bind fun b=>if b then(body δ).bind fun o=>match o with | .nx cK=>Gv c body n cK | .rt r=> .ok (.rt r) else .ok (.nx δ)
def Tf(n:Nat)(c:aw->R Bool)(body:FS):FS:=fun δ=>Gv c body n δ
def uU(δ:aw)(i:Nat):Sl:=match δ[i]? with | some (.val d)=> .val d | _=> .un
def t9(own:List Str)(kp:List Nat)(δ:aw):aw:=List.replicate own.length .un++kp.map (uU δ)
def rH(t:FT)(c:aw->R Bool)(f:FD)(δ:aw):List D->R (List D)
 | []=> .ok []
 | d ::ds=>(t d δ).bind fun c_=>(c c_).bind fun b=>if b then(f c_).bind fun y=>(rH t c f δ ds).bind fun ys=> .ok (y ::ys) else rH t c f δ ds
def dM(it:aw->R (List D))(t:FT)(c:aw->R Bool)(f:FD)(own:List Str)(kp:List Nat):aw->R (List D):=fun δ=>(it δ).bind fun ds=>R.bW (decide (ds.length<=sizeLine)) (rH t c f (t9 own kp δ) ds)
theorem Nu{K:W.Frag}{Z B B':List Addr}{H H':Hp}{δ:aw}{own:List Str}{kp:List Nat}(E:eK K Z B H σ δ)(p:dX B H B' H')(hB:∀a∈B',∃o,H' a=some o):eK K [] B' H' (dS own kp σ) (t9 own kp δ) where
 len:=by unfold dS t9;simp
 bs:=hB
 zb:=fun a ha=>by cases ha
 val:=fun i d e=>by
  unfold t9 at e;unfold dS;by_cases hi:i < own.length
  .rw [List.getElem?_append_left (by simpa using hi),List.getElem?_replicate] at e
   split at e <;> cases e
  .rw [List.getElem?_append_right (by simpa using hi),List.length_replicate,List.getElem?_map] at e ⊢
   cases q:kp[i - own.length]? with
   | none=>rw [q] at e;cases e
   | some j=>
     rw[q] at e;have e:uU δ j= .val d:=Option.some.inj e;unfold uU at e;split at e
     .rename_i d' ed;cases e;obtain⟨v,h1,h2⟩:=E.val j d ed;exact⟨v,by simp [h1],h2.bt p⟩
     .cases e
 bld:=fun i ds e=>by
  unfold t9 at e;by_cases hi:i < own.length
  .rw [List.getElem?_append_left (by simpa using hi),List.getElem?_replicate] at e
   split at e <;> cases e
  .rw [List.getElem?_append_right (by simpa using hi),List.length_replicate,List.getElem?_map] at e
   cases q:kp[i - own.length]? with
   | none=>rw [q] at e;cases e
   | some j=>
     rw[q] at e;have e:uU δ j= .bld ds:=Option.some.inj e;unfold uU at e;split at e <;> cases e
 dis:=fun i j a ds es e=>by
  unfold t9 at e;by_cases hi:i < own.length
  .rw [List.getElem?_append_left (by simpa using hi),List.getElem?_replicate] at e
   split at e <;> cases e
  .rw [List.getElem?_append_right (by simpa using hi),List.length_replicate,List.getElem?_map] at e
   cases q:kp[i - own.length]? with
   | none=>rw [q] at e;cases e
   | some j=>
     rw[q] at e;have e:uU δ j= .bld ds:=Option.some.inj e;unfold uU at e;split at e <;> cases e
theorem JU{K:W.Frag}{it:aw->R (List D)}{c:aw->R Bool}{own:List Str}{kp:List Nat}{Q:VK}(h:tN K (dM it t c f own kp) σ H Q) :
 Ew (iD K it) (gD K t) (MN K c) (tD K f) own kp σ H Q:=by
 obtain⟨Z,B,δ,ds,E,hf,q⟩:=h;obtain⟨es,h1,h2⟩:=R.ak hf;obtain⟨hl,h3⟩:=R.bf h2;have hl:=of_decide_eq_true hl;refine⟨Z,B,δ,es,E,h1,fun J H1 s1 ir Dd hD=>?_⟩
 have E1:=E.same s1;have pD:dX B H1 (Dd ::B) (upd H1 Dd (.lst [])):=Bj hD;refine⟨fun i m ys H'=>m=es.length - i/\i<=es.length/\ys.length<=i/\H' Dd=some (.lst ys)/\bb H1 H'/\∃done rest,ds=done++rest/\aD K (Dd ::B) H' done ys/\rH t c f (t9 own kp δ) (es.drop i)= .ok rest,
  ⟨es.length,rfl,Nat.zero_le _,Nat.le_refl _,ba,aU hD,[],ds,rfl,aD.nil,by simpa using h3⟩,?_⟩
 rintro i m ys H' ⟨rfl,hi,hy,hDl,ss,done,rest,rfl,rd,hc⟩;have dB:Dd ∉ B:=fun hb=>by obtain⟨o,ho⟩:=E1.bs Dd hb;rw [hD] at ho;cases ho
 have p':dX B H1 (Dd ::B) H':=fun b o e nb=>⟨ss b o e,fun hb=>by
  rcases List.mem_cons.mp hb with z | z
  .exact b_ e hD z
  .exact nb z⟩
 have LN:∀a∈Dd ::B,∃o,H' a=some o:=fun a ha=>by
  rcases List.mem_cons.mp ha with z | z
  .subst z;exact⟨_,hDl⟩
  .obtain⟨o,ho⟩:=E1.bs a z;exact⟨o,ss a o ho⟩
 obtain⟨go,stop⟩:=ir (Dd ::B) H' p';by_cases hlt:i < es.length
 .have hd:es[i]? =some es[i]:=List.getElem?_eq_getElem hlt;have hdrop:es.drop i=es[i] ::es.drop (i+1):=List.drop_eq_getElem_cons hlt;rw[hdrop] at hc;obtain⟨c_,h4,h5⟩:=R.ak hc;obtain⟨b,h6,h7⟩:=R.ak h5;obtain⟨g1,g2⟩:=go i _ hd;refine .inr ⟨g1,fun x H2 y=>?_⟩
  obtain⟨sy,ry⟩:=g2 x H2 y LN;have Ec:eK K [] (Dd ::B) H2 (dS own kp σ) (t9 own kp δ):=Nu E1 (p'.trans (dX.same sy)) fun a ha=>let⟨o,ho⟩:=LN a ha;⟨o,sy a o ho⟩
  refine⟨[],Dd ::B,t9 own kp δ,es[i],c_,Ec,ry,h4,fun Bz H3 s3 E3 _=>⟨[],Dd ::B,c_,b,E3,h6,fun H4 s4=>?_⟩⟩
  have sAll:bb H' H4:=sy.trans (s3.trans s4);cases b with
  | true=>
    rw[if_pos rfl] at h7;refine F6 ?_;obtain⟨yv,h8,h9⟩:=R.ak h7;obtain⟨rs,RZ,UW⟩:=R.ak h9;cases UW;refine⟨[],Dd ::B,c_,yv,E3.same s4,h8,fun v H5 s5 r5=>?_⟩
    have s':bb H' H5:=sAll.trans s5;have UB:H5 Dd=some (.lst ys):=s' Dd _ hDl;have pu:dX (Dd ::B) H5 (Dd ::B) (upd H5 Dd (.lst (ys++[v]))):=fun b o e nb=>⟨by rw[bj (fun(z:b=Dd)=>nb (by rw[z];exact List.mem_cons_self))];exact e,nb⟩
    refine⟨UB,by omega,es.length - (i+1),by omega,rfl,hlt,by rw[List.length_append,List.length_singleton];omega,ba,fun b o e=>?_,done++[yv],rs,by simp,((rd.same s').append (aD.cons r5 aD.nil)).bt pu,RZ⟩
    rw[bj (b_ e hD)];exact s' b o (ss b o e)
  | false=>
    rw[if_neg (by decide)] at h7
    refine Fe ?_;exact⟨es.length - (i+1),by omega,rfl,hlt,by omega,sAll Dd _ hDl,ss.trans sAll,done,rest,rfl,rd.same sAll,h7⟩
 .have e:i=es.length:=by omega
  subst e;rw[List.drop_length] at hc;cases hc;rw[List.append_nil] at q;exact .inl ⟨stop,q Dd ys H' (s1.trans ss) (s1.free hD) hDl rd⟩
theorem J3{scope:Scope}{own:List Str}{kp:List Nat}{kn:List Str}{tg iter elt:Expr}{ifs:List Expr}{it:aw->R (List D)}{t:FT}{c:aw->R Bool}{f:FD}{pos:Pos}(hc:X.calm=true)(C:bZ X scope own kp kn)(hi:O8 X tg iter it)
 (hg:∀fp s H,O1 (bX X scope (own++kn) fp s H) tg t) (Jo:∀fp s H,sv (bX X scope (own++kn) fp s H) ifs (MN X.K c)) (he:∀fp s H,PD (bX X scope (own++kn) fp s H) elt f)
 (hs:∀x,foldedSetIterable iter X.env x=pure x:=by intro _;rfl):PN X (.ListComp elt [⟨tg,iter,ifs,0⟩] scope pos) (dM it t c f own kp):=
 (ED hc C hi hg Jo he hs).imp fun σ H Q h=>JU h
def sJ:aw->R Bool:=fun _=> .ok true
theorem GJ:sv X [] (MN X.K sJ):=fun pins s σ H Q I ⟨Z,B,δ,b,E,hf,q⟩=>Bq pins s σ H Q I (by cases hf;exact q H (bb.refl H))
theorem JY{c:aw->R Bool}(h:PB X e c):sv X [e] (MN X.K c):=Be h
end
def gL(N:List Str)(ds:List D):aw:=ds.map .val++List.replicate (N.length - ds.length) .un
def xY(N:List Str)(F:FS):List D->R D:=fun ds=>(F (gL N ds)).bind fun o=>match o with | .rt d=> .ok d | .nx _=> .ok .cH
theorem K9{K:W.Frag}{B:List Addr}{H:Hp}{N:List Str}{ds:List D}{vs:List V}(hB:∀a∈B,∃o,H a=some o)(r:aD K B H ds vs):eK K B B H (start N vs) (gL N ds) where
 len:=by unfold start gL;simp [r.length]
 bs:=hB
 zb:=fun a ha=>ha
 val:=fun i d e=>by
  unfold gL at e;unfold start;by_cases hi:i < ds.length
  .rw [List.getElem?_append_left (by simpa using hi),List.getElem?_map] at e
   cases q:ds[i]? with
   | none=>rw [q] at e;cases e
   | some d'=>
     rw[q] at e;cases e;obtain⟨x,h1,h2⟩:=r.get q;exact⟨x,by rw[List.getElem?_append_left (by rw[List.length_map,<-r.length];exact hi),List.getElem?_map,h1];rfl,h2⟩
  .rw [List.getElem?_append_right (by simpa using hi),List.getElem?_replicate] at e
   split at e <;> cases e
 bld:=fun i es e=>by
  unfold gL at e;by_cases hi:i < ds.length
  .rw [List.getElem?_append_left (by simpa using hi),List.getElem?_map] at e
   cases q:ds[i]? with
   | none=>rw [q] at e;cases e
   | some d'=>rw [q] at e;cases e
  .rw [List.getElem?_append_right (by simpa using hi),List.getElem?_replicate] at e
   split at e <;> cases e
 dis:=fun i j a es fs e=>by
  unfold gL at e;by_cases hi:i < ds.length
  .rw [List.getElem?_append_left (by simpa using hi),List.getElem?_map] at e
   cases q:ds[i]? with
   | none=>rw [q] at e;cases e
   | some d'=>rw [q] at e;cases e
  .rw [List.getElem?_append_right (by simpa using hi),List.getElem?_replicate] at e
   split at e <;> cases e
theorem KR{P:Program}{w:World}{K:W.Frag}{mg:ZE}{base:Heap}{x qual:Str}{st:Stmt}{f:Addr}{fd:FuncData}{N ps:List Str}{k:Nat}{F:FS}(Fn:DP K x qual st f fd)(S:a_ N ps (az st))
 (mv:∀(dU:Value) (A:Around) (outer:List Env) (s:Shared) (H:Hp) (E:XK),eU k (A.deeper (envOfC qual (az st) s.heap.objs.size f dU))->
   ui (wm wI P w K mg base N qual (az st) f dU A outer s H E).Kg (aO st) F):jl P w K mg base wI (k+1) f fd ps (IE K ps.length (xY N F)):=by
 refine Fn.ok S (fun vs H Q E h=>h.1) (fun dU A outer s H vs Q E hr h=>⟨_,mv dU A outer s H E hr,?_⟩)
 obtain⟨_,B,ds,d,hB,r,hg,q⟩:=h;obtain⟨o,h1,h2⟩:=R.ak hg;refine⟨B,B,gL N ds,o,K9 hB r,h1,?_⟩;have sm:∀{B':List Addr} {H':Hp},Ev B B H B' H'->bb H H':=fun {B' H'} ev b u e=>by
  by_cases hb:b∈B
  .exact(ev.zs b u e hb).1
  .exact(ev.bt b u e hb).1
 cases o with
 | nx ei=>
   cases h2;exact fun dc B' H' ev _=>q _ H' (sm ev) (by unfold Rep;rfl)
 | rt d'=>
   cases h2;exact fun v B' H' ev z rr=>q v H' (sm ev) (rr.bt fun b o e nb=>⟨e,fun hb=>nb (z b hb)⟩)
end L2
end
section
namespace L2
open PySem PySem.Spec PyProof.Rows
theorem Rep.int{K:W.Frag}{B:List Addr}{i:Int}{v:V}:Rep K B H (.int i) v↔v= .int i:=by unfold Rep;exact Iff.rfl
theorem Rep.bl{K:W.Frag}{B:List Addr}{i:Bool}{v:V}:Rep K B H (.bl i) v↔v= .bl i:=by unfold Rep;exact Iff.rfl
theorem Rep.str{K:W.Frag}{B:List Addr}{v:V}:Rep K B H (.str i) v↔v= .str i:=by unfold Rep;exact Iff.rfl
theorem Rep.cH{K:W.Frag}{B:List Addr}{v:V}:Rep K B H .cH v↔v= .cH:=by unfold Rep;exact Iff.rfl
theorem Rep.lst{K:W.Frag}{B:List Addr}{ds:List D}{v:V}:Rep K B H (.lst ds) v↔∃a xs,v= .ref a/\uZ K B H a xs/\aD K B H ds xs:=by rw[Rep]
theorem Rep.tup{K:W.Frag}{B:List Addr}{ds:List D}{v:V}:Rep K B H (.tup ds) v↔∃a xs,v= .ref a/\xZ K B H a xs/\aD K B H ds xs:=by rw[Rep]
section
variable {X:Cx}
theorem lx.of{f:Value->Value->Sem Value}{r:R2}{g:D->D->R D}(h:mT X f r)
 (w:∀(B:List Addr) (H:Hp) (da db d:D) (x y:V) (Q:VK),(∀a∈B,∃o,H a=some o)->Rep X.K B H da x->Rep X.K B H db y->g da db= .ok d->(∀z H',bb H H'->Rep X.K B H' d z->Q z H')->r x y H Q):lx X f g:=by
 intro pins s σ H B da db d x y v u I hb rx ry ra rb hg;exact h pins s σ H x y v u _ I rx ry (w B H da db d x y _ hb ra rb hg fun z H' s1 r1=>⟨s1,r1⟩)
theorem dz.of{f:Value}{r:List V->Hp->VK->Prop}{g:List D->R D}(h:oz X f r)
 (w:∀(B:List Addr) (H:Hp) (ds:List D) (d:D) (xs:List V) (Q:VK),(∀a∈B,∃o,H a=some o)->aD X.K B H ds xs->g ds= .ok d->(∀z H',bb H H'->Rep X.K B H' d z->Q z H')->r xs H Q):dz X f g:=by
 intro pins s σ H B ds d xs us I hb rx rs hg;exact h pins s σ H xs us _ I rx (w B H ds d xs _ hb rs hg fun z H' s1 r1=>⟨s1,r1⟩)
theorem dz.or{f:Value}{g g1 g2:List D->R D}(h1:dz X f g1)(h2:dz X f g2)(e:∀a d,g a= .ok d->g1 a= .ok d\/g2 a= .ok d):dz X f g:=by
 intro pins s σ H B ds d xs us I hb rx rs hg;rcases e ds d hg with q | q
 .exact h1 pins s σ H B ds d xs us I hb rx rs q
 .exact h2 pins s σ H B ds d xs us I hb rx rs q
def zZ(C:Int->Int->Bool)(g:Int->Int->Int):D->D->R D
 | .int i, .int j=>R.bW (C i j) (.ok (.int (g i j)))
 | _,_=> .no
theorem Ep{f:Value->Value->Sem Value}{C:Int->Int->Bool}{Cp:Int->Int->Prop}{g:Int->Int->Int}(h:mT X f (rI Cp fun i j=> .int (g i j)))(hc:∀i j,C i j=true->Cp i j):lx X f (zZ C g):=
 lx.of h fun B H da db d x y Q _ ra rb hg q=>by
  unfold zZ at hg;split at hg
  .obtain⟨h1,h2⟩:=R.bf hg;cases h2;exact⟨_,_,Rep.int.mp ra,Rep.int.mp rb,hc _ _ h1,q _ H (bb.refl H) (Rep.int.mpr rfl)⟩
  .cases hg
def E8(g:Int->Int->Int):D->D->R D
 | .int i, .int j=> .ok (.int (g i j))
 | _,_=> .no
theorem yL{f:Value->Value->Sem Value}{g:Int->Int->Int}(h:mT X f (FP fun i j=> .int (g i j))):lx X f (E8 g):=
 lx.of h fun B H da db d x y Q _ ra rb hg q=>by
  unfold E8 at hg;split at hg
  .cases hg;exact⟨_,_,Rep.int.mp ra,Rep.int.mp rb,q _ H (bb.refl H) (Rep.int.mpr rfl)⟩
  .cases hg
def EN(g:Int->Int->Bool):D->D->R D
 | .int i, .int j=> .ok (.bl (g i j))
 | _,_=> .no
theorem D6{f:Value->Value->Sem Value}{g:Int->Int->Bool}(h:mT X f (FP fun i j=> .bl (g i j))):lx X f (EN g):=
 lx.of h fun B H da db d x y Q _ ra rb hg q=>by
  unfold EN at hg;split at hg
  .cases hg;exact⟨_,_,Rep.int.mp ra,Rep.int.mp rb,q _ H (bb.refl H) (Rep.bl.mpr rfl)⟩
  .cases hg
abbrev Cu:D->D->R D:=E8 fun i j=>i - j
theorem xU:lx X (binaryOp .Sub) Cu:=yL Oa
abbrev Bg:D->D->R D:=zZ (fun _ j=>decide (0 < j/\j < 1073741824)) fun i j=>i / j
theorem Ie:lx X (binaryOp .FloorDiv) Bg:=Ep KW fun i j h=>(of_decide_eq_true h:0 < j/\j < 1073741824)
abbrev wR:D->D->R D:=zZ (fun _ j=>decide (0 < j)) fun i j=>i % j
theorem vU:lx X (binaryOp .Mod) wR:=Ep NY fun i j h=>of_decide_eq_true h
abbrev Qx:D->D->R D:=zZ (fun i j=>decide (0<=j/\j<=1000000/\i.natAbs < 2 ^ 64)) fun i j=>i ^ j.toNat
theorem Qu:lx X (binaryOp .Pow) Qx:=Ep NR fun i j h=>(of_decide_eq_true h:0<=j/\j<=1000000/\i.natAbs < 2 ^ 64)
abbrev GI:D->D->R D:=zZ (fun _ j=>decide (0<=j)) fun i j=>i / 2 ^ j.toNat
theorem Qf:lx X (binaryOp .RShift) GI:=Ep Nj fun i j h=>of_decide_eq_true h
abbrev Gk:D->D->R D:=E8 fun i j=>Builtin.bitAnd i j
theorem zR:lx X (binaryOp .BitAnd) Gk:=yL N0
abbrev JC:D->D->R D:=E8 fun i j=>Builtin.bitOr i j
theorem A6:lx X (binaryOp .BitOr) JC:=yL P7
abbrev Gj:D->D->R D:=E8 fun i j=>Builtin.bitXor i j
theorem AQ:lx X (binaryOp .BitXor) Gj:=yL MX
abbrev SE:D->D->R D:=EN fun i j=>decide (i < j)
theorem So:lx X (compareOp .Lt) SE:=D6 Q0
abbrev Sv:D->D->R D:=EN fun i j=>decide (i<=j)
theorem TJ:lx X (compareOp .LtE) Sv:=D6 PF
abbrev QK:D->D->R D:=EN fun i j=>decide (j < i)
theorem NU:lx X (compareOp .Gt) QK:=D6 QH
abbrev Vq:D->D->R D:=EN fun i j=>decide (j<=i)
theorem Tr:lx X (compareOp .GtE) Vq:=D6 QI
theorem uZ.vt{K:W.Frag}{B:List Addr}{H:Hp}{a:Addr}{xs:List V}(h:H a=some (.lst xs))(n:a ∉ B):uZ K B H a xs:= .inl ⟨n, .inl h⟩
theorem Inv.NG{pins:Zy}{s:Shared}{a:Addr}{xs:List V}{B:List Addr}(I:Inv X pins σ H s)(h:uZ X.K B H a xs):∃(its:List Value) (n:Nat),Vals xs its/\s.heap.get? a=some {cls:= .type "list",data:= .seq its.toArray n}/\xs.length<=sizeLine:=by
 rcases h with⟨_,h⟩ | ⟨its,n,hk,hz,r⟩
 .obtain⟨z,its,n,r,e⟩:=h.ok I.hok;exact⟨its,n,r,e,z⟩
 .exact⟨its,n,r,I.Ed a _ hk,hz⟩
theorem Ea:mT X (binaryOp .Add) (fun x y H Q=>∃B l b xs zs,x= .ref l/\y= .ref b/\uZ X.K B H l xs/\uZ X.K B H b zs/\xs.length+zs.length<=sizeLine/\∀p,H p=none->Q (.ref p) (upd H p (.lst (xs++zs)))):=by
 intro pins s σ H x y v u Q I rx ry h;obtain⟨B,l,b,xs,zs,rfl,rfl,hH,hB,hz,q⟩:=h;cases rx;cases ry;obtain⟨its,n,r,e,_⟩:=I.NG hH;obtain⟨Bv,n2,r2,e2,_⟩:=I.NG hB;have l1:=r.length;have l2:=r2.length;refine PySem.P.add_list e e2 ?_ (by rw[List.size_toArray,List.size_toArray];omega)
 have ea:its.toArray++Bv.toArray=(its++Bv).toArray:=by simp
 rw[ea];exact⟨.ref _,_,I.KC (t':=s.toks) (r.append r2) (by rw[List.length_append];omega),rfl,q _ I.fresh⟩
def gu:D->D->R D
 | .int i, .int j=> .ok (.int (i+j))
 | .str a, .str b=>R.bW (decide (a.length+b.length<=sizeLine)) (.ok (.str (a++b)))
 | .lst a, .lst b=>R.bW (decide (a.length+b.length<=sizeLine)) (.ok (.lst (a++b)))
 | _,_=> .no
theorem gT:lx X (binaryOp .Add) gu:=by
 intro pins s σ H B da db d x y v u I hb rx ry ra rb hg;unfold gu at hg;split at hg
 .cases hg;exact Og pins s σ H x y v u _ I rx ry ⟨_,_,Rep.int.mp ra,Rep.int.mp rb,bb.refl H,Rep.int.mpr rfl⟩
 .obtain⟨h1,h2⟩:=R.bf hg;cases h2;exact CC pins s σ H x y v u _ I rx ry ⟨_,_,Rep.str.mp ra,Rep.str.mp rb,of_decide_eq_true h1,bb.refl H,Rep.str.mpr rfl⟩
 .obtain⟨h1,h2⟩:=R.bf hg;cases h2;obtain⟨a1,U3,rfl,l1,r1⟩:=Rep.lst.mp ra;obtain⟨a2,UR,rfl,l2,r2⟩:=Rep.lst.mp rb;refine Ea pins s σ H _ _ v u _ I rx ry ⟨B,a1,a2,U3,UR,rfl,rfl,l1,l2,by rw[<-r1.length,<-r2.length];exact of_decide_eq_true h1,fun p hp=>⟨aU hp,Rep.lst.mpr ⟨p,_,rfl, .vt ba fun ha=>?_,(r1.append r2).same (aU hp)⟩⟩⟩
  obtain⟨o,ho⟩:=hb p ha;rw[hp] at ho;cases ho
 .cases hg
theorem K8:mT X (binaryOp .Mult) (fun x y H Q=>∃z n,x= .str z/\y= .int n/\MulOk z n/\Q (.str (Txt.mul z n)) H):=by
 intro pins s σ H x y v u Q I rx ry h;obtain⟨z,n,rfl,rfl,hm,q⟩:=h;obtain⟨t,rfl⟩:=rx;obtain⟨t',rfl⟩:=ry;exact SB.mul hm fun t2 k=>⟨.str _,H,I.tok _,⟨_,rfl⟩,q⟩
end
end L2
end
section
namespace L2
open PySem PySem.Spec PyProof.Rows
section
variable {X:Cx}
theorem mulOk_of{x:Str}{n:Int}(h1: -(2 ^ 63)<=n)(h2:n < 2 ^ 63)(h3:x.length*n.toNat<=sizeLine):MulOk x n:=by
 refine⟨by simp only[Bool.or_eq_false_iff,decide_eq_false_iff_not];omega,fun hn _=>?_,fun hn _=>?_⟩
 .have hz:sizeLine=16777216:=sizeLine_eq;have e:(n.toNat:Int)=n:=by omega
  have h4:(x.length:Int)*n<=16777216:=by
   have:((x.length*n.toNat:Nat):Int)<=((16777216:Nat):Int):=Int.ofNat_le.mpr (by omega)
   rw[Int.natCast_mul,e] at this;exact this
  have:(x.length:Int)<=(2 ^ 63 - 1) / n:=(Int.le_ediv_iff_mul_le (by omega)).mpr (by omega)
  omega
 .unfold Builtin.Str.tooLong;exact decide_eq_false (by omega)
def qt:D->D->R D
 | .int i, .int j=>R.bW (decide ((-(2 ^ 64) < i/\i < 2 ^ 64)\/(-(2 ^ 64) < j/\j < 2 ^ 64))) (.ok (.int (i*j)))
 | .str x, .int n=>R.bW (decide (-(2 ^ 63)<=n/\n < 2 ^ 63/\x.length*n.toNat<=sizeLine)) (.ok (.str (Txt.mul x n)))
 | _,_=> .no
theorem yn:lx X (binaryOp .Mult) qt:=by
 intro pins s σ H B da db d x y v u I hb rx ry ra rb hg;unfold qt at hg;split at hg
 .obtain⟨h1,h2⟩:=R.bf hg;cases h2;have h1:=of_decide_eq_true h1;exact OB pins s σ H x y v u _ I rx ry ⟨_,_,Rep.int.mp ra,Rep.int.mp rb,h1,bb.refl H,Rep.int.mpr rfl⟩
 .obtain⟨h1,h2⟩:=R.bf hg;cases h2;have h1:=of_decide_eq_true h1;exact K8 pins s σ H x y v u _ I rx ry ⟨_,_,Rep.str.mp ra,Rep.int.mp rb,mulOk_of h1.1 h1.2.1 h1.2.2,bb.refl H,Rep.str.mpr rfl⟩
 .cases hg
mutual
def toPy:D->PyData
 | .cH=> .none
 | .bl b=> .bool b
 | .int i=> .int i
 | .str x=> .str x
 | .lst ds=> .list (ny ds)
 | .tup ds=> .tuple (ny ds)
 | .dct _ _=> .dict []
def ny:List D->List PyData
 | []=>[]
 | d ::ds=>toPy d ::ny ds
end
mutual
def eY:D->Bool
 | .dct _ _=>false
 | .lst ds=>kY ds
 | .tup ds=>kY ds
 | _=>true
def kY:List D->Bool
 | []=>true
 | d ::ds=>eY d && kY ds
end
mutual
theorem Rep.reads{pins:Zy}{s:Shared}{B:List Addr}(I:Inv X pins σ H s):∀{d:D} {v:V} {u:Value},eY d=true->Rep X.K B H d v->RelV v u->∃as,Reads s.heap u (toPy d) as
 | .cH,v,u,_,r,q=>by rw[Rep.cH.mp r] at q;cases q;unfold toPy;exact⟨_, .none⟩
 | .bl b,v,u,_,r,q=>by rw[Rep.bl.mp r] at q;cases q;unfold toPy;exact⟨_, .bool b⟩
 | .int i,v,u,_,r,q=>by rw[Rep.int.mp r] at q;obtain⟨t,rfl⟩:=q;unfold toPy;exact⟨_, .int i t⟩
 | .str x,v,u,_,r,q=>by rw[Rep.str.mp r] at q;obtain⟨t,rfl⟩:=q;unfold toPy;exact⟨_, .str x t⟩
 | .lst ds,v,u,hp,r,q=>by
   obtain⟨a,xs,rfl,l,rs⟩:=Rep.lst.mp r;cases q;obtain⟨its,rv,⟨o,n,e,hc,hd,he⟩,_⟩:=I.list l.sq;obtain⟨as,ra⟩:=aD.reads I (by unfold eY at hp;exact hp) rs rv
   unfold toPy;exact⟨_, .list e hc he (by simpa using ra)⟩
 | .tup ds,v,u,hp,r,q=>by
   obtain⟨a,xs,rfl,l,rs⟩:=Rep.tup.mp r;cases q;obtain⟨its,rv,⟨o,e,hc,n,hd⟩,_⟩:=I.tuple l.sq;obtain⟨as,ra⟩:=aD.reads I (by unfold eY at hp;exact hp) rs rv
   unfold toPy;exact⟨_, .tuple e hc hd (by simpa using ra)⟩
 | .dct _ _,v,u,hp,r,q=>by unfold eY at hp;cases hp
theorem aD.reads{pins:Zy}{s:Shared}{B:List Addr}(I:Inv X pins σ H s):∀{ds:List D} {vs:List V} {us:List Value},kY ds=true->aD X.K B H ds vs->Vals vs us->∃as,ReadsAll s.heap us (ny ds) as
 | [],vs,us,_,r,q=>by unfold aD at r;subst r;cases q;unfold ny;exact⟨_, .nil⟩
 | d ::ds,vs,us,hp,r,q=>by
   obtain⟨x,xs,rfl,r1,r2⟩:=r.cu;cases q with
   | cons q1 q2=>
     unfold kY at hp;obtain⟨h1,h2⟩:=Bool.and_eq_true_iff.mp hp;obtain⟨as,a1⟩:=Rep.reads I h1 r1 q1;obtain⟨bs,a2⟩:=aD.reads I h2 r2 q2;unfold ny;exact⟨_, .cons a1 a2⟩
end
def F8:D->D->R Bool
 | .int i, .int j=> .ok (decide (i=j))
 | .str x, .str y=> .ok (decide (x=y))
 | .bl a, .bl b=> .ok (decide (a=b))
 | d,e=>R.bW (eY d && eY e && SeqAt.shaped (toPy d) && SeqAt.shaped (toPy e)) (.ok (PyData.eqv (toPy d) (toPy e)))
def kF(d e:D):R D:=(F8 d e).bind fun b=> .ok (.bl b)
def uk(d e:D):R D:=(F8 d e).bind fun b=> .ok (.bl (!b))
theorem ku(hu:X.A.units+64 < cLine):lx X (compareOp .Eq) kF:=by
 intro pins s σ H B da db d x y v u I hb rx ry ra rb hg;obtain⟨b,h1,h2⟩:=R.ak hg;cases h2;unfold F8 at h1;split at h1
 .cases h1;rename_i i j;have:=Gs pins s σ H x y v u (fun z H'=>bb H H'/\Rep X.K B H' (.bl (decide (i=j))) z) I rx ry
  rw[Rep.int.mp ra,Rep.int.mp rb] at this;refine this ⟨rfl,bb.refl H,Rep.bl.mpr ?_⟩;simp [V.int.injEq]
 .cases h1;rename_i i j;have:=Gs pins s σ H x y v u (fun z H'=>bb H H'/\Rep X.K B H' (.bl (decide (i=j))) z) I rx ry
  rw[Rep.str.mp ra,Rep.str.mp rb] at this;refine this ⟨rfl,bb.refl H,Rep.bl.mpr ?_⟩;simp [V.str.injEq]
 .cases h1;rename_i i j;have:=Gs pins s σ H x y v u (fun z H'=>bb H H'/\Rep X.K B H' (.bl (decide (i=j))) z) I rx ry
  rw[Rep.bl.mp ra,Rep.bl.mp rb] at this;refine this ⟨rfl,bb.refl H,Rep.bl.mpr ?_⟩;simp [V.bl.injEq]
 .obtain⟨h3,h4⟩:=R.bf h1;cases h4;simp only[Bool.and_eq_true] at h3;obtain⟨⟨⟨p1,p2⟩,s1⟩,s2⟩:=h3;obtain⟨as,r1⟩:=ra.reads I p1 rx;obtain⟨bs,r2⟩:=rb.reads I p2 ry;exact eq_dataH r1 r2 s1 s2 hu ⟨.bl _,H,I,rfl,bb.refl H,Rep.bl.mpr rfl⟩
theorem rJ(hu:X.A.units+64 < cLine):lx X (compareOp .NotEq) uk:=by
 intro pins s σ H B da db d x y v u I hb rx ry ra rb hg;obtain⟨b,h1,h2⟩:=R.ak hg;cases h2;unfold F8 at h1;split at h1
 .cases h1;rename_i i j;have:=HB pins s σ H x y v u (fun z H'=>bb H H'/\Rep X.K B H' (.bl (!decide (i=j))) z) I rx ry
  rw[Rep.int.mp ra,Rep.int.mp rb] at this;refine this ⟨rfl,bb.refl H,Rep.bl.mpr ?_⟩;simp [V.int.injEq]
 .cases h1;rename_i i j;have:=HB pins s σ H x y v u (fun z H'=>bb H H'/\Rep X.K B H' (.bl (!decide (i=j))) z) I rx ry
  rw[Rep.str.mp ra,Rep.str.mp rb] at this;refine this ⟨rfl,bb.refl H,Rep.bl.mpr ?_⟩;simp [V.str.injEq]
 .cases h1;rename_i i j;have:=HB pins s σ H x y v u (fun z H'=>bb H H'/\Rep X.K B H' (.bl (!decide (i=j))) z) I rx ry
  rw[Rep.bl.mp ra,Rep.bl.mp rb] at this;refine this ⟨rfl,bb.refl H,Rep.bl.mpr ?_⟩;simp [V.bl.injEq]
 .obtain⟨h3,h4⟩:=R.bf h1;cases h4;simp only[Bool.and_eq_true] at h3;obtain⟨⟨⟨p1,p2⟩,s1⟩,s2⟩:=h3;obtain⟨as,r1⟩:=ra.reads I p1 rx;obtain⟨bs,r2⟩:=rb.reads I p2 ry;exact ne_dataH r1 r2 s1 s2 hu ⟨.bl _,H,I,rfl,bb.refl H,Rep.bl.mpr rfl⟩
def strs?:List D->Option (List Str)
 | []=>some []
 | .str x ::ds=>(strs? ds).map (x ::·)
 | _ ::_=>none
theorem lQ{K:W.Frag}{B:List Addr}:∀{ds:List D} {xs:List V} {ss:List Str},aD K B H ds xs->strs? ds=some ss->xs=ss.map V.str
 | [],xs,ss,r,h=>by unfold aD at r;subst r;cases h;rfl
 | d ::ds,xs,ss,r,h=>by
   obtain⟨x,r',rfl,r1,r2⟩:=r.cu;cases d with
   | str z=>
     unfold strs? at h;cases e:strs? ds with
     | none=>rw [e] at h;cases h
     | some tt=>
       rw[e] at h;cases h;rw[Rep.str.mp r1,lQ r2 e];rfl
   | _=>cases h
def ints?:List D->Option (List Int)
 | []=>some []
 | .int x ::ds=>(ints? ds).map (x ::·)
 | _ ::_=>none
theorem jM{K:W.Frag}{B:List Addr}:∀{ds:List D} {xs:List V} {ss:List Int},aD K B H ds xs->ints? ds=some ss->xs=ss.map V.int
 | [],xs,ss,r,h=>by unfold aD at r;subst r;cases h;rfl
 | d ::ds,xs,ss,r,h=>by
   obtain⟨x,r',rfl,r1,r2⟩:=r.cu;cases d with
   | int z=>
     unfold ints? at h;cases e:ints? ds with
     | none=>rw [e] at h;cases h
     | some tt=>
       rw[e] at h;cases h;rw[Rep.int.mp r1,jM r2 e];rfl
   | _=>cases h
def inD(d e:D):R Bool:=match d,e with
 | .str x, .lst ds=>(match strs? ds with | some ss=> .ok (ss.contains x) | none=> .no)
 | .str x, .tup ds=>(match strs? ds with | some ss=> .ok (ss.contains x) | none=> .no)
 | .str x, .str y=> .ok (!(Builtin.Str.occurrences y x 0 y.length 1).isEmpty)
 | .int x, .lst ds=>(match ints? ds with | some ss=> .ok (ss.contains x) | none=> .no)
 | .int x, .tup ds=>(match ints? ds with | some ss=> .ok (ss.contains x) | none=> .no)
 | _,_=> .no
def Ah(d e:D):R D:=(inD d e).bind fun b=> .ok (.bl b)
def yA(d e:D):R D:=(inD d e).bind fun b=> .ok (.bl (!b))
theorem vX(x:Str):∀ss:List Str,L6 (.str x) (ss.map V.str)=ss.contains x
 | []=>rfl
 | y ::ss=>by
   unfold L6;rw[List.map_cons,List.any_cons];have ih:=vX x ss;unfold L6 at ih;rw[ih];show(y==x || ss.contains x)=_
   rw[List.contains_cons];congr 1;exact Bool.eq_iff_iff.mpr ⟨fun h=>by simpa using(beq_iff_eq.mp h).symm,fun h=>by simpa using(beq_iff_eq.mp h).symm⟩
theorem wj(x:Int):∀ss:List Int,L6 (.int x) (ss.map V.int)=ss.contains x
 | []=>rfl
 | y ::ss=>by
   unfold L6;rw[List.map_cons,List.any_cons];have ih:=wj x ss;unfold L6 at ih;rw[ih];show(y==x || ss.contains x)=_
   rw[List.contains_cons];congr 1;exact Bool.eq_iff_iff.mpr ⟨fun h=>by simpa using(beq_iff_eq.mp h).symm,fun h=>by simpa using(beq_iff_eq.mp h).symm⟩
theorem yb(ss:List Int):(ss.map V.int).all nj=true:=by
 rw[List.all_map];simp [List.all_eq_true,nj]
theorem yj(ss:List Str):(ss.map V.str).all nj=true:=by
 rw[List.all_map];simp [List.all_eq_true,nj]
theorem IK{neg:Bool}{op:CmpOp}{g:D->D->R D}(h1:mT X (compareOp op) (TC X.K neg))(h2:mT X (compareOp op) (fun x y H Q=>∃i j,x= .str i/\y= .str j/\Q (.bl (if neg then !(!(Builtin.Str.occurrences j i 0 j.length 1).isEmpty) else(!(Builtin.Str.occurrences j i 0 j.length 1).isEmpty))) H))
 (hg:∀d e r,g d e= .ok r->∃b,inD d e= .ok b/\r= .bl (if neg then !b else b)):lx X (compareOp op) g:=by
 intro pins s σ H B da db d x y v u I hb rx ry ra rb hg';obtain⟨b,hi,rfl⟩:=hg da db d hg';unfold inD at hi;split at hi
 .rename_i z ds;split at hi
  .rename_i ss e;cases hi;obtain⟨a,xs,rfl,l,rs⟩:=Rep.lst.mp rb;refine h1 pins s σ H x _ v u _ I rx ry ⟨a,xs,rfl, .inl l.sq,by rw[Rep.str.mp ra];rfl,by rw[lQ rs e];exact yj _,bb.refl H,Rep.bl.mpr ?_⟩
   rw[lQ rs e,Rep.str.mp ra,vX]
  .cases hi
 .rename_i z ds;split at hi
  .rename_i ss e;cases hi;obtain⟨a,xs,rfl,l,rs⟩:=Rep.tup.mp rb;refine h1 pins s σ H x _ v u _ I rx ry ⟨a,xs,rfl, .inr l.sq,by rw[Rep.str.mp ra];rfl,by rw[lQ rs e];exact yj _,bb.refl H,Rep.bl.mpr ?_⟩
   rw[lQ rs e,Rep.str.mp ra,vX]
  .cases hi
 .cases hi;exact h2 pins s σ H x y v u _ I rx ry ⟨_,_,Rep.str.mp ra,Rep.str.mp rb,bb.refl H,Rep.bl.mpr rfl⟩
 .rename_i z ds;split at hi
  .rename_i ss e;cases hi;obtain⟨a,xs,rfl,l,rs⟩:=Rep.lst.mp rb;refine h1 pins s σ H x _ v u _ I rx ry ⟨a,xs,rfl, .inl l.sq,by rw[Rep.int.mp ra];rfl,by rw[jM rs e];exact yb _,bb.refl H,Rep.bl.mpr ?_⟩
   rw[jM rs e,Rep.int.mp ra,wj]
  .cases hi
 .rename_i z ds;split at hi
  .rename_i ss e;cases hi;obtain⟨a,xs,rfl,l,rs⟩:=Rep.tup.mp rb;refine h1 pins s σ H x _ v u _ I rx ry ⟨a,xs,rfl, .inr l.sq,by rw[Rep.int.mp ra];rfl,by rw[jM rs e];exact yb _,bb.refl H,Rep.bl.mpr ?_⟩
   rw[jM rs e,Rep.int.mp ra,wj]
  .cases hi
 .cases hi
theorem F9:lx X (compareOp .In) Ah:=IK (neg:=false) FQ FH fun d e r h=>by
 obtain⟨b,h1,h2⟩:=R.ak h;cases h2;exact⟨b,h1,rfl⟩
theorem Ky:lx X (compareOp .NotIn) yA:=IK (neg:=true) yU yy fun d e r h=>by
 obtain⟨b,h1,h2⟩:=R.ak h;cases h2;exact⟨b,h1,rfl⟩
def cR(d e:D):R D:=match d,e with
 | .lst ds, .int i=>(match sU ds i with | some x=> .ok x | none=> .no)
 | .tup ds, .int i=>(match sU ds i with | some x=> .ok x | none=> .no)
 | .str x, .int i=>R.bW (decide (x.length<=sizeLine)) (match sU x.cps.toList i with | some c=> .ok (.str ⟨#[c]⟩) | none=> .no)
 | _,_=> .no
theorem qU{K:W.Frag}{B:List Addr}{ds:List D}{xs:List V}{i:Int}{d:D}(r:aD K B H ds xs)(h:sU ds i=some d):∃x,sU xs i=some x/\Rep K B H d x:=by
 unfold sU at h ⊢;rw[<-r.length];cases e:Ai ds.length i with
 | none=>rw [e] at h;cases h
 | some j=>
   rw[e] at h;exact r.get h
theorem Pm(ha:PD X a fa)(hb:PD X b fb)(hs:uD b):PD X (.Subscript a b pos) (e2 cR fa fb):=by
 refine(LQ (r:=Tz X.K) IG ha hb hs).imp fun σ H Q ⟨Z,B,δ,d,E,hf,q⟩=>?_
 obtain⟨d1,h1,h2⟩:=R.ak hf;obtain⟨d2,h3,h4⟩:=R.ak h2;refine⟨Z,B,δ,d1,E,h1,fun v1 H1 s1 r1=>⟨Z,B,δ,d2,E.same s1,h3,fun v2 H2 s2 r2=>?_⟩⟩
 have rZ:=r1.same s2;unfold cR at h4;split at h4
 .split at h4
  .rename_i e;cases h4;obtain⟨p,xs,rfl,l,rs⟩:=Rep.lst.mp rZ;obtain⟨y,e1,e2⟩:=qU rs e;exact .inl ⟨p,xs,_,y,rfl,Rep.int.mp r2,l.sq,e1,q y H2 (s1.trans s2) e2⟩
  .cases h4
 .split at h4
  .rename_i e;cases h4;obtain⟨p,xs,rfl,l,rs⟩:=Rep.tup.mp rZ;obtain⟨y,e1,e2⟩:=qU rs e;exact .inr (.inl ⟨p,xs,_,y,rfl,Rep.int.mp r2,l.sq,e1,q y H2 (s1.trans s2) e2⟩)
  .cases h4
 .obtain⟨hl,h5⟩:=R.bf h4;split at h5
  .rename_i e;cases h5;exact .inr (.inr ⟨_,_,_,Rep.str.mp rZ,Rep.int.mp r2,of_decide_eq_true hl,e,q _ H2 (s1.trans s2) (Rep.str.mpr rfl)⟩)
  .cases h5
 .cases h4
abbrev FO:=aw->R (Option Int)
def Wn(K:W.Frag)(f:FO):TO:=fun σ H Q=>∃Z B δ o,eK K Z B H σ δ/\f δ= .ok o/\∀H',bb H H'->Q o H'
theorem PO.imp{X:Cx}{e:Option Expr}{t t':TO}(h:PO X e t)(w:∀σ H Q,t' σ H Q->t σ H Q):PO X e t':=fun pins s σ H Q I hq=>h pins s σ H Q I (w σ H Q hq)
abbrev PP(X:Cx)(e:Option Expr)(f:FO):Prop:=PO X e (Wn X.K f)
def vx:FO:=fun _=> .ok none
def rM(f:FD):FO:=fun δ=>(f δ).bind fun d=>match d with | .int i=> .ok (some i) | _=> .no
theorem KL:PP X none vx:=LD.imp fun σ H Q ⟨Z,B,δ,o,E,hf,q⟩=>by cases hf;exact q H (bb.refl H)
theorem Kn(h:PD X e f):PP X (some e) (rM f):=(Lg h).imp fun σ H Q ⟨Z,B,δ,o,E,hf,q⟩=>by
 obtain⟨d,h1,h2⟩:=R.ak hf;cases d with
 | int i=>cases h2;exact⟨Z,B,δ, .int i,E,h1,fun v H1 s1 r1=>⟨i,Rep.int.mp r1,q H1 s1⟩⟩
 | _=>cases h2
theorem NF:Mi X (fun x lo hi H Q=>∃z,x= .str z/\z.length<=sizeLine/\Q (.str (Txt.slice z lo hi)) H):=by
 intro pins s σ H x v vl vu lo hi sl Q I rx hs pl pu h;obtain⟨z,rfl,hz,q⟩:=h;obtain⟨t,rfl⟩:=rx;refine⟨"str",_,F.slot_str_getitem.lookup,typeIs_str _ _ _,?_⟩;have fin:∀t' k,EP X pins σ Q (.str (Txt.slice z lo hi) t') {s with toks:=k}:=fun t' k=>⟨.str _,H,I.tok _,⟨_,rfl⟩,q⟩
 obtain⟨o,ho,hc,hd⟩:=hs;cases pl with
 | none=>
   cases pu with
   | none=>exact wpAny_getItem_str_slice (l:=none) (u:=none) (st:=none) ⟨o,ho,hc,hd⟩ rfl (post_val_or_str ⟨Nat.le_trans (Txt.slice_le z _ _) hz,fin⟩)
   | int j u=>exact wpAny_getItem_str_slice (l:=none) (u:=some (j,u)) (st:=none) ⟨o,ho,hc,hd⟩ rfl (post_val_or_str ⟨Nat.le_trans (Txt.slice_le z _ _) hz,fin⟩)
 | int i t1=>
   cases pu with
   | none=>exact wpAny_getItem_str_slice (l:=some (i,t1)) (u:=none) (st:=none) ⟨o,ho,hc,hd⟩ rfl (post_val_or_str ⟨Nat.le_trans (Txt.slice_le z _ _) hz,fin⟩)
   | int j u=>exact wpAny_getItem_str_slice (l:=some (i,t1)) (u:=some (j,u)) (st:=none) ⟨o,ho,hc,hd⟩ rfl (post_val_or_str ⟨Nat.le_trans (Txt.slice_le z _ _) hz,fin⟩)
def cutD{α:Type}(xs:List α)(lo hi:Option Int):List α:=(xs.drop (HT.hJ xs.length 0 lo)).take (HT.hJ xs.length xs.length hi - HT.hJ xs.length 0 lo)
def Q4(d:D)(lo hi:Option Int):R D:=match d with
 | .str x=>R.bW (decide (x.length<=sizeLine)) (.ok (.str (Txt.slice x lo hi)))
 | .lst ds=> .ok (.lst (cutD ds lo hi))
 | _=> .no
theorem zT{K:W.Frag}{B:List Addr}{ds:List D}{xs:List V}(r:aD K B H ds xs)(lo hi:Option Int):aD K B H (cutD ds lo hi) (Bo xs lo hi):=by
 unfold cutD Bo;rw[<-r.length];exact(r.drop _).take _
def NH(f:FD)(fl fh:FO):FD:=fun δ=>(f δ).bind fun d=>(fl δ).bind fun lo=>(fh δ).bind fun hi=>Q4 d lo hi
theorem Px{lo hi:Option Expr}{fl fh:FO}{p2 pos:Pos}(he:PD X e f)(hl:PP X lo fl)(hh:PP X hi fh):PD X (.Subscript e (.Slice lo hi none p2) pos) (NH f fl fh):=by
 refine(An (NF.or Lj) he hl hh).imp fun σ H Q ⟨Z,B,δ,d,E,hf,q⟩=>?_
 obtain⟨d1,h1,h2⟩:=R.ak hf;obtain⟨l,h3,h4⟩:=R.ak h2;obtain⟨h,h5,h6⟩:=R.ak h4;refine⟨Z,B,δ,d1,E,h1,fun v1 H1 s1 r1=>⟨Z,B,δ,l,E.same s1,h3,fun H2 s2=>⟨Z,B,δ,h,(E.same s1).same s2,h5,fun H3 s3=>?_⟩⟩⟩
 have sA:bb H H3:=s1.trans (s2.trans s3);have rZ:=r1.same (s2.trans s3);unfold Q4 at h6;split at h6
 .obtain⟨hz,h7⟩:=R.bf h6;cases h7;exact .inl ⟨_,Rep.str.mp rZ,of_decide_eq_true hz,q _ H3 sA (Rep.str.mpr rfl)⟩
 .cases h6;obtain⟨a,xs,rfl,ls,rs⟩:=Rep.lst.mp rZ;refine .inr ⟨a,xs,rfl,ls.sq,fun p hp=>q _ _ (sA.trans (aU hp)) (Rep.lst.mpr ⟨p,_,rfl, .vt ba fun ha=>?_,(zT rs l h).same (aU hp)⟩)⟩
  obtain⟨o,ho⟩:=(E.same sA).bs p ha;rw[hp] at ho;cases ho
 .cases h6
end
end L2
end
section
namespace L2
open PySem PySem.Spec PyProof.Rows
section
variable {X:Cx}
theorem aD.one{K:W.Frag}{B:List Addr}{d:D}{xs:List V}(h:aD K B H [d] xs):∃x,xs=[x]/\Rep K B H d x:=by
 obtain⟨x,r,rfl,h1,h2⟩:=h.cu;unfold aD at h2;subst h2;exact⟨x,rfl,h1⟩
theorem aD.two{K:W.Frag}{B:List Addr}{d e:D}{xs:List V}(h:aD K B H [d,e] xs):∃x y,xs=[x,y]/\Rep K B H d x/\Rep K B H e y:=by
 obtain⟨x,r,rfl,h1,h2⟩:=h.cu;obtain⟨y,rfl,h3⟩:=h2.one;exact⟨x,y,rfl,h1,h3⟩
def iE:List D->R D
 | [.str x]=>R.bW (decide (x.length<=sizeLine)) (.ok (.int x.length))
 | [.lst ds]=> .ok (.int ds.length)
 | [.tup ds]=> .ok (.int ds.length)
 | _=> .no
theorem gp:dz X (.builtin "len") iE:=dz.of Ja fun B H ds d xs Q _ rs hg q=>by
 unfold iE at hg;split at hg
 .obtain⟨h1,h2⟩:=R.bf hg;cases h2;obtain⟨x,rfl,r⟩:=rs.one;exact⟨x,_,rfl,by rw[Rep.str.mp r];exact⟨of_decide_eq_true h1,rfl⟩,q _ H (bb.refl H) (Rep.int.mpr rfl)⟩
 .cases hg;obtain⟨x,rfl,r⟩:=rs.one;obtain⟨a,ys,rfl,l,r⟩:=Rep.lst.mp r;exact⟨_,_,rfl, .inl ⟨ys,l.sq,rfl⟩,q _ H (bb.refl H) (Rep.int.mpr (by rw[r.length]))⟩
 .cases hg;obtain⟨x,rfl,r⟩:=rs.one;obtain⟨a,ys,rfl,l,r⟩:=Rep.tup.mp r;exact⟨_,_,rfl, .inr ⟨ys,l.sq,rfl⟩,q _ H (bb.refl H) (Rep.int.mpr (by rw[r.length]))⟩
 .cases hg
def cInt:List D->R D
 | [.int i]=> .ok (.int i)
 | [.bl b]=> .ok (.int (if b then 1 else 0))
 | _=> .no
theorem Pr:dz X (.type "int") cInt:=dz.of EX fun B H ds d xs Q _ rs hg q=>by
 unfold cInt at hg;split at hg
 .cases hg;obtain⟨x,rfl,r⟩:=rs.one;exact .inl ⟨_,by rw[Rep.int.mp r],q _ H (bb.refl H) (Rep.int.mpr rfl)⟩
 .cases hg;obtain⟨x,rfl,r⟩:=rs.one;exact .inr ⟨_,by rw[Rep.bl.mp r],q _ H (bb.refl H) (Rep.int.mpr rfl)⟩
 .cases hg
def cStr:List D->R D
 | [.int i]=>R.bW (decide (i.natAbs.log2 < 1920)) (.ok (.str (toString i)))
 | _=> .no
def MQ:List D->R D
 | [.int i, .int j]=> .ok (.int (if j < i then j else i))
 | _=> .no
theorem Qd(hc:X.calm=true):dz X (.builtin "min") MQ:=dz.of (Ft hc) fun B H ds d xs Q _ rs hg q=>by
 unfold MQ at hg;split at hg
 .cases hg;obtain⟨x,y,rfl,r1,r2⟩:=rs.two;exact⟨_,_,by rw[Rep.int.mp r1,Rep.int.mp r2],q _ H (bb.refl H) (Rep.int.mpr rfl)⟩
 .cases hg
def Sk:List D->R D
 | [.int i, .int j]=> .ok (.int (if j > i then j else i))
 | _=> .no
def oK:List D->R D
 | [.lst ds]=> .ok (.tup ds)
 | [.tup ds]=> .ok (.tup ds)
 | _=> .no
theorem qZ:dz X (.type "tuple") oK:=dz.of wO fun B H ds d xs Q hb rs hg q=>by
 unfold oK at hg;split at hg
 .cases hg;obtain⟨x,rfl,r⟩:=rs.one;obtain⟨a,ys,rfl,l,r⟩:=Rep.lst.mp r;refine⟨a,ys,rfl, .inl ⟨l.sq,fun p hp=>q _ _ (aU hp) (Rep.tup.mpr ⟨p,ys,rfl, .inl ⟨fun ha=>?_, .inl ba⟩,r.same (aU hp)⟩)⟩⟩
  obtain⟨o,ho⟩:=hb p ha;rw[hp] at ho;cases ho
 .cases hg;obtain⟨x,rfl,r⟩:=rs.one;have r0:=r;obtain⟨a,ys,rfl,l,r⟩:=Rep.tup.mp r;exact⟨a,ys,rfl, .inr ⟨l.sq,q _ H (bb.refl H) r0⟩⟩
 .cases hg
def Ay:List D->R D
 | [.lst ds]=> .ok (.lst ds)
 | [.tup ds]=> .ok (.lst ds)
 | _=> .no
theorem CQ:dz X (.type "list") Ay:=dz.of yQ fun B H ds d xs Q hb rs hg q=>by
 unfold Ay at hg;split at hg
 .cases hg;obtain⟨x,rfl,r⟩:=rs.one;obtain⟨a,ys,rfl,l,r⟩:=Rep.lst.mp r;refine⟨a,ys,rfl, .inl l.sq,fun p hp=>q _ _ (aU hp) (Rep.lst.mpr ⟨p,ys,rfl, .vt ba fun ha=>?_,r.same (aU hp)⟩)⟩
  obtain⟨o,ho⟩:=hb p ha;rw[hp] at ho;cases ho
 .cases hg;obtain⟨x,rfl,r⟩:=rs.one;obtain⟨a,ys,rfl,l,r⟩:=Rep.tup.mp r;refine⟨a,ys,rfl, .inr l.sq,fun p hp=>q _ _ (aU hp) (Rep.lst.mpr ⟨p,ys,rfl, .vt ba fun ha=>?_,r.same (aU hp)⟩)⟩
  obtain⟨o,ho⟩:=hb p ha;rw[hp] at ho;cases ho
 .cases hg
def cAbs:List D->R D
 | [.int i]=> .ok (.int (if i < 0 then -i else i))
 | _=> .no
def Ww:List D->R D
 | [.lst ds]=>(match ints? ds with | some ns=> .ok (.int ns.sum) | none=> .no)
 | _=> .no
theorem pP:∀{ns:List Int} {us:List Value},Vals (ns.map V.int) us->∃l:List (Int × Tok),us=l.map (fun p=>Value.int p.1 p.2)/\l.map (·.1)=ns
 | [],_, .nil=>⟨[],rfl,rfl⟩
 | n ::ns,_, .cons r t=>by
   obtain⟨l,rfl,e⟩:=pP t;obtain⟨tk,rfl⟩:=r;exact⟨(n,tk) ::l,rfl,by rw[List.map_cons,e]⟩
def tyName:D->String
 | .cH=>"NoneType" | .bl _=>"bool" | .int _=>"int" | .str _=>"str" | .lst _=>"list" | .tup _=>"tuple" | .dct _ _=>"dict"
def W2(T:String)(f:FD):FD:=fun δ=>(f δ).bind fun d=>R.bW (tyName d==T && d.atom) (.ok (.bl true))
def Za(X:Cx)(id:String)(g:D->List D->R D):Prop:=
 ∀(pins:Zy) (s:Shared) (σ:St) (H:Hp) (B:List Addr) (da d:D) (ds:List D) (x:V) (xs:List V) (v:Value) (us:List Value),Inv X pins σ H s->(∀a∈B,∃o,H a=some o)->RelV x v->Vals xs us->Rep X.K B H da x->aD X.K B H ds xs->g da ds= .ok d->
  wpAny (model X.prog X.w) X.A (call (.builtin id) (v ::us)) (EP X pins σ fun z H'=>bb H H'/\Rep X.K B H' d z) X.xe s
def YY(T:String)(g:D->List D->R D)(f:FD)(fs:aw->R (List D)):FD:=fun δ=>(f δ).bind fun d=>R.bW (tyName d==T && (d.atom || T=="list")) ((fs δ).bind fun ds=>g d ds)
def Vv(d:D)(ds:List D):R D:=match d,ds with
 | .str sep,[.lst es]=>(match strs? es with | some ss=>R.bW (JoinOk sep ss) (.ok (.str (Str.join sep ss))) | none=> .no)
 | _,_=> .no
abbrev PJ(X:Cx)(es:List Expr)(f:aw->R (List Str)):Prop:=
 ∀(pins:Zy) (s:Shared) (σ:St) (H:Hp) (Z B:List Addr) (δ:aw) (acc:Str) (ss:List Str) (Q:VK),Inv X pins σ H s->eK X.K Z B H σ δ->f δ= .ok ss->(ss.foldl (·++·) acc).length<=sizeLine->(∀H',bb H H'->Q (.str (ss.foldl (·++·) acc)) H')->
  wpAny (model X.prog X.w) X.A (joinParts acc (evalEach es X.env)) (EP X pins σ Q) X.xe s
def WC:aw->R (List Str):=fun _=> .ok []
def Vh(f:FD)(g:aw->R (List Str)):aw->R (List Str):=fun δ=>(f δ).bind fun d=>match d with | .str x=>(g δ).bind fun ss=> .ok (x ::ss) | _=> .no
def RP(g:aw->R (List Str)):FD:=fun δ=>(g δ).bind fun ss=>R.bW (decide ((ss.foldl (·++·) Str.empty).length<=sizeLine)) (.ok (.str (ss.foldl (·++·) Str.empty)))
def Tu:D->R D
 | .str x=>R.bW (decide (x.length<=sizeLine)) (.ok (.str x))
 | .int i=>R.bW (decide (i.natAbs.log2 < 1920)) (.ok (.str (toString i)))
 | _=> .no
def WG(f:FD):FD:=fun δ=>(f δ).bind Tu
def Q2:List (D × D)->Str->R (Option D)
 | [],_=> .ok none
 | (.str y,d) ::r,x=>(Q2 r x).bind fun o=> .ok (match o with | some e=>some e | none=>if y=x then some d else none)
 | _ ::_,_=> .no
def QC(x:Str):List D:=x.cps.toList.map fun c=> .str ⟨#[c]⟩
def Y6(x:Str):It:=⟨fun i _=>i < x.cps.size,fun i H v H'=>H'=H/\∃c,x.cps[i]? =some c/\v= .str ⟨#[c]⟩,fun i _=>x.cps.size<=i⟩
def U7(f:FD):aw->R (List D):=fun δ=>(f δ).bind fun d=>match d with | .str x=> .ok (QC x) | _=> .no
def WS(K:W.Frag)(a:Addr):It:=
 ⟨fun i H=>∃xs x,pM K H a xs/\xs[i]? =some x,fun i H v H'=>∃p x,H p=none/\v= .ref p/\(∀xs,pM K H a xs->xs[i]? =some x)/\H'=upd H p (.tup [.int i,x]),fun i H=>∃xs,pM K H a xs/\xs.length<=i⟩
theorem Fd{K:W.Frag}{k:Nat}(a e it:Addr)(Pa:e≠it):Turn P w K (.Tuple elts k pos) (WS K a) [e,it] e (fun i h=>(∃old,IsEnum h e it ((i:Nat):Int) old)/\h.IsListIter it a i) where
 mem:=by simp
 obj:=fun i h st b hb=>by
  obtain⟨⟨old,he⟩,o,ho,c,d⟩:=st;rcases List.mem_cons.mp hb with rfl | hb
  .exact⟨_,he,fun v z=>by cases z⟩
  .have e:b=it:=by simpa using hb
   subst e;exact⟨o,ho,fun v z=>by rw[d] at z;cases z⟩
 keep:=fun i h h' st k=>by
  obtain⟨⟨old,he⟩,hi⟩:=st;exact⟨⟨old,k e (by simp) _ he⟩,hi.at fun o x=>k it (by simp) o x⟩
 item:=by
  intro X hP hw hK hc i pins s σ H E I hf st hg;subst hP hw hK;obtain⟨xs,x,hq,hx⟩:=hg;obtain⟨its,rv,p,hz⟩:=I.list hq;obtain⟨u,hu,ru⟩:=rv.get hx;obtain⟨⟨old,he⟩,hit⟩:=st;obtain⟨f0,f1,f2,f3,f4,f5⟩:=hf e (by simp)
  obtain⟨g0,g1,g2,g3,g4,g5⟩:=hf it (by simp)
  refine wpAny_pyNext_enum_item he hit p.isList (x:=u) (by simpa using hu) Pa fun jo JN Dn Jk pV yt=>⟨_,rfl,?_⟩
  refine wpAny_letOwnedTupleGo_enum JN fun ib Jw dj=>?_
  replace dj:Heap.SameBut e jo ib:=dj
  have hel:e < s.heap.objs.size:=Heap.lt_size he;have BC:ib.get? s.heap.objs.size=some {cls:= .type "tuple",data:= .seq #[.int i s.toks,u]}:=(dj.2 _ (Nat.ne_of_gt hel)).trans Jk;have kk:∀b o,b≠e->b≠it->s.heap.get? b=some o->ib.get? b=some o:=fun b o h1 h2 q=>(dj.2 b h1).trans (yt b o h1 h2 q)
  have hn:H s.heap.objs.size=none:=I.fresh;have sm:bb H (upd H s.heap.objs.size (.tup [.int i,x])):=aU hn;have nit:∀b o,H b=some o->b≠e/\b≠it:=fun b o q=>⟨fun z=>(by rw[z,f0] at q;cases q),fun z=>(by rw[z,g0] at q;cases q)⟩
  have hok:pF X.prog X.w (upd H s.heap.objs.size (.tup [.int i,x])) ib:=fun b ob q=>by
   by_cases hb:b=s.heap.objs.size
   .subst hb;rw[ba] at q;cases q;exact⟨by show 2<=sizeLine;decide,[.int i s.toks,u], .cons ⟨_,rfl⟩ (.cons ru .nil),⟨_,BC,rfl,_,rfl⟩⟩
   .rw [bj hb] at q;refine(I.hok b ob q).yT (fun c v hc z=>?_) (fun c z=>sm c _ z) fun c ys z=>sm c _ z
    rcases hc with rfl | hc
    .exact kk c v (nit c _ q).1 (nit c _ q).2 z
    .exact kk c v (nit c _ hc).1 (nit c _ hc).2 z
  have nch:∀b,b ∉ [e,it]->b≠e/\b≠it:=fun b hb=>⟨fun z=>hb (by simp [z]),fun z=>hb (by simp [z])⟩
  have I2:Inv X pins σ (upd H s.heap.objs.size (.tup [.int i,x])) {s with heap:=ib,toks:=s.toks+1}:=by
   refine I.step (g':=s.gens) (d':=s.drawn) (ch:=[e,it]) (fun b hb=>?_) (fun b o _ _ hb q _=>kk b o (nch b hb).1 (nch b hb).2 q) (fun b o _ _ hb q _=>⟨o.slots,kk b o (nch b hb).1 (nch b hb).2 q⟩)
    (fun b o hb q n=>by rw[bj (Nat.ne_of_lt (Heap.lt_size q))];exact n) (fun b o hb q=>⟨o,kk b o (nch b hb).1 (nch b hb).2 q⟩) (fun b ys z=>sm b _ z) (fun b o u z=>sm b _ z) (fun b ps z=>⟨#[],by rw[sm b _ z];simp⟩) (fun m hm=>?_) hok I.bare
   .rcases List.mem_cons.mp hb with rfl | hb
    .exact⟨f3,f1,f4,f5⟩
    .have z:b=it:=by simpa using hb
     subst z;exact⟨g3,g1,g4,g5⟩
   .obtain⟨o,es,ep,ho,r⟩:=hm;exact⟨o,es,ep,kk _ o (Ne.symm f1) (Ne.symm g1) ho,r⟩
  refine⟨.ref s.heap.objs.size,_,I2,rfl,⟨s.heap.objs.size,x,hn,rfl,fun ys hy=>(by rw[I.rj hy hq];exact hx),rfl⟩,⟨⟨_,by simpa using Jw⟩,Dn.at fun o q=>(dj.2 it (Ne.symm Pa)).trans q⟩,fun b hb=>?_⟩
  rcases List.mem_cons.mp hb with rfl | hb
  .rw [bj (Nat.ne_of_lt hel)];exact f0
  .have z:b=it:=by simpa using hb
   subst z;obtain⟨o,ho,_⟩:=hit;rw[bj (Nat.ne_of_lt (Heap.lt_size ho))];exact g0
 done:=by
  intro X hP hw hK hc i pins s σ H E I hf st hg;subst hP hw hK;obtain⟨xs,hq,hx⟩:=hg;obtain⟨its,rv,p,hz⟩:=I.list hq;obtain⟨⟨old,he⟩,hit⟩:=st;obtain⟨g0,g1,g2,g3,g4,g5⟩:=hf it (by simp)
  have hl:=rv.length;exact wpAny_pyNext_enum_end (I.ok.hd hc) he hit p.isList (by simp;omega) fun h' eb=>⟨rfl,I.turned (t':=s.toks) (fun b o hb q=>eb b o hb q) g0 g1 g3 g4 g5⟩
 self:=fun A i s Q E st h=>let⟨⟨_,he⟩,_⟩:=st;wpAny_pyIter_enum he h
def cB(ds:List D):List D:=ds.zipIdx.map fun p=> .tup [.int p.2,p.1]
def ig(f:FD):aw->R (List D):=fun δ=>(f δ).bind fun d=>match d with | .lst ds=> .ok (cB ds) | _=> .no
theorem zQ{elts:List Expr}{k:Nat}{wH:Pos}{p pos:Pos}(h:PD X a f)(hg:Gl X "enumerate")(hm:X.mg "enumerate"=none)(hs:starEach [a] X.env=[(false,eval a X.env)]:=by rfl):O8 X (.Tuple elts k wH) (.Call (.Name "enumerate" p) [a] [] pos) (ig f):=by
 intro pins s σ H RR I ⟨Z,B,δ,ds,E,hf,q⟩;obtain⟨d,h1,h2⟩:=R.ak hf;have hA:=fK h ji hs pos pins s σ H (fun vs H1=>bb H H1/\∃v,vs=[v]/\Rep X.K B H1 d v) I ⟨Z,B,δ,d,E,h1,fun v H1 s1 r1=>⟨s1,v,rfl,r1⟩⟩
 refine Call_ (qa I hg hm boot_enumerate (PyProof.Rows.callWith_type1 (dY hA fun us s1 ⟨vs,H1,I1,r1,ss,v,ev,rr⟩=>?_) hs rfl))
 subst ev;obtain⟨u,rfl,ru⟩:=vals1 r1;cases d with
 | lst es=>
   cases h2;obtain⟨b,xs,rfl,l,rs⟩:=Rep.lst.mp rr;cases ru;obtain⟨its,n,rv,e1,hz⟩:=I1.NG l;refine call_enumerate_list (items:=its.toArray) ⟨_,e1,rfl,n,rfl⟩ fun h' he hit hsz kk=>wpAny_pyIter_enum he ?_
   have I2:Inv X pins σ H1 {s1 with heap:=h'}:=I1.kept (t':=s1.toks) kk
   refine⟨s1.heap.objs.size+1,[s1.heap.objs.size+1,s1.heap.objs.size],_,_,H1,rfl,I2,Fd b (s1.heap.objs.size+1) s1.heap.objs.size (Nat.succ_ne_self _),⟨⟨_,he⟩,hit⟩,fun c hc=>?_,q _ H1 ss fun B' H' pr=>?_⟩
   .have hle:s1.heap.objs.size<=c:=by
     rcases List.mem_cons.mp hc with z | hc
     .rw [z];exact Nat.le_succ _
     .have z:c=s1.heap.objs.size:=by simpa using hc
      rw[z];exact Nat.le_refl _
    exact I1.xl hle (I1.hok.fresh hle)
   .have l':uZ X.K B' H' b xs:=l.bt pr;have rs':=rs.bt pr;refine⟨fun i d hd=>?_,⟨xs,l'.sq,by rw[<-rs.length];unfold cB;simp⟩⟩
    unfold cB at hd;rw[List.getElem?_map,List.getElem?_zipIdx] at hd;cases e:es[i]? with
    | none=>rw [e] at hd;cases hd
    | some d0=>
      rw[e] at hd;have hd:D.tup [.int ((0+i:Nat):Int),d0]=d:=Option.some.inj hd;rw[Nat.zero_add] at hd;obtain⟨x,hx,rx⟩:=rs'.get e;refine⟨⟨xs,x,l'.sq,hx⟩,fun v o3 y LN=>?_⟩
      obtain⟨p,y,hp,rfl,hy,rfl⟩:=y;refine⟨aU hp,?_⟩;subst hd;have Gg:=hy xs l'.sq;rw[hx] at Gg;cases Gg;refine Rep.tup.mpr ⟨p,_,rfl, .inl ⟨fun ha=>?_, .inl ba⟩,aD.cons (Rep.int.mpr rfl) (aD.cons (rx.same (aU hp)) aD.nil)⟩
      obtain⟨o,ho⟩:=LN p ha;rw[hp] at ho;cases ho
 | _=>cases h2
end
end L2
end
section
namespace L2
open PySem PySem.Spec PyProof.Rows
def Def(K:W.Frag)(mg:ZE)(x:Str)(st:Stmt):Prop:=∃f fd,DP K x x st f fd/\mg x=some (.ref f)
def Callee(P:Program)(w:World)(K:W.Frag)(mg:ZE)(base:Heap)(k:Nat)(x:Str)(n:Nat)(g:List D->R D):Prop:=
 ∃f fd ps,jl P w K mg base wI k f fd ps (IE K n g)/\mg x=some (.ref f)/\PySem.W.keepIn K (.ref f)=true/\Binds K fd ps []
theorem de:∀(δ:aw) (ds:List D),aP δ= .ok ds->ds.length=0:=fun δ ds h=>by cases h;rfl
theorem bo{g:aw->R (List D)}{n:Nat}(h:∀(δ:aw) (ds:List D),g δ= .ok ds->ds.length=n):∀(δ:aw) (ds:List D),av f g δ= .ok ds->ds.length=n+1:=fun δ ds e=>by
 obtain⟨d,h1,h2⟩:=R.ak e;obtain⟨es,h3,h4⟩:=R.ak h2;cases h4;rw[List.length_cons,h δ es h3]
theorem G2{P:Program}{w:World}{K:W.Frag}{mg:ZE}{base:Heap}{x qual:Str}{st:Stmt}{f:Addr}{fd:FuncData}{N ps:List Str}{k:Nat}{F:FS}{b:List Stmt}{sc:Scope}(hb:aO st=b)(hs:az st=sc)(Fn:DP K x qual st f fd)(S:a_ N ps sc)
 (mv:∀(dU:Value) (A:Around) (outer:List Env) (s:Shared) (H:Hp) (E:XK),eU k (A.deeper (envOfC qual sc s.heap.objs.size f dU))->
   ui (wm wI P w K mg base N qual sc f dU A outer s H E).Kg b F):jl P w K mg base wI (k+1) f fd ps (IE K ps.length (xY N F)):=by
 subst hb hs;exact KR Fn S mv
section
variable {X:Cx}
theorem Hf{g:List D->R D}{k j n:Nat}{x:Str}{p pos:Pos}{e:Expr}{es:List Expr}{fs:aw->R (List D)}(C:Callee X.prog X.w X.K X.mg X.base k x n g)(hr:eU j X.A)(Jt:k<=j)(hg:Gl X x)(ha:JB X (e ::es) fs)
 (hn:∀δ ds,fs δ= .ok ds->ds.length=n) (qG:(x==("__debug__":Str))=false:=by decide) (he:starEach (e ::es) X.env=(false,eval e X.env) ::starEach es X.env:=by rfl) (m7:(backTo pos (starEach es X.env)).any (·.1)=false:=by rfl) :
 PD X (.Call (.Name x p) (e ::es) [] pos) (bp g fs):=by
 obtain⟨f,fd,ps,F,hm,hk,hb⟩:=C;exact Ld F (hr.mono Jt) hg hm hk hb ha hn qG he m7
def P1(sc:Scope)(N:List Str)(scope:Scope)(kp:List Nat)(kn:List Str):Bool:=
 decide (scope.kind= .function) && scope.names.all (fun y=>decide (y.2= .cell->scope.names.lookup y.1=some .cell)) && scope.names.all (fun y=>decide (y.2= .local->scope.names.lookup y.1=some .local))
  && scope.names.all (fun y=>decide (y.2= .free->(sc.names.lookup y.1=some .cell\/sc.names.lookup y.1=some .free))) && scope.names.all (fun y=>decide (y.2= .free->scope.names.lookup y.1=some .free)) && decide (kn.length=kp.length)
  && (List.range kp.length).all (fun j=>decide ((kp[j]?).bind (N[·]?)=kn[j]?)) && kn.all (fun x=>decide (scope.names.lookup x=some .free))
theorem bZ.of{own:List Str}{kp:List Nat}{kn:List Str}{N:List Str}(h1:X.env.scope=sc)(h2:X.N=N)(h:P1 sc N scope kp kn=true):bZ X scope own kp kn:=by
 unfold P1 at h;simp only[Bool.and_eq_true,decide_eq_true_eq,List.all_eq_true] at h;obtain⟨⟨⟨⟨⟨⟨⟨a1,a2⟩,a3⟩,a4⟩,a8⟩,a5⟩,a6⟩,a7⟩:=h;refine⟨a1,a2,a3,fun y hy hf=>?_,a8,a5,fun j i x hj hx=>?_,a7⟩
 .have:=a4 y hy hf;unfold Env.kindOf;rw[h1];exact this
 .have hlt:j < kp.length:=(List.getElem?_eq_some_iff.mp hj).1;have:=a6 j (List.mem_range.mpr hlt);rw[hj] at this;rw[h2];exact this.trans hx
def Nr(kvs:List (Key × V))(f g:FD):FD:=fun δ=>(f δ).bind fun k=>(g δ).bind fun d=>match k with
 | .str x=>(match lh (lg [] kvs) (Sum.inr x) with | some (.int i)=> .ok (.int i) | none=> .ok d | _=> .no)
 | _=> .no
theorem ME{keys:List (Option Expr)}{values:List Expr}{BD:List (TE × TE)}{zC apos cD:Pos}{e f:Expr}{fe ff:FD}{kvs:List (Key × V)}(hu:X.A.units+1 < cLine)(h:O4 X zC keys values BD)(uo:keys.all (·.isSome)=true)(hl:keys.length=values.length)(h0:keys≠[])
 (hc:∀σ H Q,Q (kvs.map fun kv=>(kV kv.1,kv.2)) H->vD BD σ H Q) (hlen:kvs.length<=15) (he:PD X e fe) (hf:PD X f ff) (m:M2 X (.Dict keys values zC) "get" apos e f cD)
 (hd:PE X (.Dict keys values zC) (IA BD)):PD X (.Call (.Attribute (.Dict keys values zC) "get" apos) [e,f] [] cD) (Nr kvs fe ff):=by
 refine(G7 hu hd he hf m).imp fun σ H Q ⟨Z,B,δ,d,E,hfd,q⟩=>?_
 obtain⟨k,h1,h2⟩:=R.ak hfd;obtain⟨dd,h3,h4⟩:=R.ak h2;intro p hp;refine hc σ _ _ ⟨ba,kvs,rfl,hlen,p,rfl, .inl ⟨_, .inl ba⟩,?_⟩;rw[Ll];have s0:bb H (upd H p (.dK (lg [] kvs))):=aU hp;refine⟨Z,B,δ,k,E.same s0,h1,fun v1 H1 s1 r1=>⟨Z,B,δ,dd,(E.same s0).same s1,h3,fun v2 H2 s2 r2=>?_⟩⟩
 have hH2:H2 p=some (.dK (lg [] kvs)):=s2 p _ (s1 p _ ba);have sA:bb H H2:=s0.trans (s1.trans s2);split at h4
 .rename_i x;refine⟨lh (lg [] kvs) (Sum.inr x),?_,?_⟩
  .rw [Rep.str.mp r1];exact uc.k (k:=Sum.inr x) hH2
  .split at h4
   .rename_i i e1;cases h4;rw[e1];exact q _ H2 sA (Rep.int.mpr rfl)
   .rename_i e1;cases h4;rw[e1];exact q _ H2 sA r2
   .cases h4
 .cases h4
theorem B7:SS X "list.extend" (fun x vs H Q=>∃l b xs zs,x= .ref l/\vs=[.ref b]/\H l=some (.lst xs)/\(∃B,uZ X.K B H b zs)/\xs.length+zs.length<=sizeLine/\Q .cH (upd H l (.lst (xs++zs)))):=by
 intro pins s σ H x vs v us Q I rx rv h;obtain⟨l,b,xs,zs,rfl,rfl,hH,⟨_,hB⟩,hz,q⟩:=h;cases rx;obtain⟨u,rfl,ru⟩:=rv.one;cases ru;obtain⟨z,its,n,r,hl,e⟩:=I.Kv hH;obtain⟨Bv,n2,r2,e2,z2⟩:=I.NG hB;have EF:=r2.length;have hsz:its.toArray.size+Bv.toArray.size<=sizeLine:=by rw[List.size_toArray,List.size_toArray];omega
 have hlong:¬(!its.toArray.isEmpty && Builtin.List.listTooLong (its.toArray.size+Bv.toArray.size))=true:=by
  rw[z7 hsz,Bool.and_false];exact Bool.false_ne_true
 refine call_meets F.slot_list_extend ⟨_,e,rfl⟩ F.entry_list_extend (F.args_list_extend_2 _ _)
  (AutoSeq1.list_extend_list_list_0 l its.toArray n b Bv.toArray n2 hlong (by rw[List.size_toArray];omega) (by omega)) ⟨e,e2,?_⟩
 refine⟨.cH,_,I.NS (its':=its++Bv) hH e (by simp) (r.append r2) ?_,rfl,q⟩
 rw[List.length_append];omega
def VA(i:Nat)(f:FD):FS:=fun δ=>(f δ).bind fun d=>match d with
 | .lst es=>(x6 δ i).bind fun ds=>R.bW (decide (ds.length+es.length<=sizeLine)) (.ok (.nx (δ.set i (.bld (ds++es)))))
 | _=> .no
end
end L2
end
section
namespace L2
open PySem PySem.Spec PyProof.Rows
structure QD (X:Cx) (e:Expr) (f:FD):Prop where
 h:PD X e f
structure QN (X:Cx) (e:Expr) (f:aw->R (List D)):Prop where
 h:PN X e f
structure QB (X:Cx) (e:Expr) (f:aw->R Bool):Prop where
 h:PB X e f
structure Nw (X:Cx) (e:Expr) (f:aw->R Bool):Prop where
 h:JF X e f
structure LZ (X:Cx) (e:List Expr) (f:aw->R (List D)):Prop where
 h:JB X e f
structure Mc (X:Cx) (e:Stmt) (f:FS):Prop where
 h:Lq X e f
structure xk (X:Cx) (e:List Stmt) (f:FS):Prop where
 h:ui X e f
structure PU (X:Cx) (e:Expr) (f:FT):Prop where
 h:O1 X e f
structure Lx (X:Cx) (e:List Expr) (f:Hd):Prop where
 h:II X e f
structure DA (X:Cx) (tg e:Expr) (f:aw->R (List D)):Prop where
 h:O8 X tg e f
structure QP (X:Cx) (e:Option Expr) (f:FO):Prop where
 h:PP X e f
structure QJ (X:Cx) (e:List Expr) (f:aw->R (List Str)):Prop where
 h:PJ X e f
structure MR (X:Cx) (e:List Expr) (c:aw->R Bool):Prop where
 h:sv X e (MN X.K c)
section
variable {X:Cx}
theorem bE{f:aw->R (List D)}(h:QN X e f):QD X e (eNew f):=⟨N7 h.1⟩
theorem aa(i:Nat){pos:Pos}(hN:X.N[i]? =some x:=by rfl)(hv:JA X.env.scope x:=by first | exact Or.inl rfl | exact Or.inr (Or.inl rfl) | exact Or.inr (Or.inr rfl))(hd:(x==("__debug__":Str))=false:=by decide)(uq:(x==("__classdict__":Str))=false:=by decide):QD X (.Name x pos) (ah i):=⟨M3 i hN hv hd uq⟩
theorem ai{i j pos}:QD X (.Constant (.int i) j pos) (eC (.int i)):=⟨N_⟩
theorem iu{b j pos}:QD X (.Constant (.bool b) j pos) (eC (.bl b)):=⟨Qt⟩
theorem rE{j pos}:QD X (.Constant .none j pos) (eC .cH):=⟨Nv⟩
theorem bG{x j pos}:QD X (.Constant (.str x) j pos) (eC (.str x)):=⟨NC⟩
theorem aj:LZ X [] aP:=⟨K7⟩
theorem ab{g:aw->R (List D)}(h:QD X e f)(t:LZ X es g)(hs:starEach (e ::es) X.env=(false,eval e X.env) ::starEach es X.env:=by rfl):LZ X (e ::es) (av f g):=⟨GZ h.1 t.1 hs⟩
theorem bY{g:aw->R (List D)}{x1 pos}(h:LZ X es g):QD X (.Tuple es x1 pos) (eT g):=⟨Np h.1⟩
theorem br{g:aw->R (List D)}{pos}(h:LZ X es g):QN X (.List es pos) (dy g):=⟨Ol h.1⟩
theorem aR{op:Operator}{g:D->D->R D}(ho:lx X (binaryOp op) g)(ha:QD X a fa)(hb:QD X b fb):QD X (.BinOp a op b pos) (e2 g fa fb):=⟨PQ ho ha.1 hb.1⟩
theorem uv{op:CmpOp}{g:D->D->R D}(ho:lx X (compareOp op) g)(ha:QD X a fa)(hb:QD X b fb)(hm:behindInMarks op b=false):QD X (.Compare a [op] [b] pos) (e2 g fa fb):=⟨Mz ho ha.1 hb.1 hm⟩
theorem bu{op:CmpOp}{g:D->D->R D}(ho:lx X (compareOp op) g)(ha:QD X a fa)(hb:QD X b fb)(hm:behindInMarks op b=false):QB X (.Compare a [op] [b] pos) (b2 g fa fb):=⟨M0 ho ha.1 hb.1 hm⟩
theorem rP{a:Expr}(ha:QD X a f)(he:∀whole,isTrue a X.env whole=(do let v <-whole;standAt a.pos;holding [v] (truthy v)):=by intro _;rfl):QB X a (vY f):=⟨M6 ha.1 he⟩
theorem rX{f:aw->R Bool}(h:Nw X e f):QB X e f:=⟨JF.pb h.1⟩
theorem yq{f:aw->R Bool}(h:QB X a f):Nw X (.BoolOp .And [a] pos) f:=⟨HC h.1⟩
theorem uQ{f:aw->R Bool}(h:QB X a f):Nw X (.BoolOp .Or [a] pos) f:=⟨Kc h.1⟩
theorem Bh{rest:List Expr}{f g:aw->R Bool}(ha:QB X a f)(hb:Nw X (.BoolOp .And (b ::rest) pos) g):Nw X (.BoolOp .And (a ::b ::rest) pos) (wM f g):=⟨J9 ha.1 hb.1⟩
theorem yX{rest:List Expr}{f g:aw->R Bool}(ha:QB X a f)(hb:Nw X (.BoolOp .Or (b ::rest) pos) g):Nw X (.BoolOp .Or (a ::b ::rest) pos) (Jz f g):=⟨Oi ha.1 hb.1⟩
theorem D0{f:aw->R Bool}(ha:QB X a f):QB X (.UnaryOp .Not a pos) (HF f):=⟨Nc ha.1⟩
theorem KO{op}(h:QD X a f):QD X (.BoolOp op [a] pos) f:=⟨MS h.1⟩
theorem Oh{rest:List Expr}(ha:QD X a f)(hb:QD X (.BoolOp .Or (b ::rest) pos) g):QD X (.BoolOp .Or (a ::b ::rest) pos) (QL f g):=⟨Qr ha.1 hb.1⟩
theorem CM{fc:aw->R Bool}(hc:QB X c fc)(ha:QD X a f)(hb:QD X b g):QD X (.IfExp c a b pos) (M_ fc f g):=⟨Qe hc.1 ha.1 hb.1⟩
theorem bz{g:List D->R D}{id:String}{p pos:Pos}{fs:aw->R (List D)}(hc:dz X (.builtin id) g)(hg:Gl X x)(hm:X.mg x=none)(hv:bootBuiltins x=some (.builtin id))(ha:LZ X (e ::es) fs)(hn:x≠"__name__":=by decide)(qG:(x==("__debug__":Str))=false:=by decide)(he:starEach (e ::es) X.env=(false,eval e X.env) ::starEach es X.env:=by rfl)(m7:(backTo pos (starEach es X.env)).any (·.1)=false:=by rfl):QD X (.Call (.Name x p) (e ::es) [] pos) (bp g fs):=⟨GV hc hg hm hv ha.1 hn qG he m7⟩
theorem fF{g:List D->R D}{T:String}{p pos:Pos}{fs:aw->R (List D)}(hc:dz X (.type T) g)(hg:Gl X x)(hm:X.mg x=none)(hv:bootBuiltins x=some (.type T))(ha:LZ X (e ::es) fs)(hn:x≠"__name__":=by decide)(qG:(x==("__debug__":Str))=false:=by decide)(he:starEach (e ::es) X.env=(false,eval e X.env) ::starEach es X.env:=by rfl)(m7:(backTo pos (starEach es X.env)).any (·.1)=false:=by rfl):QD X (.Call (.Name x p) (e ::es) [] pos) (bp g fs):=⟨FY hc hg hm hv ha.1 hn qG he m7⟩
theorem jW:xk X [] zg:=⟨JS⟩
theorem cV{st:Stmt}{rest:List Stmt}{F G:FS}(h1:Mc X st F)(h2:xk X rest G):xk X (st ::rest) (k_ F G):=⟨IF h1.1 h2.1⟩
theorem bL{st:Stmt}{F:FS}(h1:Mc X st F):xk X [st] F:=⟨Le h1.1⟩
theorem vA{i:Nat}{pos pos':Pos}(hN:X.N.Nodup)(hi:X.N[i]? =some x)(hx:Loc X.env.scope x)(he:QD X e f)(hs:swapsWith e (some (.Name x pos')) pos.line X.env=pure false:=by rfl)(hf:X.fn x=true\/X.env.scope.names.lookup x=some .local:=by first | exact .inl rfl | exact .inr rfl | assumption):Mc X (.Assign [.Name x pos'] e pos) (AU i f):=⟨LB hN hi hx he.1 hs hf⟩
theorem AZ{i:Nat}{f:aw->R (List D)}{pos pos':Pos}(hN:X.N.Nodup)(hi:X.N[i]? =some x)(hx:Loc X.env.scope x)(he:QN X e f)(hs:swapsWith e (some (.Name x pos')) pos.line X.env=pure false:=by rfl)(hf:X.fn x=true\/X.env.scope.names.lookup x=some .local:=by first | exact .inl rfl | exact .inr rfl | assumption):Mc X (.Assign [.Name x pos'] e pos) (B5 i f):=⟨LC hN hi hx he.1 hs hf⟩
theorem Bd{i:Nat}{x:Str}{e:Expr}{f:FD}{gU apos cD pos:Pos}(hN:X.N[i]? =some x)(hv:JA X.env.scope x)(he:QD X e f)(hd:(x==("__debug__":Str))=false:=by decide)(uq:(x==("__classdict__":Str))=false:=by decide)(hs:starEach [e] X.env=(false,eval e X.env) ::starEach [] X.env:=by rfl)(o4:(apos.endLine==cD.line)=true:=by rfl)(wC:((backTo cD (starEach [e] X.env)).all (fun x=>!x.1) && (backToKw cD (keywordEach [] X.env)).all (fun x=>x.1.isSome)
 && decide (([e]:List Expr).length+([]:List Keyword).length+(if([]:List Keyword).isEmpty then 0 else 1) < 30))=true:=by rfl) (Ge:swapsWith (.Call (.Attribute (.Name x gU) "append" apos) [e] [] cD) none pos.line X.env=pure false:=by rfl) (o7:attributeBase (.Name x gU) "append" X.env (eval (.Name x gU) X.env)=eval (.Name x gU) X.env:=by rfl):Mc X (.Expr (.Call (.Attribute (.Name x gU) "append" apos) [e] [] cD) pos) (EL i f):=⟨KJ hN hv he.1 hd uq hs o4 wC Ge o7⟩
theorem zY(i:Nat){F:FS}(h:xk X Mr F):xk X Mr (ID i F):=⟨Kx i h.1⟩
theorem cw(he:QD X e f):Mc X (.Return (some e) pos) (jH f):=⟨K_ he.1⟩
theorem mC{fc:aw->R Bool}{F G:FS}(hc:QB X c fc)(ha:xk X a F)(hb:xk X b G):Mc X (.If c a b pos) (Fz fc F G):=⟨N6 hc.1 ha.1 hb.1⟩
theorem bx{i:Nat}{pos:Pos}(hN:X.N.Nodup)(hi:X.N[i]? =some x)(hx:Loc X.env.scope x)(hf:X.fn x=true\/X.env.scope.names.lookup x=some .local:=by first | exact .inl rfl | exact .inr rfl | assumption):PU X (.Name x pos) (bh i):=⟨Gy hN hi hx hf⟩
theorem pk:Lx X [] nF:=⟨G5⟩
theorem fj{u:Hd}(h1:PU X e t)(h2:Lx X es u)(hs:(assignEach (e ::es) X.env).map (·.2)=assign e X.env ::(assignEach es X.env).map (·.2):=by rfl):Lx X (e ::es) (d6 t u):=⟨EY h1.1 h2.1 hs⟩
theorem qW{k:Nat}{t:Hd}{n:Nat}{pos:Pos}(hc:X.calm=true)(h:Lx X es t)(hn:(assignEach es X.env).length=n:=by rfl)(Js:(assignEach es X.env).findIdx? (·.1)=none:=by rfl):PU X (.Tuple es k pos) (nL n t):=⟨Lm hc h.1 hn Js⟩
theorem bB(h:QD X e f):DA X tg e (cq f):=⟨Lo h.1⟩
theorem eu{tg a:Expr}{p pos:Pos}(h:QD X a f)(hg:Gl X "range")(hm:X.mg "range"=none)(hs:starEach [a] X.env=[(false,eval a X.env)]:=by rfl):DA X tg (.Call (.Name "range" p) [a] [] pos) (jm f):=⟨Ce h.1 hg hm hs⟩
theorem nR{it:aw->R (List D)}{F:FS}{pos:Pos}(hp:PassesOwn (model X.prog X.w) X.A X.env X.xe)(hc:X.calm=true)(hi:DA X tg iter it)(hg:PU X tg t)(hb:xk X body F)(hs:∀x,foldedSetIterable iter X.env x=pure x:=by intro _;rfl):Mc X (.For tg iter body [] pos) (yZ it t F):=⟨Lr hp hc hi.1 hg.1 hb.1 hs⟩
theorem di{own:List Str}{kp:List Nat}{kn:List Str}{it:aw->R (List D)}{c:aw->R Bool}{pos:Pos}(hc:X.calm=true)(C:bZ X scope own kp kn)(hi:DA X tg iter it)(hg:∀fp s H,PU (bX X scope (own++kn) fp s H) tg t)(Jo:∀fp s H,MR (bX X scope (own++kn) fp s H) ifs c)(he:∀fp s H,QD (bX X scope (own++kn) fp s H) elt f)(hs:∀x,foldedSetIterable iter X.env x=pure x:=by intro _;rfl):QN X (.ListComp elt [⟨tg,iter,ifs,0⟩] scope pos) (dM it t c f own kp):=⟨J3 hc C hi.1 (fun fp s H=>(hg fp s H).1) (fun fp s H=>(Jo fp s H).1) (fun fp s H=>(he fp s H).1) hs⟩
theorem gq:MR X [] sJ:=⟨GJ⟩
theorem i8{c:aw->R Bool}(h:QB X e c):MR X [e] c:=⟨JY h.1⟩
theorem aS(ha:QD X a fa)(hb:QD X b fb)(hs:uD b):QD X (.Subscript a b pos) (e2 cR fa fb):=⟨Pm ha.1 hb.1 hs⟩
theorem q_:QP X none vx:=⟨KL⟩
theorem rG(h:QD X e f):QP X (some e) (rM f):=⟨Kn h.1⟩
theorem CT{lo hi:Option Expr}{fl fh:FO}{p2 pos:Pos}(he:QD X e f)(hl:QP X lo fl)(hh:QP X hi fh):QD X (.Subscript e (.Slice lo hi none p2) pos) (NH f fl fh):=⟨Px he.1 hl.1 hh.1⟩
theorem jJ{elts:List Expr}{k:Nat}{wH:Pos}{p pos:Pos}(h:QD X a f)(hg:Gl X "enumerate")(hm:X.mg "enumerate"=none)(hs:starEach [a] X.env=[(false,eval a X.env)]:=by rfl):DA X (.Tuple elts k wH) (.Call (.Name "enumerate" p) [a] [] pos) (ig f):=⟨zQ h.1 hg hm hs⟩
theorem du{P:Program}{w:World}{K:W.Frag}{mg:ZE}{base:Heap}{x qual:Str}{st:Stmt}{f:Addr}{fd:FuncData}{N ps:List Str}{k:Nat}{F:FS}{b:List Stmt}{sc:Scope}(hb:aO st=b)(hs:az st=sc)(Fn:DP K x qual st f fd)(S:a_ N ps sc)(mv:∀(dU:Value) (A:Around) (outer:List Env) (s:Shared) (H:Hp) (E:XK),eU k (A.deeper (envOfC qual sc s.heap.objs.size f dU))->
 xk (wm wI P w K mg base N qual sc f dU A outer s H E).Kg b F):jl P w K mg base wI (k+1) f fd ps (IE K ps.length (xY N F)):=G2 hb hs Fn S (fun dU A outer s H E hr=>(mv dU A outer s H E hr).1)
theorem cz{g:List D->R D}{k j n:Nat}{p pos:Pos}{fs:aw->R (List D)}(C:Callee X.prog X.w X.K X.mg X.base k x n g)(hr:eU j X.A)(Jt:k<=j)(hg:Gl X x)(ha:LZ X (e ::es) fs)(hn:∀δ ds,fs δ= .ok ds->ds.length=n)(qG:(x==("__debug__":Str))=false:=by decide)(he:starEach (e ::es) X.env=(false,eval e X.env) ::starEach es X.env:=by rfl)(m7:(backTo pos (starEach es X.env)).any (·.1)=false:=by rfl):QD X (.Call (.Name x p) (e ::es) [] pos) (bp g fs):=⟨Hf C hr Jt hg ha.1 hn qG he m7⟩
theorem Lv{keys:List (Option Expr)}{values:List Expr}{BD:List (TE × TE)}{kvs:List (Key × V)}(hu:X.A.units+1 < cLine)(h:O4 X zC keys values BD)(uo:keys.all (·.isSome)=true)(hl:keys.length=values.length)(h0:keys≠[])(hc:∀σ H Q,Q (kvs.map fun kv=>(kV kv.1,kv.2)) H->vD BD σ H Q)(hlen:kvs.length<=15)(he:QD X e fe)(hf:QD X f ff)(m:M2 X (.Dict keys values zC) "get" apos e f cD)(hd:PE X (.Dict keys values zC) (IA BD)):QD X (.Call (.Attribute (.Dict keys values zC) "get" apos) [e,f] [] cD) (Nr kvs fe ff):=⟨ME hu h uo hl h0 hc hlen he.1 hf.1 m hd⟩
end
end L2
end
section
namespace L2
open PySem PySem.Spec PyProof.Rows
theorem FF{P:Program}{w:World}{K:W.Frag}{mg mb:ZE}{CX:IB}{k:Nat}{fa a:Addr}{fd:FuncData}{x:Str}{sp:Sp}{s₁:Shared}{vs:List Value}{ns:List Int}
 (KX:K.In s₁.heap) (V7:s₁.heap.Ns mainGlobals mg) (hb:s₁.heap.Ns builtinsNs mb) (Xt:∀x:Str,x≠"__name__"->mb x=bootBuiltins x) (Uy:s₁.heap.NoLimit) (hg:s₁.gens=#[])
 (ha:s₁.heap.get? a=some {cls:= .type "list",data:= .seq vs.toArray}) (hi:IntsAre vs ns) (hl:ns.length<=sizeLine) (hr:eU k callerA)
 (F:∀base:Heap,K.In base->base.Ns mainGlobals mg->jl P w K mg base CX k fa fd [x] sp) (Rf:∀(s:Shared) (u:Value),BindsTo s fd ⟨[u],[]⟩ [(x,u)])
 (Pc:∀H:Hp,QE H->uZ K [] H a (ns.map V.int)->sp [.ref a] H (fun v _=>v= .bl true) fun _ _ _=>False)
 (Yi:∀H e s',CX [] H s₁ (fun _ _ _=>False) e s'->False) :
 codeAny (model P w) callerA (.call (.ref fa) ⟨[.ref a],[]⟩) (fun r s'=>r= .ok (.ret (.bool true))/\OldK s₁.heap s'.heap/\s'.os=s₁.os/\AllBare s'.gens) s₁:=by
 have rv:=xv hi;have lenV:=hi.length;have core:∀H:Hp,QE H->uZ K [] H a (ns.map V.int)->pF P w H s₁.heap->(∀b,H b≠none->b=a)->(H a≠none->K.lookup a=none)->
  codeAny (model P w) callerA (.call (.ref fa) ⟨[.ref a],[]⟩) (fun r s'=>r= .ok (.ret (.bool true))/\OldK s₁.heap s'.heap/\s'.os=s₁.os/\AllBare s'.gens) s₁:=by
  intro H hO hS hok hA hK;have EK:∀{b:Addr} {o:Obj},s₁.heap.get? b=some o->H b=none->(zh s₁.heap H).get? b=some o:=fun e n=>HS e n
  have noA:∀{b:Addr} {o:Obj} {es:Array DictEntry} {ep:Nat},s₁.heap.get? b=some o->o.data= .dict es ep->H b=none:=fun {b o es ep} e d=>by
   cases q:H b with
   | none=>rfl
   | some u=>
     have e':b=a:=hA b (by rw[q];simp)
     subst e';rw[ha] at e;cases e;have d':Data.seq vs.toArray _=Data.dict es ep:=d;cases d'
  have nsK:∀{b:Addr} {m:ZE},s₁.heap.Ns b m->(zh s₁.heap H).Ns b m:=fun {b m} ⟨o,es,ep,e,d,r⟩=>⟨o,es,ep,EK e (noA e d),d,r⟩
  have hKb:K.In (zh s₁.heap H):=fun b o e=>EK (KX b o e) (by
   cases q:H b with
   | none=>rfl
   | some u=>
     have e':b=a:=hA b (by rw[q];simp)
     subst e';rw[hK (by rw[q];simp)] at e;cases e)
  have hM:Mod K mg (zh s₁.heap H):=⟨hKb,nsK V7,⟨mb,nsK hb,Xt⟩,let⟨mc,h1,h2⟩:=Uy;⟨mc,nsK h1,h2⟩⟩
  have e0:CW P w K mg (zh s₁.heap H) callerA [] s₁ H:=⟨rfl,hM,fun b o e=>K4 e,Nat.le_of_eq (Fi _ _),trivial,fun b hb=>absurd (show b∈([]:List Addr) from hb) (by simp),hok, .of_eq hg⟩
  refine codeAny_mono ((F _ hKb (nsK V7)).run callerA [] s₁ H ⟨[.ref a],[]⟩ [.ref a] [.ref a] _ _ hr e0 (Rf s₁ (.ref a)) (.cons rfl .nil) (Pc H hO hS)) fun r s' h=>?_
  cases r with
  | error e=>exact(Yi H e s' h).elim
  | ok fl=>
    cases fl with
    | next=>exact False.elim h
    | brk=>exact False.elim h
    | cont=>exact False.elim h
    | ret u=>
      obtain⟨v,H',os,bare,un,Uh,r',q⟩:=h;have q':v= .bl true:=q;subst q';obtain rfl:u=Value.bool true:=r';refine⟨rfl,OldK.of_keep fun b o e=>?_,os,bare⟩
      cases q:H b with
      | none=>exact un.keep b o e q (by intro z;exact absurd (show b∈([]:List Addr) from z) (by simp)) (by simp)
      | some u=>
        rcases hO b with z | ⟨ob,xs,z⟩
        .rw [q] at z;cases z
        .have z2:=un.frzs b ob _ z;obtain⟨e1,_⟩:=hok b _ z;obtain⟨e2,_⟩:=Uh b _ z2;rw[e] at e1;cases e1;exact e2
 cases hk:K.lookup a with
 | some o=>
   have e:=KX a o hk;rw[ha] at e;cases e;refine core (fun _=>none) (fun _=> .inl rfl) (.inr ⟨vs,_,hk,by rw[List.length_map];exact hl,rv⟩) (fun b u z=>by have z':(none:Option HO)=some u:=z;cases z') (fun b z=>absurd rfl z) fun z=>absurd rfl z
 | none=>
   refine core (fun b=>if b=a then some (.hV {cls:= .type "list",data:= .seq vs.toArray} (.lst (ns.map V.int))) else none) (fun b=>?_) (.inl ⟨by simp, .inr ⟨{cls:= .type "list",data:= .seq vs.toArray},if_pos rfl⟩⟩) (fun b u z=>?_) (fun b z=>?_) fun _=>hk
   .by_cases hb:b=a
    .exact .inr ⟨_,_,if_pos hb⟩
    .exact .inl (if_neg hb)
   .by_cases hb:b=a
    .have z':=(if_pos hb).symm.trans z;cases z';subst hb;exact⟨ha,by rw[List.length_map];exact hl,vs,_,rv,ha⟩
    .have z':=(if_neg hb).symm.trans z;cases z'
   .by_cases hb:b=a
    .exact hb
    .exact absurd (if_neg hb) z
theorem ints_rep{K:W.Frag}{B:List Addr}:∀ns:List Int,aD K B H (ns.map D.int) (ns.map V.int)
 | []=>aD.nil
 | n ::ns=>aD.cons (Rep.int.mpr rfl) (ints_rep ns)
theorem Qa{l:PySem.W.OpenLaw}{n k:Nat}{q:Program}{loose:List Str}{XP:(Str->Option Value)->Heap->Prop}{YP:World->Heap->Prop}{d:DefRec}{K:Params->W.Frag}{x:Str}{g:List D->R D}
 (hn:l.most=some n) (R9:n<=sizeLine) (T5:d.params.defaults=[]) (hr:eU k callerA) (hY:∀(w:World) (h:Heap),YP w h->(K w.params).In h)
 (F:∀(w:World) (mg:ZE) (fa:Addr) (h:Heap),(K w.params).In h->h.Ns mainGlobals mg->mg d.name=some (.ref fa)->
   ∃fd:FuncData,(∀(s:Shared) (u:Value),BindsTo s fd ⟨[u],[]⟩ [(x,u)])/\∀base:Heap,(K w.params).In base->base.Ns mainGlobals mg->jl l.prog w (K w.params) mg base wI k fa fd [x] (IE (K w.params) 1 g))
 (hg:∀ns:List Int,ns.length<=n->g [.lst (ns.map D.int)]= .ok (.bl true)):PySem.W.WalkO q loose XP YP l.row.toRowW d [] (fun f vs=>PySem.call f vs):=by
 refine Att.Ba hn T5 fun w s₀ s₁ mg mb fa o pm cd doc a vs ns G Y ho hd uq Ra OJ hints hlen UY=>?_
 have KX:=hY w _ Y;obtain⟨fd,hb,hF⟩:=F w mg fa _ KX G.T.g Ra;refine FF KX G.T.g G.T.b G.T.builtins G.T.nolimit UY OJ hints (Nat.le_trans hlen R9) hr hF hb (fun H hO hS=>?_) fun H e s' h=>h
 refine⟨rfl,[],[.lst (ns.map D.int)], .bl true,fun b hb=>(by cases hb),aD.cons (Rep.lst.mpr ⟨_,_,rfl,hS,ints_rep ns⟩) aD.nil,hg ns hlen,fun z H' _ r=>Rep.bl.mp r⟩
theorem cn{K:W.Frag}{h:Heap}{mg:ZE}{x:Str}{st:Stmt}{f:Addr}{oc:Value}{od an:Option Addr}{JH:Array (Option Value)}{kV doc pm dU ct:Value}(X:K.In h)(G:h.Ns mainGlobals mg)(a:PySem.W.nsIn K mainGlobals x=some (some (.ref f)))
 (l:K.lookup f=some ⟨oc,od, .func (PySem.W.fnOf x x (gM st) (aO st) (az st) .none kV doc pm an dU ct),JH⟩) (c:PySem.W.codeIn K dU x=true) (k:PySem.W.keepIn K (.ref f)=true):Def K mg x st:=
 ⟨f,_,qf l c k,PySem.W.mg_of X G a⟩
end L2
end
section
namespace L2
open PySem PySem.Spec PyProof.Rows
theorem uX{t:FT}{body:FS}:∀(ds:List D) (n:Nat) (P:Nat->aw->Prop) {δ:aw},P n δ->
 (∀i d δ,ds[i]? =some d->P (n+i) δ->∃ei,((t d δ).bind body)= .ok (.nx ei)/\P (n+i+1) ei)->∃ei,pT t body ds δ= .ok (.nx ei)/\P (n+ds.length) ei
 | [],n,P,δ,h0,_=>⟨δ,rfl,h0⟩
 | d ::ds,n,P,δ,h0,hs=>by
   obtain⟨c_,e1,p1⟩:=hs 0 d δ rfl h0;obtain⟨cK,e2,p2⟩:=uX ds (n+1) P p1 (fun i d' ei hi hp=>by
    have:=hs (i+1) d' ei (by simpa using hi) (by rw[show n+(i+1)=n+1+i by omega];exact hp)
    rw[show n+(i+1)+1=n+1+i+1 by omega] at this
    exact this)
   refine⟨cK,?_,by rw[List.length_cons,show n+(ds.length+1)=n+1+ds.length by omega];exact p2⟩
   obtain⟨Zl,h1,h2⟩:=R.ak e1;show(t d δ).bind (fun c_=>(body c_).bind fun o=>match o with | .nx cK=>pT t body ds cK | .rt r=> .ok (.rt r))=_
   rw[h1,R.aT,h2,R.aT];exact e2
theorem px{t:FT}{body:FS}{ds:List D}(P:Nat->aw->Prop){δ:aw}(h0:P 0 δ)
 (hs:∀i d δ,ds[i]? =some d->P i δ->∃ei,((t d δ).bind body)= .ok (.nx ei)/\P (i+1) ei):∃ei,pT t body ds δ= .ok (.nx ei)/\P ds.length ei:=by
 have:=uX (t:=t) (body:=body) ds 0 P h0 (fun i d δ hi hp=>by simpa using hs i d δ hi (by simpa using hp))
 simpa using this
theorem vB{α:Type} [DecidableEq α]:∀(L F:List α),L.Nodup->(∀x∈L,x∈F)->L.length<=F.length
 | [],_,_,_=>Nat.zero_le _
 | x ::L,F,hn,hs=>by
   obtain⟨h1,h2⟩:=List.nodup_cons.mp hn;have hx:x∈F:=hs x List.mem_cons_self;have ih:=vB L (F.erase x) h2 (fun y hy=>(List.mem_erase_of_ne (fun(e:y=x)=>h1 (by rw[<-e];exact hy))).mpr (hs y (List.mem_cons_of_mem _ hy)))
   rw[List.length_erase_of_mem hx] at ih;have:0 < F.length:=List.length_pos_of_mem hx;rw[List.length_cons];omega
theorem nP{α:Type}{xs:List α}{i:Int}(h0:0<=i)(h:i.toNat < xs.length):sU xs i=some xs[i.toNat]:=by
 unfold sU Ai;rw[if_pos h0,if_pos (by omega)]
 simp [h]
theorem ints_map:∀ss:List Int,ints? (ss.map D.int)=some ss
 | []=>rfl
 | s ::ss=>by show(ints? (ss.map D.int)).map (s ::·)=_;rw [ints_map ss];rfl
theorem cG{F G:FS}{δ c_:aw}{r:R Out}(h:F δ= .ok (.nx c_))(h2:G c_=r):k_ F G δ=r:=by unfold k_;rw [h,R.aT];exact h2
theorem dI{f:aw->R (List D)}{δ:aw}{ds:List D}(h:f δ= .ok ds):eNew f δ= .ok (.lst ds):=by unfold eNew;rw [h];rfl
theorem uT{c:aw->R Bool}{F G:FS}{δ:aw}{r:R Out}(h:c δ= .ok true)(h2:F δ=r):Fz c F G δ=r:=by unfold Fz;rw [h,R.aT,if_pos rfl];exact h2
theorem kP{c:aw->R Bool}{F G:FS}{δ:aw}{r:R Out}(h:c δ= .ok false)(h2:G δ=r):Fz c F G δ=r:=by unfold Fz;rw [h,R.aT,if_neg (by decide)];exact h2
theorem pq{it:aw->R (List D)}{F:FS}{δ:aw}{ds:List D}{r:R Out}(h:it δ= .ok ds)(h2:pT t F ds δ=r):yZ it t F δ=r:=by unfold yZ;rw [h,R.aT];exact h2
theorem cM{f:FD}{δ:aw}{d:D}(h:f δ= .ok d):jH f δ= .ok (.rt d):=by unfold jH;rw [h];rfl
theorem d3{N:List Str}{F:FS}{ds:List D}{d:D}(h:F (gL N ds)= .ok (.rt d)):xY N F ds= .ok d:=by unfold xY;rw [h];rfl
theorem cN{α:Type}{p:Prop} [Decidable p](r:R α)(h:p):R.bW (decide p) r=r:=by rw[decide_eq_true h];rfl
theorem uz{i:Nat}{f:FD}{δ:aw}{d:D}(h:f δ= .ok d)(hi:i < δ.length):AU i f δ= .ok (.nx (δ.set i (.val d))):=by unfold AU;rw [h,R.aT,cN _ hi]
theorem Dq{i:Nat}{f:aw->R (List D)}{δ:aw}{ds:List D}(h:f δ= .ok ds)(hi:i < δ.length):B5 i f δ= .ok (.nx (δ.set i (.bld ds))):=by unfold B5;rw [h,R.aT,cN _ hi]
theorem Ds{i:Nat}{f:FD}{δ:aw}{d:D}{ds:List D}(h:f δ= .ok d)(hb:δ[i]? =some (.bld ds))(hl:ds.length < sizeLine):EL i f δ= .ok (.nx (δ.set i (.bld (ds++[d])))):=by unfold EL x6;rw [h,R.aT,hb];show R.bW _ _=_;rw [cN _ hl]
theorem dh{it:aw->R (List D)}{c:aw->R Bool}{own:List Str}{kp:List Nat}{δ:aw}{ds ys:List D}(h1:it δ= .ok ds)(h2:ds.length<=sizeLine)(h3:rH t c f (t9 own kp δ) ds= .ok ys):dM it t c f own kp δ= .ok ys:=by unfold dM;rw [h1,R.aT,cN _ h2,h3]
theorem sx{ds:List D}{i:Int}{d:D}(h:sU ds i=some d):cR (.lst ds) (.int i)= .ok d:=by unfold cR;simp only[h]
theorem vR{ds:List D}{i:Int}{d:D}(h:sU ds i=some d):cR (.tup ds) (.int i)= .ok d:=by unfold cR;simp only[h]
end L2
end
section
namespace L2
open PySem PySem.Spec PyProof.Rows
theorem aH{g:D->D->R D}{fa fb:FD}{δ:aw}{a b:D}{r:R D}(ha:fa δ= .ok a)(hb:fb δ= .ok b)(h:g a b=r):e2 g fa fb δ=r:=by unfold e2;rw [ha,R.aT,hb,R.aT];exact h
theorem dA{g:D->D->R D}{fa fb:FD}{δ:aw}{a b:D}{k:Bool}(ha:fa δ= .ok a)(hb:fb δ= .ok b)(h:g a b= .ok (.bl k)):b2 g fa fb δ= .ok k:=by unfold b2;rw [aH ha hb h];rfl
theorem aV{f:FD}{g:aw->R (List D)}{δ:aw}{d:D}{ds:List D}(h:f δ= .ok d)(h2:g δ= .ok ds):av f g δ= .ok (d ::ds):=by unfold av;rw [h,R.aT,h2];rfl
theorem aX{g:List D->R D}{fs:aw->R (List D)}{δ:aw}{ds:List D}{r:R D}(h:fs δ= .ok ds)(h2:g ds=r):bp g fs δ=r:=by unfold bp;rw [h,R.aT];exact h2
theorem cX{g:aw->R (List D)}{δ:aw}{ds:List D}(h:g δ= .ok ds)(hl:ds.length<=sizeLine):eT g δ= .ok (.tup ds):=by unfold eT;rw [h,R.aT,cN _ hl]
theorem pd{g:aw->R (List D)}{δ:aw}{ds:List D}(h:g δ= .ok ds)(hl:ds.length<=sizeLine):dy g δ= .ok ds:=by unfold dy;rw [h,R.aT,cN _ hl]
theorem C_{f:FD}{fl fh:FO}{δ:aw}{d:D}{lo hi:Option Int}{r:R D}(h:f δ= .ok d)(h1:fl δ= .ok lo)(h2:fh δ= .ok hi)(h3:Q4 d lo hi=r):NH f fl fh δ=r:=by unfold NH;rw [h,R.aT,h1,R.aT,h2,R.aT];exact h3
theorem G6{f:FD}{δ:aw}{i:Int}(h:f δ= .ok (.int i)):rM f δ= .ok (some i):=by unfold rM;rw [h];rfl
theorem C8{a b:Int}(h:0 < b):wR (.int a) (.int b)= .ok (.int (a % b)):=by unfold wR zZ;exact cN _ h
theorem K3{a b:Int}(h:0 < b)(h2:b < 1073741824):Bg (.int a) (.int b)= .ok (.int (a / b)):=by unfold Bg zZ;exact cN _ ⟨h,h2⟩
theorem kW{f:FD}{δ:aw}{n:Nat}(h:f δ= .ok (.int n))(hn:n < 1000000):jm f δ= .ok (eM 0 n):=by
 unfold jm;rw [h,R.aT];show R.bW (decide (-(2 ^ 62)<=(n:Int)/\(n:Int) < 2 ^ 62)) _=_;rw[cN _ ⟨by omega,by omega⟩,Int.toNat_natCast]
theorem eE{f:FD}{δ:aw}{ds:List D}(h:f δ= .ok (.lst ds)):cq f δ= .ok ds:=by unfold cq;rw [h];rfl
theorem nT{f:FD}{δ:aw}{ds:List D}(h:f δ= .ok (.tup ds)):cq f δ= .ok ds:=by unfold cq;rw [h];rfl
theorem IQ{f:FD}{δ:aw}{ds:List D}(h:f δ= .ok (.lst ds)):ig f δ= .ok (cB ds):=by unfold ig;rw [h];rfl
theorem MD{f:FD}{δ:aw}{b:Bool}(h:f δ= .ok (.bl b)):O3 f δ= .ok b:=by unfold O3;rw [h];rfl
theorem vO(ds:List D):iE [.lst ds]= .ok (.int ds.length):=rfl
end L2
end
section
namespace L3
open PySem PySem.Spec PyProof.Rows L2
inductive V3 where
 | d (x:D) | loc (k:Nat) | lst (vs:List V3) | tup (vs:List V3)
inductive SO where
 | lst (ds:List D) | dct (kvs:List (Key × D)) | ins (c:Nat) (fs:List (Str × V3)) | hV
abbrev aF:=List SO
inductive R3 (α:Type) where
 | ok (a:α) (S:aF) | ex (c:Nat) (S:aF) | no
def R3.bind{α β:Type}:R3 α->(α->aF->R3 β)->R3 β
 | .ok a S,f=>f a S
 | .ex c S,_=> .ex c S
 | .no,_=> .no
theorem R3.ak{α β:Type}{r:R3 α}{f:α->aF->R3 β}{b:β}{S':aF}(h:r.bind f= .ok b S'):∃a S,r= .ok a S/\f a S= .ok b S':=by
 cases r with
 | ok a S=>exact⟨a,S,rfl,h⟩
 | ex c S=>cases h
 | no=>cases h
@[simp] theorem R3.aT{α β:Type}(a:α)(S:aF)(f:α->aF->R3 β):(R3.ok a S).bind f=f a S:=rfl
def R3.bW{α:Type}(c:Bool)(r:R3 α):R3 α:=if c then r else .no
theorem R3.bf{α:Type}{c:Bool}{r:R3 α}{a:α}{S:aF}(h:R3.bW c r= .ok a S):c=true/\r= .ok a S:=by
 cases c with
 | true=>exact⟨rfl,h⟩
 | false=>cases h
def R3.of{α:Type}(r:R α)(S:aF):R3 α:=match r with | .ok a=> .ok a S | _=> .no
theorem R3.of_ok{α:Type}{r:R α}{S S':aF}{a:α}(h:R3.of r S= .ok a S'):r= .ok a/\S'=S:=by
 cases r with
 | ok b=>cases h;exact⟨rfl,rfl⟩
 | ex c=>cases h
 | no=>cases h
structure P3 where
 r:List Addr
 z:List Addr
 f:List Addr
def P3.b(ρ:P3):List Addr:=ρ.r.filter (fun a=>!ρ.f.contains a)++ρ.z
theorem P3.et{ρ:P3}{a:Addr}:a∈ρ.b↔(a∈ρ.r/\a ∉ ρ.f)\/a∈ρ.z:=by
 unfold P3.b;rw[List.mem_append,List.mem_filter];simp
def P3.push(ρ:P3)(a:Addr):P3:=⟨ρ.r++[a],ρ.z,ρ.f⟩
def P3.cut(ρ:P3)(n:Nat):P3:=⟨ρ.r.take n,ρ.z,ρ.f⟩
mutual
def bc(K:W.Frag)(ρ:P3)(H:Hp):V3->V->Prop
 | .d x,v=>Rep K ρ.b H x v
 | .loc k,v=>∃a,ρ.r[k]? =some a/\v= .ref a
 | .lst vs,v=>∃a xs,v= .ref a/\uZ K ρ.b H a xs/\aJ K ρ H vs xs
 | .tup vs,v=>∃a xs,v= .ref a/\xZ K ρ.b H a xs/\aJ K ρ H vs xs
def aJ(K:W.Frag)(ρ:P3)(H:Hp):List V3->List V->Prop
 | [],xs=>xs=[]
 | d ::ds,xs=>∃x r,xs=x ::r/\bc K ρ H d x/\aJ K ρ H ds r
end
structure Pre (ρ:P3) (H:Hp) (cS:P3) (H':Hp):Prop where
 bt:dX ρ.b H cS.b H'
 zz:cS.z=ρ.z
 zs:∀(b:Addr) (o:HO),b∈ρ.z->H b=some o->H' b=some o
 ext:∀(k:Nat) (a:Addr),ρ.r[k]? =some a->cS.r[k]? =some a
theorem Pre.refl(ρ:P3)(H:Hp):Pre ρ H ρ H:=⟨dX.refl ρ.b H,rfl,fun _ _ _ h=>h,fun _ _ h=>h⟩
theorem Pre.trans(a:Pre ρ H cS H')(b:Pre cS H' Jl o3):Pre ρ H Jl o3:=⟨a.bt.trans b.bt,b.zz.trans a.zz,fun c o hc h=>b.zs c o (by rw[a.zz];exact hc) (a.zs c o hc h),fun k x h=>b.ext k x (a.ext k x h)⟩
theorem Pre.same(s:bb H H'):Pre ρ H ρ H':=⟨dX.same s,rfl,fun b o _ h=>s b o h,fun _ _ h=>h⟩
theorem xZ.bt{K:W.Frag}{B B':List Addr}(p:dX B H B' H'){a:Addr}{xs:List V}(l:xZ K B H a xs):xZ K B' H' a xs:=
 l.elim (fun z=> .inl ⟨(p.rd z.2 z.1).2,(p.rd z.2 z.1).1⟩) .inr
mutual
theorem bc.pre{K:W.Frag}(p:Pre ρ H cS H'):∀{d:V3} {v:V},bc K ρ H d v->bc K cS H' d v
 | .d x,v,h=>by unfold bc at h ⊢;exact h.bt p.bt
 | .loc k,v,h=>by unfold bc at h ⊢;obtain⟨a,h1,h2⟩:=h;exact⟨a,p.ext k a h1,h2⟩
 | .lst vs,v,h=>by unfold bc at h ⊢;obtain⟨a,xs,e,l,r⟩:=h;exact⟨a,xs,e,l.bt p.bt,aJ.pre p r⟩
 | .tup vs,v,h=>by unfold bc at h ⊢;obtain⟨a,xs,e,l,r⟩:=h;exact⟨a,xs,e,xZ.bt p.bt l,aJ.pre p r⟩
theorem aJ.pre{K:W.Frag}(p:Pre ρ H cS H'):∀{ds:List V3} {xs:List V},aJ K ρ H ds xs->aJ K cS H' ds xs
 | [],_,h=>by unfold aJ at h ⊢;exact h
 | d ::ds,xs,h=>by
   unfold aJ at h ⊢;obtain⟨x,r,e,h1,h2⟩:=h;exact⟨x,r,e,bc.pre p h1,aJ.pre p h2⟩
end
structure PW (ρ:P3) (H:Hp) (cS:P3) (H':Hp):Prop where
 bt:dX ρ.b H cS.b H'
 ext:∀(k:Nat) (a:Addr),ρ.r[k]? =some a->cS.r[k]? =some a
theorem Pre.pw(p:Pre ρ H cS H'):PW ρ H cS H':=⟨p.bt,p.ext⟩
theorem PW.trans(a:PW ρ H cS H')(b:PW cS H' Jl o3):PW ρ H Jl o3:=⟨a.bt.trans b.bt,fun k x h=>b.ext k x (a.ext k x h)⟩
mutual
theorem bc.pw{K:W.Frag}(p:PW ρ H cS H'):∀{d:V3} {v:V},bc K ρ H d v->bc K cS H' d v
 | .d x,v,h=>by unfold bc at h ⊢;exact h.bt p.bt
 | .loc k,v,h=>by unfold bc at h ⊢;obtain⟨a,h1,h2⟩:=h;exact⟨a,p.ext k a h1,h2⟩
 | .lst vs,v,h=>by unfold bc at h ⊢;obtain⟨a,xs,e,l,r⟩:=h;exact⟨a,xs,e,l.bt p.bt,aJ.pw p r⟩
 | .tup vs,v,h=>by unfold bc at h ⊢;obtain⟨a,xs,e,l,r⟩:=h;exact⟨a,xs,e,xZ.bt p.bt l,aJ.pw p r⟩
theorem aJ.pw{K:W.Frag}(p:PW ρ H cS H'):∀{ds:List V3} {xs:List V},aJ K ρ H ds xs->aJ K cS H' ds xs
 | [],_,h=>by unfold aJ at h ⊢;exact h
 | d ::ds,xs,h=>by
   unfold aJ at h ⊢;obtain⟨x,r,e,h1,h2⟩:=h;exact⟨x,r,e,bc.pw p h1,aJ.pw p h2⟩
end
theorem aJ.nil{K:W.Frag}:aJ K ρ H [] []:=by unfold aJ;rfl
theorem aJ.cons{K:W.Frag}{d:V3}{ds:List V3}{x:V}{xs:List V}(h:bc K ρ H d x)(t:aJ K ρ H ds xs):aJ K ρ H (d ::ds) (x ::xs):=by
 unfold aJ;exact⟨x,xs,rfl,h,t⟩
theorem aJ.cu{K:W.Frag}{d:V3}{ds:List V3}{xs:List V}(h:aJ K ρ H (d ::ds) xs):∃x r,xs=x ::r/\bc K ρ H d x/\aJ K ρ H ds r:=by
 unfold aJ at h;exact h
theorem aJ.length{K:W.Frag}:∀{ds:List V3} {xs:List V},aJ K ρ H ds xs->ds.length=xs.length
 | [],_,h=>by unfold aJ at h;rw [h];rfl
 | d ::ds,xs,h=>by
   obtain⟨x,r,rfl,_,h2⟩:=h.cu;simp [h2.length]
theorem aJ.of{K:W.Frag}{ρ:P3}:∀{ds:List D} {xs:List V},aD K ρ.b H ds xs->aJ K ρ H (ds.map .d) xs
 | [],_,h=>by unfold aD at h;subst h;exact aJ.nil
 | d ::ds,xs,h=>by
   obtain⟨x,r,rfl,h1,h2⟩:=h.cu;exact aJ.cons (by unfold bc;exact h1) (aJ.of h2)
theorem aJ.to{K:W.Frag}{ρ:P3}:∀{ds:List D} {xs:List V},aJ K ρ H (ds.map .d) xs->aD K ρ.b H ds xs
 | [],_,h=>by unfold aJ at h;subst h;exact aD.nil
 | d ::ds,xs,h=>by
   obtain⟨x,r,rfl,h1,h2⟩:=aJ.cu h;unfold bc at h1;exact aD.cons h1 (aJ.to h2)
def Ig(K:W.Frag)(cl:ZF)(ρ:P3)(H:Hp):SO->Option HO->Prop
 | .lst ds,h=>∃xs,h=some (.lst xs)/\aD K ρ.b H ds xs
 | .dct kvs,h=>∃ys,h=some (.dK ys)/\ys.map (·.1)=kvs.map (·.1)/\aD K ρ.b H (kvs.map (·.2)) (ys.map (·.2))
 | .ins c fs,h=>∃dx ys,h=some (.ins (cl c) dx ys)/\ys.map (·.1)=fs.map (·.1)/\aJ K ρ H (fs.map (·.2)) (ys.map (·.2))
 | .hV,h=>∃u,h=some u
theorem Ig.pre{K:W.Frag}{cl:ZF}(p:Pre ρ H cS H'){o:SO}{h:Option HO}(r:Ig K cl ρ H o h):Ig K cl cS H' o h:=by
 cases o with
 | lst ds=>obtain⟨xs,e,q⟩:=r;exact⟨xs,e,q.bt p.bt⟩
 | dct kvs=>obtain⟨ys,e,e2,q⟩:=r;exact⟨ys,e,e2,q.bt p.bt⟩
 | ins c fs=>obtain⟨dx,ys,e,e2,q⟩:=r;exact⟨dx,ys,e,e2,q.pre p⟩
 | hV=>exact r
theorem Ig.pw{K:W.Frag}{cl:ZF}(p:PW ρ H cS H'){o:SO}{h:Option HO}(r:Ig K cl ρ H o h):Ig K cl cS H' o h:=by
 cases o with
 | lst ds=>obtain⟨xs,e,q⟩:=r;exact⟨xs,e,q.bt p.bt⟩
 | dct kvs=>obtain⟨ys,e,e2,q⟩:=r;exact⟨ys,e,e2,q.bt p.bt⟩
 | ins c fs=>obtain⟨dx,ys,e,e2,q⟩:=r;exact⟨dx,ys,e,e2,q.pw p⟩
 | hV=>exact r
theorem Ig.some{K:W.Frag}{cl:ZF}{o:SO}{h:Option HO}(r:Ig K cl ρ H o h):∃u,h=some u:=by
 cases o with
 | lst ds=>obtain⟨xs,e,q⟩:=r;exact⟨_,e⟩
 | dct kvs=>obtain⟨ys,e,e2,q⟩:=r;exact⟨_,e⟩
 | ins c fs=>obtain⟨dx,ys,e,e2,q⟩:=r;exact⟨_,e⟩
 | hV=>exact r
structure SW (K:W.Frag) (cl:ZF) (ρ:P3) (H:Hp) (S:aF):Prop where
 len:ρ.r.length=S.length
 nd:∀(i j:Nat) (a:Addr),ρ.r[i]? =some a->ρ.r[j]? =some a->i=j
 ob:∀(k:Nat) (a:Addr) (o:SO),ρ.r[k]? =some a->S[k]? =some o->Ig K cl ρ H o (H a)
 zb:∀b∈ρ.z,(∃xs,H b=some (.lst xs))/\b ∉ ρ.r
 fz:∀(k:Nat) (a:Addr),ρ.r[k]? =some a->S[k]?≠some .hV->a ∉ ρ.f
 ff:∀a∈ρ.f,∃o,H a=some o
 fi:∀(k:Nat) (a:Addr),ρ.r[k]? =some a->S[k]? =some .hV->a∈ρ.f
theorem SW.rs{K:W.Frag}{cl:ZF}{ρ:P3}{H:Hp}{S:aF}(w:SW K cl ρ H S):∀a∈ρ.r,∃o,H a=some o:=fun a z=>by
 obtain⟨k,hk⟩:=List.getElem?_of_mem z;have hl:=(List.getElem?_eq_some_iff.mp hk).1;exact(w.ob k a _ hk (List.getElem?_eq_getElem (by rw[<-w.len];exact hl))).some
theorem SW.bs{K:W.Frag}{cl:ZF}{ρ:P3}{H:Hp}{S:aF}(w:SW K cl ρ H S):∀a∈ρ.b,∃o,H a=some o:=fun a ha=>by
 rcases P3.et.mp ha with z | z
 .exact w.rs a z.1
 .obtain⟨xs,h⟩:=(w.zb a z).1;exact⟨_,h⟩
theorem SW.same{K:W.Frag}{cl:ZF}{S:aF}(w:SW K cl ρ H S)(s:bb H H'):SW K cl ρ H' S:=
 ⟨w.len,w.nd,fun k a o h1 h2=>by
   have r:=w.ob k a o h1 h2;obtain⟨u,hu⟩:=r.some;rw[s a u hu,<-hu];exact r.pre (Pre.same s),fun b hb=>let⟨⟨o,ho⟩,n⟩:=w.zb b hb;⟨⟨o,s b _ ho⟩,n⟩,w.fz,fun a ha=>let⟨o,ho⟩:=w.ff a ha;⟨o,s a o ho⟩,w.fi⟩
theorem P3.mem_push{ρ:P3}{a b:Addr}(h:b∈(ρ.push a).b):b∈ρ.b\/b=a:=by
 rcases P3.et.mp h with⟨z,n⟩ | z
 .rcases List.mem_append.mp z with y | y
  .exact .inl (P3.et.mpr (.inl ⟨y,n⟩))
  .exact .inr (List.mem_singleton.mp y)
 .exact .inl (P3.et.mpr (.inr z))
theorem SW.new{K:W.Frag}{cl:ZF}{ρ:P3}{H H':Hp}{S:aF}(w:SW K cl ρ H S){a:Addr}{o:SO}(s:bb H H')(n:H a=none)(r:Ig K cl (ρ.push a) H' o (H' a))(ur:o≠SO.hV:=by intro h;cases h) :
 SW K cl (ρ.push a) H' (S++[o])/\Pre ρ H (ρ.push a) H':=by
 have na:a ∉ ρ.b:=fun ha=>by obtain⟨o,ho⟩:=w.bs a ha;rw [n] at ho;cases ho
 have nr:a ∉ ρ.r:=fun ha=>by obtain⟨o,ho⟩:=w.rs a ha;rw [n] at ho;cases ho
 have nf:a ∉ ρ.f:=fun ha=>by obtain⟨o,ho⟩:=w.ff a ha;rw [n] at ho;cases ho
 have p:Pre ρ H (ρ.push a) H':=⟨fun b u e nb=>⟨s b u e,fun hb=>by
  rcases P3.mem_push hb with z | z
  .exact nb z
  .subst z;rw [n] at e;cases e⟩,rfl,fun b o _ h=>s b o h,fun k x hx=>by
   show(ρ.r++[a])[k]? =_;rw[List.getElem?_append_left (List.getElem?_eq_some_iff.mp hx).1];exact hx⟩
 have last:∀(i:Nat) (b:Addr),(ρ.push a).r[i]? =some b->(i < ρ.r.length/\ρ.r[i]? =some b)\/(i=ρ.r.length/\b=a):=fun i b h=>by
  have h:(ρ.r++[a])[i]? =some b:=h;by_cases q:i < ρ.r.length
  .rw [List.getElem?_append_left q] at h;exact .inl ⟨q,h⟩
  .rw [List.getElem?_append_right (by omega)] at h
   have h0:i - ρ.r.length=0:=by
    have:=(List.getElem?_eq_some_iff.mp h).1;simp at this;omega
   rw[h0] at h;cases h;exact .inr ⟨by omega,rfl⟩
 refine⟨⟨by show(ρ.r++[a]).length=_;rw [List.length_append,List.length_append,w.len];rfl,fun i j b hi hj=>?_,fun k b u hk hu=>?_,fun b hb=>?_,fun k b hk hu=>?_,fun b hb=>?_,fun k b hk hu=>?_⟩,p⟩
 .rcases last i b hi with⟨q1,q2⟩ | ⟨q1,rfl⟩
  .rcases last j b hj with⟨z1,z2⟩ | ⟨z1,rfl⟩
   .exact w.nd i j b q2 z2
   .exact absurd (List.mem_of_getElem? q2) nr
  .rcases last j b hj with⟨z1,z2⟩ | ⟨z1,z3⟩
   .exact absurd (List.mem_of_getElem? z2) nr
   .omega
 .rcases last k b hk with⟨q1,q2⟩ | ⟨q1,rfl⟩
  .rw [List.getElem?_append_left (by rw[<-w.len];exact q1)] at hu
   have r0:=w.ob k b u q2 hu;obtain⟨x,hx⟩:=r0.some;rw[s b x hx,<-hx];exact r0.pre p
  .rw [List.getElem?_append_right (by rw[<-w.len];omega),q1,w.len,Nat.sub_self] at hu
   cases hu;exact r
 .obtain⟨⟨o,ho⟩,nb⟩:=w.zb b hb;refine⟨⟨o,s b _ ho⟩,fun h=>?_⟩
  rcases List.mem_append.mp h with y | y
  .exact nb y
  .rw [List.mem_singleton] at y;subst y;rw [n] at ho;cases ho
 .rcases last k b hk with⟨q1,q2⟩ | ⟨q1,rfl⟩
  .rw [List.getElem?_append_left (by rw[<-w.len];exact q1)] at hu
   exact w.fz k b q2 hu
  .exact nf
 .obtain⟨o,ho⟩:=w.ff b hb;exact⟨o,s b o ho⟩
 .rcases last k b hk with⟨q1,q2⟩ | ⟨q1,rfl⟩
  .rw [List.getElem?_append_left (by rw[<-w.len];exact q1)] at hu
   exact w.fi k b q2 hu
  .rw [List.getElem?_append_right (by rw[<-w.len];omega),q1,w.len,Nat.sub_self] at hu
   cases hu;exact absurd rfl ur
theorem SW.put{K:W.Frag}{cl:ZF}{ρ:P3}{S:aF}(w:SW K cl ρ H S){k:Nat}{a:Addr}{o:SO}{u:HO}(hk:ρ.r[k]? =some a)(hf:a ∉ ρ.f)(r:Ig K cl ρ H o (some u))(ur:o≠SO.hV:=by intro h;cases h) :
 SW K cl ρ (upd H a u) (S.set k o)/\Pre ρ H ρ (upd H a u):=by
 have ha:a∈ρ.r:=List.mem_of_getElem? hk;have hb:a∈ρ.b:=P3.et.mpr (.inl ⟨ha,hf⟩);have nz:∀b∈ρ.z,b≠a:=fun b hb z=>(w.zb b hb).2 (by rw[z];exact ha)
 have p:Pre ρ H ρ (upd H a u):=⟨fun b x e nb=>⟨by rw[bj (fun(z:b=a)=>nb (by rw[z];exact hb))];exact e,nb⟩,rfl,fun b o hb h=>by rw[bj (nz b hb)];exact h,fun _ _ h=>h⟩
 have hl:k < S.length:=by rw[<-w.len];exact(List.getElem?_eq_some_iff.mp hk).1
 refine⟨⟨by rw[List.length_set];exact w.len,w.nd,fun j b x hj hx=>?_,fun b hb=>?_,fun j b hj hx=>?_,fun b hb=>?_,fun j b hj hx=>?_⟩,p⟩
 .by_cases q:k=j
  .subst q;rw[hk] at hj;cases hj;rw[List.getElem?_set_self hl] at hx;cases hx;rw[ba];exact r.pre p
  .rw [List.getElem?_set_ne q] at hx;have ne:b≠a:=fun z=>by subst z;exact q (w.nd k j b hk hj)
   rw[bj ne];exact(w.ob j b x hj hx).pre p
 .obtain⟨⟨o,ho⟩,nb⟩:=w.zb b hb;exact⟨⟨o,by rw[bj (nz b hb)];exact ho⟩,nb⟩
 .by_cases q:k=j
  .subst q;rw[hk] at hj;cases hj;exact hf
  .rw [List.getElem?_set_ne q] at hx;exact w.fz j b hj hx
 .obtain⟨o,ho⟩:=w.ff b hb;exact⟨o,by rw[bj (fun z=>hf (by rw[<-z];exact hb))];exact ho⟩
 .by_cases q:k=j
  .subst q;rw[List.getElem?_set_self hl] at hx;cases hx;exact absurd rfl ur
  .rw [List.getElem?_set_ne q] at hx;exact w.fi j b hj hx
theorem SW.hV{K:W.Frag}{cl:ZF}{ρ:P3}{S:aF}(w:SW K cl ρ H S){k:Nat}{a:Addr}{ds:List D}(hk:ρ.r[k]? =some a)(hS:S[k]? =some (.lst ds)) :
 SW K cl ⟨ρ.r,ρ.z,a ::ρ.f⟩ H (S.set k .hV)/\Pre ρ H ⟨ρ.r,ρ.z,a ::ρ.f⟩ H/\Rep K (⟨ρ.r,ρ.z,a ::ρ.f⟩:P3).b H (.lst ds) (.ref a):=by
 have hl:k < S.length:=by rw[<-w.len];exact(List.getElem?_eq_some_iff.mp hk).1
 have sub:∀b,b∈(⟨ρ.r,ρ.z,a ::ρ.f⟩:P3).b->b∈ρ.b:=fun b hb=>by
  rcases P3.et.mp hb with⟨z,n⟩ | z
  .exact P3.et.mpr (.inl ⟨z,fun h=>n (List.mem_cons_of_mem _ h)⟩)
  .exact P3.et.mpr (.inr z)
 have p:Pre ρ H ⟨ρ.r,ρ.z,a ::ρ.f⟩ H:=⟨fun b o e nb=>⟨e,fun hb=>nb (sub b hb)⟩,rfl,fun _ _ _ h=>h,fun _ _ h=>h⟩
 obtain⟨xs,e1,r1⟩:=w.ob k a _ hk hS;refine⟨⟨by rw[List.length_set];exact w.len,w.nd,fun j b x hj hx=>?_,w.zb,fun j b hj hx=>?_,fun b hb=>?_,fun j b hj hx=>?_⟩,p,?_⟩
 .by_cases q:k=j
  .subst q;rw[List.getElem?_set_self hl] at hx;cases hx;rw[hk] at hj;cases hj;exact⟨_,e1⟩
  .rw [List.getElem?_set_ne q] at hx;exact(w.ob j b x hj hx).pre p
 .by_cases q:k=j
  .subst q;rw[List.getElem?_set_self hl] at hx;exact absurd rfl hx
  .rw [List.getElem?_set_ne q] at hx;intro h;rcases List.mem_cons.mp h with z | z
   .subst z;exact q (w.nd k j b hk hj)
   .exact w.fz j b hj hx z
 .rcases List.mem_cons.mp hb with z | z
  .subst z;exact⟨_,e1⟩
  .exact w.ff b z
 .by_cases q:k=j
  .subst q;rw[hk] at hj;cases hj;exact List.mem_cons_self
  .rw [List.getElem?_set_ne q] at hx;exact List.mem_cons_of_mem _ (w.fi j b hj hx)
 .refine Rep.lst.mpr ⟨a,xs,rfl, .inl ⟨fun hb=>?_, .inl e1⟩,r1.bt p.bt⟩
  rcases P3.et.mp hb with⟨_,n⟩ | z
  .exact n List.mem_cons_self
  .exact(w.zb a z).2 (List.mem_of_getElem? hk)
mutual
def pB:D->Bool
 | .lst _=>false
 | .dct _ _=>false
 | .tup ds=>ni ds
 | _=>true
def ni:List D->Bool
 | []=>true
 | d ::ds=>pB d && ni ds
end
mutual
theorem Rep.A1{K:W.Frag}{B:List Addr}(hB:∀b∈B,∀xs,¬Rd H b (.tup xs)):∀{d:D} {v:V},pB d=true->Rep K [] H d v->Rep K B H d v
 | .cH,v,_,r=>Rep.cH.mpr (Rep.cH.mp r)
 | .bl _,v,_,r=>Rep.bl.mpr (Rep.bl.mp r)
 | .int _,v,_,r=>Rep.int.mpr (Rep.int.mp r)
 | .str _,v,_,r=>Rep.str.mpr (Rep.str.mp r)
 | .lst _,v,h,_=>by unfold pB at h;cases h
 | .dct _ _,v,h,_=>by unfold pB at h;cases h
 | .tup ds,v,h,r=>by
   unfold pB at h;obtain⟨a,xs,rfl,l,rs⟩:=Rep.tup.mp r;exact Rep.tup.mpr ⟨a,xs,rfl,l.elim (fun z=> .inl ⟨fun hb=>hB a hb xs z.2,z.2⟩) .inr,aD.A1 hB h rs⟩
theorem aD.A1{K:W.Frag}{B:List Addr}(hB:∀b∈B,∀xs,¬Rd H b (.tup xs)):∀{ds:List D} {vs:List V},ni ds=true->aD K [] H ds vs->aD K B H ds vs
 | [],_,_,r=>by unfold aD at r;subst r;exact aD.nil
 | d ::ds,vs,h,r=>by
   unfold ni at h;obtain⟨h1,h2⟩:=Bool.and_eq_true_iff.mp h;obtain⟨x,xs,rfl,r1,r2⟩:=r.cu;exact aD.cons (Rep.A1 hB h1 r1) (aD.A1 hB h2 r2)
end
theorem SW.nt{K:W.Frag}{cl:ZF}{ρ:P3}{S:aF}(w:SW K cl ρ H S):∀b∈ρ.b,∀xs,¬Rd H b (.tup xs):=fun b hb xs h=>by
 have key:∀o,H b=some o->(∀xs,o≠ .tup xs)->(∀ob xs,o≠ .hV ob (.tup xs))->False:=fun o e h1 h2=>by
  rcases h with z | ⟨ob,z⟩
  .rw [e] at z;cases z;exact h1 _ rfl
  .rw [e] at z;cases z;exact h2 _ _ rfl
 rcases P3.et.mp hb with⟨z,n⟩ | z
 .obtain⟨k,hk⟩:=List.getElem?_of_mem z;have hl:=(List.getElem?_eq_some_iff.mp hk).1;have hS:S[k]? =some (S[k]'(by rw[<-w.len];exact hl)):=List.getElem?_eq_getElem (by rw[<-w.len];exact hl)
  have r:=w.ob k b _ hk hS;generalize S[k]'(by rw[<-w.len];exact hl)=o at r hS
  cases o with
  | lst ds=>obtain⟨ys,e,_⟩:=r;exact key _ e (fun _ q=>by cases q) (fun _ _ q=>by cases q)
  | dct kvs=>obtain⟨ys,e,_⟩:=r;exact key _ e (fun _ q=>by cases q) (fun _ _ q=>by cases q)
  | ins c fs=>obtain⟨dx,ys,e,_⟩:=r;exact key _ e (fun _ q=>by cases q) (fun _ _ q=>by cases q)
  | hV=>exact n (w.fi k b hk hS)
 .obtain⟨⟨ys,e⟩,_⟩:=w.zb b z;exact key _ e (fun _ q=>by cases q) (fun _ _ q=>by cases q)
abbrev DE:=List (Option V3)
structure fB (K:W.Frag) (cl:ZF) (ρ:P3) (H:Hp) (S:aF) (σ:L2.St) (δ:DE):Prop where
 len:δ.length=σ.length
 sw:SW K cl ρ H S
 val:∀(i:Nat) (d:V3),δ[i]? =some (some d)->∃v,σ[i]? =some (some v)/\bc K ρ H d v
theorem fB.to{K:W.Frag}{cl:ZF}{S S':aF}{σ:L2.St}{δ:DE}(E:fB K cl ρ H S σ δ)(p:Pre ρ H cS H')(w:SW K cl cS H' S'):fB K cl cS H' S' σ δ:=
 ⟨E.len,w,fun i d e=>let⟨v,h1,h2⟩:=E.val i d e;⟨v,h1,h2.pre p⟩⟩
theorem fB.set{K:W.Frag}{cl:ZF}{S:aF}{σ:L2.St}{δ:DE}(E:fB K cl ρ H S σ δ){i:Nat}{d:V3}{v:V}(hi:i < σ.length)(r:bc K ρ H d v):fB K cl ρ H S (σ.set i (some v)) (δ.set i (some d)):=
 ⟨by rw[List.length_set,List.length_set];exact E.len,E.sw,fun j d' e=>by
   by_cases h:i=j
   .subst h;rw[List.getElem?_set_self (by rw[E.len];exact hi)] at e
    cases e;exact⟨v,List.getElem?_set_self hi,r⟩
   .rw [List.getElem?_set_ne h] at e ⊢;exact E.val j d' e⟩
def down(δ:DE):aw:=δ.map fun x=>match x with | some (.d d)=> .val d | _=> .un
theorem fB.down{K:W.Frag}{cl:ZF}{ρ:P3}{S:aF}{σ:L2.St}{δ:DE}(E:fB K cl ρ H S σ δ):eK K [] ρ.b H σ (down δ) where
 len:=by unfold L3.down;rw [List.length_map];exact E.len
 bs:=E.sw.bs
 zb:=fun a ha=>by cases ha
 val:=fun i d e=>by
  unfold L3.down at e;rw[List.getElem?_map] at e;cases q:δ[i]? with
  | none=>rw [q] at e;cases e
  | some x=>
    rw[q] at e
    match x,e,q with
    | some (.d y),e,q=>
      cases e;obtain⟨v,h1,h2⟩:=E.val i _ q;unfold bc at h2;exact⟨v,h1,h2⟩
    | some (.loc k),e,q=>cases e
    | some (.lst k),e,q=>cases e
    | some (.tup k),e,q=>cases e
    | none,e,q=>cases e
 bld:=fun i ds e=>by
  unfold L3.down at e;rw[List.getElem?_map] at e;cases q:δ[i]? with
  | none=>rw [q] at e;cases e
  | some x=>
    rw[q] at e
    match x,e with
    | some (.d y),e=>cases e
    | some (.loc k),e=>cases e
    | some (.lst k),e=>cases e
    | some (.tup k),e=>cases e
    | none,e=>cases e
 dis:=fun i j a ds es e=>by
  unfold L3.down at e;rw[List.getElem?_map] at e;cases q:δ[i]? with
  | none=>rw [q] at e;cases e
  | some x=>
    rw[q] at e
    match x,e with
    | some (.d y),e=>cases e
    | some (.loc k),e=>cases e
    | some (.lst k),e=>cases e
    | some (.tup k),e=>cases e
    | none,e=>cases e
mutual
def res(S:aF):V3->Option D
 | .d x=>some x
 | .loc k=>(match S[k]? with | some (.lst ds)=>some (.lst ds) | _=>none)
 | .lst vs=>(yz S vs).map D.lst
 | .tup vs=>(yz S vs).map D.tup
def yz(S:aF):List V3->Option (List D)
 | []=>some []
 | v ::vs=>(res S v).bind fun d=>(yz S vs).map (d ::·)
end
def df(S:aF)(δ:DE):aw:=δ.map fun x=>match x with | some v=>(match res S v with | some d=> .val d | none=> .un) | none=> .un
theorem pe{α β:Type}{o:Option α}{f:α->β}{b:β}(h:o.map f=some b):∃a,o=some a/\f a=b:=by
 cases o with
 | none=>cases h
 | some a=>cases h;exact⟨a,rfl,rfl⟩
theorem CH{α β:Type}{o:Option α}{f:α->Option β}{b:β}(h:o.bind f=some b):∃a,o=some a/\f a=some b:=by
 cases o with
 | none=>cases h
 | some a=>exact⟨a,rfl,h⟩
mutual
def eN(n:Nat):V3->Bool
 | .d _=>true
 | .loc k=>decide (n<=k)
 | .lst vs=>pQ n vs
 | .tup vs=>pQ n vs
def pQ(n:Nat):List V3->Bool
 | []=>true
 | v ::vs=>eN n v && pQ n vs
end
mutual
theorem bc.resB{K:W.Frag}{cl:ZF}{ρ:P3}{S:aF}{B':List Addr}{n:Nat}(w:SW K cl ρ H S)(p:dX ρ.b H B' H)(hn:∀(k:Nat) (a:Addr),n<=k->ρ.r[k]? =some a->a ∉ B'):∀{v:V3} {d:D} {x:V},eN n v=true->res S v=some d->bc K ρ H v x->Rep K B' H d x
 | .d y,d,x,_,h,r=>by unfold L3.res at h;cases h;unfold bc at r;exact r.bt p
 | .loc k,d,x,g,h,r=>by
   unfold L3.res at h;unfold bc at r;unfold eN at g;obtain⟨a,h1,rfl⟩:=r;split at h
   .rename_i ds e;cases h;obtain⟨xs,e2,q⟩:=w.ob k a _ h1 e;unfold Rep;exact⟨a,xs,rfl, .inl ⟨hn k a (of_decide_eq_true g) h1, .inl e2⟩,q.bt p⟩
   .cases h
 | .lst vs,d,x,g,h,r=>by
   unfold L3.res at h;unfold eN at g;obtain⟨ds,e,rfl⟩:=pe h;unfold bc at r;obtain⟨a,xs,rfl,l,r⟩:=r;unfold Rep;exact⟨a,xs,rfl,l.bt p,aJ.resB w p hn g e r⟩
 | .tup vs,d,x,g,h,r=>by
   unfold L3.res at h;unfold eN at g;obtain⟨ds,e,rfl⟩:=pe h;unfold bc at r;obtain⟨a,xs,rfl,l,r⟩:=r;unfold Rep;exact⟨a,xs,rfl,xZ.bt p l,aJ.resB w p hn g e r⟩
theorem aJ.resB{K:W.Frag}{cl:ZF}{ρ:P3}{S:aF}{B':List Addr}{n:Nat}(w:SW K cl ρ H S)(p:dX ρ.b H B' H)(hn:∀(k:Nat) (a:Addr),n<=k->ρ.r[k]? =some a->a ∉ B'):∀{vs:List V3} {ds:List D} {xs:List V},pQ n vs=true->yz S vs=some ds->aJ K ρ H vs xs->aD K B' H ds xs
 | [],ds,xs,_,h,r=>by unfold yz at h;cases h;unfold aJ at r;subst r;exact aD.nil
 | v ::vs,ds,xs,g,h,r=>by
   unfold yz at h;unfold pQ at g;obtain⟨g1,g2⟩:=Bool.and_eq_true_iff.mp g;obtain⟨d,e1,h2⟩:=CH h;obtain⟨es,e2,rfl⟩:=pe h2;obtain⟨y,ys,rfl,r1,r2⟩:=r.cu;exact aD.cons (bc.resB w p hn g1 e1 r1) (aJ.resB w p hn g2 e2 r2)
end
mutual
theorem yp:∀v:V3,eN 0 v=true
 | .d _=>by unfold eN;rfl
 | .loc k=>by unfold eN;exact decide_eq_true (Nat.zero_le _)
 | .lst vs=>by unfold eN;exact qv vs
 | .tup vs=>by unfold eN;exact qv vs
theorem qv:∀vs:List V3,pQ 0 vs=true
 | []=>by unfold pQ;rfl
 | v ::vs=>by unfold pQ;rw [yp v,qv vs];rfl
end
theorem bc.res{K:W.Frag}{cl:ZF}{S:aF}(w:SW K cl ρ H S){v:V3}{d:D}{x:V}(h:res S v=some d)(r:bc K ρ H v x):Rep K [] H d x:=
 r.resB w (fun b o e _=>⟨e,by simp⟩) (n:=0) (fun _ _ _ _=>by simp) (yp v) h
theorem sg{S:aF}{δ:DE}{i:Nat}{y:Sl}(e:(df S δ)[i]? =some y):(∃v d,δ[i]? =some (some v)/\res S v=some d/\y= .val d)\/y= .un:=by
 unfold df at e;rw[List.getElem?_map] at e;cases q:δ[i]? with
 | none=>rw [q] at e;cases e
 | some x=>
   rw[q] at e;cases x with
   | none=>cases e;exact .inr rfl
   | some v=>
     cases z:res S v with
     | none=>
       have e:some (match res S v with | some d=>Sl.val d | none=> .un)=some y:=e
       rw[z] at e;cases e;exact .inr rfl
     | some d=>
       have e:some (match res S v with | some d=>Sl.val d | none=> .un)=some y:=e
       rw[z] at e;cases e;exact .inl ⟨v,d,rfl,z,rfl⟩
theorem fB.df{K:W.Frag}{cl:ZF}{S:aF}{σ:L2.St}{δ:DE}(E:fB K cl ρ H S σ δ):eK K [] [] H σ (df S δ) where
 len:=by unfold L3.df;rw [List.length_map];exact E.len
 bs:=fun a ha=>by cases ha
 zb:=fun a ha=>by cases ha
 val:=fun i d e=>by
  rcases sg e with⟨v,d',h1,h2,h3⟩ | h
  .cases h3;obtain⟨x,q1,q2⟩:=E.val i v h1;exact⟨x,q1,q2.res E.sw h2⟩
  .cases h
 bld:=fun i ds e=>by
  rcases sg e with⟨v,d',h1,h2,h3⟩ | h
  .cases h3
  .cases h
 dis:=fun i j a ds es e=>by
  rcases sg e with⟨v,d',h1,h2,h3⟩ | h
  .cases h3
  .cases h
abbrev FX:=DE->aF->R3 V3
abbrev FB:=DE->aF->R3 Bool
abbrev FA:=DE->aF->R3 (List V3)
def tX(K:W.Frag)(cl:ZF)(f:FX):TE:=fun σ H Q=>∃ρ S δ v S',fB K cl ρ H S σ δ/\f δ S= .ok v S'/\∀u cS H',Pre ρ H cS H'->SW K cl cS H' S'->bc K cS H' v u->Q u H'
def MM(K:W.Frag)(cl:ZF)(f:FB):TT:=fun σ H Q=>∃ρ S δ b S',fB K cl ρ H S σ δ/\f δ S= .ok b S'/\∀cS H',Pre ρ H cS H'->SW K cl cS H' S'->Q b H'
def U9(K:W.Frag)(cl:ZF)(f:FA):TA:=fun σ H Q=>∃ρ S δ vs S',fB K cl ρ H S σ δ/\f δ S= .ok vs S'/\∀us cS H',Pre ρ H cS H'->SW K cl cS H' S'->aJ K cS H' vs us->Q us H'
structure PX (X:Cx) (cl:ZF) (e:Expr) (f:FX):Prop where
 go:PE X e (tX X.K cl f)
structure BF (X:Cx) (cl:ZF) (e:Expr) (f:FB):Prop where
 go:PT X e (MM X.K cl f)
structure Gn (X:Cx) (cl:ZF) (es:List Expr) (f:FA):Prop where
 go:PA X es (U9 X.K cl f)
section
variable {X:Cx} {cl:ZF}
def xP(f:FD):FX:=fun δ S=>(R3.of (f (down δ)) S).bind fun d S=> .ok (.d d) S
theorem ag(h:QD X e f):PX X cl e (xP f):=⟨h.1.imp fun σ H Q ⟨ρ,S,δ,v,S',E,hf,q⟩=>by
 obtain⟨d,S1,h1,h2⟩:=R3.ak hf;obtain⟨h3,e3⟩:=R3.of_ok h1;cases h2;subst e3;exact⟨[],ρ.b,down δ,d,E.down,h3,fun v H' s r=>q v ρ H' (Pre.same s) (E.sw.same s) (by unfold bc;exact r)⟩⟩
def xT(f:FD):FX:=fun δ S=>(R3.of (f (df S δ)) S).bind fun d S=>R3.bW (pB d) (.ok (.d d) S)
theorem dn(h:QD X e f):PX X cl e (xT f):=⟨h.1.imp fun σ H Q ⟨ρ,S,δ,v,S',E,hf,q⟩=>by
 obtain⟨d,S1,h1,h2⟩:=R3.ak hf;obtain⟨h4,e3⟩:=R3.of_ok h1;obtain⟨ha,h3⟩:=R3.bf h2;cases h3;subst e3;exact⟨[],[],df _ δ,d,E.df,h4,fun v H' s r=>q v ρ H' (Pre.same s) (E.sw.same s) (by unfold bc;exact Rep.A1 (E.sw.same s).nt ha r)⟩⟩
def bP(f:aw->R Bool):FB:=fun δ S=>R3.of (f (down δ)) S
theorem dg{f:aw->R Bool}(h:QB X e f):BF X cl e (bP f):=⟨h.1.imp fun σ H Q ⟨ρ,S,δ,v,S',E,hf,q⟩=>by
 obtain⟨h1,e3⟩:=R3.of_ok hf;subst e3;exact⟨[],ρ.b,down δ,v,E.down,h1,fun H' s=>q ρ H' (Pre.same s) (E.sw.same s)⟩⟩
def bT(f:aw->R Bool):FB:=fun δ S=>R3.of (f (df S δ)) S
theorem vn{f:aw->R Bool}(h:QB X e f):BF X cl e (bT f):=⟨h.1.imp fun σ H Q ⟨ρ,S,δ,v,S',E,hf,q⟩=>by
 obtain⟨h1,e3⟩:=R3.of_ok hf;subst e3;exact⟨[],[],df _ δ,v,E.df,h1,fun H' s=>q ρ H' (Pre.same s) (E.sw.same s)⟩⟩
def bC(i:Nat):FX:=fun δ S=>match δ[i]? with | some (some v)=> .ok v S | _=> .no
theorem aG(i:Nat){x:Str}{pos:Pos}(hN:X.N[i]? =some x:=by rfl)(hv:JA X.env.scope x:=by first | exact Or.inl rfl | exact Or.inr (Or.inl rfl) | exact Or.inr (Or.inr rfl))(hd:(x==("__debug__":Str))=false:=by decide)
 (uq:(x==("__classdict__":Str))=false:=by decide):PX X cl (.Name x pos) (bC i):=⟨(sL hN hv hd uq).imp fun σ H Q ⟨ρ,S,δ,v,S',E,hf,q⟩=>by
 unfold bC at hf;split at hf
 .rename_i d' e;cases hf;obtain⟨u,h1,h2⟩:=E.val i _ e;exact⟨u,h1,q u ρ H (Pre.refl ρ H) E.sw h2⟩
 .cases hf⟩
def l7(f:aw->R (List D)):FX:=fun δ S=>(R3.of (f (down δ)) S).bind fun ds S=> .ok (.loc S.length) (S++[.lst ds])
theorem eJ{f:aw->R (List D)}(h:QN X e f):PX X cl e (l7 f):=⟨h.1.imp fun σ H Q ⟨ρ,S,δ,v,S',E,hf,q⟩=>by
 obtain⟨ds,S1,h1,h2⟩:=R3.ak hf;obtain⟨h3,e3⟩:=R3.of_ok h1;cases h2;subst e3;refine⟨[],ρ.b,down δ,ds,E.down,h3,fun a xs H' s n e r=>?_⟩
 have r':aD X.K (ρ.push a).b H' ds xs:=r.bt fun b o e nb=>⟨e,fun hb=>nb (by
  rcases P3.mem_push hb with z | z
  .exact List.mem_cons_of_mem _ z
  .subst z;exact List.mem_cons_self)⟩
 obtain⟨w,p⟩:=E.sw.new (o:= .lst ds) s n ⟨xs,e,r'⟩;exact q _ _ H' p w (by unfold bc;exact⟨a,by show(ρ.r++[a])[_]? =_;rw [<-E.sw.len,List.getElem?_append_right (by omega),Nat.sub_self];rfl,rfl⟩)⟩
end
end L3
end
section
namespace L3
open PySem PySem.Spec PyProof.Rows L2
section
variable {X:Cx} {cl:ZF}
def bH:FA:=fun _ S=> .ok [] S
def aq(f:FX)(g:FA):FA:=fun δ S=>(f δ S).bind fun v S1=>(g δ S1).bind fun vs S2=> .ok (v ::vs) S2
theorem ay:Gn X cl [] bH:=⟨ji.imp fun σ H Q ⟨ρ,S,δ,v,S',E,hf,q⟩=>by
 cases hf;exact q [] ρ H (Pre.refl ρ H) E.sw aJ.nil⟩
theorem ae(h:PX X cl e f)(t:Gn X cl es g)(hs:starEach (e ::es) X.env=(false,eval e X.env) ::starEach es X.env:=by rfl):Gn X cl (e ::es) (aq f g):=
 ⟨(fK h.1 t.1 hs).imp fun σ H Q ⟨ρ,S,δ,v,S',E,hf,q⟩=>by
   obtain⟨v1,S1,h1,h2⟩:=R3.ak hf;obtain⟨vs,S2,h3,h4⟩:=R3.ak h2;cases h4;exact⟨ρ,S,δ,v1,S1,E,h1,fun u bQ H1 p1 w1 r1=>⟨bQ,S1,δ,vs,_,E.to p1 w1,h3,fun us m_ H2 p2 w2 r2=>q _ m_ H2 (p1.trans p2) w2 (aJ.cons (r1.pre p2) r2)⟩⟩⟩
def su:List V3->Option (List D)
 | []=>some []
 | .d x ::r=>(su r).map (x ::·)
 | _ ::_=>none
theorem iA:∀{vs:List V3} {ds:List D},su vs=some ds->vs=ds.map .d
 | [],ds,h=>by cases h;rfl
 | .d x ::r,ds,h=>by
   cases e:su r with
   | none=>have h:(su r).map (x ::·)=some ds:=h;rw [e] at h;cases h
   | some es=>
     have h:(su r).map (x ::·)=some ds:=h
     rw[e] at h;cases h;rw[iA e];rfl
 | .loc _ ::_,_,h=>by cases h
 | .lst _ ::_,_,h=>by cases h
 | .tup _ ::_,_,h=>by cases h
theorem vv:∀ds:List D,su (ds.map .d)=some ds
 | []=>rfl
 | d ::ds=>by show(su (ds.map .d)).map (d ::·)=_;rw [vv ds];rfl
def Es(vs:List V3):V3:=match su vs with | some ds=> .d (.tup ds) | none=> .tup vs
def tL(vs:List V3):V3:=match su vs with | some ds=> .d (.lst ds) | none=> .lst vs
def wd(g:FA):FX:=fun δ S=>(g δ S).bind fun vs S=>R3.bW (decide (vs.length<=sizeLine)) (.ok (Es vs) S)
theorem rT{H:Hp}{p:Addr}{o:HO}(hp:H p=none):Pre ρ H ρ (upd H p o):=Pre.same (aU hp)
theorem F0{K:W.Frag}{ρ:P3}{vs:List V3}{xs:List V}{a:Addr}(l:xZ K ρ.b H a xs)(r:aJ K ρ H vs xs):bc K ρ H (Es vs) (.ref a):=by
 unfold Es;split
 .rename_i ds e;rw[iA e] at r;unfold bc Rep;exact⟨a,xs,rfl,l,r.to⟩
 .unfold bc;exact⟨a,xs,rfl,l,r⟩
theorem xO{K:W.Frag}{ρ:P3}{vs:List V3}{xs:List V}{a:Addr}(l:uZ K ρ.b H a xs)(r:aJ K ρ H vs xs):bc K ρ H (tL vs) (.ref a):=by
 unfold tL;split
 .rename_i ds e;rw[iA e] at r;unfold bc Rep;exact⟨a,xs,rfl,l,r.to⟩
 .unfold bc;exact⟨a,xs,rfl,l,r⟩
theorem mV{x1 pos}(h:Gn X cl es g):PX X cl (.Tuple es x1 pos) (wd g):=⟨(GH h.1).imp fun σ H Q ⟨ρ,S,δ,v,S',E,hf,q⟩=>by
 obtain⟨vs,S1,h1,h2⟩:=R3.ak hf;obtain⟨hl,h3⟩:=R3.bf h2;cases h3;refine⟨ρ,S,δ,vs,_,E,h1,fun us bQ H1 p1 w1 r1=>⟨by rw[<-r1.length];exact of_decide_eq_true hl,fun p hp=>q _ bQ _ (p1.trans (rT hp)) (w1.same (aU hp)) ?_⟩⟩
 refine F0 (.inl ⟨fun ha=>?_, .inl ba⟩) (r1.pre (rT hp))
 obtain⟨o,ho⟩:=w1.bs p ha;rw[hp] at ho;cases ho⟩
def OC(g:FA):FX:=fun δ S=>(g δ S).bind fun vs S=>R3.bW (decide (vs.length<=sizeLine)) (.ok (tL vs) S)
theorem NX{pos}(h:Gn X cl es g):PX X cl (.List es pos) (OC g):=⟨(BR h.1).imp fun σ H Q ⟨ρ,S,δ,v,S',E,hf,q⟩=>by
 obtain⟨vs,S1,h1,h2⟩:=R3.ak hf;obtain⟨hl,h3⟩:=R3.bf h2;cases h3;refine⟨ρ,S,δ,vs,_,E,h1,fun us bQ H1 p1 w1 r1=>⟨by rw[<-r1.length];exact of_decide_eq_true hl,fun p hp=>q _ bQ _ (p1.trans (rT hp)) (w1.same (aU hp)) ?_⟩⟩
 refine xO (.inl ⟨fun ha=>?_, .inl ba⟩) (r1.pre (rT hp))
 obtain⟨o,ho⟩:=w1.bs p ha;rw[hp] at ho;cases ho⟩
def x2(g:D->D->R D)(fa fb:FX):FX:=fun δ S=>(fa δ S).bind fun a S1=>(fb δ S1).bind fun b S2=>match a,b with
 | .d x, .d y=>(R3.of (g x y) S2).bind fun d S=> .ok (.d d) S
 | _,_=> .no
theorem Ow{K:W.Frag}{g:D->D->R D}{σ:L2.St}{Q:VK}(h:tX K cl (x2 g fa fb) σ H Q) :
 O2 (fun x y H Q=>∃B da db d,(∀a∈B,∃o,H a=some o)/\Rep K B H da x/\Rep K B H db y/\g da db= .ok d/\∀z H',bb H H'->Rep K B H' d z->Q z H') (tX K cl fa) (tX K cl fb) σ H Q:=by
 obtain⟨ρ,S,δ,v,S',E,hf,q⟩:=h;obtain⟨a,S1,h1,h2⟩:=R3.ak hf;obtain⟨b,S2,h3,h4⟩:=R3.ak h2
 match a,b,h1,h3,h4 with
 | .d x, .d y,h1,h3,h4=>
   obtain⟨d,S3,h5,h6⟩:=R3.ak h4;obtain⟨h7,e⟩:=R3.of_ok h5;cases h6;subst e;refine⟨ρ,S,δ, .d x,S1,E,h1,fun u1 bQ H1 p1 w1 r1=>⟨bQ,S1,δ, .d y,_,E.to p1 w1,h3,fun u2 m_ H2 p2 w2 r2=>?_⟩⟩
   have rZ:=r1.pre p2;unfold bc at rZ r2;exact⟨m_.b,x,y,d,w2.bs,rZ,r2,h7,fun z H' s r=>q z m_ H' (p1.trans (p2.trans (Pre.same s))) (w2.same s) (by unfold bc;exact r)⟩
 | .d x, .loc _,_,_,h4=>cases h4
 | .d x, .lst _,_,_,h4=>cases h4
 | .d x, .tup _,_,_,h4=>cases h4
 | .loc _,_,_,_,h4=>cases h4
 | .lst _,_,_,_,h4=>cases h4
 | .tup _,_,_,_,h4=>cases h4
theorem AW{op:Operator}{g:D->D->R D}(ho:lx X (binaryOp op) g)(ha:PX X cl a fa)(hb:PX X cl b fb):PX X cl (.BinOp a op b pos) (x2 g fa fb):=
 ⟨(DY ho.r ha.1 hb.1).imp fun σ H Q h=>Ow h⟩
theorem Hq{op:CmpOp}{g:D->D->R D}(ho:lx X (compareOp op) g)(ha:PX X cl a fa)(hb:PX X cl b fb)(hm:behindInMarks op b=false):PX X cl (.Compare a [op] [b] pos) (x2 g fa fb):=
 ⟨(Dv ho.r ha.1 hb.1 hm).imp fun σ H Q h=>Ow h⟩
def Ib(g:D->D->R D)(fa fb:FX):FB:=fun δ S=>(x2 g fa fb δ S).bind fun v S=>match v with | .d (.bl b)=> .ok b S | _=> .no
theorem jG{op:CmpOp}{g:D->D->R D}(ho:lx X (compareOp op) g)(ha:PX X cl a fa)(hb:PX X cl b fb)(hm:behindInMarks op b=false):BF X cl (.Compare a [op] [b] pos) (Ib g fa fb):=
 ⟨(EC ho.r ha.1 hb.1 hm).imp fun σ H Q ⟨ρ,S,δ,b,S',E,hf,q⟩=>by
   obtain⟨v,S1,h1,h2⟩:=R3.ak hf;have hv:v= .d (.bl b)/\S1=S':=by
    match v,h2 with
    | .d (.bl k),h2=>cases h2;exact⟨rfl,rfl⟩
    | .d .cH,h2=>cases h2
    | .d (.int _),h2=>cases h2
    | .d (.str _),h2=>cases h2
    | .d (.lst _),h2=>cases h2
    | .d (.tup _),h2=>cases h2
    | .d (.dct _ _),h2=>cases h2
    | .loc _,h2=>cases h2
    | .lst _,h2=>cases h2
    | .tup _,h2=>cases h2
   obtain⟨rfl,rfl⟩:=hv;exact Ow (g:=g) (Q:=fun x H'=>∃k,x= .bl k/\Q k H') ⟨ρ,S,δ,_,_,E,h1,fun u cS H' p w r=>⟨b,by unfold bc Rep at r;exact r,q cS H' p w⟩⟩⟩
inductive Ou where
 | nx (δ:DE) | rt (v:V3)
abbrev FZ:=DE->aF->R3 Ou
def Ks(K:W.Frag)(cl:ZF)(ρ:P3)(H:Hp)(D:Ends)(S':aF):Ou->Prop
 | .nx ei=>∀dc cS H',Pre ρ H cS H'->fB K cl cS H' S' dc ei->D.nx dc H'
 | .rt v=>∀u cS H',Pre ρ H cS H'->SW K cl cS H' S'->bc K cS H' v u->D.rt u H'
theorem Ks.pre{K:W.Frag}{D:Ends}{S':aF}{o:Ou}(q:Ks K cl ρ H D S' o)(p:Pre ρ H bQ H1):Ks K cl bQ H1 D S' o:=by
 cases o with
 | nx ei=>exact fun dc cS H' p' E'=>q dc cS H' (p.trans p') E'
 | rt d=>exact fun v cS H' p' w r=>q v cS H' (p.trans p') w r
def sX(K:W.Frag)(cl:ZF)(F:FZ):TS:=fun D σ H=>∃ρ S δ o S',fB K cl ρ H S σ δ/\F δ S= .ok o S'/\Ks K cl ρ H D S' o
structure PZ (X:Cx) (cl:ZF) (st:Stmt) (F:FZ):Prop where
 go:PS X st (sX X.K cl F)
structure FK (X:Cx) (cl:ZF) (st:List Stmt) (F:FZ):Prop where
 go:zc X st (sX X.K cl F)
def gI:FZ:=fun δ S=> .ok (.nx δ) S
def aY(F G:FZ):FZ:=fun δ S=>(F δ S).bind fun o S1=>match o with | .nx ei=>G ei S1 | .rt d=> .ok (.rt d) S1
theorem cF:FK X cl [] gI:=⟨ze.imp fun D σ H ⟨ρ,S,δ,o,S',E,hf,q⟩=>by
 cases hf;exact q σ ρ H (Pre.refl ρ H) E⟩
theorem ao{st:Stmt}{rest:List Stmt}(h1:PZ X cl st F)(h2:FK X cl rest G):FK X cl (st ::rest) (aY F G):=⟨(we h1.1 h2.1).imp fun D σ H ⟨ρ,S,δ,o,S',E,hf,q⟩=>by
 obtain⟨o1,S1,h1,h2⟩:=R3.ak hf;refine⟨ρ,S,δ,o1,S1,E,h1,?_⟩;cases o1 with
 | nx c_=>
   intro JM bQ H1 p1 E1;exact⟨bQ,S1,c_,o,S',E1,h2,q.pre p1⟩
 | rt d=>
   cases h2;exact q⟩
theorem ax{st:Stmt}(h1:PZ X cl st F):FK X cl [st] F:=⟨yK h1.1⟩
def bR(i:Nat)(f:FX):FZ:=fun δ S=>(f δ S).bind fun v S=>R3.bW (decide (i < δ.length)) (.ok (.nx (δ.set i (some v))) S)
theorem aQ{i:Nat}{pos pos':Pos}(hN:X.N.Nodup)(hi:X.N[i]? =some x)(hx:Loc X.env.scope x)(he:PX X cl e f)(hs:swapsWith e (some (.Name x pos')) pos.line X.env=pure false:=by rfl)(hf:X.fn x=true\/X.env.scope.names.lookup x=some .local:=by first | exact .inl rfl | exact .inr rfl | assumption) :
 PZ X cl (.Assign [.Name x pos'] e pos) (bR i f):=⟨(B4 hN hi hx he.1 hs hf).imp fun D σ H ⟨ρ,S,δ,o,S',E,hf,q⟩=>by
 obtain⟨v,S1,h1,h2⟩:=R3.ak hf;obtain⟨hi,h3⟩:=R3.bf h2;cases h3;refine⟨ρ,S,δ,v,_,E,h1,fun u bQ H1 p1 w1 r1=>?_⟩
 exact q _ bQ H1 p1 ((E.to p1 w1).set (by rw[<-E.len];exact of_decide_eq_true hi) r1)⟩
def dW(f:FX):FZ:=fun δ S=>(f δ S).bind fun v S=> .ok (.rt v) S
theorem bM(he:PX X cl e f):PZ X cl (.Return (some e) pos) (dW f):=⟨(IS he.1).imp fun D σ H ⟨ρ,S,δ,o,S',E,hf,q⟩=>by
 obtain⟨v,S1,h1,h2⟩:=R3.ak hf;cases h2;exact⟨ρ,S,δ,v,_,E,h1,fun u bQ H1 p1 w1 r1=>q u bQ H1 p1 w1 r1⟩⟩
def qK(c:FB)(F G:FZ):FZ:=fun δ S=>(c δ S).bind fun b S=>if b then F δ S else G δ S
theorem ft(hc:BF X cl c fc)(ha:FK X cl a F)(hb:FK X cl b G):PZ X cl (.If c a b pos) (qK fc F G):=⟨(IX hc.1 ha.1 hb.1).imp fun D σ H ⟨ρ,S,δ,o,S',E,hf,q⟩=>by
 obtain⟨k,S1,h1,h2⟩:=R3.ak hf;refine⟨ρ,S,δ,k,S1,E,h1,fun bQ H1 p1 w1=>?_⟩
 cases k with
 | true=>rw [if_pos rfl] at h2;exact F6 ⟨bQ,S1,δ,o,S',E.to p1 w1,h2,q.pre p1⟩
 | false=>rw [if_neg (by decide)] at h2;exact Fe ⟨bQ,S1,δ,o,S',E.to p1 w1,h2,q.pre p1⟩⟩
def Vd(f:FX):FZ:=fun δ S=>(f δ S).bind fun _ S=> .ok (.nx δ) S
def mE(c:FB)(body:FZ):Nat->FZ
 | 0,_,_=> .no
 | n+1,δ,S=>(c δ S).bind fun b S=>if b then(body δ S).bind fun o S=>match o with | .nx cK=>mE c body n cK S | .rt r=> .ok (.rt r) S else .ok (.nx δ) S
def De(n:Nat)(c:FB)(body:FZ):FZ:=fun δ S=>mE c body n δ S
theorem HR(n:Nat)(hp:PassesOwn (model X.prog X.w) X.A X.env X.xe)(hc:BF X cl c fc)(hb:FK X cl body F):PZ X cl (.While c body [] pos) (De n fc F):=
 ⟨(Hn hp hc.1 hb.1).imp fun D σ H ⟨ρ,S,δ,o,S',E,hf,q⟩=>by
   refine⟨fun m dc H'=>∃bQ S1 c_,Pre ρ H bQ H'/\fB X.K cl bQ H' S1 dc c_/\mE fc F m c_ S1= .ok o S',⟨n,ρ,S,δ,Pre.refl ρ H,E,hf⟩,?_⟩
   rintro m dc H' ⟨bQ,S1,c_,p1,E1,hw⟩;cases m with
   | zero=>cases hw
   | succ m=>
     obtain⟨b,S2,h1,h2⟩:=R3.ak hw;refine⟨bQ,S1,c_,b,S2,E1,h1,fun m_ H2 p2 w2=>?_⟩
     cases b with
     | false=>
       rw[if_neg (by decide)] at h2
       cases h2;exact Fe (q dc m_ H2 (p1.trans p2) (E1.to p2 w2))
     | true=>
       rw[if_pos rfl] at h2;obtain⟨o1,S3,h3,h4⟩:=R3.ak h2;refine F6 ⟨fun VW H4=>∃Jm S4 Mm,Pre ρ H Jm H4/\fB X.K cl Jm H4 S4 VW Mm/\mE fc F m Mm S4= .ok o S',fun VW H4 n=>⟨m,Nat.lt_succ_self _,n⟩,m_,S2,c_,o1,S3,E1.to p2 w2,h3,?_⟩
       cases o1 with
       | nx cK=>exact fun Bz zA H3 p3 E3=>⟨zA,S3,cK,(p1.trans p2).trans p3,E3,h4⟩
       | rt d=>
         cases h4;exact fun v zA H3 p3 w r=>q v zA H3 ((p1.trans p2).trans p3) w r⟩
end
end L3
end
section
namespace L3
open PySem PySem.Spec PyProof.Rows L2
theorem aJ.get{K:W.Frag}:∀{ds:List V3} {xs:List V} {i:Nat} {d:V3},aJ K ρ H ds xs->ds[i]? =some d->∃x,xs[i]? =some x/\bc K ρ H d x
 | [],_,_,_,_,e=>by simp at e
 | d ::ds,xs,0,d',h,e=>by
   obtain⟨x,r,rfl,h1,h2⟩:=h.cu;simp at e;subst e;exact⟨x,rfl,h1⟩
 | d ::ds,xs,i+1,d',h,e=>by
   obtain⟨x,r,rfl,h1,h2⟩:=h.cu;obtain⟨y,e1,e2⟩:=aJ.get (i:=i) h2 (by simpa using e)
   exact⟨y,by simpa using e1,e2⟩
def O9(K:W.Frag)(ρ:P3)(H:Hp)(J:It)(vs:List V3):Prop:=∀cS H',PW ρ H cS H'->(∀a∈cS.b,∃o,H' a=some o)->(∀(i:Nat) (d:V3),vs[i]? =some d->J.go i H'/\∀x o3,J.yld i H' x o3->bb H' o3/\bc K cS o3 d x)/\J.stop vs.length H'
theorem O9.of{K:W.Frag}{ρ:P3}{J:It}{ds:List D}(h:H_ K ρ.b H J ds):O9 K ρ H J (ds.map .d):=fun cS H' p bs=>by
 obtain⟨h1,h2⟩:=h cS.b H' p.bt;refine⟨fun i v hv=>?_,by rw[List.length_map];exact h2⟩
 rw[List.getElem?_map] at hv;cases e:ds[i]? with
 | none=>rw [e] at hv;cases hv
 | some d=>
   rw[e] at hv;cases hv;obtain⟨g1,g2⟩:=h1 i d e;exact⟨g1,fun x o3 y=>let⟨s,r⟩:=g2 x o3 y bs;⟨s,by unfold bc;exact r⟩⟩
def Vx(K:W.Frag)(cl:ZF)(f:FA):TI:=fun σ H R=>∃ρ S δ vs S',fB K cl ρ H S σ δ/\f δ S= .ok vs S'/\∀J bQ H1,Pre ρ H bQ H1->SW K cl bQ H1 S'->O9 K bQ H1 J vs->R J H1
structure Me (X:Cx) (cl:ZF) (tg e:Expr) (f:FA):Prop where
 go:PI X tg e (Vx X.K cl f)
section
variable {X:Cx} {cl:ZF}
def iP(f:aw->R (List D)):FA:=fun δ S=>(R3.of (f (down δ)) S).bind fun ds S=> .ok (ds.map .d) S
theorem bS{f:aw->R (List D)}(h:DA X tg e f):Me X cl tg e (iP f):=⟨h.1.imp fun σ H Q ⟨ρ,S,δ,vs,S',E,hf,q⟩=>by
 obtain⟨ds,S1,h1,h2⟩:=R3.ak hf;obtain⟨h3,e3⟩:=R3.of_ok h1;cases h2;subst e3;exact⟨[],ρ.b,down δ,ds,E.down,h3,fun J H1 s r=>q J ρ H1 (Pre.same s) (E.sw.same s) (O9.of r)⟩⟩
def rm(f:FX):FA:=fun δ S=>(f δ S).bind fun v S=>match v with | .d (.int j)=>R3.bW (decide (-(2 ^ 62)<=j/\j < 2 ^ 62)) (.ok ((eM 0 j.toNat).map .d) S) | _=> .no
theorem j7{tg a:Expr}{p pos:Pos}(h:PX X cl a f)(hg:Gl X "range")(hm:X.mg "range"=none)(hs:starEach [a] X.env=[(false,eval a X.env)]:=by rfl):Me X cl tg (.Call (.Name "range" p) [a] [] pos) (rm f):=
 ⟨(xJ hg hm (fK h.1 ji hs) hs).imp fun σ H RR ⟨ρ,S,δ,vs,S',E,hf,q⟩=>by
   obtain⟨v,S1,h1,h2⟩:=R3.ak hf
   match v,h1,h2 with
   | .d (.int j),h1,h2=>
     obtain⟨hb,h3⟩:=R3.bf h2;cases h3;have hb:=of_decide_eq_true hb;refine⟨ρ,S,δ, .d (.int j),_,E,h1,fun u bQ H1 p1 w1 r1=>⟨j,?_,hb.1,hb.2,q _ bQ H1 p1 w1 (O9.of (HA 0 _))⟩⟩
     unfold bc Rep at r1;rw[r1]
   | .d .cH,_,h2=>cases h2
   | .d (.bl _),_,h2=>cases h2
   | .d (.str _),_,h2=>cases h2
   | .d (.lst _),_,h2=>cases h2
   | .d (.tup _),_,h2=>cases h2
   | .d (.dct _ _),_,h2=>cases h2
   | .loc _,_,h2=>cases h2
   | .lst _,_,h2=>cases h2
   | .tup _,_,h2=>cases h2⟩
def xi(f:FX):FA:=fun δ S=>(f δ S).bind fun v S=>match v with | .d (.lst ds)=> .ok (ds.map .d) S | .lst vs=> .ok vs S | _=> .no
theorem mQ(h:PX X cl e f):Me X cl tg e (xi f):=⟨by
 intro pins s σ H RR I ⟨ρ,S,δ,vs,S',E,hf,q⟩;obtain⟨v,S1,h1,h2⟩:=R3.ak hf;refine dY (h.1 pins s σ H (fun u H1=>∃bQ,Pre ρ H bQ H1/\SW X.K cl bQ H1 S1/\bc X.K bQ H1 v u) I ⟨ρ,S,δ,v,S1,E,h1,fun u bQ H1 p1 w1 r1=>⟨bQ,p1,w1,r1⟩⟩) fun u s1 ⟨x,H1,I1,r1,bQ,p1,w1,rr⟩=>?_
 have key:S1=S'/\∃a xs,x= .ref a/\uZ X.K bQ.b H1 a xs/\aJ X.K bQ H1 vs xs:=by
  match v,h2,rr with
  | .d (.lst ds),h2,rr=>
    cases h2;unfold bc Rep at rr;obtain⟨a,xs,e,l,r⟩:=rr;exact⟨rfl,a,xs,e,l,aJ.of r⟩
  | .lst ws,h2,rr=>
    cases h2;unfold bc at rr;exact⟨rfl,rr⟩
  | .d .cH,h2,_=>cases h2
  | .d (.bl _),h2,_=>cases h2
  | .d (.int _),h2,_=>cases h2
  | .d (.str _),h2,_=>cases h2
  | .d (.tup _),h2,_=>cases h2
  | .d (.dct _ _),h2,_=>cases h2
  | .loc _,h2,_=>cases h2
  | .tup _,h2,_=>cases h2
 obtain⟨rfl,a,xs,rfl,l,rr⟩:=key;cases r1;obtain⟨its,rv,p,hz⟩:=I1.list l.sq;refine wpAny_pyIter_list p.isList ?_;refine⟨s1.heap.objs.size,[s1.heap.objs.size],_,_,H1,rfl,I1.kept (t':=s1.toks) fun b o e=>Heap.get?_push_of_some _ e,x3 a _,⟨_,Heap.get?_push_size _ rfl,rfl,rfl⟩,fun b hb=>?_,q _ bQ H1 p1 w1 fun cS H' pr bs=>?_⟩
 .have e:b=s1.heap.objs.size:=by simpa using hb
  subst e;exact I1.xl (Nat.le_refl _) (I1.hok.fresh (Nat.le_refl _))
 .have l':uZ X.K cS.b H' a xs:=l.bt pr.bt;have rr':=rr.pw pr;refine⟨fun i d hd=>?_,⟨xs,l'.sq,by rw[rr.length];exact Nat.le_refl _⟩⟩
  obtain⟨x,hx,rx⟩:=rr'.get hd;exact⟨⟨xs,x,l'.sq,hx⟩,fun y o3 ⟨e1,e2⟩=>by
   subst e1;have:=e2 xs l'.sq;rw[hx] at this;cases this;exact⟨bb.refl _,rx⟩⟩⟩
abbrev FG:=V3->DE->Option DE
abbrev K5:=List V3->DE->Option DE
def gX(K:W.Frag)(cl:ZF)(t:FG):TG:=fun v σ H Q=>∃ρ S δ x ei,fB K cl ρ H S σ δ/\bc K ρ H x v/\t x δ=some ei/\∀dc H',bb H H'->fB K cl ρ H' S dc ei->Q dc H'
def Wi(K:W.Frag)(cl:ZF)(t:K5):Gx:=fun v σ H Q=>∃ρ S δ x ei,fB K cl ρ H S σ δ/\aJ K ρ H x v/\t x δ=some ei/\∀dc H',bb H H'->fB K cl ρ H' S dc ei->Q dc H'
structure L7 (X:Cx) (cl:ZF) (tg:Expr) (t:FG):Prop where
 go:PG X tg (gX X.K cl t)
structure Km (X:Cx) (cl:ZF) (tg:List Expr) (t:K5):Prop where
 go:JZ X tg (Wi X.K cl t)
theorem fB.same{K:W.Frag}{S:aF}{σ:L2.St}{δ:DE}(E:fB K cl ρ H S σ δ)(s:bb H H'):fB K cl ρ H' S σ δ:=E.to (Pre.same s) (E.sw.same s)
def jz(i:Nat):FG:=fun d δ=>if i < δ.length then some (δ.set i (some d)) else none
theorem aM{i:Nat}{pos:Pos}(hN:X.N.Nodup)(hi:X.N[i]? =some x)(hx:Loc X.env.scope x)(hf:X.fn x=true\/X.env.scope.names.lookup x=some .local:=by first | exact .inl rfl | exact .inr rfl | assumption):L7 X cl (.Name x pos) (jz i):=
 ⟨(D4 hN hi hx hf).imp fun v σ H Q ⟨ρ,S,δ,d,ei,E,r,ht,q⟩=>by
   unfold jz at ht;split at ht
   .rename_i hi;cases ht;exact q _ H (bb.refl H) (E.set (by rw[<-E.len];exact hi) r)
   .cases ht⟩
def KP:K5:=fun ds δ=>match ds with | []=>some δ | _=>none
def AJ(t:FG)(u:K5):K5:=fun ds δ=>match ds with | d ::r=>(t d δ).bind fun ei=>u r ei | []=>none
theorem jd:Km X cl [] KP:=⟨Ee.imp fun vs σ H Q ⟨ρ,S,δ,ds,ei,E,r,ht,q⟩=>by
 cases ds with
 | nil=>unfold aJ at r;cases ht;exact⟨r,q σ H (bb.refl H) E⟩
 | cons=>cases ht⟩
theorem cA{u:K5}(h1:L7 X cl e t)(h2:Km X cl es u)(hs:(assignEach (e ::es) X.env).map (·.2)=assign e X.env ::(assignEach es X.env).map (·.2):=by rfl):Km X cl (e ::es) (AJ t u):=
 ⟨(Av h1.1 h2.1 hs).imp fun vs σ H Q ⟨ρ,S,δ,ds,ei,E,r,ht,q⟩=>by
   cases ds with
   | nil=>cases ht
   | cons d ds=>
     obtain⟨x,xs,rfl,r1,r2⟩:=r.cu;have ht:(t d δ).bind (fun ei=>u ds ei)=some ei:=ht
     cases e1:t d δ with
     | none=>rw [e1] at ht;cases ht
     | some c_=>
       rw[e1] at ht;exact⟨x,xs,rfl,ρ,S,δ,d,c_,E,r1,e1,fun JM H1 s1 E1=>⟨ρ,S,c_,ds,ei,E1,r2.pre (Pre.same s1),ht,fun wo H2 s2 E2=>q wo H2 (s1.trans s2) E2⟩⟩⟩
def JD(n:Nat)(t:K5):FG:=fun d δ=>match d with
 | .d (.tup ds)=>if ds.length=n then t (ds.map .d) δ else none
 | .tup vs=>if vs.length=n then t vs δ else none
 | _=>none
theorem k3{k:Nat}{t:K5}{n:Nat}{pos:Pos}(hc:X.calm=true)(h:Km X cl es t)(hn:(assignEach es X.env).length=n:=by rfl)(Js:(assignEach es X.env).findIdx? (·.1)=none:=by rfl):L7 X cl (.Tuple es k pos) (JD n t):=
 ⟨(HJ hc h.1 hn Js).imp fun v σ H Q ⟨ρ,S,δ,d,ei,E,r,ht,q⟩=>by
   have key:∃vs a xs,v= .ref a/\xZ X.K ρ.b H a xs/\aJ X.K ρ H vs xs/\vs.length=n/\t vs δ=some ei:=by
    unfold JD at ht;split at ht
    .rename_i ds;split at ht
     .rename_i hl;unfold bc Rep at r;obtain⟨a,xs,e,l,r⟩:=r;exact⟨ds.map .d,a,xs,e,l,aJ.of r,by rw[List.length_map];exact hl,ht⟩
     .cases ht
    .rename_i vs;split at ht
     .rename_i hl;unfold bc at r;obtain⟨a,xs,e,l,r⟩:=r;exact⟨vs,a,xs,e,l,r,hl,ht⟩
     .cases ht
    .cases ht
   obtain⟨vs,a,xs,rfl,l,r,hl,ht⟩:=key;exact⟨a,xs,rfl,l.sq,by rw[<-r.length];exact hl,ρ,S,δ,vs,ei,E,r,ht,q⟩⟩
def JX(f:FX)(t:FG):FZ:=fun δ S=>(f δ S).bind fun d S=>match t d δ with | some ei=> .ok (.nx ei) S | none=> .no
theorem GU{tg e:Expr}{f:FX}{t:FG}{pos:Pos}(he:PX X cl e f)(hg:L7 X cl tg t)(hs:swapsWithSole [tg] e pos.line X.env=pure false:=by rfl)(hw:swappedStores [tg] e X.env=pure none:=by rfl)
 (h1:(assignEach [tg] X.env).map (·.2)=[assign tg X.env]:=by rfl):PZ X cl (.Assign [tg] e pos) (JX f t):=⟨(Ia he.1 hg.1 hs hw h1).imp fun D σ H ⟨ρ,S,δ,o,S',E,hf,q⟩=>by
 obtain⟨d,S1,h1,h2⟩:=R3.ak hf;split at h2
 .rename_i c_ e1;cases h2;exact⟨ρ,S,δ,d,_,E,h1,fun v bQ H1 p1 w1 r1=>⟨bQ,_,δ,d,c_,E.to p1 w1,r1,e1,fun dc H2 s2 E2=>q dc bQ H2 (p1.trans (Pre.same s2)) E2⟩⟩
 .cases h2⟩
def jx(t:FG)(body:FZ):List V3->FZ
 | [],δ,S=> .ok (.nx δ) S
 | d ::ds,δ,S=>match t d δ with
   | none=> .no
   | some c_=>(body c_ S).bind fun o S=>match o with | .nx cK=>jx t body ds cK S | .rt r=> .ok (.rt r) S
def fS(it:FA)(t:FG)(body:FZ):FZ:=fun δ S=>(it δ S).bind fun vs S=>jx t body vs δ S
theorem cC{tg iter:Expr}{body:List Stmt}{it:FA}{t:FG}{F:FZ}{pos:Pos}(hp:PassesOwn (model X.prog X.w) X.A X.env X.xe)(hc:X.calm=true)(hi:Me X cl tg iter it)(hg:L7 X cl tg t)(hb:FK X cl body F)
 (hs:∀x,foldedSetIterable iter X.env x=pure x:=by intro _;rfl):PZ X cl (.For tg iter body [] pos) (fS it t F):=⟨(BS hp hc hi.1 hg.1 hb.1 hs).imp fun D σ H ⟨ρ,S,δ,o,S',E,hf,q⟩=>by
 obtain⟨ds,S0,h1,h2⟩:=R3.ak hf;refine⟨ρ,S,δ,ds,S0,E,h1,fun J bQ H1 p1 w1 ir=>?_⟩
 refine⟨fun i m dc H'=>m=ds.length - i/\i<=ds.length/\∃cS S1 ei,Pre bQ H1 cS H'/\fB X.K cl cS H' S1 dc ei/\jx t F (ds.drop i) ei S1= .ok o S',⟨ds.length,rfl,Nat.zero_le _,bQ,S0,δ,Pre.refl bQ H1,E.to p1 w1,by simpa using h2⟩,?_⟩
 rintro i m dc H' ⟨rfl,hi,cS,S1,ei,pv,E',hl⟩;obtain⟨go,stop⟩:=ir cS H' pv.pw E'.sw.bs;by_cases hlt:i < ds.length
 .have hd:ds[i]? =some ds[i]:=List.getElem?_eq_getElem hlt;have hdrop:ds.drop i=ds[i] ::ds.drop (i+1):=List.drop_eq_getElem_cons hlt;rw[hdrop] at hl;unfold jx at hl;split at hl
  .cases hl
  .rename_i c_ h3;obtain⟨o1,S2,h5,h6⟩:=R3.ak hl;obtain⟨g1,g2⟩:=go i _ hd;refine .inr ⟨g1,fun wo H2=>∃m_ S2 cK,Pre bQ H1 m_ H2/\fB X.K cl m_ H2 S2 wo cK/\jx t F (ds.drop (i+1)) cK S2= .ok o S',fun wo H2 n=>⟨ds.length - (i+1),by omega,rfl,hlt,n⟩,fun x o3 y=>?_⟩
   obtain⟨ss,rr⟩:=g2 x o3 y;refine⟨cS,S1,ei,ds[i],c_,E'.same ss,rr,h3,fun wo H2 s2 E2=>⟨cS,S1,c_,o1,S2,E2,h5,?_⟩⟩
   have pv2:Pre bQ H1 cS H2:=pv.trans (Pre.same (ss.trans s2));cases o1 with
   | nx cK=>exact fun Bz zA H3 p3 E3=>⟨zA,S2,cK,pv2.trans p3,E3,h6⟩
   | rt d=>
     cases h6;exact fun v zA H3 p3 w r=>q v zA H3 (p1.trans (pv2.trans p3)) w r
 .have e:i=ds.length:=by omega
  subst e;rw[List.drop_length] at hl;cases hl;exact .inl ⟨stop,q dc cS H' (p1.trans pv) E'⟩⟩
end
end L3
end
section
namespace L3
open PySem PySem.Spec PyProof.Rows L2
mutual
def nU(n:Nat):V3->Bool
 | .d _=>true
 | .loc k=>decide (k < n)
 | .lst vs=>jQ n vs
 | .tup vs=>jQ n vs
def jQ(n:Nat):List V3->Bool
 | []=>true
 | v ::vs=>nU n v && jQ n vs
end
def pE(n:Nat):SO->Bool
 | .ins _ fs=>jQ n (fs.map (·.2))
 | _=>true
theorem Ko{ρ:P3}{n:Nat}{b:Addr}(h:b∈(ρ.cut n).b):b∈ρ.b:=by
 rcases P3.et.mp h with z | z
 .exact P3.et.mpr (.inl ⟨List.mem_of_mem_take z.1,z.2⟩)
 .exact P3.et.mpr (.inr z)
theorem j_{ρ:P3}(n:Nat):dX ρ.b H (ρ.cut n).b H:=fun b o e nb=>⟨e,fun hb=>nb (Ko hb)⟩
mutual
theorem bc.cut{K:W.Frag}{ρ:P3}{n:Nat}:∀{v:V3} {x:V},nU n v=true->bc K ρ H v x->bc K (ρ.cut n) H v x
 | .d y,x,_,h=>by unfold bc at h ⊢;exact h.bt (j_ n)
 | .loc k,x,o,h=>by
   unfold bc at h ⊢;unfold nU at o;obtain⟨a,h1,h2⟩:=h;exact⟨a,by show(ρ.r.take n)[k]? =_;rw [List.getElem?_take_of_lt (of_decide_eq_true o)];exact h1,h2⟩
 | .lst vs,x,o,h=>by
   unfold bc at h ⊢;unfold nU at o;obtain⟨a,xs,e,l,r⟩:=h;exact⟨a,xs,e,l.bt (j_ n),aJ.cut o r⟩
 | .tup vs,x,o,h=>by
   unfold bc at h ⊢;unfold nU at o;obtain⟨a,xs,e,l,r⟩:=h;exact⟨a,xs,e,xZ.bt (j_ n) l,aJ.cut o r⟩
theorem aJ.cut{K:W.Frag}{ρ:P3}{n:Nat}:∀{vs:List V3} {xs:List V},jQ n vs=true->aJ K ρ H vs xs->aJ K (ρ.cut n) H vs xs
 | [],_,_,h=>by unfold aJ at h ⊢;exact h
 | v ::vs,xs,o,h=>by
   unfold jQ at o;obtain⟨o1,o2⟩:=Bool.and_eq_true_iff.mp o;obtain⟨x,r,rfl,h1,h2⟩:=h.cu;exact aJ.cons (bc.cut o1 h1) (aJ.cut o2 h2)
end
theorem SW.cut{K:W.Frag}{cl:ZF}{ρ:P3}{S:aF}(w:SW K cl ρ H S){n:Nat}(ok:(S.take n).all (pE n)=true):SW K cl (ρ.cut n) H (S.take n):=
 ⟨by show(ρ.r.take n).length=_;rw [List.length_take,List.length_take,w.len],fun i j a hi hj=>by
   have hi:(ρ.r.take n)[i]? =some a:=hi;have hj:(ρ.r.take n)[j]? =some a:=hj;have gi:ρ.r[i]? =some a:=by
    rw[List.getElem?_take] at hi;split at hi
    .exact hi
    .cases hi
   have gj:ρ.r[j]? =some a:=by
    rw[List.getElem?_take] at hj;split at hj
    .exact hj
    .cases hj
   exact w.nd i j a gi gj,fun k a o hk ho=>by
   have hk:(ρ.r.take n)[k]? =some a:=hk;have gk:ρ.r[k]? =some a:=by
    rw[List.getElem?_take] at hk;split at hk
    .exact hk
    .cases hk
   have go:S[k]? =some o:=by
    rw[List.getElem?_take] at ho;split at ho
    .exact ho
    .cases ho
   have r:=w.ob k a o gk go;have oo:pE n o=true:=List.all_eq_true.mp ok o (List.mem_of_getElem? ho);cases o with
   | lst ds=>obtain⟨xs,e,q⟩:=r;exact⟨xs,e,q.bt (j_ n)⟩
   | dct kvs=>obtain⟨ys,e,e2,q⟩:=r;exact⟨ys,e,e2,q.bt (j_ n)⟩
   | ins c fs=>obtain⟨dx,ys,e,e2,q⟩:=r;exact⟨dx,ys,e,e2,q.cut oo⟩
   | hV=>exact r,fun b hb=>let⟨h1,h2⟩:=w.zb b hb;⟨h1,fun h=>h2 (List.mem_of_mem_take h)⟩,(fun k a hk ho=>by
   have hk:(ρ.r.take n)[k]? =some a:=hk;rw[List.getElem?_take] at hk;split at hk
   .rename_i hlt;rw[List.getElem?_take_of_lt hlt] at ho;exact w.fz k a hk ho
   .cases hk),w.ff,(fun k a hk ho=>by
   have hk:(ρ.r.take n)[k]? =some a:=hk;rw[List.getElem?_take] at hk;split at hk
   .rename_i hlt;rw[List.getElem?_take_of_lt hlt] at ho;exact w.fi k a hk ho
   .cases hk)⟩
theorem SW.ML{K:W.Frag}{cl:ZF}{ρ cS:P3}{n:Nat}(hn:ρ.r.length<=n)(p:Pre ρ H cS H'):Pre ρ H (cS.cut n) H':=
 ⟨p.bt.trans (j_ n),p.zz,p.zs,fun k a h=>by show(cS.r.take n)[k]? =_;rw [List.getElem?_take_of_lt (Nat.lt_of_lt_of_le (List.getElem?_eq_some_iff.mp h).1 hn)];exact p.ext k a h⟩
section
variable {X:Cx} {cl:ZF}
def cx(S:aF)(k:Nat):Option (List D):=match S[k]? with | some (.lst ds)=>some ds | _=>none
theorem cI{S:aF}{k:Nat}{ds:List D}(h:cx S k=some ds):S[k]? =some (.lst ds):=by
 unfold cx at h;split at h
 .rename_i e;cases h;exact e
 .cases h
def jy(δ:DE)(i:Nat):Option Nat:=match δ[i]? with | some (some (.loc k))=>some k | _=>none
theorem km{δ:DE}{i k:Nat}(h:jy δ i=some k):δ[i]? =some (some (.loc k)):=by
 unfold jy at h;split at h
 .rename_i e;cases h;exact e
 .cases h
def qb(i:Nat)(f:FX):FZ:=fun δ S=>match jy δ i with
 | none=> .no
 | some k=>match cx S k with
   | none=> .no
   | some _=>(f δ S).bind fun v S1=>match v with
     | .d d=>(match cx S1 k with | some ds=>R3.bW (decide (ds.length < sizeLine)) (.ok (.nx δ) (S1.set k (.lst (ds++[d])))) | none=> .no)
     | _=> .no
theorem lz{i:Nat}{x:Str}{e:Expr}{f:FX}{gU apos cD pos:Pos}(hN:X.N[i]? =some x)(hv:JA X.env.scope x)(he:PX X cl e f)
 (hd:(x==("__debug__":Str))=false:=by decide) (uq:(x==("__classdict__":Str))=false:=by decide)
 (hs:starEach [e] X.env=(false,eval e X.env) ::starEach [] X.env:=by rfl) (o4:(apos.endLine==cD.line)=true:=by rfl)
 (wC:((backTo cD (starEach [e] X.env)).all (fun x=>!x.1) && (backToKw cD (keywordEach [] X.env)).all (fun x=>x.1.isSome)
   && decide (([e]:List Expr).length+([]:List Keyword).length+(if([]:List Keyword).isEmpty then 0 else 1) < 30))=true:=by rfl)
 (Ge:swapsWith (.Call (.Attribute (.Name x gU) "append" apos) [e] [] cD) none pos.line X.env=pure false:=by rfl)
 (o7:attributeBase (.Name x gU) "append" X.env (eval (.Name x gU) X.env)=eval (.Name x gU) X.env:=by rfl) :
 PZ X cl (.Expr (.Call (.Attribute (.Name x gU) "append" apos) [e] [] cD) pos) (qb i f):=by
 refine⟨(uA (Eo (X:=X) PySem.F.plainAttrs_list PySem.F.slot_list_append PySem.F.type_list_append r9 (sL hN hv hd uq) (fK he.1 ji hs) o7 wC o4 hs) Ge).imp fun D σ H ⟨ρ,S,δ,o,S',E,hf,q⟩=>?_⟩
 unfold qb at hf;split at hf
 .cases hf
 .rename_i k hk;split at hf
  .cases hf
  .rename_i R_ h0;obtain⟨v,S1,h1,h2⟩:=R3.ak hf;split at h2
   .rename_i d;split at h2
    .rename_i ds h3;obtain⟨hl,h4⟩:=R3.bf h2;cases h4;obtain⟨u,u1,u2⟩:=E.val i _ (km hk);unfold bc at u2;obtain⟨a,a1,rfl⟩:=u2;obtain⟨RB,x0,_⟩:=E.sw.ob k a _ a1 (cI h0);refine⟨.ref a,u1, .inl ⟨rfl,RB,pM.of x0⟩,⟨ρ,S,δ, .d d,S1,E,h1,fun y bQ H1 p1 w1 r1=>?_⟩⟩
     have b1:=p1.ext k a a1;obtain⟨xs,x1,x2⟩:=w1.ob k a _ b1 (cI h3);refine⟨a,xs,y,rfl,rfl,x1,by rw[<-x2.length];exact of_decide_eq_true hl,?_⟩
     unfold bc at r1;obtain⟨w2,p2⟩:=w1.put (o:= .lst (ds++[d])) (u:= .lst (xs++[y])) b1 (w1.fz k a b1 (by rw[cI h3];intro h;cases h)) ⟨xs++[y],rfl,x2.append (aD.cons r1 aD.nil)⟩
     exact q σ bQ _ (p1.trans p2) (E.to (p1.trans p2) w2)
    .cases h2
   .cases h2
def IY(fo fi fe:FX):FZ:=fun δ S=>(fe δ S).bind fun v S1=>(fo δ S1).bind fun o S2=>(fi δ S2).bind fun j S3=>match v,o,j with
 | .d d, .loc k, .d (.int n)=>(match cx S3 k with
   | some ds=>(match Ai ds.length n with | some m=> .ok (.nx δ) (S3.set k (.lst (ds.set m d))) | none=> .no)
   | none=> .no)
 | _,_,_=> .no
def Gm(K:W.Frag)(cl:ZF)(n:Nat)(g:List V3->aF->R3 V3):Sp:=fun vs H Q _=>vs.length=n/\∃ρ S xs v S',SW K cl ρ H S/\aJ K ρ H xs vs/\g xs S= .ok v S'/\∀u cS H',Pre ρ H cS H'->SW K cl cS H' S'->bc K cS H' v u->Q u H'
def bJ(g:List V3->aF->R3 V3)(fs:FA):FX:=fun δ S=>(fs δ S).bind g
def aZ(P:Program)(w:World)(K:W.Frag)(mg:ZE)(base:Heap)(cl:ZF)(k:Nat)(x:Str)(n:Nat)(g:List V3->aF->R3 V3):Prop:=
 ∃(f:Addr) (fd:FuncData) (ps:List Str),jl P w K mg base wI k f fd ps (Gm K cl n g)/\mg x=some (.ref f)/\PySem.W.keepIn K (.ref f)=true/\Binds K fd ps []
theorem aW{g:List V3->aF->R3 V3}{k j n:Nat}{x:Str}{p pos:Pos}{e:Expr}{es:List Expr}{fs:FA}(C:aZ X.prog X.w X.K X.mg X.base cl k x n g)(hr:eU j X.A)(Jt:k<=j)(hg:Gl X x)(ha:Gn X cl (e ::es) fs)
 (hn:∀δ S ds S',fs δ S= .ok ds S'->ds.length=n) (qG:(x==("__debug__":Str))=false:=by decide) (he:starEach (e ::es) X.env=(false,eval e X.env) ::starEach es X.env:=by rfl) (m7:(backTo pos (starEach es X.env)).any (·.1)=false:=by rfl) :
 PX X cl (.Call (.Name x p) (e ::es) [] pos) (bJ g fs):=by
 obtain⟨f,fd,ps,F,hm,hk,hb⟩:=C;refine⟨(yN F (hr.mono Jt) hg hm hk hb .nil AO ha.1 qG he m7).imp fun σ H Q ⟨ρ,S,δ,v,S',E,hf,q⟩=>?_⟩
 obtain⟨vs,S1,h1,h2⟩:=R3.ak hf;refine⟨ρ,S,δ,vs,S1,E,h1,fun us bQ H1 p1 w1 r1=>?_⟩
 show Gm X.K cl n g (us++[]) H1 Q E0;rw[List.append_nil];exact⟨by rw[<-r1.length];exact hn δ S vs S1 h1,bQ,S1,vs,v,S',w1,r1,h2,fun z m_ H2 p2 w2 r2=>q z m_ H2 (p1.trans p2) w2 r2⟩
end
def cm(N:List Str)(vs:List V3):DE:=vs.map some++List.replicate (N.length - vs.length) none
theorem HH{K:W.Frag}{cl:ZF}{S:aF}{N:List Str}{ds:List V3}{vs:List V}(w:SW K cl ρ H S)(r:aJ K ρ H ds vs):fB K cl ρ H S (L2.start N vs) (cm N ds) where
 len:=by unfold L2.start cm;simp [r.length]
 sw:=w
 val:=fun i d e=>by
  unfold cm at e;unfold L2.start;by_cases hi:i < ds.length
  .rw [List.getElem?_append_left (by simpa using hi),List.getElem?_map] at e
   cases q:ds[i]? with
   | none=>rw [q] at e;cases e
   | some d'=>
     rw[q] at e;cases e;obtain⟨x,h1,h2⟩:=r.get q;exact⟨x,by rw[List.getElem?_append_left (by rw[List.length_map,<-r.length];exact hi),List.getElem?_map,h1];rfl,h2⟩
  .rw [List.getElem?_append_right (by simpa using hi),List.getElem?_replicate] at e
   split at e <;> cases e
def nB(N:List Str)(F:FZ):List V3->aF->R3 V3:=fun vs S=>(F (cm N vs) S).bind fun o S'=>match o with | .rt v=> .ok v S' | .nx _=> .ok (.d .cH) S'
def nC(N:List Str)(F:FZ):List V3->aF->R3 V3:=fun vs S=>(nB N F vs S).bind fun v S'=>match res S' v with
 | some d=>R3.bW ((S'.take S.length).all (pE S.length) && eN S.length v) (.ok (.d d) (S'.take S.length))
 | none=> .no
theorem Kj{P:Program}{w:World}{K:W.Frag}{mg:ZE}{base:Heap}{cl:ZF}{x qual:Str}{st:Stmt}{f:Addr}{fd:FuncData}{N ps:List Str}{k:Nat}{F:FZ}(Fn:DP K x qual st f fd)(S:a_ N ps (az st))
 (mv:∀(dU:Value) (A:Around) (outer:List Env) (s:Shared) (H:Hp) (E:XK),eU k (A.deeper (envOfC qual (az st) s.heap.objs.size f dU))->
   FK (wm wI P w K mg base N qual (az st) f dU A outer s H E).Kg cl (aO st) F):jl P w K mg base wI (k+1) f fd ps (Gm K cl ps.length (nB N F)):=by
 refine Fn.ok S (fun vs H Q E h=>h.1) (fun dU A outer s H vs Q E hr h=>⟨_,(mv dU A outer s H E hr).1,?_⟩)
 obtain⟨_,ρ,S,ds,v,S',w,r,hg,q⟩:=h;obtain⟨o,S1,h1,h2⟩:=R3.ak hg;refine⟨ρ,S,cm N ds,o,S1,HH w r,h1,?_⟩;cases o with
 | nx ei=>
   cases h2;exact fun dc cS H' p' E'=>q _ cS H' p' E'.sw (by unfold bc Rep;rfl)
 | rt d'=>
   cases h2;exact fun u cS H' p' w' r'=>q u cS H' p' w' r'
theorem BW{K:W.Frag}{cl:ZF}{N:List Str}{n:Nat}{vs:List V}{Q:VK}{E:XK}(h:Gm K cl n (nC N F) vs H Q E):Gm K cl n (nB N F) vs H Q E:=by
 obtain⟨hl,ρ,S,xs,v,S',w,r,hg,q⟩:=h;obtain⟨v1,S1,h1,h2⟩:=R3.ak hg;refine⟨hl,ρ,S,xs,v1,S1,w,r,h1,fun u bQ H1 p1 w1 r1=>?_⟩
 have pc:Pre ρ H (bQ.cut S.length) H1:=SW.ML (K:=K) (cl:=cl) (by rw[w.len];exact Nat.le_refl _) p1
 split at h2
 .rename_i d e;obtain⟨ok,h3⟩:=R3.bf h2;obtain⟨ok,hk⟩:=Bool.and_eq_true_iff.mp ok;cases h3;refine q u _ H1 pc (w1.cut ok) ?_;unfold bc;refine r1.resB w1 (j_ _) (fun k a hk a1 ha=>?_) hk e
  rcases P3.et.mp ha with⟨z,_⟩ | z
  .obtain⟨j,hj⟩:=List.getElem?_of_mem z;have hj:(bQ.r.take S.length)[j]? =some a:=hj;rw[List.getElem?_take] at hj;split at hj
   .rename_i hjl;have:=w1.nd j k a hj a1;omega
   .cases hj
  .exact(w1.zb a z).2 (List.mem_of_getElem? a1)
 .cases h2
end L3
end
section
namespace L3
open PySem PySem.Spec PyProof.Rows L2
theorem aD.setAt{K:W.Frag}{ρ:P3}:∀{ds:List D} {xs:List V} {m:Nat} {d:D} {v:V},aD K ρ.b H ds xs->Rep K ρ.b H d v->aD K ρ.b H (ds.set m d) (xs.set m v)
 | [],_,_,_,_,h,_=>by unfold aD at h;subst h;exact aD.nil
 | e ::ds,xs,0,d,v,h,r=>by
   obtain⟨x,r',rfl,h1,h2⟩:=h.cu;exact aD.cons r h2
 | e ::ds,xs,m+1,d,v,h,r=>by
   obtain⟨x,r',rfl,h1,h2⟩:=h.cu;exact aD.cons h1 (aD.setAt h2 r)
section
variable {X:Cx} {cl:ZF}
theorem CP{o i e:Expr}{fo fi fe:FX}{uu pos:Pos}(he:PX X cl e fe)
 (hg:PG X (.Subscript o i uu) (P0 (tX X.K cl fo) (tX X.K cl fi) L4))
 (hs:swapsWithSole [.Subscript o i uu] e pos.line X.env=pure false:=by rfl) (hw:swappedStores [.Subscript o i uu] e X.env=pure none:=by rfl)
 (h1:(assignEach [.Subscript o i uu] X.env).map (·.2)=[assign (.Subscript o i uu) X.env]:=by rfl):PZ X cl (.Assign [.Subscript o i uu] e pos) (IY fo fi fe):=⟨(Ia he.1 hg hs hw h1).imp fun D σ H ⟨ρ,S,δ,ou,S',E,hf,q⟩=>by
 obtain⟨v,S1,h1,h2⟩:=R3.ak hf;obtain⟨vo,S2,h3,h4⟩:=R3.ak h2;obtain⟨vi,S3,h5,h6⟩:=R3.ak h4;split at h6
 .rename_i d k n;split at h6
  .rename_i ds hds;split at h6
   .rename_i m hm;cases h6;refine⟨ρ,S,δ, .d d,S1,E,h1,fun u bQ H1 p1 w1 r1=>⟨bQ,S1,δ, .loc k,S2,E.to p1 w1,h3,fun u2 m_ H2 p2 w2 r2=>⟨m_,S2,δ, .d (.int n),S3,(E.to p1 w1).to p2 w2,h5,fun u3 zA H3 p3 w3 r3=>?_⟩⟩⟩
    unfold bc at r2;obtain⟨a,a1,rfl⟩:=r2;have a3:=p3.ext k a a1;obtain⟨xs,x1,x2⟩:=w3.ob k a _ a3 (cI hds);unfold bc Rep at r3;have rZ:=r1.pre (p2.trans p3);unfold bc at rZ;obtain⟨w4,p4⟩:=w3.put (o:= .lst (ds.set m d)) (u:= .lst (xs.set m u)) a3 (w3.fz k a a3 (by rw[cI hds];intro h;cases h)) ⟨xs.set m u,rfl,aD.setAt x2 rZ⟩
    exact⟨a,xs,n,m,rfl,r3,x1,by rw[<-x2.length];exact hm,q σ zA _ (((p1.trans p2).trans p3).trans p4) (E.to (((p1.trans p2).trans p3).trans p4) w4)⟩
   .cases h6
  .cases h6
 .cases h6⟩
def kX(δ:DE)(i:Nat):Option V3:=match δ[i]? with | some (some v)=>some v | _=>none
def oq(own:List Str)(kp:List Nat)(δ:DE):DE:=List.replicate own.length none++kp.map (kX δ)
theorem Lh{K:W.Frag}{S S':aF}{σ:L2.St}{δ:DE}{own:List Str}{kp:List Nat}(E:fB K cl ρ H S σ δ)(p:PW ρ H cS H')(w:SW K cl cS H' S'):fB K cl cS H' S' (dS own kp σ) (oq own kp δ) where
 len:=by unfold dS oq;simp
 sw:=w
 val:=fun i d e=>by
  unfold oq at e;unfold dS;by_cases hi:i < own.length
  .rw [List.getElem?_append_left (by simpa using hi),List.getElem?_replicate] at e
   split at e <;> cases e
  .rw [List.getElem?_append_right (by simpa using hi),List.length_replicate,List.getElem?_map] at e ⊢
   cases q:kp[i - own.length]? with
   | none=>rw [q] at e;cases e
   | some j=>
     rw[q] at e;have e:kX δ j=some d:=Option.some.inj e;unfold kX at e;split at e
     .rename_i d' ed;cases e;obtain⟨v,h1,h2⟩:=E.val j d ed;exact⟨v,by simp [h1],h2.pw p⟩
     .cases e
def nW(t:FG)(c:FB)(f:FX)(δ:DE):List V3->aF->R3 (List V3)
 | [],S=> .ok [] S
 | v ::vs,S=>match t v δ with
   | none=> .no
   | some c_=>(c c_ S).bind fun b S1=>if b then(f c_ S1).bind fun y S2=>(nW t c f δ vs S2).bind fun ys S3=> .ok (y ::ys) S3 else nW t c f δ vs S1
def k4(it:FA)(t:FG)(c:FB)(f:FX)(own:List Str)(kp:List Nat):FX:=fun δ S=>(it δ S).bind fun vs S1=>R3.bW (decide (vs.length<=sizeLine)) ((nW t c f (oq own kp δ) vs S1).bind fun ys S2=> .ok (tL ys) S2)
theorem aJ.append{K:W.Frag}:∀{ds es:List V3} {xs ys:List V},aJ K ρ H ds xs->aJ K ρ H es ys->aJ K ρ H (ds++es) (xs++ys)
 | [],_,_,_,h,t=>by unfold aJ at h;subst h;exact t
 | d ::ds,es,xs,ys,h,t=>by
   obtain⟨x,r,rfl,h1,h2⟩:=h.cu;exact aJ.cons h1 (aJ.append h2 t)
theorem Ei{K:W.Frag}{own:List Str}{kp:List Nat}{σ:L2.St}{Q:VK}(h:tX K cl (k4 it t c f own kp) σ H Q) :
 Ew (Vx K cl it) (gX K cl t) (MM K cl c) (tX K cl f) own kp σ H Q:=by
 obtain⟨ρ,S,δ,v,SF,E,hf,q⟩:=h;obtain⟨es,S1,h1,h2⟩:=R3.ak hf;obtain⟨hl,h3⟩:=R3.bf h2;have hl:=of_decide_eq_true hl;obtain⟨vs,S2,h4,h5⟩:=R3.ak h3;cases h5;refine⟨ρ,S,δ,es,S1,E,h1,fun J bQ H1 p1 w1 ir Dd hD=>?_⟩
 have nDz:Dd ∉ bQ.b:=fun hb=>by obtain⟨o,ho⟩:=w1.bs Dd hb;rw [hD] at ho;cases ho
 have nDr:Dd ∉ bQ.r:=fun hb=>by obtain⟨o,ho⟩:=w1.rs Dd hb;rw [hD] at ho;cases ho
 have toZ:∀{r' f':List Addr} {H':Hp},Pre bQ H1 ⟨r',bQ.z,f'⟩ H'->PW bQ H1 ⟨r',Dd ::bQ.z,f'⟩ H':=fun {r' f' H'} p=>⟨fun b o e nb=>⟨(p.bt b o e nb).1,fun hb=>by
  rcases P3.et.mp hb with z | z
  .exact(p.bt b o e nb).2 (P3.et.mpr (.inl z))
  .rcases List.mem_cons.mp z with y | y
   .exact b_ e hD y
   .exact(p.bt b o e nb).2 (P3.et.mpr (.inr y))⟩,p.ext⟩
 have w0:SW K cl ⟨bQ.r,Dd ::bQ.z,bQ.f⟩ (upd H1 Dd (.lst [])) S1:=by
  have s0:bb H1 (upd H1 Dd (.lst [])):=aU hD;have ws:=w1.same s0;refine⟨ws.len,ws.nd,fun k a o hk ho=>?_,fun b hb=>?_,ws.fz,ws.ff,ws.fi⟩
  .have r:=w1.ob k a o hk ho;obtain⟨u,hu⟩:=r.some;rw[s0 a u hu,<-hu];exact r.pw (toZ (Pre.same s0))
  .rcases List.mem_cons.mp hb with y | y
   .subst y;exact⟨⟨_,ba⟩,nDr⟩
   .exact ws.zb b y
 refine⟨fun i m ys H'=>m=es.length - i/\i<=es.length/\ys.length<=i/\H' Dd=some (.lst ys)/\∃r' f' S' done rest,Pre bQ H1 ⟨r',bQ.z,f'⟩ H'/\SW K cl ⟨r',Dd ::bQ.z,f'⟩ H' S'/\vs=done++rest/\aJ K ⟨r',Dd ::bQ.z,f'⟩ H' done ys/\nW t c f (oq own kp δ) (es.drop i) S'= .ok rest SF,
  ⟨es.length,rfl,Nat.zero_le _,Nat.le_refl _,ba,bQ.r,bQ.f,S1,[],vs,Pre.same (aU hD),w0,rfl,aJ.nil,by simpa using h4⟩,?_⟩
 rintro i m ys H' ⟨rfl,hi,hy,hDl,r',f',S',done,rest,pv,w',rfl,rd,hc⟩;obtain⟨go,stop⟩:=ir ⟨r',Dd ::bQ.z,f'⟩ H' (toZ pv) w'.bs;have unZ:∀{Jm:P3} {H4:Hp},Pre ⟨r',Dd ::bQ.z,f'⟩ H' Jm H4->Pre bQ H1 ⟨Jm.r,bQ.z,Jm.f⟩ H4:=fun {Jm H4} p4=>⟨fun b o e nb=>by
  obtain⟨e1,n1⟩:=(toZ pv).bt b o e nb;obtain⟨fR,n2⟩:=p4.bt b o e1 n1;refine⟨fR,fun hb=>n2 ?_⟩
  rcases P3.et.mp hb with z | z
  .exact P3.et.mpr (.inl z)
  .exact P3.et.mpr (.inr (by rw[p4.zz];exact List.mem_cons_of_mem _ z)),rfl,fun b o hb h=>p4.zs b o (List.mem_cons_of_mem _ hb) (pv.zs b o hb h),fun k a h=>p4.ext k a (pv.ext k a h)⟩
 by_cases hlt:i < es.length
 .have hd:es[i]? =some es[i]:=List.getElem?_eq_getElem hlt;have hdrop:es.drop i=es[i] ::es.drop (i+1):=List.drop_eq_getElem_cons hlt;rw[hdrop] at hc;unfold nW at hc;split at hc
  .cases hc
  .rename_i c_ h6;obtain⟨b,T1,h7,h8⟩:=R3.ak hc;obtain⟨g1,g2⟩:=go i _ hd;refine .inr ⟨g1,fun x H2 y=>?_⟩
   obtain⟨sy,ry⟩:=g2 x H2 y;have Ec:fB K cl ⟨r',Dd ::bQ.z,f'⟩ H2 S' (dS own kp σ) (oq own kp δ):=Lh E (p1.pw.trans ((toZ pv).trans (Pre.same sy).pw)) (w'.same sy);refine⟨⟨r',Dd ::bQ.z,f'⟩,S',oq own kp δ,es[i],c_,Ec,ry,h6,fun Bz H3 s3 E3=>⟨⟨r',Dd ::bQ.z,f'⟩,S',c_,b,T1,E3,h7,fun Jm H4 p4 w4=>?_⟩⟩
   have Rh:Pre ⟨r',Dd ::bQ.z,f'⟩ H' Jm H4:=(Pre.same (sy.trans s3)).trans p4;cases b with
   | true=>
     rw[if_pos rfl] at h8;refine F6 ?_;obtain⟨yv,T2,h9,RZ⟩:=R3.ak h8;obtain⟨rs,T3,UW,X4⟩:=R3.ak RZ;cases X4;refine⟨Jm,T1,c_,yv,T2,E3.to p4 w4,h9,fun v5 V2 H5 p5 w5 r5=>?_⟩
     have pv5:Pre ⟨r',Dd ::bQ.z,f'⟩ H' V2 H5:=Rh.trans p5;have UB:H5 Dd=some (.lst ys):=pv5.zs Dd _ List.mem_cons_self hDl;have u5:=unZ pv5;obtain⟨R1,z5,f5⟩:=V2;have ez:z5=Dd ::bQ.z:=pv5.zz;subst ez;have nr:Dd ∉ R1:=(w5.zb Dd List.mem_cons_self).2;have pw:PW ⟨R1,Dd ::bQ.z,f5⟩ H5 ⟨R1,Dd ::bQ.z,f5⟩ (upd H5 Dd (.lst (ys++[v5]))):=⟨fun b o e nb=>⟨by rw[bj (fun(z:b=Dd)=>nb (by rw[z];exact P3.et.mpr (.inr List.mem_cons_self)))];exact e,nb⟩,fun _ _ h=>h⟩
     refine⟨UB,by omega,es.length - (i+1),by omega,rfl,hlt,by rw[List.length_append,List.length_singleton];omega,ba,R1,f5,T2,done++[yv],rs,?_,?_,by simp,aJ.append ((rd.pre pv5).pw pw) (aJ.cons (r5.pw pw) aJ.nil),UW⟩
     .refine⟨fun b o e nb=>⟨by rw[bj (b_ e hD)];exact(u5.bt b o e nb).1,(u5.bt b o e nb).2⟩,rfl,fun b o hb h=>?_,u5.ext⟩
      rw[bj (b_ h hD)];exact u5.zs b o hb h
     .refine⟨w5.len,w5.nd,fun k a o hk ho=>?_,fun b hb=>?_,w5.fz,fun b hb=>?_,w5.fi⟩
      .have ne:a≠Dd:=fun z=>nr (by rw[<-z];exact List.mem_of_getElem? hk)
       rw[bj ne];exact(w5.ob k a o hk ho).pw pw
      .obtain⟨⟨o,ho⟩,n⟩:=w5.zb b hb;refine⟨?_,n⟩;by_cases z:b=Dd
       .subst z;exact⟨_,ba⟩
       .rw [bj z];exact⟨o,ho⟩
      .obtain⟨o,ho⟩:=w5.ff b hb;by_cases z:b=Dd
       .subst z;exact⟨_,ba⟩
       .rw [bj z];exact⟨o,ho⟩
   | false=>
     rw[if_neg (by decide)] at h8
     refine Fe ?_;have YK:H4 Dd=some (.lst ys):=Rh.zs Dd _ List.mem_cons_self hDl;have u4:=unZ Rh;obtain⟨Yb,z4,f4⟩:=Jm;have ez:z4=Dd ::bQ.z:=Rh.zz;subst ez;exact⟨es.length - (i+1),by omega,rfl,hlt,by omega,YK,Yb,f4,T1,done,rest,u4,w4,rfl,rd.pre Rh,h8⟩
 .have e:i=es.length:=by omega
  subst e;rw[List.drop_length] at hc;cases hc;rw[List.append_nil] at q;refine .inl ⟨stop,?_⟩;have back:PW ⟨r',Dd ::bQ.z,f'⟩ H' ⟨r',bQ.z,f'⟩ H':=⟨fun b o e nb=>⟨e,fun hb=>nb (by
   rcases P3.et.mp hb with z | z
   .exact P3.et.mpr (.inl z)
   .exact P3.et.mpr (.inr (List.mem_cons_of_mem _ z)))⟩,fun _ _ h=>h⟩
  have wB:SW K cl ⟨r',bQ.z,f'⟩ H' _:=⟨w'.len,w'.nd,fun k a o hk ho=>(w'.ob k a o hk ho).pw back,fun b hb=>w'.zb b (List.mem_cons_of_mem _ hb),w'.fz,w'.ff,w'.fi⟩
  refine q _ ⟨r',bQ.z,f'⟩ H' (p1.trans pv) wB (xO (.inl ⟨fun hb=>?_, .inl hDl⟩) (rd.pw back))
  rcases P3.et.mp hb with z | z
  .exact(w'.zb Dd List.mem_cons_self).2 z.1
  .exact nDz (P3.et.mpr (.inr z))
end
end L3
end
section
namespace L3
open PySem PySem.Spec PyProof.Rows L2
section
variable {X:Cx} {cl:ZF}
theorem rq{scope:Scope}{own:List Str}{kp:List Nat}{kn:List Str}{tg iter elt:Expr}{ifs:List Expr}{it:FA}{t:FG}{c:FB}{f:FX}{pos:Pos}(hc:X.calm=true)(C:bZ X scope own kp kn)(hi:Me X cl tg iter it)
 (hg:∀fp s H,L7 (bX X scope (own++kn) fp s H) cl tg t) (Jo:∀fp s H,sv (bX X scope (own++kn) fp s H) ifs (MM X.K cl c)) (he:∀fp s H,PX (bX X scope (own++kn) fp s H) cl elt f)
 (hs:∀x,foldedSetIterable iter X.env x=pure x:=by intro _;rfl):PX X cl (.ListComp elt [⟨tg,iter,ifs,0⟩] scope pos) (k4 it t c f own kp):=
 ⟨(ED hc C hi.1 (fun fp s H=>(hg fp s H).1) Jo (fun fp s H=>(he fp s H).1) hs).imp fun σ H Q h=>Ei h⟩
def Bs:FB:=fun _ S=> .ok true S
theorem jL:sv X [] (MM X.K cl Bs):=fun pins s σ H Q I ⟨ρ,S,δ,b,S',E,hf,q⟩=>Bq pins s σ H Q I (by cases hf;exact q ρ H (Pre.refl ρ H) E.sw)
theorem Ar(h:BF X cl e c):sv X [e] (MM X.K cl c):=Be h.1
theorem NP{K:W.Frag}{i:Nat}{D:Ends}{σ:L2.St}(h:sX K cl (bR i f) D σ H):Fx (tX K cl f) (wb i) D σ H:=by
 obtain⟨ρ,S,δ,o,S',E,hf,q⟩:=h;obtain⟨v,S1,h1,h2⟩:=R3.ak hf;obtain⟨hi,h3⟩:=R3.bf h2;cases h3;refine⟨ρ,S,δ,v,_,E,h1,fun u bQ H1 p1 w1 r1=>?_⟩
 exact q _ bQ H1 p1 ((E.to p1 w1).set (by rw[<-E.len];exact of_decide_eq_true hi) r1)
theorem pY{i:Nat}{x:Str}{pos' uu:Pos}{scope:Scope}{own:List Str}{kp:List Nat}{kn:List Str}{tg iter elt:Expr}{ifs:List Expr}{it:FA}{t:FG}{c:FB}{f:FX}{pos:Pos}(hc:X.calm=true)
 (hN:X.N.Nodup) (hx:X.N[i]? =some x) (Pg:X.env.scope.names.lookup x=some .local) (C:bZ X scope own kp kn) (hi:Me X cl tg iter it)
 (hg:∀fp s H,L7 (bX X scope (own++kn) fp s H) cl tg t) (Jo:∀fp s H,sv (bX X scope (own++kn) fp s H) ifs (MM X.K cl c)) (he:∀fp s H,PX (bX X scope (own++kn) fp s H) cl elt f)
 (Ge:swapsWith (.ListComp elt [⟨tg,iter,ifs,0⟩] scope pos) (some (.Name x pos')) uu.line X.env=pure true:=by rfl)
 (hs:∀x,foldedSetIterable iter X.env x=pure x:=by intro _;rfl):PZ X cl (.Assign [.Name x pos'] (.ListComp elt [⟨tg,iter,ifs,0⟩] scope pos) uu) (bR i (k4 it t c f own kp)):=
 ⟨(BZ hc hN hx Pg C hi.1 (fun fp s H=>(hg fp s H).1) Jo (fun fp s H=>(he fp s H).1) Ge hs).imp fun D σ H h=>Ei (NP h)⟩
def Tc(g:FA):FX:=fun δ S=>(g δ S).bind fun vs S1=>match su vs with
 | some ds=>R3.bW (decide (ds.length<=sizeLine)) (.ok (.loc S1.length) (S1++[.lst ds]))
 | none=> .no
theorem Pp{pos}(h:Gn X cl es g):PX X cl (.List es pos) (Tc g):=⟨(BR h.1).imp fun σ H Q ⟨ρ,S,δ,v,S',E,hf,q⟩=>by
 obtain⟨vs,S1,h1,h2⟩:=R3.ak hf;split at h2
 .rename_i ds e;obtain⟨hl,h3⟩:=R3.bf h2;cases h3;refine⟨ρ,S,δ,vs,S1,E,h1,fun us bQ H1 p1 w1 r1=>?_⟩
  rw[iA e] at r1;have r2:=r1.to;refine⟨by rw[<-r2.length];exact of_decide_eq_true hl,fun p hp=>?_⟩
  obtain⟨w2,p2⟩:=w1.new (a:=p) (o:= .lst ds) (aU (o:= .lst us) hp) hp ⟨us,ba,r2.bt (fun b o e nb=>⟨by rw[bj (b_ e hp)];exact e,fun hb=>by
   rcases P3.mem_push hb with z | z
   .exact nb z
   .exact b_ e hp z⟩)⟩
  exact q _ _ _ (p1.trans p2) w2 (by unfold bc;exact⟨p,by show(bQ.r++[p])[_]? =_;rw [<-w1.len,List.getElem?_append_right (Nat.le_refl _),Nat.sub_self];rfl,rfl⟩)
 .cases h2⟩
end
end L3
end
section
namespace L3
open PySem PySem.Spec PyProof.Rows L2
section
variable {X:Cx} {cl:ZF}
def lu(g:List D->R D)(fs:FA):FX:=fun δ S=>(fs δ S).bind fun vs S1=>match su vs with
 | some ds=>(R3.of (g ds) S1).bind fun d S=> .ok (.d d) S
 | none=> .no
theorem z9{K:W.Frag}{g:List D->R D}{σ:L2.St}{Q:VK}(h:tX K cl (lu g fs) σ H Q) :
 U9 K cl fs σ H fun vs H1=>∃B ds d,(∀a∈B,∃o,H1 a=some o)/\aD K B H1 ds vs/\g ds= .ok d/\∀z H',bb H1 H'->Rep K B H' d z->Q z H':=by
 obtain⟨ρ,S,δ,v,S',E,hf,q⟩:=h;obtain⟨vs,S1,h1,h2⟩:=R3.ak hf;split at h2
 .rename_i ds e;obtain⟨d,S2,h3,h4⟩:=R3.ak h2;obtain⟨h5,e5⟩:=R3.of_ok h3;cases h4;subst e5;refine⟨ρ,S,δ,vs,_,E,h1,fun us bQ H1 p1 w1 r1=>?_⟩
  rw[iA e] at r1;exact⟨bQ.b,ds,d,w1.bs,r1.to,h5,fun z H' s r=>q z bQ H' (p1.trans (Pre.same s)) (w1.same s) (by unfold bc;exact r)⟩
 .cases h2
theorem HW{g:List D->R D}{x:Str}{id:String}{p pos:Pos}{e:Expr}{es:List Expr}{fs:FA}(hc:dz X (.builtin id) g)(hg:Gl X x)(hm:X.mg x=none)(hv:bootBuiltins x=some (.builtin id))(ha:Gn X cl (e ::es) fs)(hn:x≠"__name__":=by decide)(qG:(x==("__debug__":Str))=false:=by decide)
 (he:starEach (e ::es) X.env=(false,eval e X.env) ::starEach es X.env:=by rfl) (m7:(backTo pos (starEach es X.env)).any (·.1)=false:=by rfl):PX X cl (.Call (.Name x p) (e ::es) [] pos) (lu g fs):=
 ⟨(uK hc.r hg hm hv ha.1 hn qG he m7).imp fun σ H Q h=>z9 h⟩
theorem EU{g:List D->R D}{x:Str}{T:String}{p pos:Pos}{e:Expr}{es:List Expr}{fs:FA}(hc:dz X (.type T) g)(hg:Gl X x)(hm:X.mg x=none)(hv:bootBuiltins x=some (.type T))(ha:Gn X cl (e ::es) fs)(hn:x≠"__name__":=by decide)(qG:(x==("__debug__":Str))=false:=by decide)
 (he:starEach (e ::es) X.env=(false,eval e X.env) ::starEach es X.env:=by rfl) (m7:(backTo pos (starEach es X.env)).any (·.1)=false:=by rfl):PX X cl (.Call (.Name x p) (e ::es) [] pos) (lu g fs):=
 ⟨(yh hc.r hg hm hv ha.1 hn qG he m7).imp fun σ H Q h=>z9 h⟩
def Y3(c:FB)(f g:FX):FX:=fun δ S=>(c δ S).bind fun b S=>if b then f δ S else g δ S
theorem aA:∀(δ:DE) (S:aF) (ds:List V3) (S':aF),bH δ S= .ok ds S'->ds.length=0:=fun δ S ds S' h=>by cases h;rfl
theorem af{g:FA}{n:Nat}(h:∀(δ:DE) (S:aF) (ds:List V3) (S':aF),g δ S= .ok ds S'->ds.length=n):∀(δ:DE) (S:aF) (ds:List V3) (S':aF),aq f g δ S= .ok ds S'->ds.length=n+1:=fun δ S ds S' e=>by
 obtain⟨v,S1,h1,h2⟩:=R3.ak e;obtain⟨vs,S2,h3,h4⟩:=R3.ak h2;cases h4;rw[List.length_cons,h δ S1 vs _ h3]
end
end L3
end
section
namespace L3
open PySem PySem.Spec PyProof.Rows L2
theorem x4{K:W.Frag}{ds:List V3}{xs:List V}{i:Int}{d:V3}(r:aJ K ρ H ds xs)(h:sU ds i=some d):∃x,sU xs i=some x/\bc K ρ H d x:=by
 unfold sU at h ⊢;rw[<-r.length];cases e:Ai ds.length i with
 | none=>rw [e] at h;cases h
 | some j=>
   rw[e] at h;exact r.get h
section
variable {X:Cx} {cl:ZF}
def Ly(fa fb:FX):FX:=fun δ S=>(fa δ S).bind fun a S1=>(fb δ S1).bind fun b S2=>match a,b with
 | .d x, .d y=>(R3.of (cR x y) S2).bind fun d S=> .ok (.d d) S
 | .lst vs, .d (.int i)=>(match sU vs i with | some v=> .ok v S2 | none=> .no)
 | .tup vs, .d (.int i)=>(match sU vs i with | some v=> .ok v S2 | none=> .no)
 | _,_=> .no
theorem xQ(ha:PX X cl a fa)(hb:PX X cl b fb)(hs:uD b):PX X cl (.Subscript a b pos) (Ly fa fb):=by
 refine⟨(LQ (r:=Tz X.K) IG ha.1 hb.1 hs).imp fun σ H Q ⟨ρ,S,δ,v,S',E,hf,q⟩=>?_⟩
 obtain⟨v1,S1,h1,h2⟩:=R3.ak hf;obtain⟨v2,S2,h3,h4⟩:=R3.ak h2;refine⟨ρ,S,δ,v1,S1,E,h1,fun u1 bQ H1 p1 w1 r1=>⟨bQ,S1,δ,v2,S2,E.to p1 w1,h3,fun u2 m_ H2 p2 w2 r2=>?_⟩⟩
 have rZ:=r1.pre p2;have Rk:=p1.trans p2;split at h4
 .rename_i x y;obtain⟨d,S3,h5,h6⟩:=R3.ak h4;obtain⟨h7,e7⟩:=R3.of_ok h5;cases h6;subst e7;unfold bc at rZ r2;unfold cR at h7;split at h7
  .split at h7
   .rename_i e;cases h7;obtain⟨p,xs,rfl,l,rs⟩:=Rep.lst.mp rZ;obtain⟨y,e1,e2⟩:=qU rs e;exact .inl ⟨p,xs,_,y,rfl,Rep.int.mp r2,l.sq,e1,q y m_ H2 Rk w2 (by unfold bc;exact e2)⟩
   .cases h7
  .split at h7
   .rename_i e;cases h7;obtain⟨p,xs,rfl,l,rs⟩:=Rep.tup.mp rZ;obtain⟨y,e1,e2⟩:=qU rs e;exact .inr (.inl ⟨p,xs,_,y,rfl,Rep.int.mp r2,l.sq,e1,q y m_ H2 Rk w2 (by unfold bc;exact e2)⟩)
   .cases h7
  .obtain⟨hl,h8⟩:=R.bf h7;split at h8
   .rename_i e;cases h8;exact .inr (.inr ⟨_,_,_,Rep.str.mp rZ,Rep.int.mp r2,of_decide_eq_true hl,e,q _ m_ H2 Rk w2 (by unfold bc;exact Rep.str.mpr rfl)⟩)
   .cases h8
  .cases h7
 .split at h4
  .rename_i e;cases h4;unfold bc at rZ r2;obtain⟨p,xs,rfl,l,rs⟩:=rZ;obtain⟨y,e1,e2⟩:=x4 rs e;exact .inl ⟨p,xs,_,y,rfl,Rep.int.mp r2,l.sq,e1,q y m_ H2 Rk w2 e2⟩
  .cases h4
 .split at h4
  .rename_i e;cases h4;unfold bc at rZ r2;obtain⟨p,xs,rfl,l,rs⟩:=rZ;obtain⟨y,e1,e2⟩:=x4 rs e;exact .inr (.inl ⟨p,xs,_,y,rfl,Rep.int.mp r2,l.sq,e1,q y m_ H2 Rk w2 e2⟩)
  .cases h4
 .cases h4
end
end L3
end
section
namespace L3
open PySem PySem.Spec PyProof.Rows L2
section
variable {X:Cx} {cl:ZF}
structure IP (X:Cx) (cl:ZF) (e:Expr) (f:FB):Prop where
 go:L2.PW X e (MM X.K cl f)
theorem IP.pb(h:IP X cl e f):BF X cl e f:=⟨L2.PW.pt h.1⟩
def Nt(f g:FB):FB:=fun δ S=>(f δ S).bind fun b S=>if b then g δ S else .ok false S
def RK(f g:FB):FB:=fun δ S=>(f δ S).bind fun b S=>if b then .ok true S else g δ S
def Lw(f:FB):FB:=fun δ S=>(f δ S).bind fun b S=> .ok (!b) S
theorem Jh(h:BF X cl a f):IP X cl (.BoolOp .And [a] pos) f:=⟨DL h.1⟩
theorem D5(h:BF X cl a f):IP X cl (.BoolOp .Or [a] pos) f:=⟨IM h.1⟩
theorem J_{rest:List Expr}(ha:BF X cl a f)(hb:IP X cl (.BoolOp .And (b ::rest) pos) g):IP X cl (.BoolOp .And (a ::b ::rest) pos) (Nt f g):=⟨by
 intro wh pins s σ H Q I ⟨ρ,S,δ,k,S',E,hf,q⟩;refine HI ha.1 hb.1 wh pins s σ H Q I ?_;obtain⟨c,S1,h1,h2⟩:=R3.ak hf;refine⟨ρ,S,δ,c,S1,E,h1,fun bQ H1 p1 w1=>?_⟩
 cases c with
 | true=>rw [if_pos rfl] at h2 ⊢;exact⟨bQ,S1,δ,k,S',E.to p1 w1,h2,fun m_ H' p2 w2=>q m_ H' (p1.trans p2) w2⟩
 | false=>rw [if_neg (by decide)] at h2 ⊢;cases h2;exact q bQ H1 p1 w1⟩
theorem IT{rest:List Expr}(ha:BF X cl a f)(hb:IP X cl (.BoolOp .Or (b ::rest) pos) g):IP X cl (.BoolOp .Or (a ::b ::rest) pos) (RK f g):=⟨by
 intro wh pins s σ H Q I ⟨ρ,S,δ,k,S',E,hf,q⟩;refine Mg ha.1 hb.1 wh pins s σ H Q I ?_;obtain⟨c,S1,h1,h2⟩:=R3.ak hf;refine⟨ρ,S,δ,c,S1,E,h1,fun bQ H1 p1 w1=>?_⟩
 cases c with
 | true=>rw [if_pos rfl] at h2 ⊢;cases h2;exact q bQ H1 p1 w1
 | false=>rw [if_neg (by decide)] at h2 ⊢;exact⟨bQ,S1,δ,k,S',E.to p1 w1,h2,fun m_ H' p2 w2=>q m_ H' (p1.trans p2) w2⟩⟩
theorem DH(ha:BF X cl a f):BF X cl (.UnaryOp .Not a pos) (Lw f):=⟨(HG ha.1).imp fun σ H Q ⟨ρ,S,δ,k,S',E,hf,q⟩=>by
 obtain⟨c,S1,h1,h2⟩:=R3.ak hf;cases h2;exact⟨ρ,S,δ,c,_,E,h1,fun bQ H1 p1 w1=>q bQ H1 p1 w1⟩⟩
def Iu(f:FX):FB:=fun δ S=>(f δ S).bind fun v S=>match v with | .d d=>R3.of (JO d) S | _=> .no
theorem Lz(ha:PX X cl a f)(ht:∀{t:TE},PE X a t->PT X a (fun σ H Q=>t σ H fun x H'=>∃b,Lk X.K x H' b/\Q b H')):BF X cl a (Iu f):=
 ⟨(ht ha.1).imp fun σ H Q ⟨ρ,S,δ,b,S',E,hf,q⟩=>by
   obtain⟨v,S1,h1,h2⟩:=R3.ak hf;split at h2
   .rename_i d;obtain⟨h3,e3⟩:=R3.of_ok h2;subst e3;exact⟨ρ,S,δ, .d d,_,E,h1,fun u bQ H1 p1 w1 r1=>⟨b,Je (by unfold bc at r1;exact r1) h3,q bQ H1 p1 w1⟩⟩
   .cases h2⟩
abbrev O7:=DE->aF->R3 (Option Int)
def Xa(K:W.Frag)(cl:ZF)(f:O7):TO:=fun σ H Q=>∃ρ S δ o S',fB K cl ρ H S σ δ/\f δ S= .ok o S'/\∀cS H',Pre ρ H cS H'->SW K cl cS H' S'->Q o H'
structure Y5 (X:Cx) (cl:ZF) (e:Option Expr) (f:O7):Prop where
 go:PO X e (Xa X.K cl f)
def Td:O7:=fun _ S=> .ok none S
def SV(f:FX):O7:=fun δ S=>(f δ S).bind fun v S=>match v with | .d (.int i)=> .ok (some i) S | _=> .no
def Y7(f:FX)(fl fh:O7):FX:=fun δ S=>(f δ S).bind fun v S1=>(fl δ S1).bind fun lo S2=>(fh δ S2).bind fun hi S3=>match v with
 | .d d=>(R3.of (Q4 d lo hi) S3).bind fun r S=> .ok (.d r) S
 | _=> .no
end
end L3
end
section
namespace L2
open PySem PySem.Spec PyProof.Rows
section
variable {X:Cx}
def M8(t T:String):Bool:=t==T || (t=="bool" && T=="int")
def WM(T:String)(f:FD):FD:=fun δ=>(f δ).bind fun d=>match d with | .dct _ _=> .no | _=> .ok (.bl (M8 (tyName d) T))
def nList(f:FD):aw->R (List D):=fun δ=>(f δ).bind fun d=>match d with | .lst ds=> .ok ds | .tup ds=> .ok ds | _=> .no
end
end L2
namespace L3
open PySem PySem.Spec PyProof.Rows L2
theorem bK{P:Program}{w:World}{K:W.Frag}{mg:ZE}{base:Heap}{cl:ZF}{x qual:Str}{st:Stmt}{f:Addr}{fd:FuncData}{N ps:List Str}{k:Nat}{F:FZ}{b:List Stmt}{sc:Scope}(hb:aO st=b)(hs:az st=sc)(Fn:DP K x qual st f fd)(S:a_ N ps sc)
 (mv:∀(dU:Value) (A:Around) (outer:List Env) (s:Shared) (H:Hp) (E:XK),eU k (A.deeper (envOfC qual sc s.heap.objs.size f dU))->
   FK (wm wI P w K mg base N qual sc f dU A outer s H E).Kg cl b F):jl P w K mg base wI (k+1) f fd ps (Gm K cl ps.length (nB N F)):=by
 subst hb hs;exact Kj Fn S mv
theorem aZ.p{K:W.Frag}{mg:ZE}{cl:ZF}{k:Nat}{n:Nat}{N:List Str}(C:aZ P w K mg base cl k x n (nB N F)):aZ P w K mg base cl k x n (nC N F):=
 let⟨f,fd,ps,F,h⟩:=C;⟨f,fd,ps,F.imp fun _ _ _ _ h=>BW h,h⟩
def RG(N:List Str)(F:FZ):List D->R D:=fun ds=>match nC N F (ds.map .d) [] with
 | .ok (.d d) []=>R.bW d.atom (.ok d)
 | _=> .no
theorem MH{K:W.Frag}{cl:ZF}{N:List Str}{n:Nat}{vs:List V}{Q:VK}{E:XK}(h:IE K n (RG N F) vs H Q E):Gm K cl n (nB N F) vs H Q E:=by
 obtain⟨hl,B,ds,d,hb,r,hg,q⟩:=h;unfold RG at hg;split at hg
 .rename_i d' e;obtain⟨ha,h2⟩:=R.bf hg;cases h2;have r0:aD K (⟨[],[],[]⟩:P3).b H ds vs:=r.bt fun b o e _=>⟨e,by simp [P3.b]⟩
  refine BW ⟨hl,⟨[],[],[]⟩,[],ds.map .d, .d d,[],⟨rfl,fun i j a hi=>by simp at hi,fun k a o hk=>by simp at hk,fun b hb=>by simp at hb,fun k a hk=>by simp at hk,fun b hb=>by simp at hb,fun k a hk=>by simp at hk⟩,aJ.of r0,e,fun u cS H' p w' r'=>q u H' (fun b o eb=>?_) ?_⟩
  .exact(p.bt b o eb (by simp [P3.b])).1
  .unfold bc at r';exact r'.atom ha
 .cases hg
section
variable {X:Cx} {cl:ZF}
theorem AV{a:Expr}(ha:PX X cl a f)(he:∀whole,isTrue a X.env whole=(do let v <-whole;standAt a.pos;holding [v] (truthy v)):=by intro _;rfl):BF X cl a (Iu f):=Lz ha fun h=>Ao h he
theorem uY{g:List D->R D}{k j n:Nat}{x:Str}{p pos:Pos}{e:Expr}{es:List Expr}{fs:FA}(C:Callee X.prog X.w X.K X.mg X.base k x n g)(hr:eU j X.A)(Jt:k<=j)(hg:Gl X x)(ha:Gn X cl (e ::es) fs)
 (hn:∀δ S ds S',fs δ S= .ok ds S'->ds.length=n) (qG:(x==("__debug__":Str))=false:=by decide) (he:starEach (e ::es) X.env=(false,eval e X.env) ::starEach es X.env:=by rfl) (m7:(backTo pos (starEach es X.env)).any (·.1)=false:=by rfl) :
 PX X cl (.Call (.Name x p) (e ::es) [] pos) (lu g fs):=by
 obtain⟨f,fd,ps,F,hm,hk,hb⟩:=C;refine⟨(yN F (hr.mono Jt) hg hm hk hb .nil AO ha.1 qG he m7).imp fun σ H Q ⟨ρ,S,δ,v,S',E,hf,q⟩=>?_⟩
 obtain⟨vs,S1,h1,h2⟩:=R3.ak hf;split at h2
 .rename_i ds e;obtain⟨d,S2,h3,h4⟩:=R3.ak h2;obtain⟨h5,e5⟩:=R3.of_ok h3;cases h4;subst e5;refine⟨ρ,S,δ,vs,_,E,h1,fun us bQ H1 p1 w1 r1=>?_⟩
  have hl:=hn δ S vs _ h1;rw[iA e] at r1;show IE X.K n g (us++[]) H1 Q E0;rw[List.append_nil];exact⟨by rw[<-r1.length,<-iA e];exact hl,bQ.b,ds,d,w1.bs,r1.to,h5,fun z H' s r=>q z bQ H' (p1.trans (Pre.same s)) (w1.same s) (by unfold bc;exact r)⟩
 .cases h2
def TM(f:FX):FA:=fun δ S=>(f δ S).bind fun v S=>match v with | .d (.tup ds)=> .ok (ds.map .d) S | .tup vs=> .ok vs S | _=> .no
end
end L3
end
section
namespace L3
open PySem PySem.Spec PyProof.Rows L2
def W3{α:Type}(r:R3 α)(Q:α->aF->Prop):Prop:=∃a S,r= .ok a S/\Q a S
section
variable {α β:Type} {Q Q':α->aF->Prop} {S:aF} {δ:DE}
theorem W3.ok{a:α}(h:Q a S):W3 (.ok a S) Q:=⟨a,S,rfl,h⟩
theorem W3.bind{Q:β->aF->Prop}{r:R3 α}{f:α->aF->R3 β}(h:W3 r fun a S=>W3 (f a S) Q):W3 (r.bind f) Q:=by
 obtain⟨a,S1,e1,b,S2,h2,q⟩:=h;exact⟨b,S2,by rw[e1];exact h2,q⟩
theorem W3.mono{r:R3 α}(h:W3 r Q)(m:∀a S,Q a S->Q' a S):W3 r Q':=let⟨a,S,e,q⟩:=h;⟨a,S,e,m a S q⟩
theorem W3.wh{c:Bool}{r:R3 α}(hc:c=true)(h:W3 r Q):W3 (R3.bW c r) Q:=by rw[hc];exact h
theorem W3.of{r:R α}{a:α}(e:r= .ok a)(h:Q a S):W3 (R3.of r S) Q:=by rw[e];exact⟨a,S,rfl,h⟩
end
section
variable {S:aF} {δ:DE} {QV:V3->aF->Prop} {QB:Bool->aF->Prop} {QA:List V3->aF->Prop} {QO:Ou->aF->Prop}
theorem bN{f:FD}{d:D}(e:f (down δ)= .ok d)(h:QV (.d d) S):W3 (xP f δ S) QV:=W3.bind (W3.of e (W3.ok h))
theorem BE{f:FD}{d:D}(e:f (df S δ)= .ok d)(ha:pB d=true)(h:QV (.d d) S):W3 (xT f δ S) QV:=W3.bind (W3.of e (W3.wh ha (W3.ok h)))
theorem k7{f:aw->R Bool}{b:Bool}(e:f (down δ)= .ok b)(h:QB b S):W3 (bP f δ S) QB:=W3.of e h
theorem Oe{f:aw->R Bool}{b:Bool}(e:f (df S δ)= .ok b)(h:QB b S):W3 (bT f δ S) QB:=W3.of e h
theorem w_var{i:Nat}{v:V3}(e:δ[i]? =some (some v))(h:QV v S):W3 (bC i δ S) QV:=by unfold bC;rw [e];exact W3.ok h
theorem ic{f:aw->R (List D)}{ds:List D}(e:f (down δ)= .ok ds)(h:QV (.loc S.length) (S++[.lst ds])):W3 (l7 f δ S) QV:=W3.bind (W3.of e (W3.ok h))
theorem bF(h:QA [] S):W3 (bH δ S) QA:=W3.ok h
theorem au{f:FX}{g:FA}(h:W3 (f δ S) fun v S1=>W3 (g δ S1) fun vs S2=>QA (v ::vs) S2):W3 (aq f g δ S) QA:=W3.bind (h.mono fun _ _ h=>W3.bind (h.mono fun _ _ h=>W3.ok h))
theorem rR{g:FA}(h:W3 (g δ S) fun vs S1=>vs.length<=sizeLine/\QV (Es vs) S1):W3 (wd g δ S) QV:=W3.bind (h.mono fun _ _ h=>W3.wh (decide_eq_true h.1) (W3.ok h.2))
theorem Qc{g:FA}(h:W3 (g δ S) fun vs S1=>vs.length<=sizeLine/\QV (tL vs) S1):W3 (OC g δ S) QV:=W3.bind (h.mono fun _ _ h=>W3.wh (decide_eq_true h.1) (W3.ok h.2))
theorem L9{g:D->D->R D}{fa fb:FX}(h:W3 (fa δ S) fun a S1=>W3 (fb δ S1) fun b S2=>∃x y d,a= .d x/\b= .d y/\g x y= .ok d/\QV (.d d) S2):W3 (x2 g fa fb δ S) QV:=
 W3.bind (h.mono fun _ _ h=>W3.bind (h.mono fun _ _ ⟨_,_,_,e1,e2,e3,q⟩=>by subst e1 e2;exact W3.bind (W3.of e3 (W3.ok q))))
theorem yC{g:D->D->R D}{fa fb:FX}(h:W3 (fa δ S) fun a S1=>W3 (fb δ S1) fun b S2=>∃x y k,a= .d x/\b= .d y/\g x y= .ok (.bl k)/\QB k S2):W3 (Ib g fa fb δ S) QB:=
 W3.bind (L9 (h.mono fun _ _ h=>h.mono fun _ _ ⟨x,y,k,e1,e2,e3,q⟩=>⟨x,y, .bl k,e1,e2,e3,W3.ok q⟩))
theorem FC{fa fb:FX}(h:W3 (fa δ S) fun a S1=>W3 (fb δ S1) fun b S2=>∃x y d,a= .d x/\b= .d y/\cR x y= .ok d/\QV (.d d) S2):W3 (Ly fa fb δ S) QV:=
 W3.bind (h.mono fun _ _ h=>W3.bind (h.mono fun _ _ ⟨_,_,_,e1,e2,e3,q⟩=>by subst e1 e2;exact W3.bind (W3.of e3 (W3.ok q))))
theorem cv{g:List V3->aF->R3 V3}{fs:FA}(h:W3 (fs δ S) fun vs S1=>W3 (g vs S1) QV):W3 (bJ g fs δ S) QV:=W3.bind h
theorem rn{g:List D->R D}{fs:FA}(h:W3 (fs δ S) fun vs S1=>∃ds d,vs=ds.map .d/\g ds= .ok d/\QV (.d d) S1):W3 (lu g fs δ S) QV:=
 W3.bind (h.mono fun _ _ ⟨ds,_,e1,e2,q⟩=>by subst e1;rw [vv];exact W3.bind (W3.of e2 (W3.ok q)))
theorem Hu{it:FA}{own:List Str}{kp:List Nat}(h:W3 (it δ S) fun vs S1=>vs.length<=sizeLine/\W3 (nW t c f (oq own kp δ) vs S1) fun ys S2=>QV (tL ys) S2):W3 (k4 it t c f own kp δ S) QV:=
 W3.bind (h.mono fun _ _ h=>W3.wh (decide_eq_true h.1) (W3.bind (h.2.mono fun _ _ h=>W3.ok h)))
theorem LW{f:FX}(h:W3 (f δ S) fun v S1=>∃d b,v= .d d/\JO d= .ok b/\QB b S1):W3 (Iu f δ S) QB:=W3.bind (h.mono fun _ _ ⟨_,_,e,e2,q⟩=>by subst e;exact W3.of e2 q)
theorem w_not{f:FB}(h:W3 (f δ S) fun b S1=>QB (!b) S1):W3 (Lw f δ S) QB:=W3.bind (h.mono fun _ _ h=>W3.ok h)
theorem aK{F G:FZ}(h:W3 (F δ S) fun o S1=>∃c_,o= .nx c_/\W3 (G c_ S1) QO):W3 (aY F G δ S) QO:=W3.bind (h.mono fun _ _ ⟨_,e,h⟩=>by subst e;exact h)
theorem Gu{F G:FZ}(h:W3 (F δ S) fun o S1=>∃v,o= .rt v/\QO (.rt v) S1):W3 (aY F G δ S) QO:=W3.bind (h.mono fun _ _ ⟨_,e,h⟩=>by subst e;exact W3.ok h)
theorem bq{i:Nat}{f:FX}(hi:i < δ.length)(h:W3 (f δ S) fun v S1=>QO (.nx (δ.set i (some v))) S1):W3 (bR i f δ S) QO:=W3.bind (h.mono fun _ _ h=>W3.wh (decide_eq_true hi) (W3.ok h))
theorem dD{f:FX}(h:W3 (f δ S) fun v S1=>QO (.rt v) S1):W3 (dW f δ S) QO:=W3.bind (h.mono fun _ _ h=>W3.ok h)
theorem h_{c:FB}{F G:FZ}(h:W3 (c δ S) fun b S1=>if b then W3 (F δ S1) QO else W3 (G δ S1) QO):W3 (qK c F G δ S) QO:=W3.bind (h.mono fun b _ h=>by cases b <;> exact h)
theorem Mf{f:FX}{t:FG}(h:W3 (f δ S) fun v S1=>∃c_,t v δ=some c_/\QO (.nx c_) S1):W3 (JX f t δ S) QO:=W3.bind (h.mono fun _ _ ⟨_,e,q⟩=>by rw[e];exact W3.ok q)
theorem dk(h:QO (.nx δ) S):W3 (gI δ S) QO:=W3.ok h
theorem jC{f:aw->R (List D)}{ds:List D}(e:f (down δ)= .ok ds)(h:QA (ds.map .d) S):W3 (iP f δ S) QA:=W3.bind (W3.of e (W3.ok h))
theorem uS{f:FX}(h:W3 (f δ S) fun v S1=>∃n:Nat,v= .d (.int n)/\n < 1000000/\QA ((eM 0 n).map .d) S1):W3 (rm f δ S) QA:=W3.bind (h.mono fun _ _ ⟨n,e,hn,q⟩=>by
 subst e;refine W3.wh (decide_eq_true ⟨by omega,by omega⟩) (W3.ok ?_)
 rw[Int.toNat_natCast];exact q)
theorem pj{f:FX}(h:W3 (f δ S) fun v S1=>∃ds,v= .d (.lst ds)/\QA (ds.map .d) S1):W3 (xi f δ S) QA:=W3.bind (h.mono fun _ _ ⟨n,e,q⟩=>by subst e;exact W3.ok q)
theorem Li{f:FX}(h:W3 (f δ S) fun v S1=>∃vs,v= .lst vs/\QA vs S1):W3 (xi f δ S) QA:=W3.bind (h.mono fun _ _ ⟨n,e,q⟩=>by subst e;exact W3.ok q)
theorem dJ{it:FA}(h:W3 (it δ S) fun vs S1=>W3 (jx t F vs δ S1) QO):W3 (fS it t F δ S) QO:=W3.bind h
theorem pU{i k:Nat}{f:FX}(hk:δ[i]? =some (some (.loc k)))(h0:∃ds,S[k]? =some (.lst ds))(h:W3 (f δ S) fun v S1=>∃d ds,v= .d d/\S1[k]? =some (.lst ds)/\ds.length < sizeLine/\QO (.nx δ) (S1.set k (.lst (ds++[d])))):W3 (qb i f δ S) QO:=by
 obtain⟨es,h0⟩:=h0;unfold qb;have e1:jy δ i=some k:=by unfold jy;rw [hk]
 have e2:cx S k=some es:=by unfold cx;simp only[h0]
 rw[e1];show W3 (match cx S k with | none=>_ | some _=>_) _
 rw[e2];refine W3.bind (h.mono fun v S1 ⟨d,ds,e,h1,hl,q⟩=>?_)
 subst e;have e3:cx S1 k=some ds:=by unfold cx;simp only[h1]
 show W3 (match cx S1 k with | some ds=>_ | none=>_) _
 rw[e3];exact W3.wh (decide_eq_true hl) (W3.ok q)
theorem G4{fo fi fe:FX}(h:W3 (fe δ S) fun v S1=>W3 (fo δ S1) fun o S2=>W3 (fi δ S2) fun j S3=>∃d k n ds m,v= .d d/\o= .loc k/\j= .d (.int n)/\S3[k]? =some (.lst ds)/\Ai ds.length n=some m/\QO (.nx δ) (S3.set k (.lst (ds.set m d)))):W3 (IY fo fi fe δ S) QO:=
 W3.bind (h.mono fun _ _ h=>W3.bind (h.mono fun _ _ h=>W3.bind (h.mono fun _ S3 ⟨d,k,n,ds,m,e1,e2,e3,h1,h2,q⟩=>by
  subst e1 e2 e3;have e3:cx S3 k=some ds:=by unfold cx;simp only[h1]
  show W3 (match cx S3 k with | some ds=>_ | none=>_) _
  rw[e3];show W3 (match Ai ds.length n with | some m=>_ | none=>_) _
  rw[h2];exact W3.ok q)))
theorem vN{t:FG}{body:FZ}:∀(vs:List V3) (n:Nat) (P:Nat->DE->aF->Prop) {δ:DE} {S:aF},P n δ S->
 (∀i v δ S,vs[i]? =some v->P (n+i) δ S->∃c_,t v δ=some c_/\W3 (body c_ S) fun o S1=>∃cK,o= .nx cK/\P (n+i+1) cK S1)->W3 (jx t body vs δ S) fun o S1=>∃cK,o= .nx cK/\P (n+vs.length) cK S1
 | [],n,P,δ,S,h0,_=>W3.ok ⟨δ,rfl,h0⟩
 | v ::vs,n,P,δ,S,h0,hs=>by
   obtain⟨c_,e1,o,S1,e2,cK,rfl,p2⟩:=hs 0 v δ S rfl h0;have ih:=vN vs (n+1) P p2 (fun i v' ei S' hi hp=>by
    have:=hs (i+1) v' ei S' (by simpa using hi) (by rw[show n+(i+1)=n+1+i by omega];exact hp)
    rw[show n+(i+1)+1=n+1+i+1 by omega] at this
    exact this)
   rw[show n+1+vs.length=n+(v ::vs).length by rw[List.length_cons];omega] at ih
   unfold jx;rw[e1];refine W3.bind ⟨_,_,e2,?_⟩;exact ih
theorem bA{t:FG}{body:FZ}{vs:List V3}(P:Nat->DE->aF->Prop){δ:DE}{S:aF}(h0:P 0 δ S)
 (hs:∀i v δ S,vs[i]? =some v->P i δ S->∃c_,t v δ=some c_/\W3 (body c_ S) fun o S1=>∃cK,o= .nx cK/\P (i+1) cK S1):W3 (jx t body vs δ S) fun o S1=>∃cK,o= .nx cK/\P vs.length cK S1:=by
 have:=vN (t:=t) (body:=body) vs 0 P h0 (fun i v δ S hi hp=>by simpa using hs i v δ S hi (by simpa using hp))
 simpa using this
theorem uP{t:FG}{c:FB}{f:FX}{δ:DE}:∀(vs:List V3) (n:Nat) (P:Nat->List V3->aF->Prop) {ys:List V3} {S:aF},P n ys S->
 (∀i v ys S,vs[i]? =some v->P (n+i) ys S->∃c_,t v δ=some c_/\W3 (c c_ S) fun b S1=>if b then W3 (f c_ S1) fun y S2=>P (n+i+1) (ys++[y]) S2 else P (n+i+1) ys S1)->W3 (nW t c f δ vs S) fun zs S1=>P (n+vs.length) (ys++zs) S1
 | [],n,P,ys,S,h0,_=>W3.ok (by rw[List.append_nil];exact h0)
 | v ::vs,n,P,ys,S,h0,hs=>by
   obtain⟨c_,e1,b,S1,e2,h2⟩:=hs 0 v ys S rfl h0;have ih:∀{Rz S'},P (n+1) Rz S'->W3 (nW t c f δ vs S') fun zs S1=>P (n+(v ::vs).length) (Rz++zs) S1:=fun {Rz S'} p=>by
    have:=uP (t:=t) (c:=c) (f:=f) (δ:=δ) vs (n+1) P p (fun i v' Rz S' hi hp=>by
     have:=hs (i+1) v' Rz S' (by simpa using hi) (by rw[show n+(i+1)=n+1+i by omega];exact hp)
     rw[show n+(i+1)+1=n+1+i+1 by omega] at this
     exact this)
    rw[show n+1+vs.length=n+(v ::vs).length by rw[List.length_cons];omega] at this
    exact this
   unfold nW;rw[e1];refine W3.bind ⟨b,S1,e2,?_⟩;cases b with
   | true=>
     rw[if_pos rfl] at h2 ⊢;exact W3.bind (h2.mono fun y S2 p=>W3.bind ((ih p).mono fun zs S3 q=>W3.ok (by rw[List.append_assoc] at q;exact q)))
   | false=>rw [if_neg (by decide)] at h2 ⊢;exact ih h2
theorem xw{t:FG}{c:FB}{f:FX}{δ:DE}{vs:List V3}(P:Nat->List V3->aF->Prop){S:aF}(h0:P 0 [] S)
 (hs:∀i v ys S,vs[i]? =some v->P i ys S->∃c_,t v δ=some c_/\W3 (c c_ S) fun b S1=>if b then W3 (f c_ S1) fun y S2=>P (i+1) (ys++[y]) S2 else P (i+1) ys S1):W3 (nW t c f δ vs S) fun zs S1=>P vs.length zs S1:=by
 have:=uP (t:=t) (c:=c) (f:=f) (δ:=δ) vs 0 P h0 (fun i v ys S hi hp=>by simpa using hs i v ys S hi (by simpa using hp))
 simpa using this
theorem xK{QB:Bool->aF->Prop}(h:QB true S):W3 (Bs δ S) QB:=W3.ok h
theorem uB{N:List Str}{F:FZ}{vs:List V3}{δ:DE}(e:cm N vs=δ)(h:W3 (F δ S) fun o S1=>∃v,o= .rt v/\QV v S1):W3 (nB N F vs S) QV:=by
 subst e;exact W3.bind (h.mono fun _ _ ⟨_,e,q⟩=>by subst e;exact W3.ok q)
def Vz(S:aF):Prop:=∀o∈S,∃ds,o=SO.lst ds
end
section
variable {S:aF} {δ:DE} {QV:V3->aF->Prop}
theorem mP{it:FA}{t:FG}{c:FB}{f:FX}{own:List Str}{kp:List Nat}(P:Nat->List D->aF->Prop)(h:W3 (it δ S) fun vs S1=>vs.length<=sizeLine/\P 0 [] S1/\
 (∀i v ds S2,vs[i]? =some v->P i ds S2->∃c_,t v (oq own kp δ)=some c_/\W3 (c c_ S2) fun b S3=>if b then W3 (f c_ S3) fun y S4=>∃d,y= .d d/\P (i+1) (ds++[d]) S4 else P (i+1) ds S3)/\
 ∀ds S2,P vs.length ds S2->QV (.d (.lst ds)) S2):W3 (k4 it t c f own kp δ S) QV:=by
 refine Hu (h.mono fun vs S1 ⟨hl,h0,hs,hq⟩=>⟨hl,?_⟩)
 refine(xw (fun i ys S=>∃ds,ys=ds.map V3.d/\P i ds S) ⟨[],rfl,h0⟩ ?_).mono fun zs S2 ⟨ds,e,p⟩=>?_
 .rintro i v ys S2 hv ⟨ds,rfl,p⟩;obtain⟨c_,e1,h1⟩:=hs i v ds S2 hv p;refine⟨c_,e1,h1.mono fun b S3 h3=>?_⟩
  cases b with
  | true=>
    rw[if_pos rfl] at h3 ⊢;exact h3.mono fun y S4 ⟨d,e,p⟩=>by subst e;exact⟨ds++[d],by simp,p⟩
  | false=>rw [if_neg (by decide)] at h3 ⊢;exact⟨ds,rfl,h3⟩
 .subst e;unfold tL;rw[vv];exact hq ds S2 p
structure fQ (n:Nat) (d:D):Prop where
 pl:eY d=true
 ly:(toPy d).canLay0=true
 dp:(toPy d).depth<=n
theorem fQ.int(i:Int):fQ 0 (.int i):=⟨by unfold eY;rfl,by unfold toPy PyData.canLay0;rfl,by unfold toPy PyData.depth;omega⟩
theorem fQ.bl(b:Bool):fQ 0 (.bl b):=⟨by unfold eY;rfl,by unfold toPy PyData.canLay0;rfl,by unfold toPy PyData.depth;omega⟩
theorem fQ.str(h:(PyData.str s).canLay0=true):fQ 0 (.str s):=⟨by unfold eY;rfl,by unfold toPy;exact h,by unfold toPy PyData.depth;omega⟩
theorem fQ.mono{n m:Nat}{d:D}(h:fQ n d)(hm:n<=m):fQ m d:=⟨h.pl,h.ly,Nat.le_trans h.dp hm⟩
theorem fQ.all{n:Nat}:∀{ds:List D},(∀d∈ds,fQ n d)->kY ds=true/\PyData.canLayAll0 (ny ds)=true/\PyData.depthAll (ny ds)<=n
 | [],_=>⟨by unfold kY;rfl,by unfold ny PyData.canLayAll0;rfl,by unfold ny PyData.depthAll;omega⟩
 | d ::ds,h=>by
   obtain⟨h1,h2,h3⟩:=fQ.all (ds:=ds) fun x hx=>h x (List.mem_cons_of_mem _ hx)
   have f:=h d List.mem_cons_self;refine⟨by unfold kY;rw [f.pl,h1];rfl,by unfold ny PyData.canLayAll0;rw [f.ly,h2];rfl,?_⟩
   unfold ny PyData.depthAll;have:=f.dp;omega
theorem fQ.lst{n:Nat}{ds:List D}(h:∀d∈ds,fQ n d):fQ (n+1) (.lst ds):=by
 obtain⟨h1,h2,h3⟩:=fQ.all h;exact⟨by unfold eY;exact h1,by unfold toPy PyData.canLay0;exact h2,by unfold toPy PyData.depth;omega⟩
theorem fQ.tup{n:Nat}{ds:List D}(h:∀d∈ds,fQ n d):fQ (n+1) (.tup ds):=by
 obtain⟨h1,h2,h3⟩:=fQ.all h;exact⟨by unfold eY;exact h1,by unfold toPy PyData.canLay0;exact h2,by unfold toPy PyData.depth;omega⟩
theorem fQ.sh{n:Nat}{d:D}(h:fQ n d)(hn:n<=64):SeqAt.shaped (toPy d)=true:=by
 unfold SeqAt.shaped;rw[h.ly,decide_eq_true (Nat.le_trans h.dp hn)];rfl
theorem BJ{d e:List D}:F8 (.lst d) (.lst e)=R.bW (eY (.lst d) && eY (.lst e) && SeqAt.shaped (toPy (.lst d)) && SeqAt.shaped (toPy (.lst e))) (.ok (PyData.eqv (toPy (.lst d)) (toPy (.lst e)))):=rfl
theorem Ih{d e:List D}:F8 (.tup d) (.tup e)=R.bW (eY (.tup d) && eY (.tup e) && SeqAt.shaped (toPy (.tup d)) && SeqAt.shaped (toPy (.tup e))) (.ok (PyData.eqv (toPy (.tup d)) (toPy (.tup e)))):=rfl
theorem fQ.eqT{n:Nat}{ds:List D}(h:fQ n (.tup ds))(hn:n<=64):F8 (.tup ds) (.tup ds)= .ok true:=by
 rw[Ih,h.pl,h.sh hn,SeqAt.eqv_refl _ h.ly];rfl
end
theorem Jf{α:Type}(ds:List α){n:Int}(h:0<=n):L2.cutD ds none (some n)=ds.take n.toNat:=by
 obtain⟨k,rfl⟩:=Int.eq_ofNat_of_zero_le h;unfold L2.cutD;rw[HT.AF,HT.DC,List.drop_zero,Nat.sub_zero,Int.toNat_natCast];by_cases hk:k<=ds.length
 .rw [Nat.min_eq_left hk]
 .rw [Nat.min_eq_right (by omega),List.take_of_length_le (Nat.le_refl _),List.take_of_length_le (by omega)]
end L3
end
section
namespace L2
open PySem PySem.Spec PyProof.Rows
section
variable {X:Cx}
def Ij:D->Bool | .cH=>true | _=>false
def RD(d e:D):R D:=match e with | .cH=> .ok (.bl (Ij d)) | _=> .no
def NW(d e:D):R D:=match e with | .cH=> .ok (.bl (!Ij d)) | _=> .no
theorem D7{K:W.Frag}{B:List Addr}{d:D}{x:V}(r:Rep K B H d x):decide (x= .cH)=Ij d:=by
 cases d with
 | cH=>rw [Rep.cH.mp r];rfl
 | bl b=>rw [Rep.bl.mp r];rfl
 | int b=>rw [Rep.int.mp r];rfl
 | str b=>rw [Rep.str.mp r];rfl
 | lst ds=>obtain⟨a,xs,rfl,_⟩:=Rep.lst.mp r;rfl
 | tup ds=>obtain⟨a,xs,rfl,_⟩:=Rep.tup.mp r;rfl
 | dct ks ds=>unfold Rep at r;obtain⟨a,xs,rfl,_⟩:=r;rfl
theorem Ti:lx X (compareOp .Is) RD:=lx.of My fun B H da db d x y Q _ ra rb hg q=>by
 unfold RD at hg;split at hg
 .cases hg;exact⟨Rep.cH.mp rb,by rw[D7 ra];exact q _ H (bb.refl H) (Rep.bl.mpr rfl)⟩
 .cases hg
theorem Qo:lx X (compareOp .IsNot) NW:=lx.of Kw fun B H da db d x y Q _ ra rb hg q=>by
 unfold NW at hg;split at hg
 .cases hg;exact⟨Rep.cH.mp rb,by rw[D7 ra];exact q _ H (bb.refl H) (Rep.bl.mpr rfl)⟩
 .cases hg
theorem Fb:oz X (.type "int") (fun xs H Q=>∃x n,xs=[.str x]/\PySem.intText? x=some n/\x.length<=640/\Q (.int n) H):=by
 intro pins s σ H xs us Q I r h;obtain⟨x,n,rfl,h1,h2,q⟩:=h;obtain⟨u,rfl,ru⟩:=vals1 r;obtain⟨t,rfl⟩:=ru;exact PySem.W.KIN.call_text h1 h2 ⟨.int n,H,I.tok _,⟨_,rfl⟩,q⟩
def IC:List D->R D
 | [.str x]=>R.bW (decide (x.length<=640)) (match PySem.intText? x with | some n=> .ok (.int n) | none=> .no)
 | _=> .no
theorem M9:dz X (.type "int") IC:=dz.of Fb fun B H ds d xs Q _ rs hg q=>by
 unfold IC at hg;split at hg
 .obtain⟨h1,h2⟩:=R.bf hg;split at h2
  .rename_i e;cases h2;obtain⟨x,rfl,r⟩:=rs.one;exact⟨_,_,by rw[Rep.str.mp r],e,of_decide_eq_true h1,q _ H (bb.refl H) (Rep.int.mpr rfl)⟩
  .cases h2
 .cases hg
def DB(ds:List D):R D:=match ds with | [.str _]=>IC ds | _=>cInt ds
theorem Oj:dz X (.type "int") DB:=dz.or M9 Pr fun a d h=>by
 unfold DB at h;split at h
 .exact .inl h
 .exact .inr h
def GG(f:FD):FD:=fun δ=>(f δ).bind fun d=>match d with | .int i=> .ok (.int (-i)) | _=> .no
theorem D_(h:QD X a f):QD X (.UnaryOp .USub a pos) (GG f):=⟨(Qs Nq h.1).imp fun σ H Q ⟨Z,B,δ,d,E,hf,q⟩=>by
 obtain⟨d1,h1,h2⟩:=R.ak hf;split at h2
 .cases h2;exact⟨Z,B,δ,_,E,h1,fun v H1 s1 r1=>⟨_,Rep.int.mp r1,q _ H1 s1 (Rep.int.mpr rfl)⟩⟩
 .cases h2⟩
def Vk(d:D)(ds:List D):R D:=match d,ds with
 | .str x,[.str y]=> .ok (.int (Txt.find x y))
 | _,_=> .no
def Wo(kvs:List (Str × Str)):D:= .dct (kvs.map fun p=>Sum.inr p.1) (kvs.map fun p=> .str p.2)
def Y_(kvs:List (Str × Str)):List (Key × V):=kvs.map fun p=>((Sum.inr p.1:Key),V.str p.2)
def WY(d k:D):R D:=match d,k with
 | .dct ks ds, .str x=>(match (ks.zip ds).find? fun p=>decide (p.1=Sum.inr x) with | some p=> .ok p.2 | none=> .no)
 | _,_=> .no
end
theorem P_{K:W.Frag}{mg:ZE}{k n:Nat}{f:Addr}{fd:FuncData}{ps:List Str}:jl P w K mg base wI k f fd ps (IE K n fun _=> .no):=
 ⟨fun vs H Q E h=>(by obtain⟨_,_,_,_,_,_,h,_⟩:=h;cases h),fun A outer s H args us vs Q E _ _ _ _ h=>(by obtain⟨_,_,_,_,_,_,h,_⟩:=h;cases h)⟩
end L2
namespace L3
open PySem PySem.Spec PyProof.Rows L2
section
variable {X:Cx} {cl:ZF}
def Vb(f:FX):FB:=fun δ S=>(f δ S).bind fun v S=>match v with | .d (.bl b)=> .ok b S | _=> .no
def Ws(f g:FX):FX:=fun δ S=>(Vb f δ S).bind fun b S=>if b then g δ S else .ok (.d (.bl false)) S
def Y4(f g:FX):FX:=fun δ S=>(Vb f δ S).bind fun b S=>if b then .ok (.d (.bl true)) S else g δ S
def Cq(i:Nat)(F:FZ):FZ:=fun δ S=>match jy δ i with
 | some k=>(match cx S k with | some ds=>F (δ.set i (some (.d (.lst ds)))) (S.set k .hV) | none=> .no)
 | none=> .no
theorem yR(i:Nat)(h:FK X cl Mr F):FK X cl Mr (Cq i F):=⟨h.1.imp fun D σ H ⟨ρ,S,δ,o,S',E,hf,q⟩=>by
 unfold Cq at hf;split at hf
 .rename_i k hk;split at hf
  .rename_i ds hds;obtain⟨v,v1,v2⟩:=E.val i _ (km hk);unfold bc at v2;obtain⟨a,a1,rfl⟩:=v2;obtain⟨w,p,r⟩:=E.sw.hV a1 (cI hds);have E1:fB X.K cl ⟨ρ.r,ρ.z,a ::ρ.f⟩ H (S.set k .hV) σ (δ.set i (some (.d (.lst ds)))):=⟨by rw[List.length_set];exact E.len,w,fun j d e=>by
    by_cases h:i=j
    .subst h;rw[List.getElem?_set_self (by obtain⟨h1,_⟩:=List.getElem?_eq_some_iff.mp (km hk);exact h1)] at e
     cases e;exact⟨_,v1,by unfold bc;exact r⟩
    .rw [List.getElem?_set_ne h] at e;obtain⟨u,u1,u2⟩:=E.val j d e;exact⟨u,u1,u2.pre p⟩⟩
   exact⟨_,_,_,o,S',E1,hf,q.pre p⟩
  .cases hf
 .cases hf⟩
theorem GY{i k:Nat}{ds:List D}{F:FZ}{δ:DE}{S:aF}{QO:Ou->aF->Prop}(hk:δ[i]? =some (some (.loc k)))(hS:S[k]? =some (.lst ds))(h:W3 (F (δ.set i (some (.d (.lst ds)))) (S.set k .hV)) QO):W3 (Cq i F δ S) QO:=by
 unfold Cq;have e1:jy δ i=some k:=by unfold jy;rw [hk]
 have e2:cx S k=some ds:=by unfold cx;simp only[hS]
 simp only[e1,e2];exact h
end
def Flat(S:aF):Prop:=∀o∈S,∀n,pE n o=true
theorem Flat.all{S:aF}(h:Flat S)(n:Nat):(S.take n).all (pE n)=true:=List.all_eq_true.mpr fun o ho=>h o (List.mem_of_mem_take ho) n
theorem Flat.set{S:aF}(h:Flat S)(k:Nat){x:SO}(hx:∀n,pE n x=true):Flat (S.set k x):=fun o ho=>by
 rcases List.mem_or_eq_of_mem_set ho with z | z
 .exact h o z
 .rw [z];exact hx
theorem Flat.push{S:aF}(h:Flat S){x:SO}(hx:∀n,pE n x=true):Flat (S++[x]):=fun o ho=>by
 rcases List.mem_append.mp ho with z | z
 .exact h o z
 .rw [List.mem_singleton.mp z];exact hx
theorem Flat.take{S:aF}(h:Flat S)(n:Nat):Flat (S.take n):=fun o ho=>h o (List.mem_of_mem_take ho)
theorem Flat.nil:Flat []:=fun o ho=>by cases ho
theorem tK{N:List Str}{vs:List V3}{S:aF}{QV:V3->aF->Prop}(h:W3 (nB N F vs S) fun v S1=>Flat S1/\eN S.length v=true/\∃d,res S1 v=some d/\QV (.d d) (S1.take S.length)):W3 (nC N F vs S) QV:=
 W3.bind (h.mono fun v S1 ⟨hl,hg,d,e,q⟩=>by
  rw[e];exact W3.wh (by rw[hl.all,hg];rfl) (W3.ok q))
end L3
end
section
namespace PySem
open Sem (wp)
open AutoSeq1 (wpAny_loadPart')
section
variable {prog:Program} {w:World} {A:Around} {E:Zz} {s:Shared}
end
end PySem
namespace L2
open PySem PySem.Spec PyProof.Rows
section
variable {X:Cx}
def RJ(f:FD):FD:=fun δ=>(f δ).bind fun d=>match d with
 | .int j=>R.bW (decide (-(2 ^ 62)<=j/\j < 16777216)) (.ok (.tup (eM 0 j.toNat)))
 | _=> .no
end
end L2
end
section
namespace PySem
open Sem (wp)
open AutoSeq1 (wpAny_loadPart')
section
variable {prog:Program} {w:World} {A:Around} {E:Zz} {s:Shared}
theorem ng{it l:Addr}{i:Nat}{items:Array Value}{x:Value}{Q:Zz}(hit:s.heap.IsTupleIter it l i)(hl:s.heap.IsTuple l items)(hx:items[i]? =some x)
 (hQ:∀h',h'.IsTupleIter it l (i+1)->Heap.SameBut it s.heap h'->Q x {s with heap:=h'}):wpAny (model prog w) A (Builtin.SmallTypes.nextOf (.ref it)) Q E s:=by
 obtain⟨o,ho,hc,hd⟩:=id hit;obtain⟨ol,EI,_,nl,hdl⟩:=hl;unfold Builtin.SmallTypes.nextOf;refine wpAny_bind (wpAny_callSpecial?_slot (name:="__next__") hit.typeIs F.slot_tuple_iterator_next (wpAny_call_entry F.slot_tuple_iterator_next hit.typeIs F.entry_tuple_iterator_next ?_ (F.args_tuple_iterator_next_1 _)));show wpAny _ _ (field (.ref it) 0 >>=_) _ _ s;refine wpAny_bind (wpAny_field ho hd (x:= .ref l) rfl ?_);show wpAny _ _ (if(Value.ref l==Value.none)=true then _ else _) _ _ s;rw [if_neg (show ¬((Value.ref l==Value.none)=true) from Bool.false_ne_true)]
 show wpAny _ _ (field (.ref it) 1 >>=_) _ _ s;refine wpAny_bind (wpAny_field ho hd (x:= .int i 0) rfl ?_);show wpAny _ _ (seqItems? (.ref l) >>=_) _ _ s;refine wpAny_bind (wpAny_seqItems EI hdl ?_);simp only[Int.toNat_natCast,hx];refine wpAny_bind (wpAny_setField ho hd (by simp) (wpAny_pure ⟨x,rfl,wpAny_pure (hQ _ ⟨_,Heap.get?_update_self _ ho (Obj.isFreed_of_fields (Obj.data_mapFields hd _)),(Obj.cls_mapFields ..).trans hc,by rw[Obj.data_mapFields hd];simp [rawInt]⟩ (Heap.SameBut.update ..))⟩))
theorem kl{it l:Addr}{i:Nat}{items:Array Value}{Q:Zz}(hh:A.handled=none)(hit:s.heap.IsTupleIter it l i)(hl:s.heap.IsTuple l items)(hx:items[i]? =none)
 (hE:∀h' e,Heap.ExtBut it s.heap h'->(∃o,h'.get? e=some o/\o.cls= .type "StopIteration")->E (.ref e) {s with heap:=h'}):wpAny (model prog w) A (Builtin.SmallTypes.nextOf (.ref it)) Q E s:=by
 obtain⟨o,ho,hc,hd⟩:=id hit;obtain⟨ol,EI,_,nl,hdl⟩:=hl;unfold Builtin.SmallTypes.nextOf;refine wpAny_bind (wpAny_callSpecial?_slot (name:="__next__") hit.typeIs F.slot_tuple_iterator_next (wpAny_call_entry F.slot_tuple_iterator_next hit.typeIs F.entry_tuple_iterator_next ?_ (F.args_tuple_iterator_next_1 _)));show wpAny _ _ (field (.ref it) 0 >>=_) _ _ s;refine wpAny_bind (wpAny_field ho hd (x:= .ref l) rfl ?_);show wpAny _ _ (if(Value.ref l==Value.none)=true then _ else _) _ _ s;rw [if_neg (show ¬((Value.ref l==Value.none)=true) from Bool.false_ne_true)]
 show wpAny _ _ (field (.ref it) 1 >>=_) _ _ s;refine wpAny_bind (wpAny_field ho hd (x:= .int i 0) rfl ?_);show wpAny _ _ (seqItems? (.ref l) >>=_) _ _ s;refine wpAny_bind (wpAny_seqItems EI hdl ?_);simp only[Int.toNat_natCast,hx];refine wpAny_bind (wpAny_rule (wpAny_bind (wpAny_setField ho hd (by simp) ?_)))
 show wpAny _ _ (newExc (.type "StopIteration") [] >>=_) _ _ _;refine wpAny_bind ?_;simp only[newExc,newTuple];refine wpAny_bind (wpAny_newObj_type ?_ (by size_fits))
 refine wpAny_bind (m:=firstArgMember _ _) (wpAny_of_eq (a:=Value.none) (by first | rfl | (simp only[firstArgMember];rfl)) ?_);refine wpAny_newObj_type ?_ (by size_fits)
 simp only[raiseNew];refine wpAny_bind (wpAny_handled ?_)
 first | rw[show A.in1.handled=none from hh] | rw[hh]
 exact wpAny_bind (wpAny_pure (wpAny_throw (hE _ _ (((Heap.SameBut.update ..).extBut.push _).push _) ⟨_,Heap.get?_push_size _ rfl,rfl⟩)))
end
theorem F3{prog:Program}{w:World}{A:Around}(hh:A.handled=none)(it l:Addr)(ur:l≠it)(items:Array Value) :
 Draws prog w A it [it,l] items.size (fun i v=>items[i]? =some v) (fun i h=>h.IsTupleIter it l i/\h.IsTuple l items) where
 live:=fun _ _ st=>let⟨o,ho,_⟩:=st.1;⟨o,ho⟩
 frame:=fun _ _ _ st hk=>⟨st.1.at fun o e=>hk it (by simp) o e,Heap.IsTuple.at st.2 fun o e=>hk l (by simp) o e⟩
 item:=fun i s Q E hi st hQ=>ng st.1 st.2 (x:=items[i]) (by simp [hi]) fun h' UH Pk=>hQ _ h' s.toks (by simp [hi]) ⟨UH,st.2.extBut Pk.extBut ur⟩ Pk
 done:=fun s Q E st hE=>kl hh st.1 st.2 (by simp) hE
theorem t5(l:Addr)(items:Array Value)(o:Obj)(n:Nat)(hc:o.cls= .type "tuple")(hd:o.data= .seq items n) :
 Meets (Builtin.«enumerate.__new__» ⟨[.type "enumerate", .ref l],[]⟩) (fun _ R s=>s.heap.get? l=some o/\
  R (.ok (.ret (.ref (s.heap.push {cls:= .type "tuple_iterator",data:= .fields #[.ref l, .int 0 0]}).objs.size)))
   {s with heap:=(s.heap.push {cls:= .type "tuple_iterator",data:= .fields #[.ref l, .int 0 0]}).push {cls:= .type "enumerate",data:= .fields #[.none, .bool false, .ref s.heap.objs.size,rawInt 0, .none, .none]}}):=
 .of_wp fun prog w A R s h=>by
   obtain⟨hp,g,d,tk,os⟩:=s;obtain⟨hl,h⟩:=h;have hsub:=sub_enumerate;have hL:Heap.IsTuple (Shared.heap ⟨hp,g,d,tk,os⟩) l items:=⟨_,hl,hc,n,hd⟩
   wp_walk using wpAny_loadPart' hl
   refine wpAny_stack_any fun st=>wpAny_pure ?_
   split
   .rename_i c _ _ _ _ _;cases(c==Value.type "enumerate") <;> (wp_walk using wpAny_loadPart' hl,wpAny_pyIter_tuple hL;exact⟨_,rfl,h⟩)
   .wp_walk using wpAny_loadPart' hl,wpAny_pyIter_tuple hL
    exact⟨_,rfl,h⟩
theorem BO{prog:Program}{w:World}{A:Around}{E:Zz}{s:Shared}{l:Addr}{items:Array Value}{Q:Zz}(hL:s.heap.IsTuple l items)
 (h:∀h':Heap,IsEnum h' (s.heap.objs.size+1) s.heap.objs.size 0 .none->h'.IsTupleIter s.heap.objs.size l 0->(∀b o,s.heap.get? b=some o->h'.get? b=some o)->Q (.ref (s.heap.objs.size+1)) {s with heap:=h'}) :
 wpAny (model prog w) A (call (.type "enumerate") [.ref l]) Q E s:=by
 obtain⟨o,hl,hc,n,hd⟩:=hL;refine callType_new F.called_enumerate (by decide) (F.typeCall_enumerate_1 _) (F.newCall_enumerate_1 _) (fun obj=>F.args_object_init_2 obj _) F.entry_enumerate_new (t5 l items o n hc hd) ⟨hl,?_⟩
 have hz:(s.heap.push {cls:= .type "tuple_iterator",data:= .fields #[.ref l, .int 0 0]}).objs.size=s.heap.objs.size+1:=Heap.size_push ..;show _/\_;rw [hz];have he:IsEnum ((s.heap.push {cls:= .type "tuple_iterator",data:= .fields #[.ref l, .int 0 0]}).push {cls:= .type "enumerate",data:= .fields #[.none, .bool false, .ref s.heap.objs.size,rawInt 0, .none, .none]}) (s.heap.objs.size+1) s.heap.objs.size 0 .none:=by
  have:=Heap.get?_push_size (s.heap.push {cls:= .type "tuple_iterator",data:= .fields #[.ref l, .int 0 0]}) (o:={cls:= .type "enumerate",data:= .fields #[.none, .bool false, .ref s.heap.objs.size,rawInt 0, .none, .none]}) rfl;rw[hz] at this;exact this
 exact⟨⟨_,he,rfl⟩,h _ he ⟨_,Heap.get?_push_of_some _ (Heap.get?_push_size _ rfl),rfl,rfl⟩ fun b o x=>Heap.get?_push_of_some _ (Heap.get?_push_of_some _ x)⟩
end PySem
namespace L2
open PySem PySem.Spec PyProof.Rows
def Sd(K:W.Frag)(a:Addr):It:=
 ⟨fun i H=>∃xs x,tM K H a xs/\xs[i]? =some x,fun i H v H'=>∃p x,H p=none/\v= .ref p/\(∀xs,tM K H a xs->xs[i]? =some x)/\H'=upd H p (.tup [.int i,x]),fun i H=>∃xs,tM K H a xs/\xs.length<=i⟩
theorem Cg{K:W.Frag}{k:Nat}(a e it:Addr)(Pa:e≠it):Turn P w K (.Tuple elts k pos) (Sd K a) [e,it] e (fun i h=>(∃old,IsEnum h e it ((i:Nat):Int) old)/\h.IsTupleIter it a i) where
 mem:=by simp
 obj:=fun i h st b hb=>by
  obtain⟨⟨old,he⟩,o,ho,c,d⟩:=st;rcases List.mem_cons.mp hb with rfl | hb
  .exact⟨_,he,fun v z=>by cases z⟩
  .have e:b=it:=by simpa using hb
   subst e;exact⟨o,ho,fun v z=>by rw[d] at z;cases z⟩
 keep:=fun i h h' st k=>by
  obtain⟨⟨old,he⟩,hi⟩:=st;exact⟨⟨old,k e (by simp) _ he⟩,hi.at fun o x=>k it (by simp) o x⟩
 item:=by
  intro X hP hw hK hc i pins s σ H E I hf st hg;subst hP hw hK;obtain⟨xs,x,hq,hx⟩:=hg;obtain⟨its,rv,p,hz⟩:=I.tuple hq;have p':s.heap.IsTuple a its.toArray:=p;obtain⟨u,hu,ru⟩:=rv.get hx;obtain⟨⟨old,he⟩,hit⟩:=st;obtain⟨f0,f1,f2,f3,f4,f5⟩:=hf e (by simp)
  obtain⟨g0,g1,g2,g3,g4,g5⟩:=hf it (by simp)
  have ha_it:a≠it:=fun z=>by
   obtain⟨o1,h1,c1,_⟩:=p';obtain⟨o2,h2,c2,_⟩:=hit;rw[z,h2] at h1;cases h1;rw[c2] at c1;exact absurd c1 (by decide)
  have ha_e:e ∉ [it,a]:=fun z=>by
   rcases List.mem_cons.mp z with q | q
   .exact Pa q
   .have q:e=a:=by simpa using q
    obtain⟨o1,h1,c1,_⟩:=p';rw[<-q,he] at h1;cases h1;exact absurd (show Value.type "enumerate"=Value.type "tuple" from c1) (by decide)
  refine wpAny_pyNext_enum_itemD (F3 (A:=X.A.in1) (I.ok.hd hc) it a ha_it its.toArray) he ⟨hit,p'⟩ (by have:=(List.getElem?_eq_some_iff.mp hu).1;simpa using this) Pa ha_e fun u2 jo tk X3 JN Rr Jk pV yt=>⟨_,rfl,?_⟩
  obtain rfl:u2=u:=by
   have h1:its[i]? =some u2:=by simpa using X3
   rw[hu] at h1;cases h1;rfl
  obtain⟨Dn,_⟩:=Rr;refine wpAny_letOwnedTupleGo_enum JN fun ib Jw dj=>?_
  replace dj:Heap.SameBut e jo ib:=dj
  have hel:e < s.heap.objs.size:=Heap.lt_size he;have BC:ib.get? s.heap.objs.size=some {cls:= .type "tuple",data:= .seq #[.int i tk,u2]}:=(dj.2 _ (Nat.ne_of_gt hel)).trans Jk;have kk:∀b o,b≠e->b≠it->s.heap.get? b=some o->ib.get? b=some o:=fun b o h1 h2 q=>(dj.2 b h1).trans (yt b o h1 h2 q)
  have hn:H s.heap.objs.size=none:=I.fresh;have sm:bb H (upd H s.heap.objs.size (.tup [.int i,x])):=aU hn;have nit:∀b o,H b=some o->b≠e/\b≠it:=fun b o q=>⟨fun z=>(by rw[z,f0] at q;cases q),fun z=>(by rw[z,g0] at q;cases q)⟩
  have hok:pF X.prog X.w (upd H s.heap.objs.size (.tup [.int i,x])) ib:=fun b ob q=>by
   by_cases hb:b=s.heap.objs.size
   .subst hb;rw[ba] at q;cases q;exact⟨by show 2<=sizeLine;decide,[.int i tk,u2], .cons ⟨_,rfl⟩ (.cons ru .nil),⟨_,BC,rfl,_,rfl⟩⟩
   .rw [bj hb] at q;refine(I.hok b ob q).yT (fun c v hc z=>?_) (fun c z=>sm c _ z) fun c ys z=>sm c _ z
    rcases hc with rfl | hc
    .exact kk c v (nit c _ q).1 (nit c _ q).2 z
    .exact kk c v (nit c _ hc).1 (nit c _ hc).2 z
  have nch:∀b,b ∉ [e,it]->b≠e/\b≠it:=fun b hb=>⟨fun z=>hb (by simp [z]),fun z=>hb (by simp [z])⟩
  have I2:Inv X pins σ (upd H s.heap.objs.size (.tup [.int i,x])) {s with heap:=ib,toks:=tk+1}:=by
   refine I.step (g':=s.gens) (d':=s.drawn) (ch:=[e,it]) (fun b hb=>?_) (fun b o _ _ hb q _=>kk b o (nch b hb).1 (nch b hb).2 q) (fun b o _ _ hb q _=>⟨o.slots,kk b o (nch b hb).1 (nch b hb).2 q⟩)
    (fun b o hb q n=>by rw[bj (Nat.ne_of_lt (Heap.lt_size q))];exact n) (fun b o hb q=>⟨o,kk b o (nch b hb).1 (nch b hb).2 q⟩) (fun b ys z=>sm b _ z) (fun b o u z=>sm b _ z) (fun b ps z=>⟨#[],by rw[sm b _ z];simp⟩) (fun m hm=>?_) hok I.bare
   .rcases List.mem_cons.mp hb with rfl | hb
    .exact⟨f3,f1,f4,f5⟩
    .have z:b=it:=by simpa using hb
     subst z;exact⟨g3,g1,g4,g5⟩
   .obtain⟨o,es,ep,ho,r⟩:=hm;exact⟨o,es,ep,kk _ o (Ne.symm f1) (Ne.symm g1) ho,r⟩
  refine⟨.ref s.heap.objs.size,_,I2,rfl,⟨s.heap.objs.size,x,hn,rfl,fun ys hy=>(by rw[I.sO hy hq];exact hx),rfl⟩,⟨⟨_,by simpa using Jw⟩,Dn.at fun o q=>(dj.2 it (Ne.symm Pa)).trans q⟩,fun b hb=>?_⟩
  rcases List.mem_cons.mp hb with rfl | hb
  .rw [bj (Nat.ne_of_lt hel)];exact f0
  .have z:b=it:=by simpa using hb
   subst z;obtain⟨o,ho,_⟩:=hit;rw[bj (Nat.ne_of_lt (Heap.lt_size ho))];exact g0
 done:=by
  intro X hP hw hK hc i pins s σ H E I hf st hg;subst hP hw hK;obtain⟨xs,hq,hx⟩:=hg;obtain⟨its,rv,p,hz⟩:=I.tuple hq;have p':s.heap.IsTuple a its.toArray:=p;obtain⟨⟨old,he⟩,hit⟩:=st;obtain⟨g0,g1,g2,g3,g4,g5⟩:=hf it (by simp)
  have hl:=rv.length;have hT:s.TypeIs (.ref e) "enumerate":=⟨_,he,rfl⟩;unfold pyNext;refine wpAny_bind (wpAny_attempt (wpAny_callSpecial?_slot (name:="__next__") hT F.slot_enumerate_next (wpAny_call_entry F.slot_enumerate_next hT F.entry_enumerate_next ?_ (F.args_enumerate_next_1 _))));show wpAny _ _ (field (.ref e) 2 >>=_) _ _ _;refine wpAny_bind (wpAny_field he rfl (x:= .ref it) rfl ?_);refine wpAny_bind (kl (A:=X.A.in1) (I.ok.hd hc) hit p' (by simp;omega) fun h' x Rx yu=>?_)
  obtain⟨o,ho,hcl⟩:=yu;refine wpAny_bind (wpAny_isInstance (T:="StopIteration") (b:=true) ⟨o,ho,hcl⟩ isSubtype_stop ?_);exact wpAny_pure ⟨rfl,I.turned (t':=s.toks) (fun b o hb q=>Rx b o hb q) g0 g1 g3 g4 g5⟩
 self:=fun A i s Q E st h=>let⟨⟨_,he⟩,_⟩:=st;wpAny_pyIter_enum he h
section
variable {X:Cx}
def yW(f:FD):aw->R (List D):=fun δ=>(f δ).bind fun d=>match d with | .tup ds=> .ok (cB ds) | _=> .no
theorem BY{elts:List Expr}{k:Nat}{wH:Pos}{p pos:Pos}(h:QD X a f)(hg:Gl X "enumerate")(hm:X.mg "enumerate"=none)(hs:starEach [a] X.env=[(false,eval a X.env)]:=by rfl):DA X (.Tuple elts k wH) (.Call (.Name "enumerate" p) [a] [] pos) (yW f):=by
 refine⟨?_⟩;intro pins s σ H RR I ⟨Z,B,δ,ds,E,hf,q⟩;obtain⟨d,h1,h2⟩:=R.ak hf;have hA:=fK h.1 ji hs pos pins s σ H (fun vs H1=>bb H H1/\∃v,vs=[v]/\Rep X.K B H1 d v) I ⟨Z,B,δ,d,E,h1,fun v H1 s1 r1=>⟨s1,v,rfl,r1⟩⟩
 refine Call_ (qa I hg hm boot_enumerate (PyProof.Rows.callWith_type1 (dY hA fun us s1 ⟨vs,H1,I1,r1,ss,v,ev,rr⟩=>?_) hs rfl))
 subst ev;obtain⟨u,rfl,ru⟩:=vals1 r1;cases d with
 | tup es=>
   cases h2;obtain⟨b,xs,rfl,l,rs⟩:=Rep.tup.mp rr;cases ru;obtain⟨its,rv,pt,hz⟩:=I1.tuple l.sq;refine BO (items:=its.toArray) pt fun h' he hit kk=>wpAny_pyIter_enum he ?_
   have I2:Inv X pins σ H1 {s1 with heap:=h'}:=I1.kept (t':=s1.toks) kk
   refine⟨s1.heap.objs.size+1,[s1.heap.objs.size+1,s1.heap.objs.size],_,_,H1,rfl,I2,Cg b (s1.heap.objs.size+1) s1.heap.objs.size (Nat.succ_ne_self _),⟨⟨_,he⟩,hit⟩,fun c hc=>?_,q _ H1 ss fun B' H' pr=>?_⟩
   .have hle:s1.heap.objs.size<=c:=by
     rcases List.mem_cons.mp hc with z | hc
     .rw [z];exact Nat.le_succ _
     .have z:c=s1.heap.objs.size:=by simpa using hc
      rw[z];exact Nat.le_refl _
    exact I1.xl hle (I1.hok.fresh hle)
   .have l':xZ X.K B' H' b xs:=l.elim (fun z=> .inl ⟨(pr.rd z.2 z.1).2,(pr.rd z.2 z.1).1⟩) .inr
    have rs':=rs.bt pr;refine⟨fun i d hd=>?_,⟨xs,l'.sq,by rw[<-rs.length];unfold cB;simp⟩⟩
    unfold cB at hd;rw[List.getElem?_map,List.getElem?_zipIdx] at hd;cases e:es[i]? with
    | none=>rw [e] at hd;cases hd
    | some d0=>
      rw[e] at hd;have hd:D.tup [.int ((0+i:Nat):Int),d0]=d:=Option.some.inj hd;rw[Nat.zero_add] at hd;obtain⟨x,hx,rx⟩:=rs'.get e;refine⟨⟨xs,x,l'.sq,hx⟩,fun v o3 y LN=>?_⟩
      obtain⟨p,y,hp,rfl,hy,rfl⟩:=y;refine⟨aU hp,?_⟩;subst hd;have Gg:=hy xs l'.sq;rw[hx] at Gg;cases Gg;refine Rep.tup.mpr ⟨p,_,rfl, .inl ⟨fun ha=>?_, .inl ba⟩,aD.cons (Rep.int.mpr rfl) (aD.cons (rx.same (aU hp)) aD.nil)⟩
      obtain⟨o,ho⟩:=LN p ha;rw[hp] at ho;cases ho
 | _=>cases h2
end
end L2
end
section
namespace L2
open PySem PySem.Spec PyProof.Rows
section
variable {X:Cx}
abbrev Vi:D->D->R D:=zZ (fun _ j=>decide (0 < j/\j.natAbs.log2 < 9000)) fun i j=>i / j
theorem AB:∀{ns:List Int} {us:List Value},Vals (ns.map V.int) us->IntsAre us ns
 | [],_, .nil=> .nil
 | n ::ns,_, .cons r t=>by obtain⟨tk,rfl⟩:=r;exact .cons _ _ (AB t)
theorem Hg:∀{ns:List Int} {us:List Value},IntsAre us ns->Vals (ns.map V.int) us:=fun h=>by
 induction h with
 | nil=>exact .nil
 | cons _ _ _ ih=>exact .cons ⟨_,rfl⟩ ih
theorem zS{K:W.Frag}{B:List Addr}{ds:List D}{xs:List V}(r:aD K B H ds xs):∀n:Nat,aD K B H (List.replicate n ds).flatten (List.replicate n xs).flatten
 | 0=>aD.nil
 | n+1=>by rw[List.replicate_succ,List.replicate_succ,List.flatten_cons,List.flatten_cons];exact r.append (zS r n)
def K1(f:aw->R (List D))(g:FD):aw->R (List D):=fun δ=>(f δ).bind fun ds=>(g δ).bind fun d=>match d with
 | .int k=>R.bW (decide (0<=k/\k < 1000000/\ds.length*k.toNat<=sizeLine)) (.ok (List.replicate k.toNat ds).flatten)
 | _=> .no
theorem JQ{f:aw->R (List D)}(ha:QN X a f)(hb:QD X b g):QN X (.BinOp a .Mult b pos) (K1 f g):=by
 refine⟨(DY Ob ha.1 hb.1).imp fun σ H Q ⟨Z,B,δ,es,E,hf,q⟩=>?_⟩
 obtain⟨ds,h1,h2⟩:=R.ak hf;obtain⟨d,h3,h4⟩:=R.ak h2;split at h4
 .rename_i k;obtain⟨h5,h6⟩:=R.bf h4;cases h6;obtain⟨k0,k1,k2⟩:=of_decide_eq_true h5;refine⟨Z,B,δ,ds,E,h1,fun a xs H1 s1 n1 e1 r1=>⟨Z,B,δ, .int k,E.same s1,h3,fun v H2 s2 r2=>⟨a,k,xs,rfl,Rep.int.mp r2,s2 a _ e1,by omega,by omega,by rw[<-r1.length];exact k2,fun p hp=>?_⟩⟩⟩
  refine q p _ _ (s1.trans (s2.trans (aU hp))) ((s1.trans s2).free hp) ba ?_;refine(zS r1 k.toNat).bt fun b o e nb=>⟨(s2.trans (aU hp)) b o e,fun hm=>?_⟩
  rcases List.mem_cons.mp hm with z | z
  .rw [z] at e;rw [s2 p _ e] at hp;cases hp
  .exact nb (List.mem_cons_of_mem _ z)
 .cases h4
def rB(ns:List Int):List Int:=ns.mergeSort fun a b=>decide (a<=b)
theorem zL{a ns:List Int}(p:a.Perm ns)(o:a.Pairwise (·<=·)):a=rB ns:=by
 refine PySem.W.ksm_same (p.trans (List.mergeSort_perm ns _).symm) o ?_;have:=List.pairwise_mergeSort (le:=fun a b:Int=>decide (a<=b)) (fun a b c h1 h2=>by simp at*;omega) (fun a b=>by simp;omega) ns
 exact this.imp fun h=>by simpa using h
def RM:List D->R D
 | [.lst ds]=>(match ints? ds with | some ns=>R.bW (decide (ns.length < 64)) (.ok (.lst ((rB ns).map .int))) | none=> .no)
 | _=> .no
theorem getD_in{l:List Int}{i:Nat}(h:i < l.length):l.getD i 0∈l:=by
 have e:l.getD i 0=l[i]:=by simp [h]
 rw[e];exact List.getElem_mem h
theorem fold_min:∀(ns:List Int) (n:Int),ns.foldl min n∈n ::ns/\∀a∈n ::ns,ns.foldl min n<=a
 | [],n=>⟨by simp,fun a ha=>by simp at ha;subst ha;exact Int.le_refl _⟩
 | x ::ns,n=>by
   obtain⟨h1,h2⟩:=fold_min ns (min n x);rw[List.foldl_cons];refine⟨?_,fun a ha=>?_⟩
   .rcases List.mem_cons.mp h1 with z | z
    .rw [z];by_cases hc:n<=x
     .rw [Int.min_eq_left hc];simp
     .rw [Int.min_eq_right (by omega)];simp
    .exact List.mem_cons_of_mem _ (List.mem_cons_of_mem _ z)
   .have hm:=h2 _ List.mem_cons_self;rcases List.mem_cons.mp ha with z | z
    .subst z;omega
    .rcases List.mem_cons.mp z with z | z
     .subst z;omega
     .exact h2 a (List.mem_cons_of_mem _ z)
def tR:List D->R D
 | [.lst ds]=>(match ints? ds with | some (n ::ns)=> .ok (.int (ns.foldl min n)) | _=> .no)
 | ds=>MQ ds
def Vt:List D->R D
 | [.lst ds]=>(match ints? ds with | some (n ::ns)=> .ok (.int (ns.foldl max n)) | _=> .no)
 | ds=>Sk ds
theorem BQ(hc:X.calm=true):dz X (.builtin "min") tR:=by
 intro pins s σ H B ds d xs us I hb rx rs hg;unfold tR at hg;split at hg
 .split at hg
  .rename_i es n ns e;cases hg;obtain⟨x,rfl,r⟩:=rs.one;obtain⟨a,ys,rfl,l,r⟩:=Rep.lst.mp r;obtain⟨u,rfl,ru⟩:=vals1 rx;cases ru;obtain⟨its,k,rv,e1,hz⟩:=I.NG l;rw[jM r e] at rv;obtain⟨ps,rfl,hps⟩:=pP rv;have hl:s.heap.IsList a (intItems ps.toArray):=⟨_,e1,rfl,k,by simp [intItems]⟩
   have hlp:ps.length=ns.length+1:=by have:=congrArg List.length hps;simpa using this
   refine min_intList (I.ok.hd hc) hl (by simp;omega) fun v h' tk hv hk=>?_
   obtain⟨t,rfl⟩:=intItems_at hv;obtain⟨b1,b2⟩:=argBest_lt (numAt ps.toArray) (ps.toArray.size - 1);refine⟨.int _,H,I.kept hk,⟨t,rfl⟩,bb.refl H,Rep.int.mpr ?_⟩;obtain⟨m1,m2⟩:=fold_min ns n;have hge:∀j,j < ps.length->numAt ps.toArray j=(n ::ns).getD j 0:=fun j hj=>by rw[numAt_eq,<-hps]
   have hin:numAt ps.toArray (argBest (fun i j=>decide (numAt ps.toArray i < numAt ps.toArray j)) (ps.toArray.size - 1))∈n ::ns:=by
    rw[hge _ (by simp at b1 ⊢;omega)];exact getD_in (by simp at b1 ⊢;omega)
   have hle:=m2 _ hin;obtain⟨j,hj,ej⟩:=List.getElem_of_mem m1;have R7:j < ns.length+1:=by simpa using hj
   have h3:=b2 j (by simp;omega)
   rw[hge j (by omega)] at h3
   have h4:(n ::ns).getD j 0=ns.foldl min n:=by rw[<-ej,List.getD_eq_getElem?_getD,List.getElem?_eq_getElem hj];rfl
   rw[h4] at h3;congr 1;omega
  .cases hg
 .exact Qd hc pins s σ H B _ d xs us I hb rx rs hg
end
end L2
namespace L3
open PySem PySem.Spec PyProof.Rows L2
def Bi(S:aF):V3->Option (List D)
 | .d (.lst ds)=>some ds
 | .loc k=>cx S k
 | _=>none
theorem Ir{K:W.Frag}{cl:ZF}{ρ:P3}{S:aF}{v:V3}{x:V}{ds:List D}(w:SW K cl ρ H S)(h:Bi S v=some ds)(r:bc K ρ H v x):∃a xs,x= .ref a/\uZ K [] H a xs/\aD K ρ.b H ds xs:=by
 unfold Bi at h;split at h
 .cases h;unfold bc Rep at r;obtain⟨a,xs,e,l,rs⟩:=r;exact⟨a,xs,e,l.bt (fun b o e _=>⟨e,by simp⟩),rs⟩
 .unfold bc at r;obtain⟨a,a1,rfl⟩:=r;obtain⟨xs,e,rs⟩:=w.ob _ a _ a1 (cI h);exact⟨a,xs,rfl, .inl ⟨by simp, .inl e⟩,rs⟩
 .cases h
section
variable {X:Cx} {cl:ZF}
def MZ(fa fb:FX):FX:=fun δ S=>(fa δ S).bind fun a S1=>(fb δ S1).bind fun b S2=>match Bi S2 a,Bi S2 b with
 | some ds,some es=>R3.bW (decide (ds.length+es.length<=sizeLine)) (.ok (.loc S2.length) (S2++[.lst (ds++es)]))
 | _,_=> .no
theorem MB(ha:PX X cl a fa)(hb:PX X cl b fb):PX X cl (.BinOp a .Add b pos) (MZ fa fb):=⟨(DY Ea ha.1 hb.1).imp fun σ H Q ⟨ρ,S,δ,v,S',E,hf,q⟩=>by
 obtain⟨a,S1,h1,h2⟩:=R3.ak hf;obtain⟨b,S2,h3,h4⟩:=R3.ak h2;split at h4
 .rename_i ds es e1 fR;obtain⟨hl,h5⟩:=R3.bf h4;cases h5;refine⟨ρ,S,δ,a,S1,E,h1,fun u1 bQ H1 p1 w1 r1=>⟨bQ,S1,δ,b,S2,E.to p1 w1,h3,fun u2 m_ H2 p2 w2 r2=>?_⟩⟩
  obtain⟨la,xs,rfl,l1,Rl⟩:=Ir w2 e1 (r1.pre p2);obtain⟨lb,ys,rfl,l2,Rb⟩:=Ir w2 fR r2;refine⟨[],la,lb,xs,ys,rfl,rfl,l1,l2,by rw[<-Rl.length,<-Rb.length];exact of_decide_eq_true hl,fun p hp=>?_⟩
  obtain⟨w3,p3⟩:=w2.new (a:=p) (o:= .lst (ds++es)) (aU (o:= .lst (xs++ys)) hp) hp ⟨xs++ys,ba,(Rl.append Rb).bt (fun b o e nb=>⟨by rw[bj (b_ e hp)];exact e,fun hb=>by
   rcases P3.mem_push hb with z | z
   .exact nb z
   .exact b_ e hp z⟩)⟩
  exact q _ _ _ (p1.trans (p2.trans p3)) w3 (by unfold bc;exact⟨p,by show(m_.r++[p])[_]? =_;rw [<-w2.len,List.getElem?_append_right (Nat.le_refl _),Nat.sub_self];rfl,rfl⟩)
 .cases h4⟩
theorem Qy{fa fb:FX}{δ:DE}{S:aF}{Q:V3->aF->Prop}(h:W3 (fa δ S) fun a S1=>W3 (fb δ S1) fun b S2=>∃ds es,Bi S2 a=some ds/\Bi S2 b=some es/\ds.length+es.length<=sizeLine/\Q (.loc S2.length) (S2++[.lst (ds++es)])):W3 (MZ fa fb δ S) Q:=
 W3.bind (h.mono fun _ _ h=>W3.bind (h.mono fun _ _ ⟨ds,es,e1,fR,hl,q⟩=>by
  simp only[e1,fR];exact W3.wh (decide_eq_true hl) (W3.ok q)))
def Wu(i:Nat):FZ:=fun δ S=>match jy δ i with
 | none=> .no
 | some k=>(match cx S k with | some _=> .ok (.nx δ) (S.set k (.lst [])) | none=> .no)
end
end L3
end
section
namespace L3
open PySem PySem.Spec PyProof.Rows L2
def oj(S:aF)(c k:Nat):Option (List (Str × V3)):=match S[k]? with | some (.ins c' fs)=>(if c'=c then some fs else none) | _=>none
theorem mS{S:aF}{c k:Nat}{fs:List (Str × V3)}(h:oj S c k=some fs):S[k]? =some (.ins c fs):=by
 unfold oj at h;split at h
 .rename_i c' Pf e;split at h
  .rename_i hc;cases h;rw [e,hc]
  .cases h
 .cases h
theorem DF{K:W.Frag}{v:V3}:∀{fs:List (Str × V3)} {ys:List (Str × V)},ys.map (·.1)=fs.map (·.1)->aJ K ρ H (fs.map (·.2)) (ys.map (·.2))->fs.lookup f=some v->∃x,ys.lookup f=some x/\bc K ρ H v x
 | [],ys,_,_,h=>by simp at h
 | (g,w) ::fs,[],e,_,_=>by simp at e
 | (g,w) ::fs,(g',y) ::ys,e,r,h=>by
   obtain⟨e1,fR⟩:=List.cons.inj e;have e1:g'=g:=e1;subst e1;obtain⟨x,xs,ex,r1,r2⟩:=r.cu;cases ex;rw[List.lookup_cons] at h ⊢;cases hq:f==g' with
   | true=>rw [hq] at h;cases h;exact⟨y,rfl,r1⟩
   | false=>rw [hq] at h;exact DF fR r2 h
theorem Aw:∀{fs:List (Str × V3)} {ys:List (Str × V)},ys.map (·.1)=fs.map (·.1)->fs.lookup f=none->ys.lookup f=none
 | [],[],_,_=>rfl
 | [],_ ::_,e,_=>by simp at e
 | _ ::_,[],e,_=>by simp at e
 | (g,w) ::fs,(g',y) ::ys,e,h=>by
   obtain⟨e1,fR⟩:=List.cons.inj e;have e1:g'=g:=e1;subst e1;rw[List.lookup_cons] at h ⊢;cases hq:f==g' with
   | true=>rw [hq] at h;cases h
   | false=>rw [hq] at h;exact Aw fR h
def Aj(f:Str)(v:V3):List (Str × V3)->List (Str × V3)
 | []=>[(f,v)]
 | (g,x) ::r=>if g=f then(g,v) ::r else(g,x) ::Aj f v r
theorem D3{K:W.Frag}{f:Str}{v:V3}{u:V}(rv:bc K ρ H v u):∀{fs:List (Str × V3)} {ys:List (Str × V)},ys.map (·.1)=fs.map (·.1)->aJ K ρ H (fs.map (·.2)) (ys.map (·.2))->
 (lr f u ys).map (·.1)=(Aj f v fs).map (·.1)/\aJ K ρ H ((Aj f v fs).map (·.2)) ((lr f u ys).map (·.2))
 | [],[],_,_=>⟨rfl,aJ.cons rv aJ.nil⟩
 | [],_ ::_,e,_=>by simp at e
 | _ ::_,[],e,_=>by simp at e
 | (g,w) ::fs,(g',y) ::ys,e,r=>by
   obtain⟨e1,fR⟩:=List.cons.inj e;have e1:g'=g:=e1;subst e1;obtain⟨x,xs,ex,r1,r2⟩:=r.cu;cases ex;unfold Aj lr;by_cases hg:g'=f
   .rw [if_pos hg,if_pos hg];exact⟨by rw[List.map_cons,List.map_cons,fR],aJ.cons rv r2⟩
   .rw [if_neg hg,if_neg hg];obtain⟨h1,h2⟩:=D3 rv fR r2;exact⟨by rw[List.map_cons,List.map_cons,h1],aJ.cons r1 h2⟩
section
variable {X:Cx} {cl:ZF}
def q8(c:Nat)(f:Str)(g:FX):FX:=fun δ S=>(g δ S).bind fun v S1=>match v with
 | .loc k=>(match oj S1 c k with | some fs=>(match fs.lookup f with | some v=> .ok v S1 | none=> .no) | none=> .no)
 | _=> .no
theorem jn{c:Nat}{pos:Pos}(hC:zD X.K (cl c))(hn:dw X.K (cl c) f)(he:PX X cl e g)(hb:attributeBase e f X.env (eval e X.env)=eval e X.env:=by rfl):PX X cl (.Attribute e f pos) (q8 c f g):=⟨(NB he.1 hb).imp fun σ H Q ⟨ρ,S,δ,v,S',E,hf,q⟩=>by
 obtain⟨o,S1,h1,h2⟩:=R3.ak hf;split at h2
 .rename_i k;split at h2
  .rename_i fs e1;split at h2
   .rename_i w fR;cases h2;refine⟨ρ,S,δ, .loc k,_,E,h1,fun u bQ H1 p1 w1 r1=>?_⟩
    unfold bc at r1;obtain⟨a,a1,rfl⟩:=r1;obtain⟨dx,ys,ey,ek,rs⟩:=w1.ob k a _ a1 (mS e1);obtain⟨x,hx,rx⟩:=DF ek rs fR;exact⟨a,cl c,dx,ys,x,rfl,ey,hC,hn,hx,q x bQ H1 p1 w1 rx⟩
   .cases h2
  .cases h2
 .cases h2⟩
theorem w_fld{c k:Nat}{g:FX}{δ:DE}{S:aF}{Q:V3->aF->Prop}(h:W3 (g δ S) fun v S1=>∃fs w,v= .loc k/\S1[k]? =some (.ins c fs)/\fs.lookup f=some w/\Q w S1):W3 (q8 c f g δ S) Q:=
 W3.bind (h.mono fun v S1 ⟨fs,w,e1,fR,e3,q⟩=>by
  subst e1;have e4:oj S1 c k=some fs:=by unfold oj;simp only[fR,if_true]
  simp only[e4,e3];exact W3.ok q)
def kL(P:Program)(w:World)(K:W.Frag)(mg:ZE)(base:Heap)(cl:ZF)(k c:Nat)(m:Str)(n:Nat)(g:List V3->aF->R3 V3):Prop:=
 ∃(f:Addr) (fd:FuncData) (ps:List Str),zD K (cl c)/\Meth K (cl c) m f/\jl P w K mg base wI k f fd ps (Gm K cl (n+1) g)/\Binds K fd ps []
def tY(c:Nat)(m:Str)(g:List V3->aF->R3 V3)(fo:FX)(fs:FA):FX:=fun δ S=>(fo δ S).bind fun o S1=>match o with
 | .loc k=>(match oj S1 c k with | some ys=>(match ys.lookup m with | none=>(fs δ S1).bind fun vs S2=>g (.loc k ::vs) S2 | some _=> .no) | none=> .no)
 | _=> .no
theorem pf{g:List V3->aF->R3 V3}{k j n c:Nat}{m:Str}{o e:Expr}{es:List Expr}{fo:FX}{fs:FA}{apos pos:Pos}{pl:Sem Bool}(M:kL X.prog X.w X.K X.mg X.base cl k c m n g)(hr:eU j X.A)(Jt:k<=j)(ho:PX X cl o fo)(ha:Gn X cl (e ::es) fs)(hn:∀δ S ds S',fs δ S= .ok ds S'->ds.length=n)
 (Js:starEach (e ::es) X.env=(false,eval e X.env) ::starEach es X.env:=by rfl) (m7:(backTo pos (starEach es X.env)).any (·.1)=false:=by rfl)
 (ht:eval (.Call (.Attribute o m apos) (e ::es) [] pos) X.env=(do
   let ov <-eval o X.env
   standAt apos.atName
   let(f,first) <-holding [ov] (getMethod ov m pl)
   callWith pos f first (backTo pos (starEach (e ::es) X.env)) (backToKw pos (keywordEach [] X.env))):=by rfl) :
 PX X cl (.Call (.Attribute o m apos) (e ::es) [] pos) (tY c m g fo fs):=by
 obtain⟨f,fd,ps,hC,hm,F,hb⟩:=M;refine⟨(Lu ho.1 hC hm F (hr.mono Jt) hb .nil AO ha.1 Js m7 ht).imp fun σ H Q ⟨ρ,S,δ,v,S',E,hf,q⟩=>?_⟩
 obtain⟨ov,S1,h1,h2⟩:=R3.ak hf;split at h2
 .rename_i kk;split at h2
  .rename_i ys e1;split at h2
   .rename_i fR;obtain⟨vs,S2,h3,h4⟩:=R3.ak h2;refine⟨ρ,S,δ, .loc kk,S1,E,h1,fun u bQ H1 p1 w1 r1=>?_⟩
    have rZ:=r1;unfold bc at r1;obtain⟨a,a1,rfl⟩:=r1;obtain⟨dx,zs,ey,ek,rs⟩:=w1.ob kk a _ a1 (mS e1);refine⟨a,dx,zs,rfl,ey,Aw ek fR,bQ,S1,δ,vs,S2,E.to p1 w1,h3,fun us m_ H2 p2 w2 r2=>?_⟩
    show Gm X.K cl (n+1) g (V.ref a ::(us++[])) H2 Q E0;rw[List.append_nil];exact⟨by rw[List.length_cons,<-r2.length,hn δ S1 vs S2 h3],m_,S2, .loc kk ::vs,v,S',w2,aJ.cons (rZ.pre p2) r2,h4,fun z zA H3 p3 w3 r3=>q z zA H3 (p1.trans (p2.trans p3)) w3 r3⟩
   .cases h2
  .cases h2
 .cases h2
def xN(P:Program)(w:World)(K:W.Frag)(mg:ZE)(base:Heap)(cl:ZF)(k c:Nat)(x:Str)(n:Nat)(g:List V3->aF->R3 V3):Prop:=
 ∃(f:Addr) (fd:FuncData) (ps:List Str),Mk K (cl c) f/\jl P w K mg base wI k f fd ps (Gm K cl (n+1) g)/\mg x=some (.ref (cl c))/\Binds K fd ps []
def AE(c:Nat)(g:List V3->aF->R3 V3)(fs:FA):FX:=fun δ S=>(fs δ S).bind fun vs S1=>(g (.loc S1.length ::vs) (S1++[.ins c []])).bind fun v S2=>match v with
 | .d .cH=> .ok (.loc S1.length) S2
 | _=> .no
theorem yH{g:List V3->aF->R3 V3}{k j n c:Nat}{x:Str}{p pos:Pos}{e:Expr}{es:List Expr}{fs:FA}(M:xN X.prog X.w X.K X.mg X.base cl k c x n g)(hr:eU j X.A)(Jt:k+1<=j)(hg:Gl X x)(ha:Gn X cl (e ::es) fs)(hn:∀δ S ds S',fs δ S= .ok ds S'->ds.length=n)
 (qG:(x==("__debug__":Str))=false:=by decide) (he:starEach (e ::es) X.env=(false,eval e X.env) ::starEach es X.env:=by rfl) (m7:(backTo pos (starEach es X.env)).any (·.1)=false:=by rfl) :
 PX X cl (.Call (.Name x p) (e ::es) [] pos) (AE c g fs):=by
 obtain⟨f,fd,ps,M,F,hm,hb⟩:=M;refine⟨(JV M F (hr.mono Jt) hg hm hb .nil AO ha.1 qG he m7).imp fun σ H Q ⟨ρ,S,δ,v,S',E,hf,q⟩=>?_⟩
 obtain⟨vs,S1,h1,h2⟩:=R3.ak hf;obtain⟨v0,S2,h3,h4⟩:=R3.ak h2;split at h4
 .cases h4;refine⟨ρ,S,δ,vs,S1,E,h1,fun us bQ H1 p1 w1 r1 xa dx hx XD ur=>?_⟩
  have Rt:upd H1 dx (.own xa) xa=none:=by rw[bj (fun z=>ur z.symm)];exact hx
  have sm:bb H1 (upd (upd H1 dx (.own xa)) xa (.ins (cl c) dx [])):=(aU XD).trans (aU Rt);obtain⟨w2,p2⟩:=w1.new (a:=xa) (o:= .ins c []) sm hx ⟨dx,[],ba,rfl,aJ.nil⟩;show Gm X.K cl (n+1) g (V.ref xa ::(us++[])) _ _ E0;rw[List.append_nil];have rl:bc X.K (bQ.push xa) (upd (upd H1 dx (.own xa)) xa (.ins (cl c) dx [])) (.loc S1.length) (.ref xa):=by
   unfold bc;exact⟨xa,by show(bQ.r++[xa])[_]? =_;rw [<-w1.len,List.getElem?_append_right (Nat.le_refl _),Nat.sub_self];rfl,rfl⟩
  exact⟨by rw[List.length_cons,<-r1.length,hn δ S vs S1 h1],_,_, .loc S1.length ::vs, .d .cH,_,w2,aJ.cons rl (r1.pre p2),h3,fun z zA H3 p3 w3 r3=>⟨by unfold bc Rep at r3;exact r3,q _ zA H3 (p1.trans (p2.trans p3)) w3 (rl.pre p3)⟩⟩
 .cases h4
def yS(c:Nat)(f:Str)(fo fe:FX):FZ:=fun δ S=>(fe δ S).bind fun v S1=>(fo δ S1).bind fun o S2=>match o with
 | .loc k=>(match oj S2 c k with | some fs=>R3.bW (decide (fs.length < 1000)) (.ok (.nx δ) (S2.set k (.ins c (Aj f v fs)))) | none=> .no)
 | _=> .no
theorem qh{c:Nat}{pos pos':Pos}(hC:zD X.K (cl c))(hn:dw X.K (cl c) f)(ho:PX X cl o fo)(he:PX X cl value fe)(hs:swapsWith value (some (.Attribute o f pos')) pos.line X.env=pure false:=by rfl) :
 PZ X cl (.Assign [.Attribute o f pos'] value pos) (yS c f fo fe):=⟨(N9 ho.1 he.1 hs).imp fun D σ H ⟨ρ,S,δ,ou,S',E,hf,q⟩=>by
 obtain⟨v,S1,h1,h2⟩:=R3.ak hf;obtain⟨vo,S2,h3,h4⟩:=R3.ak h2;split at h4
 .rename_i k;split at h4
  .rename_i fs e1;obtain⟨hl,h5⟩:=R3.bf h4;cases h5;refine⟨ρ,S,δ,v,S1,E,h1,fun u bQ H1 p1 w1 r1=>⟨bQ,S1,δ, .loc k,S2,E.to p1 w1,h3,fun u2 m_ H2 p2 w2 r2=>?_⟩⟩
   unfold bc at r2;obtain⟨a,a1,rfl⟩:=r2;obtain⟨dx,ys,ey,ek,rs⟩:=w2.ob k a _ a1 (mS e1);have hlen:ys.length=fs.length:=by have:=congrArg List.length ek;simpa using this
   obtain⟨k1,k2⟩:=D3 (f:=f) (r1.pre p2) ek rs;obtain⟨w3,p3⟩:=w2.put (o:= .ins c (Aj f v fs)) (u:= .ins (cl c) dx (lr f u ys)) a1 (w2.fz k a a1 (by rw[mS e1];intro h;cases h)) ⟨dx,_,rfl,k1,k2⟩
   exact⟨a,cl c,dx,ys,rfl,ey,hC,hn,by rw[hlen];exact of_decide_eq_true hl,q σ m_ _ (p1.trans (p2.trans p3)) (E.to (p1.trans (p2.trans p3)) w3)⟩
  .cases h4
 .cases h4⟩
theorem jU{c k:Nat}{fo fe:FX}{δ:DE}{S:aF}{QO:Ou->aF->Prop}(h:W3 (fe δ S) fun v S1=>W3 (fo δ S1) fun o S2=>∃fs,o= .loc k/\S2[k]? =some (.ins c fs)/\fs.length < 1000/\QO (.nx δ) (S2.set k (.ins c (Aj f v fs)))):W3 (yS c f fo fe δ S) QO:=
 W3.bind (h.mono fun v S1 h=>W3.bind (h.mono fun o S2 ⟨fs,e1,fR,hl,q⟩=>by
  subst e1;have e4:oj S2 c k=some fs:=by unfold oj;simp only[fR,if_true]
  simp only[e4];exact W3.wh (decide_eq_true hl) (W3.ok q)))
theorem sH{c k:Nat}{g:List V3->aF->R3 V3}{fo:FX}{fs:FA}{δ:DE}{S:aF}{Q:V3->aF->Prop}(h:W3 (fo δ S) fun o S1=>∃ys,o= .loc k/\S1[k]? =some (.ins c ys)/\ys.lookup m=none/\W3 (fs δ S1) fun vs S2=>W3 (g (.loc k ::vs) S2) Q):W3 (tY c m g fo fs δ S) Q:=
 W3.bind (h.mono fun o S1 ⟨ys,e1,fR,e3,h⟩=>by
  subst e1;have e4:oj S1 c k=some ys:=by unfold oj;simp only[fR,if_true]
  simp only[e4,e3];exact W3.bind h)
theorem CK{c:Nat}{g:List V3->aF->R3 V3}{fs:FA}{δ:DE}{S:aF}{Q:V3->aF->Prop}(h:W3 (fs δ S) fun vs S1=>W3 (g (.loc S1.length ::vs) (S1++[.ins c []])) fun v S2=>v= .d .cH/\Q (.loc S1.length) S2):W3 (AE c g fs δ S) Q:=
 W3.bind (h.mono fun vs S1 h=>W3.bind (h.mono fun v S2 ⟨e,q⟩=>by subst e;exact W3.ok q))
end
end L3
end
section
namespace PySem
open Sem (wp)
def gP(t:Bool)(h:Heap)(i l:Addr)(k:Nat):Prop:=cond t (h.IsTupleIter i l k) (h.IsListIter i l k)
def kG(t:Bool)(h:Heap)(l:Addr)(xs:Array Value):Prop:=cond t (h.IsTuple l xs) (h.IsList l xs)
def uI(t:Bool):String:=cond t "tuple_iterator" "list_iterator"
theorem gP.at{t:Bool}{h h':Heap}{i l:Addr}{k:Nat}(x:gP t h i l k)(e:∀o,h.get? i=some o->h'.get? i=some o):gP t h' i l k:=by
 cases t with
 | true=>exact Heap.IsTupleIter.at x e
 | false=>exact Heap.IsListIter.at x e
theorem kG.at{t:Bool}{h h':Heap}{l:Addr}{xs:Array Value}(x:kG t h l xs)(e:∀o,h.get? l=some o->h'.get? l=some o):kG t h' l xs:=by
 cases t with
 | true=>exact Heap.IsTuple.at x e
 | false=>exact Heap.IsList.at x e
theorem gP.xb{t:Bool}{i l b:Addr}{k:Nat}(x:gP t h i l k)(hs:Heap.ExtBut b h h')(zJ:i≠b):gP t h' i l k:=x.at fun o e=>hs i o zJ e
theorem kG.xb{t:Bool}{l b:Addr}{xs:Array Value}(x:kG t h l xs)(hs:Heap.ExtBut b h h')(zJ:l≠b):kG t h' l xs:=x.at fun o e=>hs l o zJ e
theorem gP.ob{t:Bool}{h:Heap}{i l:Addr}{k:Nat}(x:gP t h i l k):∃o,h.get? i=some o/\∀v,o.data≠ .cell v:=by
 cases t with
 | true=>obtain⟨o,e,_,d⟩:=x;exact⟨o,e,fun v z=>by rw[d] at z;cases z⟩
 | false=>obtain⟨o,e,_,d⟩:=x;exact⟨o,e,fun v z=>by rw[d] at z;cases z⟩
theorem kG.lt{t:Bool}{h:Heap}{l:Addr}{xs:Array Value}(x:kG t h l xs):l < h.objs.size:=by
 cases t with
 | true=>obtain⟨o,e,_⟩:=x;exact Heap.lt_size e
 | false=>obtain⟨o,e,_⟩:=x;exact Heap.lt_size e
theorem gP.lt{t:Bool}{h:Heap}{i l:Addr}{k:Nat}(x:gP t h i l k):i < h.objs.size:=let⟨_,e,_⟩:=x.ob;Heap.lt_size e
section
variable {prog:Program} {w:World} {A:Around} {E:Zz} {s:Shared}
theorem kj{t:Bool}{it l:Addr}{i:Nat}{items:Array Value}{x:Value}{Q:Zz}(hit:gP t s.heap it l i)(hl:kG t s.heap l items)(hx:items[i]? =some x)
 (hQ:∀h',gP t h' it l (i+1)->Heap.SameBut it s.heap h'->Q x {s with heap:=h'}):wpAny (model prog w) A (Builtin.SmallTypes.nextOf (.ref it)) Q E s:=by
 cases t with
 | true=>exact ng hit hl hx hQ
 | false=>exact wpAny_nextOf_list_item hit hl hx hQ
theorem pI{t:Bool}{it l:Addr}{i:Nat}{items:Array Value}{Q:Zz}(hh:A.handled=none)(hit:gP t s.heap it l i)(hl:kG t s.heap l items)(hx:items[i]? =none)
 (hE:∀h' e,Heap.ExtBut it s.heap h'->(∃o,h'.get? e=some o/\o.cls= .type "StopIteration")->E (.ref e) {s with heap:=h'}):wpAny (model prog w) A (Builtin.SmallTypes.nextOf (.ref it)) Q E s:=by
 cases t with
 | true=>exact kl hh hit hl hx hE
 | false=>exact wpAny_nextOf_list_end hh hit hl hx hE
theorem yi{t:Bool}{l:Addr}{items:Array Value}{Q:Zz}(hl:kG t s.heap l items)
 (hQ:Q (.ref s.heap.objs.size) {s with heap:=s.heap.push {cls:= .type (uI t),data:= .fields #[.ref l, .int 0 0]}}):wpAny (model prog w) A (pyIter (.ref l)) Q E s:=by
 cases t with
 | true=>exact wpAny_pyIter_tuple hl hQ
 | false=>exact wpAny_pyIter_list hl hQ
theorem FV{t u:Bool}{z TI TO i1 i2 l1 l2:Addr}{k1 k2:Nat}{xs ys:Array Value}{x y a b:Value}{Q:Zz}(D:ZipApart z TI TO i1 i2 l1 l2)(hz:IsZip s.heap z TI TO .none)(Dm:IsPair s.heap TI (.ref i1) (.ref i2))
 (EG:IsPair s.heap TO a b) (h1:gP t s.heap i1 l1 k1) (h2:gP u s.heap i2 l2 k2) (yw:kG t s.heap l1 xs) (EF:kG u s.heap l2 ys) (hx:xs[k1]? =some x) (hy:ys[k2]? =some y)
 (hQ:∀h',IsZip h' z TI TO (rawInt s.heap.objs.size)->IsPair h' TO x y->gP t h' i1 l1 (k1+1)->gP u h' i2 l2 (k2+1)->IsPair h' s.heap.objs.size x y->h'.objs.size=s.heap.objs.size+1->(∀c o,c≠z->c≠TO->c≠i1->c≠i2->s.heap.get? c=some o->h'.get? c=some o)->Q (.ref s.heap.objs.size) {s with heap:=h'}) :
 wpAny (model prog w) A (Builtin.«zip.__next__» ⟨[.ref z],[]⟩) (fun fin s'=>∃v,fin= .done (.ret v)/\Q v s') E s:=by
 show wpAny _ _ (field (.ref z) 2 >>=_) _ _ _;refine wpAny_bind (wpAny_field hz rfl (x:= .bool false) rfl ?_);show wpAny _ _ (field (.ref z) 3 >>=_) _ _ _;refine wpAny_bind (wpAny_field hz rfl (x:= .ref TI) rfl ?_);refine wpAny_bind (wpAny_seqItems Dm rfl ?_);show wpAny _ _ (Builtin.SmallTypes.ownedTupleIsFree (.ref z) >>=_) _ _ _;refine wpAny_bind ?_;unfold Builtin.SmallTypes.ownedTupleIsFree;refine wpAny_bind (wpAny_field hz rfl (x:= .none) rfl (wpAny_pure ?_));simp only[if_true];refine wpAny_bind (wpAny_rule ?_);refine wpAny_bind (wpAny_field hz rfl (x:= .ref TO) rfl ?_);refine wpAny_bind (wpAny_setField_rec hz (by simp) fun jo pV je=>?_)
 replace pV:IsZip jo z TI TO .ellipsis:=pV;refine wpAny_bind ?_;simp only[List.zipIdx_cons,List.zipIdx_nil,List.forIn_cons,List.forIn_nil]
 refine wpAny_bind (wpAny_bind (wpAny_onRaise ?_));show wpAny _ _ (Builtin.SmallTypes.nextOf (.ref i1) >>=_) _ _ _;refine wpAny_bind (kj (h1.xb je.extBut D.i1z) (yw.xb je.extBut D.l1z) hx fun ib Mp dj=>wpAny_pure ?_)
 have hTO₂:IsPair ib TO a b:=dj.extBut _ _ D.TOi1 (je.extBut _ _ D.TOz EG);refine wpAny_bind (wpAny_seqItems hTO₂ rfl ?_);refine wpAny_bind (wpAny_updateSeq_pair hTO₂ fun LM zy k6=>?_)
 replace zy:IsPair LM TO x b:=zy;refine wpAny_bind (wpAny_letGo (wpAny_pure ?_));refine wpAny_bind (wpAny_bind (wpAny_onRaise ?_));show wpAny _ _ (Builtin.SmallTypes.nextOf (.ref i2) >>=_) _ _ _
 refine wpAny_bind (kj (((h2.xb je.extBut D.i2z).xb dj.extBut D.i12.symm).xb k6.extBut D.TOi2.symm) (((EF.xb je.extBut D.l2z).xb dj.extBut D.l2i1).xb k6.extBut D.l2TO) hy fun OH RA tZ=>wpAny_pure ?_)
 have hTO₄:IsPair OH TO x b:=tZ.extBut _ _ D.TOi2 zy;refine wpAny_bind (wpAny_seqItems hTO₄ rfl ?_);refine wpAny_bind (wpAny_updateSeq_pair hTO₄ fun pH zw t4=>?_)
 replace zw:IsPair pH TO x y:=zw;refine wpAny_bind (wpAny_letGo (wpAny_pure (wpAny_pure ?_)));refine wpAny_bind (wpAny_seqItems zw rfl ?_);refine wpAny_bind (wpAny_newTuple ?_)
 have hsz:pH.objs.size=s.heap.objs.size:=(t4.1.trans (tZ.1.trans (k6.1.trans (dj.1.trans je.1))));have hz₅:IsZip pH z TI TO .ellipsis:=t4.extBut _ _ D.TOz.symm <| tZ.extBut _ _ D.i2z.symm <| k6.extBut _ _ D.TOz.symm <| dj.extBut _ _ D.i1z.symm pV
 have hk₅:∀c o,c≠z->c≠TO->c≠i1->c≠i2->s.heap.get? c=some o->pH.get? c=some o:=fun c o c1 c2 c3 c4 e=>t4.extBut _ _ c2 <| tZ.extBut _ _ c4 <| k6.extBut _ _ c2 <| dj.extBut _ _ c3 <| je.extBut _ _ c1 e
 have h1₅:gP t pH i1 l1 (k1+1):=((Mp.xb k6.extBut D.TOi1.symm).xb tZ.extBut D.i12).xb t4.extBut D.TOi1.symm;have h2₅:gP u pH i2 l2 (k2+1):=RA.xb t4.extBut D.TOi2.symm;have hzlt:=Heap.lt_size hz₅;show wpAny _ _ (Builtin.SmallTypes.ownedTupleHandOut (.ref z) (.ref pH.objs.size) >>=_) _ _ _;refine wpAny_bind ?_;unfold Builtin.SmallTypes.ownedTupleHandOut;have hz₆:IsZip (pH.push {cls:= .type "tuple",data:= .seq #[x,y]}) z TI TO .ellipsis:=Heap.get?_push_of_some _ hz₅;refine wpAny_bind (wpAny_setField_rec hz₆ (by simp) fun UJ Jn Jx=>?_)
 replace Jn:IsZip UJ z TI TO (rawInt pH.objs.size):=Jn;refine wpAny_setField_rec Jn (by simp) fun Jp EJ Jq=>?_;replace EJ:IsZip Jp z TI TO (rawInt pH.objs.size):=EJ
 have up:∀c o,c≠z->pH.get? c=some o->Jp.get? c=some o:=fun c o c1 e=>Jq.extBut _ _ c1 <| Jx.extBut _ _ c1 (Heap.get?_push_of_some _ e)
 have hT₈:IsPair Jp pH.objs.size x y:=Jq.extBut _ _ (Nat.ne_of_gt hzlt) <| Jx.extBut _ _ (Nat.ne_of_gt hzlt) (Heap.get?_push_size _ rfl)
 have hz8:Jp.objs.size=pH.objs.size+1:=(Jq.1.trans Jx.1).trans (Heap.size_push ..);rw[hsz] at EJ hT₈ hz8;refine wpAny_pure ⟨_,rfl,?_⟩;show Q (.ref pH.objs.size) _;rw [hsz];exact hQ Jp EJ (up _ _ D.TOz zw) (h1₅.at fun o e=>up _ o D.i1z e) (h2₅.at fun o e=>up _ o D.i2z e) hT₈ hz8 fun c o c1 c2 c3 c4 e=>up c o c1 (hk₅ c o c1 c2 c3 c4 e)
theorem Gw{t u:Bool}{z TI TO i1 i2 l1 l2:Addr}{k1 k2:Nat}{xs ys:Array Value}{a b:Value}{Q:Fin->Shared->Prop}(hh:A.handled=none)(D:ZipApart z TI TO i1 i2 l1 l2)(hz:IsZip s.heap z TI TO .none)
 (Dm:IsPair s.heap TI (.ref i1) (.ref i2)) (EG:IsPair s.heap TO a b) (h1:gP t s.heap i1 l1 k1) (h2:gP u s.heap i2 l2 k2) (yw:kG t s.heap l1 xs) (EF:kG u s.heap l2 ys) (UP:xs[k1]? =none\/ys[k2]? =none)
 (hE:∀h' e,(∀c o,c≠z->c≠TO->c≠i1->c≠i2->s.heap.get? c=some o->h'.get? c=some o)->(∃o,h'.get? e=some o/\o.cls= .type "StopIteration")->E (.ref e) {s with heap:=h'}):wpAny (model prog w) A (Builtin.«zip.__next__» ⟨[.ref z],[]⟩) Q E s:=by
 show wpAny _ _ (field (.ref z) 2 >>=_) _ _ _;refine wpAny_bind (wpAny_field hz rfl (x:= .bool false) rfl ?_);show wpAny _ _ (field (.ref z) 3 >>=_) _ _ _;refine wpAny_bind (wpAny_field hz rfl (x:= .ref TI) rfl ?_);refine wpAny_bind (wpAny_seqItems Dm rfl ?_);show wpAny _ _ (Builtin.SmallTypes.ownedTupleIsFree (.ref z) >>=_) _ _ _;refine wpAny_bind ?_;unfold Builtin.SmallTypes.ownedTupleIsFree;refine wpAny_bind (wpAny_field hz rfl (x:= .none) rfl (wpAny_pure ?_));simp only[if_true];refine wpAny_bind (wpAny_rule ?_);refine wpAny_bind (wpAny_field hz rfl (x:= .ref TO) rfl ?_);refine wpAny_bind (wpAny_setField_rec hz (by simp) fun jo pV je=>?_)
 replace pV:IsZip jo z TI TO .ellipsis:=pV;refine wpAny_bind ?_;simp only[List.zipIdx_cons,List.zipIdx_nil,List.forIn_cons,List.forIn_nil]
 refine wpAny_bind (wpAny_bind (wpAny_onRaise ?_));show wpAny _ _ (Builtin.SmallTypes.nextOf (.ref i1) >>=_) _ _ _;cases hx:xs[k1]? with
 | none=>
   refine wpAny_bind (pI hh (h1.xb je.extBut D.i1z) (yw.xb je.extBut D.l1z) hx fun ib e dj he=>?_)
   obtain⟨oe,hoe,hce⟩:=he;have EH:IsZip ib z TI TO .ellipsis:=dj _ _ D.i1z.symm pV;have hez:e≠z:=fun x=>by {subst x;rw [EH] at hoe;cases hoe;simp at hce}
   exact wpAny_setField_rec EH (by simp) fun LM _ k6=>hE LM e (fun c o c1 _ c3 _ x=>k6.extBut _ _ c1 <| dj _ _ c3 <| je.extBut _ _ c1 x) ⟨oe,k6.extBut _ _ hez hoe,hce⟩
 | some x=>
   have hy:ys[k2]? =none:=UP.resolve_left fun h=>by {rw [hx] at h;cases h}
   refine wpAny_bind (kj (h1.xb je.extBut D.i1z) (yw.xb je.extBut D.l1z) hx fun ib Mp dj=>wpAny_pure ?_)
   have hTO₂:IsPair ib TO a b:=dj.extBut _ _ D.TOi1 (je.extBut _ _ D.TOz EG);refine wpAny_bind (wpAny_seqItems hTO₂ rfl ?_);refine wpAny_bind (wpAny_updateSeq_pair hTO₂ fun LM zy k6=>?_)
   refine wpAny_bind (wpAny_letGo (wpAny_pure ?_));refine wpAny_bind (wpAny_bind (wpAny_onRaise ?_));show wpAny _ _ (Builtin.SmallTypes.nextOf (.ref i2) >>=_) _ _ _;refine wpAny_bind (pI hh (((h2.xb je.extBut D.i2z).xb dj.extBut D.i12.symm).xb k6.extBut D.TOi2.symm) (((EF.xb je.extBut D.l2z).xb dj.extBut D.l2i1).xb k6.extBut D.l2TO) hy fun OH e tZ he=>?_)
   obtain⟨oe,hoe,hce⟩:=he;have hz₄:IsZip OH z TI TO .ellipsis:=tZ _ _ D.i2z.symm <| k6.extBut _ _ D.TOz.symm <| dj.extBut _ _ D.i1z.symm pV
   have hez:e≠z:=fun x=>by {subst x;rw [hz₄] at hoe;cases hoe;simp at hce}
   exact wpAny_setField_rec hz₄ (by simp) fun pH _ t4=>hE pH e (fun c o c1 c2 c3 c4 x=>t4.extBut _ _ c1 <| tZ _ _ c4 <| k6.extBut _ _ c2 <| dj.extBut _ _ c3 <| je.extBut _ _ c1 x) ⟨oe,t4.extBut _ _ hez hoe,hce⟩
end
abbrev RS(t:Bool)(h:Heap)(l1:Addr):Heap:=h.push {cls:= .type (uI t),data:= .fields #[.ref l1, .int 0 0]}
abbrev RH(t u:Bool)(h:Heap)(l1 l2:Addr):Heap:=(RS t h l1).push {cls:= .type (uI u),data:= .fields #[.ref l2, .int 0 0]}
abbrev RU(t u:Bool)(h:Heap)(l1 l2:Addr):Heap:=(RH t u h l1 l2).push {cls:= .type "tuple",data:= .seq #[.ref h.objs.size, .ref (RS t h l1).objs.size]}
abbrev RT(t u:Bool)(h:Heap)(l1 l2:Addr):Heap:=(RU t u h l1 l2).push {cls:= .type "tuple",data:= .seq #[.none, .none]}
abbrev O6(t u:Bool)(h:Heap)(l1 l2:Addr):Heap:=(RT t u h l1 l2).push {cls:= .type "zip",data:= .fields #[.none, .bool false, .bool false, .ref (RH t u h l1 l2).objs.size, .ref (RU t u h l1 l2).objs.size]}
theorem Cr(t u:Bool)(l1 l2:Addr)(xs ys:Array Value):Meets (Builtin.«zip.__new__» ⟨[.type "zip", .ref l1, .ref l2],[]⟩) (fun _ R s=>kG t s.heap l1 xs/\kG u s.heap l2 ys/\R (.ok (.ret (.ref (RT t u s.heap l1 l2).objs.size))) {s with heap:=O6 t u s.heap l1 l2}):=
 .of_wp fun prog w A R s h=>by
   obtain⟨hp,g,d,tk,os⟩:=s;obtain⟨yw,EF,h⟩:=h;have hsub:=sub_zip;have Rn:kG t (Shared.heap ⟨hp,g,d,tk,os⟩) l1 xs:=yw;have hL2:kG u (Shared.heap ⟨hp.push {cls:= .type (uI t),data:= .fields #[.ref l1, .int 0 0]},g,d,tk,os⟩) l2 ys:=EF.at fun o e=>Heap.get?_push_of_some _ e
   wp_walk using yi Rn,yi hL2
   exact⟨_,rfl,h⟩
theorem gP.new{t:Bool}{h:Heap}{i l:Addr}(e:h.get? i=some {cls:= .type (uI t),data:= .fields #[.ref l, .int 0 0]}):gP t h i l 0:=by
 cases t with
 | true=>exact⟨_,e,rfl,rfl⟩
 | false=>exact⟨_,e,rfl,rfl⟩
theorem F4{prog:Program}{w:World}{A:Around}{E:Zz}{s:Shared}{t u:Bool}{l1 l2:Addr}{xs ys:Array Value}{Q:Zz}(yw:kG t s.heap l1 xs)(EF:kG u s.heap l2 ys)
 (h:∀h',IsZip h' (s.heap.objs.size+4) (s.heap.objs.size+2) (s.heap.objs.size+3) .none->IsPair h' (s.heap.objs.size+2) (.ref s.heap.objs.size) (.ref (s.heap.objs.size+1))->IsPair h' (s.heap.objs.size+3) .none .none->
   gP t h' s.heap.objs.size l1 0->gP u h' (s.heap.objs.size+1) l2 0->(∀c o,s.heap.get? c=some o->h'.get? c=some o)->Q (.ref (s.heap.objs.size+4)) {s with heap:=h'}):wpAny (model prog w) A (call (.type "zip") [.ref l1, .ref l2]) Q E s:=by
 refine callType_new F.called_zip (by decide) (F.typeCall_zip_2 _ _) (F.newCall_zip_2 _ _) (fun obj=>F.args_object_init_3 obj _ _) F.entry_zip_new (Cr t u l1 l2 xs ys) ⟨yw,EF,?_⟩
 have z1:(RS t s.heap l1).objs.size=s.heap.objs.size+1:=Heap.size_push ..;have z2:(RH t u s.heap l1 l2).objs.size=s.heap.objs.size+2:=(Heap.size_push ..).trans (congrArg (·+1) z1)
 have z3:(RU t u s.heap l1 l2).objs.size=s.heap.objs.size+3:=(Heap.size_push ..).trans (congrArg (·+1) z2)
 have z4:(RT t u s.heap l1 l2).objs.size=s.heap.objs.size+4:=(Heap.size_push ..).trans (congrArg (·+1) z3)
 have g5:(O6 t u s.heap l1 l2).get? (RT t u s.heap l1 l2).objs.size=some _:=Heap.get?_push_size _ rfl;have g4:(O6 t u s.heap l1 l2).get? (RU t u s.heap l1 l2).objs.size=some _:=Heap.get?_push_of_some _ (Heap.get?_push_size _ rfl);have g3:(O6 t u s.heap l1 l2).get? (RH t u s.heap l1 l2).objs.size=some _:=Heap.get?_push_of_some _ <| Heap.get?_push_of_some _ (Heap.get?_push_size _ rfl)
 have g2:(O6 t u s.heap l1 l2).get? (RS t s.heap l1).objs.size=some _:=Heap.get?_push_of_some _ <| Heap.get?_push_of_some _ <| Heap.get?_push_of_some _ (Heap.get?_push_size _ rfl)
 have g1:(O6 t u s.heap l1 l2).get? s.heap.objs.size=some _:=Heap.get?_push_of_some _ <| Heap.get?_push_of_some _ <| Heap.get?_push_of_some _ <| Heap.get?_push_of_some _ (Heap.get?_push_size _ rfl)
 show _/\_;rw[z2,z3,z4] at g5;rw [z1,z2] at g3;rw [z3] at g4;rw [z1] at g2;rw [z4];exact⟨⟨_,g5,rfl⟩,h _ g5 g3 g4 (gP.new g1) (gP.new g2) fun c o x=>Heap.get?_push_of_some _ <| Heap.get?_push_of_some _ <| Heap.get?_push_of_some _ <| Heap.get?_push_of_some _ <| Heap.get?_push_of_some _ x⟩
end PySem
namespace L2
open PySem PySem.Spec PyProof.Rows
def JG(t:Bool)(K:W.Frag)(H:Hp)(a:Addr)(xs:List V):Prop:=cond t (tM K H a xs) (pM K H a xs)
theorem Inv.J2{X:Cx}{pins:Zy}{σ:L2.St}{s:Shared}{t:Bool}{a:Addr}{xs:List V}(I:Inv X pins σ H s)(h:JG t X.K H a xs):∃its:List Value,Vals xs its/\kG t s.heap a its.toArray:=by
 cases t with
 | true=>obtain⟨its,r,p,_⟩:=I.tuple h;exact⟨its,r,p⟩
 | false=>obtain⟨its,r,p,_⟩:=I.list h;exact⟨its,r,p.isList⟩
theorem Inv.EA{X:Cx}{pins:Zy}{σ:L2.St}{s:Shared}{t:Bool}{a:Addr}{xs ys:List V}(I:Inv X pins σ H s)(h:JG t X.K H a xs)(h':JG t X.K H a ys):xs=ys:=by
 cases t with
 | true=>exact I.sO h h'
 | false=>exact I.rj h h'
def WZ(K:W.Frag)(t u:Bool)(a b:Addr):It:=
 ⟨fun i H=>∃xs ys x y,JG t K H a xs/\JG u K H b ys/\xs[i]? =some x/\ys[i]? =some y,
  fun i H v H'=>∃p x y,H p=none/\v= .ref p/\(∀xs,JG t K H a xs->xs[i]? =some x)/\(∀ys,JG u K H b ys->ys[i]? =some y)/\H'=upd H p (.tup [x,y]),
  fun i H=>∃xs ys,JG t K H a xs/\JG u K H b ys/\(xs.length<=i\/ys.length<=i)⟩
theorem HE{K:W.Frag}{k:Nat}{t u:Bool}{z TI TO i1 i2 a b:Addr}(D:ZipApart z TI TO i1 i2 a b):Turn P w K (.Tuple elts k pos) (WZ K t u a b) [z,TI,TO,i1,i2] z
 (fun i h=>IsZip h z TI TO .none/\IsPair h TI (.ref i1) (.ref i2)/\(∃x y,IsPair h TO x y)/\gP t h i1 a i/\gP u h i2 b i) where
 mem:=by simp
 obj:=fun i h st c hc=>by
  obtain⟨hz,Dm,⟨x,y,EG⟩,h1,h2⟩:=st;simp only[List.mem_cons,List.not_mem_nil,or_false] at hc;rcases hc with rfl | rfl | rfl | rfl | rfl
  .exact⟨_,hz,fun v z=>by cases z⟩
  .exact⟨_,Dm,fun v z=>by cases z⟩
  .exact⟨_,EG,fun v z=>by cases z⟩
  .exact h1.ob
  .exact h2.ob
 keep:=fun i h h' st k=>by
  obtain⟨hz,Dm,⟨x,y,EG⟩,h1,h2⟩:=st;exact⟨k z (by simp) _ hz,k TI (by simp) _ Dm,⟨x,y,k TO (by simp) _ EG⟩,h1.at fun o e=>k i1 (by simp) o e,h2.at fun o e=>k i2 (by simp) o e⟩
 item:=by
  intro X hP hw hK hc i pins s σ H E I hf st hg;subst hP hw hK;obtain⟨xs,ys,x,y,hq,hr,hx,hy⟩:=hg;obtain⟨its,rv,p⟩:=I.J2 hq;obtain⟨jts,JJ,p'⟩:=I.J2 hr;obtain⟨ux,hu,ru⟩:=rv.get hx;obtain⟨uy,XC,Uo⟩:=JJ.get hy;obtain⟨hz,Dm,⟨a0,b0,EG⟩,h1,h2⟩:=st;have hT:s.TypeIs (.ref z) "zip":=⟨_,hz,rfl⟩;unfold pyNext;refine wpAny_bind (wpAny_attempt (wpAny_callSpecial?_slot (name:="__next__") hT F.slot_zip_next (wpAny_call_entry F.slot_zip_next hT F.entry_zip_next (FV D hz Dm EG h1 h2 p p' (x:=ux) (y:=uy) (by simpa using hu) (by simpa using XC) fun jo a1 a2 a3 a4 a5 a6 yt=>wpAny_pure ?_) (F.args_zip_next_1 _))))
  refine⟨_,rfl,wpAny_letOwnedTupleGo_zip a1 fun ib EH dj=>?_⟩
  replace dj:Heap.SameBut z jo ib:=dj
  have hzl:z < s.heap.objs.size:=Heap.lt_size hz;have BC:ib.get? s.heap.objs.size=some {cls:= .type "tuple",data:= .seq #[ux,uy]}:=(dj.2 _ (Nat.ne_of_gt hzl)).trans a5;have kk:∀b o,b≠z->b≠TO->b≠i1->b≠i2->s.heap.get? b=some o->ib.get? b=some o:=fun b o c1 c2 c3 c4 q=>(dj.2 b c1).trans (yt b o c1 c2 c3 c4 q)
  have hn:H s.heap.objs.size=none:=I.fresh;have sm:bb H (upd H s.heap.objs.size (.tup [x,y])):=aU hn;have f0:∀c∈[z,TI,TO,i1,i2],H c=none:=fun c hc=>(hf c hc).1
  have nit:∀b o,H b=some o->b≠z/\b≠TO/\b≠i1/\b≠i2:=fun b o q=>by
   refine⟨fun e=>?_,fun e=>?_,fun e=>?_,fun e=>?_⟩
   .rw [e,f0 z (by simp)] at q;cases q
   .rw [e,f0 TO (by simp)] at q;cases q
   .rw [e,f0 i1 (by simp)] at q;cases q
   .rw [e,f0 i2 (by simp)] at q;cases q
  have kH:∀b o q,H b=some q->s.heap.get? b=some o->ib.get? b=some o:=fun b o q hb e=>let⟨c1,c2,c3,c4⟩:=nit b q hb;kk b o c1 c2 c3 c4 e
  have hok:pF X.prog X.w (upd H s.heap.objs.size (.tup [x,y])) ib:=fun b ob q=>by
   by_cases hb:b=s.heap.objs.size
   .subst hb;rw[ba] at q;cases q;exact⟨by show 2<=sizeLine;decide,[ux,uy], .cons ru (.cons Uo .nil),⟨_,BC,rfl,_,rfl⟩⟩
   .rw [bj hb] at q;refine(I.hok b ob q).yT (fun c v hc e=>?_) (fun c e=>sm c _ e) fun c ys e=>sm c _ e
    rcases hc with rfl | hc
    .exact kH c v _ q e
    .exact kH c v _ hc e
  have nch:∀b,b ∉ [z,TI,TO,i1,i2]->b≠z/\b≠TO/\b≠i1/\b≠i2:=fun b hb=>⟨fun e=>hb (by simp [e]),fun e=>hb (by simp [e]),fun e=>hb (by simp [e]),fun e=>hb (by simp [e])⟩
  have kc:∀b o,b ∉ [z,TI,TO,i1,i2]->s.heap.get? b=some o->ib.get? b=some o:=fun b o hb e=>let⟨c1,c2,c3,c4⟩:=nch b hb;kk b o c1 c2 c3 c4 e
  have I2:Inv X pins σ (upd H s.heap.objs.size (.tup [x,y])) {s with heap:=ib,toks:=s.toks}:=by
   refine I.step (g':=s.gens) (d':=s.drawn) (ch:=[z,TI,TO,i1,i2]) (fun b hb=>?_) (fun b o _ _ hb q _=>kc b o hb q) (fun b o _ _ hb q _=>⟨o.slots,kc b o hb q⟩)
    (fun b o hb q n=>by rw[bj (Nat.ne_of_lt (Heap.lt_size q))];exact n) (fun b o hb q=>⟨o,kc b o hb q⟩) (fun b ys e=>sm b _ e) (fun b o u e=>sm b _ e) (fun b ps e=>⟨#[],by rw[sm b _ e];simp⟩) (fun m hm=>?_) hok I.bare
   .obtain⟨g0,g1,g2,g3,g4,g5⟩:=hf b hb;exact⟨g3,g1,g4,g5⟩
   .obtain⟨o,es,ep,ho,r⟩:=hm;refine⟨o,es,ep,kc _ o (fun hb=>?_) ho,r⟩
    exact(hf _ hb).2.1 rfl
  have up:∀c,c≠z->∀o,jo.get? c=some o->ib.get? c=some o:=fun c hc o e=>(dj.2 c hc).trans e
  refine⟨.ref s.heap.objs.size,_,I2,rfl,⟨s.heap.objs.size,x,y,hn,rfl,fun zs UC=>(by rw[I.EA UC hq];exact hx),fun zs UC=>(by rw[I.EA UC hr];exact hy),rfl⟩,
   ⟨EH,up _ D.TIz _ (yt TI _ D.TIz D.TITO D.TIi1 D.TIi2 Dm),⟨_,_,up _ D.TOz _ a2⟩,a3.at fun o e=>up _ D.i1z o e,a4.at fun o e=>up _ D.i2z o e⟩,fun c hc=>?_⟩
  have hlt:c < s.heap.objs.size:=by
   simp only[List.mem_cons,List.not_mem_nil,or_false] at hc;rcases hc with rfl | rfl | rfl | rfl | rfl
   .exact hzl
   .exact Heap.lt_size Dm
   .exact Heap.lt_size EG
   .exact h1.lt
   .exact h2.lt
  rw[bj (Nat.ne_of_lt hlt)];exact f0 c hc
 done:=by
  intro X hP hw hK hc i pins s σ H E I hf st hg;subst hP hw hK;obtain⟨xs,ys,hq,hr,hl⟩:=hg;obtain⟨its,rv,p⟩:=I.J2 hq;obtain⟨jts,JJ,p'⟩:=I.J2 hr;obtain⟨hz,Dm,⟨a0,b0,EG⟩,h1,h2⟩:=st;have hT:s.TypeIs (.ref z) "zip":=⟨_,hz,rfl⟩;have l1:=rv.length;have l2:=JJ.length;unfold pyNext;refine wpAny_bind (wpAny_attempt (wpAny_callSpecial?_slot (name:="__next__") hT F.slot_zip_next (wpAny_call_entry F.slot_zip_next hT F.entry_zip_next (Gw (I.ok.hd hc) D hz Dm EG h1 h2 p p' ?_ fun h' e hk he=>?_) (F.args_zip_next_1 _))))
  .rcases hl with hl | hl
   .exact .inl (by simp;omega)
   .exact .inr (by simp;omega)
  obtain⟨o,ho,hcl⟩:=he;refine wpAny_bind (wpAny_isInstance (T:="StopIteration") (b:=true) ⟨o,ho,hcl⟩ isSubtype_stop ?_);have nch:∀b,b ∉ [z,TI,TO,i1,i2]->b≠z/\b≠TO/\b≠i1/\b≠i2:=fun b hb=>⟨fun e=>hb (by simp [e]),fun e=>hb (by simp [e]),fun e=>hb (by simp [e]),fun e=>hb (by simp [e])⟩
  have kc:∀b o,b ∉ [z,TI,TO,i1,i2]->s.heap.get? b=some o->h'.get? b=some o:=fun b o hb e=>let⟨c1,c2,c3,c4⟩:=nch b hb;hk b o c1 c2 c3 c4 e
  have f0:∀c∈[z,TI,TO,i1,i2],H c=none:=fun c hc=>(hf c hc).1
  have kH:∀b o q,H b=some q->s.heap.get? b=some o->h'.get? b=some o:=fun b o q hb e=>kc b o (fun z=>by rw[f0 b z] at hb;cases hb) e
  refine wpAny_pure ⟨rfl,?_⟩;refine I.step (h':=h') (H':=H) (g':=s.gens) (d':=s.drawn) (t':=s.toks) (ch:=[z,TI,TO,i1,i2]) (fun b hb=>?_) (fun b o _ _ hb q _=>kc b o hb q) (fun b o _ _ hb q _=>⟨o.slots,kc b o hb q⟩)
   (fun b o hb q n=>n) (fun b o hb q=>⟨o,kc b o hb q⟩) (fun b ys e=>e) (fun b o u e=>e) (fun b ps e=>⟨#[],by rw[e];simp⟩) (fun m hm=>?_) (fun b ob q=>?_) I.bare
  .obtain⟨g0,g1,g2,g3,g4,g5⟩:=hf b hb;exact⟨g3,g1,g4,g5⟩
  .obtain⟨o,es,ep,ho,r⟩:=hm;refine⟨o,es,ep,kc _ o (fun hb=>?_) ho,r⟩
   exact(hf _ hb).2.1 rfl
  .refine(I.hok b ob q).yT (fun c v hc e=>?_) (fun c e=>e) fun c ys e=>e
   rcases hc with rfl | hc
   .exact kH c v _ q e
   .exact kH c v _ hc e
 self:=fun A i s Q E st h=>wpAny_pyIter_zip st.1 h
section
variable {X:Cx}
def AD(ds es:List D):List D:=(ds.zip es).map fun p=> .tup [p.1,p.2]
def seqD?:D->Option (List D)
 | .lst ds=>some ds
 | .tup ds=>some ds
 | _=>none
def VL(f g:FD):aw->R (List D):=fun δ=>(f δ).bind fun d=>(g δ).bind fun e=>match seqD? d,seqD? e with | some ds,some es=> .ok (AD ds es) | _,_=> .no
theorem Rep.J2{K:W.Frag}{B:List Addr}{d:D}{v:V}{ds:List D}(r:Rep K B H d v)(h:seqD? d=some ds):∃t a xs,v= .ref a/\(∀B' H',dX B H B' H'->JG t K H' a xs/\aD K B' H' ds xs):=by
 cases d with
 | lst es=>
   cases h;obtain⟨a,xs,rfl,l,rs⟩:=Rep.lst.mp r;exact⟨false,a,xs,rfl,fun B' H' p=>⟨(l.bt p).sq,rs.bt p⟩⟩
 | tup es=>
   cases h;obtain⟨a,xs,rfl,l,rs⟩:=Rep.tup.mp r;refine⟨true,a,xs,rfl,fun B' H' p=>⟨?_,rs.bt p⟩⟩
   have l':xZ K B' H' a xs:=l.elim (fun z=> .inl ⟨(p.rd z.2 z.1).2,(p.rd z.2 z.1).1⟩) .inr
   exact l'.sq
 | _=>cases h
def VH(T U:String)(f:FD):FD:=fun δ=>(f δ).bind fun d=>match d with | .dct _ _=> .no | _=> .ok (.bl (M8 (tyName d) T || M8 (tyName d) U))
def YZ(lo:Int)(n:Nat):It:=⟨fun i _=>i < n,fun i H x H'=>H'=H/\x= .int (lo - i),fun i _=>n<=i⟩
def Tq(lo:Int)(n:Nat):List D:=(List.range n).map fun(i:Nat)=>D.int (lo - i)
def Vu(f g h:FD):aw->R (List D):=fun δ=>(f δ).bind fun d=>(g δ).bind fun e=>(h δ).bind fun k=>match d,e,k with
 | .int i, .int j, .int m=>R.bW (decide (m= -1/\ -(2 ^ 60)<=i/\i < 2 ^ 60/\ -(2 ^ 60)<=j/\j < 2 ^ 60)) (.ok (Tq i (i - j).toNat)) | _,_,_=> .no
def bls?:List D->Option (List Bool)
 | []=>some []
 | .bl b ::ds=>(bls? ds).map (b ::·)
 | _ ::_=>none
theorem vT{K:W.Frag}{B:List Addr}:∀{ds:List D} {xs:List V} {bs:List Bool},aD K B H ds xs->bls? ds=some bs->xs=bs.map V.bl
 | [],xs,bs,r,h=>by unfold aD at r;subst r;cases h;rfl
 | d ::ds,xs,bs,r,h=>by
   obtain⟨x,q,rfl,r1,r2⟩:=r.cu;cases d with
   | bl b=>
     have h:(bls? ds).map (b ::·)=some bs:=h
     cases e:bls? ds with
     | none=>rw [e] at h;cases h
     | some cs=>
       rw[e] at h;cases h;rw[Rep.bl.mp r1,vT r2 e];rfl
   | _=>cases h
theorem uw:∀bs:List Bool,bls? (bs.map D.bl)=some bs
 | []=>rfl
 | b ::bs=>by show(bls? (bs.map D.bl)).map (b ::·)=_;rw [uw bs];rfl
theorem qm:∀{bs:List Bool} {us:List Value},Vals (bs.map V.bl) us->us=bs.map Value.bool
 | [],us,h=>by cases h;rfl
 | b ::bs,us,h=>by
   cases h with
   | cons r t=>rw [qm t,show _=Value.bool b from r];rfl
theorem range_all(bs:List Bool):(List.range bs.length).all (fun i=>bs.getD i false)=bs.all id:=by
 rw[Bool.eq_iff_iff];simp only[List.all_eq_true,List.mem_range,id];constructor
 .intro h b hb;obtain⟨i,hi,rfl⟩:=List.getElem_of_mem hb;have:=h i hi;rw[List.getD_eq_getElem?_getD,List.getElem?_eq_getElem hi] at this;exact this
 .intro h i hi;rw[List.getD_eq_getElem?_getD,List.getElem?_eq_getElem hi];exact h _ (List.getElem_mem hi)
theorem range_any(bs:List Bool):(List.range bs.length).any (fun i=>bs.getD i false)=bs.any id:=by
 rw[Bool.eq_iff_iff];simp only[List.any_eq_true,List.mem_range,id];constructor
 .rintro⟨i,hi,h⟩;rw[List.getD_eq_getElem?_getD,List.getElem?_eq_getElem hi] at h;exact⟨_,List.getElem_mem hi,h⟩
 .rintro⟨b,hb,h⟩;obtain⟨i,hi,rfl⟩:=List.getElem_of_mem hb;exact⟨i,hi,by rw[List.getD_eq_getElem?_getD,List.getElem?_eq_getElem hi];exact h⟩
def N8:List D->R D
 | [.lst ds]=>(match bls? ds with | some bs=> .ok (.bl (bs.all id)) | none=> .no)
 | _=> .no
def IH:List D->R D
 | [.lst ds]=>(match bls? ds with | some bs=> .ok (.bl (bs.any id)) | none=> .no)
 | _=> .no
theorem Mj{bs:List Bool}{i:Nat}{v:Value}(h:((bs.map Value.bool).toArray)[i]? =some v):v= .bool (bs.getD i false):=by
 rw[List.getElem?_toArray,List.getElem?_map] at h;rw[List.getD_eq_getElem?_getD];cases e:bs[i]? with
 | none=>rw [e] at h;cases h
 | some b=>rw [e] at h;cases h;rfl
theorem Qw(hc:X.calm=true):dz X (.builtin "all") N8:=by
 intro pins s σ H B ds d xs us I hb rx rs hg;unfold N8 at hg;split at hg
 .split at hg
  .rename_i es bs e;cases hg;obtain⟨x,rfl,r⟩:=rs.one;obtain⟨a,ys,rfl,l,r⟩:=Rep.lst.mp r;obtain⟨u,rfl,ru⟩:=vals1 rx;cases ru;obtain⟨its,n,rv,e1,hz⟩:=I.NG l;rw[vT r e] at rv;obtain rfl:=qm rv;have hl:s.heap.IsList a (bs.map Value.bool).toArray:=⟨_,e1,rfl,n,rfl⟩;have hlt:a < s.heap.objs.size:=Heap.lt_size e1;refine call_all_walk (wpAny_pyIter_list hl ?_);refine⟨_,_,_,_,_,_,fun i=>bs.getD i false,rfl,Walks.list (A:=X.A.in1) (I.ok.hd hc) _ a (Nat.ne_of_lt hlt) _,⟨⟨_,Heap.get?_push_size _ rfl,rfl,rfl⟩,hl.push _⟩,?_,fun h' tk hk=>?_⟩
   .intro i v s Q E hP hQ;rw[Mj hP];exact wpAny_truthy_bool hQ
   .refine⟨.bl (bs.all id),H,I.kept (old_kept hk),?_,bb.refl H,Rep.bl.mpr rfl⟩;show Value.bool _=Value.bool _;rw[<-range_all];simp
  .cases hg
 .cases hg
theorem LU(hc:X.calm=true):dz X (.builtin "any") IH:=by
 intro pins s σ H B ds d xs us I hb rx rs hg;unfold IH at hg;split at hg
 .split at hg
  .rename_i es bs e;cases hg;obtain⟨x,rfl,r⟩:=rs.one;obtain⟨a,ys,rfl,l,r⟩:=Rep.lst.mp r;obtain⟨u,rfl,ru⟩:=vals1 rx;cases ru;obtain⟨its,n,rv,e1,hz⟩:=I.NG l;rw[vT r e] at rv;obtain rfl:=qm rv;have hl:s.heap.IsList a (bs.map Value.bool).toArray:=⟨_,e1,rfl,n,rfl⟩;have hlt:a < s.heap.objs.size:=Heap.lt_size e1;refine call_any_walk (wpAny_pyIter_list hl ?_);refine⟨_,_,_,_,_,_,fun i=>bs.getD i false,rfl,Walks.list (A:=X.A.in1) (I.ok.hd hc) _ a (Nat.ne_of_lt hlt) _,⟨⟨_,Heap.get?_push_size _ rfl,rfl,rfl⟩,hl.push _⟩,?_,fun h' tk hk=>?_⟩
   .intro i v s Q E hP hQ;rw[Mj hP];exact wpAny_truthy_bool hQ
   .refine⟨.bl (bs.any id),H,I.kept (old_kept hk),?_,bb.refl H,Rep.bl.mpr rfl⟩;show Value.bool _=Value.bool _;rw[<-range_any];simp
  .cases hg
 .cases hg
end
end L2
end
section
namespace L2
open PySem PySem.Spec PyProof.Rows
section
variable {X:Cx}
def Zc:FS:=fun _=> .no
def VM(f:FD):FS:=fun δ=>(f δ).bind fun _=> .ok (.nx δ)
end
end L2
namespace L3
open PySem PySem.Spec PyProof.Rows L2
section
variable {X:Cx} {cl:ZF}
def Ze:FZ:=fun _ _=> .no
def Vo(f:aw->R (List D)):FX:=fun δ S=>(R3.of (f (df S δ)) S).bind fun ds S=>R3.bW (ni ds) (.ok (.loc S.length) (S++[.lst ds]))
def Fc(i:Nat)(f:FX):FZ:=fun δ S=>match jy δ i with
 | none=> .no
 | some k=>match cx S k with
   | none=> .no
   | some _=>(f δ S).bind fun v S1=>match v with
     | .d (.lst es)=>(match cx S1 k with
       | some ds=>R3.bW (decide (ds.length+es.length<=sizeLine)) (.ok (.nx δ) (S1.set k (.lst (ds++es))))
       | none=> .no)
     | _=> .no
theorem Ip{i:Nat}{x:Str}{e:Expr}{f:FX}{gU apos cD pos:Pos}(hN:X.N[i]? =some x)(hv:JA X.env.scope x)(he:PX X cl e f)
 (hd:(x==("__debug__":Str))=false:=by decide) (uq:(x==("__classdict__":Str))=false:=by decide)
 (hs:starEach [e] X.env=(false,eval e X.env) ::starEach [] X.env:=by rfl) (o4:(apos.endLine==cD.line)=true:=by rfl)
 (wC:((backTo cD (starEach [e] X.env)).all (fun x=>!x.1) && (backToKw cD (keywordEach [] X.env)).all (fun x=>x.1.isSome)
   && decide (([e]:List Expr).length+([]:List Keyword).length+(if([]:List Keyword).isEmpty then 0 else 1) < 30))=true:=by rfl)
 (Ge:swapsWith (.Call (.Attribute (.Name x gU) "extend" apos) [e] [] cD) none pos.line X.env=pure false:=by rfl)
 (o7:attributeBase (.Name x gU) "extend" X.env (eval (.Name x gU) X.env)=eval (.Name x gU) X.env:=by rfl) :
 PZ X cl (.Expr (.Call (.Attribute (.Name x gU) "extend" apos) [e] [] cD) pos) (Fc i f):=by
 refine⟨(uA (Eo (X:=X) PySem.F.plainAttrs_list PySem.F.slot_list_extend PySem.F.type_list_extend B7 (sL hN hv hd uq) (fK he.1 ji hs) o7 wC o4 hs) Ge).imp fun D σ H ⟨ρ,S,δ,o,S',E,hf,q⟩=>?_⟩
 unfold Fc at hf;split at hf
 .cases hf
 .rename_i k hk;split at hf
  .cases hf
  .rename_i R_ h0;obtain⟨v,S1,h1,h2⟩:=R3.ak hf;split at h2
   .rename_i es;split at h2
    .rename_i ds h3;obtain⟨hl,h4⟩:=R3.bf h2;cases h4;obtain⟨u,u1,u2⟩:=E.val i _ (km hk);unfold bc at u2;obtain⟨a,a1,rfl⟩:=u2;obtain⟨RB,x0,_⟩:=E.sw.ob k a _ a1 (cI h0);refine⟨.ref a,u1, .inl ⟨rfl,RB,pM.of x0⟩,⟨ρ,S,δ, .d (.lst es),S1,E,h1,fun y bQ H1 p1 w1 r1=>?_⟩⟩
     have b1:=p1.ext k a a1;obtain⟨xs,x1,x2⟩:=w1.ob k a _ b1 (cI h3);unfold bc at r1;obtain⟨b,ys,rfl,l,r'⟩:=Rep.lst.mp r1;refine⟨a,b,xs,ys,rfl,rfl,x1,⟨_,l⟩,by rw[<-x2.length,<-r'.length];exact of_decide_eq_true hl,?_⟩
     obtain⟨w2,p2⟩:=w1.put (o:= .lst (ds++es)) (u:= .lst (xs++ys)) b1 (w1.fz k a b1 (by rw[cI h3];intro h;cases h)) ⟨xs++ys,rfl,x2.append r'⟩
     exact q σ bQ _ (p1.trans p2) (E.to (p1.trans p2) w2)
    .cases h2
   .cases h2
theorem LS{i k:Nat}{f:FX}{δ:DE}{S:aF}{QO:Ou->aF->Prop}(hk:δ[i]? =some (some (.loc k)))(h0:∃ds,S[k]? =some (.lst ds))(h:W3 (f δ S) fun v S1=>∃es ds,v= .d (.lst es)/\S1[k]? =some (.lst ds)/\ds.length+es.length<=sizeLine/\QO (.nx δ) (S1.set k (.lst (ds++es)))):W3 (Fc i f δ S) QO:=by
 obtain⟨es,h0⟩:=h0;unfold Fc;have e1:jy δ i=some k:=by unfold jy;rw [hk]
 have e2:cx S k=some es:=by unfold cx;simp only[h0]
 rw[e1];show W3 (match cx S k with | none=>_ | some _=>_) _
 rw[e2];refine W3.bind (h.mono fun v S1 ⟨d,ds,e,h1,hl,q⟩=>?_)
 subst e;have e3:cx S1 k=some ds:=by unfold cx;simp only[h1]
 show W3 (match cx S1 k with | some ds=>_ | none=>_) _
 rw[e3];exact W3.wh (decide_eq_true hl) (W3.ok q)
end
end L3
end
section
namespace L2
open PySem PySem.Spec PyProof.Rows
section
variable {X:Cx}
theorem HV{prog:Program}{w:World}{A:Around}{E:Zz}{s:Shared}{t b:Addr}{vs ws:List Value}{Q:Zz}(ht:IsTup s.heap t vs.toArray)(hb:IsTup s.heap b ws.toArray)
 (h0:vs=[]->Q (.ref b) s) (h1:vs≠[]->ws=[]->Q (.ref t) s) (h2:vs≠[]->ws≠[]->Q (.ref s.heap.objs.size) {s with heap:=s.heap.push {cls:= .type "tuple",data:= .seq (vs++ws).toArray}})
 (hsz:vs.length+ws.length<=sizeLine):wpAny (model prog w) A (binaryOp .Add (.ref t) (.ref b)) Q E s:=by
 by_cases hv:vs=[]
 .obtain⟨⟨cls,dd,data,sl⟩,ho,hc,n,hd⟩:=id ht;obtain⟨⟨Ui,RV,data2,Pe⟩,OM,hc2,n2,hd2⟩:=id hb;simp only at hc hd hc2 hd2;subst hc hd hc2 hd2;exact concat_meets ⟨_,ho,rfl⟩ ⟨_,OM,rfl⟩ noFill_tuple_add seq_tuple_add PySem.F.slot_tuple_add PySem.F.entry_tuple_add (PySem.F.args_tuple_add_2 _ _) (tuple_addW0 t b vs.toArray ws.toArray n n2 dd RV sl Pe (by simp [hv])) ⟨ho,OM,h0 hv⟩
 .exact HT.KH ht hb hv (h1 hv) (h2 hv) hsz
def oI(d e:D):R D:=match d,e with
 | .tup a, .tup b=>R.bW (decide (a.length+b.length<=sizeLine)) (.ok (.tup (a++b)))
 | d,e=>gu d e
theorem xZ.fresh{K:W.Frag}{B:List Addr}{H:Hp}{p:Addr}{xs:List V}(hb:∀a∈B,∃o,H a=some o)(hp:H p=none):xZ K B (upd H p (.tup xs)) p xs:= .inl ⟨fun ha=>(by obtain⟨o,ho⟩:=hb p ha;rw [hp] at ho;cases ho), .inl ba⟩
theorem sQ:lx X (binaryOp .Add) oI:=by
 intro pins s σ H B da db d x y v u I hb rx ry ra rb hg;by_cases ht:∃a b,da= .tup a/\db= .tup b
 .obtain⟨a,b,rfl,rfl⟩:=ht;have hg:R.bW (decide (a.length+b.length<=sizeLine)) (.ok (.tup (a++b)))= .ok d:=hg;obtain⟨h1,h2⟩:=R.bf hg;cases h2;have h1:=of_decide_eq_true h1;have ra':=ra;have rb':=rb;obtain⟨a1,U3,rfl,l1,r1⟩:=Rep.tup.mp ra;obtain⟨a2,UR,rfl,l2,r2⟩:=Rep.tup.mp rb;cases rx;cases ry;obtain⟨its,VP,p1,_⟩:=I.tuple l1.sq;obtain⟨Bv,RX,p2,_⟩:=I.tuple l2.sq;have e1:=VP.length;have e2:=RX.length;have e3:=r1.length;have e4:=r2.length;refine HV p1 p2 (fun z=>⟨.ref a2,H,I,rfl,bb.refl H,?_⟩) (fun _ z=>⟨.ref a1,H,I,rfl,bb.refl H,?_⟩) (fun _ _=>?_) (by omega)
  .obtain rfl:a=[]:=List.eq_nil_of_length_eq_zero (by rw[e3,e1,z];rfl)
   exact rb'
  .obtain rfl:b=[]:=List.eq_nil_of_length_eq_zero (by rw[e4,e2,z];rfl)
   rw[List.append_nil];exact ra'
  .have hp:H s.heap.objs.size=none:=I.hok.fresh (Nat.le_refl _);refine⟨.ref s.heap.objs.size,_,I.laid (t':=s.toks) (o:= .tup (U3++UR)) (fun b ob q=>Heap.get?_push_of_some _ q) (Nat.le_refl _) ⟨by rw[List.length_append];omega,_,VP.append RX,IsTup.new _ _⟩,rfl,aU hp,Rep.tup.mpr ⟨_,_,rfl,xZ.fresh hb hp,(r1.append r2).same (aU hp)⟩⟩
 .have hg:gu da db= .ok d:=by
   unfold oI at hg;split at hg
   .exact absurd ⟨_,_,rfl,rfl⟩ ht
   .exact hg
  exact gT pins s σ H B da db d x y v u I hb rx ry ra rb hg
theorem DA.or{F F1 F2:aw->R (List D)}(h1:DA X tg e F1)(h2:DA X tg e F2)(h:∀δ ds,F δ= .ok ds->F1 δ= .ok ds\/F2 δ= .ok ds):DA X tg e F:=
 ⟨fun pins s σ H R I ⟨Z,B,δ,ds,E,hf,q⟩=>(h δ ds hf).elim (fun z=>h1.1 pins s σ H R I ⟨Z,B,δ,ds,E,z,q⟩) fun z=>h2.1 pins s σ H R I ⟨Z,B,δ,ds,E,z,q⟩⟩
def Et(f:FD):aw->R (List D):=fun δ=>(f δ).bind fun d=>match d with | .lst ds=> .ok (cB ds) | .tup ds=> .ok (cB ds) | _=> .no
theorem C7{elts:List Expr}{k:Nat}{wH:Pos}{p pos:Pos}(h:QD X a f)(hg:Gl X "enumerate")(hm:X.mg "enumerate"=none)(hs:starEach [a] X.env=[(false,eval a X.env)]:=by rfl):DA X (.Tuple elts k wH) (.Call (.Name "enumerate" p) [a] [] pos) (Et f):=
 DA.or (F1:=ig f) (F2:=yW f) ⟨zQ h.1 hg hm hs⟩ (BY h hg hm hs) fun δ ds hf=>by
  obtain⟨d,h1,h2⟩:=R.ak hf;cases d with
  | lst es=>cases h2;exact .inl (by unfold ig;rw [h1];rfl)
  | tup es=>cases h2;exact .inr (by unfold yW;rw [h1];rfl)
  | _=>cases h2
def WB(K:W.Frag)(a:Addr)(n:Nat):It:=
 ⟨fun i H=>∃xs x,pM K H a xs/\xs.length=n/\i < n/\xs[n - 1 - i]? =some x,fun i H v H'=>H'=H/\∀xs,pM K H a xs->xs[n - 1 - i]? =some v,fun i H=>(∃xs,pM K H a xs)/\i=n⟩
theorem Ho{K:W.Frag}(a it:Addr)(n:Nat):Turn P w K tg (WB K a n) [it] it (fun i h=>h.IsRevIter it a ((n:Int) - 1 - (i:Int))) where
 mem:=by simp
 obj:=fun i h st b hb=>by
  have e:b=it:=by simpa using hb
  subst e;obtain⟨o,e,c,d⟩:=st;exact⟨o,e,fun v z=>by rw[d] at z;cases z⟩
 keep:=fun i h h' st k=>st.at fun o e=>k it (by simp) o e
 item:=by
  intro X hP hw hK hc i pins s σ H E I hf st hg;subst hP hw hK;obtain⟨xs,x,hq,hn,hi,hx⟩:=hg;obtain⟨its,rv,p,hz⟩:=I.list hq;obtain⟨u,hu,ru⟩:=rv.get hx;obtain⟨f0,f1,f2,f3,f4,f5⟩:=hf it (by simp)
  have e0:(n:Int) - 1 - (i:Int)=((n - 1 - i:Nat):Int):=by omega
  rw[e0] at st;refine wpAny_pyNext_rev_item st p.isList (x:=u) (by simpa using hu) fun h' Jy sb=>?_
  have I1:Inv X pins σ H {s with heap:=h'}:=I.turned (t':=s.toks) (fun b o hb e=>(sb.2 b hb).trans e) f0 f1 f3 f4 f5
  have JL:h'.IsRevIter it a ((n:Int) - 1 - ((i+1:Nat):Int)):=by
   rw[show((n - 1 - i:Nat):Int) - 1=(n:Int) - 1 - ((i+1:Nat):Int) by omega] at Jy;exact Jy
  obtain⟨o,e,c,d⟩:=id JL;exact⟨u,rfl,DD (s:={s with heap:=h'}) e c d (by decide) ⟨x,H,I1,ru,⟨rfl,fun ys hy=>by rw[I.rj hy hq];exact hx⟩,JL,fun b hb=>(hf b hb).1⟩⟩
 done:=by
  intro X hP hw hK hc i pins s σ H E I hf st hg;subst hP hw hK;obtain⟨_,rfl⟩:=hg;obtain⟨f0,f1,f2,f3,f4,f5⟩:=hf it (by simp)
  rw[show(i:Int) - 1 - (i:Int)= -1 by omega] at st
  exact wpAny_pyNext_rev_end (I.ok.hd hc) st fun h' eb=>⟨rfl,I.turned (t':=s.toks) (fun b o hb e=>eb b o hb e) f0 f1 f3 f4 f5⟩
 self:=fun _ _ _ _ _ st h=>wpAny_pyIter_revIter st h
def LP(f:FD):aw->R (List D):=fun δ=>(f δ).bind fun d=>match d with | .lst ds=> .ok ds.reverse | _=> .no
theorem Gz{tg a:Expr}{p pos:Pos}(h:QD X a f)(hg:Gl X "reversed")(hm:X.mg "reversed"=none)(hs:starEach [a] X.env=[(false,eval a X.env)]:=by rfl):DA X tg (.Call (.Name "reversed" p) [a] [] pos) (LP f):=by
 refine⟨?_⟩;intro pins s σ H RR I ⟨Z,B,δ,ds,E,hf,q⟩;obtain⟨d,h1,h2⟩:=R.ak hf;have hA:=fK h.1 ji hs pos pins s σ H (fun vs H1=>bb H H1/\∃v,vs=[v]/\Rep X.K B H1 d v) I ⟨Z,B,δ,d,E,h1,fun v H1 s1 r1=>⟨s1,v,rfl,r1⟩⟩
 refine Call_ (qa I hg hm boot_reversed (PyProof.Rows.callWith_type1 (dY hA fun us s1 ⟨vs,H1,I1,r1,ss,v,ev,rr⟩=>?_) hs rfl))
 subst ev;obtain⟨u,rfl,ru⟩:=vals1 r1;cases d with
 | lst es=>
   cases h2;obtain⟨b,xs,rfl,l,rs⟩:=Rep.lst.mp rr;cases ru;obtain⟨its,rv,pl,hz⟩:=I1.list l.sq;have e1:=rv.length;have e2:=rs.length;refine call_reversed_list pl.isList (wpAny_pyIter_revIter (i:=(its.toArray.size:Int) - 1) ⟨_,Heap.get?_push_size _ rfl,rfl,rfl⟩ ?_);refine⟨s1.heap.objs.size,[s1.heap.objs.size],_,_,H1,rfl,I1.kept (t':=s1.toks) fun b o e=>Heap.get?_push_of_some _ e,Ho b _ es.length,?_,fun c hc=>?_,q _ H1 ss fun B' H' pr=>?_⟩
   .refine⟨_,Heap.get?_push_size _ rfl,rfl,?_⟩;show Data.fields #[.ref b,rawInt ((its.toArray.size:Int) - 1)]=Data.fields #[.ref b,rawInt ((es.length:Int) - 1 - ((0:Nat):Int))];rw[List.size_toArray,<-e1,<-e2,show((es.length:Nat):Int) - 1 - ((0:Nat):Int)=(es.length:Int) - 1 by omega]
   .have e:c=s1.heap.objs.size:=by simpa using hc
    subst e;exact I1.xl (Nat.le_refl _) (I1.hok.fresh (Nat.le_refl _))
   .have l':uZ X.K B' H' b xs:=l.bt pr;have rs':=rs.bt pr;refine⟨fun i d hd=>?_,⟨xs,l'.sq⟩,by rw[List.length_reverse]⟩
    have hi:i < es.length:=by have:=(List.getElem?_eq_some_iff.mp hd).1;rwa [List.length_reverse] at this
    rw[List.getElem?_reverse hi] at hd;obtain⟨x,hx,rx⟩:=rs'.get hd;refine⟨⟨xs,x,l'.sq,e2.symm,hi,hx⟩,fun v o3 yl LN=>?_⟩
    obtain⟨rfl,hy⟩:=yl;have Gg:=hy xs l'.sq;rw[hx] at Gg;cases Gg;exact⟨bb.refl _,rx⟩
 | _=>cases h2
def ud(K:W.Frag)(C:Addr)(m qual:Str)(st:Stmt):Prop:=∃f fd,DP K m qual st f fd/\Meth K C m f
def EM(K:W.Frag)(C:Addr)(m qual:Str)(st:Stmt):Prop:=∃f fd,DP K m qual st f fd/\Mk K C f
end
end L2
namespace L3
open PySem PySem.Spec PyProof.Rows L2
section
variable {X:Cx} {cl:ZF}
theorem kL.p{K:W.Frag}{mg:ZE}{cl:ZF}{k c:Nat}{n:Nat}{N:List Str}(C:kL P w K mg base cl k c m n (nB N F)):kL P w K mg base cl k c m n (nC N F):=
 let⟨f,fd,ps,c1,c2,F,h⟩:=C;⟨f,fd,ps,c1,c2,F.imp fun _ _ _ _ h=>BW h,h⟩
end
end L3
end
section
namespace L2
open PySem PySem.Spec PyProof.Rows
section
variable {X:Cx}
def WO(f:FD):aw->R (List D):=fun δ=>(f δ).bind fun d=>match d with | .int j=>R.bW (decide (-(2 ^ 62)<=j/\j < 16777216)) (.ok (eM 0 j.toNat)) | _=> .no
def Xl(f:FD):FD:=fun δ=>(f δ).bind fun d=>match d with | .lst ds=> .ok (.lst ds.reverse) | _=> .no
end
end L2
end
section
namespace L2
open PySem PySem.Spec PyProof.Rows
section
variable {X:Cx}
def Wq(K:W.Frag)(n:Nat)(t:Gx):TG:=fun v σ H Q=>∃a xs,v= .ref a/\pM K H a xs/\xs.length=n/\t xs σ H Q
end
end L2
namespace L3
open PySem PySem.Spec PyProof.Rows L2
section
variable {X:Cx} {cl:ZF}
def Y2(n:Nat)(t:K5):FG:=fun d δ=>match d with
 | .d (.lst ds)=>if ds.length=n then t (ds.map .d) δ else none
 | .lst vs=>if vs.length=n then t vs δ else none
 | _=>none
def Ov(f g:FX):FA:=fun δ S=>(aq f (aq g bH) δ S).bind fun vs S1=>match vs with
 | [.d d, .d e]=>(match seqD? d,seqD? e with | some ds,some es=> .ok ((AD ds es).map .d) S1 | _,_=> .no)
 | _=> .no
theorem Ke{elts:List Expr}{k:Nat}{wH:Pos}{p pos:Pos}(h:PX X cl a f)(h':PX X cl b g)(hg:Gl X "zip")(hm:X.mg "zip"=none)(hs:starEach [a,b] X.env=[(false,eval a X.env),(false,eval b X.env)]:=by rfl)(OS:starEach [b] X.env=[(false,eval b X.env)]:=by rfl) :
 Me X cl (.Tuple elts k wH) (.Call (.Name "zip" p) [a,b] [] pos) (Ov f g):=by
 refine⟨?_⟩;intro pins s σ H RR I ⟨ρ,S,δ,vs,S',E,hf,q⟩;obtain⟨ws,S1,h1,h2⟩:=R3.ak hf;have hA:=(ae h (ae h' ay OS) (by rw[hs,OS])).1 pos pins s σ H (fun us H1=>∃bQ,Pre ρ H bQ H1/\SW X.K cl bQ H1 S1/\aJ X.K bQ H1 ws us) I
  ⟨ρ,S,δ,ws,S1,E,h1,fun us bQ H1 p1 w1 r1=>⟨bQ,p1,w1,r1⟩⟩
 refine Call_ (qa I hg hm boot_zip (PyProof.Rows.callWith_type1 (dY hA fun us s1 ⟨xs,H1,I1,r1,bQ,p1,w1,rr⟩=>?_) (by rw[hs,OS]) (by rw[OS];rfl)))
 rcases hsh:ws with _ | ⟨w0,_ | ⟨w2,_ | ⟨w3,wr⟩⟩⟩ <;> subst hsh
 .cases h2
 .cases w0 <;> cases h2
 .rcases w0 with d | _ | _ | _ <;> rcases w2 with e | _ | _ | _ <;> try (cases h2;done)
  have h2:(match seqD? d,seqD? e with | some ds,some es=>R3.ok ((AD ds es).map V3.d) S1 | _,_=> .no)= .ok vs S':=h2
  cases e1:seqD? d with
  | none=>rw [e1] at h2;cases h2
  | some ls=>
    cases e2:seqD? e with
    | none=>rw [e1,e2] at h2;cases h2
    | some ms=>
      rw[e1,e2] at h2;cases h2;obtain⟨v,ys,ev,ra,rr⟩:=rr.cu;obtain⟨v',zs,Gd,rb,rr⟩:=rr.cu;unfold aJ at rr;subst rr Gd ev;obtain⟨u,u',rfl,ru,Uo⟩:=vals2 r1;unfold bc at ra rb;obtain⟨t,a,xs,rfl,k1⟩:=ra.J2 e1;obtain⟨w,b,ys,rfl,k2⟩:=rb.J2 e2;cases ru;cases Uo;obtain⟨its,rv,pp⟩:=I1.J2 (k1 bQ.b H1 (dX.refl _ H1)).1;obtain⟨jts,JJ,VR⟩:=I1.J2 (k2 bQ.b H1 (dX.refl _ H1)).1;have la:=pp.lt;have lb:=VR.lt;refine F4 pp VR fun ib hz Dm EG X9 Yq kk=>wpAny_pyIter_zip hz ?_
      have I2:Inv X pins σ H1 {s1 with heap:=ib}:=I1.kept (t':=s1.toks) kk
      refine⟨s1.heap.objs.size+4,[s1.heap.objs.size+4,s1.heap.objs.size+2,s1.heap.objs.size+3,s1.heap.objs.size,s1.heap.objs.size+1],_,_,H1,rfl,I2,HE (t:=t) (u:=w) (zipApart_new la lb),⟨hz,Dm,⟨_,_,EG⟩,X9,Yq⟩,fun c hc=>?_,q _ bQ H1 p1 w1 (O9.of fun B' H' pr=>?_)⟩
      .have hle:s1.heap.objs.size<=c:=by
        simp only[List.mem_cons,List.not_mem_nil,or_false] at hc;rcases hc with rfl | rfl | rfl | rfl | rfl <;> omega
       exact I1.xl hle (I1.hok.fresh hle)
      .obtain⟨l1,Rl⟩:=k1 B' H' pr;obtain⟨l2,Rb⟩:=k2 B' H' pr;refine⟨fun i d hd=>?_,⟨xs,ys,l1,l2,?_⟩⟩
       .unfold AD at hd;rw[List.getElem?_map] at hd;cases ez:(ls.zip ms)[i]? with
        | none=>rw [ez] at hd;cases hd
        | some pr'=>
          rw[ez] at hd;have hd:D.tup [pr'.1,pr'.2]=d:=Option.some.inj hd;obtain⟨ea,eb⟩:=List.getElem?_zip_eq_some.mp ez;obtain⟨x,hx,rx⟩:=Rl.get ea;obtain⟨y,hy,ry⟩:=Rb.get eb;refine⟨⟨xs,ys,x,y,l1,l2,hx,hy⟩,fun v o3 yl LN=>?_⟩
          obtain⟨p,x2,y2,hp,rfl,Mq,Gg,rfl⟩:=yl;refine⟨aU hp,?_⟩;subst hd;have Mq:=Mq xs l1;have Gg:=Gg ys l2;rw[hx] at Mq;cases Mq;rw[hy] at Gg;cases Gg;refine Rep.tup.mpr ⟨p,_,rfl, .inl ⟨fun ha=>?_, .inl ba⟩,aD.cons (rx.same (aU hp)) (aD.cons (ry.same (aU hp)) aD.nil)⟩
          obtain⟨o,ho⟩:=LN p ha;rw[hp] at ho;cases ho
       .rw [<-Rl.length,<-Rb.length];unfold AD;rw[List.length_map,List.length_zip];omega
 .cases w0 <;> cases w2 <;> cases h2
theorem Qj{f g:FX}{δ:DE}{S:aF}{Q:List V3->aF->Prop}(h:W3 (f δ S) fun v S1=>W3 (g δ S1) fun w S2=>∃d e ds es,v= .d d/\w= .d e/\seqD? d=some ds/\seqD? e=some es/\Q ((AD ds es).map .d) S2):W3 (Ov f g δ S) Q:=
 W3.bind (W3.bind (h.mono fun v S1 h2=>W3.bind (W3.bind (h2.mono fun w S2 ⟨d,e,ds,es,e1,fR,e3,e4,q⟩=>by
  subst e1 fR;exact W3.bind (W3.ok (W3.ok (W3.ok (by simp only[e3,e4];exact W3.ok q))))))))
def nv(S:aF):Prop:=∀o∈S,pE S.length o=true
theorem Flat.Wk{S:aF}(h:Flat S):nv S:=fun o ho=>h o ho _
theorem Qv{N:List Str}{vs:List V3}{S:aF}{QV:V3->aF->Prop}(h:W3 (nB N F vs S) fun v S1=>(∀o∈S1.take S.length,pE S.length o=true)/\eN S.length v=true/\∃d,res S1 v=some d/\QV (.d d) (S1.take S.length)):W3 (nC N F vs S) QV:=
 W3.bind (h.mono fun v S1 ⟨hl,hg,d,e,q⟩=>by
  rw[e];exact W3.wh (by rw[List.all_eq_true.mpr hl,hg];rfl) (W3.ok q))
theorem kM{N:List Str}{vs:List V3}{S:aF}{QV:V3->aF->Prop}(hS:nv S)(h:W3 (nB N F vs S) fun v S1=>eN S.length v=true/\(∃T,S1=S++T)/\∃d,res S1 v=some d/\QV (.d d) S):W3 (nC N F vs S) QV:=
 Qv (h.mono fun v S1 ⟨hg,⟨T,e1⟩,d,e,q⟩=>by
  subst e1;rw[List.take_append_of_le_length (Nat.le_refl _),List.take_length];exact⟨hS,hg,d,e,q⟩)
end
end L3
end
section
namespace L2
open PySem PySem.Spec PyProof.Rows
section
variable {X:Cx}
def ois?:List D->Option (List (Option Int))
 | []=>some []
 | .int i ::ds=>(ois? ds).map (some i ::·)
 | .cH ::ds=>(ois? ds).map (none ::·)
 | _ ::_=>none
def Y9:Option Int->V | some i=> .int i | none=> .cH
def W5(d e:D):R Bool:=match d,e with
 | .cH, .lst ds=>(match ois? ds with | some ss=> .ok (ss.any (·.isNone)) | none=> .no)
 | _,_=> .no
def Xg(d e:D):R D:=(W5 d e).bind fun b=> .ok (.bl b)
end
end L2
end
section
namespace L2
open PySem PySem.Spec PyProof.Rows
section
variable {X:Cx}
def Sb(d:D)(ds:List D):R D:=match d,ds with
 | .lst es,[.int k]=>(match ints? es with | some ss=> .ok (.int (ss.count k:Nat)) | none=> .no)
 | _,_=> .no
end
end L2
end
section
namespace L2
open PySem PySem.Spec PyProof.Rows
section
variable {X:Cx}
abbrev Xd:D->D->R D:=zZ (fun i j=>decide (0<=j/\j < 1000/\ -1000 < i/\i < 1000)) fun i j=>i*2 ^ j.toNat
def Vp(d e:D):R D:=match d,e with | .bl a, .bl b=> .ok (.bl (a !=b)) | _,_=> .no
end
end L2
namespace L3
open PySem PySem.Spec PyProof.Rows L2
section
variable {X:Cx} {cl:ZF}
def VC(fo f:FX):FZ:=fun δ S=>(fo δ S).bind fun o S0=>match o with
 | .loc k=>(match cx S0 k with
   | none=> .no
   | some _=>(f δ S0).bind fun v S1=>match v with
     | .d d=>(match cx S1 k with | some ds=>R3.bW (decide (ds.length < sizeLine)) (.ok (.nx δ) (S1.set k (.lst (ds++[d])))) | none=> .no)
     | _=> .no)
 | _=> .no
def Ve(f:FX):FA:=fun δ S=>(aq f bH δ S).bind fun vs S1=>match vs with
 | [.d (.lst ds)]=> .ok ((cB ds).map .d) S1
 | _=> .no
end
end L3
end
section
namespace L2
open PySem PySem.Spec PyProof.Rows
section
variable {X:Cx}
end
end L2
end
section
namespace L3
open PySem PySem.Spec PyProof.Rows L2
section
variable {cl:ZF}
def Sy(it:FA)(t:FG)(c:FB)(f:FX)(own:List Str)(kp:List Nat):FX:=fun δ S=>(it δ S).bind fun vs S1=>R3.bW (decide (vs.length<=sizeLine)) ((nW t c f (oq own kp δ) vs S1).bind fun ys S2=>match su ys with | some ds=> .ok (.loc S2.length) (S2++[.lst ds]) | none=> .no)
end
section
variable {X:Cx} {cl:ZF}
end
end L3
end
section
namespace L3
open PySem PySem.Spec PyProof.Rows L2
section
variable {X:Cx} {cl:ZF}
def Tv(g:List D->R D)(fs:FA):FX:=fun δ S=>(fs δ S).bind fun vs S1=>match yz S1 vs with
 | some ds=>(R3.of (g ds) S1).bind fun d S=>R3.bW (pB d) (.ok (.d d) S)
 | none=> .no
end
end L3
end
section
namespace L2
open PySem PySem.Spec PyProof.Rows
section
variable {X:Cx}
def Wm(f:FD):FD:=fun δ=>(f δ).bind fun d=>match d with | .int i=> .ok (.int (-i - 1)) | _=> .no
def Sz(d:D)(lo hi:Option Int):R D:=match d with
 | .tup ds=>R.bW (decide (¬(HT.hJ ds.length 0 lo=0/\HT.hJ ds.length ds.length hi=ds.length))) (.ok (.tup (cutD ds lo hi)))
 | _=> .no
def Lf(f:FD)(fl fh:FO):FD:=fun δ=>(f δ).bind fun d=>(fl δ).bind fun lo=>(fh δ).bind fun hi=>Sz d lo hi
theorem Kr{lo hi:Option Expr}{fl fh:FO}{p2 pos:Pos}(he:QD X e f)(hl:QP X lo fl)(hh:QP X hi fh):QD X (.Subscript e (.Slice lo hi none p2) pos) (Lf f fl fh):=by
 refine⟨(An MJ he.1 hl.1 hh.1).imp fun σ H Q ⟨Z,B,δ,d,E,hf,q⟩=>?_⟩
 obtain⟨d1,h1,h2⟩:=R.ak hf;obtain⟨l,h3,h4⟩:=R.ak h2;obtain⟨h,h5,h6⟩:=R.ak h4;refine⟨Z,B,δ,d1,E,h1,fun v1 H1 s1 r1=>⟨Z,B,δ,l,E.same s1,h3,fun H2 s2=>⟨Z,B,δ,h,(E.same s1).same s2,h5,fun H3 s3=>?_⟩⟩⟩
 have sA:bb H H3:=s1.trans (s2.trans s3);have rZ:=r1.same (s2.trans s3);unfold Sz at h6;split at h6
 .obtain⟨hz,h7⟩:=R.bf h6;cases h7;obtain⟨a,xs,rfl,ls,rs⟩:=Rep.tup.mp rZ;have hz:=of_decide_eq_true hz;rw[rs.length] at hz;refine⟨a,xs,rfl,ls.sq,hz,fun p hp=>q _ _ (sA.trans (aU hp)) (Rep.tup.mpr ⟨p,_,rfl, .inl ⟨fun ha=>?_,?_⟩,(zT rs l h).same (aU hp)⟩)⟩
  .obtain⟨o,ho⟩:=(E.same sA).bs p ha;rw[hp] at ho;cases ho
  .exact .of ba
 .cases h6
end
end L2
namespace L3
open PySem PySem.Spec PyProof.Rows L2
section
variable {X:Cx} {cl:ZF}
structure RF (X:Cx) (cl:ZF) (st:List Stmt) (F:FZ):Prop where
 go:zc X st (fun D σ H=>D.ct=D.nx/\sX X.K cl F D σ H)
theorem Om{st:List Stmt}(h:FK X cl st F):RF X cl st F:=⟨h.1.imp fun D σ H z=>z.2⟩
theorem He{rest:List Stmt}(hc:BF X cl c fc)(h2:RF X cl rest G):RF X cl (.If c [.Continue US] [] pos ::rest) (qK fc gI G):=
 ⟨(we (IX hc.1 (yK AY) ze) h2.1).imp fun D σ H ⟨ec,ρ,S,δ,o,S',E,hf,q⟩=>by
   obtain⟨k,S1,h1,h2⟩:=R3.ak hf;refine⟨ρ,S,δ,k,S1,E,h1,fun bQ H1 p1 w1=>?_⟩
   cases k with
   | true=>
     rw[if_pos rfl] at h2;cases h2;refine F6 ?_;show D.ct σ H1;rw[ec];exact q σ bQ H1 p1 (E.to p1 w1)
   | false=>rw [if_neg (by decide)] at h2;exact Fe ⟨ec,bQ,S1,δ,o,S',E.to p1 w1,h2,q.pre p1⟩⟩
theorem KS{tg iter:Expr}{body:List Stmt}{it:FA}{t:FG}{F:FZ}{pos:Pos}(hp:PassesOwn (model X.prog X.w) X.A X.env X.xe)(hc:X.calm=true)(hi:Me X cl tg iter it)(hg:L7 X cl tg t)(hb:RF X cl body F)
 (hs:∀x,foldedSetIterable iter X.env x=pure x:=by intro _;rfl):PZ X cl (.For tg iter body [] pos) (fS it t F):=⟨(BS hp hc hi.1 hg.1 hb.1 hs).imp fun D σ H ⟨ρ,S,δ,o,S',E,hf,q⟩=>by
 obtain⟨ds,S0,h1,h2⟩:=R3.ak hf;refine⟨ρ,S,δ,ds,S0,E,h1,fun J bQ H1 p1 w1 ir=>?_⟩
 refine⟨fun i m dc H'=>m=ds.length - i/\i<=ds.length/\∃cS S1 ei,Pre bQ H1 cS H'/\fB X.K cl cS H' S1 dc ei/\jx t F (ds.drop i) ei S1= .ok o S',⟨ds.length,rfl,Nat.zero_le _,bQ,S0,δ,Pre.refl bQ H1,E.to p1 w1,by simpa using h2⟩,?_⟩
 rintro i m dc H' ⟨rfl,hi,cS,S1,ei,pv,E',hl⟩;obtain⟨go,stop⟩:=ir cS H' pv.pw E'.sw.bs;by_cases hlt:i < ds.length
 .have hd:ds[i]? =some ds[i]:=List.getElem?_eq_getElem hlt;have hdrop:ds.drop i=ds[i] ::ds.drop (i+1):=List.drop_eq_getElem_cons hlt;rw[hdrop] at hl;unfold jx at hl;split at hl
  .cases hl
  .rename_i c_ h3;obtain⟨o1,S2,h5,h6⟩:=R3.ak hl;obtain⟨g1,g2⟩:=go i _ hd;refine .inr ⟨g1,fun wo H2=>∃m_ S2 cK,Pre bQ H1 m_ H2/\fB X.K cl m_ H2 S2 wo cK/\jx t F (ds.drop (i+1)) cK S2= .ok o S',fun wo H2 n=>⟨ds.length - (i+1),by omega,rfl,hlt,n⟩,fun x o3 y=>?_⟩
   obtain⟨ss,rr⟩:=g2 x o3 y;refine⟨cS,S1,ei,ds[i],c_,E'.same ss,rr,h3,fun wo H2 s2 E2=>⟨rfl,cS,S1,c_,o1,S2,E2,h5,?_⟩⟩
   have pv2:Pre bQ H1 cS H2:=pv.trans (Pre.same (ss.trans s2));cases o1 with
   | nx cK=>exact fun Bz zA H3 p3 E3=>⟨zA,S2,cK,pv2.trans p3,E3,h6⟩
   | rt d=>
     cases h6;exact fun v zA H3 p3 w r=>q v zA H3 (p1.trans (pv2.trans p3)) w r
 .have e:i=ds.length:=by omega
  subst e;rw[List.drop_length] at hl;cases hl;exact .inl ⟨stop,q dc cS H' (p1.trans pv) E'⟩⟩
end
end L3
end
section
namespace L2
open PySem PySem.Spec PyProof.Rows
end L2
namespace L3
open PySem PySem.Spec PyProof.Rows L2
section
variable {X:Cx} {cl:ZF}
def Wb(i:Nat)(f:FX):FX:=fun δ S=>match jy δ i with
 | none=> .no
 | some k=>match cx S k with
   | none=> .no
   | some _=>(f δ S).bind fun v S1=>match v with
     | .d (.int j)=>(match cx S1 k with
       | some ds=>(match Ai ds.length j with
         | some p=>(match ds[p]? with | some d=>R3.bW (decide (-(2 ^ 63)<=j/\j < 2 ^ 63)) (.ok (.d d) (S1.set k (.lst (ds.eraseIdx p)))) | none=> .no)
         | none=> .no)
       | none=> .no)
     | _=> .no
end
end L3
end
section
namespace L3
open PySem PySem.Spec PyProof.Rows L2
section
variable {X:Cx} {cl:ZF}
def W9(f:FX)(fl fh:O7):FX:=fun δ S=>(f δ S).bind fun v S1=>(fl δ S1).bind fun lo S2=>(fh δ S2).bind fun hi S3=>match v with
 | .lst vs=> .ok (.lst (L2.cutD vs lo hi)) S3
 | _=> .no
end
end L3
end
section
namespace L2
open PySem PySem.Spec PyProof.Rows
section
variable {X:Cx}
theorem Kt{n:Int}{v:Value}(h:(cU P w).is (.inl n) v=true):∃t,v= .int n t:=by
 have h:vq (.inl n) v=true:=h;rcases dq h with⟨i,t,e1,e2⟩ | ⟨x,t,e1,_⟩
 .cases e1;exact⟨t,e2⟩
 .cases e1
theorem Au:∀{ns:List Int} {us:List Value},us.length=ns.length->(∀(j:Nat) (v:Value) (n:Int),us[j]? =some v->ns[j]? =some n->∃t,v=Value.int n t)->Vals (ns.map V.int) us
 | [],[],_,_=> .nil
 | [],_ ::_,h,_=>by simp at h
 | _ ::_,[],h,_=>by simp at h
 | n ::ns,u ::us,h,hv=> .cons (hv 0 u n rfl rfl) (Au (by simpa using h) fun j v m h1 h2=>hv (j+1) v m h1 h2)
theorem G3{κ:Type}:∀{kvs:List (κ × V)} {vs:List (κ × Value)},KV kvs vs->vs.map (·.1)=kvs.map (·.1)
 | [],_, .nil=>rfl
 | _ ::_,_, .cons h t=>by rw[List.map_cons,List.map_cons,G3 t,h.1]
theorem gather{P:Program}{w:World}{B:Around}{E:Zz}{z:Shared}{ty:String}{src own:Addr}{len:Nat}{it:Nat->Value->Prop}{ok:Heap->Prop}{Y:List Value->Shared->Prop}(G:PySem.W.KdlSrc P w ty src own len it ok)(nh:B.handled=none)(o0:ok z.heap)(few:len<=sizeLine)
 (fin:∀(g:Heap) (tk:Nat) (xs:Array Value),z.heap.objs.size < g.objs.size->(∀b o,z.heap.get? b=some o->g.get? b=some o)->ItemsOf it xs len->Y xs.toList {z with heap:=g,toks:=tk}):wpAny (model P w) B (collect (.ref src)) Y E z:=by
 obtain⟨l1,l2⟩:=G.there _ o0
 let z1:Shared:={z with heap:=z.heap.push {cls:= .type "list",data:= .seq ([]:List Value).toArray}}
 let Fn:Result->Shared->Prop:=fun q y=>∃g tk xs c,q= .ok (.ret (.ref z.heap.objs.size))/\y={z with heap:=g,toks:=tk}/\(∀b o,z.heap.get? b=some o->g.get? b=some o)/\g.get? z.heap.objs.size=some {cls:= .type "list",dict:=none,data:= .seq xs c,slots:=#[]}/\ItemsOf it xs len
 have mid:wpAny (model P w) B.in1 (Builtin.List.listExtendWith (.ref z.heap.objs.size) (.ref src) (.ref z.heap.objs.size)) (fun q y=>match q with | .done f=>Fn (.ok f) y | .again c=>c.quiet=true/\codeAny (model P w) B c Fn y) (fun e y=>Fn (.error e) y) z1:=
  PySem.W.kdl_extend (s:=z1) (R:=Fn) G nh (G.keep _ _ o0 fun b _ o e=>Heap.get?_push_of_some _ e) _ (Nat.ne_of_gt l1) (Nat.ne_of_gt l2) _ 0 (Heap.get?_push_size _ rfl)
   (fun g tk xs c hk hg hi=>⟨g,tk,xs,c,rfl,rfl,fun b o e=>hk b o (Nat.ne_of_lt (Heap.lt_size e)) (Heap.get?_push_of_some _ e),hg,hi⟩) few
 have out:∀q y,Fn q y->q= .ok (.ret (.ref z.heap.objs.size))/\∃g tk xs c,y={z with heap:=g,toks:=tk}/\g.get? z.heap.objs.size=some {cls:= .type "list",dict:=none,data:= .seq xs c,slots:=#[]}/\Y xs.toList {z with heap:=g,toks:=tk}:=fun q y ⟨g,tk,xs,c,e1,e2,hk,hg,hi⟩=>⟨e1,g,tk,xs,c,e2,hg,fin g tk xs (Heap.lt_size hg) hk hi⟩
 unfold collect;refine wpAny_bind (wpAny_runValue (codeAny_builtin entry_proto_collect' ?_));rw[Around.under_plainId PySem.F.plain_proto_collect _];refine wpAny_bind (m:=newList []) (wpAny_newObj_type (wpAny_pure ⟨plainId_quiet PySem.F.plain_list_iadd _,codeAny_builtin entry_list_iadd' ?_⟩));rw[Around.under_plainId PySem.F.plain_list_iadd _];refine wpAny_mono mid (fun q y hq=>?_) fun e y he=>?_
 .cases q with
  | done f=>
    obtain⟨e1,g,tk,xs,c,rfl,hg,hy⟩:=out _ _ hq;cases e1;exact wpAny_bind (wpAny_load hg (wpAny_pure hy))
  | again c=>
    refine⟨hq.1,codeAny_mono hq.2 fun q y hq=>?_⟩
    obtain⟨rfl,g,tk,xs,c,rfl,hg,hy⟩:=out _ _ hq;exact wpAny_bind (wpAny_load hg (wpAny_pure hy))
 .obtain⟨e1,_⟩:=out _ _ he;cases e1
def MY:List V->Hp->VK->Prop:=fun xs H Q=>∃a kvs ns,xs=[V.ref a]/\H a=some (.dK kvs)/\kvs.map (·.1)=ns.map Sum.inl/\ns.length < 64/\∀p,H p=none->Q (.ref p) (upd H p (.lst ((rB ns).map V.int)))
theorem CU(hc:X.calm=true):oz X (.builtin "sorted") MY:=by
 intro pins s σ H xs us Q I r h;obtain⟨a,kvs,ns,rfl,e,hk,Zh,q⟩:=h;obtain⟨u,rfl,ru⟩:=vals1 r;cases ru;obtain⟨hz,lo,vs,rel,dd⟩:=GS I.hok e;obtain⟨ep,hat⟩:=dd.dictAt;have LL:=G3 rel;rw[hk] at LL;have hvl:vs.length=ns.length:=by
  have h2:=congrArg List.length LL;rw[List.length_map,List.length_map] at h2;exact h2
 have hzz:sizeLine=16777216:=sizeLine_eq;refine Calls.call_function_entry kind_sorted plain_sorted entry_sorted (args_sorted1 _) ?_;unfold Builtin.«sorted»;refine wpAny_bind (m:=checkCount "sorted" 1 1 _) (wpAny_pure ?_);refine wpAny_bind (gather (PySem.W.kdl_dict (knd:=cU X.prog X.w) (kvs:=vs) (ep:=ep) lo) (I.ok.hd hc) hat (by omega) fun h' tk acc UT OO Ri=>?_)
 have hal:acc.toList.length=ns.length:=by rw[Array.length_toList];exact Ri.1.trans hvl
 have hI:IntsAre acc.toList ns:=by
  refine AB (Au hal fun j v n h1 h2=>?_)
  obtain⟨k,x,h3,h4⟩:=Ri.2 j v (by rw[<-Array.getElem?_toList];exact h1)
  have h5:(vs.map (·.1))[j]? =some k:=by rw[List.getElem?_map,h3];rfl
  rw[LL,List.getElem?_map,h2] at h5;have h6:(Sum.inl n:Key)=k:=Option.some.inj h5;rw[<-h6] at h4;exact Kt h4
 refine wpAny_bind (wpAny_newList ?_ (by rw[hal];omega))
 have hoL:(h'.push (seqObj "list" acc.toList.toArray 0)).get? h'.objs.size=some (seqObj "list" acc.toList.toArray 0):=Heap.get?_push_size _ rfl;show wpAny _ _ _ _ _ {s with heap:=h'.push (seqObj "list" acc.toList.toArray 0),toks:=tk}
 refine wpAny_bind (wpAny_holding (wpAny_call_entry slot_list_sort ⟨_,hoL,rfl⟩ entry_list_sort (list_sort_tree hoL hI (by omega) fun out Zs a1 a2 a3=>⟨_,rfl,?_⟩) (args_list_sort _)))
 refine wpAny_pure ⟨_,rfl,?_⟩;have hs:=zL a2 a3;subst hs;have RX:=Hg a1;have hle:((rB ns).map V.int).length<=sizeLine:=by
  have h1:=a2.length_eq;rw[List.length_map];omega
 obtain⟨Rw,Rx⟩:=sortedHeap_at (out:=out) hoL;have hbig:s.heap.objs.size<=h'.objs.size:=Nat.le_of_lt UT;have hn:H h'.objs.size=none:=I.hok.fresh hbig;have I2:=I.laid (a:=h'.objs.size) (o:= .lst ((rB ns).map V.int)) (h':=sortedHeap (h'.push (seqObj "list" acc.toList.toArray 0)) h'.objs.size acc.toList out) (t':=tk) (fun b o hb=>by
  have hlt:=Heap.lt_size (OO b o hb);rw[sortedHeap_old (Nat.ne_of_lt hlt) (by rw[size_push'];exact Nat.lt_succ_of_lt hlt)]
  exact Heap.get?_push_of_some _ (OO b o hb)) hbig (show e_ X.prog X.w _ _ _ (.lst _) from⟨hle,out.toList,Rw,RX,by simpa [seqObj] using Rx⟩)
 exact⟨.ref h'.objs.size,_,I2,rfl,q _ hn⟩
end
end L2
end
section
namespace L3
open PySem PySem.Spec PyProof.Rows L2
section
variable {X:Cx} {cl:ZF}
def A2(kvs:List (Key × D))(k:Key)(d:D):List (Key × D):=if(kvs.any fun kv=>decide (kv.1=k))=true then kvs.map (fun kv=>if kv.1=k then(kv.1,d) else kv) else kvs++[(k,d)]
def nS(S:aF)(k:Nat):Option (List (Key × D)):=match S[k]? with | some (.dct kvs)=>some kvs | _=>none
theorem mK{S:aF}{k:Nat}{kvs:List (Key × D)}(h:nS S k=some kvs):S[k]? =some (.dct kvs):=by
 unfold nS at h;split at h
 .rename_i e;cases h;exact e
 .cases h
theorem yx{α β:Type}(k:Key):∀{a:List (Key × α)} {b:List (Key × β)},a.map (·.1)=b.map (·.1)->(a.any fun kv=>decide (kv.1=k))=b.any fun kv=>decide (kv.1=k)
 | [],[],_=>rfl
 | [],_ ::_,h=>by simp at h
 | _ ::_,[],h=>by simp at h
 | x ::a,y ::b,h=>by
   rw[List.map_cons,List.map_cons] at h;obtain⟨h1,h2⟩:=List.cons.inj h;rw[List.any_cons,List.any_cons,yx k h2,h1]
theorem DQ{K:W.Frag}{B:List Addr}{k:Key}{d:D}{v:V}(rv:Rep K B H d v):∀{kvs:List (Key × D)} {ys:List (Key × V)},ys.map (·.1)=kvs.map (·.1)->aD K B H (kvs.map (·.2)) (ys.map (·.2))->
 (ys.map fun kv=>if kv.1=k then(kv.1,v) else kv).map (·.1)=(kvs.map fun kv=>if kv.1=k then(kv.1,d) else kv).map (·.1)/\aD K B H ((kvs.map fun kv=>if kv.1=k then(kv.1,d) else kv).map (·.2)) ((ys.map fun kv=>if kv.1=k then(kv.1,v) else kv).map (·.2))
 | [],[],_,_=>⟨rfl,aD.nil⟩
 | [],_ ::_,h,_=>by simp at h
 | _ ::_,[],h,_=>by simp at h
 | (k1,d1) ::kvs,(k2,v2) ::ys,h,r=>by
   obtain⟨h1,h2⟩:=List.cons.inj h;have h1:k2=k1:=h1;subst h1;obtain⟨x,r',e,q1,q2⟩:=aD.cu r;cases e;obtain⟨i1,i2⟩:=DQ rv h2 q2;simp only[List.map_cons];by_cases hk:k2=k
   .rw [if_pos hk,if_pos hk];exact⟨by rw[i1],aD.cons rv i2⟩
   .rw [if_neg hk,if_neg hk];exact⟨by rw[i1],aD.cons q1 i2⟩
theorem Qh{K:W.Frag}{B:List Addr}{k:Key}{d:D}{v:V}(rv:Rep K B H d v){kvs:List (Key × D)}{ys:List (Key × V)}(h:ys.map (·.1)=kvs.map (·.1))(r:aD K B H (kvs.map (·.2)) (ys.map (·.2))) :
 (putK ys k v).map (·.1)=(A2 kvs k d).map (·.1)/\aD K B H ((A2 kvs k d).map (·.2)) ((putK ys k v).map (·.2)):=by
 unfold putK A2;rw[yx k h];split
 .exact DQ rv h r
 .rw [List.map_append,List.map_append,List.map_append,List.map_append,h];exact⟨rfl,r.append (aD.cons rv aD.nil)⟩
def Ak:FX:=fun δ S=> .ok (.loc S.length) (S++[.dct []])
theorem yJ:PX X cl (.Dict [] [] pos) Ak:=⟨Jg.imp fun σ H Q ⟨ρ,S,δ,v,S',E,hf,q⟩=>by
 cases hf;intro p hp;obtain⟨w,pr⟩:=E.sw.new (a:=p) (o:= .dct []) (aU (o:= .dK []) hp) hp ⟨[],ba,rfl,aD.nil⟩;exact q _ _ _ pr w (by unfold bc;exact⟨p,by show(ρ.r++[p])[_]? =_;rw [<-E.sw.len,List.getElem?_append_right (by omega),Nat.sub_self];rfl,rfl⟩)⟩
def zM(fo fi fe:FX):FZ:=fun δ S=>(fe δ S).bind fun v S1=>(fo δ S1).bind fun o S2=>(fi δ S2).bind fun j S3=>match v,o,j with
 | .d d, .loc k, .d (.int n)=>(match nS S3 k with | some kvs=>R3.bW (decide (kvs.length < sizeLine)) (.ok (.nx δ) (S3.set k (.dct (A2 kvs (Sum.inl n) d)))) | none=> .no)
 | _,_,_=> .no
theorem yY{pos pos':Pos}(hu:X.A.units+1 < cLine)(hv:PX X cl value fe)(ho:PX X cl o fo)(hi:PX X cl i fi)(hs:swapsWith value (some (.Subscript o i pos')) pos.line X.env=pure false:=by rfl):PZ X cl (.Assign [.Subscript o i pos'] value pos) (zM fo fi fe):=
 ⟨(J6 hu ho.1 hi.1 hv.1 hs).imp fun D σ H ⟨ρ,S,δ,ou,S',E,hf,q⟩=>by
   obtain⟨v,S1,h1,h2⟩:=R3.ak hf;obtain⟨o,S2,h3,h4⟩:=R3.ak h2;obtain⟨j,S3,h5,h6⟩:=R3.ak h4;refine⟨ρ,S,δ,v,S1,E,h1,fun u1 bQ H1 p1 w1 r1=>⟨bQ,S1,δ,o,S2,E.to p1 w1,h3,fun u2 m_ H2 p2 w2 r2=>⟨m_,S2,δ,j,S3,(E.to p1 w1).to p2 w2,h5,fun u3 zA H3 p3 w3 r3=>?_⟩⟩⟩
   split at h6
   .rename_i d k n;split at h6
    .rename_i kvs hd;obtain⟨hl,h7⟩:=R3.bf h6;cases h7;have r2':=r2.pre p3;unfold bc at r2';obtain⟨a,a1,rfl⟩:=r2';unfold bc Rep at r3;subst r3;obtain⟨ys,y1,y2,y3⟩:=w3.ob k a _ a1 (mK hd);have rZ:=(r1.pre p2).pre p3;unfold bc at rZ;obtain⟨e1,fR⟩:=Qh (k:=Sum.inl n) rZ y2 y3;have Pb:ys.length=kvs.length:=by have:=congrArg List.length y2;simpa using this
     refine⟨a,_,rfl,F7.k (k:=Sum.inl n) y1 (by rw[Pb];exact of_decide_eq_true hl),?_⟩
     obtain⟨w4,p4⟩:=w3.put (o:= .dct (A2 kvs (Sum.inl n) d)) (u:= .dK (putK ys (Sum.inl n) u1)) a1 (w3.fz k a a1 (by rw[mK hd];intro h;cases h)) ⟨_,rfl,e1,fR⟩
     exact q σ zA _ (p1.trans (p2.trans (p3.trans p4))) (E.to (p1.trans (p2.trans (p3.trans p4))) w4)
    .cases h6
   .cases h6⟩
def Ox(fa fo:FX):FX:=fun δ S=>(fa δ S).bind fun j S1=>(fo δ S1).bind fun o S2=>match j,o with
 | .d (.int n), .loc k=>(match nS S2 k with | some kvs=> .ok (.d (.bl (kvs.any fun kv=>decide (kv.1=Sum.inl n)))) S2 | none=> .no)
 | _,_=> .no
theorem KG{κ:Type} [DecidableEq κ](kvs:List (κ × V))(k:κ):(lh kvs k).isSome=kvs.any fun kv=>decide (kv.1=k):=by
 unfold lh;rw[Option.isSome_map,Bool.eq_iff_iff,List.find?_isSome,List.any_eq_true]
theorem MW(hu:X.A.units+1 < cLine)(ha:PX X cl a fa)(hb:PX X cl b fb)(hm:behindInMarks .In b=false):PX X cl (.Compare a [.In] [b] pos) (Ox fa fb):=
 ⟨(MG (Ng hu ha.1 hb.1) hm).imp fun σ H Q ⟨ρ,S,δ,v,S',E,hf,q⟩=>by
   obtain⟨j,S1,h1,h2⟩:=R3.ak hf;obtain⟨o,S2,h3,h4⟩:=R3.ak h2;refine⟨ρ,S,δ,j,S1,E,h1,fun u1 bQ H1 p1 w1 r1=>⟨bQ,S1,δ,o,S2,E.to p1 w1,h3,fun u2 m_ H2 p2 w2 r2=>?_⟩⟩
   split at h4
   .rename_i n k;split at h4
    .rename_i kvs hd;cases h4;unfold bc at r2;obtain⟨ad,a1,rfl⟩:=r2;unfold bc Rep at r1;subst r1;obtain⟨ys,y1,y2,y3⟩:=w2.ob k ad _ a1 (mK hd);refine⟨ad,lh ys (Sum.inl n),rfl,uc.k (k:=Sum.inl n) y1,?_⟩;refine q _ m_ H2 (p1.trans p2) w2 ?_;unfold bc Rep;rw[KG,yx (Sum.inl n) y2]
    .cases h4
   .cases h4⟩
def intK?:List Key->Option (List Int)
 | []=>some []
 | .inl n ::ks=>(intK? ks).map (n ::·)
 | .inr _ ::_=>none
theorem Bm:∀{ks:List Key} {ns:List Int},intK? ks=some ns->ks=ns.map Sum.inl
 | [],ns,h=>by cases h;rfl
 | .inl n ::ks,ns,h=>by
   obtain⟨ms,h1,rfl⟩:=pe (show(intK? ks).map (n ::·)=some ns from h)
   rw[List.map_cons,<-Bm h1]
 | .inr x ::ks,ns,h=>by cases h
theorem D2:∀ns:List Int,intK? (ns.map Sum.inl)=some ns
 | []=>rfl
 | n ::ns=>by show(intK? (ns.map Sum.inl)).map (n ::·)=_;rw [D2 ns];rfl
def y_(f:FX):FX:=fun δ S=>(f δ S).bind fun o S1=>match o with
 | .loc k=>(match nS S1 k with
   | some kvs=>(match intK? (kvs.map (·.1)) with | some ns=>R3.bW (decide (ns.length < 64)) (.ok (.d (.lst ((rB ns).map .int))) S1) | none=> .no)
   | none=> .no)
 | _=> .no
theorem AX{p pos:Pos}(hc:X.calm=true)(h:PX X cl e f)(hg:Gl X "sorted")(hm:X.mg "sorted"=none)(he:starEach [e] X.env=(false,eval e X.env) ::starEach [] X.env:=by rfl):PX X cl (.Call (.Name "sorted" p) [e] [] pos) (y_ f):=
 ⟨(uK (CU hc) hg hm PyProof.Rows.boot_sorted (fK h.1 ji he) (he:=he)).imp fun σ H Q ⟨ρ,S,δ,v,S',E,hf,q⟩=>by
   obtain⟨o,S1,h1,h2⟩:=R3.ak hf;refine⟨ρ,S,δ,o,S1,E,h1,fun u1 bQ H1 p1 w1 r1=>?_⟩
   split at h2
   .rename_i k;split at h2
    .rename_i kvs hd;split at h2
     .rename_i ns hn;obtain⟨hl,h3⟩:=R3.bf h2;cases h3;unfold bc at r1;obtain⟨a,a1,rfl⟩:=r1;obtain⟨ys,y1,y2,y3⟩:=w1.ob k a _ a1 (mK hd);refine⟨a,ys,ns,rfl,y1,by rw[y2];exact Bm hn,of_decide_eq_true hl,fun p hp=>q _ bQ _ (p1.trans (rT hp)) (w1.same (aU hp)) ?_⟩
      unfold bc;refine Rep.lst.mpr ⟨p,_,rfl, .vt ba fun ha=>?_,ints_rep _⟩
      obtain⟨o,ho⟩:=w1.bs p ha;rw[hp] at ho;cases ho
     .cases h2
    .cases h2
   .cases h2⟩
theorem M5{K:W.Frag}{mg:ZE}{k n:Nat}{f:Addr}{fd:FuncData}{ps:List Str}:jl P w K mg base wI k f fd ps (Gm K cl n fun _ _=> .no):=
 ⟨fun vs H Q E h=>(by obtain⟨_,_,_,_,_,_,_,_,h,_⟩:=h;cases h),fun A outer s H args us vs Q E _ _ _ _ h=>(by obtain⟨_,_,_,_,_,_,_,_,h,_⟩:=h;cases h)⟩
theorem CY{δ:DE}{S:aF}{QV:V3->aF->Prop}(h:QV (.loc S.length) (S++[.dct []])):W3 (Ak δ S) QV:=W3.ok h
theorem Ct{fo fi fe:FX}{δ:DE}{S:aF}{QO:Ou->aF->Prop}(h:W3 (fe δ S) fun v S1=>W3 (fo δ S1) fun o S2=>W3 (fi δ S2) fun j S3=>∃d k n kvs,v= .d d/\o= .loc k/\j= .d (.int n)/\S3[k]? =some (.dct kvs)/\kvs.length < sizeLine/\QO (.nx δ) (S3.set k (.dct (A2 kvs (Sum.inl n) d)))):W3 (zM fo fi fe δ S) QO:=
 W3.bind (h.mono fun _ _ h=>W3.bind (h.mono fun _ _ h=>W3.bind (h.mono fun _ S3 ⟨d,k,n,kvs,e1,e2,e3,e4,hl,q⟩=>by
  subst e1 e2 e3;have e5:nS S3 k=some kvs:=by unfold nS;simp only[e4]
  simp only[e5];exact W3.wh (decide_eq_true hl) (W3.ok q))))
theorem Py{fa fb:FX}{δ:DE}{S:aF}{QV:V3->aF->Prop}(h:W3 (fa δ S) fun j S1=>W3 (fb δ S1) fun o S2=>∃n k kvs,j= .d (.int n)/\o= .loc k/\S2[k]? =some (.dct kvs)/\QV (.d (.bl (kvs.any fun kv=>decide (kv.1=Sum.inl n)))) S2):W3 (Ox fa fb δ S) QV:=
 W3.bind (h.mono fun _ _ h=>W3.bind (h.mono fun _ S2 ⟨n,k,kvs,e1,e2,e3,q⟩=>by
  subst e1 e2;have e4:nS S2 k=some kvs:=by unfold nS;simp only[e3]
  simp only[e4];exact W3.ok q))
theorem Em{f:FX}{δ:DE}{S:aF}{QV:V3->aF->Prop}(h:W3 (f δ S) fun o S1=>∃k kvs ns,o= .loc k/\S1[k]? =some (.dct kvs)/\kvs.map (·.1)=ns.map Sum.inl/\ns.length < 64/\QV (.d (.lst ((rB ns).map .int))) S1):W3 (y_ f δ S) QV:=
 W3.bind (h.mono fun _ S1 ⟨k,kvs,ns,e1,e2,e3,hl,q⟩=>by
  subst e1;have e4:nS S1 k=some kvs:=by unfold nS;simp only[e2]
  simp only[e4,e3,D2];exact W3.wh (decide_eq_true hl) (W3.ok q))
end
end L3
end
section
namespace L2
open PySem PySem.Spec PyProof.Rows
section
variable {X:Cx}
def LA:V->List V->Hp->VK->Prop:=fun x vs H Q=>∃(l:Addr) (xs:List V) (j:Int) (i:Nat) (y:V),x= .ref l/\vs=[.int j,y]/\H l=some (.lst xs)/\j=i/\i<=xs.length/\xs.length < sizeLine/\Q .cH (upd H l (.lst (xs.take i++y ::xs.drop i)))
theorem E7:SS X "list.insert" LA:=by
 intro pins s σ H x vs v us Q I rx rv h;obtain⟨l,xs,j,i,y,rfl,rfl,hH,hj,hi,hz,q⟩:=h;cases rx;obtain⟨u1,Uj,rfl,X6,YX⟩:∃u Uj,us=u ::Uj/\RelV (.int j) u/\Vals [y] Uj:=by cases rv with | cons a b=>exact⟨_,_,rfl,a,b⟩
 obtain⟨u,rfl,ru⟩:=YX.one;obtain⟨t,rfl⟩:=X6;obtain⟨z,its,n,r,hl,e⟩:=I.Kv hH;have hfi:Builtin.List.listFitsIndex j=true:=by
  have hz':sizeLine=16777216:=sizeLine_eq;exact fitsIndex_both (by omega) (by omega)
 have hk:(if j < 0 then(j+(its.toArray.size:Int)).toNat else min j.toNat its.toArray.size)=i:=by
  rw[if_neg (by omega),List.size_toArray,<-hl];omega
 have hc:¬(!Builtin.List.listFitsIndex j)=true:=by rw[hfi];exact Bool.false_ne_true
 have hsz:its.toArray.size<=sizeLine:=by rw[List.size_toArray];omega
 refine call_meets F.slot_list_insert ⟨_,e,rfl⟩ F.entry_list_insert (F.args_list_insert_3 _ _ _) (AutoSeq1.list_insert_list_int_val_1 l its.toArray n j t u hc hsz) ⟨e,?_⟩;refine⟨.cH,_,I.NS (its':=its.take i++u ::its.drop i) hH e ?_ ((r.take i).append (.cons ru (r.drop i))) ?_,rfl,q⟩
 .show(its.toArray.extract 0 (if j < 0 then(j+(its.toArray.size:Int)).toNat else min j.toNat its.toArray.size)).push u++its.toArray.extract (if j < 0 then(j+(its.toArray.size:Int)).toNat else min j.toNat its.toArray.size)=_
  rw[hk];apply Array.toList_inj.mp;simp;exact List.take_of_length_le (by simp)
 .rw [List.length_append,List.length_cons,List.length_take,List.length_drop];omega
end
end L2
namespace L3
open PySem PySem.Spec PyProof.Rows L2
section
variable {X:Cx} {cl:ZF}
def GR(i:Nat)(f g:FX):FZ:=fun δ S=>match jy δ i with
 | none=> .no
 | some k=>match cx S k with
   | none=> .no
   | some _=>(f δ S).bind fun v S1=>match v with
     | .d (.int j)=>(g δ S1).bind fun w S2=>(match w with
       | .d d=>(match cx S2 k with
         | some ds=>R3.bW (decide (0<=j/\j.toNat<=ds.length/\ds.length < sizeLine)) (.ok (.nx δ) (S2.set k (.lst (ds.take j.toNat++d ::ds.drop j.toNat))))
         | none=> .no)
       | _=> .no)
     | _=> .no
theorem NK{i:Nat}{x:Str}{e e':Expr}{f g:FX}{gU apos cD pos:Pos}(hN:X.N[i]? =some x)(hv:JA X.env.scope x)(he:PX X cl e f)(Rx:PX X cl e' g)
 (hd:(x==("__debug__":Str))=false:=by decide) (uq:(x==("__classdict__":Str))=false:=by decide)
 (hs:starEach [e,e'] X.env=(false,eval e X.env) ::starEach [e'] X.env:=by rfl) (Pk:starEach [e'] X.env=(false,eval e' X.env) ::starEach [] X.env:=by rfl) (o4:(apos.endLine==cD.line)=true:=by rfl)
 (wC:((backTo cD (starEach [e,e'] X.env)).all (fun x=>!x.1) && (backToKw cD (keywordEach [] X.env)).all (fun x=>x.1.isSome)
   && decide (([e,e']:List Expr).length+([]:List Keyword).length+(if([]:List Keyword).isEmpty then 0 else 1) < 30))=true:=by rfl)
 (Dp:(backTo cD (starEach [e'] X.env)).any (·.1)=false:=by rfl)
 (Ge:swapsWith (.Call (.Attribute (.Name x gU) "insert" apos) [e,e'] [] cD) none pos.line X.env=pure false:=by rfl)
 (o7:attributeBase (.Name x gU) "insert" X.env (eval (.Name x gU) X.env)=eval (.Name x gU) X.env:=by rfl) :
 PZ X cl (.Expr (.Call (.Attribute (.Name x gU) "insert" apos) [e,e'] [] cD) pos) (GR i f g):=by
 refine⟨(uA (Eo (X:=X) PySem.F.plainAttrs_list PySem.F.slot_list_insert PySem.F.type_list_insert E7 (sL hN hv hd uq) (fK he.1 (fK Rx.1 ji Pk) hs) o7 wC o4 hs Dp) Ge).imp fun D σ H ⟨ρ,S,δ,o,S',E,hf,q⟩=>?_⟩
 unfold GR at hf;split at hf
 .cases hf
 .rename_i k hk;split at hf
  .cases hf
  .rename_i R_ h0;obtain⟨v,S1,h1,h2⟩:=R3.ak hf;split at h2
   .rename_i j;obtain⟨w,S2,h3,h4⟩:=R3.ak h2;split at h4
    .rename_i d;split at h4
     .rename_i ds h5;obtain⟨hl,h6⟩:=R3.bf h4;cases h6;obtain⟨yw,EF,Ye⟩:=of_decide_eq_true hl;obtain⟨u,u1,u2⟩:=E.val i _ (km hk);unfold bc at u2;obtain⟨a,a1,rfl⟩:=u2;obtain⟨RB,x0,_⟩:=E.sw.ob k a _ a1 (cI h0);refine⟨.ref a,u1, .inl ⟨rfl,RB,pM.of x0⟩,⟨ρ,S,δ, .d (.int j),S1,E,h1,fun y1 bQ H1 p1 w1 r1=>⟨bQ,S1,δ, .d d,S2,E.to p1 w1,h3,fun y m_ H2 p2 w2 r2=>?_⟩⟩⟩
      have b1:=p2.ext k a (p1.ext k a a1);obtain⟨xs,x1,x2⟩:=w2.ob k a _ b1 (cI h5);unfold bc Rep at r1;subst r1;refine⟨a,xs,j,j.toNat,y,rfl,rfl,x1,(Int.toNat_of_nonneg yw).symm,by rw[<-x2.length];exact EF,by rw[<-x2.length];exact Ye,?_⟩
      unfold bc at r2;obtain⟨w3,p3⟩:=w2.put (o:= .lst (ds.take j.toNat++d ::ds.drop j.toNat)) (u:= .lst (xs.take j.toNat++y ::xs.drop j.toNat)) b1 (w2.fz k a b1 (by rw[cI h5];intro h;cases h)) ⟨_,rfl,(x2.take j.toNat).append (aD.cons r2 (x2.drop j.toNat))⟩
      exact q σ m_ _ ((p1.trans p2).trans p3) (E.to ((p1.trans p2).trans p3) w3)
     .cases h4
    .cases h4
   .cases h2
theorem QQ{i k:Nat}{f g:FX}{δ:DE}{S:aF}{QO:Ou->aF->Prop}(hk:δ[i]? =some (some (.loc k)))(h0:∃ds,S[k]? =some (.lst ds))(h:W3 (f δ S) fun v S1=>∃p:Nat,v= .d (.int p)/\W3 (g δ S1) fun w S2=>∃(d:D) (ds:List D),w= .d d/\S2[k]? =some (.lst ds)/\p<=ds.length/\ds.length < sizeLine/\QO (.nx δ) (S2.set k (.lst (ds.take p++d ::ds.drop p)))):W3 (GR i f g δ S) QO:=by
 obtain⟨R_,h0⟩:=h0;unfold GR;have e1:jy δ i=some k:=by unfold jy;rw [hk]
 have e2:cx S k=some R_:=by unfold cx;simp only[h0]
 simp only[e1,e2];refine W3.bind (h.mono fun v S1 ⟨p,e3,h3⟩=>?_)
 subst e3;refine W3.bind (h3.mono fun w S2 ⟨d,ds,e4,e5,e6,e7,q⟩=>?_)
 subst e4;have e8:cx S2 k=some ds:=by unfold cx;simp only[e5]
 simp only[e8];refine W3.wh (decide_eq_true ⟨by omega,by simpa using e6,e7⟩) (W3.ok ?_)
 simpa using q
end
end L3
end
section
namespace NT
def mx(f:Nat->Nat)(w:List Nat):Nat:=(w.map f).foldl max 0
structure BA (f:Nat->Nat) (M:Nat) (bs:List Int):Prop where
 a:∀(z:Nat) (v:Int),bs[z]? =some v->v= -1\/(0<=v/\v+f z<=M)
def BB(f:Nat->Nat)(M:Nat)(bs:List Int)(n:Nat):Prop:=∃(z:Nat) (v:Int),z < n/\bs[z]? =some v/\0<=v/\(M:Int)<=v+f z
def Up(bs VQ:List Int):Prop:=VQ.length=bs.length/\∀(z:Nat) (v:Int),bs[z]? =some v->∃v',VQ[z]? =some v'/\v<=v'
end NT
namespace NT
open PySem PySem.Spec PyProof.Rows L2 L3
structure Gt where
 k:Str
 w:List Nat
 s:Bool
def nN(z:Nat):D:= .int z
def wN(w:List Nat):D:= .tup (w.map nN)
def gN(g:Gt):D:= .tup [.str g.k,wN g.w, .bl g.s]
def iN(x:Str × Nat):D:= .tup [.str x.1, .int x.2]
def oN(x:Str × List Nat):D:= .tup [.str x.1,wN x.2]
structure Net where
 i:ZA
 g:List Gt
 o:ZC
def Net.d(n:Net):D:= .tup [.lst (n.i.map iN), .lst (n.g.map gN), .lst (n.o.map oN)]
def Net.first(n:Net):Nat:=(n.i.map (·.2)).sum
structure VN (n:Nat) (w:List Nat):Prop where
 ne:w≠[]
 le:w.length<=3
 lt:∀z∈w,z < n
structure Net.Ok (n:Net):Prop where
 i1:1<=n.i.length
 i6:n.i.length<=6
 iw:∀x∈n.i,1<=x.2/\x.2<=3
 is:∀x∈n.i,fQ 0 (.str x.1)
 g60:n.g.length<=60
 gw:∀(p:Nat) (g:Gt),n.g[p]? =some g->VN (n.first+p) g.w
 gs:∀g∈n.g,fQ 0 (.str g.k)
 o1:1<=n.o.length
 o6:n.o.length<=6
 ow:∀x∈n.o,VN (n.first+n.g.length) x.2
 os:∀x∈n.o,fQ 0 (.str x.1)
theorem IV:∀{l:ZA},(∀x∈l,1<=x.2/\x.2<=3)->l.length<=(l.map (·.2)).sum/\(l.map (·.2)).sum<=3*l.length
 | [],_=>by simp
 | x ::l,h=>by
   have ih:=IV (l:=l) fun y hy=>h y (List.mem_cons_of_mem _ hy)
   have:=h x List.mem_cons_self;rw[List.map_cons,List.sum_cons,List.length_cons];omega
theorem eq_self{n:Nat}{ds:List D}(h:fQ n (.tup ds))(hn:n<=64):kF (.tup ds) (.tup ds)= .ok (.bl true):=by unfold kF;rw [h.eqT hn];rfl
inductive Sm:Nat->D->Prop where
 | int (n:Nat) (i:Int):Sm n (.int i)
 | bl (n:Nat) (b:Bool):Sm n (.bl b)
 | str (n:Nat) (s:Str):Sm n (.str s)
 | lst {n:Nat} {ds:List D} (h:∀d∈ds,Sm n d) (hl:ds.length<=1000000):Sm (n+1) (.lst ds)
 | tup {n:Nat} {ds:List D} (h:∀d∈ds,Sm n d) (hl:ds.length<=1000000):Sm (n+1) (.tup ds)
theorem mB{F G:FS}{δ:aw}{d:D}(h:F δ= .ok (.rt d)):k_ F G δ= .ok (.rt d):=by unfold k_;rw [h];rfl
theorem mJ{m i:Nat}{v:V3}(h:((eM 0 m).map V3.d)[i]? =some v):i < m/\v= .d (.int i):=by
 rw[List.getElem?_map,eM,List.getElem?_map] at h;cases q:(List.range m)[i]? with
 | none=>rw [q] at h;cases h
 | some j=>
   rw[q] at h;cases h;obtain⟨q1,q2⟩:=List.getElem?_eq_some_iff.mp q;rw[List.getElem_range] at q2;rw[List.length_range] at q1;subst q2;exact⟨q1,by simp⟩
theorem Kp(lo:Int)(m:Nat):(eM lo m).length=m:=by rw[eM,List.length_map,List.length_range]
theorem j8(lo:Int)(m:Nat):((eM lo m).map V3.d).length=m:=by rw[List.length_map,Kp]
theorem fG{α:Type}{l:List α}{f:α->D}{i:Nat}{v:V3}(h:((l.map f).map V3.d)[i]? =some v):∃x,l[i]? =some x/\v= .d (f x):=by
 rw[List.getElem?_map,List.getElem?_map] at h;cases q:l[i]? with
 | none=>rw [q] at h;cases h
 | some x=>rw [q] at h;cases h;exact⟨x,rfl,rfl⟩
theorem rA{α:Type}{l:List α}{f:α->D}{i:Nat}{v:D}(h:(l.map f)[i]? =some v):∃x,l[i]? =some x/\v=f x:=by
 rw[List.getElem?_map] at h;cases q:l[i]? with
 | none=>rw [q] at h;cases h
 | some x=>rw [q] at h;cases h;exact⟨x,rfl,rfl⟩
theorem eA{α:Type}{t:FT}{c:aw->R Bool}{f:FD}{δ:aw}(a b:α->D):∀{xs:List α},(∀x∈xs,∃c_,t (a x) δ= .ok c_/\c c_= .ok true/\f c_= .ok (b x))->rH t c f δ (xs.map a)= .ok (xs.map b)
 | [],_=>rfl
 | x ::xs,h=>by
   obtain⟨c_,h1,h2,h3⟩:=h x List.mem_cons_self;have ih:=eA (t:=t) (c:=c) (f:=f) (δ:=δ) a b (xs:=xs) fun y hy=>h y (List.mem_cons_of_mem _ hy)
   rw[List.map_cons];unfold rH;rw[h1,R.aT,h2,R.aT,if_pos rfl,h3,R.aT,ih];rfl
theorem eB{α:Type}{t:FT}{c:aw->R Bool}{f:FD}{δ:aw}(p:α->Bool)(a b:α->D):∀{xs:List α},(∀x∈xs,∃c_,t (a x) δ= .ok c_/\c c_= .ok (p x)/\(p x=true->f c_= .ok (b x)))->rH t c f δ (xs.map a)= .ok ((xs.filter p).map b)
 | [],_=>rfl
 | x ::xs,h=>by
   obtain⟨c_,h1,h2,h3⟩:=h x List.mem_cons_self;have ih:=eB (t:=t) (c:=c) (f:=f) (δ:=δ) p a b (xs:=xs) fun y hy=>h y (List.mem_cons_of_mem _ hy)
   rw[List.map_cons];unfold rH;rw[h1,R.aT,h2,R.aT];cases e:p x with
   | true=>rw [if_pos rfl,h3 e,R.aT,ih,List.filter_cons,if_pos e];rfl
   | false=>rw [if_neg (by decide),ih,List.filter_cons,if_neg (by rw[e];decide)]
theorem K0{n z:Nat}(h:z < n):Ai n (z:Int)=some z:=by
 unfold Ai;rw[if_pos (by omega),if_pos (by omega)]
 simp
theorem GF{α:Type}{xs:List α}{z:Nat}{x:α}(h:xs[z]? =some x):sU xs (z:Int)=some x:=by
 have hl:=(List.getElem?_eq_some_iff.mp h).1;unfold sU;rw[K0 hl];exact h
theorem kJ{ds:List D}{z:Nat}{x:D}(h:ds[z]? =some x):cR (.lst ds) (.int z)= .ok x:=sx (GF h)
end NT
end
section
namespace MT
open PySem PySem.Spec PyProof.Rows L2 L3
abbrev M:=Nat->Bool
theorem P6{N:List Str}{F:FZ}{vs:List V3}{δ:DE}{S:aF}{QV:V3->aF->Prop}(e:cm N vs=δ)(h:W3 (F δ S) fun o S1=>∃ei,o= .nx ei/\QV (.d .cH) S1):W3 (nB N F vs S) QV:=by
 subst e;exact W3.bind (h.mono fun _ _ ⟨_,e,q⟩=>by subst e;exact W3.ok q)
def jf:Nat->M->Nat
 | 0,_=>0
 | N+1,f=>(if f 0 then 1 else 0)+2*jf N (fun i=>f (i+1))
theorem iZ:∀(N:Nat) (f:M) (i:Nat),(jf N f).testBit i=(decide (i < N) && f i)
 | 0,f,i=>by unfold jf;simp
 | N+1,f,0=>by
   unfold jf;rw[Nat.testBit_zero];cases f 0 <;> simp <;> omega
 | N+1,f,i+1=>by
   unfold jf;rw[Nat.testBit_succ];have:((if f 0=true then 1 else 0)+2*jf N fun i=>f (i+1)) / 2=jf N fun i=>f (i+1):=by split <;> omega
   rw[this,iZ N _ i];simp
theorem o8:∀{N:Nat} {f g:M},(∀i,i < N->f i=g i)->jf N f=jf N g
 | 0,_,_,_=>rfl
 | N+1,f,g,h=>by
   unfold jf;rw[h 0 (by omega),o8 (N:=N) fun i hi=>h (i+1) (by omega)]
theorem DS(N:Nat)(f g:M):jf N f &&& jf N g=jf N fun i=>f i && g i:=by
 refine Nat.eq_of_testBit_eq fun i=>?_
 rw[Nat.testBit_and,iZ,iZ,iZ];cases decide (i < N) <;> simp
theorem GA(N:Nat)(f g:M):jf N f ||| jf N g=jf N fun i=>f i || g i:=by
 refine Nat.eq_of_testBit_eq fun i=>?_
 rw[Nat.testBit_or,iZ,iZ,iZ];cases decide (i < N) <;> simp
theorem DR:∀(N:Nat) (f g:M),((jf N fun i=>f i || g i:Nat):Int) - (jf N fun i=>f i && g i:Nat)=(jf N fun i=>f i !=g i:Nat)
 | 0,f,g=>rfl
 | N+1,f,g=>by
   have ih:=DR N (fun i=>f (i+1)) (fun i=>g (i+1))
   have e:∀h:M,jf (N+1) h=(if h 0 then 1 else 0)+2*jf N (fun i=>h (i+1)):=fun _=>rfl
   rw[e,e,e];generalize jf N (fun i=>f (i+1) || g (i+1))=a at ih ⊢
   generalize jf N (fun i=>f (i+1) && g (i+1))=b at ih ⊢
   generalize jf N (fun i=>f (i+1) !=g (i+1))=c at ih ⊢
   show(((if(f 0 || g 0) then 1 else 0)+2*a:Nat):Int) - ((if(f 0 && g 0) then 1 else 0)+2*b:Nat)=((if(f 0 !=g 0) then 1 else 0)+2*c:Nat)
   cases f 0 <;> cases g 0 <;> simp <;> omega
theorem vw(x y:Nat):Builtin.bitAnd (x:Int) (y:Int)=((x &&& y:Nat):Int):=by
 unfold Builtin.bitAnd;rw[decide_eq_true (by omega:(0:Int)<=x),decide_eq_true (by omega:(0:Int)<=y)]
 simp
theorem Ef(x y:Nat):Builtin.bitOr (x:Int) (y:Int)=((x ||| y:Nat):Int):=by
 unfold Builtin.bitOr Builtin.bitAnd Builtin.bitNot;rw[decide_eq_false (by omega:¬(0:Int)<= -(x:Int) - 1),decide_eq_false (by omega:¬(0:Int)<= -(y:Int) - 1)]
 show -(-(((-(-(x:Int) - 1) - 1).toNat ||| (-(-(y:Int) - 1) - 1).toNat:Nat):Int) - 1) - 1=_
 rw[show(-(-(x:Int) - 1) - 1).toNat=x by omega,show(-(-(y:Int) - 1) - 1).toNat=y by omega]
 omega
def mI(N:Nat)(f:M):D:= .int (jf N f:Nat)
theorem A8{N:Nat}{f g:M}(h:∀i,i < N->f i=g i):mI N f=mI N g:=by unfold mI;rw [o8 h]
theorem u9(N:Nat)(f g:M):Gk (mI N f) (mI N g)= .ok (mI N fun i=>f i && g i):=by
 show R.ok (D.int (Builtin.bitAnd (jf N f:Int) (jf N g:Int)))=_;rw[vw,DS];rfl
theorem A5(N:Nat)(f g:M):JC (mI N f) (mI N g)= .ok (mI N fun i=>f i || g i):=by
 show R.ok (D.int (Builtin.bitOr (jf N f:Int) (jf N g:Int)))=_;rw[Ef,GA];rfl
theorem DK(N:Nat)(f g:M):Gj (mI N f) (mI N g)= .ok (mI N fun i=>f i !=g i):=by
 show R.ok (D.int (Builtin.bitOr (jf N f:Int) (jf N g:Int) - Builtin.bitAnd (jf N f:Int) (jf N g:Int)))=_;rw[Ef,vw,GA,DS,DR];rfl
def one:M:=fun _=>true
theorem Bl(N:Nat)(f:M):Gj (mI N one) (mI N f)= .ok (mI N fun i=>!f i):=by
 rw[DK];have:(fun i=>one i !=f i)=fun i=>!f i:=by funext i;unfold one;simp
 rw[this]
theorem HM(N:Nat)(f:M)(c:Bool):(if c then Gj (mI N one) (mI N f) else .ok (mI N f))= .ok (mI N fun i=>f i !=c):=by
 cases c with
 | true=>
   rw[if_pos rfl,Bl];have:(fun i=>!f i)=fun i=>f i !=true:=by funext i;cases f i <;> rfl
   rw[this]
 | false=>
   rw[if_neg (by decide)]
   have:f=fun i=>f i !=false:=by funext i;cases f i <;> rfl
   rw[<-this]
theorem wc{N:Nat}{f:M}:jf N f=0↔∀i,i < N->f i=false:=by
 constructor
 .intro h i hi;have:=iZ N f i;rw[h,Nat.zero_testBit,decide_eq_true hi,Bool.true_and] at this;exact this.symm
 .intro h;refine Nat.eq_of_testBit_eq fun i=>?_
  rw[iZ,Nat.zero_testBit];by_cases q:i < N
  .rw [h i q];simp
  .rw [decide_eq_false q];rfl
theorem P4(N:Nat)(f:M)(n:Nat):(GI (mI N f) (.int n)).bind (fun d=>Gk d (.int 1))= .ok (.int (if decide (n < N) && f n then 1 else 0)):=by
 have h1:GI (mI N f) (.int n)= .ok (.int ((jf N f / 2 ^ n:Nat):Int)):=by
  show R.bW (decide ((0:Int)<=n)) (.ok (D.int ((jf N f:Int) / 2 ^ ((n:Int)).toNat)))=_;rw[cN _ (by omega),Int.toNat_natCast]
  congr 2
 rw[h1,R.aT];show R.ok (D.int (Builtin.bitAnd ((jf N f / 2 ^ n:Nat):Int) ((1:Nat):Int)))=_;rw[vw,Nat.and_one_is_mod,<-iZ];congr 2;unfold Nat.testBit;rw[Nat.shiftRight_eq_div_pow,Nat.one_and_eq_mod_two];have:jf N f / 2 ^ n % 2=0\/jf N f / 2 ^ n % 2=1:=by omega
 rcases this with q | q <;> rw[q] <;> rfl
def bI(b:Bool):D:= .int (if b then 1 else 0)
def JE:List Bool->Nat
 | []=>0
 | b ::bs=>(if b then 1 else 0)+2*JE bs
theorem Ht:∀bs:List Bool,JE bs=jf bs.length fun i=>bs.getD i false
 | []=>rfl
 | b ::bs=>by
   unfold JE;rw[Ht bs];rfl
def nI(n:Nat):D:= .int (n:Int)
def kS:Nat->Str | 0=>"not" | 1=>"and" | 2=>"or" | 3=>"xor" | _=>"vote"
def ar:Nat->Nat | 0=>1 | 4=>3 | _=>2
theorem G_(k:Nat):ar k<=3:=by unfold ar;split <;> omega
def gv:Nat->List Bool->Bool
 | 0,[a]=>!a
 | 1,[a,b]=>a && b
 | 2,[a,b]=>a || b
 | 3,[a,b]=>a !=b
 | 4,[a,b,c]=>(a && b) || (a && c) || (b && c)
 | _,_=>false
def nD(ws:List M)(n:Nat):M:=ws.getD n fun _=>false
theorem y0{ws:List M}{b:M}{n:Nat}(h:n < ws.length):nD (ws++[b]) n=nD ws n:=by
 unfold nD;rw[List.getD_eq_getElem?_getD,List.getElem?_append_left h,List.getD_eq_getElem?_getD]
theorem Aq(ws:List M)(b:M):nD (ws++[b]) ws.length=b:=by
 unfold nD;rw[List.getD_eq_getElem?_getD,List.getElem?_append_right (Nat.le_refl _),Nat.sub_self];rfl
abbrev Gt:=Nat × List Nat × Bool
def fP(g:Gt):D:= .tup [.str (kS g.1), .tup (g.2.1.map nI), .bl g.2.2]
def Ad(n:Nat)(g:Gt):Prop:=g.1<=4/\g.2.1.length=ar g.1/\∀w∈g.2.1,w < n
def inD(x:Str × Nat):D:= .tup [.str x.1,nI x.2]
def wJ(x:Str × List Nat):D:= .tup [.str x.1, .tup (x.2.map nI)]
def bO(ins:ZA)(gs:List Gt)(os:ZC):D:= .tup [.lst (ins.map inD), .lst (gs.map fP), .lst (os.map wJ)]
def jc(ins:ZA):Nat:=(ins.map (·.2)).sum
def gF(g:Gt)(ws:List M):M:=fun p=>gv g.1 (g.2.1.map fun n=>nD ws n p)
def ju(bad:List Int)(b:M):Nat->List M->List M
 | 0,ws=>ws
 | n+1,ws=>ju bad b n ws++[fun p=>b p !=bad.contains ((ju bad b n ws).length:Int)]
theorem il(bad:List Int)(b:M):∀n ws,(ju bad b n ws).length=ws.length+n
 | 0,ws=>rfl
 | n+1,ws=>by unfold ju;rw [List.length_append,il bad b n ws];rfl
def dQ(ins:ZA)(bits:List M)(bad:List Int):Nat->List M
 | 0=>[]
 | i+1=>match ins[i]?,bits[i]? with | some x,some b=>ju bad b x.2 (dQ ins bits bad i) | _,_=>dQ ins bits bad i
theorem rO{ins:ZA}{bits:List M}{bad:List Int}(hb:bits.length=ins.length):∀i,i<=ins.length->(dQ ins bits bad i).length=jc (ins.take i)
 | 0,_=>rfl
 | i+1,hi=>by
   have h1:ins[i]? =some ins[i]:=List.getElem?_eq_getElem (by omega)
   have h2:bits[i]? =some bits[i]:=List.getElem?_eq_getElem (by omega)
   unfold dQ;rw[h1,h2];show(ju bad bits[i] ins[i].2 (dQ ins bits bad i)).length=_;rw[il,rO hb i (by omega),List.take_add_one,h1]
   unfold jc;simp only[Option.toList_some,List.map_append,List.sum_append,List.map_cons,List.map_nil,List.sum_cons,List.sum_nil];omega
def qJ(gs:List Gt)(turned:List Int)(w0:List M):Nat->List M
 | 0=>w0
 | i+1=>match gs[i]? with | some g=>qJ gs turned w0 i++[fun p=>gF g (qJ gs turned w0 i) p !=turned.contains (i:Int)] | none=>qJ gs turned w0 i
theorem rY{gs:List Gt}{turned:List Int}{w0:List M}:∀i,i<=gs.length->(qJ gs turned w0 i).length=w0.length+i
 | 0,_=>rfl
 | i+1,hi=>by
   have h1:gs[i]? =some gs[i]:=List.getElem?_eq_getElem (by omega)
   unfold qJ;rw[h1];show(qJ gs turned w0 i++[_]).length=_;rw[List.length_append,rY i (by omega)]
   rfl
structure jv (ins:ZA) (gs:List Gt) (os:ZC):Prop where
 hi:ins.length < 100
 hw:∀x∈ins,x.2 < 100
 hg:gs.length < 1000
 g:∀(i:Nat) (x:Gt),gs[i]? =some x->Ad (jc ins+i) x
 ho:os.length < 1000
 o:∀x∈os,x.2.length < 1000/\∀w∈x.2,w < jc ins+gs.length
def HK(ins:ZA)(gs:List Gt)(bits:List M)(turned bad:List Int):List M:=qJ gs turned (dQ ins bits bad ins.length) gs.length
theorem C6:∀{l:ZA},(∀x∈l,x.2 < 100)->jc l<=100*l.length
 | [],_=>by simp [jc]
 | x ::l,h=>by
   have ih:=C6 (l:=l) fun y hy=>h y (List.mem_cons_of_mem _ hy)
   have:=h x List.mem_cons_self;unfold jc at ih ⊢;rw[List.map_cons,List.sum_cons,List.length_cons];omega
theorem Hk{ins:ZA}{gs:List Gt}{bits:List M}{turned bad:List Int}(hb:bits.length=ins.length):(HK ins gs bits turned bad).length=jc ins+gs.length:=by unfold HK;rw [rY _ (Nat.le_refl _),rO hb _ (Nat.le_refl _),List.take_length]
def tell(ws:List M)(x:Str × List Nat):List M:=x.2.map (nD ws)
def Tj:List Bool->Bool × Bool
 | [a]=>(!a,a)
 | [a,b]=>(!(a || b),a && b)
 | [a,b,c]=>let v:=(a && b) || (a && c) || (b && c);(!v,v)
 | _=>(false,false)
def brk(safe:Bool)(x y:Bool × Bool):Bool:=if safe then(x.1 && y.2) || (x.2 && y.1) else(x.1 !=y.1) || (x.2 !=y.2)
theorem y8(i:Int)(ps:List Int):Ah (.int i) (.tup (ps.map .int))= .ok (.bl (ps.contains i)):=by
 show((match ints? (ps.map D.int) with | some ss=>R.ok (ss.contains i) | none=> .no)).bind (fun b=>R.ok (D.bl b))=_
 rw[L2.ints_map];rfl
theorem pz{ds:List D}{i:Nat}{v:V3}(h:((cB ds).map V3.d)[i]? =some v):∃d,ds[i]? =some d/\v= .d (.tup [.int i,d]):=by
 rw[List.getElem?_map,cB,List.getElem?_map,List.getElem?_zipIdx] at h;cases q:ds[i]? with
 | none=>rw [q] at h;cases h
 | some d=>
   rw[q] at h;simp at h;exact⟨d,rfl,h.symm⟩
theorem y7{c:aw->R Bool}{δ:aw}{b:Bool}{r:R D}(h:c δ= .ok b)(h2:(if b then f δ else g δ)=r):M_ c f g δ=r:=by unfold M_;rw [h,R.aT];exact h2
theorem cP(S:aF)(x y:SO):(S++[x]).set S.length y=S++[y]:=by
 rw[List.set_append_right _ _ (Nat.le_refl _),Nat.sub_self];rfl
theorem bg(S:aF)(x:SO):(S++[x])[S.length]? =some x:=by rw[List.getElem?_append_right (Nat.le_refl _),Nat.sub_self];rfl
theorem N2{N:Nat}{ws:List M}{n:Nat}(h:n < ws.length):cR (.lst (ws.map (mI N))) (nI n)= .ok (mI N (nD ws n)):=by
 refine NT.kJ ?_;rw[List.getElem?_map,List.getElem?_eq_getElem h];unfold nD;rw[List.getD_eq_getElem?_getD,List.getElem?_eq_getElem h];rfl
theorem mW{α:Type}{t:FG}{body:FZ}{S:aF}(g:α->V3)(f:α->Option V3)(E:DE->Prop):∀{xs:List α} {δ:DE},E δ->
 (∀x∈xs,∀δ,E δ->∃c_,t (g x) δ=some c_/\W3 (body c_ S) fun o S1=>S1=S/\(match f x with | some v=>o= .rt v | none=>∃cK,o= .nx cK/\E cK))->
 W3 (jx t body (xs.map g) δ S) fun o S1=>S1=S/\(match xs.findSome? f with | some v=>o= .rt v | none=>∃cK,o= .nx cK/\E cK)
 | [],δ,h0,_=>W3.ok ⟨rfl,δ,rfl,h0⟩
 | x ::xs,δ,h0,hs=>by
   obtain⟨c_,e1,o,S1,e2,rfl,h2⟩:=hs x List.mem_cons_self δ h0;rw[List.map_cons];unfold jx;rw[e1];refine W3.bind ⟨_,_,e2,?_⟩;rw[List.findSome?_cons];cases hf:f x with
   | some v=>rw [hf] at h2;subst h2;exact W3.ok ⟨rfl,rfl⟩
   | none=>
     rw[hf] at h2;obtain⟨cK,rfl,h2⟩:=h2;exact mW g f E h2 fun y hy=>hs y (List.mem_cons_of_mem _ hy)
theorem vJ{α:Type}{t:FT}{body:FS}(g:α->D)(f:α->Option D)(E:aw->Prop):∀{xs:List α} {δ:aw},E δ->
 (∀x∈xs,∀δ,E δ->∃o,((t (g x) δ).bind body)= .ok o/\(match f x with | some v=>o= .rt v | none=>∃cK,o= .nx cK/\E cK))->
 ∃o,pT t body (xs.map g) δ= .ok o/\(match xs.findSome? f with | some v=>o= .rt v | none=>∃cK,o= .nx cK/\E cK)
 | [],δ,h0,_=>⟨_,rfl,δ,rfl,h0⟩
 | x ::xs,δ,h0,hs=>by
   obtain⟨o,e2,h2⟩:=hs x List.mem_cons_self δ h0;rw[List.map_cons];unfold pT;cases e3:t (g x) δ with
   | no=>rw [e3] at e2;cases e2
   | ex _=>rw [e3] at e2;cases e2
   | ok c_=>
     rw[e3,R.aT] at e2;rw[R.aT,e2,R.aT,List.findSome?_cons];cases hf:f x with
     | some v=>rw [hf] at h2;subst h2;exact⟨_,rfl,rfl⟩
     | none=>
       rw[hf] at h2;obtain⟨cK,rfl,h2⟩:=h2;exact vJ g f E h2 fun y hy=>hs y (List.mem_cons_of_mem _ hy)
def eL:List Nat->Nat->ZD
 | _,0=>[[]]
 | ps,s+1=>(List.range ps.length).flatMap fun a=>(eL (ps.drop (a+1)) s).map (ps.getD a 0 ::·)
theorem iC:∀{s:Nat} {ps T:List Nat},T∈eL ps s->T.length=s/\∀x∈T,x∈ps
 | 0,ps,T,h=>by unfold eL at h;rw [List.mem_singleton.mp h];simp
 | s+1,ps,T,h=>by
   unfold eL at h;obtain⟨a,ha,h⟩:=List.mem_flatMap.mp h;obtain⟨R,hR,rfl⟩:=List.mem_map.mp h;rw[List.mem_range] at ha;obtain⟨h1,h2⟩:=iC hR;refine⟨by simp [h1],fun x hx=>?_⟩
   rcases List.mem_cons.mp hx with rfl | hx
   .rw [List.getD_eq_getElem?_getD,List.getElem?_eq_getElem ha];exact List.getElem_mem ha
   .exact List.mem_of_mem_drop (h2 x hx)
theorem CA:∀{l:List Nat} {m:Nat},(∀x∈l,x<=m)->l.sum<=l.length*m
 | [],_,_=>by simp
 | x ::l,m,h=>by
   have:=CA (l:=l) (m:=m) fun y hy=>h y (List.mem_cons_of_mem _ hy)
   have h0:=h x List.mem_cons_self;rw[List.sum_cons,List.length_cons,Nat.add_mul];omega
theorem uC:∀{s:Nat} {ps:List Nat} {n:Nat},ps.length<=n->(eL ps s).length<=n ^ s
 | 0,ps,n,_=>by unfold eL;simp
 | s+1,ps,n,h=>by
   unfold eL;rw[List.length_flatMap,Nat.pow_succ];refine Nat.le_trans (CA (m:=n ^ s) fun x hx=>?_) ?_
   .obtain⟨a,_,rfl⟩:=List.mem_map.mp hx;rw[List.length_map];exact uC (by rw[List.length_drop];omega)
   .rw [List.length_map,List.length_range,Nat.mul_comm];exact Nat.mul_le_mul_left _ h
theorem ik{F G:FZ}{δ:DE}{S:aF}{QO:Ou->aF->Prop}(h:W3 (F δ S) fun o S1=>match o with | .nx c_=>W3 (G c_ S1) QO | .rt v=>QO (.rt v) S1):W3 (aY F G δ S) QO:=
 W3.bind (h.mono fun o S1 q=>by cases o with | nx c_=>exact q | rt v=>exact W3.ok q)
end MT
end
section
namespace K25
open PySem PySem.Spec PyProof.Rows L2 L3
variable {P:Program} {w:World} {K:W.Frag} {mg:ZE} {base:Heap} {cl:ZF}
def top(i:Nat):Stmt:=PySem.Challenge.pw_bearfaults_k25_whole_surest_bear.main.body.getD i (.Pass ⟨0,0,0,0⟩)
structure Tp (K:W.Frag) (mg:ZE) (cl:ZF):Prop where
 z_enumerate:mg "enumerate"=none
 z_range:mg "range"=none
 z_len:mg "len"=none
 z_tuple:mg "tuple"=none
 z_reversed:mg "reversed"=none
 z_zip:mg "zip"=none
 z_all:mg "all"=none
 z_any:mg "any"=none
 z_min:mg "min"=none
 z_sorted:mg "sorted"=none
 z_list:mg "list"=none
 z_int:mg "int"=none
 C_Bench:zD K (cl 0)
 N_Bench_net:dw K (cl 0) "net"
 N_Bench_many_inputs:dw K (cl 0) "many_inputs"
 N_Bench_full:dw K (cl 0) "full"
 N_Bench_in_masks:dw K (cl 0) "in_masks"
 M_Bench:mg "Bench"=some (.ref (cl 0))
 C_Trial:zD K (cl 1)
 N_Trial_bench:dw K (cl 1) "bench"
 N_Trial_plain:dw K (cl 1) "plain"
 N_Trial_unsure:dw K (cl 1) "unsure"
 M_Trial:mg "Trial"=some (.ref (cl 1))
abbrev mj:Stmt:=top 2
noncomputable abbrev xF:List Str:=["masks"]
noncomputable def BM:{b:List Stmt // aO mj=b}:=⟨_,by conv=>lhs;whnf⟩
noncomputable def vW:{b:Scope // az mj=b}:=⟨_,by conv=>lhs;whnf⟩
theorem FL:a_ xF ["masks"] vW.1:=⟨rfl,rfl,rfl,by decide+kernel,rfl,by decide+kernel,by decide+kernel⟩
def xB:FS:=(jH (e2 JC (e2 JC (e2 Gk (e2 cR (ah 0) (eC (.int 0))) (e2 cR (ah 0) (eC (.int 1)))) (e2 Gk (e2 cR (ah 0) (eC (.int 0))) (e2 cR (ah 0) (eC (.int 2))))) (e2 Gk (e2 cR (ah 0) (eC (.int 1))) (e2 cR (ah 0) (eC (.int 2))))))
def iz:List D->R D:=xY xF xB
theorem FU(T:Tp K mg cl)(h:Def K mg "vote_of" mj):Callee P w K mg base 1 "vote_of" 1 iz:=by
 obtain⟨f,fd,F,hm⟩:=h;exact⟨f,fd,_,du (k:=0) BM.2 vW.2 F FL (fun dU A outer s H E hr=>(bL (cw (aR A6 (aR A6 (aR zR (aS (aa 0) ai (fun _ _=>rfl)) (aS (aa 0) ai (fun _ _=>rfl))) (aR zR (aS (aa 0) ai (fun _ _=>rfl)) (aS (aa 0) ai (fun _ _=>rfl)))) (aR zR (aS (aa 0) ai (fun _ _=>rfl)) (aS (aa 0) ai (fun _ _=>rfl))))))),hm,F.kp,F.binds fun _ _ _ _ _ _ us hl=>match us,hl with | [_],_=>rfl⟩
abbrev i4:Stmt:=top 3
noncomputable abbrev nY:List Str:=["kind","masks","full"]
noncomputable def zl:{b:List Stmt // aO i4=b}:=⟨_,by conv=>lhs;whnf⟩
noncomputable def rL:{b:Scope // az i4=b}:=⟨_,by conv=>lhs;whnf⟩
theorem Bc:a_ nY ["kind","masks","full"] rL.1:=⟨rfl,rfl,rfl,by decide+kernel,rfl,by decide+kernel,by decide+kernel⟩
def tQ:FS:=(k_ (Fz (b2 kF (ah 0) (eC (.str "not"))) (jH (e2 Gj (ah 2) (e2 cR (ah 1) (eC (.int 0))))) zg) (k_ (Fz (b2 kF (ah 0) (eC (.str "and"))) (jH (e2 Gk (e2 cR (ah 1) (eC (.int 0))) (e2 cR (ah 1) (eC (.int 1))))) zg) (k_ (Fz (b2 kF (ah 0) (eC (.str "or"))) (jH (e2 JC (e2 cR (ah 1) (eC (.int 0))) (e2 cR (ah 1) (eC (.int 1))))) zg) (k_ (Fz (b2 kF (ah 0) (eC (.str "xor"))) (jH (e2 Gj (e2 cR (ah 1) (eC (.int 0))) (e2 cR (ah 1) (eC (.int 1))))) zg) (jH (bp iz (av (ah 1) aP)))))))
def jb:List D->R D:=xY nY tQ
theorem Br(T:Tp K mg cl)(h:Def K mg "gate_mask" i4)(jO:Callee P w K mg base 1 "vote_of" 1 iz):Callee P w K mg base 2 "gate_mask" 3 jb:=by
 obtain⟨f,fd,F,hm⟩:=h;exact⟨f,fd,_,du (k:=1) zl.2 rL.2 F Bc (fun dU A outer s H E hr=>(cV (mC (bu (ku hr.units) (aa 0) bG (bw _)) (bL (cw (aR AQ (aa 2) (aS (aa 1) ai (fun _ _=>rfl))))) jW) (cV (mC (bu (ku hr.units) (aa 0) bG (bw _)) (bL (cw (aR zR (aS (aa 1) ai (fun _ _=>rfl)) (aS (aa 1) ai (fun _ _=>rfl))))) jW) (cV (mC (bu (ku hr.units) (aa 0) bG (bw _)) (bL (cw (aR A6 (aS (aa 1) ai (fun _ _=>rfl)) (aS (aa 1) ai (fun _ _=>rfl))))) jW) (cV (mC (bu (ku hr.units) (aa 0) bG (bw _)) (bL (cw (aR AQ (aS (aa 1) ai (fun _ _=>rfl)) (aS (aa 1) ai (fun _ _=>rfl))))) jW) (bL (cw (cz jO hr (by decide) rfl (ab (aa 1) aj) (bo de))))))))),hm,F.kp,F.binds fun _ _ _ _ _ _ us hl=>match us,hl with | [_,_,_],_=>rfl⟩
abbrev eG:Stmt:=top 4
noncomputable abbrev f_:List Str:=["ins","in_masks","full","bad","wires","place","mask","figure"]
noncomputable def sV:{b:List Stmt // aO eG=b}:=⟨_,by conv=>lhs;whnf⟩
noncomputable def mq:{b:Scope // az eG=b}:=⟨_,by conv=>lhs;whnf⟩
theorem eF:a_ f_ ["ins","in_masks","full","bad"] mq.1:=⟨rfl,rfl,rfl,by decide+kernel,rfl,by decide+kernel,by decide+kernel⟩
def gx:FZ:=(qb 4 (xT (M_ (b2 Ah (bp iE (av (ah 4) aP)) (ah 3)) (e2 Gj (ah 2) (ah 6)) (ah 6))))
def kR:FZ:=(fS (iP (jm (e2 cR (e2 cR (ah 0) (ah 5)) (eC (.int 1))))) (jz 7) gx)
def jj:FZ:=(aY (bR 4 (l7 (dy aP))) (aY (fS (iP (Et (ah 1))) (JD 2 (AJ (jz 5) (AJ (jz 6) KP))) kR) (dW (bC 4))))
def d_:List V3->aF->R3 V3:=nB f_ jj
def F_:List V3->aF->R3 V3:=nC f_ jj
theorem uj(T:Tp K mg cl)(h:Def K mg "in_wire_masks" eG):aZ P w K mg base cl 1 "in_wire_masks" 4 d_:=by
 obtain⟨f,fd,F,hm⟩:=h;exact⟨f,fd,_,bK (k:=0) sV.2 mq.2 F eF (fun dU A outer s H E hr=>(ao (aQ eF.nd rfl (Or.inl rfl) (eJ (br aj))) (ao (cC PassesOwn.never rfl (bS (C7 (aa 1) rfl T.z_enumerate)) (k3 rfl (cA (aM eF.nd rfl (Or.inl rfl)) (cA (aM eF.nd rfl (Or.inl rfl)) jd))) (ax (cC PassesOwn.never rfl (bS (eu (aS (aS (aa 0) (aa 5) (fun _ _=>rfl)) ai (fun _ _=>rfl)) rfl T.z_range)) (aM eF.nd rfl (Or.inl rfl)) (ax (lz rfl (Or.inl rfl) (dn (CM (bu F9 (bz gp rfl T.z_len PySem.boot_len (ab (aa 4) aj)) (aa 3) (by with_unfolding_all rfl)) (aR AQ (aa 2) (aa 6)) (aa 6)))))))) (ax (bM (aG 4)))))),hm,F.kp,F.binds fun _ _ _ _ _ _ us hl=>match us,hl with | [_,_,_,_],_=>rfl⟩
abbrev jY:Stmt:=top 5
noncomputable abbrev qo:List Str:=["wires","numbers"]
noncomputable def Af:{b:List Stmt // aO jY=b}:=⟨_,by conv=>lhs;whnf⟩
noncomputable def nH:{b:Scope // az jY=b}:=⟨_,by conv=>lhs;whnf⟩
theorem B9:a_ qo ["wires","numbers"] nH.1:=⟨rfl,rfl,rfl,by decide+kernel,rfl,by decide+kernel,by decide+kernel⟩
def vm:FS:=(jH (bp oK (av (eNew (dM (cq (ah 1)) (bh 0) sJ (e2 cR (ah 1) (ah 0)) ["number"] [0])) aP)))
def gf:List D->R D:=xY qo vm
theorem B0(T:Tp K mg cl)(h:Def K mg "masks_at" jY):Callee P w K mg base 1 "masks_at" 2 gf:=by
 obtain⟨f,fd,F,hm⟩:=h;exact⟨f,fd,_,du (k:=0) Af.2 nH.2 F B9 (fun dU A outer s H E hr=>(bL (cw (fF qZ rfl T.z_tuple PyProof.Rows.boot_tuple (ab (bE (di rfl (bZ.of (own:=["number"]) (kp:=[0]) (kn:=["wires"]) (sc:=nH.1) (N:=qo) rfl rfl (by decide+kernel)) (bB (aa 1)) (fun _ _ _=>(bx (show List.Nodup [(Str.ofString "number"),"wires"] from by decide+kernel) rfl (Or.inl rfl))) (fun _ _ _=>gq) (fun _ _ _=>(aS (aa 1) (aa 0) (fun _ _=>rfl))))) aj))))),hm,F.kp,F.binds fun _ _ _ _ _ _ us hl=>match us,hl with | [_,_],_=>rfl⟩
abbrev gQ:Stmt:=top 6
noncomputable abbrev jA:List Str:=["net","in_masks","full","turned","bad","wires","place","gate","mask"]
noncomputable def xc:{b:List Stmt // aO gQ=b}:=⟨_,by conv=>lhs;whnf⟩
noncomputable def pO:{b:Scope // az gQ=b}:=⟨_,by conv=>lhs;whnf⟩
theorem gC:a_ jA ["net","in_masks","full","turned","bad"] pO.1:=⟨rfl,rfl,rfl,by decide+kernel,rfl,by decide+kernel,by decide+kernel⟩
def j1:FZ:=(aY (bR 8 (xT (bp jb (av (e2 cR (ah 7) (eC (.int 0))) (av (bp gf (av (ah 5) (av (e2 cR (ah 7) (eC (.int 1))) aP))) (av (ah 2) aP)))))) (qb 5 (xP (M_ (b2 Ah (ah 6) (ah 3)) (e2 Gj (ah 2) (ah 8)) (ah 8)))))
def mD:FZ:=(aY (bR 5 (bJ d_ (aq (xP (e2 cR (ah 0) (eC (.int 0)))) (aq (xP (ah 1)) (aq (xP (ah 2)) (aq (xP (ah 4)) bH)))))) (aY (fS (iP (ig (e2 cR (ah 0) (eC (.int 1))))) (JD 2 (AJ (jz 6) (AJ (jz 7) KP))) j1) (dW (bC 5))))
def wL:List V3->aF->R3 V3:=nB jA mD
def iY:List V3->aF->R3 V3:=nC jA mD
theorem zq(T:Tp K mg cl)(h:Def K mg "wire_masks" gQ)(iK:Callee P w K mg base 1 "masks_at" 2 gf)(oZ:Callee P w K mg base 2 "gate_mask" 3 jb)(fO:aZ P w K mg base cl 1 "in_wire_masks" 4 d_):aZ P w K mg base cl 3 "wire_masks" 5 wL:=by
 obtain⟨f,fd,F,hm⟩:=h;exact⟨f,fd,_,bK (k:=2) xc.2 pO.2 F gC (fun dU A outer s H E hr=>(ao (aQ gC.nd rfl (Or.inl rfl) (aW fO hr (by decide) rfl (ae (ag (aS (aa 0) ai (fun _ _=>rfl))) (ae (ag (aa 1)) (ae (ag (aa 2)) (ae (ag (aa 4)) ay)))) (af (af (af (af aA)))))) (ao (cC PassesOwn.never rfl (bS (jJ (aS (aa 0) ai (fun _ _=>rfl)) rfl T.z_enumerate)) (k3 rfl (cA (aM gC.nd rfl (Or.inl rfl)) (cA (aM gC.nd rfl (Or.inl rfl)) jd))) (ao (aQ gC.nd rfl (Or.inl rfl) (dn (cz oZ hr (by decide) rfl (ab (aS (aa 7) ai (fun _ _=>rfl)) (ab (cz iK hr (by decide) rfl (ab (aa 5) (ab (aS (aa 7) ai (fun _ _=>rfl)) aj)) (bo (bo de))) (ab (aa 2) aj))) (bo (bo (bo de)))))) (ax (lz rfl (Or.inl rfl) (ag (CM (bu F9 (aa 6) (aa 3) (by with_unfolding_all rfl)) (aR AQ (aa 2) (aa 8)) (aa 8))))))) (ax (bM (aG 5)))))),hm,F.kp,F.binds fun _ _ _ _ _ _ us hl=>match us,hl with | [_,_,_,_,_],_=>rfl⟩
abbrev i5:Stmt:=top 7
noncomputable abbrev i_:List Str:=["net","wires"]
noncomputable def yG:{b:List Stmt // aO i5=b}:=⟨_,by conv=>lhs;whnf⟩
noncomputable def mw:{b:Scope // az i5=b}:=⟨_,by conv=>lhs;whnf⟩
theorem zU:a_ i_ ["net","wires"] mw.1:=⟨rfl,rfl,rfl,by decide+kernel,rfl,by decide+kernel,by decide+kernel⟩
def n_:FZ:=(dW (l7 (dM (cq (e2 cR (ah 0) (eC (.int 2)))) (nL 2 (d6 (bh 0) (d6 (bh 1) nF))) sJ (bp gf (av (ah 2) (av (ah 1) aP))) ["name","numbers"] [1])))
def yV:List V3->aF->R3 V3:=nB i_ n_
def jD:List V3->aF->R3 V3:=nC i_ n_
theorem AA(T:Tp K mg cl)(h:Def K mg "out_masks" i5)(iK:Callee P w K mg base 1 "masks_at" 2 gf):aZ P w K mg base cl 2 "out_masks" 2 yV:=by
 obtain⟨f,fd,F,hm⟩:=h;exact⟨f,fd,_,bK (k:=1) yG.2 mw.2 F zU (fun dU A outer s H E hr=>(ax (bM (eJ (di rfl (bZ.of (own:=["name","numbers"]) (kp:=[1]) (kn:=["wires"]) (sc:=mw.1) (N:=i_) rfl rfl (by decide+kernel)) (bB (aS (aa 0) ai (fun _ _=>rfl))) (fun _ _ _=>(qW rfl (fj (bx (show List.Nodup [(Str.ofString "name"),"numbers","wires"] from by decide+kernel) rfl (Or.inl rfl)) (fj (bx (show List.Nodup [(Str.ofString "name"),"numbers","wires"] from by decide+kernel) rfl (Or.inl rfl)) pk)))) (fun _ _ _=>gq) (fun _ _ _=>(cz iK hr (by decide) rfl (ab (aa 2) (ab (aa 1) aj)) (bo (bo de))))))))),hm,F.kp,F.binds fun _ _ _ _ _ _ us hl=>match us,hl with | [_,_],_=>rfl⟩
abbrev mf:Stmt:=top 8
noncomputable abbrev o9:List Str:=["masks","full","ones"]
noncomputable def BU:{b:List Stmt // aO mf=b}:=⟨_,by conv=>lhs;whnf⟩
noncomputable def vZ:{b:Scope // az mf=b}:=⟨_,by conv=>lhs;whnf⟩
theorem yf:a_ o9 ["masks","full"] vZ.1:=⟨rfl,rfl,rfl,by decide+kernel,rfl,by decide+kernel,by decide+kernel⟩
def x5:FS:=(k_ (Fz (b2 kF (bp iE (av (ah 0) aP)) (eC (.int 2))) (jH (eT (av (e2 Gj (ah 1) (e2 JC (e2 cR (ah 0) (eC (.int 0))) (e2 cR (ah 0) (eC (.int 1))))) (av (e2 Gk (e2 cR (ah 0) (eC (.int 0))) (e2 cR (ah 0) (eC (.int 1)))) aP)))) zg) (k_ (AU 2 (M_ (b2 kF (bp iE (av (ah 0) aP)) (eC (.int 1))) (e2 cR (ah 0) (eC (.int 0))) (bp iz (av (ah 0) aP)))) (jH (eT (av (e2 Gj (ah 1) (ah 2)) (av (ah 2) aP))))))
def lX:List D->R D:=xY o9 x5
theorem EZ(T:Tp K mg cl)(h:Def K mg "reading" mf)(jO:Callee P w K mg base 1 "vote_of" 1 iz):Callee P w K mg base 2 "reading" 2 lX:=by
 obtain⟨f,fd,F,hm⟩:=h;exact⟨f,fd,_,du (k:=1) BU.2 vZ.2 F yf (fun dU A outer s H E hr=>(cV (mC (bu (ku hr.units) (bz gp rfl T.z_len PySem.boot_len (ab (aa 0) aj)) ai (bw _)) (bL (cw (bY (ab (aR AQ (aa 1) (aR A6 (aS (aa 0) ai (fun _ _=>rfl)) (aS (aa 0) ai (fun _ _=>rfl)))) (ab (aR zR (aS (aa 0) ai (fun _ _=>rfl)) (aS (aa 0) ai (fun _ _=>rfl))) aj))))) jW) (cV (vA yf.nd rfl (Or.inl rfl) (CM (bu (ku hr.units) (bz gp rfl T.z_len PySem.boot_len (ab (aa 0) aj)) ai (bw _)) (aS (aa 0) ai (fun _ _=>rfl)) (cz jO hr (by decide) rfl (ab (aa 0) aj) (bo de)))) (bL (cw (bY (ab (aR AQ (aa 1) (aa 2)) (ab (aa 2) aj)))))))),hm,F.kp,F.binds fun _ _ _ _ _ _ us hl=>match us,hl with | [_,_],_=>rfl⟩
abbrev oh:Stmt:=top 9
noncomputable abbrev zP:List Str:=["mask","number"]
noncomputable def EW:{b:List Stmt // aO oh=b}:=⟨_,by conv=>lhs;whnf⟩
noncomputable def xC:{b:Scope // az oh=b}:=⟨_,by conv=>lhs;whnf⟩
theorem Iw:a_ zP ["mask","number"] xC.1:=⟨rfl,rfl,rfl,by decide+kernel,rfl,by decide+kernel,by decide+kernel⟩
def zK:FS:=(jH (e2 Gk (e2 GI (ah 0) (ah 1)) (eC (.int 1))))
def oB:List D->R D:=xY zP zK
theorem Im(T:Tp K mg cl)(h:Def K mg "bit_at" oh):Callee P w K mg base 1 "bit_at" 2 oB:=by
 obtain⟨f,fd,F,hm⟩:=h;exact⟨f,fd,_,du (k:=0) EW.2 xC.2 F Iw (fun dU A outer s H E hr=>(bL (cw (aR zR (aR Qf (aa 0) (aa 1)) ai)))),hm,F.kp,F.binds fun _ _ _ _ _ _ us hl=>match us,hl with | [_,_],_=>rfl⟩
abbrev gJ:Stmt:=top 10
noncomputable abbrev jI:List Str:=["count","inputs","place","longer","bits"]
noncomputable def wQ:{b:List Stmt // aO gJ=b}:=⟨_,by conv=>lhs;whnf⟩
noncomputable def pN:{b:Scope // az gJ=b}:=⟨_,by conv=>lhs;whnf⟩
theorem fL:a_ jI ["count"] pN.1:=⟨rfl,rfl,rfl,by decide+kernel,rfl,by decide+kernel,by decide+kernel⟩
def nO:FZ:=(aY (qb 3 (xP (e2 oI (ah 4) (eT (av (eC (.int 0)) aP))))) (qb 3 (xP (e2 oI (ah 4) (eT (av (eC (.int 1)) aP))))))
def og:FZ:=(Cq 1 (aY (bR 3 (l7 (dy aP))) (aY (fS (iP (cq (ah 1))) (jz 4) nO) (bR 1 (bC 3)))))
def mF:FZ:=(aY (bR 1 (l7 (dy (av (eT aP) aP)))) (aY (fS (iP (jm (ah 0))) (jz 2) og) (dW (bC 1))))
def xj:List V3->aF->R3 V3:=nB jI mF
def iV:List V3->aF->R3 V3:=nC jI mF
theorem zj(T:Tp K mg cl)(h:Def K mg "all_inputs" gJ):aZ P w K mg base cl 1 "all_inputs" 1 xj:=by
 obtain⟨f,fd,F,hm⟩:=h;exact⟨f,fd,_,bK (k:=0) wQ.2 pN.2 F fL (fun dU A outer s H E hr=>(ao (aQ fL.nd rfl (Or.inl rfl) (eJ (br (ab (bY aj) aj)))) (ao (cC PassesOwn.never rfl (bS (eu (aa 0) rfl T.z_range)) (aM fL.nd rfl (Or.inl rfl)) (yR 1 (ao (aQ fL.nd rfl (Or.inl rfl) (eJ (br aj))) (ao (cC PassesOwn.never rfl (bS (bB (aa 1))) (aM fL.nd rfl (Or.inl rfl)) (ao (lz rfl (Or.inl rfl) (ag (aR sQ (aa 4) (bY (ab ai aj))))) (ax (lz rfl (Or.inl rfl) (ag (aR sQ (aa 4) (bY (ab ai aj)))))))) (ax (aQ fL.nd rfl (Or.inl rfl) (aG 3))))))) (ax (bM (aG 1)))))),hm,F.kp,F.binds fun _ _ _ _ _ _ us hl=>match us,hl with | [_],_=>rfl⟩
abbrev ma:Stmt:=top 11
noncomputable abbrev sM:List Str:=["bits","mask","bit"]
noncomputable def BL:{b:List Stmt // aO ma=b}:=⟨_,by conv=>lhs;whnf⟩
noncomputable def vV:{b:Scope // az ma=b}:=⟨_,by conv=>lhs;whnf⟩
theorem o_:a_ sM ["bits"] vV.1:=⟨rfl,rfl,rfl,by decide+kernel,rfl,by decide+kernel,by decide+kernel⟩
def n6:FS:=(AU 1 (e2 gu (e2 qt (ah 1) (eC (.int 2))) (ah 2)))
def xG:FS:=(k_ (AU 1 (eC (.int 0))) (k_ (yZ (LP (ah 0)) (bh 2) n6) (jH (ah 1))))
def iB:List D->R D:=xY sM xG
theorem E9(T:Tp K mg cl)(h:Def K mg "mask_of" ma):Callee P w K mg base 1 "mask_of" 1 iB:=by
 obtain⟨f,fd,F,hm⟩:=h;exact⟨f,fd,_,du (k:=0) BL.2 vV.2 F o_ (fun dU A outer s H E hr=>(cV (vA o_.nd rfl (Or.inl rfl) ai) (cV (nR PassesOwn.never rfl (Gz (aa 0) rfl T.z_reversed) (bx o_.nd rfl (Or.inl rfl)) (bL (vA o_.nd rfl (Or.inl rfl) (aR gT (aR yn (aa 1) ai) (aa 2))))) (bL (cw (aa 1)))))),hm,F.kp,F.binds fun _ _ _ _ _ _ us hl=>match us,hl with | [_],_=>rfl⟩
abbrev lO:Stmt:=top 12
noncomputable abbrev sR:List Str:=["inputs","place"]
noncomputable def Cb:{b:List Stmt // aO lO=b}:=⟨_,by conv=>lhs;whnf⟩
noncomputable def qg:{b:Scope // az lO=b}:=⟨_,by conv=>lhs;whnf⟩
theorem Fh:a_ sR ["inputs","place"] qg.1:=⟨rfl,rfl,rfl,by decide+kernel,rfl,by decide+kernel,by decide+kernel⟩
def yr:FS:=(jH (bp iB (av (eNew (dM (cq (ah 0)) (bh 0) sJ (e2 cR (ah 0) (ah 1)) ["bits"] [1])) aP)))
def lM:List D->R D:=xY sR yr
theorem Fs(T:Tp K mg cl)(h:Def K mg "in_mask" lO)(jN:Callee P w K mg base 1 "mask_of" 1 iB):Callee P w K mg base 2 "in_mask" 2 lM:=by
 obtain⟨f,fd,F,hm⟩:=h;exact⟨f,fd,_,du (k:=1) Cb.2 qg.2 F Fh (fun dU A outer s H E hr=>(bL (cw (cz jN hr (by decide) rfl (ab (bE (di rfl (bZ.of (own:=["bits"]) (kp:=[1]) (kn:=["place"]) (sc:=qg.1) (N:=sR) rfl rfl (by decide+kernel)) (bB (aa 0)) (fun _ _ _=>(bx (show List.Nodup [(Str.ofString "bits"),"place"] from by decide+kernel) rfl (Or.inl rfl))) (fun _ _ _=>gq) (fun _ _ _=>(aS (aa 0) (aa 1) (fun _ _=>rfl))))) aj) (bo de))))),hm,F.kp,F.binds fun _ _ _ _ _ _ us hl=>match us,hl with | [_,_],_=>rfl⟩
abbrev lY:Stmt:=top 15
noncomputable abbrev lL:List Str:=["places","size","found","ahead","place","rest"]
noncomputable def Cm:{b:List Stmt // aO lY=b}:=⟨_,by conv=>lhs;whnf⟩
noncomputable def vL:{b:Scope // az lY=b}:=⟨_,by conv=>lhs;whnf⟩
theorem lW:a_ lL ["places","size"] vL.1:=⟨rfl,rfl,rfl,by decide+kernel,rfl,by decide+kernel,by decide+kernel⟩
def nG(self:List D->R D):FS:=(EL 2 (e2 oI (eT (av (ah 4) aP)) (ah 5)))
def oP(self:List D->R D):FS:=(yZ (cq (bp self (av (NH (ah 0) (rM (e2 oI (ah 3) (eC (.int 1)))) vx) (av (e2 Cu (ah 1) (eC (.int 1))) aP)))) (bh 5) (nG self))
def lK(self:List D->R D):FS:=(k_ (Fz (b2 kF (ah 1) (eC (.int 0))) (jH (eNew (dy (av (eT aP) aP)))) zg) (k_ (B5 2 (dy aP)) (k_ (yZ (ig (ah 0)) (nL 2 (d6 (bh 3) (d6 (bh 4) nF))) (oP self)) (ID 2 (jH (ah 2))))))
def dt:Nat->List D->R D
 | 0=>fun _=> .no
 | n+1=>xY lL (lK (dt n))
theorem xR(T:Tp K mg cl)(h:Def K mg "choices" lY):∀n,Callee P w K mg base (1+n) "choices" 2 (dt n)
 | 0=>by
   obtain⟨f,fd,F,hm⟩:=h;exact⟨f,fd,["places","size"],P_,hm,F.kp,F.binds fun _ _ _ _ _ _ us hl=>match us,hl with | [_,_],_=>rfl⟩
 | n+1=>by
   have OT:=xR T h n;obtain⟨f,fd,F,hm⟩:=h;exact⟨f,fd,_,du (k:=1+n) Cm.2 vL.2 F lW (fun dU A outer s H E hr=>(cV (mC (bu (ku hr.units) (aa 1) ai (bw _)) (bL (cw (bE (br (ab (bY aj) aj))))) jW) (cV (AZ lW.nd rfl (Or.inl rfl) (br aj)) (cV (nR PassesOwn.never rfl (jJ (aa 0) rfl T.z_enumerate) (qW rfl (fj (bx lW.nd rfl (Or.inl rfl)) (fj (bx lW.nd rfl (Or.inl rfl)) pk))) (bL (nR PassesOwn.never rfl (bB (cz OT hr (by omega) rfl (ab (CT (aa 0) (rG (aR sQ (aa 3) ai)) q_) (ab (aR xU (aa 1) ai) aj)) (bo (bo de)))) (bx lW.nd rfl (Or.inl rfl)) (bL (Bd rfl (Or.inl rfl) (aR sQ (bY (ab (aa 4) aj)) (aa 5))))))) (zY 2 (bL (cw (aa 2)))))))),hm,F.kp,F.binds fun _ _ _ _ _ _ us hl=>match us,hl with | [_,_],_=>rfl⟩
abbrev cj:Stmt:=inClass (top 13) 0
noncomputable abbrev dr:List Str:=["self","net","inputs"]
noncomputable def qQ:{b:List Stmt // aO cj=b}:=⟨_,by conv=>lhs;whnf⟩
noncomputable def eP:{b:Scope // az cj=b}:=⟨_,by conv=>lhs;whnf⟩
theorem mi:a_ dr ["self","net"] eP.1:=⟨rfl,rfl,rfl,by decide+kernel,rfl,by decide+kernel,by decide+kernel⟩
def iq:FZ:=(aY (bR 2 (bJ iV (aq (xP (bp iE (av (e2 cR (ah 1) (eC (.int 0))) aP))) bH))) (aY (yS 0 "net" (bC 0) (xP (ah 1))) (aY (yS 0 "many_inputs" (bC 0) (xP (bp iE (av (ah 2) aP)))) (aY (yS 0 "full" (bC 0) (xP (bp iB (av (eNew (dM (cq (ah 2)) (bh 0) sJ (eC (.int 1)) ["bits"] [])) aP)))) (yS 0 "in_masks" (bC 0) (xP (eNew (dM (jm (bp iE (av (e2 cR (ah 1) (eC (.int 0))) aP))) (bh 0) sJ (bp lM (av (ah 1) (av (ah 0) aP))) ["place"] [2]))))))))
def dF:List V3->aF->R3 V3:=nB dr iq
def DM:List V3->aF->R3 V3:=nC dr iq
theorem dZ(T:Tp K mg cl)(h:EM K (cl 0) "__init__" "Bench.__init__" cj)(jN:Callee P w K mg base 1 "mask_of" 1 iB)(tu:Callee P w K mg base 2 "in_mask" 2 lM)(lJ:aZ P w K mg base cl 1 "all_inputs" 1 iV):xN P w K mg base cl 3 0 "Bench" 1 dF:=by
 obtain⟨f,fd,F,hm⟩:=h;exact⟨f,fd,_,hm,bK (k:=2) qQ.2 eP.2 F mi (fun dU A outer s H E hr=>(ao (aQ mi.nd rfl (Or.inr rfl) (aW lJ hr (by decide) rfl (ae (ag (bz gp rfl T.z_len PySem.boot_len (ab (aS (aa 1) ai (fun _ _=>rfl)) aj))) ay) (af aA))) (ao (qh T.C_Bench T.N_Bench_net (aG 0) (ag (aa 1))) (ao (qh T.C_Bench T.N_Bench_many_inputs (aG 0) (ag (bz gp rfl T.z_len PySem.boot_len (ab (aa 2) aj)))) (ao (qh T.C_Bench T.N_Bench_full (aG 0) (ag (cz jN hr (by decide) rfl (ab (bE (di rfl (bZ.of (own:=["bits"]) (kp:=[]) (kn:=[]) (sc:=eP.1) (N:=dr) rfl rfl (by decide+kernel)) (bB (aa 2)) (fun _ _ _=>(bx (show List.Nodup [(Str.ofString "bits")] from by decide+kernel) rfl (Or.inl rfl))) (fun _ _ _=>gq) (fun _ _ _=>ai))) aj) (bo de)))) (ax (qh T.C_Bench T.N_Bench_in_masks (aG 0) (ag (bE (di rfl (bZ.of (own:=["place"]) (kp:=[2]) (kn:=["inputs"]) (sc:=eP.1) (N:=dr) rfl rfl (by decide+kernel)) (eu (bz gp rfl T.z_len PySem.boot_len (ab (aS (aa 1) ai (fun _ _=>rfl)) aj)) rfl T.z_range) (fun _ _ _=>(bx (show List.Nodup [(Str.ofString "place"),"inputs"] from by decide+kernel) rfl (Or.inl rfl))) (fun _ _ _=>gq) (fun _ _ _=>(cz tu hr (by decide) rfl (ab (aa 1) (ab (aa 0) aj)) (bo (bo de)))))))))))))),T.M_Bench,F.binds fun _ _ _ _ _ _ us hl=>match us,hl with | [_,_],_=>rfl⟩
abbrev cO:Stmt:=inClass (top 13) 1
noncomputable abbrev iX:List Str:=["self","turned","bad"]
noncomputable def vz:{b:List Stmt // aO cO=b}:=⟨_,by conv=>lhs;whnf⟩
noncomputable def oH:{b:Scope // az cO=b}:=⟨_,by conv=>lhs;whnf⟩
theorem xh:a_ iX ["self","turned","bad"] oH.1:=⟨rfl,rfl,rfl,by decide+kernel,rfl,by decide+kernel,by decide+kernel⟩
def k9:FZ:=(dW (bJ jD (aq (q8 0 "net" (bC 0)) (aq (bJ iY (aq (q8 0 "net" (bC 0)) (aq (q8 0 "in_masks" (bC 0)) (aq (q8 0 "full" (bC 0)) (aq (xP (ah 1)) (aq (xP (ah 2)) bH)))))) bH))))
def vh:List V3->aF->R3 V3:=nB iX k9
def gK:List V3->aF->R3 V3:=nC iX k9
theorem fY(T:Tp K mg cl)(h:ud K (cl 0) "tells" "Bench.tells" cO)(lD:aZ P w K mg base cl 3 "wire_masks" 5 iY)(m4:aZ P w K mg base cl 2 "out_masks" 2 jD):kL P w K mg base cl 4 0 "tells" 2 vh:=by
 obtain⟨f,fd,F,hm⟩:=h;exact⟨f,fd,_,T.C_Bench,hm,bK (k:=3) vz.2 oH.2 F xh (fun dU A outer s H E hr=>(ax (bM (aW m4 hr (by decide) rfl (ae (jn T.C_Bench T.N_Bench_net (aG 0)) (ae (aW lD hr (by decide) rfl (ae (jn T.C_Bench T.N_Bench_net (aG 0)) (ae (jn T.C_Bench T.N_Bench_in_masks (aG 0)) (ae (jn T.C_Bench T.N_Bench_full (aG 0)) (ae (ag (aa 1)) (ae (ag (aa 2)) ay))))) (af (af (af (af (af aA)))))) ay)) (af (af aA)))))),F.binds fun _ _ _ _ _ _ us hl=>match us,hl with | [_,_,_],_=>rfl⟩
abbrev ck:Stmt:=inClass (top 13) 2
noncomputable abbrev d5:List Str:=["self","turned"]
noncomputable def rW:{b:List Stmt // aO ck=b}:=⟨_,by conv=>lhs;whnf⟩
noncomputable def gO:{b:Scope // az ck=b}:=⟨_,by conv=>lhs;whnf⟩
theorem se:a_ d5 ["self","turned"] gO.1:=⟨rfl,rfl,rfl,by decide+kernel,rfl,by decide+kernel,by decide+kernel⟩
def iy:FZ:=(dW (k4 (xi (tY 0 "tells" gK (bC 0) (aq (xP (ah 1)) (aq (xP (eT aP)) bH)))) (jz 0) Bs (lu lX (aq (xP (ah 0)) (aq (q8 0 "full" (bC 1)) bH))) ["masks"] [0]))
def qN:List V3->aF->R3 V3:=nB d5 iy
def cW:List V3->aF->R3 V3:=nC d5 iy
theorem ee(T:Tp K mg cl)(h:ud K (cl 0) "readings" "Bench.readings" ck)(tf:Callee P w K mg base 2 "reading" 2 lX)(ky:kL P w K mg base cl 4 0 "tells" 2 gK):kL P w K mg base cl 5 0 "readings" 1 qN:=by
 obtain⟨f,fd,F,hm⟩:=h;exact⟨f,fd,_,T.C_Bench,hm,bK (k:=4) rW.2 gO.2 F se (fun dU A outer s H E hr=>(ax (bM (rq rfl (bZ.of (own:=["masks"]) (kp:=[0]) (kn:=["self"]) (sc:=gO.1) (N:=d5) rfl rfl (by decide+kernel)) (mQ (pf ky hr (by decide) (aG 0) (ae (ag (aa 1)) (ae (ag (bY aj)) ay)) (af (af aA)))) (fun _ _ _=>(aM (show List.Nodup [(Str.ofString "masks"),"self"] from by decide+kernel) rfl (Or.inl rfl))) (fun _ _ _=>jL) (fun _ _ _=>(uY tf hr (by decide) rfl (ae (ag (aa 0)) (ae (jn T.C_Bench T.N_Bench_full (aG 1)) ay)) (af (af aA)))))))),F.binds fun _ _ _ _ _ _ us hl=>match us,hl with | [_,_],_=>rfl⟩
abbrev cg:Stmt:=inClass (top 16) 0
noncomputable abbrev d4:List Str:=["self","net"]
noncomputable def qV:{b:List Stmt // aO cg=b}:=⟨_,by conv=>lhs;whnf⟩
noncomputable def gR:{b:Scope // az cg=b}:=⟨_,by conv=>lhs;whnf⟩
theorem sN:a_ d4 ["self","net"] gR.1:=⟨rfl,rfl,rfl,by decide+kernel,rfl,by decide+kernel,by decide+kernel⟩
def ij:FZ:=(aY (yS 1 "bench" (bC 0) (AE 0 dF (aq (xP (ah 1)) bH))) (aY (yS 1 "plain" (bC 0) (tY 0 "readings" cW (q8 1 "bench" (bC 0)) (aq (xP (eT aP)) bH))) (yS 1 "unsure" (bC 0) (xP (eNew (dM (ig (e2 cR (ah 1) (eC (.int 1)))) (nL 2 (d6 (bh 0) (d6 (bh 1) nF))) (HF (vY (e2 cR (ah 1) (eC (.int 2))))) (ah 0) ["place","gate"] []))))))
def cy:List V3->aF->R3 V3:=nB d4 ij
def El:List V3->aF->R3 V3:=nC d4 ij
theorem d9(T:Tp K mg cl)(h:EM K (cl 1) "__init__" "Trial.__init__" cg)(gW:xN P w K mg base cl 3 0 "Bench" 1 dF)(cY:kL P w K mg base cl 5 0 "readings" 1 cW):xN P w K mg base cl 6 1 "Trial" 1 cy:=by
 obtain⟨f,fd,F,hm⟩:=h;exact⟨f,fd,_,hm,bK (k:=5) qV.2 gR.2 F sN (fun dU A outer s H E hr=>(ao (qh T.C_Trial T.N_Trial_bench (aG 0) (yH gW hr (by decide) rfl (ae (ag (aa 1)) ay) (af aA))) (ao (qh T.C_Trial T.N_Trial_plain (aG 0) (pf cY hr (by decide) (jn T.C_Trial T.N_Trial_bench (aG 0)) (ae (ag (bY aj)) ay) (af aA))) (ax (qh T.C_Trial T.N_Trial_unsure (aG 0) (ag (bE (di rfl (bZ.of (own:=["place","gate"]) (kp:=[]) (kn:=[]) (sc:=gR.1) (N:=d4) rfl rfl (by decide+kernel)) (jJ (aS (aa 1) ai (fun _ _=>rfl)) rfl T.z_enumerate) (fun _ _ _=>(qW rfl (fj (bx (show List.Nodup [(Str.ofString "place"),"gate"] from by decide+kernel) rfl (Or.inl rfl)) (fj (bx (show List.Nodup [(Str.ofString "place"),"gate"] from by decide+kernel) rfl (Or.inl rfl)) pk)))) (fun _ _ _=>(i8 (D0 (rP (aS (aa 1) ai (fun _ _=>rfl)))))) (fun _ _ _=>(aa 0)))))))))),T.M_Trial,F.binds fun _ _ _ _ _ _ us hl=>match us,hl with | [_,_],_=>rfl⟩
abbrev bV:Stmt:=inClass (top 16) 1
noncomputable abbrev eO:List Str:=["self","turned","level","mask","before","after"]
noncomputable def pW:{b:List Stmt // aO bV=b}:=⟨_,by conv=>lhs;whnf⟩
noncomputable def j9:{b:Scope // az bV=b}:=⟨_,by conv=>lhs;whnf⟩
theorem cT:a_ eO ["self","turned","level"] j9.1:=⟨rfl,rfl,rfl,by decide+kernel,rfl,by decide+kernel,by decide+kernel⟩
def jw:FZ:=(qK (bP (b2 kF (ah 2) (eC (.str "safe")))) (bR 3 (xP (e2 JC (e2 JC (ah 3) (e2 Gk (e2 cR (ah 4) (eC (.int 0))) (e2 cR (ah 5) (eC (.int 1))))) (e2 Gk (e2 cR (ah 4) (eC (.int 1))) (e2 cR (ah 5) (eC (.int 0))))))) (bR 3 (xP (e2 JC (e2 JC (ah 3) (e2 Gj (e2 cR (ah 4) (eC (.int 0))) (e2 cR (ah 5) (eC (.int 0))))) (e2 Gj (e2 cR (ah 4) (eC (.int 1))) (e2 cR (ah 5) (eC (.int 1))))))))
def gz:FZ:=(aY (bR 3 (xP (eC (.int 0)))) (aY (fS (Ov (q8 1 "plain" (bC 0)) (tY 0 "readings" cW (q8 1 "bench" (bC 0)) (aq (xP (ah 1)) bH))) (JD 2 (AJ (jz 4) (AJ (jz 5) KP))) jw) (dW (xP (ah 3)))))
def qe:List V3->aF->R3 V3:=nB eO gz
def cJ:List V3->aF->R3 V3:=nC eO gz
theorem dH(T:Tp K mg cl)(h:ud K (cl 1) "breaks_at" "Trial.breaks_at" bV)(cY:kL P w K mg base cl 5 0 "readings" 1 cW):kL P w K mg base cl 6 1 "breaks_at" 2 qe:=by
 obtain⟨f,fd,F,hm⟩:=h;exact⟨f,fd,_,T.C_Trial,hm,bK (k:=5) pW.2 j9.2 F cT (fun dU A outer s H E hr=>(ao (aQ cT.nd rfl (Or.inl rfl) (ag ai)) (ao (cC PassesOwn.never rfl (Ke (jn T.C_Trial T.N_Trial_plain (aG 0)) (pf cY hr (by decide) (jn T.C_Trial T.N_Trial_bench (aG 0)) (ae (ag (aa 1)) ay) (af aA)) rfl T.z_zip) (k3 rfl (cA (aM cT.nd rfl (Or.inl rfl)) (cA (aM cT.nd rfl (Or.inl rfl)) jd))) (ax (ft (dg (bu (ku hr.units) (aa 2) bG (bw _))) (ax (aQ cT.nd rfl (Or.inl rfl) (ag (aR A6 (aR A6 (aa 3) (aR zR (aS (aa 4) ai (fun _ _=>rfl)) (aS (aa 5) ai (fun _ _=>rfl)))) (aR zR (aS (aa 4) ai (fun _ _=>rfl)) (aS (aa 5) ai (fun _ _=>rfl))))))) (ax (aQ cT.nd rfl (Or.inl rfl) (ag (aR A6 (aR A6 (aa 3) (aR AQ (aS (aa 4) ai (fun _ _=>rfl)) (aS (aa 5) ai (fun _ _=>rfl)))) (aR AQ (aS (aa 4) ai (fun _ _=>rfl)) (aS (aa 5) ai (fun _ _=>rfl)))))))))) (ax (bM (ag (aa 3))))))),F.binds fun _ _ _ _ _ _ us hl=>match us,hl with | [_,_,_],_=>rfl⟩
abbrev bU:Stmt:=inClass (top 13) 4
noncomputable abbrev dE:List Str:=["self","mask"]
noncomputable def qz:{b:List Stmt // aO bU=b}:=⟨_,by conv=>lhs;whnf⟩
noncomputable def gc:{b:Scope // az bU=b}:=⟨_,by conv=>lhs;whnf⟩
theorem rN:a_ dE ["self","mask"] gc.1:=⟨rfl,rfl,rfl,by decide+kernel,rfl,by decide+kernel,by decide+kernel⟩
def gS:FZ:=(dW (k4 (rm (q8 0 "many_inputs" (bC 0))) (jz 0) (bP (b2 kF (bp oB (av (ah 1) (av (ah 0) aP))) (eC (.int 1)))) (xP (ah 0)) ["number"] [1]))
def qi:List V3->aF->R3 V3:=nB dE gS
def eD:List V3->aF->R3 V3:=nC dE gS
theorem dG(T:Tp K mg cl)(h:ud K (cl 0) "inputs_in" "Bench.inputs_in" bU)(wG:Callee P w K mg base 1 "bit_at" 2 oB):kL P w K mg base cl 2 0 "inputs_in" 1 qi:=by
 obtain⟨f,fd,F,hm⟩:=h;exact⟨f,fd,_,T.C_Bench,hm,bK (k:=1) qz.2 gc.2 F rN (fun dU A outer s H E hr=>(ax (bM (rq rfl (bZ.of (own:=["number"]) (kp:=[1]) (kn:=["mask"]) (sc:=gc.1) (N:=dE) rfl rfl (by decide+kernel)) (j7 (jn T.C_Bench T.N_Bench_many_inputs (aG 0)) rfl T.z_range) (fun _ _ _=>(aM (show List.Nodup [(Str.ofString "number"),"mask"] from by decide+kernel) rfl (Or.inl rfl))) (fun _ _ _=>(Ar (dg (bu (ku hr.units) (cz wG hr (by decide) rfl (ab (aa 1) (ab (aa 0) aj)) (bo (bo de))) ai (bw _))))) (fun _ _ _=>(ag (aa 0))))))),F.binds fun _ _ _ _ _ _ us hl=>match us,hl with | [_,_],_=>rfl⟩
abbrev qP:Stmt:=top 17
noncomputable abbrev uE:List Str:=["net","many","level","trial","size","turned","mask"]
noncomputable def IU:{b:List Stmt // aO qP=b}:=⟨_,by conv=>lhs;whnf⟩
noncomputable def A9:{b:Scope // az qP=b}:=⟨_,by conv=>lhs;whnf⟩
theorem rQ:a_ uE ["net","many","level"] A9.1:=⟨rfl,rfl,rfl,by decide+kernel,rfl,by decide+kernel,by decide+kernel⟩
def r_:FZ:=(aY (bR 6 (tY 1 "breaks_at" cJ (bC 3) (aq (xP (ah 5)) (aq (xP (ah 2)) bH)))) (qK (bP (b2 uk (ah 6) (eC (.int 0)))) (dW (wd (aq (xP (eC (.str "breaks"))) (aq (xP (ah 5)) (aq (Ly (tY 0 "inputs_in" eD (q8 1 "bench" (bC 3)) (aq (xP (ah 6)) bH)) (xP (eC (.int 0)))) bH))))) gI))
def ya:FZ:=(fS (xi (lu (dt 4) (aq (q8 1 "unsure" (bC 3)) (aq (xP (ah 4)) bH)))) (jz 5) r_)
def yP:FZ:=(aY (bR 3 (AE 1 cy (aq (xP (ah 0)) bH))) (aY (fS (iP (jm (e2 gu (ah 1) (eC (.int 1))))) (jz 4) ya) (dW (xP (eT (av (eC (.str "bears")) aP))))))
def HX:List V3->aF->R3 V3:=nB uE yP
def lZ:List V3->aF->R3 V3:=nC uE yP
theorem Kf(T:Tp K mg cl)(h:Def K mg "bears" qP)(jP:Callee P w K mg base 5 "choices" 2 (dt 4))(cZ:xN P w K mg base cl 6 1 "Trial" 1 cy)(cL:kL P w K mg base cl 6 1 "breaks_at" 2 cJ)(gh:kL P w K mg base cl 2 0 "inputs_in" 1 eD):aZ P w K mg base cl 8 "bears" 3 HX:=by
 obtain⟨f,fd,F,hm⟩:=h;exact⟨f,fd,_,bK (k:=7) IU.2 A9.2 F rQ (fun dU A outer s H E hr=>(ao (aQ rQ.nd rfl (Or.inl rfl) (yH cZ hr (by decide) rfl (ae (ag (aa 0)) ay) (af aA))) (ao (cC PassesOwn.never rfl (bS (eu (aR gT (aa 1) ai) rfl T.z_range)) (aM rQ.nd rfl (Or.inl rfl)) (ax (cC PassesOwn.never rfl (mQ (uY jP hr (by decide) rfl (ae (jn T.C_Trial T.N_Trial_unsure (aG 3)) (ae (ag (aa 4)) ay)) (af (af aA)))) (aM rQ.nd rfl (Or.inl rfl)) (ao (aQ rQ.nd rfl (Or.inl rfl) (pf cL hr (by decide) (aG 3) (ae (ag (aa 5)) (ae (ag (aa 2)) ay)) (af (af aA)))) (ax (ft (dg (bu (rJ hr.units) (aa 6) ai (bw _))) (ax (bM (mV (ae (ag bG) (ae (ag (aa 5)) (ae (xQ (pf gh hr (by decide) (jn T.C_Trial T.N_Trial_bench (aG 3)) (ae (ag (aa 6)) ay) (af aA)) (ag ai) (fun _ _=>rfl)) ay)))))) cF)))))) (ax (bM (ag (bY (ab bG aj)))))))),hm,F.kp,F.binds fun _ _ _ _ _ _ us hl=>match us,hl with | [_,_,_],_=>rfl⟩
abbrev lP:Stmt:=top 19
noncomputable abbrev sr:List Str:=["places","others"]
noncomputable def Dg:{b:List Stmt // aO lP=b}:=⟨_,by conv=>lhs;whnf⟩
noncomputable def qx:{b:Scope // az lP=b}:=⟨_,by conv=>lhs;whnf⟩
theorem Ff:a_ sr ["places","others"] qx.1:=⟨rfl,rfl,rfl,by decide+kernel,rfl,by decide+kernel,by decide+kernel⟩
def yo:FS:=(jH (bp N8 (av (eNew (dM (cq (ah 1)) (bh 0) sJ (e2 Ah (ah 0) (ah 1)) ["place"] [0])) aP)))
def jK:List D->R D:=xY sr yo
theorem Fp(T:Tp K mg cl)(h:Def K mg "has_all" lP):Callee P w K mg base 1 "has_all" 2 jK:=by
 obtain⟨f,fd,F,hm⟩:=h;exact⟨f,fd,_,du (k:=0) Dg.2 qx.2 F Ff (fun dU A outer s H E hr=>(bL (cw (bz (Qw rfl) rfl T.z_all PyProof.Rows.boot_all (ab (bE (di rfl (bZ.of (own:=["place"]) (kp:=[0]) (kn:=["places"]) (sc:=qx.1) (N:=sr) rfl rfl (by decide+kernel)) (bB (aa 1)) (fun _ _ _=>(bx (show List.Nodup [(Str.ofString "place"),"places"] from by decide+kernel) rfl (Or.inl rfl))) (fun _ _ _=>gq) (fun _ _ _=>(uv F9 (aa 0) (aa 1) (by with_unfolding_all rfl))))) aj))))),hm,F.kp,F.binds fun _ _ _ _ _ _ us hl=>match us,hl with | [_,_],_=>rfl⟩
abbrev j6:Stmt:=top 20
noncomputable abbrev ip:List Str:=["net","many","level","trial","found","size","places"]
noncomputable def AH:{b:List Stmt // aO j6=b}:=⟨_,by conv=>lhs;whnf⟩
noncomputable def nK:{b:Scope // az j6=b}:=⟨_,by conv=>lhs;whnf⟩
theorem ke:a_ ip ["net","many","level"] nK.1:=⟨rfl,rfl,rfl,by decide+kernel,rfl,by decide+kernel,by decide+kernel⟩
def mY:FZ:=(qK (bT (vY (bp IH (av (eNew (dM (cq (ah 4)) (bh 0) sJ (bp jK (av (ah 1) (av (ah 0) aP))) ["others"] [6])) aP)))) gI (qK (Ib uk (tY 1 "breaks_at" cJ (bC 3) (aq (xP (ah 6)) (aq (xP (ah 2)) bH))) (xP (eC (.int 0)))) (qb 4 (xP (ah 6))) gI))
def rK:FZ:=(fS (xi (lu (dt 4) (aq (q8 1 "unsure" (bC 3)) (aq (xP (ah 5)) bH)))) (jz 6) mY)
def mM:FZ:=(aY (bR 3 (AE 1 cy (aq (xP (ah 0)) bH))) (aY (bR 4 (l7 (dy aP))) (aY (fS (iP (jm (e2 gu (ah 1) (eC (.int 1))))) (jz 5) rK) (dW (bC 4)))))
def oJ:List V3->aF->R3 V3:=nB ip mM
def fD:List V3->aF->R3 V3:=nC ip mM
theorem Cy(T:Tp K mg cl)(h:Def K mg "breaking" j6)(jP:Callee P w K mg base 5 "choices" 2 (dt 4))(tj:Callee P w K mg base 1 "has_all" 2 jK)(cZ:xN P w K mg base cl 6 1 "Trial" 1 cy)(cL:kL P w K mg base cl 6 1 "breaks_at" 2 cJ):aZ P w K mg base cl 8 "breaking" 3 oJ:=by
 obtain⟨f,fd,F,hm⟩:=h;exact⟨f,fd,_,bK (k:=7) AH.2 nK.2 F ke (fun dU A outer s H E hr=>(ao (aQ ke.nd rfl (Or.inl rfl) (yH cZ hr (by decide) rfl (ae (ag (aa 0)) ay) (af aA))) (ao (aQ ke.nd rfl (Or.inl rfl) (eJ (br aj))) (ao (cC PassesOwn.never rfl (bS (eu (aR gT (aa 1) ai) rfl T.z_range)) (aM ke.nd rfl (Or.inl rfl)) (ax (KS PassesOwn.never rfl (mQ (uY jP hr (by decide) rfl (ae (jn T.C_Trial T.N_Trial_unsure (aG 3)) (ae (ag (aa 5)) ay)) (af (af aA)))) (aM ke.nd rfl (Or.inr rfl)) (He (vn (rP (bz (LU rfl) rfl T.z_any PyProof.Rows.boot_any (ab (bE (di rfl (bZ.of (own:=["others"]) (kp:=[6]) (kn:=["places"]) (sc:=nK.1) (N:=ip) rfl rfl (by decide+kernel)) (bB (aa 4)) (fun _ _ _=>(bx (show List.Nodup [(Str.ofString "others"),"places"] from by decide+kernel) rfl (Or.inl rfl))) (fun _ _ _=>gq) (fun _ _ _=>(cz tj hr (by decide) rfl (ab (aa 1) (ab (aa 0) aj)) (bo (bo de)))))) aj)))) (Om (ax (ft (jG (rJ hr.units) (pf cL hr (by decide) (aG 3) (ae (ag (aa 6)) (ae (ag (aa 2)) ay)) (af (af aA))) (ag ai) (bw _)) (ax (lz rfl (Or.inl rfl) (ag (aa 6)))) cF))))))) (ax (bM (aG 4))))))),hm,F.kp,F.binds fun _ _ _ _ _ _ us hl=>match us,hl with | [_,_,_],_=>rfl⟩
abbrev fV:Stmt:=top 21
noncomputable abbrev fT:List Str:=["groups","taken","count","group","place"]
noncomputable def vj:{b:List Stmt // aO fV=b}:=⟨_,by conv=>lhs;whnf⟩
noncomputable def ka:{b:Scope // az fV=b}:=⟨_,by conv=>lhs;whnf⟩
theorem eI:a_ fT ["groups"] ka.1:=⟨rfl,rfl,rfl,by decide+kernel,rfl,by decide+kernel,by decide+kernel⟩
def nu:FZ:=(zM (bC 1) (xP (ah 4)) (xP (eC (.bl true))))
def nc:FZ:=(qK (Lw (Iu (lu IH (aq (k4 (iP (cq (ah 3))) (jz 0) Bs (Ox (xP (ah 0)) (bC 1)) ["place"] [1]) bH)))) (aY (bR 2 (xP (e2 gu (ah 2) (eC (.int 1))))) (fS (iP (cq (ah 3))) (jz 4) nu)) gI)
def lA:FZ:=(aY (bR 1 Ak) (aY (bR 2 (xP (eC (.int 0)))) (aY (fS (iP (cq (ah 0))) (jz 3) nc) (dW (xP (ah 2))))))
def u0:List V3->aF->R3 V3:=nB fT lA
def gB:List V3->aF->R3 V3:=nC fT lA
theorem w_(T:Tp K mg cl)(h:Def K mg "count_apart" fV):aZ P w K mg base cl 1 "count_apart" 1 u0:=by
 obtain⟨f,fd,F,hm⟩:=h;exact⟨f,fd,_,bK (k:=0) vj.2 ka.2 F eI (fun dU A outer s H E hr=>(ao (aQ eI.nd rfl (Or.inr rfl) yJ) (ao (aQ eI.nd rfl (Or.inl rfl) (ag ai)) (ao (cC PassesOwn.never rfl (bS (bB (aa 0))) (aM eI.nd rfl (Or.inl rfl)) (ax (ft (DH (AV (HW (LU rfl) rfl T.z_any PyProof.Rows.boot_any (ae (rq rfl (bZ.of (own:=["place"]) (kp:=[1]) (kn:=["taken"]) (sc:=ka.1) (N:=fT) rfl rfl (by decide+kernel)) (bS (bB (aa 3))) (fun _ _ _=>(aM (show List.Nodup [(Str.ofString "place"),"taken"] from by decide+kernel) rfl (Or.inl rfl))) (fun _ _ _=>jL) (fun _ _ _=>(MW (AK hr) (ag (aa 0)) (aG 1) (by with_unfolding_all rfl)))) ay)))) (ao (aQ eI.nd rfl (Or.inl rfl) (ag (aR gT (aa 2) ai))) (ax (cC PassesOwn.never rfl (bS (bB (aa 3))) (aM eI.nd rfl (Or.inl rfl)) (ax (yY (AK hr) (ag iu) (aG 1) (ag (aa 4))))))) cF))) (ax (bM (ag (aa 2)))))))),hm,F.kp,F.binds fun _ _ _ _ _ _ us hl=>match us,hl with | [_],_=>rfl⟩
abbrev oi:Stmt:=top 22
noncomputable abbrev va:List Str:=["group","place"]
noncomputable def EV:{b:List Stmt // aO oi=b}:=⟨_,by conv=>lhs;whnf⟩
noncomputable def sI:{b:Scope // az oi=b}:=⟨_,by conv=>lhs;whnf⟩
theorem Hw:a_ va ["group","place"] sI.1:=⟨rfl,rfl,rfl,by decide+kernel,rfl,by decide+kernel,by decide+kernel⟩
def As:FS:=(jH (eNew (dM (cq (ah 0)) (bh 0) (b2 QK (ah 0) (ah 1)) (ah 0) ["other"] [1])))
def nM:List D->R D:=xY va As
theorem GO(T:Tp K mg cl)(h:Def K mg "behind" oi):Callee P w K mg base 1 "behind" 2 nM:=by
 obtain⟨f,fd,F,hm⟩:=h;exact⟨f,fd,_,du (k:=0) EV.2 sI.2 F Hw (fun dU A outer s H E hr=>(bL (cw (bE (di rfl (bZ.of (own:=["other"]) (kp:=[1]) (kn:=["place"]) (sc:=sI.1) (N:=va) rfl rfl (by decide+kernel)) (bB (aa 0)) (fun _ _ _=>(bx (show List.Nodup [(Str.ofString "other"),"place"] from by decide+kernel) rfl (Or.inl rfl))) (fun _ _ _=>(i8 (bu NU (aa 0) (aa 1) (bw _)))) (fun _ _ _=>(aa 0))))))),hm,F.kp,F.binds fun _ _ _ _ _ _ us hl=>match us,hl with | [_,_],_=>rfl⟩
abbrev fX:Stmt:=top 23
noncomputable abbrev lp:List Str:=["groups","place"]
noncomputable def wk:{b:List Stmt // aO fX=b}:=⟨_,by conv=>lhs;whnf⟩
noncomputable def jV:{b:Scope // az fX=b}:=⟨_,by conv=>lhs;whnf⟩
theorem xm:a_ lp ["groups","place"] jV.1:=⟨rfl,rfl,rfl,by decide+kernel,rfl,by decide+kernel,by decide+kernel⟩
def pJ:FS:=(jH (eNew (dM (cq (ah 0)) (bh 0) (b2 yA (ah 1) (ah 0)) (bp nM (av (ah 0) (av (ah 1) aP))) ["group"] [1])))
def fU:List D->R D:=xY lp pJ
theorem wK(T:Tp K mg cl)(h:Def K mg "groups_left" fX)(wF:Callee P w K mg base 1 "behind" 2 nM):Callee P w K mg base 2 "groups_left" 2 fU:=by
 obtain⟨f,fd,F,hm⟩:=h;exact⟨f,fd,_,du (k:=1) wk.2 jV.2 F xm (fun dU A outer s H E hr=>(bL (cw (bE (di rfl (bZ.of (own:=["group"]) (kp:=[1]) (kn:=["place"]) (sc:=jV.1) (N:=lp) rfl rfl (by decide+kernel)) (bB (aa 0)) (fun _ _ _=>(bx (show List.Nodup [(Str.ofString "group"),"place"] from by decide+kernel) rfl (Or.inl rfl))) (fun _ _ _=>(i8 (bu Ky (aa 1) (aa 0) (by with_unfolding_all rfl)))) (fun _ _ _=>(cz wF hr (by decide) rfl (ab (aa 0) (ab (aa 1) aj)) (bo (bo de))))))))),hm,F.kp,F.binds fun _ _ _ _ _ _ us hl=>match us,hl with | [_,_],_=>rfl⟩
abbrev fg:Stmt:=top 24
noncomputable abbrev fk:List Str:=["groups","most","last","tried","group","place","rest"]
noncomputable def um:{b:List Stmt // aO fg=b}:=⟨_,by conv=>lhs;whnf⟩
noncomputable def jg:{b:Scope // az fg=b}:=⟨_,by conv=>lhs;whnf⟩
theorem dv:a_ fk ["groups","most"] jg.1:=⟨rfl,rfl,rfl,by decide+kernel,rfl,by decide+kernel,by decide+kernel⟩
def l8(self:List V3->aF->R3 V3):FZ:=(qK (bP (b2 Sv (ah 5) (ah 2))) (zM (bC 3) (xP (ah 5)) (xP (eC (.bl true)))) gI)
def l4(self:List V3->aF->R3 V3):FZ:=(fS (iP (cq (ah 4))) (jz 5) (l8 self))
def md(self:List V3->aF->R3 V3):FZ:=(aY (bR 6 (bJ self (aq (xP (bp fU (av (ah 0) (av (ah 5) aP)))) (aq (xP (e2 Cu (ah 1) (eC (.int 1)))) bH)))) (qK (bP (b2 NW (ah 6) (eC .cH))) (dW (xP (e2 oI (eT (av (ah 5) aP)) (ah 6)))) gI))
def jX(self:List V3->aF->R3 V3):FZ:=(aY (qK (Ib QK (bJ gB (aq (xP (ah 0)) bH)) (xP (ah 1))) (dW (xP (eC .cH))) gI) (aY (qK (bP (HF (vY (ah 0)))) (dW (xP (eT aP))) gI) (aY (bR 2 (xP (bp tR (av (eNew (dM (cq (ah 0)) (bh 0) sJ (e2 cR (ah 0) (GG (eC (.int 1)))) ["group"] [])) aP)))) (aY (bR 3 Ak) (aY (fS (iP (cq (ah 0))) (jz 4) (l4 self)) (aY (fS (xi (y_ (bC 3))) (jz 5) (md self)) (dW (xP (eC .cH)))))))))
def c9:Nat->List V3->aF->R3 V3
 | 0=>fun _ _=> .no
 | n+1=>nC fk (jX (c9 n))
theorem oF(T:Tp K mg cl)(h:Def K mg "first_places" fg)(i0:Callee P w K mg base 2 "groups_left" 2 fU)(g8:aZ P w K mg base cl 1 "count_apart" 1 gB):∀n,aZ P w K mg base cl (3+n) "first_places" 2 (c9 n)
 | 0=>by
   obtain⟨f,fd,F,hm⟩:=h;exact⟨f,fd,["groups","most"],M5,hm,F.kp,F.binds fun _ _ _ _ _ _ us hl=>match us,hl with | [_,_],_=>rfl⟩
 | n+1=>by
   have LK:=oF T h i0 g8 n;obtain⟨f,fd,F,hm⟩:=h;exact aZ.p ⟨f,fd,_,bK (k:=3+n) um.2 jg.2 F dv (fun dU A outer s H E hr=>(ao (ft (jG NU (aW g8 hr (by omega) rfl (ae (ag (aa 0)) ay) (af aA)) (ag (aa 1)) (bw _)) (ax (bM (ag rE))) cF) (ao (ft (dg (D0 (rP (aa 0)))) (ax (bM (ag (bY aj)))) cF) (ao (aQ dv.nd rfl (Or.inl rfl) (ag (bz (BQ rfl) rfl T.z_min PyProof.Rows.boot_min (ab (bE (di rfl (bZ.of (own:=["group"]) (kp:=[]) (kn:=[]) (sc:=jg.1) (N:=fk) rfl rfl (by decide+kernel)) (bB (aa 0)) (fun _ _ _=>(bx (show List.Nodup [(Str.ofString "group")] from by decide+kernel) rfl (Or.inl rfl))) (fun _ _ _=>gq) (fun _ _ _=>(aS (aa 0) (D_ ai) (fun _ _=>rfl))))) aj)))) (ao (aQ dv.nd rfl (Or.inl rfl) yJ) (ao (cC PassesOwn.never rfl (bS (bB (aa 0))) (aM dv.nd rfl (Or.inl rfl)) (ax (cC PassesOwn.never rfl (bS (bB (aa 4))) (aM dv.nd rfl (Or.inl rfl)) (ax (ft (dg (bu TJ (aa 5) (aa 2) (bw _))) (ax (yY (AK hr) (ag iu) (aG 3) (ag (aa 5)))) cF))))) (ao (cC PassesOwn.never rfl (mQ (AX rfl (aG 3) rfl T.z_sorted)) (aM dv.nd rfl (Or.inl rfl)) (ao (aQ dv.nd rfl (Or.inl rfl) (aW LK hr (by omega) rfl (ae (ag (cz i0 hr (by omega) rfl (ab (aa 0) (ab (aa 5) aj)) (bo (bo de)))) (ae (ag (aR xU (aa 1) ai)) ay)) (af (af aA)))) (ax (ft (dg (bu Qo (aa 6) rE (bw _))) (ax (bM (ag (aR sQ (bY (ab (aa 5) aj)) (aa 6))))) cF)))) (ax (bM (ag rE)))))))))),hm,F.kp,F.binds fun _ _ _ _ _ _ us hl=>match us,hl with | [_,_],_=>rfl⟩
abbrev nJ:Stmt:=top 25
noncomputable abbrev oG:List Str:=["net","many","level","groups","most","places"]
noncomputable def FR:{b:List Stmt // aO nJ=b}:=⟨_,by conv=>lhs;whnf⟩
noncomputable def sk:{b:Scope // az nJ=b}:=⟨_,by conv=>lhs;whnf⟩
theorem mh:a_ oG ["net","many","level"] sk.1:=⟨rfl,rfl,rfl,by decide+kernel,rfl,by decide+kernel,by decide+kernel⟩
def qk:FZ:=(aY (bR 4 (xP (e2 gu (ah 4) (eC (.int 1))))) (bR 5 (bJ (c9 12) (aq (xP (ah 3)) (aq (xP (ah 4)) bH)))))
def u_:FZ:=(aY (bR 3 (k4 (xi (bJ fD (aq (xP (ah 0)) (aq (xP (ah 1)) (aq (xP (ah 2)) bH))))) (jz 0) Bs (xP (bp Ay (av (ah 0) aP))) ["places"] [])) (aY (bR 4 (xP (eC (.int 0)))) (aY (bR 5 (bJ (c9 12) (aq (xP (ah 3)) (aq (xP (ah 4)) bH)))) (aY (De 1000 (bP (b2 RD (ah 5) (eC .cH))) qk) (dW (xP (ah 5)))))))
def Fo:List V3->aF->R3 V3:=nB oG u_
def me:List V3->aF->R3 V3:=nC oG u_
theorem GK(T:Tp K mg cl)(h:Def K mg "surest" nJ)(fI:aZ P w K mg base cl 8 "breaking" 3 fD)(gb:aZ P w K mg base cl 15 "first_places" 2 (c9 12)):aZ P w K mg base cl 16 "surest" 3 Fo:=by
 obtain⟨f,fd,F,hm⟩:=h;exact⟨f,fd,_,bK (k:=15) FR.2 sk.2 F mh (fun dU A outer s H E hr=>(ao (pY rfl mh.nd rfl rfl (bZ.of (own:=["places"]) (kp:=[]) (kn:=[]) (sc:=sk.1) (N:=oG) rfl rfl (by decide+kernel)) (mQ (aW fI hr (by decide) rfl (ae (ag (aa 0)) (ae (ag (aa 1)) (ae (ag (aa 2)) ay))) (af (af (af aA))))) (fun _ _ _=>(aM (show List.Nodup [(Str.ofString "places")] from by decide+kernel) rfl (Or.inl rfl))) (fun _ _ _=>jL) (fun _ _ _=>(ag (fF CQ rfl T.z_list PyProof.Rows.boot_list (ab (aa 0) aj))))) (ao (aQ mh.nd rfl (Or.inl rfl) (ag ai)) (ao (aQ mh.nd rfl (Or.inl rfl) (aW gb hr (by decide) rfl (ae (ag (aa 3)) (ae (ag (aa 4)) ay)) (af (af aA)))) (ao (HR 1000 PassesOwn.never (dg (bu Ti (aa 5) rE (bw _))) (ao (aQ mh.nd rfl (Or.inl rfl) (ag (aR gT (aa 4) ai))) (ax (aQ mh.nd rfl (Or.inl rfl) (aW gb hr (by decide) rfl (ae (ag (aa 3)) (ae (ag (aa 4)) ay)) (af (af aA))))))) (ax (bM (ag (aa 5))))))))),hm,F.kp,F.binds fun _ _ _ _ _ _ us hl=>match us,hl with | [_,_,_],_=>rfl⟩
abbrev i9:Stmt:=top 26
noncomputable abbrev oQ:List Str:=["net","places","gates","place","gate"]
noncomputable def zp:{b:List Stmt // aO i9=b}:=⟨_,by conv=>lhs;whnf⟩
noncomputable def q9:{b:Scope // az i9=b}:=⟨_,by conv=>lhs;whnf⟩
theorem kO:a_ oQ ["net","places"] q9.1:=⟨rfl,rfl,rfl,by decide+kernel,rfl,by decide+kernel,by decide+kernel⟩
def ll:FS:=(EL 2 (eT (av (e2 cR (ah 4) (eC (.int 0))) (av (e2 cR (ah 4) (eC (.int 1))) (av (QL (e2 cR (ah 4) (eC (.int 2))) (e2 Ah (ah 3) (ah 1))) aP)))))
def tI:FS:=(k_ (B5 2 (dy aP)) (k_ (yZ (ig (e2 cR (ah 0) (eC (.int 1)))) (nL 2 (d6 (bh 3) (d6 (bh 4) nF))) ll) (ID 2 (jH (eT (av (bp Ay (av (e2 cR (ah 0) (eC (.int 0))) aP)) (av (ah 2) (av (bp Ay (av (e2 cR (ah 0) (eC (.int 2))) aP)) aP))))))))
def gm:List D->R D:=xY oQ tI
theorem Ae(T:Tp K mg cl)(h:Def K mg "made_sure" i9):Callee P w K mg base 1 "made_sure" 2 gm:=by
 obtain⟨f,fd,F,hm⟩:=h;exact⟨f,fd,_,du (k:=0) zp.2 q9.2 F kO (fun dU A outer s H E hr=>(cV (AZ kO.nd rfl (Or.inl rfl) (br aj)) (cV (nR PassesOwn.never rfl (jJ (aS (aa 0) ai (fun _ _=>rfl)) rfl T.z_enumerate) (qW rfl (fj (bx kO.nd rfl (Or.inl rfl)) (fj (bx kO.nd rfl (Or.inl rfl)) pk))) (bL (Bd rfl (Or.inl rfl) (bY (ab (aS (aa 4) ai (fun _ _=>rfl)) (ab (aS (aa 4) ai (fun _ _=>rfl)) (ab (Oh (aS (aa 4) ai (fun _ _=>rfl)) (KO (uv F9 (aa 3) (aa 1) (by with_unfolding_all rfl)))) aj))))))) (zY 2 (bL (cw (bY (ab (fF CQ rfl T.z_list PyProof.Rows.boot_list (ab (aS (aa 0) ai (fun _ _=>rfl)) aj)) (ab (aa 2) (ab (fF CQ rfl T.z_list PyProof.Rows.boot_list (ab (aS (aa 0) ai (fun _ _=>rfl)) aj)) aj)))))))))),hm,F.kp,F.binds fun _ _ _ _ _ _ us hl=>match us,hl with | [_,_],_=>rfl⟩
abbrev kh:Stmt:=top 28
noncomputable abbrev mN:List Str:=["pot","many","cell","stir"]
noncomputable def zW:{b:List Stmt // aO kh=b}:=⟨_,by conv=>lhs;whnf⟩
noncomputable def tG:{b:Scope // az kh=b}:=⟨_,by conv=>lhs;whnf⟩
theorem mO:a_ mN ["pot","many"] tG.1:=⟨rfl,rfl,rfl,by decide+kernel,rfl,by decide+kernel,by decide+kernel⟩
def qr:FZ:=(aY (IY (bC 0) (xP (eC (.int 1))) (xT (e2 gu (e2 cR (ah 0) (eC (.int 1))) (eC (.int 1))))) (aY (bR 2 (xT (e2 cR (ah 0) (eC (.int 0))))) (aY (qK (bP (b2 Vq (ah 2) (e2 Qx (eC (.int 10)) (eC (.int 18))))) (aY (IY (bC 0) (xP (eC (.int 0))) (xP (e2 Bg (ah 2) (ah 1)))) (dW (xP (e2 wR (ah 2) (ah 1))))) gI) (aY (bR 3 (xT (e2 wR (e2 gu (e2 gu (e2 qt (ah 2) (eC (.int 69621))) (e2 qt (e2 cR (ah 0) (eC (.int 1))) (eC (.int 7919)))) (eC (.int 13))) (eC (.int 2147483647))))) (aY (bR 3 (xP (e2 wR (e2 qt (ah 3) (ah 3)) (eC (.int 2147483629))))) (dW (xT (e2 wR (e2 Bg (e2 wR (e2 gu (e2 qt (ah 3) (eC (.int 48271))) (e2 qt (e2 cR (ah 0) (eC (.int 1))) (eC (.int 40692)))) (eC (.int 2147483587))) (eC (.int 8))) (ah 1)))))))))
def zO:List V3->aF->R3 V3:=nB mN qr
def aN:List V3->aF->R3 V3:=nC mN qr
theorem C3(T:Tp K mg cl)(h:Def K mg "_law_next" kh):aZ P w K mg base cl 1 "_law_next" 2 zO:=by
 obtain⟨f,fd,F,hm⟩:=h;exact⟨f,fd,_,bK (k:=0) zW.2 tG.2 F mO (fun dU A outer s H E hr=>(ao (CP (dn (aR gT (aS (aa 0) ai (fun _ _=>rfl)) ai)) (CI (PX.go (aG 0)) (PX.go (ag ai)) set_list)) (ao (aQ mO.nd rfl (Or.inl rfl) (dn (aS (aa 0) ai (fun _ _=>rfl)))) (ao (ft (dg (bu Tr (aa 2) (aR Qu ai ai) (bw _))) (ao (CP (ag (aR Ie (aa 2) (aa 1))) (CI (PX.go (aG 0)) (PX.go (ag ai)) set_list)) (ax (bM (ag (aR vU (aa 2) (aa 1)))))) cF) (ao (aQ mO.nd rfl (Or.inl rfl) (dn (aR vU (aR gT (aR gT (aR yn (aa 2) ai) (aR yn (aS (aa 0) ai (fun _ _=>rfl)) ai)) ai) ai))) (ao (aQ mO.nd rfl (Or.inl rfl) (ag (aR vU (aR yn (aa 3) (aa 3)) ai))) (ax (bM (dn (aR vU (aR Ie (aR vU (aR gT (aR yn (aa 3) ai) (aR yn (aS (aa 0) ai (fun _ _=>rfl)) ai)) ai) ai) (aa 1))))))))))),hm,F.kp,F.binds fun _ _ _ _ _ _ us hl=>match us,hl with | [_,_],_=>rfl⟩
abbrev kr:Stmt:=top 29
noncomputable abbrev ko:List Str:=["script"]
noncomputable def Bp:{b:List Stmt // aO kr=b}:=⟨_,by conv=>lhs;whnf⟩
noncomputable def ot:{b:Scope // az kr=b}:=⟨_,by conv=>lhs;whnf⟩
theorem Dc:a_ ko ["script"] ot.1:=⟨rfl,rfl,rfl,by decide+kernel,rfl,by decide+kernel,by decide+kernel⟩
def p9:FZ:=(aY (qK (bP (b2 kF (bp iE (av (ah 0) aP)) (eC (.int 0)))) (dW (OC (aq (l7 (dy (av (eC (.int 0)) (av (eC (.int 0)) aP)))) bH))) gI) (dW (k4 (iP (cq (NH (ah 0) vx (rM (eC (.int 63)))))) (jz 0) Bs (l7 (dy (av (ah 0) (av (eC (.int 0)) aP)))) ["cell"] [])))
def kQ:List V3->aF->R3 V3:=nB ko p9
def Md:List V3->aF->R3 V3:=nC ko p9
theorem CL(T:Tp K mg cl)(h:Def K mg "_law_pots" kr):aZ P w K mg base cl 1 "_law_pots" 1 kQ:=by
 obtain⟨f,fd,F,hm⟩:=h;exact⟨f,fd,_,bK (k:=0) Bp.2 ot.2 F Dc (fun dU A outer s H E hr=>(ao (ft (dg (bu (ku hr.units) (bz gp rfl T.z_len PySem.boot_len (ab (aa 0) aj)) ai (bw _))) (ax (bM (NX (ae (eJ (br (ab ai (ab ai aj)))) ay)))) cF) (ax (bM (rq rfl (bZ.of (own:=["cell"]) (kp:=[]) (kn:=[]) (sc:=ot.1) (N:=ko) rfl rfl (by decide+kernel)) (bS (bB (CT (aa 0) q_ (rG ai)))) (fun _ _ _=>(aM (show List.Nodup [(Str.ofString "cell")] from by decide+kernel) rfl (Or.inl rfl))) (fun _ _ _=>jL) (fun _ _ _=>(eJ (br (ab (aa 0) (ab ai aj)))))))))),hm,F.kp,F.binds fun _ _ _ _ _ _ us hl=>match us,hl with | [_],_=>rfl⟩
abbrev fw:Stmt:=top 30
noncomputable abbrev gy:List Str:=["pot","most","wide","names","turn","found","k"]
noncomputable def t6:{b:List Stmt // aO fw=b}:=⟨_,by conv=>lhs;whnf⟩
noncomputable def nk:{b:Scope // az fw=b}:=⟨_,by conv=>lhs;whnf⟩
theorem fq:a_ gy ["pot","most","wide"] nk.1:=⟨rfl,rfl,rfl,by decide+kernel,rfl,by decide+kernel,by decide+kernel⟩
def l_:FZ:=(qb 5 (wd (aq (xP (e2 cR (ah 3) (e2 wR (e2 gu (ah 4) (ah 6)) (eC (.int 6))))) (aq (x2 gu (xP (eC (.int 1))) (bJ aN (aq (bC 0) (aq (xP (ah 2)) bH)))) bH))))
def jZ:FZ:=(aY (bR 3 (xP (eNew (dy (av (eC (.str "a")) (av (eC (.str "bb")) (av (eC (.str "signal")) (av (eC (.str "x")) (av (eC (.str "yes")) (av (eC (.str "abcdefgh")) aP)))))))))) (aY (bR 4 (bJ aN (aq (bC 0) (aq (xP (eC (.int 6))) bH)))) (aY (bR 5 (l7 (dy aP))) (aY (fS (rm (x2 gu (xP (eC (.int 1))) (bJ aN (aq (bC 0) (aq (xP (ah 1)) bH))))) (jz 6) l_) (dW (bC 5))))))
def ug:List V3->aF->R3 V3:=nB gy jZ
def f7:List V3->aF->R3 V3:=nC gy jZ
theorem uR(T:Tp K mg cl)(h:Def K mg "_law_some_ins" fw)(aL:aZ P w K mg base cl 1 "_law_next" 2 aN):aZ P w K mg base cl 2 "_law_some_ins" 3 ug:=by
 obtain⟨f,fd,F,hm⟩:=h;exact⟨f,fd,_,bK (k:=1) t6.2 nk.2 F fq (fun dU A outer s H E hr=>(ao (aQ fq.nd rfl (Or.inl rfl) (ag (bE (br (ab bG (ab bG (ab bG (ab bG (ab bG (ab bG aj)))))))))) (ao (aQ fq.nd rfl (Or.inl rfl) (aW aL hr (by decide) rfl (ae (aG 0) (ae (ag ai) ay)) (af (af aA)))) (ao (aQ fq.nd rfl (Or.inl rfl) (eJ (br aj))) (ao (cC PassesOwn.never rfl (j7 (AW gT (ag ai) (aW aL hr (by decide) rfl (ae (aG 0) (ae (ag (aa 1)) ay)) (af (af aA)))) rfl T.z_range) (aM fq.nd rfl (Or.inl rfl)) (ax (lz rfl (Or.inl rfl) (mV (ae (ag (aS (aa 3) (aR vU (aR gT (aa 4) (aa 6)) ai) (fun _ _=>rfl))) (ae (AW gT (ag ai) (aW aL hr (by decide) rfl (ae (aG 0) (ae (ag (aa 2)) ay)) (af (af aA)))) ay)))))) (ax (bM (aG 5)))))))),hm,F.kp,F.binds fun _ _ _ _ _ _ us hl=>match us,hl with | [_,_,_],_=>rfl⟩
abbrev j0:Stmt:=top 31
noncomputable abbrev jT:List Str:=["pot","many","kind","count","wires"]
noncomputable def AS:{b:List Stmt // aO j0=b}:=⟨_,by conv=>lhs;whnf⟩
noncomputable def ox:{b:Scope // az j0=b}:=⟨_,by conv=>lhs;whnf⟩
theorem mG:a_ jT ["pot","many"] ox.1:=⟨rfl,rfl,rfl,by decide+kernel,rfl,by decide+kernel,by decide+kernel⟩
def qw:FZ:=(aY (bR 2 (Ly (xP (eNew (dy (av (eC (.str "not")) (av (eC (.str "and")) (av (eC (.str "or")) (av (eC (.str "xor")) (av (eC (.str "vote")) (av (eC (.str "and")) (av (eC (.str "or")) (av (eC (.str "xor")) aP))))))))))) (bJ aN (aq (bC 0) (aq (xP (eC (.int 8))) bH))))) (aY (bR 3 (xP (Nr [((Sum.inr "not":Key),V.int 1),((Sum.inr "vote":Key),V.int 3)] (ah 2) (eC (.int 2))))) (aY (bR 4 (k4 (iP (jm (ah 3))) (jz 0) Bs (x2 Cu (xP (e2 Cu (ah 2) (eC (.int 1)))) (bJ aN (aq (bC 1) (aq (xP (e2 cR (eNew (dy (av (ah 2) (av (bp tR (av (ah 2) (av (eC (.int 4)) aP))) aP)))) (e2 wR (ah 0) (eC (.int 2))))) bH)))) ["k"] [0,1])) (dW (xP (eT (av (ah 2) (av (bp oK (av (ah 4) aP)) aP))))))))
def A3:List V3->aF->R3 V3:=nB jT qw
def kU:List V3->aF->R3 V3:=nC jT qw
theorem CV(T:Tp K mg cl)(h:Def K mg "_law_gate" j0)(aL:aZ P w K mg base cl 1 "_law_next" 2 aN):aZ P w K mg base cl 2 "_law_gate" 2 A3:=by
 obtain⟨f,fd,F,hm⟩:=h;exact⟨f,fd,_,bK (k:=1) AS.2 ox.2 F mG (fun dU A outer s H E hr=>(ao (aQ mG.nd rfl (Or.inl rfl) (xQ (ag (bE (br (ab bG (ab bG (ab bG (ab bG (ab bG (ab bG (ab bG (ab bG aj))))))))))) (aW aL hr (by decide) rfl (ae (aG 0) (ae (ag ai) ay)) (af (af aA))) (fun _ _=>rfl))) (ao (aQ mG.nd rfl (Or.inl rfl) (ag (Lv (AK hr) (qR vF u6 (qR vF u6 Eb)) rfl rfl (by simp) (fun _ _ _ h=>h) (by decide) (aa 2) ai ⟨rfl,rfl,rfl,rfl⟩ (Ln (qR vF u6 (qR vF u6 Eb)) rfl rfl (by simp) (by decide))))) (ao (pY rfl mG.nd rfl rfl (bZ.of (own:=["k"]) (kp:=[0,1]) (kn:=["pot","many"]) (sc:=ox.1) (N:=jT) rfl rfl (by decide+kernel)) (bS (eu (aa 3) rfl T.z_range)) (fun _ _ _=>(aM (show List.Nodup [(Str.ofString "k"),"pot","many"] from by decide+kernel) rfl (Or.inl rfl))) (fun _ _ _=>jL) (fun _ _ _=>(AW xU (ag (aR xU (aa 2) ai)) (aW aL hr (by decide) rfl (ae (aG 1) (ae (ag (aS (bE (br (ab (aa 2) (ab (bz (BQ rfl) rfl T.z_min PyProof.Rows.boot_min (ab (aa 2) (ab ai aj))) aj)))) (aR vU (aa 0) ai) (fun _ _=>rfl))) ay)) (af (af aA)))))) (ax (bM (ag (bY (ab (aa 2) (ab (fF qZ rfl T.z_tuple PyProof.Rows.boot_tuple (ab (aa 4) aj)) aj)))))))))),hm,F.kp,F.binds fun _ _ _ _ _ _ us hl=>match us,hl with | [_,_],_=>rfl⟩
abbrev jS:Stmt:=top 32
noncomputable abbrev kf:List Str:=["pot","like","wire","same"]
noncomputable def AI:{b:List Stmt // aO jS=b}:=⟨_,by conv=>lhs;whnf⟩
noncomputable def n9:{b:Scope // az jS=b}:=⟨_,by conv=>lhs;whnf⟩
theorem u7:a_ kf ["pot","like","wire"] n9.1:=⟨rfl,rfl,rfl,by decide+kernel,rfl,by decide+kernel,by decide+kernel⟩
def pZ:FZ:=(aY (bR 3 (k4 (rm (xT (bp iE (av (ah 1) aP)))) (jz 0) (bT (b2 kF (e2 cR (ah 1) (ah 0)) (e2 cR (ah 1) (ah 2)))) (xP (ah 0)) ["one"] [1,2])) (dW (Ly (xP (ah 3)) (bJ aN (aq (bC 0) (aq (xP (bp iE (av (ah 3) aP))) bH))))))
def zV:List V3->aF->R3 V3:=nB kf pZ
def er:List V3->aF->R3 V3:=nC kf pZ
theorem Cn(T:Tp K mg cl)(h:Def K mg "_law_twin" jS)(aL:aZ P w K mg base cl 1 "_law_next" 2 aN):aZ P w K mg base cl 2 "_law_twin" 3 zV:=by
 obtain⟨f,fd,F,hm⟩:=h;exact⟨f,fd,_,bK (k:=1) AI.2 n9.2 F u7 (fun dU A outer s H E hr=>(ao (pY rfl u7.nd rfl rfl (bZ.of (own:=["one"]) (kp:=[1,2]) (kn:=["like","wire"]) (sc:=n9.1) (N:=kf) rfl rfl (by decide+kernel)) (j7 (dn (bz gp rfl T.z_len PySem.boot_len (ab (aa 1) aj))) rfl T.z_range) (fun _ _ _=>(aM (show List.Nodup [(Str.ofString "one"),"like","wire"] from by decide+kernel) rfl (Or.inl rfl))) (fun _ _ _=>(Ar (vn (bu (ku hr.units) (aS (aa 1) (aa 0) (fun _ _=>rfl)) (aS (aa 1) (aa 2) (fun _ _=>rfl)) (bw _))))) (fun _ _ _=>(ag (aa 0)))) (ax (bM (xQ (ag (aa 3)) (aW aL hr (by decide) rfl (ae (aG 0) (ae (ag (bz gp rfl T.z_len PySem.boot_len (ab (aa 3) aj))) ay)) (af (af aA))) (fun _ _=>rfl)))))),hm,F.kp,F.binds fun _ _ _ _ _ _ us hl=>match us,hl with | [_,_,_],_=>rfl⟩
abbrev fu:Stmt:=top 33
noncomputable abbrev eW:List Str:=["pot","most","gates","wide","ins","like","k","name","width","heard","first","kind","wires","mark","place","outs","wire"]
noncomputable def ub:{b:List Stmt // aO fu=b}:=⟨_,by conv=>lhs;whnf⟩
noncomputable def jk:{b:Scope // az fu=b}:=⟨_,by conv=>lhs;whnf⟩
theorem aI:a_ eW ["pot","most","gates","wide"] jk.1:=⟨rfl,rfl,rfl,by decide+kernel,rfl,by decide+kernel,by decide+kernel⟩
def lN:FZ:=(Fc 5 (xP (eNew (K1 (dy (av (ah 6) aP)) (ah 8)))))
def ie:FZ:=(aY (JX (bJ kU (aq (bC 0) (aq (xT (bp iE (av (ah 5) aP))) bH))) (JD 2 (AJ (jz 11) (AJ (jz 12) KP)))) (aY (bR 13 (xP (e2 gu (bp iE (av (ah 4) aP)) (ah 6)))) (aY (qK (Nt (bT (b2 uk (ah 9) (eNew (dy aP)))) (Ib kF (bJ aN (aq (bC 0) (aq (xP (eC (.int 3))) bH))) (xP (eC (.int 0))))) (aY (bR 14 (bJ aN (aq (bC 0) (aq (xT (bp iE (av (ah 9) aP))) bH)))) (aY (JX (xT (Lf (e2 cR (ah 9) (ah 14)) vx (rM (eC (.int 2))))) (JD 2 (AJ (jz 11) (AJ (jz 12) KP)))) (aY (bR 12 (lu oK (aq (k4 (iP (cq (ah 12))) (jz 0) Bs (bJ er (aq (bC 1) (aq (bC 2) (aq (xP (ah 0)) bH)))) ["wire"] [0,5]) bH))) (bR 13 (xT (e2 cR (ah 5) (e2 gu (ah 10) (ah 14)))))))) gI) (aY (qb 9 (wd (aq (xP (ah 11)) (aq (xP (ah 12)) (aq (x2 kF (bJ aN (aq (bC 0) (aq (xP (eC (.int 6))) bH))) (xP (eC (.int 0)))) bH))))) (qb 5 (xP (ah 13)))))))
def ix:FZ:=(aY (bR 16 (x2 Cu (xT (e2 Cu (bp iE (av (ah 5) aP)) (eC (.int 1)))) (bJ aN (aq (bC 0) (aq (xT (bp tR (av (bp iE (av (ah 5) aP)) (av (eC (.int 5)) aP)))) bH))))) (aY (bR 12 (xP (eT (av (ah 16) aP)))) (aY (bR 8 (bJ aN (aq (bC 0) (aq (xP (eC (.int 4))) bH)))) (aY (qK (bP (b2 kF (ah 8) (eC (.int 1)))) (bR 12 (wd (aq (xP (ah 16)) (aq (bJ er (aq (bC 0) (aq (bC 5) (aq (xP (ah 16)) bH)))) bH)))) gI) (aY (qK (bP (b2 kF (ah 8) (eC (.int 2)))) (bR 12 (wd (aq (xP (ah 16)) (aq (bJ er (aq (bC 0) (aq (bC 5) (aq (xP (ah 16)) bH)))) (aq (bJ aN (aq (bC 0) (aq (xT (bp iE (av (ah 5) aP))) bH))) bH))))) gI) (aY (qK (bP (b2 kF (ah 8) (eC (.int 3)))) (bR 12 (wd (aq (xP (ah 16)) (aq (bJ er (aq (bC 0) (aq (bC 5) (aq (xP (ah 16)) bH)))) (aq (bJ er (aq (bC 0) (aq (bC 5) (aq (xP (ah 16)) bH)))) bH))))) gI) (qb 15 (xP (eT (av (e2 cR (eNew (dy (av (eC (.str "p")) (av (eC (.str "ou")) (av (eC (.str "result")) aP))))) (ah 6)) (av (ah 12) aP)))))))))))
def kg:FZ:=(aY (bR 4 (bJ f7 (aq (bC 0) (aq (xP (ah 1)) (aq (xP (ah 3)) bH))))) (aY (bR 5 (l7 (dy aP))) (aY (fS (iP (ig (ah 4))) (JD 2 (AJ (jz 6) (AJ (JD 2 (AJ (jz 7) (AJ (jz 8) KP))) KP))) lN) (aY (bR 9 (l7 (dy aP))) (aY (bR 10 (xT (bp iE (av (ah 5) aP)))) (aY (fS (rm (bJ aN (aq (bC 0) (aq (xP (e2 gu (ah 2) (eC (.int 1)))) bH)))) (jz 6) ie) (aY (bR 15 (l7 (dy aP))) (aY (fS (rm (x2 gu (xP (eC (.int 1))) (bJ aN (aq (bC 0) (aq (xP (eC (.int 3))) bH))))) (jz 6) ix) (dW (wd (aq (bC 4) (aq (bC 9) (aq (bC 15) bH)))))))))))))
def ua:List V3->aF->R3 V3:=nB eW kg
def f9:List V3->aF->R3 V3:=nC eW kg
theorem vc(T:Tp K mg cl)(h:Def K mg "_law_some_net" fu)(js:aZ P w K mg base cl 2 "_law_some_ins" 3 f7)(aL:aZ P w K mg base cl 1 "_law_next" 2 aN)(oS:aZ P w K mg base cl 2 "_law_gate" 2 kU)(fH:aZ P w K mg base cl 2 "_law_twin" 3 er):aZ P w K mg base cl 3 "_law_some_net" 4 ua:=by
 obtain⟨f,fd,F,hm⟩:=h;exact⟨f,fd,_,bK (k:=2) ub.2 jk.2 F aI (fun dU A outer s H E hr=>(ao (aQ aI.nd rfl (Or.inl rfl) (aW js hr (by decide) rfl (ae (aG 0) (ae (ag (aa 1)) (ae (ag (aa 3)) ay))) (af (af (af aA))))) (ao (aQ aI.nd rfl (Or.inr rfl) (eJ (br aj))) (ao (cC PassesOwn.never rfl (bS (jJ (aa 4) rfl T.z_enumerate)) (k3 rfl (cA (aM aI.nd rfl (Or.inl rfl)) (cA (k3 rfl (cA (aM aI.nd rfl (Or.inl rfl)) (cA (aM aI.nd rfl (Or.inl rfl)) jd))) jd))) (ax (Ip rfl (Or.inr (Or.inl rfl)) (ag (bE (JQ (br (ab (aa 6) aj)) (aa 8))))))) (ao (aQ aI.nd rfl (Or.inl rfl) (eJ (br aj))) (ao (aQ aI.nd rfl (Or.inl rfl) (dn (bz gp rfl T.z_len PySem.boot_len (ab (aa 5) aj)))) (ao (cC PassesOwn.never rfl (j7 (aW aL hr (by decide) rfl (ae (aG 0) (ae (ag (aR gT (aa 2) ai)) ay)) (af (af aA))) rfl T.z_range) (aM aI.nd rfl (Or.inl rfl)) (ao (GU (aW oS hr (by decide) rfl (ae (aG 0) (ae (dn (bz gp rfl T.z_len PySem.boot_len (ab (aa 5) aj))) ay)) (af (af aA))) (k3 rfl (cA (aM aI.nd rfl (Or.inl rfl)) (cA (aM aI.nd rfl (Or.inl rfl)) jd)))) (ao (aQ aI.nd rfl (Or.inl rfl) (ag (aR gT (bz gp rfl T.z_len PySem.boot_len (ab (aa 4) aj)) (aa 6)))) (ao (ft (IP.pb (J_ (vn (bu (rJ hr.units) (aa 9) (bE (br aj)) (bw _))) (Jh (jG (ku hr.units) (aW aL hr (by decide) rfl (ae (aG 0) (ae (ag ai) ay)) (af (af aA))) (ag ai) (bw _))))) (ao (aQ aI.nd rfl (Or.inl rfl) (aW aL hr (by decide) rfl (ae (aG 0) (ae (dn (bz gp rfl T.z_len PySem.boot_len (ab (aa 9) aj))) ay)) (af (af aA)))) (ao (GU (dn (Kr (aS (aa 9) (aa 14) (fun _ _=>rfl)) q_ (rG ai))) (k3 rfl (cA (aM aI.nd rfl (Or.inl rfl)) (cA (aM aI.nd rfl (Or.inl rfl)) jd)))) (ao (aQ aI.nd rfl (Or.inl rfl) (EU qZ rfl T.z_tuple PyProof.Rows.boot_tuple (ae (rq rfl (bZ.of (own:=["wire"]) (kp:=[0,5]) (kn:=["pot","like"]) (sc:=jk.1) (N:=eW) rfl rfl (by decide+kernel)) (bS (bB (aa 12))) (fun _ _ _=>(aM (show List.Nodup [(Str.ofString "wire"),"pot","like"] from by decide+kernel) rfl (Or.inl rfl))) (fun _ _ _=>jL) (fun _ _ _=>(aW fH hr (by decide) rfl (ae (aG 1) (ae (aG 2) (ae (ag (aa 0)) ay))) (af (af (af aA)))))) ay))) (ax (aQ aI.nd rfl (Or.inl rfl) (dn (aS (aa 5) (aR gT (aa 10) (aa 14)) (fun _ _=>rfl)))))))) cF) (ao (lz rfl (Or.inl rfl) (mV (ae (ag (aa 11)) (ae (ag (aa 12)) (ae (Hq (ku hr.units) (aW aL hr (by decide) rfl (ae (aG 0) (ae (ag ai) ay)) (af (af aA))) (ag ai) (bw _)) ay))))) (ax (lz rfl (Or.inr (Or.inl rfl)) (ag (aa 13))))))))) (ao (aQ aI.nd rfl (Or.inl rfl) (eJ (br aj))) (ao (cC PassesOwn.never rfl (j7 (AW gT (ag ai) (aW aL hr (by decide) rfl (ae (aG 0) (ae (ag ai) ay)) (af (af aA)))) rfl T.z_range) (aM aI.nd rfl (Or.inl rfl)) (ao (aQ aI.nd rfl (Or.inl rfl) (AW xU (dn (aR xU (bz gp rfl T.z_len PySem.boot_len (ab (aa 5) aj)) ai)) (aW aL hr (by decide) rfl (ae (aG 0) (ae (dn (bz (BQ rfl) rfl T.z_min PyProof.Rows.boot_min (ab (bz gp rfl T.z_len PySem.boot_len (ab (aa 5) aj)) (ab ai aj)))) ay)) (af (af aA))))) (ao (aQ aI.nd rfl (Or.inl rfl) (ag (bY (ab (aa 16) aj)))) (ao (aQ aI.nd rfl (Or.inl rfl) (aW aL hr (by decide) rfl (ae (aG 0) (ae (ag ai) ay)) (af (af aA)))) (ao (ft (dg (bu (ku hr.units) (aa 8) ai (bw _))) (ax (aQ aI.nd rfl (Or.inl rfl) (mV (ae (ag (aa 16)) (ae (aW fH hr (by decide) rfl (ae (aG 0) (ae (aG 5) (ae (ag (aa 16)) ay))) (af (af (af aA)))) ay))))) cF) (ao (ft (dg (bu (ku hr.units) (aa 8) ai (bw _))) (ax (aQ aI.nd rfl (Or.inl rfl) (mV (ae (ag (aa 16)) (ae (aW fH hr (by decide) rfl (ae (aG 0) (ae (aG 5) (ae (ag (aa 16)) ay))) (af (af (af aA)))) (ae (aW aL hr (by decide) rfl (ae (aG 0) (ae (dn (bz gp rfl T.z_len PySem.boot_len (ab (aa 5) aj))) ay)) (af (af aA))) ay)))))) cF) (ao (ft (dg (bu (ku hr.units) (aa 8) ai (bw _))) (ax (aQ aI.nd rfl (Or.inl rfl) (mV (ae (ag (aa 16)) (ae (aW fH hr (by decide) rfl (ae (aG 0) (ae (aG 5) (ae (ag (aa 16)) ay))) (af (af (af aA)))) (ae (aW fH hr (by decide) rfl (ae (aG 0) (ae (aG 5) (ae (ag (aa 16)) ay))) (af (af (af aA)))) ay)))))) cF) (ax (lz rfl (Or.inl rfl) (ag (bY (ab (aS (bE (br (ab bG (ab bG (ab bG aj))))) (aa 6) (fun _ _=>rfl)) (ab (aa 12) aj))))))))))))) (ax (bM (mV (ae (aG 4) (ae (aG 9) (ae (aG 15) ay))))))))))))))),hm,F.kp,F.binds fun _ _ _ _ _ _ us hl=>match us,hl with | [_,_,_,_],_=>rfl⟩
abbrev gA:Stmt:=top 34
noncomputable abbrev jF:List Str:=["pot","lengths","order","k","length","turn","ends","gates"]
noncomputable def wX:{b:List Stmt // aO gA=b}:=⟨_,by conv=>lhs;whnf⟩
noncomputable def pK:{b:Scope // az gA=b}:=⟨_,by conv=>lhs;whnf⟩
theorem dm:a_ jF ["pot"] pK.1:=⟨rfl,rfl,rfl,by decide+kernel,rfl,by decide+kernel,by decide+kernel⟩
def kx:FZ:=(GR 2 (bJ aN (aq (bC 0) (aq (xT (e2 gu (bp iE (av (ah 2) aP)) (eC (.int 1)))) bH))) (xP (ah 3)))
def nQ:FZ:=(fS (iP (jm (ah 4))) (jz 5) kx)
def j3:FZ:=(aY (qb 7 (wd (aq (xP (eC (.str "not"))) (aq (xT (eT (av (e2 cR (ah 6) (ah 3)) aP))) (aq (x2 kF (bJ aN (aq (bC 0) (aq (xP (eC (.int 8))) bH))) (xP (eC (.int 0)))) bH))))) (IY (bC 6) (xP (ah 3)) (xT (bp iE (av (ah 7) aP)))))
def my:FZ:=(aY (bR 1 (Ly (xP (eNew (dy (av (eNew (dy (av (eC (.int 2)) (av (eC (.int 2)) (av (eC (.int 4)) aP))))) (av (eNew (dy (av (eC (.int 2)) (av (eC (.int 4)) (av (eC (.int 4)) aP))))) (av (eNew (dy (av (eC (.int 4)) (av (eC (.int 2)) (av (eC (.int 2)) aP))))) (av (eNew (dy (av (eC (.int 4)) (av (eC (.int 2)) (av (eC (.int 4)) aP))))) aP))))))) (bJ aN (aq (bC 0) (aq (xP (eC (.int 4))) bH))))) (aY (bR 2 (l7 (dy aP))) (aY (fS (iP (ig (ah 1))) (JD 2 (AJ (jz 3) (AJ (jz 4) KP))) nQ) (Cq 2 (aY (bR 6 (l7 (dy (av (eC (.int 0)) (av (eC (.int 0)) (av (eC (.int 0)) aP)))))) (aY (bR 7 (l7 (dy aP))) (aY (fS (iP (cq (ah 2))) (jz 3) j3) (dW (wd (aq (l7 (dy (av (eT (av (eC (.str "a")) (av (eC (.int 1)) aP))) aP))) (aq (bC 7) (aq (Tc (aq (xT (eT (av (eC (.str "x")) (av (bp oK (av (ah 6) aP)) aP)))) bH)) bH))))))))))))
def xg:List V3->aF->R3 V3:=nB jF my
def iW:List V3->aF->R3 V3:=nC jF my
theorem y6(T:Tp K mg cl)(h:Def K mg "_law_chains" gA)(aL:aZ P w K mg base cl 1 "_law_next" 2 aN):aZ P w K mg base cl 2 "_law_chains" 1 xg:=by
 obtain⟨f,fd,F,hm⟩:=h;exact⟨f,fd,_,bK (k:=1) wX.2 pK.2 F dm (fun dU A outer s H E hr=>(ao (aQ dm.nd rfl (Or.inl rfl) (xQ (ag (bE (br (ab (bE (br (ab ai (ab ai (ab ai aj))))) (ab (bE (br (ab ai (ab ai (ab ai aj))))) (ab (bE (br (ab ai (ab ai (ab ai aj))))) (ab (bE (br (ab ai (ab ai (ab ai aj))))) aj))))))) (aW aL hr (by decide) rfl (ae (aG 0) (ae (ag ai) ay)) (af (af aA))) (fun _ _=>rfl))) (ao (aQ dm.nd rfl (Or.inl rfl) (eJ (br aj))) (ao (cC PassesOwn.never rfl (bS (jJ (aa 1) rfl T.z_enumerate)) (k3 rfl (cA (aM dm.nd rfl (Or.inl rfl)) (cA (aM dm.nd rfl (Or.inl rfl)) jd))) (ax (cC PassesOwn.never rfl (bS (eu (aa 4) rfl T.z_range)) (aM dm.nd rfl (Or.inl rfl)) (ax (NK rfl (Or.inl rfl) (aW aL hr (by decide) rfl (ae (aG 0) (ae (dn (aR gT (bz gp rfl T.z_len PySem.boot_len (ab (aa 2) aj)) ai)) ay)) (af (af aA))) (ag (aa 3))))))) (yR 2 (ao (aQ dm.nd rfl (Or.inl rfl) (eJ (br (ab ai (ab ai (ab ai aj)))))) (ao (aQ dm.nd rfl (Or.inl rfl) (eJ (br aj))) (ao (cC PassesOwn.never rfl (bS (bB (aa 2))) (aM dm.nd rfl (Or.inl rfl)) (ao (lz rfl (Or.inl rfl) (mV (ae (ag bG) (ae (dn (bY (ab (aS (aa 6) (aa 3) (fun _ _=>rfl)) aj))) (ae (Hq (ku hr.units) (aW aL hr (by decide) rfl (ae (aG 0) (ae (ag ai) ay)) (af (af aA))) (ag ai) (bw _)) ay))))) (ax (CP (dn (bz gp rfl T.z_len PySem.boot_len (ab (aa 7) aj))) (CI (PX.go (aG 6)) (PX.go (ag (aa 3))) set_list))))) (ax (bM (mV (ae (eJ (br (ab (bY (ab bG (ab ai aj))) aj))) (ae (aG 7) (ae (Pp (ae (dn (bY (ab bG (ab (fF qZ rfl T.z_tuple PyProof.Rows.boot_tuple (ab (aa 6) aj)) aj)))) ay)) ay)))))))))))))),hm,F.kp,F.binds fun _ _ _ _ _ _ us hl=>match us,hl with | [_],_=>rfl⟩
abbrev eZ:Stmt:=top 35
noncomputable abbrev fA:List Str:=["places","most","layer","found","turn","wider","some"]
noncomputable def uh:{b:List Stmt // aO eZ=b}:=⟨_,by conv=>lhs;whnf⟩
noncomputable def jh:{b:Scope // az eZ=b}:=⟨_,by conv=>lhs;whnf⟩
theorem cQ:a_ fA ["places","most"] jh.1:=⟨rfl,rfl,rfl,by decide+kernel,rfl,by decide+kernel,by decide+kernel⟩
def lU:FZ:=(Fc 5 (xP (eNew (dM (cq (ah 0)) (bh 0) (Jz (b2 kF (ah 1) (eT aP)) (b2 QK (ah 0) (e2 cR (ah 1) (GG (eC (.int 1)))))) (e2 oI (ah 1) (eT (av (ah 0) aP))) ["place"] [6]))))
def lR:FZ:=(Cq 2 (aY (bR 5 (l7 (dy aP))) (aY (fS (iP (cq (ah 2))) (jz 6) lU) (aY (bR 2 (bC 5)) (bR 3 (MZ (bC 3) (bC 2)))))))
def kq:FZ:=(aY (bR 2 (l7 (dy (av (eT aP) aP)))) (aY (bR 3 (l7 (dy (av (eT aP) aP)))) (aY (fS (iP (jm (ah 1))) (jz 4) lR) (dW (bC 3)))))
def t_:List V3->aF->R3 V3:=nB fA kq
def f6:List V3->aF->R3 V3:=nC fA kq
theorem vG(T:Tp K mg cl)(h:Def K mg "_law_all_sets" eZ):aZ P w K mg base cl 1 "_law_all_sets" 2 t_:=by
 obtain⟨f,fd,F,hm⟩:=h;exact⟨f,fd,_,bK (k:=0) uh.2 jh.2 F cQ (fun dU A outer s H E hr=>(ao (aQ cQ.nd rfl (Or.inl rfl) (eJ (br (ab (bY aj) aj)))) (ao (aQ cQ.nd rfl (Or.inl rfl) (eJ (br (ab (bY aj) aj)))) (ao (cC PassesOwn.never rfl (bS (eu (aa 1) rfl T.z_range)) (aM cQ.nd rfl (Or.inl rfl)) (yR 2 (ao (aQ cQ.nd rfl (Or.inl rfl) (eJ (br aj))) (ao (cC PassesOwn.never rfl (bS (bB (aa 2))) (aM cQ.nd rfl (Or.inr rfl)) (ax (Ip rfl (Or.inl rfl) (ag (bE (di rfl (bZ.of (own:=["place"]) (kp:=[6]) (kn:=["some"]) (sc:=jh.1) (N:=fA) rfl rfl (by decide+kernel)) (bB (aa 0)) (fun _ _ _=>(bx (show List.Nodup [(Str.ofString "place"),"some"] from by decide+kernel) rfl (Or.inl rfl))) (fun _ _ _=>(i8 (rX (yX (bu (ku hr.units) (aa 1) (bY aj) (bw _)) (uQ (bu NU (aa 0) (aS (aa 1) (D_ ai) (fun _ _=>rfl)) (bw _))))))) (fun _ _ _=>(aR sQ (aa 1) (bY (ab (aa 0) aj)))))))))) (ao (aQ cQ.nd rfl (Or.inl rfl) (aG 5)) (ax (aQ cQ.nd rfl (Or.inl rfl) (MB (aG 3) (aG 2))))))))) (ax (bM (aG 3))))))),hm,F.kp,F.binds fun _ _ _ _ _ _ us hl=>match us,hl with | [_,_],_=>rfl⟩
abbrev ja:Stmt:=top 36
noncomputable abbrev n5:List Str:=["some","sets","one"]
noncomputable def zd:{b:List Stmt // aO ja=b}:=⟨_,by conv=>lhs;whnf⟩
noncomputable def mL:{b:Scope // az ja=b}:=⟨_,by conv=>lhs;whnf⟩
theorem tO:a_ n5 ["some","sets"] mL.1:=⟨rfl,rfl,rfl,by decide+kernel,rfl,by decide+kernel,by decide+kernel⟩
def lq:FS:=(Fz (b2 kF (eNew (dM (cq (ah 2)) (bh 0) (b2 Ah (ah 0) (ah 1)) (ah 0) ["place"] [0])) (eNew (dy aP))) (jH (eC (.bl false))) zg)
def tV:FS:=(k_ (yZ (cq (ah 1)) (bh 2) lq) (jH (eC (.bl true))))
def i7:List D->R D:=xY n5 tV
theorem Bn(T:Tp K mg cl)(h:Def K mg "_law_meets" ja):Callee P w K mg base 1 "_law_meets" 2 i7:=by
 obtain⟨f,fd,F,hm⟩:=h;exact⟨f,fd,_,du (k:=0) zd.2 mL.2 F tO (fun dU A outer s H E hr=>(cV (nR PassesOwn.never rfl (bB (aa 1)) (bx tO.nd rfl (Or.inl rfl)) (bL (mC (bu (ku hr.units) (bE (di rfl (bZ.of (own:=["place"]) (kp:=[0]) (kn:=["some"]) (sc:=mL.1) (N:=n5) rfl rfl (by decide+kernel)) (bB (aa 2)) (fun _ _ _=>(bx (show List.Nodup [(Str.ofString "place"),"some"] from by decide+kernel) rfl (Or.inl rfl))) (fun _ _ _=>(i8 (bu F9 (aa 0) (aa 1) (by with_unfolding_all rfl)))) (fun _ _ _=>(aa 0)))) (bE (br aj)) (bw _)) (bL (cw iu)) jW))) (bL (cw iu)))),hm,F.kp,F.binds fun _ _ _ _ _ _ us hl=>match us,hl with | [_,_],_=>rfl⟩
abbrev gG:Stmt:=top 37
noncomputable abbrev jE:List Str:=["sets","most","known","one","place","some"]
noncomputable def xf:{b:List Stmt // aO gG=b}:=⟨_,by conv=>lhs;whnf⟩
noncomputable def pR:{b:Scope // az gG=b}:=⟨_,by conv=>lhs;whnf⟩
theorem gH:a_ jE ["sets","most"] pR.1:=⟨rfl,rfl,rfl,by decide+kernel,rfl,by decide+kernel,by decide+kernel⟩
def n0:FZ:=(zM (bC 2) (xP (ah 4)) (xP (eC (.bl true))))
def n4:FZ:=(fS (iP (cq (ah 3))) (jz 4) n0)
def oa:FZ:=(qK (bP (vY (bp i7 (av (ah 5) (av (ah 0) aP))))) (dW (xP (ah 5))) gI)
def mz:FZ:=(aY (bR 2 Ak) (aY (fS (iP (cq (ah 0))) (jz 3) n4) (aY (fS (xi (bJ f6 (aq (y_ (bC 2)) (aq (xP (ah 1)) bH)))) (jz 5) oa) (dW (xP (eC .cH))))))
def wZ:List V3->aF->R3 V3:=nB jE mz
def iU:List V3->aF->R3 V3:=nC jE mz
theorem zi(T:Tp K mg cl)(h:Def K mg "_law_fewest" gG)(o5:Callee P w K mg base 1 "_law_meets" 2 i7)(jr:aZ P w K mg base cl 1 "_law_all_sets" 2 f6):aZ P w K mg base cl 2 "_law_fewest" 2 wZ:=by
 obtain⟨f,fd,F,hm⟩:=h;exact⟨f,fd,_,bK (k:=1) xf.2 pR.2 F gH (fun dU A outer s H E hr=>(ao (aQ gH.nd rfl (Or.inl rfl) yJ) (ao (cC PassesOwn.never rfl (bS (bB (aa 0))) (aM gH.nd rfl (Or.inl rfl)) (ax (cC PassesOwn.never rfl (bS (bB (aa 3))) (aM gH.nd rfl (Or.inl rfl)) (ax (yY (AK hr) (ag iu) (aG 2) (ag (aa 4))))))) (ao (cC PassesOwn.never rfl (mQ (aW jr hr (by decide) rfl (ae (AX rfl (aG 2) rfl T.z_sorted) (ae (ag (aa 1)) ay)) (af (af aA)))) (aM gH.nd rfl (Or.inl rfl)) (ax (ft (dg (rP (cz o5 hr (by decide) rfl (ab (aa 5) (ab (aa 0) aj)) (bo (bo de))))) (ax (bM (ag (aa 5)))) cF))) (ax (bM (ag rE))))))),hm,F.kp,F.binds fun _ _ _ _ _ _ us hl=>match us,hl with | [_,_],_=>rfl⟩
abbrev j4:Stmt:=top 38
noncomputable abbrev iF:List Str:=["pot","net","many","level","sets","heard","verdict","held","place","others"]
noncomputable def A_:{b:List Stmt // aO j4=b}:=⟨_,by conv=>lhs;whnf⟩
noncomputable def kT:{b:Scope // az j4=b}:=⟨_,by conv=>lhs;whnf⟩
theorem c0:a_ iF ["pot"] kT.1:=⟨rfl,rfl,rfl,by decide+kernel,rfl,by decide+kernel,by decide+kernel⟩
def mX:FZ:=(aY (bR 9 (xP (bp oK (av (eNew (dM (cq (ah 5)) (bh 0) (b2 uk (ah 0) (ah 1)) (ah 0) ["one"] [8])) aP)))) (qK (RK (bP (vY (e2 cR (e2 cR (e2 cR (ah 1) (eC (.int 1))) (ah 8)) (eC (.int 2))))) (Ib uk (Ly (bJ lZ (aq (xP (bp gm (av (ah 1) (av (ah 9) aP)))) (aq (xP (ah 2)) (aq (xP (ah 3)) bH)))) (xP (eC (.int 0)))) (xP (eC (.str "breaks"))))) (dW (xP (eC (.bl false)))) gI))
def qp:FZ:=(aY (bR 1 (bJ f9 (aq (bC 0) (aq (xP (eC (.int 5))) (aq (xP (eC (.int 10))) (aq (xP (eC (.int 3))) bH)))))) (aY (bR 2 (bJ aN (aq (bC 0) (aq (xP (e2 gu (eC (.int 3)) (bp DB (av (e2 SE (bp iE (av (e2 cR (ah 1) (eC (.int 1))) aP)) (eC (.int 9))) aP)))) bH)))) (aY (qK (Ib kF (bJ aN (aq (bC 0) (aq (xP (eC (.int 3))) bH))) (xP (eC (.int 0)))) (aY (bR 1 (bJ iW (aq (bC 0) bH))) (bR 2 (xP (eC (.int 2))))) gI) (aY (bR 3 (Ly (xP (eNew (dy (av (eC (.str "right")) (av (eC (.str "safe")) aP))))) (bJ aN (aq (bC 0) (aq (xP (eC (.int 2))) bH))))) (aY (bR 4 (bJ fD (aq (xP (ah 1)) (aq (xP (ah 2)) (aq (xP (ah 3)) bH))))) (aY (bR 5 (bJ me (aq (xP (ah 1)) (aq (xP (ah 2)) (aq (xP (ah 3)) bH))))) (aY (bR 6 (bJ lZ (aq (xP (ah 1)) (aq (xP (ah 2)) (aq (xP (ah 3)) bH))))) (aY (qK (bP (wM (b2 kF (ah 4) (eNew (dy aP))) (Jz (b2 uk (ah 6) (eT (av (eC (.str "bears")) aP))) (b2 uk (ah 5) (eT aP))))) (dW (xP (eC (.bl false)))) gI) (aY (qK (bP (wM (b2 uk (ah 4) (eNew (dy aP))) (Jz (b2 uk (e2 cR (ah 6) (eC (.int 0))) (eC (.str "breaks"))) (b2 uk (e2 cR (ah 6) (eC (.int 1))) (e2 cR (ah 4) (eC (.int 0))))))) (dW (xP (eC (.bl false)))) gI) (aY (qK (Ib uk (xP (ah 5)) (bJ iU (aq (xP (ah 4)) (aq (xP (bp iE (av (ah 5) aP))) bH)))) (dW (xP (eC (.bl false)))) gI) (aY (bR 7 (xP (bp gm (av (ah 1) (av (ah 5) aP))))) (aY (qK (RK (Ib uk (bJ lZ (aq (xP (ah 7)) (aq (xP (ah 2)) (aq (xP (ah 3)) bH)))) (xP (eT (av (eC (.str "bears")) aP)))) (Ib uk (bJ fD (aq (xP (ah 7)) (aq (xP (ah 2)) (aq (xP (ah 3)) bH)))) (xP (eNew (dy aP))))) (dW (xP (eC (.bl false)))) gI) (aY (qK (Ib uk (bJ me (aq (xP (ah 7)) (aq (xP (ah 2)) (aq (xP (ah 3)) bH)))) (xP (eT aP))) (dW (xP (eC (.bl false)))) gI) (aY (fS (iP (cq (ah 5))) (jz 8) mX) (dW (xP (e2 kF (eNew (dM (cq (ah 5)) (bh 0) (b2 kF (eNew (dM (cq (ah 1)) (bh 0) (b2 Ah (ah 1) (ah 0)) (ah 0) ["some"] [0])) (eNew (dy aP))) (ah 0) ["place"] [4])) (eNew (dy aP)))))))))))))))))))
def AL:List V3->aF->R3 V3:=nB iF qp
def nX:List V3->aF->R3 V3:=nC iF qp
theorem CD(T:Tp K mg cl)(h:Def K mg "_law_case" j4)(k5:Callee P w K mg base 1 "made_sure" 2 gm)(jq:aZ P w K mg base cl 3 "_law_some_net" 4 f9)(aL:aZ P w K mg base cl 1 "_law_next" 2 aN)(lC:aZ P w K mg base cl 2 "_law_chains" 1 iW)(fI:aZ P w K mg base cl 8 "breaking" 3 fD)(pA:aZ P w K mg base cl 16 "surest" 3 me)(oW:aZ P w K mg base cl 8 "bears" 3 lZ)(lB:aZ P w K mg base cl 2 "_law_fewest" 2 iU):aZ P w K mg base cl 17 "_law_case" 1 AL:=by
 obtain⟨f,fd,F,hm⟩:=h;exact⟨f,fd,_,bK (k:=16) A_.2 kT.2 F c0 (fun dU A outer s H E hr=>(ao (aQ c0.nd rfl (Or.inl rfl) (aW jq hr (by decide) rfl (ae (aG 0) (ae (ag ai) (ae (ag ai) (ae (ag ai) ay)))) (af (af (af (af aA)))))) (ao (aQ c0.nd rfl (Or.inl rfl) (aW aL hr (by decide) rfl (ae (aG 0) (ae (ag (aR gT ai (fF Oj rfl T.z_int PyProof.Rows.boot_int (ab (uv So (bz gp rfl T.z_len PySem.boot_len (ab (aS (aa 1) ai (fun _ _=>rfl)) aj)) ai (bw _)) aj)))) ay)) (af (af aA)))) (ao (ft (jG (ku hr.units) (aW aL hr (by decide) rfl (ae (aG 0) (ae (ag ai) ay)) (af (af aA))) (ag ai) (bw _)) (ao (aQ c0.nd rfl (Or.inl rfl) (aW lC hr (by decide) rfl (ae (aG 0) ay) (af aA))) (ax (aQ c0.nd rfl (Or.inl rfl) (ag ai)))) cF) (ao (aQ c0.nd rfl (Or.inl rfl) (xQ (ag (bE (br (ab bG (ab bG aj))))) (aW aL hr (by decide) rfl (ae (aG 0) (ae (ag ai) ay)) (af (af aA))) (fun _ _=>rfl))) (ao (aQ c0.nd rfl (Or.inr rfl) (aW fI hr (by decide) rfl (ae (ag (aa 1)) (ae (ag (aa 2)) (ae (ag (aa 3)) ay))) (af (af (af aA))))) (ao (aQ c0.nd rfl (Or.inl rfl) (aW pA hr (by decide) rfl (ae (ag (aa 1)) (ae (ag (aa 2)) (ae (ag (aa 3)) ay))) (af (af (af aA))))) (ao (aQ c0.nd rfl (Or.inl rfl) (aW oW hr (by decide) rfl (ae (ag (aa 1)) (ae (ag (aa 2)) (ae (ag (aa 3)) ay))) (af (af (af aA))))) (ao (ft (dg (rX (Bh (bu (ku hr.units) (aa 4) (bE (br aj)) (bw _)) (yq (rX (yX (bu (rJ hr.units) (aa 6) (bY (ab bG aj)) (bw _)) (uQ (bu (rJ hr.units) (aa 5) (bY aj) (bw _))))))))) (ax (bM (ag iu))) cF) (ao (ft (dg (rX (Bh (bu (rJ hr.units) (aa 4) (bE (br aj)) (bw _)) (yq (rX (yX (bu (rJ hr.units) (aS (aa 6) ai (fun _ _=>rfl)) bG (bw _)) (uQ (bu (rJ hr.units) (aS (aa 6) ai (fun _ _=>rfl)) (aS (aa 4) ai (fun _ _=>rfl)) (bw _))))))))) (ax (bM (ag iu))) cF) (ao (ft (jG (rJ hr.units) (ag (aa 5)) (aW lB hr (by decide) rfl (ae (ag (aa 4)) (ae (ag (bz gp rfl T.z_len PySem.boot_len (ab (aa 5) aj))) ay)) (af (af aA))) (bw _)) (ax (bM (ag iu))) cF) (ao (aQ c0.nd rfl (Or.inl rfl) (ag (cz k5 hr (by decide) rfl (ab (aa 1) (ab (aa 5) aj)) (bo (bo de))))) (ao (ft (IP.pb (IT (jG (rJ hr.units) (aW oW hr (by decide) rfl (ae (ag (aa 7)) (ae (ag (aa 2)) (ae (ag (aa 3)) ay))) (af (af (af aA)))) (ag (bY (ab bG aj))) (bw _)) (D5 (jG (rJ hr.units) (aW fI hr (by decide) rfl (ae (ag (aa 7)) (ae (ag (aa 2)) (ae (ag (aa 3)) ay))) (af (af (af aA)))) (ag (bE (br aj))) (bw _))))) (ax (bM (ag iu))) cF) (ao (ft (jG (rJ hr.units) (aW pA hr (by decide) rfl (ae (ag (aa 7)) (ae (ag (aa 2)) (ae (ag (aa 3)) ay))) (af (af (af aA)))) (ag (bY aj)) (bw _)) (ax (bM (ag iu))) cF) (ao (cC PassesOwn.never rfl (bS (bB (aa 5))) (aM c0.nd rfl (Or.inr rfl)) (ao (aQ c0.nd rfl (Or.inl rfl) (ag (fF qZ rfl T.z_tuple PyProof.Rows.boot_tuple (ab (bE (di rfl (bZ.of (own:=["one"]) (kp:=[8]) (kn:=["place"]) (sc:=kT.1) (N:=iF) rfl rfl (by decide+kernel)) (bB (aa 5)) (fun _ _ _=>(bx (show List.Nodup [(Str.ofString "one"),"place"] from by decide+kernel) rfl (Or.inl rfl))) (fun _ _ _=>(i8 (bu (rJ hr.units) (aa 0) (aa 1) (bw _)))) (fun _ _ _=>(aa 0)))) aj)))) (ax (ft (IP.pb (IT (dg (rP (aS (aS (aS (aa 1) ai (fun _ _=>rfl)) (aa 8) (fun _ _=>rfl)) ai (fun _ _=>rfl)))) (D5 (jG (rJ hr.units) (xQ (aW oW hr (by decide) rfl (ae (ag (cz k5 hr (by decide) rfl (ab (aa 1) (ab (aa 9) aj)) (bo (bo de)))) (ae (ag (aa 2)) (ae (ag (aa 3)) ay))) (af (af (af aA)))) (ag ai) (fun _ _=>rfl)) (ag bG) (bw _))))) (ax (bM (ag iu))) cF)))) (ax (bM (ag (uv (ku hr.units) (bE (di rfl (bZ.of (own:=["place"]) (kp:=[4]) (kn:=["sets"]) (sc:=kT.1) (N:=iF) rfl rfl (by decide+kernel)) (bB (aa 5)) (fun _ _ _=>(bx (show List.Nodup [(Str.ofString "place"),"sets"] from by decide+kernel) rfl (Or.inr rfl))) (fun _ _ _=>(i8 (bu (ku hr.units) (bE (di rfl (bZ.of (own:=["some"]) (kp:=[0]) (kn:=["place"]) rfl rfl rfl) (bB (aa 1)) (fun _ _ _=>(bx (show List.Nodup [(Str.ofString "some"),"place"] from by decide+kernel) rfl (Or.inl rfl))) (fun _ _ _=>(i8 (bu F9 (aa 1) (aa 0) (by with_unfolding_all rfl)))) (fun _ _ _=>(aa 0)))) (bE (br aj)) (bw _)))) (fun _ _ _=>(aa 0)))) (bE (br aj)) (bw _)))))))))))))))))))),hm,F.kp,F.binds fun _ _ _ _ _ _ us hl=>match us,hl with | [_],_=>rfl⟩
abbrev Ey:Stmt:=top 39
noncomputable abbrev vy:List Str:=["script","pot"]
noncomputable def OD:{b:List Stmt // aO Ey=b}:=⟨_,by conv=>lhs;whnf⟩
noncomputable def HP:{b:Scope // az Ey=b}:=⟨_,by conv=>lhs;whnf⟩
theorem Ma:a_ vy ["script"] HP.1:=⟨rfl,rfl,rfl,by decide+kernel,rfl,by decide+kernel,by decide+kernel⟩
def DW:FZ:=(qK (Lw (Iu (bJ nX (aq (bC 1) bH)))) (dW (xP (eC (.bl false)))) gI)
def xW:FZ:=(aY (fS (xi (bJ kQ (aq (xP (NH (ah 0) vx (rM (eC (.int 2))))) bH))) (jz 1) DW) (dW (xP (eC (.bl true)))))
def Tg:List V3->aF->R3 V3:=nB vy xW
def TY:List V3->aF->R3 V3:=nC vy xW
def DU:List D->R D:=RG vy xW
structure Cf (K:W.Frag) (mg:ZE) (cl:ZF):Prop where
 C_Bench:zD K (cl 0)
 N_Bench_net:dw K (cl 0) "net"
 N_Bench_many_inputs:dw K (cl 0) "many_inputs"
 N_Bench_full:dw K (cl 0) "full"
 N_Bench_in_masks:dw K (cl 0) "in_masks"
 M_Bench:mg "Bench"=some (.ref (cl 0))
 C_Trial:zD K (cl 1)
 N_Trial_bench:dw K (cl 1) "bench"
 N_Trial_plain:dw K (cl 1) "plain"
 N_Trial_unsure:dw K (cl 1) "unsure"
 M_Trial:mg "Trial"=some (.ref (cl 1))
 eh:EM K (cl 0) "__init__" "Bench.__init__" cj
 fZ:ud K (cl 0) "tells" "Bench.tells" cO
 eg:ud K (cl 0) "readings" "Bench.readings" ck
 ef:EM K (cl 1) "__init__" "Trial.__init__" cg
 dP:ud K (cl 1) "breaks_at" "Trial.breaks_at" bV
 dO:ud K (cl 0) "inputs_in" "Bench.inputs_in" bU
theorem Qk{K:W.Frag}{h:Heap}{mg:ZE}(X:K.In h)(G:h.Ns mainGlobals mg){C0:Addr}{C1:Addr}{f0:Addr}{XF XG:Option Addr}{Yy:Array (Option Value)}{Yp Xq Yn Yh V_ XB:Value}{f1:Addr}{YI Xw:Option Addr}{YT:Array (Option Value)}{YF Yr XQ Yo VS Yx:Value}{f2:Addr}{Xo YQ:Option Addr}{Pe:Array (Option Value)}{YM Xn Yd XT VZ YB:Value}{f3:Addr}{Yc XH:Option Addr}{Yv:Array (Option Value)}{XE YJ Xv Yj V6 X5:Value}{f4:Addr}{X0 Yg:Option Addr}{YN:Array (Option Value)}{YH Yl Xx XM V8 Yk:Value}{f5:Addr}{Xz XN:Option Addr}{YG:Array (Option Value)}{XU XZ YU Ym V0 YV:Value}(Uq:PySem.W.nsIn K mainGlobals "Bench"=some (some (.ref C0)))(Ue:PySem.W.plainGet K C0 Str.empty=true)(OI:PySem.W.hasDictIn K C0=true)(U0:PySem.W.plainOver K C0=true)(Ub:PySem.W.findIn K (.ref C0) "__setattr__"=some (some (.builtin "object.__setattr__")))(Uw:PySem.W.makesIn K C0=true)(T8:PySem.W.keepIn K (.ref C0)=true)(Dk:PySem.W.findIn K (.ref C0) "net"=some none)(kz:PySem.W.findIn K (.ref C0) "many_inputs"=some none)(zB:PySem.W.findIn K (.ref C0) "full"=some none)(oU:PySem.W.findIn K (.ref C0) "in_masks"=some none)(UQ:PySem.W.nsIn K mainGlobals "Trial"=some (some (.ref C1)))(Ur:PySem.W.plainGet K C1 Str.empty=true)(Uc:PySem.W.hasDictIn K C1=true)(UD:PySem.W.plainOver K C1=true)(UI:PySem.W.findIn K (.ref C1) "__setattr__"=some (some (.builtin "object.__setattr__")))(T9:PySem.W.makesIn K C1=true)(UM:PySem.W.keepIn K (.ref C1)=true)(wA:PySem.W.findIn K (.ref C1) "bench"=some none)(wy:PySem.W.findIn K (.ref C1) "plain"=some none)(s_:PySem.W.findIn K (.ref C1) "unsure"=some none)(iI:PySem.W.findIn K (.ref C0) "__init__"=some (some (.ref f0)))(iM:PySem.W.isFn K (.ref f0)=true)(iS:K.lookup f0=some ⟨Yp,XF, .func (PySem.W.fnOf "__init__" "Bench.__init__" (gM cj) (aO cj) (az cj) .none Xq Yn Yh XG V_ XB),Yy⟩)(dZ:PySem.W.codeIn K V_ "Bench.__init__"=true)(iH:PySem.W.keepIn K (.ref f0)=true)(lI:PySem.W.findIn K (.ref C0) "tells"=some (some (.ref f1)))(lH:PySem.W.isFn K (.ref f1)=true)(lE:K.lookup f1=some ⟨YF,YI, .func (PySem.W.fnOf "tells" "Bench.tells" (gM cO) (aO cO) (az cO) .none Yr XQ Yo Xw VS Yx),YT⟩)(fY:PySem.W.codeIn K VS "Bench.tells"=true)(i3:PySem.W.keepIn K (.ref f1)=true)(iL:PySem.W.findIn K (.ref C0) "readings"=some (some (.ref f2)))(iJ:PySem.W.isFn K (.ref f2)=true)(iO:K.lookup f2=some ⟨YM,Xo, .func (PySem.W.fnOf "readings" "Bench.readings" (gM ck) (aO ck) (az ck) .none Xn Yd XT YQ VZ YB),Pe⟩)(ee:PySem.W.codeIn K VZ "Bench.readings"=true)(fN:PySem.W.keepIn K (.ref f2)=true)(iT:PySem.W.findIn K (.ref C1) "__init__"=some (some (.ref f3)))(iQ:PySem.W.isFn K (.ref f3)=true)(iG:K.lookup f3=some ⟨XE,Yc, .func (PySem.W.fnOf "__init__" "Trial.__init__" (gM cg) (aO cg) (az cg) .none YJ Xv Yj XH V6 X5),Yv⟩)(d9:PySem.W.codeIn K V6 "Trial.__init__"=true)(iR:PySem.W.keepIn K (.ref f3)=true)(g7:PySem.W.findIn K (.ref C1) "breaks_at"=some (some (.ref f4)))(g6:PySem.W.isFn K (.ref f4)=true)(gY:K.lookup f4=some ⟨YH,X0, .func (PySem.W.fnOf "breaks_at" "Trial.breaks_at" (gM bV) (aO bV) (az bV) .none Yl Xx XM Yg V8 Yk),YN⟩)(dH:PySem.W.codeIn K V8 "Trial.breaks_at"=true)(eQ:PySem.W.keepIn K (.ref f4)=true)(g_:PySem.W.findIn K (.ref C0) "inputs_in"=some (some (.ref f5)))(gZ:PySem.W.isFn K (.ref f5)=true)(g9:K.lookup f5=some ⟨XU,Xz, .func (PySem.W.fnOf "inputs_in" "Bench.inputs_in" (gM bU) (aO bU) (az bU) .none XZ YU Ym XN V0 YV),YG⟩)(dG:PySem.W.codeIn K V0 "Bench.inputs_in"=true)(eR:PySem.W.keepIn K (.ref f5)=true):∃cl,Cf K mg cl:=by
 exact⟨fun n=>if n=0 then C0 else C1,⟨Ue,OI,U0,Ub⟩,Dk,kz,zB,oU,PySem.W.mg_of X G Uq,⟨Ur,Uc,UD,UI⟩,wA,wy,s_,PySem.W.mg_of X G UQ,⟨_,_,qf (st:=cj) iS dZ iH,⟨Uw,iI,iM,T8⟩⟩,⟨_,_,qf (st:=cO) lE fY i3,⟨lI,lH,i3⟩⟩,⟨_,_,qf (st:=ck) iO ee fN,⟨iL,iJ,fN⟩⟩,⟨_,_,qf (st:=cg) iG d9 iR,⟨T9,iT,iQ,UM⟩⟩,⟨_,_,qf (st:=bV) gY dH eQ,⟨g7,g6,eQ⟩⟩,⟨_,_,qf (st:=bU) g9 dG eR,⟨g_,gZ,eR⟩⟩⟩
theorem NL{K:W.Frag}{mg:ZE}{f:Addr}{fd:FuncData}{cl:ZF}(T:Tp K mg cl)(tp:Def K mg "vote_of" mj)(oR:Def K mg "gate_mask" i4)(jt:Def K mg "in_wire_masks" eG)(qI:Def K mg "masks_at" jY)(m8:Def K mg "wire_masks" gQ)(oT:Def K mg "out_masks" i5)(tm:Def K mg "reading" mf)(wz:Def K mg "bit_at" oh)(m6:Def K mg "all_inputs" gJ)(tq:Def K mg "mask_of" ma)(tF:Def K mg "in_mask" lO)(sZ:Def K mg "choices" lY)(eh:EM K (cl 0) "__init__" "Bench.__init__" cj)(fZ:ud K (cl 0) "tells" "Bench.tells" cO)(eg:ud K (cl 0) "readings" "Bench.readings" ck)(ef:EM K (cl 1) "__init__" "Trial.__init__" cg)(dP:ud K (cl 1) "breaks_at" "Trial.breaks_at" bV)(dO:ud K (cl 0) "inputs_in" "Bench.inputs_in" bU)(zt:Def K mg "bears" qP)(sY:Def K mg "has_all" lP)(qA:Def K mg "breaking" j6)(lF:Def K mg "count_apart" fV)(wq:Def K mg "behind" oi)(lG:Def K mg "groups_left" fX)(kC:Def K mg "first_places" fg)(wD:Def K mg "surest" nJ)(oY:Def K mg "made_sure" i9)(qC:Def K mg "_law_next" kh)(qH:Def K mg "_law_pots" kr)(kA:Def K mg "_law_some_ins" fw)(qE:Def K mg "_law_gate" j0)(qF:Def K mg "_law_twin" jS)(kB:Def K mg "_law_some_net" fu)(mZ:Def K mg "_law_chains" gA)(kD:Def K mg "_law_all_sets" eZ)(oV:Def K mg "_law_meets" ja)(m5:Def K mg "_law_fewest" gG)(qB:Def K mg "_law_case" j4)(F:DP K "law" "law" Ey f fd):jl P w K mg base wI 18 f fd ["script"] (IE K 1 DU):=by
 have jO:=FU (P:=P) (w:=w) (base:=base) T tp;have oZ:=Br (P:=P) (w:=w) (base:=base) T oR jO;have fO:=uj (P:=P) (w:=w) (base:=base) T jt;have XP_in_wire_masks:=fO.p;have iK:=B0 (P:=P) (w:=w) (base:=base) T qI;have XK_wire_masks:=zq (P:=P) (w:=w) (base:=base) T m8 iK oZ fO;have lD:=XK_wire_masks.p;have XK_out_masks:=AA (P:=P) (w:=w) (base:=base) T oT iK;have m4:=XK_out_masks.p;have tf:=EZ (P:=P) (w:=w) (base:=base) T tm jO;have wG:=Im (P:=P) (w:=w) (base:=base) T wz;have XK_all_inputs:=zj (P:=P) (w:=w) (base:=base) T m6;have lJ:=XK_all_inputs.p;have jN:=E9 (P:=P) (w:=w) (base:=base) T tq;have tu:=Fs (P:=P) (w:=w) (base:=base) T tF jN;have jP:=xR (P:=P) (w:=w) (base:=base) T sZ 4;have gW:=dZ (P:=P) (w:=w) (base:=base) T eh jN tu lJ;have XK_Bench_tells:=fY (P:=P) (w:=w) (base:=base) T fZ lD m4;have ky:=XK_Bench_tells.p;have XK_Bench_readings:=ee (P:=P) (w:=w) (base:=base) T eg tf ky;have cY:=XK_Bench_readings.p;have cZ:=d9 (P:=P) (w:=w) (base:=base) T ef gW cY;have XK_Trial_breaks_at:=dH (P:=P) (w:=w) (base:=base) T dP cY;have cL:=XK_Trial_breaks_at.p;have XK_Bench_inputs_in:=dG (P:=P) (w:=w) (base:=base) T dO wG;have gh:=XK_Bench_inputs_in.p;have XK_bears:=Kf (P:=P) (w:=w) (base:=base) T zt jP cZ cL gh;have oW:=XK_bears.p;have tj:=Fp (P:=P) (w:=w) (base:=base) T sY;have XK_breaking:=Cy (P:=P) (w:=w) (base:=base) T qA jP tj cZ cL;have fI:=XK_breaking.p;have XK_count_apart:=w_ (P:=P) (w:=w) (base:=base) T lF;have g8:=XK_count_apart.p;have wF:=GO (P:=P) (w:=w) (base:=base) T wq;have i0:=wK (P:=P) (w:=w) (base:=base) T lG wF;have gb:=oF (P:=P) (w:=w) (base:=base) T kC i0 g8 12;have XK_surest:=GK (P:=P) (w:=w) (base:=base) T wD fI gb;have pA:=XK_surest.p;have k5:=Ae (P:=P) (w:=w) (base:=base) T oY;have XK_law_next:=C3 (P:=P) (w:=w) (base:=base) T qC;have aL:=XK_law_next.p;have XK_law_pots:=CL (P:=P) (w:=w) (base:=base) T qH;have XP_law_pots:=XK_law_pots.p;have XK_law_some_ins:=uR (P:=P) (w:=w) (base:=base) T kA aL;have js:=XK_law_some_ins.p;have XK_law_gate:=CV (P:=P) (w:=w) (base:=base) T qE aL;have oS:=XK_law_gate.p;have XK_law_twin:=Cn (P:=P) (w:=w) (base:=base) T qF aL;have fH:=XK_law_twin.p;have XK_law_some_net:=vc (P:=P) (w:=w) (base:=base) T kB js aL oS fH;have jq:=XK_law_some_net.p;have XK_law_chains:=y6 (P:=P) (w:=w) (base:=base) T mZ aL;have lC:=XK_law_chains.p;have XK_law_all_sets:=vG (P:=P) (w:=w) (base:=base) T kD;have jr:=XK_law_all_sets.p;have o5:=Bn (P:=P) (w:=w) (base:=base) T oV;have XK_law_fewest:=zi (P:=P) (w:=w) (base:=base) T m5 o5 jr;have lB:=XK_law_fewest.p;have XK_law_case:=CD (P:=P) (w:=w) (base:=base) T qB k5 jq aL lC fI pA oW lB;have XP_law_case:=XK_law_case.p;exact(bK (cl:=cl) (N:=vy) (F:=xW) (k:=17) OD.2 HP.2 F Ma (fun dU A outer s H E hr=>(ao (cC PassesOwn.never rfl (mQ (aW XK_law_pots hr (by decide) rfl (ae (ag (CT (aa 0) q_ (rG ai))) ay) (af aA))) (aM Ma.nd rfl (Or.inl rfl)) (ax (ft (DH (AV (aW XP_law_case hr (by decide) rfl (ae (aG 1) ay) (af aA)))) (ax (bM (ag iu))) cF))) (ax (bM (ag iu)))))).imp fun _ _ _ _ h=>MH h
end K25
end
section
namespace K25
open PySem PySem.Spec PyProof.Rows L2 L3
theorem Ex{S:aF}{k:Nat}{o x:SO}(h:S[k]? =some x):(S.set k o)[k]? =some o:=by
 obtain⟨h1,_⟩:=List.getElem?_eq_some_iff.mp h;rw[List.getElem?_set_self h1]
def yD(k:Nat)(S:aF):Prop:=Flat S/\∃a c,S[k]? =some (.lst [.int a, .int c])
structure Ev (k:Nat) (S S1:aF):Prop where
 p:yD k S1
 len:S1.length=S.length
 oth:∀j,j≠k->S1[j]? =S[j]?
theorem Ev.trans{k:Nat}{S S1 S2:aF}(a:Ev k S S1)(b:Ev k S1 S2):Ev k S S2:=⟨b.p,b.len.trans a.len,fun j h=>(b.oth j h).trans (a.oth j h)⟩
theorem yD.lt{k:Nat}{S:aF}(p:yD k S):k < S.length:=by
 obtain⟨_,a,c,e⟩:=p;exact(List.getElem?_eq_some_iff.mp e).1
theorem mr(ds:List D):∀n,pE n (.lst ds)=true:=fun _=>rfl
theorem L0:∀n,pE n .hV=true:=fun _=>rfl
theorem Dw{S:aF}{k:Nat}{m:Int}(p:yD k S)(hm:0 < m)(Q_:m < 1000000){Q:V3->aF->Prop}
 (h:∀(r:Int) S1,0<=r->r < m->yD k S1->S1.length=S.length->(∀j,j≠k->S1[j]? =S[j]?)->Q (.d (.int r)) S1):W3 (aN [.loc k, .d (.int m)] S) Q:=by
 obtain⟨hL,a,c,e⟩:=p;unfold aN;refine tK (uB rfl ?_);simp only[cm,mN,List.map,List.length,List.replicate,List.cons_append,List.nil_append,Nat.reduceAdd,Nat.reduceSub];unfold qr;refine aK (G4 (BE (d:= .int (c+1)) ?_ rfl ?_))
 .simp (implicitDefEqProofs:=false) (disch:=first | omega | decide) only[ah,eC,e2,b2,gu,zZ,EN,qt,R.aT,List.map_cons,List.getElem?_cons_zero,List.getElem?_cons_succ,down,df,res,cN,decide_eq_true_eq,Int.reduceToNat,e,cR,sU]
  rfl
 refine w_var (v:= .loc k) rfl (bN (d:= .int 1) rfl ⟨_,k,1,[.int a, .int c],1,rfl,rfl,rfl,e,rfl,_,rfl,?_⟩);simp only[List.set];have e1:(S.set k (.lst [.int a, .int (c+1)]))[k]? =some (.lst [.int a, .int (c+1)]):=Ex e;have Rn:Flat (S.set k (.lst [.int a, .int (c+1)])):=hL.set _ (mr _);have yw:(S.set k (.lst [.int a, .int (c+1)])).length=S.length:=List.length_set;have ho:∀j,j≠k->(S.set k (.lst [.int a, .int (c+1)]))[j]? =S[j]?:=fun j hj=>List.getElem?_set_ne (Ne.symm hj)
 generalize S.set k (.lst [.int a, .int (c+1)])=S1 at e1 Rn yw ho;refine aK (bq (by simp) (BE (d:= .int a) ?_ rfl ⟨_,rfl,?_⟩))
 .simp (implicitDefEqProofs:=false) (disch:=first | omega | decide) only[ah,eC,e2,b2,gu,zZ,EN,qt,R.aT,List.map_cons,List.getElem?_cons_zero,List.getElem?_cons_succ,down,df,res,cN,decide_eq_true_eq,Int.reduceToNat,e1,cR,sU]
  rfl
 simp only[List.set];have fin:∀(r:Int) S2,0<=r->r < m->yD k S2->S2.length=S1.length->(∀j,j≠k->S2[j]? =S1[j]?)->Flat S2/\eN S.length (.d (.int r))=true/\∃d,res S2 (.d (.int r))=some d/\Q (.d d) (S2.take S.length):=fun r S2 h1 h2 p2 hl hj=>by
  refine⟨p2.1,by unfold eN;rfl, .int r,by unfold res;rfl,?_⟩
  rw[List.take_of_length_le (by omega)]
  exact h r S2 h1 h2 p2 (by omega) fun j R7=>(hj j R7).trans (ho j R7)
 by_cases hc:(1000000000000000000:Int)<=a
 .refine Gu (h_ (k7 (b:=true) ?_ ?_))
  .simp (implicitDefEqProofs:=false) (disch:=first | omega | decide) only[ah,eC,e2,b2,gu,zZ,EN,qt,R.aT,List.map_cons,List.getElem?_cons_zero,List.getElem?_cons_succ,down,df,res,cN,decide_eq_true_eq,Int.reduceToNat,hc]
   simp [hc]
  rw[if_pos rfl];refine aK (G4 (bN (d:= .int (a / m)) ?_ (w_var (v:= .loc k) rfl (bN (d:= .int 0) rfl ⟨_,k,0,_,0,rfl,rfl,rfl,e1,rfl,_,rfl,?_⟩))))
  .exact aH (a:= .int a) (b:= .int m) rfl rfl (K3 hm (by omega))
  refine dD (bN (d:= .int (a % m)) (aH (a:= .int a) (b:= .int m) rfl rfl (C8 hm)) ⟨_,rfl,_,rfl,?_⟩);exact fin _ _ (Int.emod_nonneg _ (by omega)) (Int.emod_lt_of_pos _ hm) ⟨Rn.set _ (mr _),_,_,Ex e1⟩ List.length_set fun j hj=>List.getElem?_set_ne (Ne.symm hj)
 .refine aK (h_ (k7 (b:=false) ?_ ?_))
  .simp (implicitDefEqProofs:=false) (disch:=first | omega | decide) only[ah,eC,e2,b2,gu,zZ,EN,qt,R.aT,List.map_cons,List.getElem?_cons_zero,List.getElem?_cons_succ,down,df,res,cN,decide_eq_true_eq,Int.reduceToNat,hc]
   simp [hc]
  rw[if_neg (by decide)]
  refine dk ⟨_,rfl,?_⟩;refine aK (bq (by simp) (BE (d:= .int ((a*69621+(c+1)*7919+13) % 2147483647)) ?_ rfl ⟨_,rfl,?_⟩))
  .have hi:cR (.lst [.int a, .int (c+1)]) (.int 1)= .ok (.int (c+1)):=rfl;simp (implicitDefEqProofs:=false) (disch:=first | omega | decide) only[ah,eC,e2,b2,gu,zZ,EN,qt,R.aT,List.map_cons,List.getElem?_cons_zero,List.getElem?_cons_succ,down,df,res,cN,decide_eq_true_eq,Int.reduceToNat,e1,hi]
  simp only[List.set];have Rt:0<=(a*69621+(c+1)*7919+13) % 2147483647:=Int.emod_nonneg _ (by omega)
  have Mq:(a*69621+(c+1)*7919+13) % 2147483647 < 2147483647:=Int.emod_lt_of_pos _ (by omega)
  generalize (a*69621+(c+1)*7919+13) % 2147483647=x at Rt Mq;refine aK (bq (by simp) (bN (d:= .int (x*x % 2147483629)) ?_ ⟨_,rfl,?_⟩))
  .simp (implicitDefEqProofs:=false) (disch:=first | omega | decide) only[ah,eC,e2,b2,gu,zZ,EN,qt,R.aT,List.map_cons,List.getElem?_cons_zero,List.getElem?_cons_succ,down,df,res,cN,decide_eq_true_eq,Int.reduceToNat]
  simp only[List.set];generalize x*x % 2147483629=y;refine dD (BE (d:= .int ((y*48271+(c+1)*40692) % 2147483587 / 8 % m)) ?_ rfl ⟨_,rfl,?_⟩)
  .have hi:cR (.lst [.int a, .int (c+1)]) (.int 1)= .ok (.int (c+1)):=rfl;simp (implicitDefEqProofs:=false) (disch:=first | omega | decide) only[ah,eC,e2,b2,gu,zZ,EN,qt,R.aT,List.map_cons,List.getElem?_cons_zero,List.getElem?_cons_succ,down,df,res,cN,decide_eq_true_eq,Int.reduceToNat,e1,hi]
  exact fin _ _ (Int.emod_nonneg _ (by omega)) (Int.emod_lt_of_pos _ hm) ⟨Rn,_,_,e1⟩ rfl fun j hj=>rfl
section
variable {S:aF} {δ:DE} {k i:Nat}
theorem draw{Q:V3->aF->Prop}{f:FD}{m:Int}(hv:δ[i]? =some (some (.loc k)))(p:yD k S)(hf:f (down δ)= .ok (.int m))(hm:0 < m)(Q_:m < 1000000)
 (h:∀(r:Int) S1,0<=r->r < m->Ev k S S1->Q (.d (.int r)) S1):W3 (bJ aN (aq (bC i) (aq (xP f) bH)) δ S) Q:=
 cv (au (w_var hv (au (bN hf (bF (Dw p hm Q_ fun r S1 h1 h2 p1 hl ho=>h r S1 h1 h2 ⟨p1,hl,ho⟩))))))
end
end K25
end
section
namespace K25
open PySem PySem.Spec PyProof.Rows L2 L3 MT
theorem FN{a:D}{r:List D}:cR (.tup (a ::r)) (.int 0)= .ok a:=vR (by rw[nP (by omega) (by simp)];rfl)
theorem GD{a b:D}{r:List D}:cR (.tup (a ::b ::r)) (.int 1)= .ok b:=vR (by rw[nP (by omega) (by simp)];rfl)
theorem Vm{a b c:D}{r:List D}:cR (.tup (a ::b ::c ::r)) (.int 2)= .ok c:=vR (by rw[nP (by omega) (by simp)];rfl)
theorem DI{N:Nat}{a b c:M}:iz [.tup [mI N a,mI N b,mI N c]]= .ok (mI N fun p=>(a p && b p) || (a p && c p) || (b p && c p)):=by
 unfold iz xB;refine d3 (cM ?_);exact aH (aH (aH (aH rfl rfl FN) (aH rfl rfl GD) (u9 N a b)) (aH (aH rfl rfl FN) (aH rfl rfl Vm) (u9 N a c)) (A5 N _ _)) (aH (aH rfl rfl GD) (aH rfl rfl Vm) (u9 N b c)) (A5 N _ _)
theorem Pu(k j:Nat)(hk:k<=4)(hj:j<=4):kF (.str (kS k)) (.str (kS j))= .ok (.bl (decide (k=j))):=by
 show R.ok (D.bl (kS k==kS j))=_;congr 2
 revert hk hj
 have:∀a∈List.range 5,∀b∈List.range 5,(kS a==kS b)=decide (a=b):=by decide+kernel
 intro hk hj;exact this k (by rw[List.mem_range];omega) j (by rw[List.mem_range];omega)
theorem J1{N kd:Nat}{xs:List M}(hk:kd<=4)(hx:xs.length=ar kd):jb [.str (kS kd), .tup (xs.map (mI N)),mI N one]= .ok (mI N fun p=>gv kd (xs.map (· p))):=by
 unfold jb tQ;have q:∀j,j<=4->b2 kF (ah 0) (eC (.str (kS j))) (gL nY [.str (kS kd), .tup (xs.map (mI N)),mI N one])= .ok (decide (kd=j)):=fun j hj=>dA (a:= .str (kS kd)) (b:= .str (kS j)) rfl rfl (Pu kd j hk hj)
 have q0:=q 0 (by omega)
 have q1:=q 1 (by omega)
 have q2:=q 2 (by omega)
 have q3:=q 3 (by omega)
 match kd,hk,xs,hx with
 | 0,_,[a],_=>
   refine d3 (NT.mB (uT q0 (cM (aH (a:=mI N one) (b:=mI N a) rfl (aH rfl rfl FN) (Bl N a)))))
 | 1,_,[a,b],_=>
   refine d3 (cG (kP q0 rfl) (NT.mB (uT q1 (cM (aH (aH rfl rfl FN) (aH rfl rfl GD) (u9 N a b))))))
 | 2,_,[a,b],_=>
   refine d3 (cG (kP q0 rfl) (cG (kP q1 rfl) (NT.mB (uT q2 (cM (aH (aH rfl rfl FN) (aH rfl rfl GD) (A5 N a b)))))))
 | 3,_,[a,b],_=>
   refine d3 (cG (kP q0 rfl) (cG (kP q1 rfl) (cG (kP q2 rfl) (NT.mB (uT q3 (cM (aH (aH rfl rfl FN) (aH rfl rfl GD) (DK N a b))))))))
 | 4,_,[a,b,c],_=>
   refine d3 (cG (kP q0 rfl) (cG (kP q1 rfl) (cG (kP q2 rfl) (cG (kP q3 rfl) (cM (aX (ds:=[.tup [mI N a,mI N b,mI N c]]) rfl DI))))))
theorem Ml{N:Nat}{ws:List M}{ns:List Nat}(hn:∀n∈ns,n < ws.length)(hl:ns.length < 1000):gf [.lst (ws.map (mI N)), .tup (ns.map nI)]= .ok (.tup ((ns.map (nD ws)).map (mI N))):=by
 have hz:sizeLine=16777216:=sizeLine_eq;unfold gf vm;refine d3 (cM (aX (ds:=[.lst ((ns.map (nD ws)).map (mI N))]) (aV (dI (dh (ds:=ns.map nI) (nT rfl) (by rw[List.length_map];omega) ?_)) rfl) rfl))
 rw[List.map_map];exact NT.eA nI _ fun n OF=>⟨[.val (nI n), .val (.lst (ws.map (mI N)))],rfl,rfl,aH (a:= .lst (ws.map (mI N))) (b:=nI n) rfl rfl (N2 (hn n OF))⟩
def C4(N:Nat)(S:aF)(Jr nA Ux:D)(a5 a6 a7:Option V3):DE:=[some (.d Jr),some (.d nA),some (.d (mI N one)),some (.d Ux),some (.loc S.length),a5,a6,a7]
theorem HL{N:Nat}{S:aF}{Jr nA:D}{bad:List Int}{a5 a7:Option V3}{b:M}{ws:List M}(hl:ws.length < 10000) :
 W3 (gx (C4 N S Jr nA (.tup (bad.map .int)) a5 (some (.d (mI N b))) a7) (S++[.lst (ws.map (mI N))])) fun o S1=>o= .nx (C4 N S Jr nA (.tup (bad.map .int)) a5 (some (.d (mI N b))) a7)/\S1=S++[SO.lst ((ws++[fun p=>b p !=bad.contains (ws.length:Int)]).map (mI N))]:=by
 have hz:sizeLine=16777216:=sizeLine_eq;unfold gx;refine pU (k:=S.length) rfl ⟨_,bg _ _⟩ (BE (d:=mI N fun p=>b p !=bad.contains (ws.length:Int)) ?_ rfl ⟨_,_,rfl,bg _ _,by rw[List.length_map];omega,rfl,?_⟩)
 .have h4:(df (S++[.lst (ws.map (mI N))]) (C4 N S Jr nA (.tup (bad.map .int)) a5 (some (.d (mI N b))) a7))[4]? =some (.val (.lst (ws.map (mI N)))):=by
   unfold df C4;show some (match res (S++[.lst (ws.map (mI N))]) (.loc S.length) with | some d=>Sl.val d | none=> .un)=_
   unfold res;rw[bg]
  refine y7 (b:=bad.contains (ws.length:Int)) (dA (a:= .int ws.length) (b:= .tup (bad.map .int)) (aX (ds:=[.lst (ws.map (mI N))]) (aV (by unfold ah;rw [h4]) rfl) (by rw[vO,List.length_map])) rfl (y8 _ _)) ?_
  rw[<-HM];rfl
 .rw [cP,List.map_append];rfl
theorem Ax{N:Nat}{S:aF}{bD:D}{ins:ZA}{bits:List M}{bad:List Int}(hB:bD= .lst (bits.map (mI N))\/bD= .tup (bits.map (mI N)))(hb:bits.length=ins.length)(hi:ins.length < 100)(hw:∀x∈ins,x.2 < 100){Q:V3->aF->Prop}
 (h:Q (.loc S.length) (S++[.lst ((dQ ins bits bad ins.length).map (mI N))])) :
 W3 (d_ [.d (.lst (ins.map inD)), .d bD, .d (mI N one), .d (.tup (bad.map .int))] S) Q:=by
 have hz:sizeLine=16777216:=sizeLine_eq;unfold d_;refine uB rfl ?_;simp only[cm,f_,List.map,List.length,List.replicate,List.cons_append,List.nil_append,Nat.reduceAdd,Nat.reduceSub];unfold jj;refine aK (bq (by simp) (ic (ds:=[]) rfl ⟨_,rfl,?_⟩))
 simp only[List.set];refine aK (dJ (jC (ds:=cB (bits.map (mI N))) (by rcases hB with rfl | rfl <;> rfl) ?_))
 have big:∀i,i<=ins.length->(dQ ins bits bad i).length<=100*i:=by
  intro i hi'
  induction i with
  | zero=>simp [dQ]
  | succ i ih=>
    have ih:=ih (by omega)
    have h1:ins[i]? =some ins[i]:=List.getElem?_eq_getElem (by omega)
    have h2:bits[i]? =some bits[i]:=List.getElem?_eq_getElem (by omega)
    unfold dQ;rw[h1,h2];show(ju bad bits[i] ins[i].2 (dQ ins bits bad i)).length<=_;rw[il];have:=hw ins[i] (List.getElem_mem _);omega
 refine(bA (fun i δ S2=>(∃a b c,δ=C4 N S (.lst (ins.map inD)) bD (.tup (bad.map .int)) a b c)/\S2=S++[SO.lst ((dQ ins bits bad i).map (mI N))])
  ⟨⟨_,_,_,rfl⟩,rfl⟩ ?_).mono fun o S2 ⟨cK,fR,⟨a,b,c,hδ⟩,hS⟩=>⟨cK,fR,?_⟩
 .rintro i v δ S2 hv ⟨⟨a,b,c,rfl⟩,rfl⟩;obtain⟨d,hd,rfl⟩:=pz hv;rw[List.getElem?_map] at hd;have hib:i < bits.length:=by
   have:=(List.getElem?_eq_some_iff.mp hv).1;simpa [cB] using this
  have h1:ins[i]? =some ins[i]:=List.getElem?_eq_getElem (by omega)
  have h2:bits[i]? =some bits[i]:=List.getElem?_eq_getElem hib;rw[h2] at hd;cases hd;refine⟨C4 N S (.lst (ins.map inD)) bD (.tup (bad.map .int)) (some (.d (.int i))) (some (.d (mI N bits[i]))) c,rfl,?_⟩;unfold kR;have XJ:=hw ins[i] (List.getElem_mem _);refine dJ (jC (kW (n:=ins[i].2) ?_ (by omega)) ?_)
  .refine aH (a:=inD ins[i]) (b:= .int 1) (aH (a:= .lst (ins.map inD)) (b:= .int i) rfl rfl (sx ?_)) rfl rfl;rw[nP (by omega) (by rw[List.length_map,Int.toNat_natCast];omega)]
   simp
  refine(bA (fun j δ S3=>(∃c,δ=C4 N S (.lst (ins.map inD)) bD (.tup (bad.map .int)) (some (.d (.int i))) (some (.d (mI N bits[i]))) c)/\S3=S++[SO.lst ((ju bad bits[i] j (dQ ins bits bad i)).map (mI N))])
   ⟨⟨_,rfl⟩,rfl⟩ ?_).mono fun o S3 ⟨zH,e3,⟨c3,qD⟩,zI⟩=>⟨zH,e3,⟨_,_,c3,qD⟩,?_⟩
  .rintro j v δ S3 hv ⟨⟨c3,rfl⟩,rfl⟩;refine⟨_,rfl,?_⟩;have hj:j < ins[i].2:=by
    have:=(List.getElem?_eq_some_iff.mp hv).1
    rwa [List.length_map,eM,List.length_map,List.length_range] at this
   refine(HL ?_).mono fun o S4 ⟨e4,e5⟩=>⟨_,e4,⟨_,rfl⟩,e5⟩
   rw[il];have:=big i (by omega)
   omega
  .rw [zI,List.length_map,eM,List.length_map,List.length_range];show _=S++[SO.lst ((match ins[i]?,bits[i]? with | some x,some b=>ju bad b x.2 (dQ ins bits bad i) | _,_=>dQ ins bits bad i).map (mI N))]
   rw[h1,h2]
 have hlen:((cB (bits.map (mI N))).map V3.d).length=ins.length:=by simp [cB,hb]
 rw[hlen] at hS;subst hδ hS;exact dD (w_var rfl ⟨_,rfl,h⟩)
section
variable {N:Nat} {ins:ZA} {gs:List Gt} {os:ZC} {bits:List M} {turned bad:List Int}
def A4(N:Nat)(S:aF)(nt nA tD bD:D)(a6 a7 a8:Option V3):DE:=[some (.d nt),some (.d nA),some (.d (mI N one)),some (.d tD),some (.d bD),some (.loc S.length),a6,a7,a8]
theorem E4{S:aF}{nt nA bD:D}{a8:Option V3}{g:Gt}{i:Nat}{ws:List M}(hg:Ad ws.length g)(hl:ws.length < 20000) :
 W3 (j1 (A4 N S nt nA (.tup (turned.map .int)) bD (some (.d (.int i))) (some (.d (fP g))) a8) (S++[.lst (ws.map (mI N))])) fun o S1=>(∃c,o= .nx (A4 N S nt nA (.tup (turned.map .int)) bD (some (.d (.int i))) (some (.d (fP g))) c))/\S1=S++[SO.lst ((ws++[fun p=>gF g ws p !=turned.contains (i:Int)]).map (mI N))]:=by
 have hz:sizeLine=16777216:=sizeLine_eq;have ha:=G_ g.1;unfold j1;refine aK (bq (by unfold A4;simp only[List.length_cons,List.length_nil];omega) (BE (d:=mI N (gF g ws)) ?_ rfl ⟨_,rfl,?_⟩))
 .have h5:(df (S++[.lst (ws.map (mI N))]) (A4 N S nt nA (.tup (turned.map .int)) bD (some (.d (.int i))) (some (.d (fP g))) a8))[5]? =some (.val (.lst (ws.map (mI N)))):=by
   unfold df A4;show some (match res (S++[.lst (ws.map (mI N))]) (.loc S.length) with | some d=>Sl.val d | none=> .un)=_
   unfold res;rw[bg]
  refine(aX (ds:=[.str (kS g.1), .tup ((g.2.1.map (nD ws)).map (mI N)),mI N one]) (aV (aH (a:=fP g) (b:= .int 0) rfl rfl rfl) (aV ?_ (aV rfl rfl))) (J1 hg.1 (by rw[List.length_map];exact hg.2.1))).trans ?_
  .exact aX (ds:=[.lst (ws.map (mI N)), .tup (g.2.1.map nI)]) (aV (by unfold ah;rw [h5]) (aV (aH (a:=fP g) (b:= .int 1) rfl rfl rfl) rfl)) (Ml hg.2.2 (by rw[hg.2.1];omega))
  .have:(fun p=>gv g.1 ((g.2.1.map (nD ws)).map (· p)))=gF g ws:=by funext p;unfold gF;rw [List.map_map];rfl
   rw[this]
 .show W3 (qb 5 _ (A4 N S nt nA (.tup (turned.map .int)) bD (some (.d (.int i))) (some (.d (fP g))) (some (.d (mI N (gF g ws))))) _) _;refine pU (k:=S.length) rfl ⟨_,bg _ _⟩ (bN (d:=mI N fun p=>gF g ws p !=turned.contains (i:Int)) ?_ ⟨_,_,rfl,bg _ _,by rw[List.length_map];omega,⟨_,rfl⟩,?_⟩)
  .refine y7 (b:=turned.contains (i:Int)) (dA (a:= .int i) (b:= .tup (turned.map .int)) rfl rfl (y8 _ _)) ?_;rw[<-HM];rfl
  .rw [cP,List.map_append];rfl
theorem Iy{S:aF}{bD:D}(hB:bD= .lst (bits.map (mI N))\/bD= .tup (bits.map (mI N)))(NO:jv ins gs os)(hb:bits.length=ins.length)(hS:nv S){Q:V3->aF->Prop}(h:Q (.d (.lst ((HK ins gs bits turned bad).map (mI N)))) S) :
 W3 (iY [.d (bO ins gs os), .d bD, .d (mI N one), .d (.tup (turned.map .int)), .d (.tup (bad.map .int))] S) Q:=by
 have hz:sizeLine=16777216:=sizeLine_eq;unfold iY;refine kM hS (uB rfl ?_);simp only[cm,jA,List.map,List.length,List.replicate,List.cons_append,List.nil_append,Nat.reduceAdd,Nat.reduceSub];unfold mD;refine aK <| bq (by simp) <| cv <| au <| bN (d:= .lst (ins.map inD)) rfl <| au <| bN (d:=bD) rfl <| au <| bN (d:=mI N one) rfl <| au <| bN (d:= .tup (bad.map .int)) rfl <| bF <| Ax hB hb NO.hi NO.hw ⟨_,rfl,?_⟩
 simp only[List.set];have hwd:=C6 NO.hw;have hN:=NO.hi;have hG:=NO.hg;refine aK (dJ (jC (ds:=cB (gs.map fP)) rfl ?_));refine(bA (fun i δ S2=>(∃a b c,δ=A4 N S (bO ins gs os) bD (.tup (turned.map .int)) (.tup (bad.map .int)) a b c)/\S2=S++[SO.lst ((qJ gs turned (dQ ins bits bad ins.length) i).map (mI N))])
  ⟨⟨_,_,_,rfl⟩,rfl⟩ ?_).mono fun o S2 ⟨cK,fR,⟨a,b,c,hδ⟩,wx⟩=>⟨cK,fR,?_⟩
 .rintro i v δ S2 hv ⟨⟨a,b,c,rfl⟩,rfl⟩;obtain⟨d,hd,rfl⟩:=pz hv;rw[List.getElem?_map] at hd;cases q:gs[i]? with
  | none=>rw [q] at hd;cases hd
  | some g=>
    rw[q] at hd;cases hd;have hi:i < gs.length:=(List.getElem?_eq_some_iff.mp q).1;have hl:(qJ gs turned (dQ ins bits bad ins.length) i).length=jc ins+i:=by rw[rY _ (by omega),rO hb _ (Nat.le_refl _),List.take_length]
    refine⟨A4 N S (bO ins gs os) bD (.tup (turned.map .int)) (.tup (bad.map .int)) (some (.d (.int i))) (some (.d (fP g))) c,rfl,?_⟩;refine(E4 (by rw[hl];exact NO.g i g q) (by rw[hl];omega)).mono fun o S4 ⟨⟨c4,e4⟩,e5⟩=>⟨_,e4,⟨_,_,_,rfl⟩,?_⟩
    rw[e5];show _=S++[SO.lst ((match gs[i]? with | some g=>qJ gs turned (dQ ins bits bad ins.length) i++[fun p=>gF g (qJ gs turned (dQ ins bits bad ins.length) i) p !=turned.contains (i:Int)] | none=>qJ gs turned (dQ ins bits bad ins.length) i).map (mI N))]
    rw[q]
 have hlen:((cB (gs.map fP)).map V3.d).length=gs.length:=by simp [cB]
 rw[hlen] at wx;subst hδ wx;exact dD (w_var rfl ⟨_,rfl,by unfold eN;exact decide_eq_true (Nat.le_refl _),⟨_,rfl⟩,_,by unfold res;rw [bg];rfl,h⟩)
def p6(N:Nat)(os:ZC)(ws:List M):List D:=os.map fun x=> .tup ((tell ws x).map (mI N))
theorem Kq{S:aF}{ws:List M}(hO:os.length < 1000)(ho:∀x∈os,x.2.length < 1000/\∀w∈x.2,w < ws.length)(hS:nv S){Q:V3->aF->Prop}(h:Q (.d (.lst (p6 N os ws))) S) :
 W3 (jD [.d (bO ins gs os), .d (.lst (ws.map (mI N)))] S) Q:=by
 have hz:sizeLine=16777216:=sizeLine_eq;unfold jD;refine kM hS (uB rfl ?_);simp only[cm,i_,List.map,List.length,List.replicate,List.cons_append,List.nil_append,Nat.reduceAdd,Nat.reduceSub];unfold n_;refine dD (ic (ds:=p6 N os ws) ?_ ⟨_,rfl,by unfold eN;exact decide_eq_true (Nat.le_refl _),⟨_,rfl⟩,_,by unfold res;rw [bg],h⟩)
 refine dh (ds:=os.map wJ) (eE (aH (a:=bO ins gs os) (b:= .int 2) rfl rfl rfl)) (by rw[List.length_map];omega) ?_
 unfold p6;refine NT.eA wJ _ fun(x:Str × List Nat) hx=>⟨[.val (.str x.1), .val (.tup (x.2.map nI)), .val (.lst (ws.map (mI N)))],rfl,rfl,?_⟩
 exact aX (ds:=[.lst (ws.map (mI N)), .tup (x.2.map nI)]) rfl (Ml (ho x hx).2 (ho x hx).1)
end
end K25
end
section
namespace K25
open PySem PySem.Spec PyProof.Rows L2 L3 MT
def r0(xs:List M):M:=fun p=>(Tj (xs.map (· p))).1
def r1(xs:List M):M:=fun p=>(Tj (xs.map (· p))).2
theorem uW{n:Nat}{ds:List D}{δ:aw}{j:Int}(h:ah 0 δ= .ok (.tup ds))(hl:ds.length=n):b2 kF (bp iE (av (ah 0) aP)) (eC (.int j)) δ= .ok (decide ((n:Int)=j)):=by
 refine dA (a:= .int n) (b:= .int j) (aX (ds:=[.tup ds]) (aV h rfl) ?_) rfl ?_
 .show R.ok (D.int ds.length)=_;rw[hl]
 .show R.ok (D.bl ((n:Int)==j))=_;congr 2
theorem CZ{N:Nat}{xs:List M}(h:1<=xs.length/\xs.length<=3):lX [.tup (xs.map (mI N)),mI N one]= .ok (.tup [mI N (r0 xs),mI N (r1 xs)]):=by
 have hz:sizeLine=16777216:=sizeLine_eq;unfold lX x5
 match xs,h with
 | [a],_=>
   refine d3 (cG (kP (uW (n:=1) rfl rfl) rfl) (cG (uz (d:=mI N a) (y7 (uW (n:=1) rfl rfl) (aH (a:= .tup [mI N a]) (b:= .int 0) rfl rfl FN)) (by simp [gL,o9])) (cM ?_)))
   exact cX (aV (aH (a:=mI N one) (b:=mI N a) rfl rfl (Bl N a)) (aV rfl rfl)) (by simp;omega)
 | [a,b],_=>
   refine d3 (NT.mB (uT (uW (n:=2) rfl rfl) (cM ?_)));exact cX (aV (aH (a:=mI N one) (b:=mI N fun p=>a p || b p) rfl (aH (aH rfl rfl FN) (aH rfl rfl GD) (A5 N a b)) (Bl N _)) (aV (aH (aH rfl rfl FN) (aH rfl rfl GD) (u9 N a b)) rfl)) (by simp;omega)
 | [a,b,c],_=>
   refine d3 (cG (kP (uW (n:=3) rfl rfl) rfl) (cG (uz (d:=mI N fun p=>(a p && b p) || (a p && c p) || (b p && c p)) (y7 (uW (n:=3) rfl rfl) (aX (ds:=[.tup [mI N a,mI N b,mI N c]]) rfl DI)) (by simp [gL,o9])) (cM ?_)))
   exact cX (aV (aH (a:=mI N one) (b:=mI N fun p=>(a p && b p) || (a p && c p) || (b p && c p)) rfl rfl (Bl N _)) (aV rfl rfl)) (by simp;omega)
theorem M7{N n:Nat}{f:M}:oB [mI N f, .int n]= .ok (.int (if decide (n < N) && f n then 1 else 0)):=by
 unfold oB zK;refine d3 (cM ?_);have h:=P4 N f n;show(R.bind (R.bind (R.ok (mI N f)) fun d=>R.bind (R.ok (D.int n)) fun e=>GI d e) fun d=>R.bind (R.ok (D.int 1)) fun e=>Gk d e)=_
 exact h
theorem vk{bs:List Bool}(hl:bs.length < 100000):iB [.lst (bs.map bI)]= .ok (.int (JE bs)):=by
 unfold iB xG;refine d3 (cG (uz (d:= .int 0) rfl (by simp [gL,sM])) ?_)
 obtain⟨c_,e1,a2,By⟩:=px (t:=bh 2) (body:=n6) (ds:=(bs.map bI).reverse)
  (fun i δ=>∃a2,δ=[.val (.lst (bs.map bI)), .val (.int (JE (bs.drop (bs.length - i)))),a2]) (δ:=[.val (.lst (bs.map bI)), .val (.int 0), .un]) ⟨.un,by simp [JE]⟩ (by
    rintro i d δ hd ⟨a2,rfl⟩;have hi:i < bs.length:=by
     have:=(List.getElem?_eq_some_iff.mp hd).1
     rwa [List.length_reverse,List.length_map] at this
    rw[List.getElem?_reverse (by rw[List.length_map];exact hi),List.length_map,List.getElem?_map,List.getElem?_eq_getElem (by omega:bs.length - 1 - i < bs.length)] at hd
    cases hd;have hdr:bs.drop (bs.length - (i+1))=bs[bs.length - 1 - i] ::bs.drop (bs.length - i):=by
     rw[show bs.length - (i+1)=bs.length - 1 - i by omega,List.drop_eq_getElem_cons (by omega:bs.length - 1 - i < bs.length),show bs.length - 1 - i+1=bs.length - i by omega]
    refine⟨_,?_,⟨.val (bI bs[bs.length - 1 - i]),rfl⟩⟩;have hm:(JE (bs.drop (bs.length - (i+1))):Int)=(JE (bs.drop (bs.length - i)):Int)*2+(if bs[bs.length - 1 - i] then 1 else 0):=by
     rw[hdr];show(((if bs[bs.length - 1 - i] then 1 else 0)+2*JE (bs.drop (bs.length - i)):Nat):Int)=_
     cases bs[bs.length - 1 - i] <;> simp <;> omega
    rw[hm];generalize (JE (bs.drop (bs.length - i)):Int)=m;generalize bs[bs.length - 1 - i]=x;generalize D.lst (bs.map bI)=y;rw[show bh 2 (bI x) [.val y, .val (.int m),a2]= .ok [.val y, .val (.int m), .val (bI x)] from rfl,R.aT]
    unfold n6;exact uz (aH (a:= .int (m*2)) (b:=bI x) (aH (a:= .int m) (b:= .int 2) rfl rfl (cN _ (.inr ⟨by omega,by omega⟩))) rfl rfl) (by simp))
 refine cG (pq (ds:=(bs.map bI).reverse) rfl e1) ?_;rw[List.length_reverse,List.length_map,Nat.sub_self,List.drop_zero] at By;subst By;exact cM rfl
def dC:Nat->List (List Bool)
 | 0=>[[]]
 | c+1=>(dC c).flatMap fun b=>[b++[false],b++[true]]
theorem d7:∀c,(dC c).length=2 ^ c
 | 0=>rfl
 | c+1=>by
   unfold dC;rw[List.length_flatMap];have:(dC c).map (fun b=>[b++[false],b++[true]].length)=(dC c).map fun _=>2:=rfl
   rw[this,List.map_const',List.sum_replicate_nat,d7 c];omega
theorem sG:∀c,∀b∈dC c,b.length=c
 | 0,b,h=>by unfold dC at h;rw [List.mem_singleton.mp h];rfl
 | c+1,b,h=>by
   unfold dC at h;obtain⟨a,ha,hb⟩:=List.mem_flatMap.mp h;have:=sG c a ha;simp only[List.mem_cons,List.not_mem_nil,or_false] at hb;rcases hb with rfl | rfl <;> simp [this]
def ia(b:List Bool):D:= .tup (b.map bI)
def aE(c:Nat)(XX:Option V3)(a2 a3 a4:Option V3):DE:=[some (.d (nI c)),XX,a2,a3,a4]
theorem w9{c:Nat}{S:aF}(hc:c<=10)(hS:nv S){Q:V3->aF->Prop}(h:Q (.d (.lst ((dC c).map ia))) S):W3 (iV [.d (nI c)] S) Q:=by
 have hz:sizeLine=16777216:=sizeLine_eq;unfold iV;refine kM hS (uB rfl ?_);simp only[cm,jI,List.map,List.length,List.replicate,List.cons_append,List.nil_append,Nat.reduceAdd,Nat.reduceSub];unfold mF;refine aK <| bq (by simp) <| ic (ds:=(dC 0).map ia) rfl ⟨_,rfl,?_⟩
 simp only[List.set];refine aK <| dJ <| jC (kW (n:=c) rfl (by omega)) ?_
 refine(bA (fun i δ S2=>∃(T:aF) (a2 a3 a4:Option V3),S2=S++T++[.lst ((dC i).map ia)]/\δ=aE c (some (.loc (S++T).length)) a2 a3 a4)
  ⟨[],none,none,none,by simp,by simp [aE]⟩ ?_).mono fun o S2 ⟨cK,fR,T,a2,a3,a4,wx,hδ⟩=>⟨cK,fR,?_⟩
 .rintro i v δ S2 hv ⟨T,a2,a3,a4,rfl,rfl⟩;have hi:i < c:=by
   have:=(List.getElem?_eq_some_iff.mp hv).1
   rwa [List.length_map,eM,List.length_map,List.length_range] at this
  have hpow:(dC i).length<=1024:=by
   rw[d7];exact Nat.pow_le_pow_right (by omega) (by omega:i<=10)
  refine⟨aE c (some (.loc (S++T).length)) (some v) a3 a4,rfl,?_⟩;unfold og aE;refine GY (i:=1) rfl (bg _ _) ?_;rw[cP];simp only[List.set];refine aK <| bq (by simp) <| ic (ds:=[]) rfl ⟨_,rfl,?_⟩
  simp only[List.set];generalize hU:S++T++[SO.hV]=U;refine aK <| dJ <| jC (ds:=(dC i).map ia) rfl ?_
  refine(bA (fun j δ S3=>(∃b4,δ=[some (.d (nI c)),some (.d (.lst ((dC i).map ia))),some v,some (.loc U.length),b4])/\S3=U++[.lst ((((dC i).take j).flatMap fun b=>[b++[false],b++[true]]).map ia)])
   ⟨⟨_,rfl⟩,by simp⟩ ?_).mono fun o S3 ⟨zH,e3,⟨b4,qD⟩,zI⟩=>⟨zH,e3,?_⟩
  .rintro j v3 δ S3 hv3 ⟨⟨b4,rfl⟩,rfl⟩;obtain⟨b,hb,rfl⟩:=NT.fG hv3;have hj:=(List.getElem?_eq_some_iff.mp hb).1;have hbl:=sG i b (List.mem_of_getElem? hb);refine⟨[some (.d (nI c)),some (.d (.lst ((dC i).map ia))),some v,some (.loc U.length),some (.d (ia b))],rfl,?_⟩;unfold nO;generalize hL:((((dC i).take j).flatMap fun b=>[b++[false],b++[true]]).map ia)=L
   have hLl:L.length<=2048:=by
    rw[<-hL,List.length_map,List.length_flatMap];have:((dC i).take j).map (fun b=>[b++[false],b++[true]].length)=((dC i).take j).map fun _=>2:=rfl
    rw[this,List.map_const',List.sum_replicate_nat,List.length_take];omega
   have add:∀(x:Bool) (δ:aw),ah 4 δ= .ok (ia b)->e2 oI (ah 4) (eT (av (eC (bI x)) aP)) δ= .ok (ia (b++[x])):=fun x δ h4=>by
    refine aH (a:=ia b) (b:= .tup [bI x]) h4 (cX rfl (by simp;omega)) ?_
    show R.bW (decide ((b.map bI).length+[bI x].length<=sizeLine)) _=_;rw[cN _ (by rw[List.length_map];simp;omega)]
    unfold ia;rw[List.map_append];rfl
   refine aK <| pU (k:=U.length) rfl ⟨_,bg _ _⟩ <| bN (d:=ia (b++[false])) (add false _ rfl) ⟨_,_,rfl,bg _ _,by omega,_,rfl,?_⟩
   rw[cP];refine pU (k:=U.length) rfl ⟨_,bg _ _⟩ <| bN (d:=ia (b++[true])) (add true _ rfl) ⟨_,_,rfl,bg _ _,by rw[List.length_append];simp;omega,_,rfl,⟨_,rfl⟩,?_⟩
   rw[cP,List.take_add_one,hb,List.flatMap_append,List.map_append,hL];simp
  rw[List.length_map,List.length_map,List.take_length] at zI;subst qD zI;refine bq (by simp) <| w_var (v:= .loc U.length) rfl ⟨_,rfl,T++[SO.hV],some v,some (.loc U.length),b4,?_,?_⟩
  .rw [<-hU,List.append_assoc S];rfl
  .rw [<-hU,List.append_assoc S];rfl
 have hlen:((eM 0 c).map V3.d).length=c:=by simp [eM]
 rw[hlen] at wx;subst hδ wx;unfold aE;refine dD (w_var rfl ⟨_,rfl,by unfold eN;exact decide_eq_true (by rw[List.length_append];omega),⟨T++[.lst ((dC c).map ia)],by rw[List.append_assoc]⟩,_,by unfold res;rw [bg],h⟩)
end K25
end
section
namespace K25
open PySem PySem.Spec PyProof.Rows L2 L3 MT
def TL(c j:Nat):M:=fun p=>((dC c).getD p []).getD j false
def zk(c:Nat):List M:=(List.range c).map (TL c)
theorem M4{b:List Bool}{j:Nat}(h:j < b.length):cR (ia b) (.int j)= .ok (bI (b.getD j false)):=by
 refine vR ?_;rw[nP (by omega) (by rw[List.length_map,Int.toNat_natCast];exact h)]
 rw[List.getD_eq_getElem?_getD,List.getElem?_eq_getElem h];simp
theorem B8{c j:Nat}(hc:c<=10)(hj:j < c):lM [.lst ((dC c).map ia), .int j]= .ok (mI (2 ^ c) (TL c j)):=by
 have hz:sizeLine=16777216:=sizeLine_eq;have hp:2 ^ c<=1024:=Nat.pow_le_pow_right (by omega) hc
 unfold lM yr;refine d3 (cM (aX (ds:=[.lst (((dC c).map fun b=>b.getD j false).map bI)]) (aV (dI (dh (ds:=(dC c).map ia) rfl (by rw[List.length_map,d7];omega) ?_)) rfl) ?_))
 .rw [List.map_map];exact NT.eA ia _ fun b hb=>⟨[.val (ia b), .val (.int j)],rfl,rfl,aH (a:=ia b) (b:= .int j) rfl rfl (M4 (by rw[sG c b hb];exact hj))⟩
 .rw [vk (by rw[List.length_map,d7];omega),Ht,List.length_map,d7]
  unfold mI;congr 3;refine o8 fun p Ug=>?_
  unfold TL;rw[List.getD_eq_getElem?_getD,List.getElem?_map,List.getD_eq_getElem?_getD (l:=dC c),List.getElem?_eq_getElem (by rw[d7];exact Ug)]
  rfl
section
variable {c:Nat} {ins:ZA} {gs:List Gt} {os:ZC}
abbrev EO:=Str.ofString "net"
abbrev yg:=Str.ofString "many_inputs"
abbrev xt:=Str.ofString "full"
abbrev si:=Str.ofString "in_masks"
def dR(c:Nat)(nt:D):List (Str × V3):=[(EO, .d nt),(yg, .d (nI (2 ^ c))),(xt, .d (mI (2 ^ c) one)),(si, .d (.lst ((zk c).map (mI (2 ^ c)))))]
theorem J0{S:aF}(hc:ins.length=c)(uG:c<=10)(hS:nv (S++[.ins 0 []])){Q:V3->aF->Prop}(h:Q (.d .cH) (S++[.ins 0 (dR c (bO ins gs os))])) :
 W3 (dF [.loc S.length, .d (bO ins gs os)] (S++[.ins 0 []])) Q:=by
 have hz:sizeLine=16777216:=sizeLine_eq;have hp:2 ^ c<=1024:=Nat.pow_le_pow_right (by omega) uG
 unfold dF;refine P6 rfl ?_;simp only[cm,dr,List.map,List.length,List.replicate,List.cons_append,List.nil_append,Nat.reduceAdd,Nat.reduceSub];unfold iq;refine aK <| bq (by simp) <| cv <| au <| bN (d:=nI c) (aX (ds:=[.lst (ins.map inD)]) rfl (by rw[vO,List.length_map,hc];rfl)) <| bF <| w9 uG hS ⟨_,rfl,?_⟩
 simp only[List.set];refine aK <| jU (k:=S.length) <| bN (d:=bO ins gs os) rfl <| w_var (v:= .loc S.length) rfl ⟨_,rfl,bg _ _,by simp,_,rfl,?_⟩
 rw[cP];refine aK <| jU (k:=S.length) <| bN (d:=nI (2 ^ c)) (aX (ds:=[.lst ((dC c).map ia)]) rfl (by rw[vO,List.length_map,d7];rfl)) <| w_var (v:= .loc S.length) rfl ⟨_,rfl,bg _ _,by unfold Aj;simp,_,rfl,?_⟩
 rw[cP];refine aK <| jU (k:=S.length) <| bN (d:=mI (2 ^ c) one) (aX (ds:=[.lst (((dC c).map fun _=>true).map bI)]) (aV (dI (dh (ds:=(dC c).map ia) rfl (by rw[List.length_map,d7];omega) ?_)) rfl) ?_) <| w_var (v:= .loc S.length) rfl ⟨_,rfl,bg _ _,?_,_,rfl,?_⟩
 .rw [List.map_map];exact NT.eA ia _ fun b hb=>⟨[.val (ia b)],rfl,rfl,rfl⟩
 .rw [vk (by rw[List.length_map,d7];omega),Ht,List.length_map,d7]
  unfold mI;congr 3;refine o8 fun p Ug=>?_
  rw[List.getD_eq_getElem?_getD,List.getElem?_map,List.getElem?_eq_getElem (by rw[d7];exact Ug)]
  rfl
 .exact(by decide:2 < 1000)
 rw[cP];refine jU (k:=S.length) <| bN (d:= .lst ((zk c).map (mI (2 ^ c)))) (dI (dh (ds:=eM 0 c) (kW (n:=c) (aX (ds:=[.lst (ins.map inD)]) rfl (by rw[vO,List.length_map,hc])) (by omega)) (by simp [eM];omega) ?_)) <| w_var (v:= .loc S.length) rfl ⟨_,rfl,bg _ _,?_,_,rfl,?_⟩
 .unfold zk;rw[List.map_map];unfold eM;refine NT.eA (fun i:Nat=>D.int (0+(i:Int))) _ fun j hj=>⟨[.val (.int (0+(j:Int))), .val (.lst ((dC c).map ia))],rfl,rfl,aX (ds:=[.lst ((dC c).map ia), .int j]) ?_ (B8 uG (List.mem_range.mp hj))⟩
  rw[Int.zero_add];rfl
 .exact(by decide:3 < 1000)
 rw[cP];exact h
end
end K25
end
section
namespace K25
open PySem PySem.Spec PyProof.Rows L2 L3 MT
section
variable {c:Nat} {ins:ZA} {gs:List Gt} {os:ZC} {S:aF} {k:Nat} {turned bad:List Int}
theorem Wh:(yg==EO)=false:=by decide+kernel
theorem WW:(xt==EO)=false:=by decide+kernel
theorem W4:(xt==yg)=false:=by decide+kernel
theorem WV:(si==EO)=false:=by decide+kernel
theorem W6:(si==yg)=false:=by decide+kernel
theorem Xk:(si==xt)=false:=by decide+kernel
theorem I_{nt:D}:(dR c nt).lookup EO=some (.d nt):=by unfold dR;rw [List.lookup_cons,beq_self_eq_true]
theorem J8{nt:D}:(dR c nt).lookup yg=some (.d (nI (2 ^ c))):=by unfold dR;rw [List.lookup_cons,Wh,List.lookup_cons,beq_self_eq_true]
theorem D8{nt:D}:(dR c nt).lookup xt=some (.d (mI (2 ^ c) one)):=by unfold dR;rw [List.lookup_cons,WW,List.lookup_cons,W4,List.lookup_cons,beq_self_eq_true]
theorem Hi{nt:D}:(dR c nt).lookup si=some (.d (.lst ((zk c).map (mI (2 ^ c))))):=by unfold dR;rw [List.lookup_cons,WV,List.lookup_cons,W6,List.lookup_cons,Xk,List.lookup_cons,beq_self_eq_true]
theorem Bk:(zk c).length=c:=by unfold zk;simp
abbrev Wd(c:Nat)(ins:ZA)(gs:List Gt)(turned bad:List Int):List M:=HK ins gs (zk c) turned bad
theorem Ku(m:Str)(nt:D)(h1:(m==EO)=false)(h2:(m==yg)=false)(h3:(m==xt)=false)(h4:(m==si)=false):(dR c nt).lookup m=none:=by unfold dR;rw [List.lookup_cons,h1,List.lookup_cons,h2,List.lookup_cons,h3,List.lookup_cons,h4];rfl
theorem Jb(NO:jv ins gs os)(hc:ins.length=c)(hS:nv S)(hb:S[k]? =some (.ins 0 (dR c (bO ins gs os)))){Q:V3->aF->Prop}(h:Q (.d (.lst (p6 (2 ^ c) os (Wd c ins gs turned bad)))) S) :
 W3 (gK [.loc k, .d (.tup (turned.map .int)), .d (.tup (bad.map .int))] S) Q:=by
 have hz:sizeLine=16777216:=sizeLine_eq;unfold gK;refine kM hS (uB rfl ?_);simp only[cm,iX,List.map,List.length,List.replicate,List.cons_append,List.nil_append,Nat.reduceAdd,Nat.reduceSub];unfold k9;have hl:(zk c).length=ins.length:=by rw[Bk,hc]
 refine dD <| cv <| au <| w_fld (k:=k) <| w_var (v:= .loc k) rfl ⟨_,_,rfl,hb,I_,?_⟩
 refine au <| cv <| au <| w_fld (k:=k) <| w_var (v:= .loc k) rfl ⟨_,_,rfl,hb,I_,?_⟩
 refine au <| w_fld (k:=k) <| w_var (v:= .loc k) rfl ⟨_,_,rfl,hb,Hi,?_⟩
 refine au <| w_fld (k:=k) <| w_var (v:= .loc k) rfl ⟨_,_,rfl,hb,D8,?_⟩
 refine au <| bN (d:= .tup (turned.map .int)) rfl <| au <| bN (d:= .tup (bad.map .int)) rfl <| bF ?_
 refine Iy (.inl rfl) NO hl hS (bF ?_);refine Kq NO.ho (fun x hx=>⟨(NO.o x hx).1,fun w hw=>by rw[Hk hl];exact(NO.o x hx).2 w hw⟩) hS ?_
 exact⟨_,rfl,by unfold eN;rfl,⟨[],by simp⟩,_,by unfold res;rfl,h⟩
def Ki(N:Nat)(os:ZC)(ws:List M):List D:=os.map fun x=> .tup [mI N (r0 (tell ws x)),mI N (r1 (tell ws x))]
theorem tW(NO:jv ins gs os)(hc:ins.length=c)(ho:∀x∈os,1<=x.2.length/\x.2.length<=3)(hS:nv S)(hb:S[k]? =some (.ins 0 (dR c (bO ins gs os)))){Q:V3->aF->Prop}(h:Q (.d (.lst (Ki (2 ^ c) os (Wd c ins gs turned [])))) S) :
 W3 (cW [.loc k, .d (.tup (turned.map .int))] S) Q:=by
 have hz:sizeLine=16777216:=sizeLine_eq;have hO:=NO.ho;unfold cW;refine kM hS (uB rfl ?_);simp only[cm,d5,List.map,List.length,List.replicate,List.cons_append,List.nil_append,Nat.reduceAdd,Nat.reduceSub];unfold iy;refine dD <| mP (fun j ds S2=>S2=S/\ds=(Ki (2 ^ c) os (Wd c ins gs turned [])).take j) ?_
 refine pj <| sH (k:=k) <| w_var (v:= .loc k) rfl ⟨_,rfl,hb,Ku _ _ (by decide+kernel) (by decide+kernel) (by decide+kernel) (by decide+kernel),?_⟩
 refine au <| bN (d:= .tup (turned.map .int)) rfl <| au <| bN (d:= .tup (([]:List Int).map .int)) rfl <| bF ?_
 refine Jb NO hc hS hb ⟨_,rfl,?_,⟨rfl,by simp⟩,?_,?_⟩
 .rw [List.length_map,p6,List.length_map];omega
 .rintro j v ds S2 hv ⟨rfl,rfl⟩;rw[p6] at hv;obtain⟨x,hx,rfl⟩:=NT.fG hv;refine⟨[some (.d (.tup ((tell (Wd c ins gs turned []) x).map (mI (2 ^ c))))),some (.loc k)],rfl,xK ?_⟩;rw[if_pos rfl];refine rn <| au <| bN (d:= .tup ((tell (Wd c ins gs turned []) x).map (mI (2 ^ c)))) rfl <| au <| w_fld (k:=k) <| w_var (v:= .loc k) rfl ⟨_,_,rfl,hb,D8,bF ⟨[.tup ((tell (Wd c ins gs turned []) x).map (mI (2 ^ c))),mI (2 ^ c) one],_,rfl,CZ ?_,_,rfl,rfl,?_⟩⟩
  .unfold tell;rw [List.length_map];exact ho x (List.mem_of_getElem? hx)
  .unfold Ki;rw[List.take_add_one,List.getElem?_map,hx];rfl
 .rintro ds S2 ⟨rfl,rfl⟩;rw[List.length_map,p6,List.length_map,List.take_of_length_le (by rw[Ki,List.length_map];exact Nat.le_refl _)]
  exact⟨_,rfl,by unfold eN;rfl,⟨[],by simp⟩,_,by unfold res;rfl,h⟩
theorem yB{nt:D}{f:M}(hc:c<=10)(hS:nv S)(hb:S[k]? =some (.ins 0 (dR c nt))){Q:V3->aF->Prop}(h:Q (.d (.lst (((List.range (2 ^ c)).filter f).map nI))) S) :
 W3 (eD [.loc k, .d (mI (2 ^ c) f)] S) Q:=by
 have hz:sizeLine=16777216:=sizeLine_eq;have hp:2 ^ c<=1024:=Nat.pow_le_pow_right (by omega) hc
 unfold eD;refine kM hS (uB rfl ?_);simp only[cm,dE,List.map,List.length,List.replicate,List.cons_append,List.nil_append,Nat.reduceAdd,Nat.reduceSub];unfold gS;refine dD <| mP (fun j ds S2=>S2=S/\ds=((List.range j).filter f).map nI) ?_
 refine uS <| w_fld (k:=k) <| w_var (v:= .loc k) rfl ⟨_,_,rfl,hb,J8,2 ^ c,rfl,by omega,?_⟩
 have hlen:((eM 0 (2 ^ c)).map V3.d).length=2 ^ c:=by simp [eM]
 rw[hlen];refine⟨by omega,⟨rfl,rfl⟩,?_,?_⟩
 .rintro j v ds S2 hv ⟨rfl,rfl⟩;obtain⟨hj,rfl⟩:=NT.mJ hv;refine⟨[some (.d (.int j)),some (.d (mI (2 ^ c) f))],rfl,k7 (b:=f j) ?_ ?_⟩
  .refine dA (a:= .int (if decide (j < 2 ^ c) && f j then 1 else 0)) (b:= .int 1) (aX (ds:=[mI (2 ^ c) f, .int j]) rfl M7) rfl ?_
   rw[decide_eq_true hj,Bool.true_and];cases f j <;> rfl
  .rw [List.range_succ,List.filter_append,List.map_append];cases hf:f j with
   | true=>rw [if_pos rfl];exact bN (d:=nI j) rfl ⟨_,rfl,rfl,by simp [hf]⟩
   | false=>rw [if_neg (by decide)];exact⟨rfl,by simp [hf]⟩
 .rintro ds S2 ⟨rfl,rfl⟩;exact⟨_,rfl,by unfold eN;rfl,⟨[],by simp⟩,_,by unfold res;rfl,h⟩
end
end K25
end
section
namespace K25
open PySem PySem.Spec PyProof.Rows L2 L3 MT
theorem GC(n:Nat):eM 0 n=(List.range n).map nI:=by
 unfold eM;refine List.map_congr_left fun i _=>?_
 show D.int (0+(i:Int))=D.int (i:Int);rw[Int.zero_add]
def aC(T:List Nat):D:= .tup (T.map nI)
theorem JW{ps:List Nat}{a:Nat}(ha:a < ps.length):Q4 (.lst (ps.map nI)) (some ((a+1:Nat):Int)) none= .ok (.lst ((ps.drop (a+1)).map nI)):=by
 show R.ok (D.lst (L2.cutD (ps.map nI) (some ((a+1:Nat):Int)) none))=_;congr 2;unfold L2.cutD;rw[List.length_map,HT.DC,HT.AF,Nat.min_eq_left (by omega),<-List.map_drop,<-List.map_take,List.take_of_length_le (by rw[List.length_drop];omega)]
theorem CJ{ds es:List D}(h:ds.length+es.length<=sizeLine):oI (.tup ds) (.tup es)= .ok (.tup (ds++es)):=cN _ h
theorem qc:∀(n s:Nat) (ps:List Nat),s<=n->n<=3->ps.length<=100->dt (n+1) [.lst (ps.map nI), .int s]= .ok (.lst ((eL ps s).map aC))
 | n,0,ps,_,_,_=>by
   show xY lL (lK (dt n)) _=_;unfold lK;exact d3 (NT.mB (uT (dA (a:= .int 0) (b:= .int 0) rfl rfl rfl) (cM rfl)))
 | 0,s+1,ps,h,_,_=>by omega
 | n+1,s+1,ps,h,hn,hp=>by
   have hz:sizeLine=16777216:=sizeLine_eq;show xY lL (lK (dt (n+1))) _=_;unfold lK;have hcl:(eL ps (s+1)).length<=100 ^ (s+1):=uC hp;have hpow:∀m,m<=3->(100:Nat) ^ m<=1000000:=fun m hm=>Nat.pow_le_pow_right (by omega) hm
   refine d3 (cG (kP (dA (a:= .int (s+1:Nat)) (b:= .int 0) (k:=false) rfl rfl ?_) rfl) ?_)
   .show R.ok (D.bl (((s+1:Nat):Int)==0))=_;congr 2
   refine cG (Dq (ds:=[]) rfl (by simp [gL,lL])) ?_
   let F:Nat->ZD:=fun i=>(List.range i).flatMap fun a=>(eL (ps.drop (a+1)) s).map (ps.getD a 0 ::·)
   have hF:∀i,i<=ps.length->(F i).length<=i*100 ^ s:=fun i hi=>by
    show((List.range i).flatMap fun a=>(eL (ps.drop (a+1)) s).map (ps.getD a 0 ::·)).length<=_
    rw[List.length_flatMap];refine Nat.le_trans (CA (m:=100 ^ s) fun x hx=>?_) (by rw[List.length_map,List.length_range];exact Nat.le_refl _)
    obtain⟨a,_,rfl⟩:=List.mem_map.mp hx;rw[List.length_map];exact uC (by rw[List.length_drop];omega)
   have hFs:∀i,F (i+1)=F i++(eL (ps.drop (i+1)) s).map (ps.getD i 0 ::·):=fun i=>by
    show(List.range (i+1)).flatMap _=_;rw[List.range_succ,List.flatMap_append];simp [F]
   obtain⟨c_,e1,a3,a4,a5,By⟩:=px (t:=nL 2 (d6 (bh 3) (d6 (bh 4) nF))) (body:=oP (dt (n+1))) (ds:=cB (ps.map nI))
    (fun i δ=>∃a3 a4 a5,δ=[.val (.lst (ps.map nI)), .val (.int (s+1:Nat)), .bld ((F i).map aC),a3,a4,a5]) (δ:=[.val (.lst (ps.map nI)), .val (.int (s+1:Nat)), .bld [], .un, .un, .un]) ⟨.un, .un, .un,by simp [F]⟩ (by
      rintro i d δ hd ⟨a3,a4,a5,rfl⟩;have hv:((cB (ps.map nI)).map V3.d)[i]? =some (.d d):=by rw[List.getElem?_map,hd];rfl
      obtain⟨d0,OI,ed⟩:=pz hv;cases ed;obtain⟨x,hx,rfl⟩:=NT.rA OI;have hil:=(List.getElem?_eq_some_iff.mp hx).1;have hxd:ps.getD i 0=x:=by rw[List.getD_eq_getElem?_getD,hx];rfl
      have hFi:=hF i (by omega)
      have hFb:i*100 ^ s<=100*100 ^ s:=Nat.mul_le_mul_right _ (by omega)
      have hp2:=hpow (s+1) (by omega)
      rw[Nat.pow_succ,Nat.mul_comm] at hp2;rw[show nL 2 (d6 (bh 3) (d6 (bh 4) nF)) (.tup [.int i,nI x]) [.val (.lst (ps.map nI)), .val (.int (s+1:Nat)), .bld ((F i).map aC),a3,a4,a5]= .ok [.val (.lst (ps.map nI)), .val (.int (s+1:Nat)), .bld ((F i).map aC), .val (.int i), .val (nI x),a5] from rfl,R.aT]
      unfold oP;have ihc:=qc n s (ps.drop (i+1)) (by omega) (by omega) (by rw[List.length_drop];omega)
      have hdl:(eL (ps.drop (i+1)) s).length<=100 ^ s:=uC (by rw[List.length_drop];omega)
      obtain⟨cK,fR,c5,Rj⟩:=px (t:=bh 5) (body:=nG (dt (n+1))) (ds:=(eL (ps.drop (i+1)) s).map aC)
       (fun j δ=>∃c5,δ=[.val (.lst (ps.map nI)), .val (.int (s+1:Nat)), .bld ((F i++((eL (ps.drop (i+1)) s).take j).map (x ::·)).map aC), .val (.int i), .val (nI x),c5]) (δ:=[.val (.lst (ps.map nI)), .val (.int (s+1:Nat)), .bld ((F i).map aC), .val (.int i), .val (nI x),a5]) ⟨a5,by simp⟩ (by
         rintro j d δ hd ⟨c5,rfl⟩;obtain⟨T,hT,rfl⟩:=NT.rA hd;have hjl:=(List.getElem?_eq_some_iff.mp hT).1;have hTl:=(iC (List.mem_of_getElem? hT)).1;refine⟨[.val (.lst (ps.map nI)), .val (.int (s+1:Nat)), .bld ((F i++((eL (ps.drop (i+1)) s).take (j+1)).map (x ::·)).map aC), .val (.int i), .val (nI x), .val (aC T)],?_,⟨_,rfl⟩⟩
         generalize hL:(F i++((eL (ps.drop (i+1)) s).take j).map (x ::·)).map aC=L
         have hLl:L.length < sizeLine:=by
          rw[<-hL,List.length_map,List.length_append,List.length_map,List.length_take];omega
         rw[show bh 5 (aC T) [.val (.lst (ps.map nI)), .val (.int (s+1:Nat)), .bld L, .val (.int i), .val (nI x),c5]= .ok [.val (.lst (ps.map nI)), .val (.int (s+1:Nat)), .bld L, .val (.int i), .val (nI x), .val (aC T)] from rfl,R.aT]
         unfold nG;rw[Ds (d:=aC (x ::T)) (ds:=L) (aH (a:= .tup [nI x]) (b:=aC T) (cX rfl (by simp;omega)) rfl (CJ (by rw[List.length_map];simp;omega))) rfl hLl,<-hL,List.take_add_one,hT]
         simp [aC])
      refine⟨_,pq (ds:=(eL (ps.drop (i+1)) s).map aC) (eE (aX (ds:=[.lst ((ps.drop (i+1)).map nI), .int s]) (aV (C_ (d:= .lst (ps.map nI)) (lo:=some ((i+1:Nat):Int)) (hi:=none) rfl (G6 (aH (a:= .int i) (b:= .int 1) rfl rfl rfl)) rfl (JW hil)) (aV (aH (a:= .int (s+1:Nat)) (b:= .int 1) rfl rfl ?_) rfl)) ihc)) fR,?_⟩
      .show R.ok (D.int (((s+1:Nat):Int) - 1))=_;congr 2;omega
      .rw [List.length_map,List.take_length] at Rj;refine⟨.val (.int i), .val (nI x),c5,?_⟩;rw[Rj,hFs,hxd])
   refine cG (pq (ds:=cB (ps.map nI)) rfl e1) ?_;have hlen:(cB (ps.map nI)).length=ps.length:=by simp [cB]
   rw[hlen] at By;subst By;exact cM rfl
end K25
end
section
namespace K25
open PySem PySem.Spec PyProof.Rows L2 L3 MT
section
variable {c:Nat} {ins:ZA} {gs:List Gt} {os:ZC} {S:aF} {k:Nat} {turned:List Int} {safe:Bool}
abbrev p_:=Str.ofString "bench"
abbrev vp:=Str.ofString "plain"
abbrev rC:=Str.ofString "unsure"
def hW(gs:List Gt):List Nat:=(List.range gs.length).filter fun i=>match gs[i]? with | some g=>!g.2.2 | none=>false
def gd(c:Nat)(ins:ZA)(gs:List Gt)(os:ZC)(b:Nat):List (Str × V3):=[(p_, .loc b),(vp, .d (.lst (Ki (2 ^ c) os (Wd c ins gs [] [])))),(rC, .d (.lst ((hW gs).map nI)))]
theorem W0:(vp==p_)=false:=by decide+kernel
theorem Xh:(rC==p_)=false:=by decide+kernel
theorem WA:(rC==vp)=false:=by decide+kernel
theorem z_{b:Nat}:(gd c ins gs os b).lookup p_=some (.loc b):=by unfold gd;rw [List.lookup_cons,beq_self_eq_true]
theorem I0{b:Nat}:(gd c ins gs os b).lookup vp=some (.d (.lst (Ki (2 ^ c) os (Wd c ins gs [] [])))):=by unfold gd;rw [List.lookup_cons,W0,List.lookup_cons,beq_self_eq_true]
theorem GB{b:Nat}:(gd c ins gs os b).lookup rC=some (.d (.lst ((hW gs).map nI))):=by unfold gd;rw [List.lookup_cons,Xh,List.lookup_cons,WA,List.lookup_cons,beq_self_eq_true]
theorem L_{b:Nat}(m:Str)(h1:(m==p_)=false)(h2:(m==vp)=false)(h3:(m==rC)=false):(gd c ins gs os b).lookup m=none:=by unfold gd;rw [List.lookup_cons,h1,List.lookup_cons,h2,List.lookup_cons,h3];rfl
def TS(S:aF)(c:Nat)(ins:ZA)(gs:List Gt)(os:ZC):aF:=S++[.ins 1 (gd c ins gs os (S.length+1)), .ins 0 (dR c (bO ins gs os))]
mutual
theorem C5{n m:Nat}(h:n<=m):∀v:V3,nU n v=true->nU m v=true
 | .d _,_=>by unfold nU;rfl
 | .loc k,q=>by
   unfold nU at q ⊢;exact decide_eq_true (Nat.lt_of_lt_of_le (of_decide_eq_true q) h)
 | .lst vs,q=>by unfold nU at q ⊢;exact kZ h vs q
 | .tup vs,q=>by unfold nU at q ⊢;exact kZ h vs q
theorem kZ{n m:Nat}(h:n<=m):∀vs:List V3,jQ n vs=true->jQ m vs=true
 | [],_=>by unfold jQ;rfl
 | v ::vs,q=>by
   unfold jQ at q ⊢;rw[Bool.and_eq_true] at q ⊢;exact⟨C5 h v q.1,kZ h vs q.2⟩
end
theorem xM{n m:Nat}(h:n<=m)(o:SO)(q:pE n o=true):pE m o=true:=by
 cases o with
 | ins k fs=>exact kZ h _ q
 | _=>rfl
theorem nv.push{S:aF}(hS:nv S){x:SO}(hx:∀n,pE n x=true):nv (S++[x]):=fun o ho=>by
 rcases List.mem_append.mp ho with q | q
 .exact xM (by simp) o (hS o q)
 .rw [List.mem_singleton.mp q];exact hx _
theorem K6{S:aF}(hS:nv S){x y:SO}(hx:pE (S.length+2) x=true)(hy:pE (S.length+2) y=true):nv (S++[x,y]):=fun o ho=>by
 rw[show(S++[x,y]).length=S.length+2 by simp]
 rcases List.mem_append.mp ho with q | q
 .exact xM (by omega) o (hS o q)
 .simp only[List.mem_cons,List.not_mem_nil,or_false] at q;rcases q with rfl | rfl
  .exact hx
  .exact hy
theorem Hy{δ:aw}(hg:gs.length < 1000)(h1:ah 1 δ= .ok (bO ins gs os)):dM (ig (e2 cR (ah 1) (eC (.int 1)))) (nL 2 (d6 (bh 0) (d6 (bh 1) nF))) (HF (vY (e2 cR (ah 1) (eC (.int 2))))) (ah 0) ["place","gate"] [] δ= .ok ((hW gs).map nI):=by
 have hz:sizeLine=16777216:=sizeLine_eq;refine dh (ds:=cB (gs.map fP)) (IQ (aH (a:=bO ins gs os) (b:= .int 1) h1 rfl rfl)) (by simp [cB];omega) ?_
 have e:cB (gs.map fP)=(List.range gs.length).map fun i=> .tup [.int i,fP (gs.getD i (0,[],false))]:=by
  refine List.ext_getElem? fun i=>?_
  rw[List.getElem?_map,cB,List.getElem?_map,List.getElem?_zipIdx,List.getElem?_map];by_cases q:i < gs.length
  .rw [List.getElem?_eq_getElem q,List.getElem?_range q];show some (D.tup [.int ((0+i:Nat):Int),fP gs[i]])=some (D.tup [.int i,fP (gs.getD i (0,[],false))]);rw[Nat.zero_add,List.getD_eq_getElem?_getD,List.getElem?_eq_getElem q];rfl
  .rw [List.getElem?_eq_none (by omega),List.getElem?_eq_none (by simp;omega)];rfl
 rw[e];unfold hW;refine NT.eB (fun i:Nat=>match gs[i]? with | some g=>!g.2.2 | none=>false) (fun i:Nat=>D.tup [.int i,fP (gs.getD i (0,[],false))]) nI fun i hi=>?_
 rw[List.mem_range] at hi;refine⟨[.val (.int i), .val (fP (gs.getD i (0,[],false)))],rfl,?_,fun _=>rfl⟩
 rw[List.getElem?_eq_getElem hi,List.getD_eq_getElem?_getD,List.getElem?_eq_getElem hi];rfl
theorem Aa(NO:jv ins gs os)(hc:ins.length=c)(uG:c<=10)(ho:∀x∈os,1<=x.2.length/\x.2.length<=3)(hS:nv S){Q:V3->aF->Prop}(h:Q (.d .cH) (TS S c ins gs os)) :
 W3 (cy [.loc S.length, .d (bO ins gs os)] (S++[.ins 1 []])) Q:=by
 have hz:sizeLine=16777216:=sizeLine_eq;unfold cy;refine P6 rfl ?_;simp only[cm,d4,List.map,List.length,List.replicate,List.cons_append,List.nil_append,Nat.reduceAdd,Nat.reduceSub];unfold ij;have l1:(S++[SO.ins 1 []]).length=S.length+1:=by simp
 have g0:∀(x y:SO),(S++[x,y])[S.length]? =some x:=fun x y=>by rw[List.getElem?_append_right (Nat.le_refl _),Nat.sub_self];rfl
 have g1:∀(x y:SO),(S++[x,y])[S.length+1]? =some y:=fun x y=>by rw[List.getElem?_append_right (by omega),show S.length+1 - S.length=1 by omega];rfl
 have st:∀(x y z:SO),(S++[x,y]).set S.length z=S++[z,y]:=fun x y z=>by rw[List.set_append_right _ _ (Nat.le_refl _),Nat.sub_self];rfl
 have ap:∀(x y:SO),S++[x]++[y]=S++[x,y]:=fun x y=>by simp
 refine aK <| jU (k:=S.length) <| CK <| au <| bN (d:=bO ins gs os) rfl <| bF <| J0 hc uG ?_ ⟨rfl,?_⟩
 .rw [ap];exact K6 hS rfl rfl
 rw[ap];refine w_var (v:= .loc S.length) rfl ⟨_,rfl,g0 _ _,by simp,_,rfl,?_⟩
 rw[st,l1];have hcl:∀fs:List (Str × V3),jQ (S.length+2) (fs.map (·.2))=true->nv (S++[.ins 1 fs, .ins 0 (dR c (bO ins gs os))]):=fun fs hf=>K6 hS hf rfl
 refine aK <| jU (k:=S.length) <| sH (k:=S.length+1) <| w_fld (k:=S.length) <| w_var (v:= .loc S.length) rfl ⟨_,_,rfl,g0 _ _,(by show List.lookup p_ [(p_,V3.loc (S.length+1))]=_;rw [List.lookup_cons,beq_self_eq_true]),_,rfl,g1 _ _,Ku _ _ (by decide+kernel) (by decide+kernel) (by decide+kernel) (by decide+kernel),?_⟩
 refine au <| bN (d:= .tup (([]:List Int).map .int)) rfl <| bF <| tW NO hc ho (hcl _ ?_) (g1 _ _) ?_
 .show(decide (S.length+1 < S.length+2) && true)=true;rw[decide_eq_true (by omega)];rfl
 refine w_var (v:= .loc S.length) rfl ⟨_,rfl,g0 _ _,(by decide:1 < 1000),_,rfl,?_⟩
 rw[st];refine jU (k:=S.length) <| bN (d:= .lst ((hW gs).map nI)) (dI (Hy NO.hg rfl)) <| w_var (v:= .loc S.length) rfl ⟨_,rfl,g0 _ _,?_,_,rfl,?_⟩
 .exact(by decide:2 < 1000)
 rw[st];exact h
def ml(safe:Bool):Str:=if safe then "safe" else "right"
def pt(ws:List M)(x:Str × List Nat)(p:Nat):Bool × Bool:=Tj ((tell ws x).map (· p))
def Gh(safe:Bool)(c:Nat)(ins:ZA)(gs:List Gt)(os:ZC)(turned:List Int):M:=fun p=>os.any fun x=>brk safe (pt (Wd c ins gs [] []) x p) (pt (Wd c ins gs turned []) x p)
theorem yk{b:Nat}(NO:jv ins gs os)(hc:ins.length=c)(ho:∀x∈os,1<=x.2.length/\x.2.length<=3)(hS:nv S)(hk:S[k]? =some (.ins 1 (gd c ins gs os b)))(hb:S[b]? =some (.ins 0 (dR c (bO ins gs os)))){Q:V3->aF->Prop}
 (h:Q (.d (mI (2 ^ c) (Gh safe c ins gs os turned))) S):W3 (cJ [.loc k, .d (.tup (turned.map .int)), .d (.str (ml safe))] S) Q:=by
 have hz:sizeLine=16777216:=sizeLine_eq;unfold cJ;refine kM hS (uB rfl ?_);simp only[cm,eO,List.map,List.length,List.replicate,List.cons_append,List.nil_append,Nat.reduceAdd,Nat.reduceSub];unfold gz;have h0:D.int 0=mI (2 ^ c) fun _=>false:=by
  unfold mI;rw[wc.mpr fun _ _=>rfl];rfl
 refine aK <| bq (by simp) <| bN (d:=mI (2 ^ c) fun _=>false) (by rw[<-h0];rfl) ⟨_,rfl,?_⟩
 simp only[List.set];refine aK <| dJ <| Qj <| w_fld (k:=k) <| w_var (v:= .loc k) rfl ⟨_,_,rfl,hk,I0,?_⟩
 refine sH (k:=b) <| w_fld (k:=k) <| w_var (v:= .loc k) rfl ⟨_,_,rfl,hk,z_,_,rfl,hb,Ku _ _ (by decide+kernel) (by decide+kernel) (by decide+kernel) (by decide+kernel),?_⟩
 refine au <| bN (d:= .tup (turned.map .int)) rfl <| bF <| tW NO hc ho hS hb ⟨_,_,_,_,rfl,rfl,rfl,rfl,?_⟩
 have hzip:AD (Ki (2 ^ c) os (Wd c ins gs [] [])) (Ki (2 ^ c) os (Wd c ins gs turned []))=os.map fun x=> .tup [.tup [mI (2 ^ c) (r0 (tell (Wd c ins gs [] []) x)),mI (2 ^ c) (r1 (tell (Wd c ins gs [] []) x))], .tup [mI (2 ^ c) (r0 (tell (Wd c ins gs turned []) x)),mI (2 ^ c) (r1 (tell (Wd c ins gs turned []) x))]]:=by
  unfold AD Ki;rw[List.zip_map',List.map_map];rfl
 rw[hzip];refine(bA (fun i δ S2=>S2=S/\∃a4 a5,δ=[some (.loc k),some (.d (.tup (turned.map .int))),some (.d (.str (ml safe))),some (.d (mI (2 ^ c) fun p=>(os.take i).any fun x=>brk safe (pt (Wd c ins gs [] []) x p) (pt (Wd c ins gs turned []) x p))),a4,a5])
  ⟨rfl,none,none,rfl⟩ ?_).mono fun o S2 ⟨cK,fR,wx,a4,a5,hδ⟩=>⟨cK,fR,?_⟩
 .rintro i v δ S2 hv ⟨rfl,a4,a5,rfl⟩;obtain⟨x,hx,rfl⟩:=NT.fG hv;generalize hm:(fun p=>(os.take i).any fun x=>brk safe (pt (Wd c ins gs [] []) x p) (pt (Wd c ins gs turned []) x p))=m
  have hnext:(fun p=>(os.take (i+1)).any fun x=>brk safe (pt (Wd c ins gs [] []) x p) (pt (Wd c ins gs turned []) x p))=fun p=>m p || brk safe (pt (Wd c ins gs [] []) x p) (pt (Wd c ins gs turned []) x p):=by
   funext p;rw[List.take_add_one,hx,List.any_append,<-hm];simp
  rw[hnext];refine⟨[some (.loc k),some (.d (.tup (turned.map .int))),some (.d (.str (ml safe))),some (.d (mI (2 ^ c) m)),some (.d (.tup [mI (2 ^ c) (r0 (tell (Wd c ins gs [] []) x)),mI (2 ^ c) (r1 (tell (Wd c ins gs [] []) x))])),some (.d (.tup [mI (2 ^ c) (r0 (tell (Wd c ins gs turned []) x)),mI (2 ^ c) (r1 (tell (Wd c ins gs turned []) x))]))],rfl,?_⟩;unfold jw;refine h_ <| k7 (b:=safe) (dA (a:= .str (ml safe)) (b:= .str "safe") rfl rfl ?_) ?_
  .show R.ok (D.bl (ml safe=="safe"))=_;congr 2;cases safe <;> decide+kernel
  cases safe with
  | true=>
    rw[if_pos rfl];refine bq (by simp) <| bN (aH (aH (a:=mI (2 ^ c) m) rfl (aH (aH rfl rfl FN) (aH rfl rfl GD) (u9 _ _ _)) (A5 _ _ _)) (aH (aH rfl rfl GD) (aH rfl rfl FN) (u9 _ _ _)) (A5 _ _ _)) ⟨_,rfl,rfl,some (.d (.tup [mI (2 ^ c) (r0 (tell (Wd c ins gs [] []) x)),mI (2 ^ c) (r1 (tell (Wd c ins gs [] []) x))])),some (.d (.tup [mI (2 ^ c) (r0 (tell (Wd c ins gs turned []) x)),mI (2 ^ c) (r1 (tell (Wd c ins gs turned []) x))])),?_⟩
    simp only[List.set];congr 6;refine A8 fun p _=>?_
    rw[Bool.or_assoc];rfl
  | false=>
    rw[if_neg (by decide)]
    refine bq (by simp) <| bN (aH (aH (a:=mI (2 ^ c) m) rfl (aH (aH rfl rfl FN) (aH rfl rfl FN) (DK _ _ _)) (A5 _ _ _)) (aH (aH rfl rfl GD) (aH rfl rfl GD) (DK _ _ _)) (A5 _ _ _)) ⟨_,rfl,rfl,some (.d (.tup [mI (2 ^ c) (r0 (tell (Wd c ins gs [] []) x)),mI (2 ^ c) (r1 (tell (Wd c ins gs [] []) x))])),some (.d (.tup [mI (2 ^ c) (r0 (tell (Wd c ins gs turned []) x)),mI (2 ^ c) (r1 (tell (Wd c ins gs turned []) x))])),?_⟩
    simp only[List.set];congr 6;refine A8 fun p _=>?_
    rw[Bool.or_assoc];rfl
 rw[List.length_map,List.length_map,List.take_length] at hδ;subst hδ wx;exact dD <| bN (d:=mI (2 ^ c) (Gh safe c ins gs os turned)) rfl ⟨_,rfl,by unfold eN;rfl,⟨[],by simp⟩,_,by unfold res;rfl,h⟩
end
end K25
end
section
namespace K25
open PySem PySem.Spec PyProof.Rows L2 L3 MT
def nZ(ps:List Nat):List Int:=ps.map fun(n:Nat)=>(n:Int)
theorem Cc(ps:List Nat):(nZ ps).map D.int=ps.map nI:=by unfold nZ;rw [List.map_map];rfl
theorem IJ(ps:List Nat)(i:Nat):(nZ ps).contains (i:Int)=ps.contains i:=by
 rw[Bool.eq_iff_iff];unfold nZ;simp only[List.contains_iff_mem,List.mem_map];exact⟨fun⟨a,ha,e⟩=>(by rw[<-Int.ofNat_inj.mp e];exact ha),fun h=>⟨i,h,rfl⟩⟩
section
variable {c:Nat} {ins:ZA} {gs:List Gt} {os:ZC} {S:aF} {k:Nat} {safe:Bool}
def CS(T:List Nat)(p:Nat):D:= .tup [.str "breaks",aC T,nI p]
def lV:D:= .tup [.str "bears"]
def k8(safe:Bool)(c:Nat)(ins:ZA)(gs:List Gt)(os:ZC)(T:List Nat):Option D:=
 ((List.range (2 ^ c)).filter (Gh safe c ins gs os (nZ T))).head?.map (CS T)
def bears(safe:Bool)(c:Nat)(ins:ZA)(gs:List Gt)(os:ZC)(m:Nat):D:=
 ((List.range (m+1)).findSome? fun s=>(eL (hW gs) s).findSome? (k8 safe c ins gs os)).getD lV
theorem qY:(hW gs).length<=gs.length:=by
 unfold hW;exact Nat.le_trans (List.length_filter_le _ _) (by rw[List.length_range];exact Nat.le_refl _)
theorem ph{f:M}{N:Nat}:jf N f=0↔((List.range N).filter f).head? =none:=by
 rw[wc,List.head?_eq_none_iff,List.filter_eq_nil_iff];exact⟨fun h i hi=>by rw[h i (List.mem_range.mp hi)];decide,fun h i hi=>by have:=h i (List.mem_range.mpr hi);cases hf:f i with | false=>rfl | true=>exact absurd hf this⟩
theorem Hr{VX sz a6:Option V3}{m:V3}{T:List Nat}(NO:jv ins gs os)(hc:ins.length=c)(uG:c<=10)(ho:∀x∈os,1<=x.2.length/\x.2.length<=3)(hS:nv S) :
 W3 (r_ [VX,some m,some (.d (.str (ml safe))),some (.loc S.length),sz,some (.d (aC T)),a6] (TS S c ins gs os)) fun o S1=>S1=TS S c ins gs os/\(match (k8 safe c ins gs os T).map V3.d with | some v=>o= .rt v | none=>∃cK,o= .nx cK/\∃b6,cK=[VX,some m,some (.d (.str (ml safe))),some (.loc S.length),sz,some (.d (aC T)),b6]):=by
 have hz:sizeLine=16777216:=sizeLine_eq;have hk:(TS S c ins gs os)[S.length]? =some (.ins 1 (gd c ins gs os (S.length+1))):=by unfold TS;rw [List.getElem?_append_right (Nat.le_refl _),Nat.sub_self];rfl
 have hb:(TS S c ins gs os)[S.length+1]? =some (.ins 0 (dR c (bO ins gs os))):=by unfold TS;rw [List.getElem?_append_right (by omega),show S.length+1 - S.length=1 by omega];rfl
 have hcl:nv (TS S c ins gs os):=K6 hS (by
  show(decide (S.length+1 < S.length+2) && true)=true;rw[decide_eq_true (by omega)];rfl) rfl
 unfold r_;refine aK <| bq (by simp) <| sH (k:=S.length) <| w_var (v:= .loc S.length) rfl ⟨_,rfl,hk,L_ _ (by decide+kernel) (by decide+kernel) (by decide+kernel),?_⟩
 refine au <| bN (d:= .tup ((nZ T).map .int)) (by rw[Cc];rfl) <| au <| bN (d:= .str (ml safe)) rfl <| bF <| yk NO hc ho hcl hk hb ⟨_,rfl,?_⟩
 simp only[List.set];generalize hf:Gh safe c ins gs os (nZ T)=f;have htry:k8 safe c ins gs os T=((List.range (2 ^ c)).filter f).head?.map (CS T):=by unfold k8;rw [hf]
 refine h_ <| k7 (b:=!(decide (jf (2 ^ c) f=0))) (dA (a:=mI (2 ^ c) f) (b:= .int 0) rfl rfl ?_) ?_
 .show R.ok (D.bl (!((jf (2 ^ c) f:Int)==0)))=_;congr 3;by_cases q:jf (2 ^ c) f=0
  .rw [q];rfl
  .rw [decide_eq_false q];exact beq_eq_false_iff_ne.mpr (by omega)
 cases hh:((List.range (2 ^ c)).filter f).head? with
 | none=>
   rw[htry,hh,decide_eq_true (ph.mpr hh),if_neg (by decide)]
   exact dk ⟨rfl,_,rfl,_,rfl⟩
 | some p=>
   have ur:¬jf (2 ^ c) f=0:=fun q=>by rw[ph.mp q] at hh;cases hh
   rw[htry,hh,decide_eq_false ur,if_pos (by decide)]
   refine dD <| rR <| au <| bN (d:= .str "breaks") rfl <| au <| bN (d:=aC T) rfl <| au <| FC <| sH (k:=S.length+1) <| w_fld (k:=S.length) <| w_var (v:= .loc S.length) rfl ⟨_,_,rfl,hk,z_,_,rfl,hb,Ku _ _ (by decide+kernel) (by decide+kernel) (by decide+kernel) (by decide+kernel),?_⟩
   refine au <| bN (d:=mI (2 ^ c) f) rfl <| bF <| yB uG hcl hb <| bN (d:= .int 0) rfl ⟨_,_,nI p,rfl,rfl,?_,bF ⟨by simp;omega,rfl,rfl⟩⟩
   refine sx ?_;obtain⟨r,hr⟩:∃r,(List.range (2 ^ c)).filter f=p ::r:=by
    cases q:(List.range (2 ^ c)).filter f with
    | nil=>rw [q] at hh;cases hh
    | cons a r=>rw [q] at hh;cases hh;exact⟨r,rfl⟩
   rw[hr,nP (by omega) (by simp)]
   rfl
theorem vK{m:Nat}(NO:jv ins gs os)(hc:ins.length=c)(uG:c<=10)(ho:∀x∈os,1<=x.2.length/\x.2.length<=3)(hg:gs.length<=100)(hm:m<=3)(hS:nv S){Q:V3->aF->Prop}(h:Q (.d (bears safe c ins gs os m)) S) :
 W3 (lZ [.d (bO ins gs os), .d (nI m), .d (.str (ml safe))] S) Q:=by
 have hz:sizeLine=16777216:=sizeLine_eq;have hk:(TS S c ins gs os)[S.length]? =some (.ins 1 (gd c ins gs os (S.length+1))):=by unfold TS;rw [List.getElem?_append_right (Nat.le_refl _),Nat.sub_self];rfl
 unfold lZ;refine kM hS (uB rfl ?_);simp only[cm,uE,List.map,List.length,List.replicate,List.cons_append,List.nil_append,Nat.reduceAdd,Nat.reduceSub];unfold yP;refine aK <| bq (by simp) <| CK <| au <| bN (d:=bO ins gs os) rfl <| bF <| Aa NO hc uG ho hS ⟨rfl,_,rfl,?_⟩
 simp only[List.set];refine ik <| dJ <| jC (ds:=(List.range (m+1)).map nI) ?_ ?_
 .rw [<-GC];exact kW (n:=m+1) (aH (a:=nI m) (b:= .int 1) rfl rfl rfl) (by omega)
 rw[List.map_map];refine(mW (S:=TS S c ins gs os) (V3.d ∘ nI) (fun s=>((eL (hW gs) s).findSome? (k8 safe c ins gs os)).map V3.d) (fun δ=>∃a4 a5 a6,δ=[some (.d (bO ins gs os)),some (.d (nI m)),some (.d (.str (ml safe))),some (.loc S.length),a4,a5,a6])
  ⟨_,_,_,rfl⟩ ?_).mono fun o S1 ⟨e1,h1⟩=>?_
 .rintro s hs δ ⟨a4,a5,a6,rfl⟩;rw[List.mem_range] at hs;have Gq:(hW gs).length<=100:=Nat.le_trans qY hg;have hcs:dt 4 [.lst ((hW gs).map nI), .int s]= .ok (.lst ((eL (hW gs) s).map aC)):=qc 3 s (hW gs) (by omega) (by omega) Gq
  refine⟨[some (.d (bO ins gs os)),some (.d (nI m)),some (.d (.str (ml safe))),some (.loc S.length),some (.d (nI s)),a5,a6],rfl,?_⟩;unfold ya;refine dJ <| pj <| rn <| au <| w_fld (k:=S.length) <| w_var (v:= .loc S.length) rfl ⟨_,_,rfl,hk,GB,au <| bN (d:= .int s) rfl <| bF ⟨[.lst ((hW gs).map nI), .int s],_,rfl,hcs,_,rfl,?_⟩⟩
  rw[List.map_map];refine(mW (S:=TS S c ins gs os) (V3.d ∘ aC) (fun T=>(k8 safe c ins gs os T).map V3.d) (fun δ=>∃a5 a6,δ=[some (.d (bO ins gs os)),some (.d (nI m)),some (.d (.str (ml safe))),some (.loc S.length),some (.d (nI s)),a5,a6])
   ⟨_,_,rfl⟩ ?_).mono fun o S1 ⟨e1,h1⟩=>⟨e1,?_⟩
  .rintro T hT δ ⟨a5,a6,rfl⟩;refine⟨[some (.d (bO ins gs os)),some (.d (nI m)),some (.d (.str (ml safe))),some (.loc S.length),some (.d (nI s)),some (.d (aC T)),a6],rfl,?_⟩;refine(Hr NO hc uG ho hS).mono fun o S1 ⟨e1,h1⟩=>⟨e1,?_⟩
   cases htt:k8 safe c ins gs os T with
   | none=>rw [htt] at h1;obtain⟨cK,fR,b6,e3⟩:=h1;exact⟨cK,fR,_,b6,e3⟩
   | some d=>rw [htt] at h1;exact h1
  .have LL:(eL (hW gs) s).findSome? (fun T=>(k8 safe c ins gs os T).map V3.d)=((eL (hW gs) s).findSome? (k8 safe c ins gs os)).map V3.d:=by
    rw[List.map_findSome?];rfl
   rw[LL] at h1;cases htt:(eL (hW gs) s).findSome? (k8 safe c ins gs os) with
   | none=>rw [htt] at h1;obtain⟨cK,fR,b5,b6,e3⟩:=h1;exact⟨cK,fR,_,b5,b6,e3⟩
   | some d=>rw [htt] at h1;exact h1
 .subst e1;have LL:(List.range (m+1)).findSome? (fun s=>((eL (hW gs) s).findSome? (k8 safe c ins gs os)).map V3.d)=((List.range (m+1)).findSome? fun s=>(eL (hW gs) s).findSome? (k8 safe c ins gs os)).map V3.d:=by
   rw[List.map_findSome?];rfl
  rw[LL] at h1;unfold bears at h;cases htt:(List.range (m+1)).findSome? fun s=>(eL (hW gs) s).findSome? (k8 safe c ins gs os) with
  | none=>
    rw[htt] at h1 h;obtain⟨cK,rfl,b4,b5,b6,rfl⟩:=h1;exact dD <| bN (d:=lV) rfl ⟨_,rfl,by unfold eN;rfl,⟨_,rfl⟩,_,by unfold res;rfl,h⟩
  | some d=>
    rw[htt] at h1 h;subst h1;exact⟨_,rfl,by unfold eN;rfl,⟨_,rfl⟩,_,by unfold res;rfl,h⟩
end
end K25
end
section
namespace K25
open PySem PySem.Spec PyProof.Rows L2 L3 MT
theorem mJ{n i:Nat}{d:D}(h:(eM 0 n)[i]? =some d):i < n/\d= .int i:=by
 rw[eM,List.getElem?_map] at h;cases q:(List.range n)[i]? with
 | none=>rw [q] at h;cases h
 | some j=>
   rw[q] at h;cases h;obtain⟨q1,q2⟩:=List.getElem?_eq_some_iff.mp q;rw[List.getElem_range] at q2;rw[List.length_range] at q1;subst q2;exact⟨q1,by simp⟩
theorem N5{ds:List D}{i:Nat}{x:D}(h:ds[i]? =some x):sU ds (i:Int)=some x:=by
 obtain⟨h1,h2⟩:=List.getElem?_eq_some_iff.mp h;rw[nP (by omega) (by rw[Int.toNat_natCast];exact h1)]
 simp [h2]
section
variable {gs:List Gt}
end
section
variable {S:aF} {δ:DE} {k q i:Nat} {ks:List Int}
theorem Eg{Q:V3->aF->Prop}{f:FD}{m:Int}(hv:δ[i]? =some (some (.loc k)))(p:yD k S)(hf:f (df S δ)= .ok (.int m))(hm:0 < m)(Q_:m < 1000000)
 (h:∀(r:Int) S1,0<=r->r < m->Ev k S S1->Q (.d (.int r)) S1):W3 (bJ aN (aq (bC i) (aq (xT f) bH)) δ S) Q:=
 cv (au (w_var hv (au (BE hf rfl (bF (Dw p hm Q_ fun r S1 h1 h2 p1 hl ho=>h r S1 h1 h2 ⟨p1,hl,ho⟩))))))
theorem fM{ds:List D}(e:S[q]? =some (.lst ds)):res S (.loc q)=some (.lst ds):=by unfold res;rw [e]
theorem p8(e:S[q]? =some (.lst (ks.map .int)))(hi:δ[i]? =some (some (.loc q))):bp iE (av (ah i) aP) (df S δ)= .ok (.int ks.length):=by
 refine aX (ds:=[.lst (ks.map .int)]) (aV ?_ rfl) (by rw[vO,List.length_map])
 unfold ah df;rw[List.getElem?_map,hi];show(match some (match res S (.loc q) with | some d=>Sl.val d | none=> .un) with | some (.val d)=>R.ok d | _=> .no)=_
 rw[fM e]
theorem LV{w:Nat}(h:w < ks.length):cR (.lst (ks.map .int)) (nI w)= .ok (.int ks[w]):=sx (N5 (by rw[List.getElem?_map,List.getElem?_eq_getElem h];rfl))
theorem KY{own:List Str}{kp:List Nat}{it:FA}{w:Nat}{Q:V3->aF->Prop}(e:S[q]? =some (.lst (ks.map .int)))(hw:w < ks.length)(hn:ks.length < 10000)(OO:oq own kp δ=[none,some (.loc q),some (.d (nI w))])
 (hit:W3 (it δ S) fun vs S1=>vs=(eM 0 ks.length).map .d/\S1=S) (h:∀l:List Nat,0 < l.length->l.length < 10000->(∀x∈l,x < ks.length/\ks.getD x 0=ks.getD w 0)->Q (.d (.lst (l.map nI))) S) :
 W3 (k4 it (jz 0) (bT (b2 kF (e2 cR (ah 1) (ah 0)) (e2 cR (ah 1) (ah 2)))) (xP (ah 0)) own kp δ S) Q:=by
 have hz:sizeLine=16777216:=sizeLine_eq;refine mP (fun i ds S2=>S2=S/\∃l:List Nat,ds=l.map nI/\(∀x∈l,x < ks.length/\ks.getD x 0=ks.getD w 0)/\l.length<=i/\(w < i->0 < l.length)) (hit.mono fun vs S1 ⟨e1,fR⟩=>?_)
 subst e1 fR;have hlen:((eM 0 ks.length).map V3.d).length=ks.length:=by simp [eM]
 rw[hlen];refine⟨by omega,⟨rfl,[],rfl,by simp,by simp,by omega⟩,?_,?_⟩
 .rintro i v ds S2 hv ⟨rfl,l,rfl,hl,O_,UL⟩;rw[OO];rw[List.getElem?_map] at hv;cases qq:(eM 0 ks.length)[i]? with
  | none=>rw [qq] at hv;cases hv
  | some d0=>
    rw[qq] at hv;obtain⟨hi,rfl⟩:=mJ qq;cases hv;refine⟨[some (.d (.int i)),some (.loc q),some (.d (nI w))],rfl,Oe (b:=decide (ks[i]=ks[w])) ?_ ?_⟩
    .have hT:df S2 [some (.d (.int i)),some (.loc q),some (.d (nI w))]=[.val (nI i), .val (.lst (ks.map .int)), .val (nI w)]:=by
      simp only[df,List.map_cons,List.map_nil,fM e];rfl
     rw[hT];exact dA (a:= .int ks[i]) (b:= .int ks[w]) (aH (a:= .lst (ks.map .int)) (b:=nI i) rfl rfl (LV hi)) (aH (a:= .lst (ks.map .int)) (b:=nI w) rfl rfl (LV hw)) rfl
    .by_cases hc:ks[i]=ks[w]
     .rw [decide_eq_true hc,if_pos rfl];refine bN rfl ⟨nI i,rfl,rfl,l++[i],by simp,?_,by simp;omega,by simp⟩
      intro x hx;rcases List.mem_append.mp hx with z | z
      .exact hl x z
      .rw [List.mem_singleton] at z;subst z;exact⟨hi,by rw[List.getD_eq_getElem?_getD,List.getD_eq_getElem?_getD,List.getElem?_eq_getElem hi,List.getElem?_eq_getElem hw,hc]⟩
     .rw [decide_eq_false hc,if_neg (by decide)]
      refine⟨rfl,l,rfl,hl,by omega,fun XJ=>UL ?_⟩
      have:w≠i:=fun z=>hc (by subst z;rfl)
      omega
 .rintro ds S2 ⟨rfl,l,rfl,hl,O_,UL⟩;exact h l (UL hw) (by omega) hl
theorem Lb{f:FX}{fm:FD}{l:List Nat}{Q:V3->aF->Prop}(hf:W3 (f δ S) fun v S1=>v= .d (.lst (l.map nI))/\S1=S)(hv:δ[i]? =some (some (.loc k)))(p:yD k S)(hm:fm (down δ)= .ok (.int l.length))(hl:0 < l.length)(EF:l.length < 10000)
 (h:∀x S1,x∈l->Ev k S S1->Q (.d (nI x)) S1):W3 (Ly f (bJ aN (aq (bC i) (aq (xP fm) bH))) δ S) Q:=by
 refine FC (hf.mono fun v S1 ⟨e1,fR⟩=>?_)
 subst e1 fR;refine draw hv p hm (by omega) (by omega) fun r S2 h1 h2 v2=>⟨_,_,nI (l[r.toNat]'(by omega)),rfl,rfl,sx ?_,h _ S2 (List.getElem_mem _) v2⟩
 rw[nP h1 (by rw[List.length_map];omega)]
 simp
end
theorem A0(ws:List Nat):pB (.tup (ws.map nI))=true:=by
 unfold pB
 induction ws with
 | nil=>unfold ni;rfl
 | cons w ws ih=>rw [List.map_cons];unfold ni;rw [ih];rfl
theorem Io(c:Int)(n:Nat):(List.replicate n [D.int c]).flatten=(List.replicate n c).map D.int:=by
 induction n with
 | zero=>rfl
 | succ n ih=>rw [List.replicate_succ,List.flatten_cons,ih,List.replicate_succ];rfl
theorem MC{f:aw->R (List D)}{g:FD}{δ:aw}{ds:List D}{n:Nat}(h1:f δ= .ok ds)(h2:g δ= .ok (.int n))(hn:n < 1000000)(hl:ds.length*n<=sizeLine):K1 f g δ= .ok (List.replicate n ds).flatten:=by
 unfold K1;rw[h1,R.aT,h2,R.aT];show R.bW (decide (0<=(n:Int)/\(n:Int) < 1000000/\ds.length*(n:Int).toNat<=sizeLine)) _=_;rw[cN _ ⟨by omega,by omega,by rw[Int.toNat_natCast];exact hl⟩,Int.toNat_natCast]
def pv(l:ZA)(gs:List Gt)(ms:List M)(p n:Nat):Bool:=nD (qJ gs [] (dQ l ms [] l.length) gs.length) n p
theorem uF{gs:List Gt}{t:List Int}{w0:List M}{n:Nat}:∀{j i:Nat},i<=j->j<=gs.length->n < w0.length+i->nD (qJ gs t w0 j) n=nD (qJ gs t w0 i) n
 | 0,i,h,_,_=>by rw[show i=0 by omega]
 | j+1,i,h,hj,hn=>by
   by_cases q:i=j+1
   .rw [q]
   .rw [<-uF (j:=j) (i:=i) (by omega) (by omega) hn]
    conv=>lhs;unfold qJ
    rw[List.getElem?_eq_getElem (by omega:j < gs.length)]
    show nD (qJ gs t w0 j++[_]) n=_;rw[y0 (by rw[rY j (by omega)];omega)]
theorem DG{gs hs:List Gt}{t:List Int}{w0:List M}:∀i,i<=gs.length->qJ (gs++hs) t w0 i=qJ gs t w0 i
 | 0,_=>rfl
 | i+1,hi=>by
   unfold qJ;rw[List.getElem?_append_left (by omega),List.getElem?_eq_getElem (by omega:i < gs.length),DG i (by omega)]
theorem Ab{l:ZA}{x:Str × Nat}{ms:List M}{bad:List Int}:∀i,i<=l.length->dQ (l++[x]) ms bad i=dQ l ms bad i
 | 0,_=>rfl
 | i+1,hi=>by
   unfold dQ;rw[List.getElem?_append_left (by omega),Ab i (by omega)]
theorem xH{l:ZA}{ms:List M}{bad:List Int}(hb:l.length<=ms.length):∀i,i<=l.length->(dQ l ms bad i).length=jc (l.take i)
 | 0,_=>rfl
 | i+1,hi=>by
   have h1:l[i]? =some l[i]:=List.getElem?_eq_getElem (by omega)
   have h2:ms[i]? =some ms[i]:=List.getElem?_eq_getElem (by omega)
   unfold dQ;rw[h1,h2];show(ju bad ms[i] l[i].2 (dQ l ms bad i)).length=_;rw[il,xH hb i (by omega),List.take_add_one,h1]
   unfold jc;simp only[Option.toList_some,List.map_append,List.sum_append,List.map_cons,List.map_nil,List.sum_cons,List.sum_nil];omega
theorem ye(b:M):∀m ws n,n < ws.length->nD (ju [] b m ws) n=nD ws n
 | 0,ws,n,h=>rfl
 | m+1,ws,n,h=>by unfold ju;rw [y0 (by rw[il];omega)];exact ye b m ws n h
theorem ym(b:M):∀m ws n,ws.length<=n->n < ws.length+m->nD (ju [] b m ws) n=b
 | 0,ws,n,h,h2=>by omega
 | m+1,ws,n,h,h2=>by
   have hl:=il [] b m ws;unfold ju;by_cases q:n < ws.length+m
   .rw [y0 (by omega)];exact ym b m ws n h q
   .rw [show n=(ju [] b m ws).length by omega,Aq]
    funext p;simp
structure Lp (l:ZA) (ks:List Int):Prop where
 len:ks.length=jc l
 v:∀n,n < ks.length->∃j:Nat,j < l.length/\ks.getD n 0=(j:Int)/\∀ms:List M,l.length<=ms.length->nD (dQ l ms [] l.length) n=ms.getD j fun _=>false
theorem Lp.nil:Lp [] []:=⟨rfl,fun n h=>by simp at h⟩
theorem lT{ks:List Int}{xs:List Int}{n:Nat}(h:n < ks.length):(ks++xs).getD n 0=ks.getD n 0:=by rw[List.getD_eq_getElem?_getD,List.getElem?_append_left h,List.getD_eq_getElem?_getD]
theorem Lp.add{l:ZA}{ks:List Int}(h:Lp l ks)(s:Str)(w:Nat):Lp (l++[(s,w)]) (ks++List.replicate w (l.length:Int)):=by
 have hw:jc (l++[(s,w)])=jc l+w:=by simp [jc]
 refine⟨by rw[List.length_append,List.length_replicate,h.len,hw],fun n hn=>?_⟩
 rw[List.length_append,List.length_replicate] at hn;have step:∀ms:List M,(l++[(s,w)]).length<=ms.length->dQ (l++[(s,w)]) ms [] (l++[(s,w)]).length=ju [] (ms.getD l.length fun _=>false) w (dQ l ms [] l.length)/\(dQ l ms [] l.length).length=ks.length:=fun ms tw=>by
  rw[List.length_append] at tw ⊢;have tw:l.length < ms.length:=tw;refine⟨?_,by rw[xH (by omega) _ (Nat.le_refl _),List.take_length,h.len]⟩
  show dQ (l++[(s,w)]) ms [] (l.length+1)=_
  conv=>lhs;unfold dQ
  rw[List.getElem?_append_right (Nat.le_refl _),Nat.sub_self,List.getElem?_eq_getElem tw,Ab _ (Nat.le_refl _),List.getD_eq_getElem?_getD,List.getElem?_eq_getElem tw];rfl
 by_cases q:n < ks.length
 .obtain⟨j,hj,hk,hv⟩:=h.v n q;refine⟨j,by rw[List.length_append];omega,by rw[lT q];exact hk,fun ms tw=>?_⟩
  obtain⟨e1,e2⟩:=step ms tw;rw[e1,ye _ _ _ _ (by omega)]
  exact hv ms (by rw[List.length_append] at tw;omega)
 .refine⟨l.length,by rw[List.length_append];simp,?_,fun ms tw=>?_⟩
  .rw [List.getD_eq_getElem?_getD,List.getElem?_append_right (by omega),List.getElem?_replicate,if_pos (by omega)];rfl
  .obtain⟨e1,e2⟩:=step ms tw;rw[e1,ym _ _ _ _ (by omega) (by omega)]
structure KI (l:ZA) (gs:List Gt) (ks:List Int):Prop where
 len:ks.length=jc l+gs.length
 b:∀n,n < ks.length->ks.getD n 0 < (l.length:Int)+gs.length
 v:∀ms:List M,ms.length=l.length->∀p n n',n < ks.length->n' < ks.length->ks.getD n 0=ks.getD n' 0->pv l gs ms p n=pv l gs ms p n'
theorem Lp.ki{l:ZA}{ks:List Int}(h:Lp l ks):KI l [] ks:=by
 refine⟨by rw[h.len];rfl,fun n hn=>?_,fun ms tw p n n' hn OF e=>?_⟩
 .obtain⟨j,hj,hk,_⟩:=h.v n hn;rw[hk];simp;omega
 .obtain⟨j,hj,hk,hv⟩:=h.v n hn;obtain⟨j',R7,Yu,T_⟩:=h.v n' OF;have:j=j':=by rw[hk,Yu] at e;omega
  subst this;show nD (dQ l ms [] l.length) n p=nD (dQ l ms [] l.length) n' p;rw[hv ms (by omega),T_ ms (by omega)]
section
variable {l:ZA} {gs:List Gt} {g:Gt} {ms:List M} {p n:Nat} {ks:List Int}
theorem Hl(tw:ms.length=l.length):(dQ l ms [] l.length).length=jc l:=by rw[rO tw _ (Nat.le_refl _),List.take_length]
theorem Hv(tw:ms.length=l.length)(hn:n < jc l+gs.length):pv l (gs++[g]) ms p n=pv l gs ms p n:=by
 have h0:=Hl tw;unfold pv;rw[uF (gs:=gs++[g]) (i:=gs.length) (by rw[List.length_append];omega) (Nat.le_refl _) (by omega),DG _ (Nat.le_refl _)]
theorem LY{i:Nat}(tw:ms.length=l.length)(h:gs[i]? =some g)(hg:Ad (jc l+i) g):pv l gs ms p (jc l+i)=gv g.1 (g.2.1.map (pv l gs ms p)):=by
 have h0:=Hl tw;have hi:=(List.getElem?_eq_some_iff.mp h).1;unfold pv;rw[uF (i:=i+1) (by omega) (Nat.le_refl _) (by omega)]
 conv=>lhs;unfold qJ
 rw[h];show nD (qJ gs [] (dQ l ms [] l.length) i++[fun p=>gF g (qJ gs [] (dQ l ms [] l.length) i) p !=false]) (jc l+i) p=_
 have hl:=rY (gs:=gs) (turned:=[]) (w0:=dQ l ms [] l.length) i (by omega)
 rw[show jc l+i=(qJ gs [] (dQ l ms [] l.length) i).length by omega,Aq]
 show(gv g.1 (g.2.1.map fun n=>nD (qJ gs [] (dQ l ms [] l.length) i) n p) !=false)=_
 have:g.2.1.map (fun n=>nD (qJ gs [] (dQ l ms [] l.length) i) n p)=g.2.1.map fun n=>nD (qJ gs [] (dQ l ms [] l.length) gs.length) n p:=List.map_congr_left fun z hz=>by
  rw[uF (j:=gs.length) (i:=i) (by omega) (Nat.le_refl _) (by have:=hg.2.2 z hz;omega)]
 rw[this];simp
theorem Hx{f:Nat->Bool}{ks:List Int}{N:Nat}(hf:∀a b,a < N->b < N->ks.getD a 0=ks.getD b 0->f a=f b):∀{u v:List Nat},(∀x∈u,x < N)->(∀x∈v,x < N)->u.map (ks.getD · 0)=v.map (ks.getD · 0)->u.map f=v.map f
 | [],[],_,_,_=>rfl
 | [],_ ::_,_,_,h=>by simp at h
 | _ ::_,[],_,_,h=>by simp at h
 | a ::u,b ::v,h1,h2,h=>by
   rw[List.map_cons,List.map_cons] at h;obtain⟨e1,e2⟩:=List.cons.inj h;rw[List.map_cons,List.map_cons,hf a b (h1 a List.mem_cons_self) (h2 b List.mem_cons_self) e1,Hx hf (fun x hx=>h1 x (List.mem_cons_of_mem _ hx)) (fun x hx=>h2 x (List.mem_cons_of_mem _ hx)) e2]
theorem KI.add{x:Int}(h:KI l gs ks)(zG:∀(i:Nat) (g:Gt),gs[i]? =some g->Ad (jc l+i) g)(hg:Ad ks.length g)
 (hx:x=(l.length:Int)+gs.length\/∃pl g0,gs[pl]? =some g0/\x=ks.getD (jc l+pl) 0/\g.1=g0.1/\g.2.1.map (ks.getD · 0)=g0.2.1.map (ks.getD · 0)):KI l (gs++[g]) (ks++[x]):=by
 have hl:=h.len;have hlast:(ks++[x]).getD ks.length 0=x:=by rw[List.getD_eq_getElem?_getD,List.getElem?_append_right (Nat.le_refl _),Nat.sub_self];rfl
 have Pb:(ks++[x]).length=ks.length+1:=by simp
 refine⟨by rw[Pb,hl,List.length_append];rfl,fun n hn=>?_,?_⟩
 .rw [Pb] at hn;rw[List.length_append,List.length_singleton];by_cases q:n < ks.length
  .rw [lT q];have:=h.b n q;omega
  .rw [show n=ks.length by omega,hlast]
   rcases hx with rfl | ⟨pl,g0,h0,rfl,_⟩
   .omega
   .have:=h.b (jc l+pl) (by have:=(List.getElem?_eq_some_iff.mp h0).1;omega);omega
 .intro ms tw p;have new:∀pl g0,gs[pl]? =some g0->x=ks.getD (jc l+pl) 0->g.1=g0.1->g.2.1.map (ks.getD · 0)=g0.2.1.map (ks.getD · 0)->pv l (gs++[g]) ms p ks.length=pv l gs ms p (jc l+pl):=fun pl g0 h0 _ e1 e2=>by
   have m7:=(List.getElem?_eq_some_iff.mp h0).1;have hgat:(gs++[g])[gs.length]? =some g:=by rw[List.getElem?_append_right (Nat.le_refl _),Nat.sub_self];rfl
   rw[hl,LY tw hgat (by rw[<-hl];exact hg),LY tw h0 (zG pl g0 h0),e1]
   have e3:g.2.1.map (pv l (gs++[g]) ms p)=g.2.1.map (pv l gs ms p):=List.map_congr_left fun z hz=>Hv tw (by have:=hg.2.2 z hz;omega)
   rw[e3];congr 1;exact Hx (N:=ks.length) (fun a b ha hb e=>h.v ms tw p a b ha hb e) hg.2.2 (fun z hz=>by have:=(zG pl g0 h0).2.2 z hz;omega) e2
  have old:∀n,n < ks.length->pv l (gs++[g]) ms p n=pv l gs ms p n:=fun n hn=>Hv tw (by omega)
  have mix:∀n,n < ks.length->ks.getD n 0=x->pv l (gs++[g]) ms p n=pv l (gs++[g]) ms p ks.length:=fun n hn e=>by
   rcases hx with rfl | ⟨pl,g0,h0,hx,e1,e2⟩
   .have:=h.b n hn;omega
   .rw [new pl g0 h0 hx e1 e2,old n hn];exact h.v ms tw p n _ hn (by have:=(List.getElem?_eq_some_iff.mp h0).1;omega) (e.trans hx)
  intro n n' hn OF e;rw[Pb] at hn OF;by_cases q:n < ks.length
  .rw [lT q] at e;by_cases q':n' < ks.length
   .rw [lT q'] at e;rw[old n q,old n' q'];exact h.v ms tw p n n' q q' e
   .have en':n'=ks.length:=by omega
    subst en';rw[hlast] at e;exact mix n q e
  .have en:n=ks.length:=by omega
   subst en;by_cases q':n' < ks.length
   .rw [lT q',hlast] at e;exact(mix n' q' e.symm).symm
   .rw [show n'=ks.length by omega]
end
theorem yD.app{k:Nat}{S X:aF}(p:yD k S)(hX:Flat X):yD k (S++X):=by
 have h:=p.lt;obtain⟨hL,a,c,e⟩:=p;exact⟨fun o ho=>(List.mem_append.mp ho).elim (hL o) (hX o),a,c,by rw[List.getElem?_append_left h];exact e⟩
theorem Ev.split{k:Nat}{S X S2:aF}(v:Ev k (S++X) S2)(hk:k < S.length):∃S',S2=S'++X/\Ev k S S':=by
 have hl:=v.len;rw[List.length_append] at hl;refine⟨S2.take S.length,?_,⟨v.p.1.take _,?_⟩,by rw[List.length_take];omega,fun j hj=>?_⟩
 .have e:S2.drop S.length=X:=by
   refine List.ext_getElem? fun i=>?_
   rw[List.getElem?_drop,v.oth _ (by omega),List.getElem?_append_right (by omega),show S.length+i - S.length=i by omega]
  rw[<-e,List.take_append_drop]
 .obtain⟨_,a,c,e⟩:=v.p;exact⟨a,c,by rw[List.getElem?_take_of_lt hk];exact e⟩
 .by_cases q:j < S.length
  .rw [List.getElem?_take_of_lt q,v.oth j hj,List.getElem?_append_left q]
  .rw [List.getElem?_eq_none (by rw[List.length_take];omega),List.getElem?_eq_none (by omega)]
theorem xx(a:List D):Flat [SO.lst a]:=fun o ho=>by rw[List.mem_singleton.mp ho];exact mr _
theorem x_(a b:List D):Flat [SO.lst a,SO.lst b]:=fun o ho=>by
 simp only[List.mem_cons,List.not_mem_nil,or_false] at ho;rcases ho with rfl | rfl <;> exact mr _
theorem qT(a b c:List D):Flat [SO.lst a,SO.lst b,SO.lst c]:=fun o ho=>by
 simp only[List.mem_cons,List.not_mem_nil,or_false] at ho;rcases ho with rfl | rfl | rfl <;> exact mr _
theorem sS{k:Nat}{S S1 X:aF}{d:D}{v:V3}{Q:V3->aF->Prop}(e:Ev k S S1)(hX:Flat X)(hg:eN S.length v=true)(hr:res (S1++X) v=some d)(h:Q (.d d) S1):Flat (S1++X)/\eN S.length v=true/\∃d,res (S1++X) v=some d/\Q (.d d) ((S1++X).take S.length):=by
 refine⟨fun o ho=>(List.mem_append.mp ho).elim (e.p.1 o) (hX o),hg,d,hr,?_⟩
 rw[<-e.len,List.take_left];exact h
end K25
end
section
namespace K25
open PySem PySem.Spec PyProof.Rows L2 L3 MT
def Ik:List Str:=["a","bb","signal","x","yes","abcdefgh"]
theorem MI:∀s∈Ik,fQ 0 (.str s):=fun s hs=>by
 simp only[Ik,List.mem_cons,List.not_mem_nil,or_false] at hs;rcases hs with rfl | rfl | rfl | rfl | rfl | rfl <;> exact fQ.str (by decide+kernel)
theorem Qm{n:Int}(h0:0<=n)(h:n < 6):∃s∈Ik,cR (.lst (Ik.map .str)) (.int n)= .ok (.str s):=by
 refine⟨Ik[n.toNat]'(by simp [Ik];omega),List.getElem_mem _,?_⟩
 obtain⟨m,rfl⟩:=Int.eq_ofNat_of_zero_le h0;exact NT.kJ (by rw[List.getElem?_map,List.getElem?_eq_getElem (by simp [Ik];omega)];rfl)
def MO(x:Str × Nat):Prop:=(1<=x.2/\x.2<=3)/\fQ 0 (.str x.1)
theorem Al{S:aF}{k:Nat}{mo:Int}(p:yD k S)(UX:1<=mo/\mo<=6){Q:V3->aF->Prop}
 (h:∀(l:ZA) S1,(∀x∈l,MO x)->1<=l.length->(l.length:Int)<=mo->Ev k S S1->Q (.d (.lst (l.map MT.inD))) S1) :
 W3 (f7 [.loc k, .d (.int mo), .d (.int 3)] S) Q:=by
 have hz:sizeLine=16777216:=sizeLine_eq;have hk:=p.lt;unfold f7;refine tK (uB rfl ?_);simp only[cm,gy,List.map,List.length,List.replicate,List.cons_append,List.nil_append,Nat.reduceAdd,Nat.reduceSub];unfold jZ;refine aK <| bq (by simp) <| bN (d:= .lst (Ik.map .str)) rfl ⟨_,rfl,?_⟩
 simp only[List.set];refine aK <| bq (by simp) <| draw (k:=k) rfl p rfl (by omega) (by omega) fun t S1 h1 h2 v1=>⟨_,rfl,?_⟩
 simp only[List.set];refine aK <| bq (by simp) <| ic (ds:=[]) rfl ⟨_,rfl,?_⟩
 simp only[List.set];have l1:=v1.len;refine aK <| dJ <| uS <| L9 <| bN (d:= .int 1) rfl <| draw (k:=k) rfl (v1.p.app (xx [])) rfl UX.1 (by omega) fun r S2 h3 h4 v2=>?_
 obtain⟨S3,rfl,v3⟩:=v2.split (by omega)
 obtain⟨n,rfl⟩:=Int.eq_ofNat_of_zero_le h3;refine⟨_,_, .int ((1+n:Nat):Int),rfl,rfl,?_,1+n,rfl,by omega,?_⟩
 .show R.ok (D.int (1+(n:Int)))=_;congr 2
 refine(bA (fun i δ S4=>∃(l:ZA) (S':aF) (a6:Option V3),l.length=i/\(∀x∈l,MO x)/\Ev k S S'/\S4=S'++[.lst (l.map MT.inD)]/\δ=[some (.loc k),some (.d (.int mo)),some (.d (.int 3)),some (.d (.lst (Ik.map .str))),some (.d (.int t)),some (.loc S1.length),a6])
  ⟨[],S3,none,rfl,by simp,v1.trans v3,rfl,rfl⟩ ?_).mono fun o S4 ⟨Mm,e4,l,S',a6,hl,hlo,vS,OV,hδ⟩=>⟨Mm,e4,?_⟩
 .rintro i v δ S4 hv ⟨l,S',a6,hl,hlo,vS,rfl,rfl⟩;obtain⟨hi,rfl⟩:=NT.mJ hv;have lS:=vS.len;refine⟨[some (.loc k),some (.d (.int mo)),some (.d (.int 3)),some (.d (.lst (Ik.map .str))),some (.d (.int t)),some (.loc S1.length),some (.d (.int i))],rfl,?_⟩;unfold l_;have hg:(S'++[SO.lst (l.map MT.inD)])[S1.length]? =some (.lst (l.map MT.inD)):=by rw[show S1.length=S'.length by omega];exact bg _ _
  obtain⟨s,hs,es⟩:=Qm (n:=(t+(i:Int)) % 6) (Int.emod_nonneg _ (by omega)) (Int.emod_lt_of_pos _ (by omega))
  refine pU (k:=S1.length) rfl ⟨_,hg⟩ <| rR <| au <| bN (d:= .str s) (aH (a:= .lst (Ik.map .str)) (b:= .int ((t+(i:Int)) % 6)) rfl (aH (a:= .int (t+(i:Int))) (b:= .int 6) (aH (a:= .int t) (b:= .int i) rfl rfl rfl) rfl (C8 (by omega))) es) <| au <| L9 <| bN (d:= .int 1) rfl <| draw (k:=k) (m:=3) rfl (vS.p.app (xx _)) rfl (by omega) (by omega) fun r2 S5 h5 h6 v5=>?_
  obtain⟨S6,rfl,v6⟩:=v5.split (by omega)
  obtain⟨w,rfl⟩:=Int.eq_ofNat_of_zero_le h5;have l6:=v6.len;refine⟨_,_,nI (1+w),rfl,rfl,?_,bF ⟨by simp;omega,MT.inD (s,1+w),l.map MT.inD,rfl,?_,by rw[List.length_map];omega,_,rfl,l++[(s,1+w)],S6,_,by simp [hl],?_,vS.trans v6,?_,rfl⟩⟩
  .show R.ok (D.int (1+(w:Int)))=R.ok (D.int ((1+w:Nat):Int));congr 2
  .rw [show S1.length=S6.length by omega];exact bg _ _
  .intro x hx;rcases List.mem_append.mp hx with q | q
   .exact hlo x q
   .rw [List.mem_singleton.mp q];exact⟨⟨by show 1<=1+w;omega,by show 1+w<=3;omega⟩,MI s hs⟩
  .rw [show S1.length=S6.length by omega,cP,List.map_append];rfl
 .subst hδ OV;rw[NT.j8] at hl;have lS:=vS.len;refine dD <| w_var (v:= .loc S1.length) rfl ⟨_,rfl,sS vS (xx _) ?_ (fM ?_) (h l S' hlo (by omega) (by omega) vS)⟩
  .show decide (S.length<=S1.length)=true;exact decide_eq_true (by omega)
  .rw [show S1.length=S'.length by omega];exact bg _ _
def L5:List D:=[.str "not", .str "and", .str "or", .str "xor", .str "vote", .str "and", .str "or", .str "xor"]
def TR:List (Key × V):=[((Sum.inr "not":Key),V.int 1),((Sum.inr "vote":Key),V.int 3)]
theorem KD(r:Nat)(h:r < 8):∃kd,kd<=4/\cR (.lst L5) (.int r)= .ok (.str (kS kd))/\(match lh (lg [] TR) (Sum.inr (kS kd)) with | some (.int i)=>R.ok (D.int i) | none=> .ok (.int 2) | _=> .no)= .ok (.int (ar kd)):=by
 match r,h with
 | 0,_=>exact⟨0,by omega,rfl,rfl⟩
 | 1,_=>exact⟨1,by omega,rfl,rfl⟩
 | 2,_=>exact⟨2,by omega,rfl,rfl⟩
 | 3,_=>exact⟨3,by omega,rfl,rfl⟩
 | 4,_=>exact⟨4,by omega,rfl,rfl⟩
 | 5,_=>exact⟨1,by omega,rfl,rfl⟩
 | 6,_=>exact⟨2,by omega,rfl,rfl⟩
 | 7,_=>exact⟨3,by omega,rfl,rfl⟩
def O5(kd:Nat)(ws:List Nat):D:= .tup [.str (kS kd), .tup (ws.map nI)]
theorem J4{S:aF}{k n:Nat}(p:yD k S)(h0:0 < n)(hn:n < 10000){Q:V3->aF->Prop}(h:∀kd (ws:List Nat) S1,kd<=4->ws.length=ar kd->(∀w∈ws,w < n)->Ev k S S1->Q (.d (O5 kd ws)) S1) :
 W3 (kU [.loc k, .d (nI n)] S) Q:=by
 have hz:sizeLine=16777216:=sizeLine_eq;have hk:=p.lt;unfold kU;refine tK (uB rfl ?_);simp only[cm,jT,List.map,List.length,List.replicate,List.cons_append,List.nil_append,Nat.reduceAdd,Nat.reduceSub];unfold qw;refine aK <| bq (by simp) <| FC <| bN (d:= .lst L5) rfl <| draw (k:=k) rfl p rfl (by omega) (by omega) fun r S1 h1 h2 v1=>?_
 obtain⟨kd,Pj,e1,fR⟩:=KD r.toNat (by omega)
 rw[Int.toNat_of_nonneg h1] at e1;refine⟨_,_,_,rfl,rfl,e1,_,rfl,?_⟩;simp only[List.set];refine aK <| bq (by simp) <| bN (d:= .int (ar kd)) fR ⟨_,rfl,?_⟩
 simp only[List.set];have har:=G_ kd;refine aK <| bq (by simp) <| mP (fun j ds S2=>Ev k S S2/\∃ws:List Nat,ds=ws.map nI/\ws.length=j/\∀w∈ws,w < n) (jC (ds:=eM 0 (ar kd)) (kW (n:=ar kd) rfl (by omega)) ⟨by rw[NT.j8];omega,⟨v1,[],rfl,rfl,by simp⟩,?_,?_⟩)
 .rintro j v ds S2 hv ⟨v2,ws,rfl,zF,Mn⟩;obtain⟨hj,rfl⟩:=NT.mJ hv;refine⟨[some (.d (.int j)),some (.loc k),some (.d (nI n))],rfl,xK ?_⟩;rw[if_pos rfl];have hmn:∃mn:Int,0 < mn/\mn<=n/\tR [nI n, .int 4]= .ok (.int mn):=⟨if(4:Int) < n then 4 else n,by split <;> omega,by split <;> omega,rfl⟩
  obtain⟨mn,m1,m2,m3⟩:=hmn;obtain⟨m,Ul,Q_,X8⟩:∃m:Int,0 < m/\m<=n/\cR (.lst [nI n, .int mn]) (.int ((j:Int) % 2))= .ok (.int m):=by
   have:(j:Int) % 2=0\/(j:Int) % 2=1:=by omega
   rcases this with q | q
   .rw [q];exact⟨n,by omega,by omega,rfl⟩
   .rw [q];exact⟨mn,by omega,by omega,rfl⟩
  refine L9 <| bN (d:= .int ((n:Int) - 1)) rfl <| draw (k:=k) (m:=m) rfl v2.p (aH (a:= .lst [nI n, .int mn]) (b:= .int ((j:Int) % 2)) (dI (pd (aV rfl (aV (aX (ds:=[nI n, .int 4]) rfl m3) rfl)) (by simp;omega))) (aH (a:= .int j) (b:= .int 2) rfl rfl (C8 (by omega))) X8) Ul (by omega) fun r2 S3 h3 h4 v3=>?_
  obtain⟨w,hw⟩:∃w:Nat,(n:Int) - 1 - r2=w:=⟨((n:Int) - 1 - r2).toNat,by omega⟩
  refine⟨_,_,nI w,rfl,rfl,?_,_,rfl,v2.trans v3,ws++[w],by simp,by simp [zF],?_⟩
  .show R.ok (D.int ((n:Int) - 1 - r2))=_;rw[hw];rfl
  .intro x hx;rcases List.mem_append.mp hx with q | q
   .exact Mn x q
   .rw [List.mem_singleton.mp q];omega
 .rintro ds S2 ⟨v2,ws,rfl,zF,Mn⟩;rw[NT.j8] at zF;refine⟨_,rfl,?_⟩;simp only[List.set];have:=sS (X:=[]) (v:= .d (O5 kd ws)) (d:=O5 kd ws) (Q:=Q) v2 (fun o ho=>by cases ho) rfl (by unfold res;rfl) (h kd ws S2 Pj zF Mn v2)
  rw[List.append_nil] at this;exact dD <| bN (d:=O5 kd ws) rfl ⟨_,rfl,this⟩
theorem rF{S:aF}{k q w:Nat}{ks:List Int}(p:yD k S)(hq:q≠k)(e:S[q]? =some (.lst (ks.map .int)))(hw:w < ks.length)(hn:ks.length < 10000){Q:V3->aF->Prop}(h:∀x S1,x < ks.length->ks.getD x 0=ks.getD w 0->Ev k S S1->Q (.d (nI x)) S1) :
 W3 (er [.loc k, .loc q, .d (nI w)] S) Q:=by
 have hz:sizeLine=16777216:=sizeLine_eq;have hk:=p.lt;unfold er;refine tK (uB rfl ?_);simp only[cm,kf,List.map,List.length,List.replicate,List.cons_append,List.nil_append,Nat.reduceAdd,Nat.reduceSub];unfold pZ;refine aK <| bq (by simp) <| KY (q:=q) e hw hn rfl (uS (BE (d:= .int ks.length) (p8 e rfl) rfl ⟨ks.length,rfl,by omega,rfl,rfl⟩)) fun l Xm yw EF=>⟨_,rfl,?_⟩
 simp only[List.set];refine dD <| Lb (k:=k) (l:=l) (bN rfl ⟨rfl,rfl⟩) rfl p (aX (ds:=[.lst (l.map nI)]) rfl (by rw[vO,List.length_map])) Xm yw fun x S3 hx v3=>⟨_,rfl,?_⟩
 have:=sS (X:=[]) (v:= .d (nI x)) (d:=nI x) (Q:=Q) v3 (fun o ho=>by cases ho) rfl (by unfold res;rfl) (h x S3 (EF x hx).1 (EF x hx).2 v3)
 rw[List.append_nil] at this;exact this
end K25
end
section
namespace K25
open PySem PySem.Spec PyProof.Rows L2 L3 MT
theorem NN{f g:FB}{δ:DE}{S:aF}{QB:Bool->aF->Prop}(h:W3 (f δ S) fun b S1=>(b=false/\QB false S1)\/(b=true/\W3 (g δ S1) QB)):W3 (Nt f g δ S) QB:=W3.bind (h.mono fun b S1 h=>by
 rcases h with⟨e,q⟩ | ⟨e,q⟩
 .subst e;rw [if_neg (by decide)];exact W3.ok q
 .subst e;rw [if_pos rfl];exact q)
theorem g1{S:aF}{a b:SO}:(S++[a,b])[S.length]? =some a:=by rw[List.getElem?_append_right (Nat.le_refl _),Nat.sub_self];rfl
theorem g2{S:aF}{a b:SO}:(S++[a,b])[S.length+1]? =some b:=by rw[List.getElem?_append_right (by omega),show S.length+1 - S.length=1 by omega];rfl
theorem s1{S:aF}{a b c:SO}:(S++[a,b]).set S.length c=S++[c,b]:=by rw[List.set_append_right _ _ (Nat.le_refl _),Nat.sub_self];rfl
theorem s2{S:aF}{a b c:SO}:(S++[a,b]).set (S.length+1) c=S++[a,c]:=by rw[List.set_append_right _ _ (by omega),show S.length+1 - S.length=1 by omega];rfl
theorem t1{S:aF}{a b d:SO}:(S++[a,b,d])[S.length]? =some a:=by rw[List.getElem?_append_right (Nat.le_refl _),Nat.sub_self];rfl
theorem t2{S:aF}{a b d:SO}:(S++[a,b,d])[S.length+1]? =some b:=by rw[List.getElem?_append_right (by omega),show S.length+1 - S.length=1 by omega];rfl
theorem t3{S:aF}{a b d:SO}:(S++[a,b,d])[S.length+2]? =some d:=by rw[List.getElem?_append_right (by omega),show S.length+2 - S.length=2 by omega];rfl
theorem u3{S:aF}{a b d c:SO}:(S++[a,b,d]).set (S.length+2) c=S++[a,b,c]:=by rw[List.set_append_right _ _ (by omega),show S.length+2 - S.length=2 by omega];rfl
theorem tJ{δ:DE}{S:aF}{i:Nat}{v:V3}{d:D}(h:δ[i]? =some (some v))(hr:res S v=some d):ah i (df S δ)= .ok d:=by
 unfold ah df;rw[List.getElem?_map,h];show(match (some (match res S v with | some d=>Sl.val d | none=> .un)) with | some (.val d)=>R.ok d | _=> .no)=_
 rw[hr]
theorem NV{g:Gt}:fQ 2 (fP g):=by
 refine fQ.tup fun x hx=>?_
 simp only[List.mem_cons,List.not_mem_nil,or_false] at hx;rcases hx with rfl | rfl | rfl
 .refine(fQ.str ?_).mono (by omega)
  unfold kS;split <;> decide+kernel
 .exact fQ.tup fun d hd=>by obtain⟨z,_,rfl⟩:=List.mem_map.mp hd;exact fQ.int _
 .exact(fQ.bl _).mono (by omega)
theorem Nh(gs:List Gt):F8 (.lst (gs.map fP)) (.lst [])= .ok gs.isEmpty:=by
 have f:fQ 3 (.lst (gs.map fP)):=fQ.lst fun d hd=>by obtain⟨g,_,rfl⟩:=List.mem_map.mp hd;exact NV
 have f2:fQ 1 (.lst []):=fQ.lst fun d hd=>by cases hd
 rw[BJ,f.pl,f.sh (by omega),f2.pl,f2.sh (by omega)]
 cases gs with
 | nil=>rfl
 | cons g gs=>rfl
def ve(l:ZA)(gs:List Gt):Prop:=∀(i:Nat) (g:Gt),gs[i]? =some g->Ad (jc l+i) g
theorem ve.add{l:ZA}{gs:List Gt}{g:Gt}(h:ve l gs)(hg:Ad (jc l+gs.length) g):ve l (gs++[g]):=fun j g' hj=>by
 by_cases hjl:j < gs.length
 .rw [List.getElem?_append_left hjl] at hj;exact h j g' hj
 .rw [List.getElem?_append_right (by omega)] at hj
  have h0:j - gs.length=0:=by
   have:=(List.getElem?_eq_some_iff.mp hj).1;simp at this;omega
  rw[h0] at hj;cases hj;rw[show j=gs.length by omega]
  exact hg
def sE(k a:Nat)(mo ga:D)(ins:D)(fi:Nat)(a6 a7 a8 Dj BG BI BH:Option V3):DE:=[some (.loc k),some (.d mo),some (.d ga),some (.d (.int 3)),some (.d ins),some (.loc a),a6,a7,a8,some (.loc (a+1)),some (.d (nI fi)),Dj,BG,BI,BH,none,none]
theorem FJ{k i:Nat}{mo ga:D}{S S1:aF}{l:ZA}{gs:List Gt}{ks:List Int}{a7 a8 Dj BG BI BH:Option V3}(hk:k < S.length)(yw:1<=jc l)(Pb:l.length < 100)(hi:i < 100)(Di:gs.length=i)(zG:ve l gs)(hK:KI l gs ks)(zF:jc l < 1000)(v:Ev k S S1) :
 W3 (ie (sE k S.length mo ga (.lst (l.map MT.inD)) (jc l) (some (.d (.int i))) a7 a8 Dj BG BI BH) (S1++[.lst (ks.map .int), .lst (gs.map fP)])) fun o S2=>∃cK,o= .nx cK/\∃(g:Gt) (x:Int) (S3:aF) (b7 b8 Rc OR Q8 Mt:Option V3),cK=sE k S.length mo ga (.lst (l.map MT.inD)) (jc l) (some (.d (.int i))) b7 b8 Rc OR Q8 Mt/\Ev k S S3/\S2=S3++[.lst ((ks++[x]).map .int), .lst ((gs++[g]).map fP)]/\ve l (gs++[g])/\KI l (gs++[g]) (ks++[x]):=by
 have hz:sizeLine=16777216:=sizeLine_eq;have hkl:=hK.len;have lv:=v.len;have ha:∀{T:aF} {x y:SO},T.length=S.length->(T++[x,y])[S.length]? =some x:=fun h=>by rw[<-h];exact g1
 have hb:∀{T:aF} {x y:SO},T.length=S.length->(T++[x,y])[S.length+1]? =some y:=fun h=>by rw[<-h];exact g2
 have sa:∀{T:aF} {x y z:SO},T.length=S.length->(T++[x,y]).set S.length z=T++[z,y]:=fun h=>by rw[<-h];exact s1
 have sb:∀{T:aF} {x y z:SO},T.length=S.length->(T++[x,y]).set (S.length+1) z=T++[x,z]:=fun h=>by rw[<-h];exact s2
 unfold ie sE;refine aK <| Mf <| cv <| au <| w_var (v:= .loc k) rfl <| au <| BE (d:=nI ks.length) (p8 (ha lv) rfl) rfl <| bF <| J4 (v.p.app (x_ _ _)) (by omega) (by omega) fun kd ws S2 Pj LJ Mn v2=>?_
 obtain⟨S3,rfl,v3⟩:=v2.split (by omega)
 have l3:=v3.len;refine⟨_,rfl,_,rfl,?_⟩;show W3 (aY _ _ [some (.loc k),some (.d mo),some (.d ga),some (.d (.int 3)),some (.d (.lst (l.map MT.inD))),some (.loc S.length),some (.d (.int i)),a7,a8,some (.loc (S.length+1)),some (.d (nI (jc l))),some (.d (.str (kS kd))),some (.d (.tup (ws.map nI))),BI,BH,none,none] _) _;refine aK <| bq (by simp) <| bN (d:= .int ((l.length:Int)+gs.length)) ?_ ⟨_,rfl,?_⟩
 .rw [Di];exact aH (a:= .int l.length) (b:= .int i) (aX (ds:=[.lst (l.map MT.inD)]) rfl (by rw[vO,List.length_map])) rfl rfl
 simp only[List.set];refine aK (W3.mono (Q:=fun o S4=>∃(kd:Nat) (ws:List Nat) (x:Int) (S5:aF) (Mt:Option V3),o= .nx [some (.loc k),some (.d mo),some (.d ga),some (.d (.int 3)),some (.d (.lst (l.map MT.inD))),some (.loc S.length),some (.d (.int i)),a7,a8,some (.loc (S.length+1)),some (.d (nI (jc l))),some (.d (.str (kS kd))),some (.d (.tup (ws.map nI))),some (.d (.int x)),Mt,none,none]/\S4=S5++[.lst (ks.map .int), .lst (gs.map fP)]/\Ev k S S5/\kd<=4/\ws.length=ar kd/\(∀w∈ws,w < ks.length)/\(x=(l.length:Int)+gs.length\/∃pl g0,gs[pl]? =some g0/\x=ks.getD (jc l+pl) 0/\kd=g0.1/\ws.map (ks.getD · 0)=g0.2.1.map (ks.getD · 0))) ?_ ?_)
 .refine h_ <| NN <| Oe (b:=!gs.isEmpty) ?_ ?_
  .refine dA (a:= .lst (gs.map fP)) (b:= .lst []) (tJ rfl (fM (hb (l3.trans lv)))) rfl ?_;unfold uk;rw[Nh];rfl
  cases hge:gs.isEmpty with
  | true=>
    exact .inl ⟨rfl,by rw[if_neg (by decide)];exact dk ⟨kd,ws,_,S3,_,rfl,rfl,v.trans v3,Pj,LJ,Mn, .inl rfl⟩⟩
  | false=>
    have ur:0 < gs.length:=by cases gs with | nil=>cases hge | cons a r=>simp
    refine .inr ⟨rfl,yC <| draw (k:=k) rfl ((v.trans v3).p.app (x_ _ _)) rfl (by omega) (by omega) fun r S4 h1 h2 v4=>bN (d:= .int 0) rfl ⟨_,_,decide (r=0),rfl,rfl,rfl,?_⟩⟩
    obtain⟨S5,rfl,v5⟩:=v4.split (by omega)
    have l5:=v5.len;cases decide (r=0) with
    | false=>
      rw[if_neg (by decide)]
      exact dk ⟨kd,ws,_,S5,_,rfl,rfl,(v.trans v3).trans v5,Pj,LJ,Mn, .inl rfl⟩
    | true=>
      rw[if_pos rfl];have v5':=(v.trans v3).trans v5;refine aK <| bq (by simp) <| Eg (k:=k) (m:=(gs.length:Int)) rfl (v5'.p.app (x_ _ _)) (aX (ds:=[.lst (gs.map fP)]) (aV (tJ rfl (fM (hb v5'.len))) rfl) (by rw[vO,List.length_map])) (by omega) (by omega) fun r2 S6 h3 h4 v6=>⟨_,rfl,?_⟩
      obtain⟨S7,rfl,v7⟩:=v6.split (by omega)
      obtain⟨pl,rfl⟩:=Int.eq_ofNat_of_zero_le h3;simp only[List.set];have LI:=v5'.trans v7;have m7:pl < gs.length:=by omega
      have q0:gs[pl]? =some gs[pl]:=List.getElem?_eq_getElem m7;have hg0:=zG pl _ q0;have har:=G_ gs[pl].1;refine aK <| Mf <| BE (d:=O5 gs[pl].1 gs[pl].2.1) ?_ ?_ ⟨_,rfl,_,rfl,?_⟩
      .refine(show Lf (e2 cR (ah 9) (ah 14)) vx (rM (eC (.int 2))) _=Sz (fP gs[pl]) none (some 2) from ?_).trans rfl
       unfold Lf;rw[aH (a:= .lst (gs.map fP)) (b:= .int pl) (tJ rfl (fM (hb LI.len))) rfl (NT.kJ (by rw[List.getElem?_map,q0];rfl))]
       rfl
      .unfold O5 pB ni;rw[show pB (.str _)=true from by unfold pB;rfl]
       unfold ni;rw[A0];unfold ni;rfl
      show W3 (aY _ _ [some (.loc k),some (.d mo),some (.d ga),some (.d (.int 3)),some (.d (.lst (l.map MT.inD))),some (.loc S.length),some (.d (.int i)),a7,a8,some (.loc (S.length+1)),some (.d (nI (jc l))),some (.d (.str (kS gs[pl].1))),some (.d (.tup (gs[pl].2.1.map nI))),some (.d (.int ((l.length:Int)+gs.length))),some (.d (.int pl)),none,none] _) _;refine aK <| bq (by simp) <| rn <| au <| mP (fun j ds S8=>∃S9,S8=S9++[.lst (ks.map .int), .lst (gs.map fP)]/\Ev k S S9/\∃us:List Nat,ds=us.map nI/\us.length=j/\(∀w∈us,w < ks.length)/\us.map (ks.getD · 0)=(gs[pl].2.1.take j).map (ks.getD · 0)) (jC (ds:=gs[pl].2.1.map nI) (nT rfl) ⟨by rw[List.length_map,List.length_map,hg0.2.1];omega,⟨S7,rfl,LI,[],rfl,rfl,by simp,by simp⟩,?_,?_⟩)
      .rintro j u ds S8 hu ⟨S9,rfl,v9,us,rfl,Gq,hus,huk⟩;obtain⟨w,hw,rfl⟩:=NT.fG hu;have hwn:w < ks.length:=by have:=hg0.2.2 w (List.mem_of_getElem? hw);omega
       refine⟨[some (.d (nI w)),some (.loc k),some (.loc S.length)],rfl,xK ?_⟩;rw[if_pos rfl];refine cv <| au <| w_var (v:= .loc k) rfl <| au <| w_var (v:= .loc S.length) rfl <| au <| bN (d:=nI w) rfl <| bF <| rF (v9.p.app (x_ _ _)) (by omega) (ha v9.len) hwn (by omega) fun x RW hx OK v10=>?_
       obtain⟨ON,rfl,v11⟩:=v10.split (by have:=v9.len;omega)
       refine⟨_,rfl,ON,rfl,v9.trans v11,us++[x],by simp,by simp [Gq],?_,?_⟩
       .intro y hy;rcases List.mem_append.mp hy with q | q
        .exact hus y q
        .rw [List.mem_singleton.mp q];exact hx
       .rw [List.take_add_one,hw,List.map_append,List.map_append,huk];show _++[ks.getD x 0]=_++[ks.getD w 0];rw[OK]
      .rintro ds S8 ⟨S9,rfl,v9,us,rfl,Gq,hus,huk⟩;rw[List.length_map,List.length_map] at Gq huk;rw[List.take_length] at huk;refine bF ⟨[.lst (us.map nI)], .tup (us.map nI),rfl,rfl,_,rfl,?_⟩;simp only[List.set];have OO:jc l+pl < ks.length:=by omega
       refine bq (by simp) <| BE (d:= .int (ks.getD (jc l+pl) 0)) ?_ rfl ⟨gs[pl].1,us,ks.getD (jc l+pl) 0,S9,_,rfl,rfl,v9,hg0.1,by rw[Gq];exact hg0.2.1,hus, .inr ⟨pl,gs[pl],q0,rfl,rfl,huk⟩⟩
       refine aH (a:= .lst (ks.map .int)) (b:= .int ((jc l+pl:Nat):Int)) (tJ rfl (fM (ha v9.len))) (aH (a:=nI (jc l)) (b:= .int pl) rfl rfl rfl) (NT.kJ ?_);rw[List.getElem?_map,List.getElem?_eq_getElem OO,List.getD_eq_getElem?_getD,List.getElem?_eq_getElem OO];rfl
 .rintro o S4 ⟨kd,ws,x,S5,Mt,rfl,rfl,v5,Pj,LJ,Mn,hx⟩;refine⟨_,rfl,?_⟩;have l5:=v5.len;refine aK <| pU (k:=S.length+1) rfl ⟨_,hb l5⟩ <| rR <| au <| bN (d:= .str (kS kd)) rfl <| au <| bN (d:= .tup (ws.map nI)) rfl <| au <| L9 <| draw (k:=k) rfl (v5.p.app (x_ _ _)) rfl (by omega) (by omega) fun r S6 h1 h2 v6=>bN (d:= .int 0) rfl ⟨_,_, .bl (decide (r=0)),rfl,rfl,rfl,bF ⟨by simp;omega,?_⟩⟩
  obtain⟨S7,rfl,v7⟩:=v6.split (by omega)
  have LI:=v5.trans v7;refine⟨fP (kd,ws,decide (r=0)),_,rfl,hb LI.len,by rw[List.length_map];omega,_,rfl,?_⟩
  rw[sb LI.len];have hg:Ad ks.length (kd,ws,decide (r=0)):=⟨Pj,LJ,Mn⟩;refine pU (k:=S.length) rfl ⟨_,ha LI.len⟩ <| bN (d:= .int x) rfl ⟨_,_,rfl,ha LI.len,by rw[List.length_map];omega,_,rfl,(kd,ws,decide (r=0)),x,S7,_,_,_,_,_,_,rfl,LI,?_,zG.add (by rw[<-hkl];exact hg),hK.add zG hg ?_⟩
  .rw [sa LI.len,List.map_append,List.map_append];rfl
  .rcases hx with q | ⟨pl,g0,q1,q2,q3,q4⟩
   .exact .inl q
   .exact .inr ⟨pl,g0,q1,q2,q3,q4⟩
end K25
end
section
namespace K25
open PySem PySem.Spec PyProof.Rows L2 L3 MT
def N4:List Str:=["p","ou","result"]
theorem Nf:∀s∈N4,fQ 0 (.str s):=fun s hs=>by
 simp only[N4,List.mem_cons,List.not_mem_nil,or_false] at hs;rcases hs with rfl | rfl | rfl <;> exact fQ.str (by decide+kernel)
theorem NQ:N4.length=3:=rfl
def OW(ks:List Int)(ws:List Nat):Prop:=(1<=ws.length/\ws.length<=3)/\(∀w∈ws,w < ks.length)/\∀a b,ws=[a,b]->ks.getD a 0=ks.getD b 0
def tE(k a:Nat)(mo ga:D)(ins:D)(fi:Nat)(a6 a7 a8 Dj BG BI BH Rv:Option V3):DE:=[some (.loc k),some (.d mo),some (.d ga),some (.d (.int 3)),some (.d ins),some (.loc a),a6,a7,a8,some (.loc (a+1)),some (.d (nI fi)),Dj,BG,BI,BH,some (.loc (a+2)),Rv]
section
variable {k i fi:Nat} {mo ga ins:D} {S S1:aF} {ks:List Int} {A B:List D} {a7 a8 Dj BG BI BH Rv:Option V3}
theorem vg{F:FX}{j r:Int}{w:Nat}{ws:List Nat}(hw:OW ks ws)(v:Ev k S S1)
 (hF:∀BG,W3 (F (tE k S.length mo ga ins fi (some (.d (.int i))) a7 (some (.d (.int r))) Dj BG BI BH (some (.d (nI w)))) (S1++[.lst (ks.map .int), .lst A, .lst B])) fun u S2=>∃OP S',u= .d (.tup (OP.map nI))/\OW ks OP/\S2=S'++[.lst (ks.map .int), .lst A, .lst B]/\Ev k S S') :
 W3 (qK (bP (b2 kF (ah 8) (eC (.int j)))) (bR 12 F) gI (tE k S.length mo ga ins fi (some (.d (.int i))) a7 (some (.d (.int r))) Dj (some (.d (.tup (ws.map nI)))) BI BH (some (.d (nI w)))) (S1++[.lst (ks.map .int), .lst A, .lst B])) fun o S2=>∃OP S',o= .nx (tE k S.length mo ga ins fi (some (.d (.int i))) a7 (some (.d (.int r))) Dj (some (.d (.tup (OP.map nI)))) BI BH (some (.d (nI w))))/\OW ks OP/\S2=S'++[.lst (ks.map .int), .lst A, .lst B]/\Ev k S S':=by
 refine h_ <| k7 (b:=decide (r=j)) rfl ?_
 cases decide (r=j) with
 | true=>
   rw[if_pos rfl];refine bq (by unfold tE;simp only[List.length_cons,List.length_nil];omega) ((hF _).mono fun u S2 ⟨OP,S',e,h1,h2,h3⟩=>⟨OP,S',?_,h1,h2,h3⟩)
   subst e;rfl
 | false=>
   rw[if_neg (by decide)]
   exact dk ⟨ws,S1,rfl,hw,rfl,v⟩
theorem Oz{w:Nat}(h:w < ks.length):OW ks [w]:=⟨⟨by simp,by simp⟩,fun x hx=>by rw[List.mem_singleton.mp hx];exact h,fun a b e=>by simp at e⟩
theorem AN{a b c:Nat}(h1:a < ks.length)(h2:b < ks.length)(h3:c < ks.length):OW ks [a,b,c]:=⟨⟨by simp,by simp⟩,fun x hx=>by
 simp only[List.mem_cons,List.not_mem_nil,or_false] at hx;rcases hx with rfl | rfl | rfl <;> assumption,fun a b e=>by simp at e⟩
theorem MF{a b:Nat}(h1:a < ks.length)(h2:b < ks.length)(h3:ks.getD a 0=ks.getD b 0):OW ks [a,b]:=⟨⟨by simp,by simp⟩,fun x hx=>by
 simp only[List.mem_cons,List.not_mem_nil,or_false] at hx;rcases hx with rfl | rfl <;> assumption,fun x y e=>by cases e;exact h3⟩
theorem Ha{os:ZC}(hk:k < S.length)(h0:0 < ks.length)(hn:ks.length < 10000)(hi:i < 3)(EI:os.length < 100)(v:Ev k S S1) :
 W3 (ix (tE k S.length mo ga ins fi (some (.d (.int i))) a7 a8 Dj BG BI BH Rv) (S1++[.lst (ks.map .int), .lst A, .lst (os.map wJ)])) fun o S2=>∃cK,o= .nx cK/\∃(x:Str × List Nat) (S3:aF) (b8 OR X2:Option V3),cK=tE k S.length mo ga ins fi (some (.d (.int i))) a7 b8 Dj OR BI BH X2/\Ev k S S3/\S2=S3++[.lst (ks.map .int), .lst A, .lst ((os++[x]).map wJ)]/\OW ks x.2/\fQ 0 (.str x.1):=by
 have hz:sizeLine=16777216:=sizeLine_eq;have ha:∀{T:aF} {x y z:SO},T.length=S.length->(T++[x,y,z])[S.length]? =some x:=fun h=>by rw[<-h];exact t1
 have hc:∀{T:aF} {x y z:SO},T.length=S.length->(T++[x,y,z])[S.length+2]? =some z:=fun h=>by rw[<-h];exact t3
 have sc:∀{T:aF} {x y z u:SO},T.length=S.length->(T++[x,y,z]).set (S.length+2) u=T++[x,y,u]:=fun h=>by rw[<-h];exact u3
 have lv:=v.len;unfold ix tE;have hmn:∃mn:Int,0 < mn/\mn<=ks.length/\tR [.int ks.length, .int 5]= .ok (.int mn):=⟨if(5:Int) < ks.length then 5 else ks.length,by split <;> omega,by split <;> omega,rfl⟩
 obtain⟨mn,m1,m2,m3⟩:=hmn;refine aK <| bq (by simp) <| L9 <| BE (d:= .int ((ks.length:Int) - 1)) (aH (a:= .int ks.length) (b:= .int 1) (p8 (ha lv) rfl) rfl rfl) rfl <| Eg (k:=k) (m:=mn) rfl (v.p.app (qT _ _ _)) (aX (ds:=[.int ks.length, .int 5]) (aV (p8 (ha lv) rfl) rfl) m3) m1 (by omega) fun r S2 h1 h2 v2=>?_
 obtain⟨S3,rfl,v3⟩:=v2.split (by omega)
 obtain⟨w,hw⟩:∃w:Nat,(ks.length:Int) - 1 - r=w:=⟨((ks.length:Int) - 1 - r).toNat,by omega⟩
 have zF:w < ks.length:=by omega
 refine⟨_,_,nI w,rfl,rfl,?_,_,rfl,?_⟩
 .show R.ok (D.int ((ks.length:Int) - 1 - r))=_;rw[hw];rfl
 simp only[List.set];refine aK <| bq (by simp) <| bN (d:= .tup ([w].map nI)) (cX rfl (by simp;omega)) ⟨_,rfl,?_⟩
 simp only[List.set];have Pd:=v.trans v3;refine aK <| bq (by simp) <| draw (k:=k) rfl (Pd.p.app (qT _ _ _)) rfl (by omega) (by omega) fun r2 S4 h3 h4 v4=>⟨_,rfl,?_⟩
 obtain⟨S5,rfl,v5⟩:=v4.split (by have:=Pd.len;omega)
 simp only[List.set];have v5':=Pd.trans v5;refine aK ((vg (k:=k) (S:=S) (mo:=mo) (ga:=ga) (ins:=ins) (fi:=fi) (i:=i) (j:=1) (r:=r2) (w:=w) (ws:=[w]) (A:=A) (B:=os.map wJ) (Oz zF) v5' ?_).mono fun o S6 ⟨w6,S7,e6,Yf,Ya,v6⟩=>⟨_,e6,?_⟩)
 .intro BG;unfold tE;refine rR <| au <| bN (d:=nI w) rfl <| au <| cv <| au <| w_var (v:= .loc k) rfl <| au <| w_var (v:= .loc S.length) rfl <| au <| bN (d:=nI w) rfl <| bF <| rF (v5'.p.app (qT _ _ _)) (by omega) (ha v5'.len) zF hn fun x RW hx OK v10=>?_
  obtain⟨ON,rfl,v11⟩:=v10.split (by have:=v5'.len;omega)
  exact bF ⟨by simp;omega,[w,x],ON,rfl,MF zF hx OK.symm,rfl,v5'.trans v11⟩
 subst Ya;refine aK ((vg (k:=k) (S:=S) (mo:=mo) (ga:=ga) (ins:=ins) (fi:=fi) (i:=i) (j:=2) (r:=r2) (w:=w) (ws:=w6) (A:=A) (B:=os.map wJ) Yf v6 ?_).mono fun o S8 ⟨w8,S9,e8,Yt,YW,v8⟩=>⟨_,e8,?_⟩)
 .intro BG;unfold tE;refine rR <| au <| bN (d:=nI w) rfl <| au <| cv <| au <| w_var (v:= .loc k) rfl <| au <| w_var (v:= .loc S.length) rfl <| au <| bN (d:=nI w) rfl <| bF <| rF (v6.p.app (qT _ _ _)) (by omega) (ha v6.len) zF hn fun x RW hx OK v10=>?_
  obtain⟨ON,rfl,v11⟩:=v10.split (by have:=v6.len;omega)
  have v11':=v6.trans v11;refine au <| Eg (k:=k) (m:=(ks.length:Int)) rfl (v11'.p.app (qT _ _ _)) (p8 (ha v11'.len) rfl) (by omega) (by omega) fun r3 Xp h5 h6 UG=>?_
  obtain⟨Uk,rfl,UZ⟩:=UG.split (by have:=v11'.len;omega)
  obtain⟨y,rfl⟩:=Int.eq_ofNat_of_zero_le h5;exact bF ⟨by simp;omega,[w,x,y],Uk,rfl,AN zF hx (by omega),rfl,v11'.trans UZ⟩
 subst YW;refine aK ((vg (k:=k) (S:=S) (mo:=mo) (ga:=ga) (ins:=ins) (fi:=fi) (i:=i) (j:=3) (r:=r2) (w:=w) (ws:=w8) (A:=A) (B:=os.map wJ) Yt v8 ?_).mono fun o S14 ⟨wt,YR,YD,hwt,Uz,R8⟩=>⟨_,YD,?_⟩)
 .intro BG;unfold tE;refine rR <| au <| bN (d:=nI w) rfl <| au <| cv <| au <| w_var (v:= .loc k) rfl <| au <| w_var (v:= .loc S.length) rfl <| au <| bN (d:=nI w) rfl <| bF <| rF (v8.p.app (qT _ _ _)) (by omega) (ha v8.len) zF hn fun x RW hx OK v10=>?_
  obtain⟨ON,rfl,v11⟩:=v10.split (by have:=v8.len;omega)
  have v11':=v8.trans v11;refine au <| cv <| au <| w_var (v:= .loc k) rfl <| au <| w_var (v:= .loc S.length) rfl <| au <| bN (d:=nI w) rfl <| bF <| rF (v11'.p.app (qT _ _ _)) (by omega) (ha v11'.len) zF hn fun y Xp hy Zo UG=>?_
  obtain⟨Uk,rfl,UZ⟩:=UG.split (by have:=v11'.len;omega)
  exact bF ⟨by simp;omega,[w,x,y],Uk,rfl,AN zF hx hy,rfl,v11'.trans UZ⟩
 subst Uz;have hio:i < N4.length:=by rw[NQ];exact hi
 unfold tE;refine pU (k:=S.length+2) rfl ⟨_,hc R8.len⟩ <| bN (d:=wJ (N4[i],wt)) ?_ ⟨_,_,rfl,hc R8.len,by rw[List.length_map];omega,_,rfl,(N4[i],wt),YR,_,_,_,rfl,R8,?_,hwt,Nf _ (List.getElem_mem _)⟩
 .exact cX (aV (aH (a:= .lst (N4.map .str)) (b:= .int i) rfl rfl (NT.kJ (by rw[List.getElem?_map,List.getElem?_eq_getElem hio];rfl))) rfl) (by simp;omega)
 .rw [sc R8.len,List.map_append];rfl
end
structure DN (l:ZA) (gs:List Gt) (os:ZC):Prop where
 li:∀x∈l,MO x
 gg:ve l gs
 o1:1<=os.length
 oL:os.length<=3
 oo:∀x∈os,((1<=x.2.length/\x.2.length<=3)/\(∀w∈x.2,w < jc l+gs.length)/\∀a b,x.2=[a,b]->∀ms,ms.length=l.length->∀p,pv l gs ms p a=pv l gs ms p b)/\fQ 0 (.str x.1)
theorem Az{S:aF}{k:Nat}{mo ga:Int}(p:yD k S)(UX:1<=mo/\mo<=6)(UU:0<=ga/\ga<=60){Q:V3->aF->Prop}
 (h:∀(l:ZA) (gs:List Gt) (os:ZC) S1,1<=l.length->(l.length:Int)<=mo->(gs.length:Int)<=ga->DN l gs os->Ev k S S1->Q (.d (bO l gs os)) S1) :
 W3 (f9 [.loc k, .d (.int mo), .d (.int ga), .d (.int 3)] S) Q:=by
 have hz:sizeLine=16777216:=sizeLine_eq;have hk:=p.lt;unfold f9;refine tK (uB rfl ?_);simp only[cm,eW,List.map,List.length,List.replicate,List.cons_append,List.nil_append,Nat.reduceAdd,Nat.reduceSub];unfold kg;refine aK <| bq (by simp) <| cv <| au <| w_var (v:= .loc k) rfl <| au <| bN (d:= .int mo) rfl <| au <| bN (d:= .int 3) rfl <| bF <| Al p UX fun l S1 O_ yw V1 v1=>⟨_,rfl,?_⟩
 simp only[List.set];have l1:=v1.len;have hbd:=NT.IV (l:=l) fun x hx=>(O_ x hx).1
 have hwid:1<=jc l/\jc l<=18:=by unfold jc;omega
 refine aK <| bq (by simp) <| ic (ds:=[]) rfl ⟨_,rfl,?_⟩
 simp only[List.set];rw[l1];refine aK <| dJ <| jC (ds:=cB (l.map MT.inD)) (IQ rfl) ?_
 refine(bA (fun i δ S2=>∃(ks:List Int) (a6 a7 a8:Option V3),Lp (l.take i) ks/\S2=S1++[SO.lst (ks.map .int)]/\δ=[some (.loc k),some (.d (.int mo)),some (.d (.int ga)),some (.d (.int 3)),some (.d (.lst (l.map MT.inD))),some (.loc S.length),a6,a7,a8,none,none,none,none,none,none,none,none])
  ⟨[],none,none,none,Lp.nil,rfl,rfl⟩ ?_).mono fun o S2 ⟨cK,fR,ks,a6,a7,a8,hKn,wx,hδ⟩=>⟨cK,fR,?_⟩
 .rintro i v δ S2 hv ⟨ks,a6,a7,a8,hKn,rfl,rfl⟩;obtain⟨d,hd,rfl⟩:=pz hv;obtain⟨x,hx,rfl⟩:=NT.rA hd;have hil:=(List.getElem?_eq_some_iff.mp hx).1;have hkl:=hKn.len;have hwt:jc (l.take i)<=100*(l.take i).length:=C6 fun y hy=>by have:=(O_ y (List.mem_of_mem_take hy)).1;omega
  rw[List.length_take] at hwt;have hxw:=(O_ x (List.mem_of_getElem? hx)).1;have hg:(S1++[SO.lst (ks.map .int)])[S.length]? =some (.lst (ks.map .int)):=by rw[<-l1];exact bg _ _
  refine⟨[some (.loc k),some (.d (.int mo)),some (.d (.int ga)),some (.d (.int 3)),some (.d (.lst (l.map MT.inD))),some (.loc S.length),some (.d (.int i)),some (.d (.str x.1)),some (.d (nI x.2)),none,none,none,none,none,none,none,none],rfl,?_⟩;unfold lN;refine LS (k:=S.length) rfl ⟨_,hg⟩ <| bN (d:= .lst ((List.replicate x.2 (i:Int)).map .int)) ?_ ⟨_,_,rfl,hg,by rw[List.length_map,List.length_map,List.length_replicate];omega,_,rfl,ks++List.replicate x.2 (i:Int),_,_,_,?_,?_,rfl⟩
  .refine dI ?_;rw[MC (n:=x.2) (ds:=[.int i]) (pd rfl (by simp;omega)) rfl (by omega) (by simp;omega),Io]
  .have:=hKn.add x.1 x.2;rw[List.length_take,Nat.min_eq_left (by omega)] at this
   rw[List.take_add_one,hx];exact this
  .rw [<-l1,cP,List.map_append]
 subst hδ wx;have hel:((cB (l.map MT.inD)).map V3.d).length=l.length:=by unfold cB;simp
 rw[hel,List.take_length] at hKn;have hkn:=hKn.len;refine aK <| bq (by simp) <| ic (ds:=[]) rfl ⟨_,rfl,?_⟩
 simp only[List.set];rw[show(S1++[SO.lst (ks.map .int)]).length=S.length+1 by simp [l1],List.append_assoc]
 show W3 (aY _ _ _ (S1++[SO.lst (ks.map .int),SO.lst (([]:List Gt).map fP)])) _;have ha2:∀{T:aF} {x y:SO},T.length=S.length->(T++[x,y])[S.length]? =some x:=fun h=>by rw[<-h];exact g1
 refine aK <| bq (by simp) <| BE (d:=nI (jc l)) ((p8 (ks:=ks) (ha2 l1) rfl).trans (by rw[hkn];rfl)) rfl ⟨_,rfl,?_⟩
 simp only[List.set];refine aK <| dJ <| uS <| draw (k:=k) (m:=ga+1) rfl (v1.p.app (x_ _ _)) rfl (by omega) (by omega) fun r S3 h3 h4 v3=>?_
 obtain⟨S4,rfl,v4⟩:=v3.split (by omega)
 obtain⟨n,rfl⟩:=Int.eq_ofNat_of_zero_le h3;refine⟨n,rfl,by omega,?_⟩
 have Gf:ve l []:=fun i g e=>by simp at e
 refine(bA (fun i δ S5=>∃(gs:List Gt) (ks:List Int) (S6:aF) (a6 a7 a8 Dj BG BI BH:Option V3),gs.length=i/\ve l gs/\KI l gs ks/\Ev k S S6/\S5=S6++[SO.lst (ks.map .int),SO.lst (gs.map fP)]/\δ=sE k S.length (.int mo) (.int ga) (.lst (l.map MT.inD)) (jc l) a6 a7 a8 Dj BG BI BH)
  ⟨[],ks,S4,_,_,_,_,_,_,_,rfl,Gf,hKn.ki,v1.trans v4,rfl,rfl⟩ ?_).mono fun o S5 ⟨T7,e5,gs,Mo,S6,b6,b7,b8,Rc,OR,Q8,Mt,Di,zG,hK,v6,U4,hδ⟩=>⟨T7,e5,?_⟩
 .rintro i v δ S5 hv ⟨gs,Mo,S6,b6,b7,b8,Rc,OR,Q8,Mt,Di,zG,hK,v6,rfl,rfl⟩;obtain⟨hi,rfl⟩:=NT.mJ hv;refine⟨sE k S.length (.int mo) (.int ga) (.lst (l.map MT.inD)) (jc l) (some (.d (.int i))) b7 b8 Rc OR Q8 Mt,rfl,?_⟩;refine(FJ hk hwid.1 (by omega) (by omega) Di zG hK (by omega) v6).mono fun o S7 ⟨YC,e7,g,x,S8,c7,c8,T6,UA,Ua,Ut,UN,v8,XY,XI,Ys⟩=>⟨YC,e7,gs++[g],Mo++[x],S8,_,_,_,_,_,_,_,by simp [Di],XI,Ys,v8,XY,UN⟩
 subst hδ U4;rw[NT.j8] at Di;have hk5:=hK.len;unfold sE;refine aK <| bq (by simp) <| ic (ds:=[]) rfl ⟨_,rfl,?_⟩
 simp only[List.set];have l6:=v6.len;rw[show(S6++[SO.lst (Mo.map .int),SO.lst (gs.map fP)]).length=S.length+2 by simp [l6],List.append_assoc]
 show W3 (aY _ _ (tE k S.length (.int mo) (.int ga) (.lst (l.map MT.inD)) (jc l) b6 b7 b8 Rc OR Q8 Mt none) (S6++[SO.lst (Mo.map .int),SO.lst (gs.map fP),SO.lst (([]:ZC).map wJ)])) _;refine aK <| dJ <| uS <| L9 <| bN (d:= .int 1) rfl <| draw (k:=k) (m:=3) rfl (v6.p.app (qT _ _ _)) rfl (by omega) (by omega) fun r8 S8 h9 RZ v8=>?_
 obtain⟨SH,rfl,Xy⟩:=v8.split (by omega)
 have vH:=v6.trans Xy;obtain⟨n8,rfl⟩:=Int.eq_ofNat_of_zero_le h9;refine⟨_,_, .int ((1+n8:Nat):Int),rfl,rfl,rfl,1+n8,rfl,by omega,?_⟩
 refine(bA (fun i δ S8=>∃(os:ZC) (S9:aF) (a6 a7 a8 Dj BG BI BH Rv:Option V3),os.length=i/\(∀x∈os,OW Mo x.2/\fQ 0 (.str x.1))/\Ev k S S9/\S8=S9++[SO.lst (Mo.map .int),SO.lst (gs.map fP),SO.lst (os.map wJ)]/\δ=tE k S.length (.int mo) (.int ga) (.lst (l.map MT.inD)) (jc l) a6 a7 a8 Dj BG BI BH Rv)
  ⟨[],SH,_,_,_,_,_,_,_,_,rfl,by simp,vH,rfl,rfl⟩ ?_).mono fun o S8 ⟨YL,e8,os,S9,c6,c7,c8,T6,UA,Ua,Ut,V5,EI,hoo,v9,X1,hδ⟩=>⟨YL,e8,?_⟩
 .rintro i v δ S8 hv ⟨os,S9,c6,c7,c8,T6,UA,Ua,Ut,V5,EI,hoo,v9,rfl,rfl⟩;obtain⟨hi,rfl⟩:=NT.mJ hv;refine⟨tE k S.length (.int mo) (.int ga) (.lst (l.map MT.inD)) (jc l) (some (.d (.int i))) c7 c8 T6 UA Ua Ut V5,rfl,?_⟩;refine(Ha hk (by omega) (by omega) (by omega) (by omega) v9).mono fun o RW ⟨Um,YA,x,ON,d8,Zn,Zk,RC,v11,UK,Rt,Mq⟩=>⟨Um,YA,os++[x],ON,_,_,_,_,_,_,_,_,by simp [EI],?_,v11,UK,RC⟩
  intro y hy;rcases List.mem_append.mp hy with q | q
  .exact hoo y q
  .rw [List.mem_singleton.mp q];exact⟨Rt,Mq⟩
 subst hδ X1;rw[NT.j8] at EI;unfold tE;have l9:=v9.len;refine dD <| rR <| au <| w_var (v:= .d (.lst (l.map MT.inD))) rfl <| au <| w_var (v:= .loc (S.length+1)) rfl <| au <| w_var (v:= .loc (S.length+2)) rfl <| bF ⟨by simp;omega,_,rfl,sS (d:=bO l gs os) v9 (qT _ _ _) ?_ ?_ (h l gs os S9 yw V1 (by omega) ⟨O_,zG,by omega,by omega,fun x hx=>⟨⟨(hoo x hx).1.1,by rw[<-hk5];exact(hoo x hx).1.2.1,fun a b zJ ms tw p=>?_⟩,(hoo x hx).2⟩⟩ v9)⟩
 .show eN S.length (.tup [.d (.lst (l.map MT.inD)), .loc (S.length+1), .loc (S.length+2)])=true;simp [eN,pQ]
 .show res _ (.tup [.d (.lst (l.map MT.inD)), .loc (S.length+1), .loc (S.length+2)])=_;have fR:(S9++[SO.lst (Mo.map .int),SO.lst (gs.map fP),SO.lst (os.map wJ)])[S.length+1]? =some (.lst (gs.map fP)):=by rw[<-l9];exact t2
  have e3':(S9++[SO.lst (Mo.map .int),SO.lst (gs.map fP),SO.lst (os.map wJ)])[S.length+2]? =some (.lst (os.map wJ)):=by rw[<-l9];exact t3
  simp [res,yz,fR,e3',bO]
 .have:=(hoo x hx).1;exact hK.v ms tw p a b (this.2.1 a (by rw[zJ];simp)) (this.2.1 b (by rw[zJ];simp)) (this.2.2 a b zJ)
end K25
end
section
namespace K25
open PySem PySem.Spec PyProof.Rows L2 L3 MT
theorem BX(ps:List Nat):(List.range ps.length).map (fun a=>ps.getD a 0)=ps:=by
 refine List.ext_getElem? fun i=>?_
 rw[List.getElem?_map];by_cases q:i < ps.length
 .rw [List.getElem?_range q];show some (ps.getD i 0)=_;rw[List.getD_eq_getElem?_getD,List.getElem?_eq_getElem q];rfl
 .rw [List.getElem?_eq_none (by simp;omega),List.getElem?_eq_none (by omega)];rfl
theorem qj(gs:List Gt):(hW gs).Pairwise (· < ·):=List.Pairwise.filter _ List.pairwise_lt_range
theorem Am{α β:Type}(f:α->β):∀xs:List α,(xs.flatMap fun x=>[f x])=xs.map f
 | []=>rfl
 | x ::xs=>by rw[List.flatMap_cons,Am f xs];rfl
theorem Lc(ps:List Nat):eL ps 1=ps.map fun x=>[x]:=by
 show((List.range ps.length).flatMap fun a=>(eL (ps.drop (a+1)) 0).map (ps.getD a 0 ::·))=_
 have:(fun a=>(eL (ps.drop (a+1)) 0).map (ps.getD a 0 ::·))=fun a=>[[ps.getD a 0]]:=by funext a;rfl
 rw[this,Am]
 conv=>rhs;rw [<-BX ps]
 rw[List.map_map];rfl
theorem tP{free:List Nat}(hs:free.Pairwise (· < ·)){a:Nat}(ha:a < free.length):free.filter (fun o=>decide (o > free.getD a 0))=free.drop (a+1):=by
 have UU:free.getD a 0=free[a]:=by rw[List.getD_eq_getElem?_getD,List.getElem?_eq_getElem ha];rfl
 rw[UU];generalize hx:free[a]=x;have e2:free.filter (fun o=>decide (o > x))=(free.take (a+1)++free.drop (a+1)).filter (fun o=>decide (o > x)):=by rw[List.take_append_drop]
 rw[e2,List.filter_append];subst hx;have h1:(free.take (a+1)).filter (fun o=>decide (o > free[a]))=[]:=by
  rw[List.filter_eq_nil_iff];intro o ho;obtain⟨i,hi,rfl⟩:=List.mem_iff_getElem.mp ho;rw[List.length_take] at hi;rw[List.getElem_take];have hle:free[i]'(by omega)<=free[a]:=by
   rcases Nat.lt_or_ge i a with z | z
   .exact Nat.le_of_lt (List.pairwise_iff_getElem.mp hs i a (by omega) ha z)
   .have:i=a:=by omega
    subst this;exact Nat.le_refl _
  rw[decide_eq_true_eq];omega
 rw[h1,List.nil_append,List.filter_eq_self];intro o ho;obtain⟨i,hi,rfl⟩:=List.mem_iff_getElem.mp ho;rw[List.length_drop] at hi;rw[List.getElem_drop];exact decide_eq_true (List.pairwise_iff_getElem.mp hs a (a+1+i) ha (by omega) (by omega))
def okN(s:List Nat)(o:Nat):Bool:=match s.getLast? with | none=>true | some l=>decide (o > l)
theorem TB{free:List Nat}(hs:free.Pairwise (· < ·)){a:Nat}(ha:a < free.length){s:List Nat}(h:∀x∈s,x∈free.drop (a+1)):free.filter (okN (free.getD a 0 ::s))=(free.drop (a+1)).filter (okN s):=by
 have UU:free.getD a 0=free[a]:=by rw[List.getD_eq_getElem?_getD,List.getElem?_eq_getElem ha];rfl
 cases s with
 | nil=>
   have e1:okN [free.getD a 0]=fun o=>decide (o > free.getD a 0):=rfl
   have e2:(free.drop (a+1)).filter (okN [])=free.drop (a+1):=by rw[List.filter_eq_self];intro o _;rfl
   rw[e1,tP hs ha,e2]
 | cons y r=>
   have e1:okN (free.getD a 0 ::y ::r)=okN (y ::r):=by unfold okN;rw [List.getLast?_cons_cons]
   rw[e1];have hl:∃l,(y ::r).getLast? =some l:=⟨_,List.getLast?_eq_some_getLast (by simp)⟩
   obtain⟨l,hl⟩:=hl;have hlm:=h l (List.mem_of_getLast? hl);have hgt:free[a] < l:=by
    obtain⟨i,hi,rfl⟩:=List.mem_iff_getElem.mp hlm;rw[List.length_drop] at hi;rw[List.getElem_drop];exact List.pairwise_iff_getElem.mp hs a (a+1+i) ha (by omega) (by omega)
   have e2:okN (y ::r)=fun o=>decide (o > l):=by unfold okN;rw [hl]
   rw[e2];have e3:free.filter (fun o=>decide (o > l))=(free.take (a+1)++free.drop (a+1)).filter (fun o=>decide (o > l)):=by rw[List.take_append_drop]
   rw[e3,List.filter_append];have h1:(free.take (a+1)).filter (fun o=>decide (o > l))=[]:=by
    rw[List.filter_eq_nil_iff];intro o ho;obtain⟨i,hi,rfl⟩:=List.mem_iff_getElem.mp ho;rw[List.length_take] at hi;rw[List.getElem_take];have hle:free[i]'(by omega)<=free[a]:=by
     rcases Nat.lt_or_ge i a with z | z
     .exact Nat.le_of_lt (List.pairwise_iff_getElem.mp hs i a (by omega) ha z)
     .have:i=a:=by omega
      subst this;exact Nat.le_refl _
    rw[decide_eq_true_eq];omega
   rw[h1,List.nil_append]
theorem jR{α β:Type}{f g:α->List β}:∀{xs:List α},(∀x∈xs,f x=g x)->xs.flatMap f=xs.flatMap g
 | [],_=>rfl
 | x ::xs,h=>by rw[List.flatMap_cons,List.flatMap_cons,h x List.mem_cons_self,jR fun y hy=>h y (List.mem_cons_of_mem _ hy)]
theorem mU{α β γ:Type}(f:α->β)(g:β->List γ):∀xs:List α,(xs.map f).flatMap g=xs.flatMap fun x=>g (f x)
 | []=>rfl
 | x ::xs=>by rw[List.map_cons,List.flatMap_cons,mU f g xs,List.flatMap_cons]
theorem rh{α β γ:Type}(f:β->γ)(g:α->List β):∀xs:List α,(xs.flatMap g).map f=xs.flatMap fun x=>(g x).map f
 | []=>rfl
 | x ::xs=>by rw[List.flatMap_cons,List.map_append,rh f g xs,List.flatMap_cons]
theorem AM:∀(k:Nat) (free:List Nat),free.Pairwise (· < ·)->eL free (k+1)=(eL free k).flatMap fun s=>(free.filter (okN s)).map fun o=>s++[o]
 | 0,free,_=>by
   rw[Lc];show _=([[]]:ZD).flatMap _;rw[List.flatMap_cons,List.flatMap_nil,List.append_nil];have:free.filter (okN [])=free:=by rw[List.filter_eq_self];intro o _;rfl
   rw[this];rfl
 | k+1,free,hs=>by
   show((List.range free.length).flatMap fun a=>(eL (free.drop (a+1)) (k+1)).map (free.getD a 0 ::·))=((List.range free.length).flatMap fun a=>(eL (free.drop (a+1)) k).map (free.getD a 0 ::·)).flatMap _
   rw[List.flatMap_assoc];refine jR fun a ha=>?_
   rw[List.mem_range] at ha;have hd:(free.drop (a+1)).Pairwise (· < ·):=hs.sublist (List.drop_sublist _ _)
   rw[AM k _ hd,mU,rh];refine jR fun s Pk=>?_
   rw[TB hs ha (iC Pk).2,List.map_map];rfl
theorem La{s:List Nat}{l:Nat}(h:s.getLast? =some l)(hl:s.length < 1000):cR (aC s) (.int (-1))= .ok (nI l):=by
 refine vR ?_;unfold sU Ai;have hp:0 < s.length:=by
  cases s with
  | nil=>cases h
  | cons _ _=>simp
 rw[List.length_map,if_neg (by omega),if_pos (by omega)]
 show(s.map nI)[(((s.length:Int))+ -1).toNat]? =_;rw[List.getElem?_map,show((s.length:Int)+ -1).toNat=s.length - 1 by omega,<-List.getLast?_eq_getElem?,h]
 rfl
theorem eq_nil(s:List Nat):kF (aC s) (.tup [])= .ok (.bl s.isEmpty):=by
 have f:fQ 1 (aC s):=fQ.tup fun d hd=>by obtain⟨x,_,rfl⟩:=List.mem_map.mp hd;exact fQ.int _
 have f2:fQ 1 (.tup []):=fQ.tup fun d hd=>by cases hd
 unfold kF;have:F8 (aC s) (.tup [])= .ok s.isEmpty:=by
  unfold aC at f ⊢;rw[Ih,f.pl,f.sh (by omega),f2.pl,f2.sh (by omega)]
  cases s with
  | nil=>rfl
  | cons g gs=>rfl
 rw[this];rfl
theorem kN:∀(s:Nat) (ps:List Nat),(eL ps s).length<=2 ^ ps.length
 | 0,ps=>by
   show 1<=_;exact Nat.one_le_two_pow
 | s+1,ps=>by
   have key:∀(n:Nat) (qs:List Nat),qs.length=n->∀s,(∀rs:List Nat,(eL rs s).length<=2 ^ rs.length)->((List.range qs.length).map fun a=>(eL (qs.drop (a+1)) s).length).sum+1<=2 ^ n:=by
    intro n
    induction n with
    | zero=>intro qs hq s _;rw [hq];simp
    | succ n ih=>
      intro qs hq s hs
      match qs,hq with
      | x ::qs,hq=>
        rw[List.length_cons] at hq;have h1:=ih qs (by omega) s hs
        rw[List.length_cons,List.range_succ_eq_map,List.map_cons,List.map_map,List.sum_cons];have h2:=hs qs;have e:((fun a=>(eL ((x ::qs).drop (a+1)) s).length) ∘ Nat.succ)=fun a=>(eL (qs.drop (a+1)) s).length:=rfl
        rw[e,show(x ::qs).drop (0+1)=qs from rfl,Nat.pow_succ]
        have:qs.length=n:=by omega
        rw[this] at h2;omega
   unfold eL;rw[List.length_flatMap];have:(List.range ps.length).map (fun a=>((eL (ps.drop (a+1)) s).map (ps.getD a 0 ::·)).length)=(List.range ps.length).map fun a=>(eL (ps.drop (a+1)) s).length:=List.map_congr_left fun a _=>by rw[List.length_map]
   rw[this];have:=key ps.length ps rfl s fun rs=>kN s rs
   omega
def jB(free:List Nat)(m:Nat):ZD:=(List.range (m+1)).flatMap (eL free)
theorem r6(free:List Nat)(m:Nat):jB free (m+1)=jB free m++eL free (m+1):=by
 unfold jB;rw[List.range_succ,List.flatMap_append];simp
theorem qX{free:List Nat}(h:free.length<=12):∀m,(jB free m).length<=(m+1)*4096
 | 0=>by show([[]]++[]:ZD).length<=_;simp
 | m+1=>by
   have:=qX h m;have h2:=kN (m+1) free;have:2 ^ free.length<=4096:=Nat.pow_le_pow_right (by omega) (by omega:free.length<=12)
   rw[r6,List.length_append];omega
def gE(fr mm:D)(l2 l3 a4 a5 a6:Option V3):DE:=[some (.d fr),some (.d mm),l2,l3,a4,a5,a6]
theorem Eu(S T:aF)(a:Nat)(x:SO):(S++T).set (S.length+a) x=S++T.set a x:=by rw[List.set_append_right _ _ (by omega),show S.length+a - S.length=a by omega]
theorem rf(S T:aF)(a:Nat):(S++T)[S.length+a]? =T[a]?:=by rw[List.getElem?_append_right (by omega),show S.length+a - S.length=a by omega]
theorem Bf{free:List Nat}{m:Nat}{S:aF}(Ph:free.Pairwise (· < ·))(Gq:free.length<=12)(hm:m<=12)(hS:nv S){Q:V3->aF->Prop}(h:Q (.d (.lst ((jB free m).map aC))) S) :
 W3 (f6 [.d (.lst (free.map nI)), .d (nI m)] S) Q:=by
 have hz:sizeLine=16777216:=sizeLine_eq;unfold f6;refine kM hS (uB rfl ?_);simp only[cm,fA,List.map,List.length,List.replicate,List.cons_append,List.nil_append,Nat.reduceAdd,Nat.reduceSub];unfold kq;refine aK <| bq (by simp) <| ic (ds:=[aC []]) (pd (aV (cX rfl (by simp)) rfl) (by simp;omega)) ⟨_,rfl,?_⟩
 simp only[List.set];refine aK <| bq (by simp) <| ic (ds:=[aC []]) (pd (aV (cX rfl (by simp)) rfl) (by simp;omega)) ⟨_,rfl,?_⟩
 simp only[List.set];rw[List.append_assoc,List.length_append];refine aK <| dJ <| jC (ds:=eM 0 m) (kW (n:=m) rfl (by omega)) ?_
 refine(bA (fun i δ S2=>∃(U:aF) (a b:Nat) (a4 a5 a6:Option V3),S2=S++U/\U[a]? =some (.lst ((eL free i).map aC))/\U[b]? =some (.lst ((jB free i).map aC))/\a≠b/\δ=gE (.lst (free.map nI)) (nI m) (some (.loc (S.length+a))) (some (.loc (S.length+b))) a4 a5 a6)
  ⟨[SO.lst [aC []],SO.lst [aC []]],0,1,none,none,none,rfl,rfl,rfl,by omega,rfl⟩ ?_).mono fun o S2 ⟨cK,fR,U,a,b,a4,a5,a6,wx,hUa,hUb,zJ,hδ⟩=>⟨cK,fR,?_⟩
 .rintro i v δ S2 hv ⟨U,a,b,a4,a5,a6,rfl,hUa,hUb,zJ,rfl⟩;obtain⟨hi,rfl⟩:=NT.mJ hv;have hal:a < U.length:=(List.getElem?_eq_some_iff.mp hUa).1;have hbl:b < U.length:=(List.getElem?_eq_some_iff.mp hUb).1;have hcl2:(eL free (i+1)).length<=4096:=Nat.le_trans (kN _ _) (Nat.pow_le_pow_right (by omega) (by omega:free.length<=12))
  have hin:∀s∈eL free i,s.length=i:=fun s hs=>(iC hs).1
  have hmore:=AM i free Ph;have hAl:=qX Gq i;have hAi:(i+1)*4096<=13*4096:=Nat.mul_le_mul_right _ (by omega)
  refine⟨gE (.lst (free.map nI)) (nI m) (some (.loc (S.length+a))) (some (.loc (S.length+b))) (some (.d (.int i))) a5 a6,rfl,?_⟩;unfold lR;refine GY (i:=2) (k:=S.length+a) rfl (by rw[rf];exact hUa) ?_
  rw[Eu];show W3 (aY _ _ (gE (.lst (free.map nI)) (nI m) (some (.d (.lst ((eL free i).map aC)))) (some (.loc (S.length+b))) (some (.d (.int i))) a5 a6) _) _;have hUb1:(U.set a SO.hV)[b]? =some (.lst ((jB free i).map aC)):=by rw[List.getElem?_set_ne zJ];exact hUb
  have hUl:(U.set a SO.hV).length=U.length:=List.length_set;generalize U.set a SO.hV=U1 at hUb1 hUl;rw[r6];generalize eL free i=Ci at hin hmore;generalize eL free (i+1)=Cj at hcl2 hmore
  let F:Nat->ZD:=fun j=>(Ci.take j).flatMap fun s=>(free.filter (okN s)).map fun o=>s++[o]
  have hFle:∀j,(F j).length<=Cj.length:=fun j=>by
   rw[hmore];show((Ci.take j).flatMap _).length<=_
   conv=>rhs;rw [<-List.take_append_drop j Ci]
   rw[List.flatMap_append,List.length_append];omega
  refine aK <| bq (by unfold gE;simp only[List.length_cons,List.length_nil];omega) <| ic (ds:=[]) rfl ⟨_,rfl,?_⟩
  rw[List.append_assoc,List.length_append,hUl];show W3 (aY _ _ (gE (.lst (free.map nI)) (nI m) (some (.d (.lst (Ci.map aC)))) (some (.loc (S.length+b))) (some (.d (.int i))) (some (.loc (S.length+U.length))) a6) _) _;refine aK <| dJ <| jC (ds:=Ci.map aC) (eE rfl) ?_
  refine(bA (fun j δ S3=>∃b6,S3=S++(U1++[SO.lst ((F j).map aC)])/\δ=gE (.lst (free.map nI)) (nI m) (some (.d (.lst (Ci.map aC)))) (some (.loc (S.length+b))) (some (.d (.int i))) (some (.loc (S.length+U.length))) b6)
   ⟨a6,by simp [F],rfl⟩ ?_).mono fun o S3 ⟨zH,e3,b6,zI,qD⟩=>⟨zH,e3,?_⟩
  .rintro j v δ S3 hv ⟨b6,rfl,rfl⟩;obtain⟨s,hsj,rfl⟩:=NT.fG hv;have hsl:=hin s (List.mem_of_getElem? hsj);have hFs:F (j+1)=F j++(free.filter (okN s)).map fun o=>s++[o]:=by
    show(Ci.take (j+1)).flatMap _=_;rw[List.take_add_one,hsj,List.flatMap_append];simp [F]
   have hFl:=hFle (j+1);rw[hFs,List.length_append] at hFl;rw[hFs,List.map_append];generalize F j=G at hFl ⊢;refine⟨gE (.lst (free.map nI)) (nI m) (some (.d (.lst (Ci.map aC)))) (some (.loc (S.length+b))) (some (.d (.int i))) (some (.loc (S.length+U.length))) (some (.d (aC s))),rfl,?_⟩;unfold lU;have hg:(S++(U1++[SO.lst (G.map aC)]))[S.length+U.length]? =some (.lst (G.map aC)):=by rw[rf,<-hUl];exact bg _ _
   refine LS (k:=S.length+U.length) rfl ⟨_,hg⟩ <| bN (d:= .lst (((free.filter (okN s)).map fun o=>s++[o]).map aC)) (dI (dh (ds:=free.map nI) (eE rfl) (by rw[List.length_map];omega) ?_)) ⟨_,_,rfl,hg,?_,_,rfl,_,?_,rfl⟩
   .rw [List.map_map];refine NT.eB (okN s) nI _ fun o ho=>⟨[.val (nI o), .val (aC s)],rfl,?_,fun _=>?_⟩
    .have e1:b2 kF (ah 1) (eT aP) [.val (nI o), .val (aC s)]= .ok s.isEmpty:=dA (a:=aC s) (b:= .tup []) rfl (cX rfl (by simp)) (eq_nil s)
     unfold Jz;rw[e1,R.aT];cases hl:s.getLast? with
     | none=>
       have:s=[]:=List.getLast?_eq_none_iff.mp hl;subst this;rfl
     | some l=>
       have ur:s.isEmpty=false:=by
        cases s with
        | nil=>cases hl
        | cons _ _=>rfl
       rw[ur,if_neg (by decide)]
       have:okN s o=decide (o > l):=by unfold okN;rw [hl]
       rw[this];refine dA (a:=nI o) (b:=nI l) rfl (aH (a:=aC s) (b:= .int (-1)) rfl rfl (La hl (by omega))) ?_
       show R.ok (D.bl (decide ((o:Int) > (l:Int))))=_;congr 2;by_cases q:o > l
       .rw [decide_eq_true q,decide_eq_true (by omega)]
       .rw [decide_eq_false q,decide_eq_false (by omega)]
    .refine aH (a:=aC s) (b:= .tup [nI o]) rfl (cX rfl (by simp;omega)) ?_
     show oI (.tup (s.map nI)) (.tup [nI o])= .ok (.tup ((s++[o]).map nI));rw[List.map_append];exact CJ (by rw[List.length_map];simp;omega)
   .rw [List.length_map,List.length_map];omega
   .rw [Eu];congr 1;rw[<-hUl,cP]
  .subst qD zI;rw[List.length_map,List.length_map];have hfull:F Ci.length=Cj:=by rw[hmore];show(Ci.take Ci.length).flatMap _=_;rw [List.take_length]
   rw[hfull];refine aK <| bq (by unfold gE;simp only[List.length_cons,List.length_nil];omega) <| w_var (v:= .loc (S.length+U.length)) rfl ⟨_,rfl,?_⟩
   have hg:(S++(U1++[SO.lst (Cj.map aC)]))[S.length+U.length]? =some (.lst (Cj.map aC)):=by rw[rf,<-hUl];exact bg _ _
   have hgb:(S++(U1++[SO.lst (Cj.map aC)]))[S.length+b]? =some (.lst ((jB free i).map aC)):=by rw[rf,List.getElem?_append_left (by omega)];exact hUb1
   refine bq (by unfold gE;simp only[List.length_cons,List.length_nil,List.length_set];omega) <| Qy <| w_var (v:= .loc (S.length+b)) rfl <| w_var (v:= .loc (S.length+U.length)) rfl ⟨(jB free i).map aC,Cj.map aC,by unfold Bi cx;simp only[hgb],by unfold Bi cx;simp only[hg],by rw[List.length_map,List.length_map];omega,_,rfl,U1++[SO.lst (Cj.map aC)]++[SO.lst ((jB free i++Cj).map aC)],U.length,U.length+1,some (.d (.int i)),some (.loc (S.length+U.length)),b6,?_,?_,?_,by omega,?_⟩
   .rw [List.map_append,List.append_assoc S]
   .rw [List.getElem?_append_left (by simp;omega),<-hUl];exact bg _ _
   .rw [show U.length+1=(U1++[SO.lst (Cj.map aC)]).length by simp [hUl]];exact bg _ _
   .have:(S++(U1++[SO.lst (Cj.map aC)])).length=S.length+(U.length+1):=by simp [hUl]
    rw[this];rfl
 .subst hδ wx;rw[NT.j8] at hUb;unfold gE;refine dD <| w_var (v:= .loc (S.length+b)) rfl ⟨_,rfl,?_,⟨_,rfl⟩,_,fM (by rw[rf];exact hUb),h⟩
  show decide (S.length<=S.length+b)=true;exact decide_eq_true (by omega)
end K25
end
section
namespace K25
open PySem PySem.Spec PyProof.Rows L2 L3 MT
def subB(T o:List Nat):Bool:=o.all fun x=>T.contains x
def vP(B:List Nat->Bool)(f:ZD)(T:List Nat):ZD:=if f.any (subB T) then f else if B T then f++[T] else f
def sW(B:List Nat->Bool)(sets:ZD):ZD:=sets.foldl (vP B) []
theorem uM(B:List Nat->Bool):∀(xs f:ZD),(xs.foldl (vP B) f).length<=f.length+xs.length
 | [],f=>by simp
 | x ::xs,f=>by
   have:=uM B xs (vP B f x);rw[List.foldl_cons,List.length_cons];have h2:(vP B f x).length<=f.length+1:=by unfold vP;split <;> (try split) <;> simp
   omega
theorem Er(B:List Nat->Bool):∀(xs f:ZD),∀T∈xs.foldl (vP B) f,T∈f\/T∈xs
 | [],f,T,h=> .inl h
 | x ::xs,f,T,h=>by
   rw[List.foldl_cons] at h;rcases Er B xs _ T h with q | q
   .unfold vP at q;split at q
    .exact .inl q
    .split at q
     .rcases List.mem_append.mp q with z | z
      .exact .inl z
      .exact .inr (by rw[List.mem_singleton.mp z];exact List.mem_cons_self)
     .exact .inl q
   .exact .inr (List.mem_cons_of_mem _ q)
theorem Ka(x:Nat)(T:List Nat):Ah (nI x) (aC T)= .ok (.bl (T.contains x)):=by
 have h:=y8 (x:Int) (nZ T);rw[Cc,IJ] at h;exact h
theorem Cs{T o:List Nat}(ho:o.length < 1000):jK [aC T,aC o]= .ok (.bl (subB T o)):=by
 have hz:sizeLine=16777216:=sizeLine_eq;unfold jK yo;refine d3 (cM (aX (ds:=[.lst ((o.map fun x=>T.contains x).map .bl)]) (aV (dI (dh (ds:=o.map nI) (nT rfl) (by rw[List.length_map];omega) ?_)) rfl) ?_))
 .rw [List.map_map];exact NT.eA nI _ fun x _=>⟨[.val (nI x), .val (aC T)],rfl,rfl,aH (a:=nI x) (b:=aC T) rfl rfl (Ka x T)⟩
 .show(match bls? ((o.map fun x=>T.contains x).map D.bl) with | some bs=>R.ok (D.bl (bs.all id)) | none=> .no)=_
  rw[uw];show R.ok (D.bl ((o.map fun x=>T.contains x).all id))=_
  rw[List.all_map];rfl
theorem Mb(xs:ZD):F8 (.lst (xs.map aC)) (.lst [])= .ok xs.isEmpty:=by
 have f:fQ 2 (.lst (xs.map aC)):=fQ.lst fun d hd=>by
  obtain⟨x,_,rfl⟩:=List.mem_map.mp hd;exact fQ.tup fun d hd=>by obtain⟨x,_,rfl⟩:=List.mem_map.mp hd;exact fQ.int _
 have f2:fQ 1 (.lst []):=fQ.lst fun d hd=>by cases hd
 rw[BJ,f.pl,f.sh (by omega),f2.pl,f2.sh (by omega)]
 cases xs with
 | nil=>rfl
 | cons g gs=>rfl
theorem Qi(s:List Nat):F8 (.lst (s.map nI)) (.lst [])= .ok s.isEmpty:=by
 have f:fQ 1 (.lst (s.map nI)):=fQ.lst fun d hd=>by obtain⟨x,_,rfl⟩:=List.mem_map.mp hd;exact fQ.int _
 have f2:fQ 1 (.lst []):=fQ.lst fun d hd=>by cases hd
 rw[BJ,f.pl,f.sh (by omega),f2.pl,f2.sh (by omega)]
 cases s with
 | nil=>rfl
 | cons g gs=>rfl
theorem C2{a b:D}{k:Bool}(h:F8 a b= .ok k):kF a b= .ok (.bl k):=by unfold kF;rw [h];rfl
theorem G9{a b:D}{k:Bool}(h:Ah a b= .ok (.bl k)):yA a b= .ok (.bl (!k)):=by
 unfold Ah at h;unfold yA;cases q:inD a b with
 | ok c=>rw [q] at h;cases h;rfl
 | ex c=>rw [q] at h;cases h
 | no=>rw [q] at h;cases h
section
variable {c:Nat} {l:ZA} {gs:List Gt} {os:ZC} {S:aF} {safe:Bool} {m:Nat}
def BT(safe:Bool)(c:Nat)(l:ZA)(gs:List Gt)(os:ZC)(T:List Nat):Bool:=!(decide (jf (2 ^ c) (Gh safe c l gs os (nZ T))=0))
def dN(safe:Bool)(c:Nat)(l:ZA)(gs:List Gt)(os:ZC)(m:Nat):ZD:=sW (BT safe c l gs os) (jB (hW gs) m)
theorem Wx(f:M)(N:Nat):uk (mI N f) (.int 0)= .ok (.bl (!(decide (jf N f=0)))):=by
 show R.ok (D.bl (!((jf N f:Int)==0)))=_;congr 3;by_cases q:jf N f=0
 .rw [q];rfl
 .rw [decide_eq_false q];exact beq_eq_false_iff_ne.mpr (by omega)
theorem Df{xs:ZD}{B:List Nat->Bool}(hx:∀T∈xs,T.length < 1000):∀o∈sW B xs,o.length < 1000:=fun o ho=>by
 rcases Er B xs [] o ho with q | q
 .cases q
 .exact hx o q
theorem Fu(B:List Nat->Bool)(xs:ZD)(T:List Nat):sW B (xs++[T])=vP B (sW B xs) T:=by unfold sW;rw [List.foldl_append];rfl
def yE(nt mm lv:D)(n:Nat)(a5 a6:Option V3):DE:=[some (.d nt),some (.d mm),some (.d lv),some (.loc n),some (.loc (n+2)),a5,a6]
def YS(S:aF)(c:Nat)(l:ZA)(gs:List Gt)(os:ZC)(f:ZD):aF:=S++[.ins 1 (gd c l gs os (S.length+1)), .ins 0 (dR c (bO l gs os)), .lst (f.map aC)]
theorem Na(hS:nv S)(f:ZD):nv (YS S c l gs os f):=by
 have:YS S c l gs os f=S++[.ins 1 (gd c l gs os (S.length+1)), .ins 0 (dR c (bO l gs os))]++[.lst (f.map aC)]:=by unfold YS;simp
 rw[this];refine nv.push (K6 hS ?_ rfl) (mr _);show(decide (S.length+1 < S.length+2) && true)=true;rw[decide_eq_true (by omega)];rfl
theorem Ii{mm:D}{f:ZD}{T:List Nat}{a5:Option V3}(NO:jv l gs os)(hc:l.length=c)(ho:∀x∈os,1<=x.2.length/\x.2.length<=3)(hS:nv S)(LL:∀o∈f,o.length < 1000)(Zj:f.length < 100000) :
 W3 (mY (yE (bO l gs os) mm (.str (ml safe)) S.length a5 (some (.d (aC T)))) (YS S c l gs os f)) fun o S2=>o= .nx (yE (bO l gs os) mm (.str (ml safe)) S.length a5 (some (.d (aC T))))/\S2=YS S c l gs os (vP (BT safe c l gs os) f T):=by
 have hz:sizeLine=16777216:=sizeLine_eq;have hg:(YS S c l gs os f)[S.length+2]? =some (.lst (f.map aC)):=t3;have hk:(YS S c l gs os f)[S.length]? =some (.ins 1 (gd c l gs os (S.length+1))):=t1;have hb:(YS S c l gs os f)[S.length+1]? =some (.ins 0 (dR c (bO l gs os))):=t2;unfold mY;refine h_ <| Oe (b:=f.any (subB T)) ?_ ?_
 .have e:bp IH (av (eNew (dM (cq (ah 4)) (bh 0) sJ (bp jK (av (ah 1) (av (ah 0) aP))) ["others"] [6])) aP) (df (YS S c l gs os f) (yE (bO l gs os) mm (.str (ml safe)) S.length a5 (some (.d (aC T)))))= .ok (.bl (f.any (subB T))):=by
   refine aX (ds:=[.lst ((f.map (subB T)).map .bl)]) (aV (dI (dh (ds:=f.map aC) (eE (tJ rfl (fM hg))) (by rw[List.length_map];omega) ?_)) rfl) ?_
   .rw [List.map_map];exact NT.eA aC _ fun o Gb=>⟨[.val (aC o), .val (aC T)],rfl,rfl,aX (ds:=[aC T,aC o]) rfl (Cs (LL o Gb))⟩
   .show(match bls? ((f.map (subB T)).map D.bl) with | some bs=>R.ok (D.bl (bs.any id)) | none=> .no)=_
    rw[uw];show R.ok (D.bl ((f.map (subB T)).any id))=_;rw[List.any_map];rfl
  unfold vY;rw[e];rfl
 unfold vP;cases hany:f.any (subB T) with
 | true=>rw [if_pos rfl,if_pos rfl];exact dk ⟨rfl,rfl⟩
 | false=>
   rw[if_neg (by decide),if_neg (by decide)]
   refine h_ <| yC <| sH (k:=S.length) <| w_var (v:= .loc S.length) rfl ⟨_,rfl,hk,L_ _ (by decide+kernel) (by decide+kernel) (by decide+kernel),?_⟩
   refine au <| bN (d:= .tup ((nZ T).map .int)) (by rw[Cc];rfl) <| au <| bN (d:= .str (ml safe)) rfl <| bF <| yk NO hc ho (Na hS f) hk hb <| bN (d:= .int 0) rfl ⟨_,_,_,rfl,rfl,Wx _ _,?_⟩
   show if BT safe c l gs os T then _ else _
   cases BT safe c l gs os T with
   | true=>
     rw[if_pos rfl,if_pos rfl];refine pU (k:=S.length+2) rfl ⟨_,hg⟩ <| bN (d:=aC T) rfl ⟨_,_,rfl,hg,by rw[List.length_map];omega,rfl,?_⟩
     unfold YS;rw[u3,List.map_append];rfl
   | false=>rw [if_neg (by decide),if_neg (by decide)];exact dk ⟨rfl,rfl⟩
theorem Co(NO:jv l gs os)(hc:l.length=c)(uG:c<=10)(ho:∀x∈os,1<=x.2.length/\x.2.length<=3)(hg:gs.length<=12)(hm:m<=3)(hS:nv S){Q:V3->aF->Prop}(h:Q (.loc (S.length+2)) (YS S c l gs os (dN safe c l gs os m))) :
 W3 (oJ [.d (bO l gs os), .d (nI m), .d (.str (ml safe))] S) Q:=by
 have hz:sizeLine=16777216:=sizeLine_eq;have Gq:(hW gs).length<=12:=Nat.le_trans qY hg;unfold oJ;refine uB rfl ?_;simp only[cm,ip,List.map,List.length,List.replicate,List.cons_append,List.nil_append,Nat.reduceAdd,Nat.reduceSub];unfold mM;refine aK <| bq (by simp) <| CK <| au <| bN (d:=bO l gs os) rfl <| bF <| Aa NO hc uG ho hS ⟨rfl,_,rfl,?_⟩
 simp only[List.set];refine aK <| bq (by simp) <| ic (ds:=[]) rfl ⟨_,rfl,?_⟩
 simp only[List.set];have e0:TS S c l gs os++[SO.lst []]=YS S c l gs os []:=by unfold TS YS;simp
 have el:(TS S c l gs os).length=S.length+2:=by unfold TS;simp
 rw[e0,el];show W3 (aY _ _ (yE (bO l gs os) (nI m) (.str (ml safe)) S.length none none) _) _;generalize hB:BT safe c l gs os=B;have hbl:∀i,i<=4->∀j,(sW B ((List.range i).flatMap (eL (hW gs))++(eL (hW gs) i).take j)).length<=32768:=fun i hi j=>by
  have h1:=uM B ((List.range i).flatMap (eL (hW gs))++(eL (hW gs) i).take j) [];have h2:(List.range i).flatMap (eL (hW gs))=if i=0 then [] else jB (hW gs) (i - 1):=by
   cases i with
   | zero=>rfl
   | succ i=>rw [if_neg (by omega)];rfl
  have h3:((List.range i).flatMap (eL (hW gs))).length<=16384:=by
   rw[h2];split
   .simp
   .have:=qX Gq (i - 1);have:(i - 1+1)*4096<=4*4096:=Nat.mul_le_mul_right _ (by omega)
    omega
  have h4:((eL (hW gs) i).take j).length<=4096:=by
   rw[List.length_take];have:=kN i (hW gs);have:2 ^ (hW gs).length<=4096:=Nat.pow_le_pow_right (by omega) (by omega:(hW gs).length<=12)
   omega
  rw[List.length_append] at h1;unfold sW;simp only[List.length_nil] at h1;omega
 refine aK <| dJ <| jC (ds:=eM 0 (m+1)) (kW (n:=m+1) (aH (a:=nI m) (b:= .int 1) rfl rfl rfl) (by omega)) ?_
 refine(bA (fun i δ S2=>S2=YS S c l gs os (sW B ((List.range i).flatMap (eL (hW gs))))/\∃a5 a6,δ=yE (bO l gs os) (nI m) (.str (ml safe)) S.length a5 a6)
  ⟨rfl,_,_,rfl⟩ ?_).mono fun o S2 ⟨cK,fR,wx,a5,a6,hδ⟩=>⟨cK,fR,?_⟩
 .rintro i v δ S2 hv ⟨rfl,a5,a6,rfl⟩;obtain⟨hi,rfl⟩:=NT.mJ hv;refine⟨yE (bO l gs os) (nI m) (.str (ml safe)) S.length (some (.d (.int i))) a6,rfl,?_⟩;have hcs:dt 4 [.lst ((hW gs).map nI), .int i]= .ok (.lst ((eL (hW gs) i).map aC)):=qc 3 i (hW gs) (by omega) (by omega) (by omega)
  unfold rK;refine dJ <| pj <| rn <| au <| w_fld (k:=S.length) <| w_var (v:= .loc S.length) rfl ⟨_,_,rfl,t1,GB,au <| bN (d:= .int i) rfl <| bF ⟨[.lst ((hW gs).map nI), .int i],_,rfl,hcs,_,rfl,?_⟩⟩
  refine(bA (fun j δ S3=>S3=YS S c l gs os (sW B ((List.range i).flatMap (eL (hW gs))++(eL (hW gs) i).take j))/\∃a6,δ=yE (bO l gs os) (nI m) (.str (ml safe)) S.length (some (.d (.int i))) a6)
   ⟨by simp,_,rfl⟩ ?_).mono fun o S3 ⟨zH,e3,zI,b6,qD⟩=>⟨zH,e3,?_,_,_,qD⟩
  .rintro j v δ S3 hv ⟨rfl,b6,rfl⟩;obtain⟨T,hT,rfl⟩:=NT.fG hv;refine⟨yE (bO l gs os) (nI m) (.str (ml safe)) S.length (some (.d (.int i))) (some (.d (aC T))),rfl,?_⟩;refine(Ii NO hc ho hS (Df fun o Gb=>?_) (Nat.lt_of_le_of_lt (hbl i (by omega) j) (by omega))).mono fun o S4 ⟨e4,OV⟩=>⟨_,e4,?_,_,rfl⟩
   .rcases List.mem_append.mp Gb with q | q
    .obtain⟨s,hs,hq⟩:=List.mem_flatMap.mp q;rw[List.mem_range] at hs;rw[(iC hq).1];omega
    .rw [(iC (List.mem_of_mem_take q)).1];omega
   .rw [OV,hB,List.take_add_one,hT,<-List.append_assoc,show(some T).toList=[T] from rfl,Fu]
  .rw [List.length_map,List.length_map,List.take_length] at zI;rw[zI,List.range_succ,List.flatMap_append];simp
 .subst hδ wx;rw[NT.j8];unfold yE;refine dD <| w_var (v:= .loc (S.length+2)) rfl ⟨_,rfl,?_⟩
  rw[<-hB];exact h
theorem qd(NO:jv l gs os)(hc:l.length=c)(uG:c<=10)(ho:∀x∈os,1<=x.2.length/\x.2.length<=3)(hg:gs.length<=12)(hm:m<=3)(hS:nv S){Q:V3->aF->Prop}(h:Q (.d (.lst ((dN safe c l gs os m).map aC))) S) :
 W3 (fD [.d (bO l gs os), .d (nI m), .d (.str (ml safe))] S) Q:=by
 have e:fD [.d (bO l gs os), .d (nI m), .d (.str (ml safe))] S=nC ip mM [.d (bO l gs os), .d (nI m), .d (.str (ml safe))] S:=rfl;rw[e];refine kM hS ?_;refine Co NO hc uG ho hg hm hS ⟨?_,⟨_,rfl⟩,_,fM t3,h⟩;show decide (S.length<=S.length+2)=true;exact decide_eq_true (by omega)
end
end K25
end
section
namespace K25
open PySem PySem.Spec PyProof.Rows L2 L3 MT
section
variable {c:Nat} {ins:ZA} {gs:List Gt} {os:ZC}
theorem zN{x:Str × List Nat}{p:Nat}(hl:1<=x.2.length/\x.2.length<=3)(h2:∀a b,x.2=[a,b]->nD (Wd c ins gs [] []) a p=nD (Wd c ins gs [] []) b p):(pt (Wd c ins gs [] []) x p).2=!(pt (Wd c ins gs [] []) x p).1:=by
 unfold pt tell;rw[List.map_map];obtain⟨s,ws⟩:=x
 match ws,hl,h2 with
 | [a],_,_=>show nD _ a p=!(!(nD _ a p));rw [Bool.not_not]
 | [a,b],_,h2=>
   show(nD (Wd c ins gs [] []) a p && nD (Wd c ins gs [] []) b p)=!(!(nD (Wd c ins gs [] []) a p || nD (Wd c ins gs [] []) b p))
   rw[h2 a b rfl];cases nD (Wd c ins gs [] []) b p <;> rfl
 | [a,b,d],_,_=>
   show _=!(!_);rw[Bool.not_not];rfl
theorem DN.no(h:DN ins gs os)(hi:ins.length < 100)(hg:gs.length < 1000):jv ins gs os:=⟨hi,fun x hx=>by have:=(h.li x hx).1;omega,hg,h.gg,by have:=h.oL;omega,fun x hx=>⟨by have:=(h.oo x hx).1.1;omega,(h.oo x hx).1.2.1⟩⟩
theorem DN.w3(h:DN ins gs os):∀x∈os,1<=x.2.length/\x.2.length<=3:=fun x hx=>(h.oo x hx).1.1
theorem DN.sd(h:DN ins gs os)(hc:ins.length=c):∀x∈os,∀p,(pt (Wd c ins gs [] []) x p).2=!(pt (Wd c ins gs [] []) x p).1:=fun x hx p=>zN (h.w3 x hx) fun a b zJ=>(h.oo x hx).1.2.2 a b zJ (zk c) (by rw[Bk,hc]) p
end
def IW(n:Nat)(S:aF):Prop:=Flat S/\S.length=n/\∀k,k < n->yD k S
theorem Kb(cs:List Int)(hc:cs.length<=63){Q:V3->aF->Prop}(h:∀(n:Nat) S1,0 < n->IW n S1->Q (.lst ((List.range n).map .loc)) S1):W3 (kQ [.d (.lst (cs.map .int))] []) Q:=by
 have hz:sizeLine=16777216:=sizeLine_eq;unfold kQ;refine uB rfl ?_;simp only[cm,ko,List.map,List.length,List.replicate,List.cons_append,List.nil_append,Nat.reduceAdd,Nat.reduceSub];unfold p9;cases cs with
 | nil=>
   refine Gu (h_ (k7 (b:=true) rfl ?_));rw[if_pos rfl];refine dD (Qc (au (ic (ds:=[.int 0, .int 0]) (pd rfl (by simp;omega)) (bF ⟨by simp;omega,_,rfl,_,rfl,?_⟩))))
   refine h 1 _ (by omega) ⟨xx _,rfl,fun k hk=>⟨xx _,0,0,?_⟩⟩
   .obtain rfl:k=0:=by omega
    rfl
 | cons c cs=>
   refine aK (h_ (k7 (b:=false) ?_ ?_))
   .refine dA (a:= .int ((c ::cs).length:Nat)) (b:= .int 0) ?_ rfl ?_
    .exact aX (ds:=[.lst ((c ::cs).map .int)]) rfl (by rw[vO,List.length_map])
    .have:¬(((c ::cs).length:Int)=0):=by rw[List.length_cons];omega
     show R.ok (D.bl (decide (((c ::cs).length:Int)=0)))=_;rw[decide_eq_false this]
   rw[if_neg (by decide)]
   refine dk ⟨_,rfl,dD (Hu (jC (ds:=(c ::cs).map .int) ?_ ⟨by simp at hc ⊢;omega,?_⟩))⟩
   .refine eE (C_ (d:= .lst ((c ::cs).map .int)) (lo:=none) (hi:=some 63) rfl rfl rfl ?_);show R.ok (D.lst (L2.cutD _ none (some 63)))=_;rw[Jf _ (by omega),List.take_of_length_le (by simp at hc ⊢;omega)]
   generalize hcc:c ::cs=cc at hc;have hpos:0 < cc.length:=by rw[<-hcc];simp
   refine(xw (fun i ys S=>ys=(List.range i).map V3.loc/\Flat S/\S.length=i/\∀k,k < i->∃a c,S[k]? =some (.lst [.int a, .int c])) ⟨rfl,(by intro o ho;cases ho),rfl,fun k hk=>(by omega)⟩ ?_).mono fun ys S2 ⟨e,hL,hl,hp⟩=>⟨_,rfl,?_⟩
   .rintro i v ys S hv ⟨rfl,hL,hl,hp⟩;obtain⟨d,hd,rfl⟩:=List.mem_map.mp (List.mem_of_getElem? hv);obtain⟨x,_,rfl⟩:=List.mem_map.mp hd;refine⟨_,rfl,xK ?_⟩;rw[if_pos rfl];refine ic (ds:=[.int x, .int 0]) (pd rfl (by simp;omega)) ⟨?_,hL.push (mr _),by simp [hl],fun k hk=>?_⟩
    .rw [List.range_succ,List.map_append,hl];rfl
    .by_cases hki:k < i
     .obtain⟨a,c,e⟩:=hp k hki;exact⟨a,c,by rw[List.getElem?_append_left (by omega)];exact e⟩
     .obtain rfl:k=i:=by omega
      refine⟨x,0,?_⟩;rw[<-hl];exact bg _ _
   .rw [List.length_map,List.length_map] at e hl hp;have hm:tL ys= .lst ((List.range cc.length).map .loc):=by
     rw[e];obtain⟨m,hm⟩:∃m,cc.length=m+1:=⟨cc.length - 1,by omega⟩
     rw[hm,List.range_succ_eq_map,List.map_cons];rfl
    rw[hm];exact h cc.length S2 hpos ⟨hL,hl,fun k hk=>⟨hL,hp k hk⟩⟩
theorem IW.ev{n k:Nat}{S S1:aF}(h:IW n S)(hk:k < n)(v:Ev k S S1):IW n S1:=⟨v.p.1,by rw[v.len];exact h.2.1,fun j hj=>by
 by_cases q:j=k
 .subst q;exact v.p
 .obtain⟨_,a,c,e⟩:=h.2.2 j hj;exact⟨v.p.1,a,c,by rw[v.oth j q];exact e⟩⟩
end K25
end
section
namespace K25
open PySem PySem.Spec PyProof.Rows L2 L3 MT
def hit(T G:List Nat):Bool:=G.any fun x=>T.contains x
def eX(groups:ZD)(T:List Nat):Bool:=groups.all (hit T)
theorem yO{T G:List Nat}:hit T G=true↔∃x∈G,x∈T:=by
 unfold hit;rw[List.any_eq_true];exact⟨fun⟨x,h1,h2⟩=>⟨x,h1,by simpa using h2⟩,fun⟨x,h1,h2⟩=>⟨x,h1,by simpa using h2⟩⟩
theorem fW{groups:ZD}{T:List Nat}:eX groups T=true↔∀G∈groups,∃x∈G,x∈T:=by
 unfold eX;rw[List.all_eq_true];exact⟨fun h G hG=>yO.mp (h G hG),fun h G hG=>yO.mpr (h G hG)⟩
structure Good (free:List Nat) (groups:ZD):Prop where
 so:free.Pairwise (· < ·)
 g:∀G∈groups,G≠[]/\G.Sublist free
def gD(G:List Nat):D:= .lst (G.map nI)
def t8(groups:ZD):D:= .lst (groups.map gD)
def dK(ks:List Nat):List (Key × D):=ks.map fun(k:Nat)=>((Sum.inl (k:Int):Key),D.bl true)
def qS(ks:List Nat)(x:Nat):List Nat:=if ks.contains x then ks else ks++[x]
theorem MV(k x:Nat):decide ((Sum.inl (k:Int):Key)=Sum.inl (x:Int))=(k==x):=by
 by_cases q:k=x
 .subst q;simp
 .have:¬(Sum.inl (k:Int):Key)=Sum.inl (x:Int):=fun e=>q (by have:=Sum.inl.inj e;omega)
  rw[decide_eq_false this];exact(beq_eq_false_iff_ne.mpr q).symm
theorem Gr(ks:List Nat)(x:Nat):((dK ks).any fun kv=>decide (kv.1=(Sum.inl (x:Int):Key)))=ks.contains x:=by
 unfold dK;rw[List.any_map]
 induction ks with
 | nil=>rfl
 | cons k ks ih=>
   rw[List.any_cons,List.contains_cons,ih];congr 1;show decide ((Sum.inl (k:Int):Key)=Sum.inl (x:Int))=(x==k);rw[MV];rw[Bool.eq_iff_iff,beq_iff_eq,beq_iff_eq];exact⟨Eq.symm,Eq.symm⟩
theorem BK(ks:List Nat)(x:Nat):A2 (dK ks) (Sum.inl (x:Int)) (.bl true)=dK (qS ks x):=by
 unfold A2;rw[Gr];unfold qS;by_cases q:ks.contains x=true
 .rw [if_pos q,if_pos q];unfold dK;rw[List.map_map];refine List.map_congr_left fun k _=>?_
  show(if(Sum.inl (k:Int):Key)=Sum.inl (x:Int) then((Sum.inl (k:Int):Key),D.bl true) else((Sum.inl (k:Int):Key),D.bl true))=_
  split <;> rfl
 .rw [if_neg q,if_neg q];unfold dK;rw[List.map_append];rfl
theorem wa{ks:List Nat}{x y:Nat}:y∈qS ks x↔y∈ks\/y=x:=by
 unfold qS;split
 .rename_i h;have h:x∈ks:=by simpa using h
  exact⟨.inl,fun z=>z.elim id fun e=>by subst e;exact h⟩
 .simp
theorem Dr{ks:List Nat}{x:Nat}(h:ks.Nodup):(qS ks x).Nodup:=by
 unfold qS;split
 .exact h
 .rename_i hx;have hx:x ∉ ks:=by simpa using hx
  rw[List.nodup_append];exact⟨h,by simp,fun a ha b hb=>by rw[List.mem_singleton.mp hb];intro e;subst e;exact hx ha⟩
theorem Jj{ks:List Nat}{x:Nat}:(qS ks x).length<=ks.length+1:=by unfold qS;split <;> simp
def lj(ks G:List Nat):List Nat:=G.foldl qS ks
theorem qy:∀{G ks:List Nat} {y:Nat},y∈lj ks G↔y∈ks\/y∈G
 | [],ks,y=>by simp [lj]
 | x ::G,ks,y=>by
   show y∈lj (qS ks x) G↔_;rw[qy,wa,List.mem_cons,or_assoc]
theorem p7:∀{G ks:List Nat},(lj ks G).length<=ks.length+G.length
 | [],ks=>by simp [lj]
 | x ::G,ks=>by
   show(lj (qS ks x) G).length<=_;have:=p7 (G:=G) (ks:=qS ks x);have:=Jj (ks:=ks) (x:=x);rw[List.length_cons];omega
theorem wV{T:List Nat}{p q:Nat->Bool}(h:∀x∈T,p x=true->q x=true){x:Nat}(hx:x∈T)(h1:p x=false)(h2:q x=true):(T.filter p).length+1<=(T.filter q).length:=by
 induction T with
 | nil=>cases hx
 | cons y T ih=>
   rcases List.mem_cons.mp hx with rfl | yu
   .have hle:(T.filter p).length<=(T.filter q).length:=by
     clear ih hx
     induction T with
     | nil=>exact Nat.le_refl _
     | cons z T ih=>
       have ih':=ih fun w hw=>h w (by rcases List.mem_cons.mp hw with e | e;exact e▸List.mem_cons_self;exact List.mem_cons_of_mem _ (List.mem_cons_of_mem _ e))
       have hz:=h z (List.mem_cons_of_mem _ List.mem_cons_self);rw[List.filter_cons,List.filter_cons];cases hp:p z with
       | true=>rw [if_pos rfl,if_pos (hz hp),List.length_cons,List.length_cons];omega
       | false=>
         rw[if_neg (by decide)]
         split
         .rw [List.length_cons];omega
         .exact ih'
    rw[List.filter_cons,if_neg (by rw[h1];decide),List.filter_cons,if_pos h2,List.length_cons]
    omega
   .have ih':=ih (fun z hz=>h z (List.mem_cons_of_mem _ hz)) yu
    have hy:=h y List.mem_cons_self;rw[List.filter_cons,List.filter_cons];cases hp:p y with
    | true=>rw [if_pos rfl,if_pos (hy hp),List.length_cons,List.length_cons];omega
    | false=>
      rw[if_neg (by decide)]
      split
      .rw [List.length_cons];omega
      .exact ih'
section
variable {S:aF} {groups:ZD} {free:List Nat}
def cE(gs:D)(n:Nat)(c:D)(a3 a4:Option V3):DE:=[some (.d gs),some (.loc n),some (.d c),a3,a4]
theorem Iz(hG:Good free groups)(hf:free.length<=12)(hl:groups.length<=20000)(hS:nv S){Q:V3->aF->Prop}
 (h:∀c:Nat,(∀T,eX groups T=true->c<=T.length)->(groups≠[]->1<=c)->Q (.d (nI c)) S):W3 (gB [.d (t8 groups)] S) Q:=by
 have hz:sizeLine=16777216:=sizeLine_eq;unfold gB;refine kM hS (uB rfl ?_);simp only[cm,fT,List.map,List.length,List.replicate,List.cons_append,List.nil_append,Nat.reduceAdd,Nat.reduceSub];unfold lA;refine aK <| bq (by simp) <| CY ⟨_,rfl,?_⟩
 simp only[List.set];refine aK <| bq (by simp) <| bN (d:=nI 0) rfl ⟨_,rfl,?_⟩
 simp only[List.set];refine aK <| dJ <| jC (ds:=groups.map gD) (eE rfl) ?_
 refine(bA (fun i δ S2=>∃(ks:List Nat) (c:Nat) (a3 a4:Option V3),S2=S++[SO.dct (dK ks)]/\ks.length<=12*i/\(∀T,eX groups T=true->c<=(T.filter fun x=>ks.contains x).length)/\(0 < i->1<=c)/\(i=0->ks=[])/\δ=cE (t8 groups) S.length (nI c) a3 a4)
  ⟨[],0,none,none,rfl,by simp,fun T _=>by omega,fun z=>by omega,fun _=>rfl,rfl⟩ ?_).mono fun o S2 ⟨cK,fR,ks,c,a3,a4,wx,hkl,hc,uG,_,hδ⟩=>⟨cK,fR,?_⟩
 .rintro i v δ S2 hv ⟨ks,c,a3,a4,rfl,hkl,hc,uG,Xr,rfl⟩;obtain⟨G,hGi,rfl⟩:=NT.fG hv;have hil:=(List.getElem?_eq_some_iff.mp hGi).1;have xn:=List.mem_of_getElem? hGi;obtain⟨hGn,hGs⟩:=hG.g G xn;have hGl:G.length<=12:=Nat.le_trans hGs.length_le hf;have hg:(S++[SO.dct (dK ks)])[S.length]? =some (.dct (dK ks)):=bg _ _;refine⟨cE (t8 groups) S.length (nI c) (some (.d (gD G))) a4,rfl,?_⟩;unfold nc;refine h_ <| w_not <| LW <| rn <| au <| mP (fun j ds S3=>S3=S++[SO.dct (dK ks)]/\ds=((G.map fun x=>ks.contains x).take j).map .bl) (jC (ds:=G.map nI) (eE rfl) ⟨by rw[List.length_map,List.length_map];omega,⟨rfl,by simp⟩,?_,?_⟩)
  .rintro j u ds S3 hu ⟨rfl,rfl⟩;obtain⟨x,hx,rfl⟩:=NT.fG hu;refine⟨[some (.d (nI x)),some (.loc S.length)],rfl,xK ?_⟩;rw[if_pos rfl];refine Py <| bN (d:=nI x) rfl <| w_var (v:= .loc S.length) rfl ⟨_,_,_,rfl,rfl,hg,_,rfl,rfl,?_⟩
   rw[Gr,List.take_add_one,List.getElem?_map,hx,List.map_append];rfl
  .rintro ds S3 ⟨rfl,rfl⟩;rw[List.length_map,List.length_map,List.take_of_length_le (by simp)]
   refine bF ⟨[.lst ((G.map fun x=>ks.contains x).map .bl)], .bl (G.any fun x=>ks.contains x),rfl,?_,_,_,rfl,rfl,?_⟩
   .show(match bls? ((G.map fun x=>ks.contains x).map D.bl) with | some bs=>R.ok (D.bl (bs.any id)) | none=> .no)=_
    rw[uw];show R.ok (D.bl ((G.map fun x=>ks.contains x).any id))=_
    rw[List.any_map];rfl
   cases hany:G.any fun x=>ks.contains x with
   | true=>
     rw[if_neg (by decide)]
     refine dk ⟨_,rfl,ks,c,_,_,rfl,by omega,hc,fun _=>?_,fun z=>by omega,rfl⟩
     refine uG (Nat.pos_of_ne_zero fun z=>?_)
     rw[Xr z] at hany;obtain⟨x,_,hx⟩:=List.any_eq_true.mp hany;simp at hx
   | false=>
     rw[if_pos (by decide)]
     have hdis:∀x∈G,ks.contains x=false:=fun x hx=>by
      cases q:ks.contains x with
      | false=>rfl
      | true=>have:=List.any_eq_true.mpr ⟨x,hx,q⟩;rw [hany] at this;cases this
     refine aK <| bq (by unfold cE;simp only[List.length_cons,List.length_nil];omega) <| bN (d:=nI (c+1)) (aH (a:=nI c) (b:= .int 1) rfl rfl rfl) ⟨_,rfl,?_⟩
     show W3 (fS _ _ _ (cE (t8 groups) S.length (nI (c+1)) (some (.d (gD G))) a4) _) _;refine dJ <| jC (ds:=G.map nI) (eE rfl) ?_
     refine(bA (fun j δ S3=>∃b4,S3=S++[SO.dct (dK (lj ks (G.take j)))]/\δ=cE (t8 groups) S.length (nI (c+1)) (some (.d (gD G))) b4)
      ⟨a4,rfl,rfl⟩ ?_).mono fun o S3 ⟨zH,e3,b4,zI,qD⟩=>⟨zH,e3,lj ks G,c+1,some (.d (gD G)),b4,?_,?_,?_,fun _=>by omega,fun z=>by omega,qD⟩
     .rintro j u δ S3 hu ⟨b4,rfl,rfl⟩;obtain⟨x,hx,rfl⟩:=NT.fG hu;refine⟨cE (t8 groups) S.length (nI (c+1)) (some (.d (gD G))) (some (.d (nI x))),rfl,?_⟩;unfold nu;have hlen:=p7 (G:=G.take j) (ks:=ks);rw[List.length_take] at hlen;refine Ct <| bN (d:= .bl true) rfl <| w_var (v:= .loc S.length) rfl <| bN (d:=nI x) rfl ⟨_,_,_,_,rfl,rfl,rfl,bg _ _,by unfold dK;rw [List.length_map];omega,_,rfl,_,?_,rfl⟩
      rw[cP,BK,List.take_add_one,hx];unfold lj;rw[List.foldl_append];rfl
     .rw [List.length_map,List.length_map,List.take_length] at zI;exact zI
     .have:=p7 (G:=G) (ks:=ks);omega
     .intro T hT;obtain⟨x,Ju,hxT⟩:=fW.mp hT G xn;have h1:=hc T hT;have h2:=wV (T:=T) (p:=fun x=>ks.contains x) (q:=fun x=>(lj ks G).contains x) (fun y _ hy=>by
       have hy:y∈ks:=by simpa using hy
       simpa using qy.mpr (.inl hy)) hxT (hdis x Ju) (by simpa using qy.mpr (.inr Ju))
      omega
 .subst hδ wx;rw[List.length_map,List.length_map] at uG;unfold cE;refine dD <| bN (d:=nI c) rfl ⟨_,rfl,by unfold eN;rfl,⟨_,rfl⟩,_,by unfold res;rfl,h c (fun T hT=>Nat.le_trans (hc T hT) (List.length_filter_le _ _)) fun ur=>uG (List.length_pos_iff.mpr ur)⟩
end
end K25
end
section
namespace K25
open PySem PySem.Spec PyProof.Rows L2 L3 MT
def fr(free:List Nat)(x:Nat):List Nat:=free.filter fun y=>decide (y > x)
def left(groups:ZD)(x:Nat):ZD:=(groups.filter fun G=>!G.contains x).map fun G=>fr G x
def j5(free:List Nat)(s:Nat)(groups:ZD):Option (List Nat):=(eL free s).find? (eX groups)
def J5(free:List Nat)(groups:ZD)(m:Nat):Option (List Nat)->Prop
 | none=>∀T:List Nat,T.Sublist free->eX groups T=true->m < T.length
 | some T0=>T0.Sublist free/\eX groups T0=true/\T0.length<=m/\((∀T:List Nat,T.Sublist free->eX groups T=true->m<=T.length)->j5 free m groups=some T0)
theorem Ej:∀{T free:List Nat},T.Sublist free->T∈eL free T.length
 | [],free,_=>by unfold eL;simp
 | x ::T,free,h=>by
   induction free with
   | nil=>cases h
   | cons y free ih=>
     have hstep:eL (y ::free) (x ::T).length=(eL free T.length).map (y ::·)++eL free (x ::T).length:=by
      show((List.range (y ::free).length).flatMap fun a=>(eL ((y ::free).drop (a+1)) T.length).map ((y ::free).getD a 0 ::·))=_
      rw[List.length_cons,List.range_succ_eq_map,List.flatMap_cons];congr 1;show(List.map Nat.succ (List.range free.length)).flatMap _=(List.range free.length).flatMap fun a=>(eL (free.drop (a+1)) T.length).map (free.getD a 0 ::·)
      rw[mU];rfl
     rw[hstep];cases h with
     | cons _ h=>exact List.mem_append_right _ (ih h)
     | cons_cons _ h=>exact List.mem_append_left _ (List.mem_map_of_mem (Ej h))
theorem rV:∀(s:Nat) (free T:List Nat),T∈eL free s->T.Sublist free
 | 0,free,T,h=>by unfold eL at h;rw [List.mem_singleton.mp h];exact List.nil_sublist _
 | s+1,free,T,h=>by
   unfold eL at h;obtain⟨a,ha,h⟩:=List.mem_flatMap.mp h;obtain⟨R,hR,rfl⟩:=List.mem_map.mp h;rw[List.mem_range] at ha;have:=rV s _ R hR;have e:free.drop a=free.getD a 0 ::free.drop (a+1):=by
    rw[List.drop_eq_getElem_cons ha,List.getD_eq_getElem?_getD,List.getElem?_eq_getElem ha];rfl
   exact(e▸List.Sublist.cons_cons _ this).trans (List.drop_sublist a free)
theorem oA{free:List Nat}{x y:Nat}:y∈fr free x↔y∈free/\x < y:=by unfold fr;rw [List.mem_filter];simp
theorem Hj{free R:List Nat}{x:Nat}(hs:free.Pairwise (· < ·))(h:(x ::R).Sublist free):x∈free/\R.Sublist (fr free x):=by
 refine⟨h.subset List.mem_cons_self,?_⟩;have hp:=(hs.sublist h);have hR:R=R.filter fun y=>decide (y > x):=by
  rw[eq_comm,List.filter_eq_self];intro y hy;exact decide_eq_true ((List.pairwise_cons.mp hp).1 y hy)
 rw[hR];exact((List.sublist_cons_self x R).trans h).filter _
theorem xX{x:Nat}:∀{free:List Nat},free.Pairwise (· < ·)->x∈free->(x ::fr free x).Sublist free
 | [],_,h=>by cases h
 | y ::f,hs,h=>by
   obtain⟨h1,h2⟩:=List.pairwise_cons.mp hs;rcases List.mem_cons.mp h with rfl | hx
   .unfold fr;rw[List.filter_cons,if_neg (by simp)]
    exact List.Sublist.cons_cons _ List.filter_sublist
   .have hlt:=h1 x hx;unfold fr;rw[List.filter_cons,if_neg (by simp;omega)]
    exact(xX h2 hx).cons y
theorem uL{free R:List Nat}{x:Nat}(hs:free.Pairwise (· < ·))(hx:x∈free)(h:R.Sublist (fr free x)):(x ::R).Sublist free:=(List.Sublist.cons_cons x h).trans (xX hs hx)
theorem nV{groups:ZD}{R:List Nat}{x:Nat}(hR:∀y∈R,x < y):eX (left groups x) R=eX groups (x ::R):=by
 rw[Bool.eq_iff_iff,fW,fW];constructor
 .intro h G hG;by_cases q:x∈G
  .exact⟨x,q,List.mem_cons_self⟩
  .obtain⟨y,h1,h2⟩:=h (fr G x) (List.mem_map.mpr ⟨G,List.mem_filter.mpr ⟨hG,by simpa using q⟩,rfl⟩)
   exact⟨y,(oA.mp h1).1,List.mem_cons_of_mem _ h2⟩
 .intro h G' Jv;obtain⟨G,hG,rfl⟩:=List.mem_map.mp Jv;obtain⟨hG,hx⟩:=List.mem_filter.mp hG;have hx:x ∉ G:=by simpa using hx
  obtain⟨y,h1,h2⟩:=h G hG;rcases List.mem_cons.mp h2 with rfl | h2
  .exact absurd h1 hx
  .exact⟨y,oA.mpr ⟨h1,hR y h2⟩,h2⟩
theorem wg{β:Type}{f:Nat->Option β}{v:β}{n a:Nat}(ha:a < n)(hv:f a=some v)(hn:∀b,b < a->f b=none):(List.range n).findSome? f=some v:=by
 rw[List.range_eq_range'];have:∀(m lo:Nat),lo<=a->a < lo+m->(List.range' lo m).findSome? f=some v:=by
  intro m
  induction m with
  | zero=>intro lo h1 h2;omega
  | succ m ih=>
    intro lo h1 h2;rw[List.range'_succ,List.findSome?_cons];by_cases q:lo=a
    .subst q;rw [hv]
    .rw [hn lo (by omega)]
     exact ih (lo+1) (by omega) (by omega)
 exact this n 0 (by omega) (by omega)
theorem wU{free:List Nat}(hs:free.Pairwise (· < ·))(s:Nat)(groups:ZD):j5 free (s+1) groups=(List.range free.length).findSome? fun a=>(j5 (fr free (free.getD a 0)) s (left groups (free.getD a 0))).map (free.getD a 0 ::·):=by
 unfold j5;show((List.range free.length).flatMap fun a=>(eL (free.drop (a+1)) s).map (free.getD a 0 ::·)).find? (eX groups)=_
 rw[List.find?_flatMap];have cong:∀(xs:List Nat) (f g:Nat->Option (List Nat)),(∀x∈xs,f x=g x)->xs.findSome? f=xs.findSome? g:=by
  intro xs
  induction xs with
  | nil=>intro f g _;rfl
  | cons x xs ih=>intro f g h;rw [List.findSome?_cons,List.findSome?_cons,h x List.mem_cons_self,ih f g fun y hy=>h y (List.mem_cons_of_mem _ hy)]
 refine cong _ _ _ fun a ha=>?_
 rw[List.mem_range] at ha;have hd:free.drop (a+1)=fr free (free.getD a 0):=(tP hs ha).symm;rw[List.find?_map,hd];congr 1;have cf:∀(xs:ZD) (p q:List Nat->Bool),(∀x∈xs,p x=q x)->xs.find? p=xs.find? q:=by
  intro xs
  induction xs with
  | nil=>intro p q _;rfl
  | cons x xs ih=>intro p q h;rw [List.find?_cons,List.find?_cons,h x List.mem_cons_self,ih p q fun y hy=>h y (List.mem_cons_of_mem _ hy)]
 refine cf _ _ _ fun R hR=>?_
 show eX groups (free.getD a 0 ::R)=_;exact(nV fun y hy=>(oA.mp ((iC hR).2 y hy)).2).symm
section
variable {free:List Nat} {groups:ZD} {last m:Nat} {ks:List Nat}
structure Nd (free:List Nat) (groups:ZD) (last:Nat) (ks:List Nat):Prop where
 good:Good free groups
 ne:groups≠[]
 up:∀G∈groups,∃y∈G,last<=y
 lo:∃G∈groups,∀y∈G,y<=last
 ks:∀x,x∈ks↔(∃G∈groups,x∈G)/\x<=last
theorem Nd.low(N:Nd free groups last ks){x:Nat}{R:List Nat}(hT:(x ::R).Sublist free)(hh:eX groups (x ::R)=true):x<=last:=by
 obtain⟨G,hG,hl⟩:=N.lo;obtain⟨y,h1,h2⟩:=fW.mp hh G hG;have hy:=hl y h1;have hp:=N.good.so.sublist hT;rcases List.mem_cons.mp h2 with rfl | h2
 .exact hy
 .have:=(List.pairwise_cons.mp hp).1 y h2;omega
theorem Nd.skip(N:Nd free groups last ks){x:Nat}{R:List Nat}(hT:(x ::R).Sublist free)(hh:eX groups (x ::R)=true)(hx:x ∉ ks):eX groups R=true:=by
 have hl:=N.low hT hh;have hno:∀G∈groups,x ∉ G:=fun G hG Ju=>hx ((N.ks x).mpr ⟨⟨G,hG,Ju⟩,hl⟩)
 refine fW.mpr fun G hG=>?_
 obtain⟨y,h1,h2⟩:=fW.mp hh G hG;rcases List.mem_cons.mp h2 with rfl | h2
 .exact absurd h1 (hno G hG)
 .exact⟨y,h1,h2⟩
theorem Nd.left(N:Nd free groups last ks){x:Nat}(hx:x<=last):Good (fr free x) (left groups x):=by
 refine⟨N.good.so.filter _,fun G' Jv=>?_⟩
 obtain⟨G,hG,rfl⟩:=List.mem_map.mp Jv;obtain⟨hG,Ju⟩:=List.mem_filter.mp hG;have Ju:x ∉ G:=by simpa using Ju
 obtain⟨y,hy,hly⟩:=N.up G hG;have ur:y≠x:=fun e=>Ju (e▸hy)
 refine⟨fun e=>?_,(N.good.g G hG).2.filter _⟩
 have:y∈fr G x:=oA.mpr ⟨hy,by omega⟩
 rw[e] at this;cases this
theorem Nd.VO(N:Nd free groups last ks)(h:∀x∈free.filter (fun x=>ks.contains x),J5 (fr free x) (K25.left groups x) m none):∀T:List Nat,T.Sublist free->eX groups T=true->m+1 < T.length
 | [],_,hh=>by
   obtain⟨G,hG⟩:=List.exists_mem_of_ne_nil _ N.ne;obtain⟨y,_,hy⟩:=fW.mp hh G hG;cases hy
 | x ::R,hT,hh=>by
   obtain⟨hx,hR⟩:=Hj N.good.so hT;by_cases q:x∈ks
   .have h1:=h x (List.mem_filter.mpr ⟨hx,by simpa using q⟩) R hR (by rw[nV fun y hy=>(oA.mp (hR.subset hy)).2];exact hh)
    rw[List.length_cons];omega
   .have:=Nd.VO N h R ((List.sublist_cons_self x R).trans hT) (N.skip hT hh q);rw[List.length_cons];omega
theorem Nd.yes(N:Nd free groups last ks){ys zs:List Nat}{x0:Nat}{R0:List Nat}(e:free.filter (fun x=>ks.contains x)=ys++x0 ::zs)(hy:∀y∈ys,J5 (fr free y) (K25.left groups y) m none)(h0:J5 (fr free x0) (K25.left groups x0) m (some R0)):J5 free groups (m+1) (some (x0 ::R0)):=by
 obtain⟨h1,h2,h3,h4⟩:=h0;have Ud:x0∈free:=(List.mem_filter (p:=fun x=>ks.contains x) |>.mp (by rw[e];simp)).1
 have hgt:∀y∈R0,x0 < y:=fun y hy=>(oA.mp (h1.subset hy)).2
 refine⟨uL N.good.so Ud h1,by rw[<-nV hgt];exact h2,by rw[List.length_cons];omega,fun xo=>?_⟩
 rw[wU N.good.so];obtain⟨a0,Uv,hxa⟩:=List.mem_iff_getElem.mp Ud;have hg0:free.getD a0 0=x0:=by rw[List.getD_eq_getElem?_getD,List.getElem?_eq_getElem Uv,hxa];rfl
 refine wg Uv ?_ fun b hb=>?_
 .rw [hg0,h4 fun R hR hh=>?_]
  .rfl
  .have:=xo (x0 ::R) (uL N.good.so Ud hR) (by rw[<-nV fun y hy=>(oA.mp (hR.subset hy)).2];exact hh)
   rw[List.length_cons] at this;omega
 .have hbl:b < free.length:=by omega
  have hgb:free.getD b 0=free[b]:=by rw[List.getD_eq_getElem?_getD,List.getElem?_eq_getElem hbl];rfl
  rw[hgb];cases hf:j5 (fr free free[b]) m (K25.left groups free[b]) with
  | none=>rfl
  | some R=>
    exfalso
    unfold j5 at hf;have hRm:=List.mem_of_find?_eq_some hf;have hRh:=List.find?_some hf;have hRs:=rV _ _ _ hRm;have hRl:=(iC hRm).1;have hbm:free[b]∈free:=List.getElem_mem hbl;have hlt:free[b] < x0:=by rw[<-hxa];exact List.pairwise_iff_getElem.mp N.good.so b a0 hbl Uv hb
    have hT:=uL N.good.so hbm hRs;have hh:eX groups (free[b] ::R)=true:=by rw[<-nV fun y hy=>(oA.mp (hRs.subset hy)).2];exact hRh
    by_cases q:free[b]∈ks
    .have hin:free[b]∈free.filter (fun x=>ks.contains x):=List.mem_filter.mpr ⟨hbm,by simpa using q⟩
     rw[e] at hin;have Ph:(ys++x0 ::zs).Pairwise (· < ·):=by rw[<-e];exact N.good.so.filter _
     have hys:free[b]∈ys:=by
      rcases List.mem_append.mp hin with z | z
      .exact z
      .rcases List.mem_cons.mp z with z | z
       .omega
       .have:=(List.pairwise_cons.mp (List.pairwise_append.mp Ph).2.1).1 _ z;omega
     have:=hy _ hys R hRs hRh;omega
    .have h5:=xo R ((List.sublist_cons_self _ R).trans hT) (N.skip hT hh q);omega
end
end K25
end
section
namespace K25
open PySem PySem.Spec PyProof.Rows L2 L3 MT
theorem Sx(x:Nat)(ns:List Nat):Ah (nI x) (.lst (ns.map nI))= .ok (.bl (ns.contains x)):=by
 have h:Ah (.int (x:Int)) (.lst ((nZ ns).map .int))= .ok (.bl ((nZ ns).contains (x:Int))):=by
  show((match ints? ((nZ ns).map D.int) with | some ss=>R.ok (ss.contains (x:Int)) | none=> .no)).bind (fun b=>R.ok (D.bl b))=_
  rw[L2.ints_map];rfl
 rw[Cc,IJ] at h;exact h
theorem QY(y x:Nat):QK (nI y) (nI x)= .ok (.bl (decide (y > x))):=by
 show R.ok (D.bl (decide ((y:Int) > (x:Int))))=_;congr 2;by_cases q:y > x
 .rw [decide_eq_true q,decide_eq_true (by omega)]
 .rw [decide_eq_false q,decide_eq_false (by omega)]
theorem TZ(y x:Nat):Sv (nI y) (nI x)= .ok (.bl (decide (y<=x))):=by
 show R.ok (D.bl (decide ((y:Int)<=(x:Int))))=_;congr 2;by_cases q:y<=x
 .rw [decide_eq_true q,decide_eq_true (by omega)]
 .rw [decide_eq_false q,decide_eq_false (by omega)]
theorem ER{G:List Nat}{x:Nat}(hl:G.length < 1000):nM [gD G,nI x]= .ok (gD (fr G x)):=by
 have hz:sizeLine=16777216:=sizeLine_eq;unfold nM As;refine d3 (cM (dI (dh (ds:=G.map nI) (eE rfl) (by rw[List.length_map];omega) ?_)))
 exact NT.eB (fun y=>decide (y > x)) nI nI fun y _=>⟨[.val (nI y), .val (nI x)],rfl,dA (a:=nI y) (b:=nI x) rfl rfl (QY y x),fun _=>rfl⟩
theorem JP{groups:ZD}{x:Nat}(hl:∀G∈groups,G.length < 1000)(hn:groups.length<=20000):fU [t8 groups,nI x]= .ok (t8 (left groups x)):=by
 have hz:sizeLine=16777216:=sizeLine_eq;unfold fU pJ;refine d3 (cM (dI (dh (ds:=groups.map gD) (eE rfl) (by rw[List.length_map];omega) ?_)))
 unfold left;rw[List.map_map];exact NT.eB (fun G:List Nat=>!G.contains x) gD _ fun G hG=>⟨[.val (gD G), .val (nI x)],rfl,dA (a:=nI x) (b:=gD G) rfl rfl (G9 (Sx x G)),fun _=>aX (ds:=[gD G,nI x]) rfl (ER (hl G hG))⟩
theorem PL{G:List Nat}{l:Nat}(h:G.getLast? =some l):cR (gD G) (.int (-1))= .ok (nI l):=by
 refine sx ?_;unfold sU Ai;have hp:0 < G.length:=by
  cases G with
  | nil=>cases h
  | cons _ _=>simp
 rw[List.length_map,if_neg (by omega),if_pos (by omega)]
 show(G.map nI)[(((-1:Int))+(G.length:Int)).toNat]? =_;rw[List.getElem?_map,show((-1:Int)+(G.length:Int)).toNat=G.length - 1 by omega,<-List.getLast?_eq_getElem?,h]
 rfl
theorem xV{α:Type}{t:FG}{body:FZ}{S:aF}(g:α->V3)(E:DE->Prop)(N:α->Prop)(Y:α->V3->Prop):∀{xs:List α} {δ:DE},E δ->
 (∀x∈xs,∀δ,E δ->∃c_,t (g x) δ=some c_/\W3 (body c_ S) fun o S1=>S1=S/\((∃cK,o= .nx cK/\E cK/\N x)\/∃v,o= .rt v/\Y x v))->
 W3 (jx t body (xs.map g) δ S) fun o S1=>S1=S/\((∃cK,o= .nx cK/\E cK/\∀x∈xs,N x)\/∃ys x zs v,xs=ys++x ::zs/\(∀y∈ys,N y)/\o= .rt v/\Y x v)
 | [],δ,h0,_=>W3.ok ⟨rfl, .inl ⟨δ,rfl,h0,fun x hx=>by cases hx⟩⟩
 | x ::xs,δ,h0,hs=>by
   obtain⟨c_,e1,o,S1,fR,rfl,h2⟩:=hs x List.mem_cons_self δ h0;rw[List.map_cons];unfold jx;rw[e1];refine W3.bind ⟨_,_,fR,?_⟩;rcases h2 with⟨cK,rfl,hE,hN⟩ | ⟨v,rfl,hY⟩
   .refine(xV g E N Y hE fun y hy=>hs y (List.mem_cons_of_mem _ hy)).mono fun o S2 ⟨eS,hq⟩=>⟨eS,?_⟩
    rcases hq with⟨zH,e3,Xu,X7⟩ | ⟨ys,z,zs,v,exs,hys,eo,hY⟩
    .exact .inl ⟨zH,e3,Xu,fun y hy=>(List.mem_cons.mp hy).elim (fun e=>e▸hN) (X7 y)⟩
    .exact .inr ⟨x ::ys,z,zs,v,by rw[exs];rfl,fun y hy=>(List.mem_cons.mp hy).elim (fun e=>e▸hN) (hys y),eo,hY⟩
   .exact W3.ok ⟨rfl, .inr ⟨[],x,xs,v,rfl,(fun y hy=>by cases hy),rfl,hY⟩⟩
def rD:Option (List Nat)->D | none=> .cH | some T=>aC T
section
variable {free:List Nat} {groups:ZD}
def fE(gs m:D)(a2 a3 a4 a5 a6:Option V3):DE:=[some (.d gs),some (.d m),a2,a3,a4,a5,a6]
theorem Kh(hG:Good free groups)(ur:groups≠[])(hl:groups.length<=20000){δ:aw}(h0:ah 0 δ= .ok (t8 groups)):∃last:Nat,bp tR (av (eNew (dM (cq (ah 0)) (bh 0) sJ (e2 cR (ah 0) (GG (eC (.int 1)))) ["group"] [])) aP) δ= .ok (nI last)/\(∀G∈groups,∃y∈G,last<=y)/\∃G∈groups,∀y∈G,y<=last:=by
 have hz:sizeLine=16777216:=sizeLine_eq
 let mx:List Nat->Nat:=fun G=>G.getLast?.getD 0
 have hmx:∀G∈groups,G.getLast? =some (mx G)/\mx G∈G/\∀y∈G,y<=mx G:=fun G xn=>by
  obtain⟨h1,h2⟩:=hG.g G xn;obtain⟨l,Ry⟩:∃l,G.getLast? =some l:=⟨_,List.getLast?_eq_some_getLast h1⟩;have e:mx G=l:=by show G.getLast?.getD 0=l;rw [Ry];rfl
  rw[e];refine⟨Ry,List.mem_of_getLast? Ry,fun y hy=>?_⟩
  have hs:=hG.so.sublist h2;obtain⟨i,hi,rfl⟩:=List.mem_iff_getElem.mp hy;rw[List.getLast?_eq_getElem?] at Ry;obtain⟨h3,h4⟩:=List.getElem?_eq_some_iff.mp Ry;rcases Nat.lt_or_ge i (G.length - 1) with q | q
  .exact Nat.le_of_lt (by rw[<-h4];exact List.pairwise_iff_getElem.mp hs i _ hi h3 q)
  .have:i=G.length - 1:=by omega
   subst this;omega
 obtain⟨G0,gr,rfl⟩:∃G0 gr,groups=G0 ::gr:=by
  cases groups with
  | nil=>exact absurd rfl ur
  | cons a r=>exact⟨a,r,rfl⟩
 have hcomp:eNew (dM (cq (ah 0)) (bh 0) sJ (e2 cR (ah 0) (GG (eC (.int 1)))) ["group"] []) δ= .ok (.lst (((G0 ::gr).map fun G=>((mx G:Nat):Int)).map .int)):=by
  refine dI (dh (ds:=(G0 ::gr).map gD) (eE h0) (by rw[List.length_map];omega) ?_)
  rw[List.map_map];exact NT.eA gD _ fun G xn=>⟨[.val (gD G)],rfl,rfl,aH (a:=gD G) (b:= .int (-1)) rfl rfl (PL (hmx G xn).1)⟩
 obtain⟨h1,h2⟩:=L2.fold_min (gr.map fun G=>((mx G:Nat):Int)) ((mx G0:Nat):Int)
 obtain⟨G1,VT,e1⟩:∃G∈G0 ::gr,((mx G:Nat):Int)=(gr.map fun G=>((mx G:Nat):Int)).foldl min ((mx G0:Nat):Int):=by
  rcases List.mem_cons.mp h1 with q | q
  .exact⟨G0,List.mem_cons_self,q.symm⟩
  .obtain⟨G,xn,e⟩:=List.mem_map.mp q;exact⟨G,List.mem_cons_of_mem _ xn,e⟩
 refine⟨mx G1,?_,fun G xn=>?_,G1,VT,(hmx G1 VT).2.2⟩
 .refine aX (aV hcomp rfl) ?_;show(match ints? (((G0 ::gr).map fun G=>((mx G:Nat):Int)).map D.int) with | some (n ::ns)=>R.ok (D.int (ns.foldl min n)) | _=> .no)=_
  rw[L2.ints_map];show R.ok (D.int ((gr.map fun G=>((mx G:Nat):Int)).foldl min ((mx G0:Nat):Int)))=_
  rw[<-e1];rfl
 .refine⟨mx G,(hmx G xn).2.1,?_⟩;have h3:(gr.map fun G=>((mx G:Nat):Int)).foldl min ((mx G0:Nat):Int)<=((mx G:Nat):Int):=by
   refine h2 _ ?_;rcases List.mem_cons.mp xn with rfl | q
   .exact List.mem_cons_self
   .exact List.mem_cons_of_mem _ (List.mem_map.mpr ⟨G,q,rfl⟩)
  rw[<-e1] at h3;omega
theorem D1{ks:List Nat}(hs:free.Pairwise (· < ·))(hn:ks.Nodup)(hk:∀x∈ks,x∈free):rB (nZ ks)=nZ (free.filter fun x=>ks.contains x):=by
 have hnf:free.Nodup:=hs.imp fun h=>Nat.ne_of_lt h
 have hperm:(free.filter fun x=>ks.contains x).Perm ks:=(List.perm_ext_iff_of_nodup (hnf.filter _) hn).mpr fun x=>by
  rw[List.mem_filter];exact⟨fun h=>by simpa using h.2,fun h=>⟨hk x h,by simpa using h⟩⟩
 refine(zL (a:=nZ (free.filter fun x=>ks.contains x)) (hperm.map _) ?_).symm
 unfold nZ;rw[List.pairwise_map];exact(hs.filter _).imp fun h=>by omega
theorem GQ:∀(n m:Nat),m < n->∀(free:List Nat) (groups:ZD) (S:aF),Good free groups->free.length<=12->groups.length<=20000->nv S->∀(Q:V3->aF->Prop),(∀r,J5 free groups m r->Q (.d (rD r)) S)->W3 (c9 n [.d (t8 groups), .d (nI m)] S) Q
 | 0,m,hm=>by omega
 | n+1,m,hm=>by
   intro free groups S hG hf hl hS Q h;have hz:sizeLine=16777216:=sizeLine_eq;have Di:∀G∈groups,G.length < 1000:=fun G xn=>by have:=(hG.g G xn).2.length_le;omega
   show W3 (nC fk (jX (c9 n)) _ S) Q;refine kM hS (uB rfl ?_);simp only[cm,fk,List.map,List.length,List.replicate,List.cons_append,List.nil_append,Nat.reduceAdd,Nat.reduceSub];unfold jX;have fin:∀(r:Option (List Nat)) (T:aF),J5 free groups m r->eN S.length (.d (rD r))=true/\(∃U,S++T=S++U)/\∃d,res (S++T) (.d (rD r))=some d/\Q (.d d) S:=fun r T hr=>⟨by unfold eN;rfl,⟨T,rfl⟩,_,by unfold res;rfl,h r hr⟩
   refine ik <| h_ <| yC <| cv <| au <| bN (d:=t8 groups) rfl <| bF <| Iz hG hf hl hS fun c hc uG=>bN (d:=nI m) rfl ⟨_,_,_,rfl,rfl,QY c m,?_⟩
   by_cases hcm:c > m
   .rw [decide_eq_true hcm,if_pos rfl];refine dD <| bN (d:= .cH) rfl ⟨_,rfl,?_⟩
    have:=fin none [] fun T _ hh=>by have:=hc T hh;omega
    rw[List.append_nil] at this;exact this
   rw[decide_eq_false hcm,if_neg (by decide)]
   refine dk ?_;by_cases ur:groups=[]
   .subst ur;refine ik <| h_ <| k7 (b:=true) rfl ?_
    rw[if_pos rfl];refine dD <| bN (d:=aC []) (cX rfl (by simp)) ⟨_,rfl,?_⟩
    have:=fin (some []) [] ⟨List.nil_sublist _,rfl,by simp,fun xo=>?_⟩
    .rw [List.append_nil] at this;exact this
    .have h0:=xo [] (List.nil_sublist _) rfl;have:m=0:=by simpa using h0
     subst this;rfl
   obtain⟨G0,gr,UT⟩:∃G0 gr,groups=G0 ::gr:=by
    cases groups with
    | nil=>exact absurd rfl ur
    | cons a r=>exact⟨a,r,rfl⟩
   refine ik <| h_ <| k7 (b:=false) (by rw[UT];rfl) ?_
   rw[if_neg (by decide)]
   refine dk ?_;have Ul:1<=m:=by have:=uG ur;omega
   obtain⟨last,elast,hup,hlo⟩:=Kh hG ur hl (δ:=down [some (.d (t8 groups)),some (.d (nI m)),none,none,none,none,none]) rfl;refine aK <| bq (by simp) <| bN (d:=nI last) elast ⟨_,rfl,?_⟩
   simp only[List.set];refine aK <| bq (by simp) <| CY ⟨_,rfl,?_⟩
   simp only[List.set];refine aK <| dJ <| jC (ds:=groups.map gD) (eE rfl) ?_
   refine(bA (fun i δ S2=>∃(ks:List Nat) (a4 a5:Option V3),S2=S++[SO.dct (dK ks)]/\ks.Nodup/\(∀x,x∈ks↔(∃G∈groups.take i,x∈G)/\x<=last)/\δ=fE (t8 groups) (nI m) (some (.d (nI last))) (some (.loc S.length)) a4 a5 none)
    ⟨[],none,none,rfl,List.nodup_nil,fun x=>by simp,rfl⟩ ?_).mono fun o S2 ⟨cK,fR,ks,a4,a5,wx,hnd,hks,hδ⟩=>⟨cK,fR,?_⟩
   .rintro i v δ S2 hv ⟨ks,a4,a5,rfl,hnd,hks,rfl⟩;obtain⟨G,hGi,rfl⟩:=NT.fG hv;have xn:=List.mem_of_getElem? hGi;have hGs:=(hG.g G xn).2;have hkf:∀x∈ks,x∈free:=fun x hx=>by
     obtain⟨⟨G',Jv,yu⟩,_⟩:=(hks x).mp hx;exact(hG.g G' (List.mem_of_mem_take Jv)).2.subset yu
    refine⟨fE (t8 groups) (nI m) (some (.d (nI last))) (some (.loc S.length)) (some (.d (gD G))) a5 none,rfl,?_⟩;unfold l4;refine dJ <| jC (ds:=G.map nI) (eE rfl) ?_
    refine(bA (fun j δ S3=>∃(xq:List Nat) (b5:Option V3),S3=S++[SO.dct (dK xq)]/\xq.Nodup/\(∀x,x∈xq↔x∈ks\/(x∈G.take j/\x<=last))/\δ=fE (t8 groups) (nI m) (some (.d (nI last))) (some (.loc S.length)) (some (.d (gD G))) b5 none)
     ⟨ks,a5,rfl,hnd,fun x=>by simp,rfl⟩ ?_).mono fun o S3 ⟨zH,e3,xq,b5,zI,xp,wu,qD⟩=>⟨zH,e3,xq,_,b5,zI,xp,fun x=>?_,qD⟩
    .rintro j u δ S3 hu ⟨xq,b5,rfl,xp,wu,rfl⟩;obtain⟨x,hx,rfl⟩:=NT.fG hu;have Ju:=List.mem_of_getElem? hx;refine⟨fE (t8 groups) (nI m) (some (.d (nI last))) (some (.loc S.length)) (some (.d (gD G))) (some (.d (nI x))) none,rfl,?_⟩;unfold l8;have hkl:xq.length<=12:=by
      have hsub:∀y∈xq,y∈free:=fun y hy=>by
       rcases(wu y).mp hy with q | q
       .exact hkf y q
       .exact hGs.subset (List.mem_of_mem_take q.1)
      exact Nat.le_trans (L2.vB _ _ xp hsub) hf
     have hstep:∀y,(y∈ks\/(y∈G.take (j+1)/\y<=last))↔(y∈xq\/(y=x/\x<=last)):=fun y=>by
      rw[wu y,List.take_add_one,hx];simp only[Option.toList_some,List.mem_append,List.mem_singleton];constructor
      .rintro(q | ⟨q | q,q2⟩)
       .exact .inl (.inl q)
       .exact .inl (.inr ⟨q,q2⟩)
       .exact .inr ⟨q,q▸q2⟩
      .rintro((q | ⟨q,q2⟩) | ⟨q,q2⟩)
       .exact .inl q
       .exact .inr ⟨.inl q,q2⟩
       .exact .inr ⟨.inr q,q▸q2⟩
     refine h_ <| k7 (b:=decide (x<=last)) (dA (a:=nI x) (b:=nI last) rfl rfl (TZ x last)) ?_
     by_cases q:x<=last
     .rw [decide_eq_true q,if_pos rfl];refine Ct <| bN (d:= .bl true) rfl <| w_var (v:= .loc S.length) rfl <| bN (d:=nI x) rfl ⟨_,_,_,_,rfl,rfl,rfl,bg _ _,by unfold dK;rw [List.length_map];omega,_,rfl,qS xq x,_,?_,Dr xp,fun y=>?_,rfl⟩
      .rw [cP,BK]
      .rw [wa,hstep y];exact⟨fun z=>z.elim .inl fun e=> .inr ⟨e,q⟩,fun z=>z.elim .inl fun e=> .inr e.1⟩
     .rw [decide_eq_false q,if_neg (by decide)]
      refine dk ⟨_,rfl,xq,_,rfl,xp,fun y=>?_,rfl⟩
      rw[hstep y];exact⟨.inl,fun z=>z.elim id fun e=>absurd e.2 q⟩
    .rw [List.length_map,List.length_map,List.take_length] at wu;rw[wu x,hks x,List.take_add_one,hGi];simp only[Option.toList_some,List.mem_append,List.mem_singleton];constructor
     .rintro(⟨⟨G',h1,h2⟩,h3⟩ | ⟨h1,h2⟩)
      .exact⟨⟨G', .inl h1,h2⟩,h3⟩
      .exact⟨⟨G, .inr rfl,h1⟩,h2⟩
     .rintro⟨⟨G',h1 | h1,h2⟩,h3⟩
      .exact .inl ⟨⟨G',h1,h2⟩,h3⟩
      .exact .inr ⟨h1▸h2,h3⟩
   rw[List.length_map,List.length_map,List.take_length] at hks;subst hδ wx;have N:Nd free groups last ks:=⟨hG,ur,hup,hlo,hks⟩;have hkf:∀x∈ks,x∈free:=fun x hx=>by
    obtain⟨⟨G',Jv,yu⟩,_⟩:=(hks x).mp hx;exact(hG.g G' Jv).2.subset yu
   have hkl:ks.length<=12:=Nat.le_trans (L2.vB _ _ hnd hkf) hf;have hcl1:nv (S++[SO.dct (dK ks)]):=nv.push hS fun _=>rfl
   unfold fE;refine ik <| dJ <| pj <| Em <| w_var (v:= .loc S.length) rfl ⟨_,_,nZ ks,rfl,bg _ _,?_,by unfold nZ;rw [List.length_map];omega,_,rfl,?_⟩
   .unfold dK nZ;rw[List.map_map,List.map_map];rfl
   rw[D1 hG.so hnd hkf,Cc,List.map_map];refine(xV (S:=S++[SO.dct (dK ks)]) (V3.d ∘ nI) (fun δ=>∃a5 a6,δ=fE (t8 groups) (nI m) (some (.d (nI last))) (some (.loc S.length)) a4 a5 a6) (fun x=>J5 (fr free x) (left groups x) (m - 1) none) (fun x v=>∃R,v= .d (aC (x ::R))/\J5 (fr free x) (left groups x) (m - 1) (some R))
    ⟨_,_,rfl⟩ ?_).mono fun o S2 ⟨XA,hq⟩=>?_
   .rintro x hx δ ⟨b5,b6,rfl⟩;have OK:x∈ks:=by have:=(List.mem_filter.mp hx).2;simpa using this
    have Pg:=((hks x).mp OK).2;refine⟨fE (t8 groups) (nI m) (some (.d (nI last))) (some (.loc S.length)) a4 (some (.d (nI x))) b6,rfl,?_⟩;unfold md;refine aK <| bq (by unfold fE;simp only[List.length_cons,List.length_nil];omega) <| cv <| au <| bN (d:=t8 (left groups x)) (aX (ds:=[t8 groups,nI x]) rfl (JP Di hl)) <| au <| bN (d:=nI (m - 1)) (aH (a:=nI m) (b:= .int 1) rfl rfl ?_) <| bF <| GQ n (m - 1) (by omega) _ _ _ (N.left Pg) (Nat.le_trans (List.length_filter_le _ _) hf) (by unfold left;rw [List.length_map];exact Nat.le_trans (List.length_filter_le _ _) hl) hcl1 _ fun r hr=>⟨_,rfl,?_⟩
    .show R.ok (D.int ((m:Int) - 1))=R.ok (D.int ((m - 1:Nat):Int));congr 2;omega
    cases r with
    | none=>
      refine h_ <| k7 (b:=false) rfl ?_
      rw[if_neg (by decide)]
      exact dk ⟨rfl, .inl ⟨_,rfl,⟨_,_,rfl⟩,hr⟩⟩
    | some R=>
      refine h_ <| k7 (b:=true) rfl ?_
      rw[if_pos rfl];have hRl:R.length<=12:=Nat.le_trans hr.1.length_le (Nat.le_trans (List.length_filter_le _ _) hf);refine dD <| bN (d:=aC (x ::R)) (aH (a:= .tup [nI x]) (b:=aC R) (cX rfl (by simp;omega)) rfl (CJ (by rw[List.length_map];simp;omega))) ⟨rfl, .inr ⟨_,rfl,R,rfl,hr⟩⟩
   .subst XA;have hmm:m - 1+1=m:=by omega
    rcases hq with⟨zH,rfl,⟨b5,b6,rfl⟩,hN⟩ | ⟨ys,x,zs,v,eps,hys,rfl,R,rfl,hR⟩
    .refine dD <| bN (d:= .cH) rfl ⟨_,rfl,?_⟩
     have:=N.VO hN;rw[hmm] at this;exact fin none _ this
    .have:=N.yes eps hys hR;rw[hmm] at this;exact⟨_,rfl,fin (some (x ::R)) _ this⟩
end
end K25
end
section
namespace K25
open PySem PySem.Spec PyProof.Rows L2 L3 MT
theorem z0{T o:List Nat}:subB T o=true↔∀x∈o,x∈T:=by
 unfold subB;rw[List.all_eq_true];exact⟨fun h x hx=>by have:=h x hx;simpa using this,fun h x hx=>by simpa using h x hx⟩
theorem Bt{B:List Nat->Bool}{f:ZD}{T o:List Nat}(h:o∈f):o∈vP B f T:=by
 unfold vP;split
 .exact h
 .split
  .exact List.mem_append_left _ h
  .exact h
theorem sT{B:List Nat->Bool}:∀(xs:ZD) {f:ZD} {o:List Nat},o∈f->o∈xs.foldl (vP B) f
 | [],_,_,h=>h
 | x ::xs,f,o,h=>by rw[List.foldl_cons];exact sT xs (Bt h)
theorem uN{B:List Nat->Bool}:∀(xs f:ZD) {T:List Nat},T∈xs->B T=true->∃o∈xs.foldl (vP B) f,∀x∈o,x∈T
 | x ::xs,f,T,h,hB=>by
   rw[List.foldl_cons];rcases List.mem_cons.mp h with rfl | h
   .by_cases q:f.any (subB T)=true
    .obtain⟨o,ho,hs⟩:=List.any_eq_true.mp q;exact⟨o,sT xs (Bt ho),z0.mp hs⟩
    .refine⟨T,sT xs ?_,fun x hx=>hx⟩
     unfold vP;rw[if_neg q,if_pos hB];exact List.mem_append_right _ (List.mem_singleton.mpr rfl)
   .exact uN xs _ h hB
theorem z6{B:List Nat->Bool}:∀(xs f:ZD) {T:List Nat},T∈xs.foldl (vP B) f->T∈f\/∃ys zs,xs=ys++T ::zs/\B T=true/\(ys.foldl (vP B) f).any (subB T)=false
 | [],f,T,h=> .inl h
 | x ::xs,f,T,h=>by
   rw[List.foldl_cons] at h;rcases z6 xs _ h with q | ⟨ys,zs,e,hB,hn⟩
   .unfold vP at q;split at q
    .exact .inl q
    .rename_i hany;split at q
     .rename_i hBx;rcases List.mem_append.mp q with z | z
      .exact .inl z
      .rw [List.mem_singleton.mp z];exact .inr ⟨[],xs,rfl,hBx,by cases hq:f.any (subB x) with | false=>exact hq | true=>exact absurd hq hany⟩
     .exact .inl q
   .exact .inr ⟨x ::ys,zs,by rw[e];rfl,hB,by rw[List.foldl_cons];exact hn⟩
theorem qL{free T:List Nat}{m:Nat}:T∈jB free m↔T.Sublist free/\T.length<=m:=by
 unfold jB;rw[List.mem_flatMap];constructor
 .rintro⟨s,hs,h⟩;rw[List.mem_range] at hs;exact⟨rV s free T h,by rw[(iC h).1];omega⟩
 .rintro⟨h1,h2⟩;exact⟨T.length,List.mem_range.mpr (by omega),Ej h1⟩
theorem tH(free:List Nat):∀m,(jB free m).Pairwise (fun a b=>a.length<=b.length)
 | 0=>by show([[]]:ZD).Pairwise _;simp
 | m+1=>by
   rw[r6,List.pairwise_append];refine⟨tH free m,?_,fun a ha b hb=>?_⟩
   .refine List.pairwise_iff_forall_sublist.mpr fun {a b} zJ=>?_
    have ha:=zJ.subset (List.mem_cons_self);have hb:=zJ.subset (List.mem_cons_of_mem _ (List.mem_singleton.mpr rfl));rw[(iC ha).1,(iC hb).1];omega
   .rw [(iC hb).1];have:=(qL.mp ha).2;omega
theorem kK{B:List Nat->Bool}{free:List Nat}{m:Nat}{T:List Nat}(h:T∈sW B (jB free m)):T.Sublist free/\T.length<=m/\B T=true/\∀R:List Nat,R.Sublist T->R.length < T.length->B R=false:=by
 rcases z6 _ [] h with q | ⟨ys,zs,e,hB,hn⟩
 .cases q
 have hT:T∈jB free m:=by rw[e];simp
 obtain⟨h1,h2⟩:=qL.mp hT;refine⟨h1,h2,hB,fun R hR hl=>?_⟩
 cases hBR:B R with
 | false=>rfl
 | true=>
   have hRA:R∈jB free m:=qL.mpr ⟨hR.trans h1,by omega⟩
   have Ph:=tH free m;rw[e] at hRA Ph;have hRy:R∈ys:=by
    rcases List.mem_append.mp hRA with q | q
    .exact q
    .exfalso
     have h3:=(List.pairwise_append.mp Ph).2.1;rcases List.mem_cons.mp q with rfl | q
     .omega
     .have:=(List.pairwise_cons.mp h3).1 R q;omega
   obtain⟨o,ho,hoR⟩:=uN ys [] hRy hBR;have:(ys.foldl (vP B) []).any (subB T)=true:=List.any_eq_true.mpr ⟨o,ho,z0.mpr fun x hx=>hR.subset (hoR x hx)⟩
   rw[hn] at this;cases this
theorem xD{B:List Nat->Bool}{free:List Nat}{m:Nat}{T:List Nat}(h1:T.Sublist free)(h2:T.length<=m)(hB:B T=true):∃o∈sW B (jB free m),∀x∈o,x∈T:=uN _ [] (qL.mpr ⟨h1,h2⟩) hB
section
variable {c:Nat} {ins:ZA} {gs:List Gt} {os:ZC} {safe:Bool} {S:aF} {m:Nat}
theorem JT{p:Nat}(Mu:∀x∈os,∀p,(pt (Wd c ins gs [] []) x p).2=!(pt (Wd c ins gs [] []) x p).1):Gh safe c ins gs os (nZ []) p=false:=by
 show(os.any fun x=>brk safe (pt (Wd c ins gs [] []) x p) (pt (Wd c ins gs [] []) x p))=false
 rw[List.any_eq_false];intro x hx;have h:=Mu x hx p;generalize pt (Wd c ins gs [] []) x p=A at h ⊢;obtain⟨a,b⟩:=A;have h:b=!a:=h;subst h;cases a <;> cases safe <;> decide
theorem OA(Mu:∀x∈os,∀p,(pt (Wd c ins gs [] []) x p).2=!(pt (Wd c ins gs [] []) x p).1):BT safe c ins gs os []=false:=by
 unfold BT;rw[decide_eq_true (wc.mpr fun p _=>JT Mu)];rfl
theorem Bb{free:List Nat}(Mu:∀x∈os,∀p,(pt (Wd c ins gs [] []) x p).2=!(pt (Wd c ins gs [] []) x p).1)(hs:free.Pairwise (· < ·))(hu:(hW gs).Sublist free):Good free (dN safe c ins gs os m):=by
 refine⟨hs,fun G hG=>?_⟩
 obtain⟨h1,_,h3,_⟩:=kK hG;refine⟨fun e=>?_,h1.trans hu⟩
 subst e;rw[OA Mu] at h3;cases h3
theorem D9(hg:gs.length<=12)(hm:m<=3):(dN safe c ins gs os m).length<=16384:=by
 have h1:=uM (BT safe c ins gs os) (jB (hW gs) m) [];have h2:=qX (free:=hW gs) (Nat.le_trans qY hg) m;have h3:(m+1)*4096<=4*4096:=Nat.mul_le_mul_right _ (by omega)
 unfold dN sW;simp only[List.length_nil] at h1;omega
structure SU (free:List Nat) (F:ZD) (T0:List Nat):Prop where
 sub:T0.Sublist free
 hit:eX F T0=true
 min:∀T:List Nat,T.Sublist free->eX F T=true->T0.length<=T.length
 fst:j5 free T0.length F=some T0
def vE(nt mm lv gr:D)(mo pl:D):DE:=[some (.d nt),some (.d mm),some (.d lv),some (.d gr),some (.d mo),some (.d pl)]
theorem xI{nt mm lv:D}{free:List Nat}{F:ZD}(hG:Good free F)(hf:free.length<=11)(hl:F.length<=20000)(hS:nv S):∀(n k:Nat) (r:Option (List Nat)),free.length < n+k->J5 free F k r->(∀T:List Nat,T.Sublist free->eX F T=true->k<=T.length)->
 W3 (mE (bP (b2 RD (ah 5) (eC .cH))) qk n (vE nt mm lv (t8 F) (nI k) (rD r)) S) fun o S1=>S1=S/\∃T0 k',o= .nx (vE nt mm lv (t8 F) (nI k') (aC T0))/\SU free F T0
 | 0,k,r,hn,hr,xo=>by
   exfalso
   have uo:eX F free=true:=fW.mpr fun G xn=>by
    obtain⟨h1,h2⟩:=hG.g G xn;obtain⟨x,hx⟩:=List.exists_mem_of_ne_nil _ h1;exact⟨x,hx,h2.subset hx⟩
   have:=xo free (List.Sublist.refl _) uo;omega
 | n+1,k,r,hn,hr,xo=>by
   unfold mE;cases r with
   | some T0=>
     refine W3.bind (k7 (b:=false) rfl ?_);rw[if_neg (by decide)]
     obtain⟨h1,h2,h3,h4⟩:=hr;have hk:k=T0.length:=by have:=xo T0 h1 h2;omega
     exact W3.ok ⟨rfl,T0,k,rfl,h1,h2,fun T hT hh=>by rw[<-hk];exact xo T hT hh,by rw[<-hk];exact h4 xo⟩
   | none=>
     refine W3.bind (k7 (b:=true) rfl ?_);rw[if_pos rfl];have uo:eX F free=true:=fW.mpr fun G xn=>by
      obtain⟨h1,h2⟩:=hG.g G xn;obtain⟨x,hx⟩:=List.exists_mem_of_ne_nil _ h1;exact⟨x,hx,h2.subset hx⟩
     have hkf:k < free.length:=hr free (List.Sublist.refl _) uo;unfold qk;refine W3.bind ?_;refine aK <| bq (by unfold vE;simp only[List.length_cons,List.length_nil];omega) <| bN (d:=nI (k+1)) (aH (a:=nI k) (b:= .int 1) rfl rfl rfl) ⟨_,rfl,?_⟩
     refine bq (by unfold vE;simp only[List.length_cons,List.length_nil,List.length_set];omega) <| cv <| au <| bN (d:=t8 F) rfl <| au <| bN (d:=nI (k+1)) rfl <| bF <| GQ 12 (k+1) (by omega) free F S hG (by omega) hl hS _ fun r' XR=>?_
     show W3 (mE _ _ n (vE nt mm lv (t8 F) (nI (k+1)) (rD r')) S) _;exact xI hG hf hl hS n (k+1) r' (by omega) XR fun T hT hh=>hr T hT hh
theorem yc{free:List Nat}(NO:jv ins gs os)(hc:ins.length=c)(uG:c<=10)(ho:∀x∈os,1<=x.2.length/\x.2.length<=3)(Mu:∀x∈os,∀p,(pt (Wd c ins gs [] []) x p).2=!(pt (Wd c ins gs [] []) x p).1)(hg:gs.length<=11)(hm:m<=3)(hs:free.Pairwise (· < ·))(hG:Good free (dN safe c ins gs os m))(hf:free.length<=11)(hS:nv S){Q:V3->aF->Prop}
 (h:∀T0,SU free (dN safe c ins gs os m) T0->Q (.d (aC T0)) S):W3 (me [.d (bO ins gs os), .d (nI m), .d (.str (ml safe))] S) Q:=by
 have hz:sizeLine=16777216:=sizeLine_eq;have hl:(dN safe c ins gs os m).length<=16384:=D9 (by omega) hm
 unfold me;refine kM hS (uB rfl ?_);simp only[cm,oG,List.map,List.length,List.replicate,List.cons_append,List.nil_append,Nat.reduceAdd,Nat.reduceSub];unfold u_;refine aK <| bq (by simp) <| mP (fun j ds S2=>S2=S/\ds=((dN safe c ins gs os m).take j).map gD) (pj <| cv <| au <| bN (d:=bO ins gs os) rfl <| au <| bN (d:=nI m) rfl <| au <| bN (d:= .str (ml safe)) rfl <| bF <| qd NO hc uG ho (by omega) hm hS ⟨_,rfl,by rw[List.length_map,List.length_map];omega,⟨rfl,by simp⟩,?_,?_⟩)
 .rintro j v ds S2 hv ⟨rfl,rfl⟩;obtain⟨T,hT,rfl⟩:=NT.fG hv;refine⟨[some (.d (aC T))],rfl,xK ?_⟩;rw[if_pos rfl];refine bN (d:=gD T) (aX (ds:=[aC T]) rfl rfl) ⟨_,rfl,rfl,?_⟩;rw[List.take_add_one,hT,List.map_append];rfl
 .rintro ds S2 ⟨rfl,rfl⟩;rw[List.length_map,List.length_map,List.take_length];generalize dN safe c ins gs os m=F at hG hl h;refine⟨_,rfl,?_⟩;simp only[List.set];refine aK <| bq (by simp) <| bN (d:=nI 0) rfl ⟨_,rfl,?_⟩
  simp only[List.set];refine aK <| bq (by simp) <| cv <| au <| bN (d:=t8 F) rfl <| au <| bN (d:=nI 0) rfl <| bF <| GQ 12 0 (by omega) free F _ hG (by omega) (by omega) hS _ fun r hr=>⟨_,rfl,?_⟩
  simp only[List.set];refine aK ?_;unfold De;refine(xI (nt:=bO ins gs os) (mm:=nI m) (lv:= .str (ml safe)) hG hf (by omega) hS 1000 0 r (by omega) hr fun T _ _=>by omega).mono fun o S3 ⟨eS,T0,k',eo,hSU⟩=>⟨_,eo,?_⟩
  subst eS;unfold vE;exact dD <| bN (d:=aC T0) rfl ⟨_,rfl,by unfold eN;rfl,⟨[],by simp⟩,_,by unfold res;rfl,h T0 hSU⟩
end
theorem ES{free:List Nat}{F:ZD}{T0:List Nat}(h:SU free F T0){n:Nat}(hn:T0.length<=n):(jB free n).find? (eX F)=some T0:=by
 unfold jB;rw[List.find?_flatMap];refine wg (a:=T0.length) (by omega) h.fst fun b hb=>?_
 cases hf:(eL free b).find? (eX F) with
 | none=>rfl
 | some T=>
   exfalso
   have hm:=List.mem_of_find?_eq_some hf;have:=h.min T (rV _ _ _ hm) (List.find?_some hf);rw[(iC hm).1] at this;omega
end K25
end
section
namespace K25
open PySem PySem.Spec PyProof.Rows L2 L3 MT
def mk(T:List Nat)(gs:List Gt):List Gt:=gs.mapIdx fun i g=>(g.1,g.2.1,g.2.2 || T.contains i)
section
variable {c m:Nat} {l:ZA} {gs:List Gt} {os:ZC} {safe:Bool} {T:List Nat}
theorem oM:(mk T gs).length=gs.length:=by unfold mk;simp
theorem y9(i:Nat):(mk T gs)[i]? =(gs[i]?).map fun g=>(g.1,g.2.1,g.2.2 || T.contains i):=by unfold mk;rw [List.getElem?_mapIdx]
theorem HQ(NO:jv l gs os):jv l (mk T gs) os:=⟨NO.hi,NO.hw,by rw[oM];exact NO.hg,fun i x h=>by
 rw[y9] at h;cases q:gs[i]? with
 | none=>rw [q] at h;cases h
 | some g=>rw [q] at h;cases h;exact NO.g i g q,NO.ho,by rw[oM];exact NO.o⟩
theorem Hc:hW (mk T gs)=(hW gs).filter fun x=>!T.contains x:=by
 unfold hW;rw[oM,List.filter_filter];refine List.filter_congr fun i _=>?_
 rw[y9];cases gs[i]? with
 | none=>simp
 | some g=>
   show(!(g.2.2 || T.contains i))=(!T.contains i && !g.2.2)
   cases g.2.2 <;> cases T.contains i <;> rfl
theorem Il{t:List Int}{w0:List M}:∀i,qJ (mk T gs) t w0 i=qJ gs t w0 i
 | 0=>rfl
 | i+1=>by
   unfold qJ;rw[y9,Il i];cases gs[i]? with
   | none=>rfl
   | some g=>rfl
theorem L1{t b:List Int}:Wd c l (mk T gs) t b=Wd c l gs t b:=by
 unfold Wd HK;rw[oM];exact Il _
theorem NA(t:List Int):Gh safe c l (mk T gs) os t=Gh safe c l gs os t:=by
 unfold Gh;simp only[L1]
theorem Mh:BT safe c l (mk T gs) os=BT safe c l gs os:=by
 funext t;unfold BT;rw[NA]
theorem E_(h:eX (dN safe c l gs os m) T=true):dN safe c l (mk T gs) os m=[]:=by
 cases q:dN safe c l (mk T gs) os m with
 | nil=>rfl
 | cons o r=>
   exfalso
   have ho:o∈dN safe c l (mk T gs) os m:=by rw[q];exact List.mem_cons_self
   unfold dN at ho;obtain⟨h1,h2,h3,_⟩:=kK ho;rw[Hc] at h1;rw[Mh] at h3;obtain⟨o',Gb,hsub⟩:=xD (B:=BT safe c l gs os) (h1.trans List.filter_sublist) h2 h3;obtain⟨x,hx,hxT⟩:=fW.mp h o' Gb;have:=List.mem_filter.mp (h1.subset (hsub x hx));simp at this;exact this.2 hxT
theorem za{G:List Nat}(hG:G∈dN safe c l gs os m)(h:hit T G=false):dN safe c l (mk T gs) os m≠[]:=fun q=>by
 unfold dN at hG;obtain⟨h1,h2,h3,_⟩:=kK hG;have e:G.filter (fun x=>!T.contains x)=G:=by
  rw[List.filter_eq_self];intro x hx;cases z:T.contains x with
  | false=>rfl
  | true=>
    have:hit T G=true:=yO.mpr ⟨x,hx,by simpa using z⟩
    rw[h] at this;cases this
 have h4:G.Sublist (hW (mk T gs)):=by
  rw[Hc,<-e];exact h1.filter _
 obtain⟨o,ho,_⟩:=xD (B:=BT safe c l (mk T gs) os) h4 h2 (by rw[Mh];exact h3)
 have ho:o∈dN safe c l (mk T gs) os m:=ho;rw[q] at ho;cases ho
end
theorem Iv{B:List Nat->Bool}{f:ZD}{T o:List Nat}(h:f.head? =some o):(vP B f T).head? =some o:=by
 unfold vP;split
 .exact h
 split
 .rw [List.head?_append,h];rfl
 .exact h
theorem sf(B:List Nat->Bool):∀(xs f:ZD),(xs.foldl (vP B) f).head? =(match f.head? with | some o=>some o | none=>xs.find? B)
 | [],f=>by cases f <;> rfl
 | T ::xs,[]=>by
   rw[List.foldl_cons,sf B xs];have e:vP B [] T=if B T then [T] else []:=rfl
   rw[e,List.find?_cons];cases B T <;> rfl
 | T ::xs,o ::f=>by
   rw[List.foldl_cons,sf B xs,Iv (o:=o) rfl];rfl
theorem Dz{f:List Nat->Option D}{B:List Nat->Bool}(h0:∀T,B T=false->f T=none)(h1:∀T,B T=true->∃d,f T=some d):∀xs:ZD,xs.findSome? f=(match xs.find? B with | none=>none | some T=>f T)
 | []=>rfl
 | T ::xs=>by
   rw[List.findSome?_cons,List.find?_cons];cases q:B T with
   | false=>rw [h0 T q];exact Dz h0 h1 xs
   | true=>
     obtain⟨d,hd⟩:=h1 T q;show _=f T;rw[hd]
theorem Vw{α:Type}(f:List Nat->Option α):∀(a b:ZD),(a++b).findSome? f=(match a.findSome? f with | some d=>some d | none=>b.findSome? f)
 | [],_=>rfl
 | x ::a,b=>by
   rw[List.cons_append,List.findSome?_cons,List.findSome?_cons,Vw f a b];cases f x <;> rfl
theorem VB{α:Type}(f:List Nat->Option α)(g:Nat->ZD):∀xs:List Nat,(xs.flatMap g).findSome? f=xs.findSome? fun s=>(g s).findSome? f
 | []=>rfl
 | x ::xs=>by
   rw[List.flatMap_cons,Vw,List.findSome?_cons,VB f g xs];cases(g x).findSome? f <;> rfl
section
variable {c m:Nat} {l:ZA} {gs:List Gt} {os:ZC} {safe:Bool}
theorem Nn{T:List Nat}(h:BT safe c l gs os T=false):k8 safe c l gs os T=none:=by
 unfold BT at h;unfold k8;have:jf (2 ^ c) (Gh safe c l gs os (nZ T))=0:=by simpa using h
 rw[ph.mp this];rfl
theorem DO{T:List Nat}(h:BT safe c l gs os T=true):∃p,k8 safe c l gs os T=some (CS T p):=by
 unfold BT at h;unfold k8;have h2:¬jf (2 ^ c) (Gh safe c l gs os (nZ T))=0:=by simpa using h
 cases q:((List.range (2 ^ c)).filter (Gh safe c l gs os (nZ T))).head? with
 | none=>exact absurd (ph.mpr q) h2
 | some p=>exact⟨p,rfl⟩
theorem vQ:bears safe c l gs os m=(match (dN safe c l gs os m).head? with | none=>none | some T=>k8 safe c l gs os T).getD lV:=by
 have e:(List.range (m+1)).findSome? (fun s=>(eL (hW gs) s).findSome? (k8 safe c l gs os))=(jB (hW gs) m).findSome? (k8 safe c l gs os):=by
  unfold jB;exact(VB _ _ _).symm
 unfold bears;rw[e,Dz (B:=BT safe c l gs os) (fun T h=>Nn h) (fun T h=>(DO h).elim fun p hp=>⟨_,hp⟩)]
 unfold dN sW;rw[sf];rfl
theorem x8(h:dN safe c l gs os m=[]):bears safe c l gs os m=lV:=by rw[vQ,h];rfl
theorem uJ{T:List Nat}{r:ZD}(h:dN safe c l gs os m=T ::r):∃p,bears safe c l gs os m=CS T p:=by
 have hT:T∈dN safe c l gs os m:=by rw[h];exact List.mem_cons_self
 unfold dN at hT;obtain⟨p,hp⟩:=DO (kK hT).2.2.1;refine⟨p,?_⟩;rw[vQ,h];show(k8 safe c l gs os T).getD lV=_;rw[hp];rfl
end
def KU(F:ZD)(free:List Nat):List Nat:=free.filter fun x=>F.any fun G=>G.contains x
theorem Hz{F:ZD}{free:List Nat}{x:Nat}:x∈KU F free↔x∈free/\∃G∈F,x∈G:=by
 unfold KU;rw[List.mem_filter,List.any_eq_true];simp
theorem zo{F:ZD}{free:List Nat}(h:Good free F):Good (KU F free) F:=by
 refine⟨h.so.filter _,fun G hG=>⟨(h.g G hG).1,?_⟩⟩
 have e:G.filter (fun x=>F.any fun G=>G.contains x)=G:=by
  rw[List.filter_eq_self];intro x hx;rw[List.any_eq_true];exact⟨G,hG,by simpa using hx⟩
 have:=(h.g G hG).2.filter (fun x=>F.any fun G=>G.contains x)
 rw[e] at this;exact this
theorem SU.other{free:List Nat}{F:ZD}{T0:List Nat}(h:SU free F T0){p:Nat}(hp:p∈T0):∃G∈F,K25.hit (T0.filter fun x=>x !=p) G=false:=by
 cases q:eX F (T0.filter fun x=>x !=p) with
 | true=>
   have h1:=h.min _ (List.filter_sublist.trans h.sub) q;have h2:(T0.filter fun x=>x !=p).length < T0.length:=List.length_filter_lt_length_iff_exists.mpr ⟨p,hp,by simp⟩
   omega
 | false=>
   unfold eX at q;rw[List.all_eq_false] at q;obtain⟨G,hG,h2⟩:=q;exact⟨G,hG,by simpa using h2⟩
theorem SU.empty{free:List Nat}{T0:List Nat}(h:SU free [] T0):T0=[]:=by
 have:=h.min [] (List.nil_sublist _) rfl;exact List.eq_nil_of_length_eq_zero (by simpa using this)
end K25
end
section
namespace K25
open PySem PySem.Spec PyProof.Rows L2 L3 MT
theorem Qz{f g:FD}{δ:aw}{a b:Bool}(h1:f δ= .ok (.bl a))(h2:g δ= .ok (.bl b)):QL f g δ= .ok (.bl (a || b)):=by
 unfold QL;rw[MD h1,R.aT];cases a
 .rw [if_neg (by decide),h2];rfl
 .rw [if_pos rfl];rfl
section
variable {l:ZA} {gs:List Gt} {os:ZC} {T:List Nat}
theorem qM(hg:gs.length < 1000):gm [bO l gs os,aC T]= .ok (bO l (mk T gs) os):=by
 have hz:sizeLine=16777216:=sizeLine_eq;unfold gm tI;refine d3 (cG (Dq (ds:=[]) rfl (by simp [gL,oQ])) ?_)
 obtain⟨c_,e1,a3,a4,By⟩:=px (t:=nL 2 (d6 (bh 3) (d6 (bh 4) nF))) (body:=ll) (ds:=cB (gs.map fP))
  (fun i δ=>∃a3 a4,δ=[.val (bO l gs os), .val (aC T), .bld (((mk T gs).take i).map fP),a3,a4]) (δ:=[.val (bO l gs os), .val (aC T), .bld [], .un, .un]) ⟨.un, .un,by simp⟩ (by
    rintro i d δ hd ⟨a3,a4,rfl⟩;have hv:((cB (gs.map fP)).map V3.d)[i]? =some (.d d):=by rw[List.getElem?_map,hd];rfl
    obtain⟨d0,OI,ed⟩:=pz hv;cases ed;obtain⟨g,hx,rfl⟩:=NT.rA OI;have hil:=(List.getElem?_eq_some_iff.mp hx).1;have hm:(mk T gs)[i]? =some (g.1,g.2.1,g.2.2 || T.contains i):=by rw[y9,hx];rfl
    refine⟨[.val (bO l gs os), .val (aC T), .bld (((mk T gs).take (i+1)).map fP), .val (.int i), .val (fP g)],?_,⟨_,_,rfl⟩⟩;generalize hL:((mk T gs).take i).map fP=L;have hLl:L.length < sizeLine:=by
     rw[<-hL,List.length_map,List.length_take,oM];omega
    rw[show nL 2 (d6 (bh 3) (d6 (bh 4) nF)) (.tup [.int i,fP g]) [.val (bO l gs os), .val (aC T), .bld L,a3,a4]= .ok [.val (bO l gs os), .val (aC T), .bld L, .val (.int i), .val (fP g)] from rfl,R.aT]
    unfold ll;rw[Ds (d:=fP (g.1,g.2.1,g.2.2 || T.contains i)) (ds:=L) (cX (ds:=[.str (kS g.1), .tup (g.2.1.map nI), .bl (g.2.2 || T.contains i)]) (aV rfl (aV rfl (aV (Qz rfl (aH (a:=nI i) (b:=aC T) rfl rfl (Ka i T))) rfl))) (by simp;omega)) rfl hLl,<-hL,List.take_add_one,hm]
    simp)
 refine cG (pq (ds:=cB (gs.map fP)) rfl e1) ?_;have hlen:(cB (gs.map fP)).length=gs.length:=by simp [cB]
 rw[hlen] at By;subst By;have:(mk T gs).take gs.length=mk T gs:=by rw[<-oM (T:=T),List.take_length]
 rw[this];exact cM rfl
end
theorem FI{o T:List Nat}{δ:aw}{e:FD}{w:Nat}(hl:o.length < 1000)(h0:e δ= .ok (aC o))(hk:t9 ["place"] [w] δ=[.un, .val (aC T)]):b2 kF (eNew (dM (cq e) (bh 0) (b2 Ah (ah 0) (ah 1)) (ah 0) ["place"] [w])) (eNew (dy aP)) δ= .ok (!hit T o):=by
 have hz:sizeLine=16777216:=sizeLine_eq;refine dA (a:= .lst ((o.filter fun x=>T.contains x).map nI)) (b:= .lst []) (dI (dh (ds:=o.map nI) (nT h0) (by rw[List.length_map];omega) ?_)) rfl ((C2 (Qi _)).trans ?_)
 .rw [hk];exact NT.eB (fun x=>T.contains x) nI nI fun x _=>⟨[.val (nI x), .val (aC T)],rfl,dA (a:=nI x) (b:=aC T) rfl rfl (Ka x T),fun _=>rfl⟩
 .congr 2;unfold hit;rw[Bool.eq_iff_iff,List.isEmpty_iff,List.filter_eq_nil_iff];simp
theorem Iq{F:ZD}{T:List Nat}:(F.findSome? fun o=>if hit T o then none else some (D.bl false))=if eX F T then none else some (D.bl false):=by
 induction F with
 | nil=>rfl
 | cons o F ih=>
   rw[List.findSome?_cons];unfold eX at ih ⊢;rw[List.all_cons];cases hit T o with
   | false=>rfl
   | true=>rw [if_pos rfl,Bool.true_and];exact ih
theorem GL{F:ZD}{T:List Nat}(hl:∀o∈F,o.length < 1000):i7 [aC T, .lst (F.map aC)]= .ok (.bl (eX F T)):=by
 unfold i7 tV;refine d3 ?_;obtain⟨o,e,h⟩:=vJ (t:=bh 2) (body:=lq) aC (fun o=>if hit T o then none else some (D.bl false)) (fun δ=>∃a2,δ=[.val (aC T), .val (.lst (F.map aC)),a2]) (xs:=F) (δ:=[.val (aC T), .val (.lst (F.map aC)), .un]) ⟨_,rfl⟩ (by
  rintro o ho δ ⟨a2,rfl⟩;rw[show bh 2 (aC o) [.val (aC T), .val (.lst (F.map aC)),a2]= .ok [.val (aC T), .val (.lst (F.map aC)), .val (aC o)] from rfl,R.aT]
  unfold lq;have hc:=FI (o:=o) (T:=T) (δ:=[.val (aC T), .val (.lst (F.map aC)), .val (aC o)]) (e:=ah 2) (w:=0) (hl o ho) rfl rfl;cases q:hit T o with
  | true=>rw [q] at hc;exact⟨_,kP hc rfl,_,rfl,_,rfl⟩
  | false=>rw [q] at hc;exact⟨_,uT hc (cM rfl),rfl⟩)
 rw[Iq] at h;cases q:eX F T with
 | true=>
   rw[q,if_pos rfl] at h;obtain⟨cK,rfl,a2,rfl⟩:=h;exact cG (pq (ds:=F.map aC) (eE rfl) e) (cM rfl)
 | false=>
   rw[q,if_neg (by decide)] at h
   subst h;exact NT.mB (pq (ds:=F.map aC) (eE rfl) e)
def kE(sets mo:D)(n:Nat)(a3 a4 a5:Option V3):DE:=[some (.d sets),some (.d mo),some (.loc n),a3,a4,a5]
theorem pL{α:Type}(p:α->Bool)(g:α->V3):∀xs:List α,(xs.findSome? fun x=>if p x then some (g x) else none)=(xs.find? p).map g
 | []=>rfl
 | x ::xs=>by
   rw[List.findSome?_cons,List.find?_cons];cases p x with
   | true=>rfl
   | false=>exact pL p g xs
theorem E5{free:List Nat}{F:ZD}{T0:List Nat}{S:aF}(hG:Good free F)(hf:free.length<=12)(hl:F.length<=20000)(hU:SU (KU F free) F T0)(hS:nv S){Q:V3->aF->Prop}(h:Q (.d (aC T0)) S):W3 (iU [.d (.lst (F.map aC)), .d (nI T0.length)] S) Q:=by
 have hz:sizeLine=16777216:=sizeLine_eq;have Di:∀G∈F,G.length < 1000:=fun G xn=>by have:=(hG.g G xn).2.length_le;omega
 have hkl:(KU F free).length<=12:=Nat.le_trans (List.length_filter_le _ _) hf;have hT:T0.length<=12:=Nat.le_trans hU.sub.length_le hkl;unfold iU;refine kM hS (uB rfl ?_);simp only[cm,jE,List.map,List.length,List.replicate,List.cons_append,List.nil_append,Nat.reduceAdd,Nat.reduceSub];unfold mz;refine aK <| bq (by simp) <| CY ⟨_,rfl,?_⟩
 simp only[List.set];refine aK <| dJ <| jC (ds:=F.map aC) (eE rfl) ?_
 refine(bA (fun i δ S2=>∃(ks:List Nat) (a3 a4:Option V3),S2=S++[SO.dct (dK ks)]/\ks.Nodup/\(∀x,x∈ks↔∃G∈F.take i,x∈G)/\δ=kE (.lst (F.map aC)) (nI T0.length) S.length a3 a4 none)
  ⟨[],none,none,rfl,List.nodup_nil,fun x=>by simp,rfl⟩ ?_).mono fun o S2 ⟨cK,fR,ks,a3,a4,wx,hnd,hks,hδ⟩=>⟨cK,fR,?_⟩
 .rintro i v δ S2 hv ⟨ks,a3,a4,rfl,hnd,hks,rfl⟩;obtain⟨G,hGi,rfl⟩:=NT.fG hv;have hGs:=(hG.g G (List.mem_of_getElem? hGi)).2;have hkf:∀x∈ks,x∈free:=fun x hx=>by
   obtain⟨G',Jv,yu⟩:=(hks x).mp hx;exact(hG.g G' (List.mem_of_mem_take Jv)).2.subset yu
  refine⟨kE (.lst (F.map aC)) (nI T0.length) S.length (some (.d (aC G))) a4 none,rfl,?_⟩;unfold n4;refine dJ <| jC (ds:=G.map nI) (nT rfl) ?_
  refine(bA (fun j δ S3=>∃(xq:List Nat) (b4:Option V3),S3=S++[SO.dct (dK xq)]/\xq.Nodup/\(∀x,x∈xq↔x∈ks\/x∈G.take j)/\δ=kE (.lst (F.map aC)) (nI T0.length) S.length (some (.d (aC G))) b4 none)
   ⟨ks,a4,rfl,hnd,fun x=>by simp,rfl⟩ ?_).mono fun o S3 ⟨zH,e3,xq,b4,zI,xp,wu,qD⟩=>⟨zH,e3,xq,_,b4,zI,xp,fun x=>?_,qD⟩
  .rintro j u δ S3 hu ⟨xq,b4,rfl,xp,wu,rfl⟩;obtain⟨x,hx,rfl⟩:=NT.fG hu;refine⟨kE (.lst (F.map aC)) (nI T0.length) S.length (some (.d (aC G))) (some (.d (nI x))) none,rfl,?_⟩;unfold n0;have hkl:xq.length<=12:=by
    have hsub:∀y∈xq,y∈free:=fun y hy=>by
     rcases(wu y).mp hy with q | q
     .exact hkf y q
     .exact hGs.subset (List.mem_of_mem_take q)
    exact Nat.le_trans (L2.vB _ _ xp hsub) hf
   refine Ct <| bN (d:= .bl true) rfl <| w_var (v:= .loc S.length) rfl <| bN (d:=nI x) rfl ⟨_,_,_,_,rfl,rfl,rfl,bg _ _,by unfold dK;rw [List.length_map];omega,_,rfl,qS xq x,_,?_,Dr xp,fun y=>?_,rfl⟩
   .rw [cP,BK]
   .rw [wa,wu y,List.take_add_one,hx];simp only[Option.toList_some,List.mem_append,List.mem_singleton];exact or_assoc
  .rw [List.length_map,List.length_map,List.take_length] at wu;rw[wu x,hks x,List.take_add_one,hGi];simp only[Option.toList_some,List.mem_append,List.mem_singleton];constructor
   .rintro(⟨G',h1,h2⟩ | h1)
    .exact⟨G', .inl h1,h2⟩
    .exact⟨G, .inr rfl,h1⟩
   .rintro⟨G',h1 | h1,h2⟩
    .exact .inl ⟨G',h1,h2⟩
    .exact .inr (h1▸h2)
 rw[List.length_map,List.length_map,List.take_length] at hks;subst hδ wx;have hkf:∀x∈ks,x∈free:=fun x hx=>by
  obtain⟨G',Jv,yu⟩:=(hks x).mp hx;exact(hG.g G' Jv).2.subset yu
 have hkn:ks.length<=12:=Nat.le_trans (L2.vB _ _ hnd hkf) hf;have hsort:rB (nZ ks)=nZ (KU F free):=by
  rw[D1 hG.so hnd hkf];unfold KU;congr 1;refine List.filter_congr fun x hx=>?_
  rw[Bool.eq_iff_iff,List.any_eq_true];simp only[List.contains_iff_mem];exact hks x
 have hcl:nv (S++[SO.dct (dK ks)]):=nv.push hS fun _=>rfl
 refine ik <| dJ <| pj <| cv <| au <| Em <| w_var (v:= .loc S.length) rfl ⟨_,_,nZ ks,rfl,bg _ _,?_,by unfold nZ;rw [List.length_map];omega,au <| bN (d:=nI T0.length) rfl <| bF ?_⟩
 .unfold dK nZ;rw[List.map_map,List.map_map];rfl
 rw[hsort,Cc];refine Bf (zo hG).so hkl hT hcl ⟨_,rfl,?_⟩;rw[List.map_map];have hF:=ES hU (n:=T0.length) (Nat.le_refl _);refine(mW (S:=S++[SO.dct (dK ks)]) (V3.d ∘ aC) (fun T=>if eX F T then some (.d (aC T)) else none) (fun δ=>∃a3 a4 a5,δ=kE (.lst (F.map aC)) (nI T0.length) S.length a3 a4 a5)
  ⟨_,_,_,rfl⟩ ?_).mono fun o S1 ⟨e1,h1⟩=>?_
 .rintro T hT δ ⟨a3,a4,a5,rfl⟩;refine⟨kE (.lst (F.map aC)) (nI T0.length) S.length a3 a4 (some (.d (aC T))),rfl,?_⟩;unfold oa;refine h_ <| k7 (b:=eX F T) (by unfold vY;rw [aX (ds:=[aC T, .lst (F.map aC)]) rfl (GL Di)];rfl) ?_
  cases eX F T with
  | true=>rw [if_pos rfl,if_pos rfl];exact dD <| bN (d:=aC T) rfl ⟨rfl,rfl⟩
  | false=>rw [if_neg (by decide),if_neg (by decide)];exact dk ⟨rfl,_,rfl,_,_,_,rfl⟩
 .subst e1;rw[pL (eX F) (fun T=>V3.d (aC T)),hF] at h1
  subst h1;exact⟨_,rfl,by unfold eN;rfl,⟨_,rfl⟩,_,by unfold res;rfl,h⟩
end K25
end
section
namespace K25
open PySem PySem.Spec PyProof.Rows L2 L3 MT
theorem TX{g:FA}{δ:DE}{S:aF}{QV:V3->aF->Prop}(h:W3 (g δ S) fun vs S1=>∃ds,su vs=some ds/\ds.length<=sizeLine/\QV (.loc S1.length) (S1++[.lst ds])):W3 (Tc g δ S) QV:=W3.bind (h.mono fun vs S1 ⟨ds,e,hl,q⟩=>by
 simp only[e];exact W3.wh (decide_eq_true hl) (W3.ok q))
theorem Qg(a b:List D):Flat [SO.hV,SO.lst a,SO.lst b]:=fun o ho=>by
 simp only[List.mem_cons,List.not_mem_nil,or_false] at ho;rcases ho with rfl | rfl | rfl
 .exact L0
 .exact mr _
 .exact mr _
theorem Q5(a b c d:List D):Flat [SO.hV,SO.lst a,SO.lst b,SO.lst c,SO.lst d]:=fun o ho=>by
 simp only[List.mem_cons,List.not_mem_nil,or_false] at ho;rcases ho with rfl | rfl | rfl | rfl | rfl
 .exact L0
 .exact mr _
 .exact mr _
 .exact mr _
 .exact mr _
def Dy:ZA:=[("a",1)]
def oX(es:List Nat):ZC:=[("x",es)]
def nE(k n:Nat)(xr:D)(a3 a4 a5:Option V3):DE:=[some (.loc k),some (.d xr),some (.loc n),a3,a4,a5,none,none]
theorem IZ{S S1:aF}{k i:Nat}{xr:D}{a4 a5:Option V3}{ord:List Nat}(hk:k < S.length)(v:Ev k S S1)(hl:ord.length<=1000) :
 W3 (kx (nE k S.length xr (some (.d (nI i))) a4 a5) (S1++[.lst (ord.map nI)])) fun o S2=>∃cK,o= .nx cK/\cK=nE k S.length xr (some (.d (nI i))) a4 a5/\∃(p:Nat) (S3:aF),Ev k S S3/\p<=ord.length/\S2=S3++[.lst ((ord.take p++i ::ord.drop p).map nI)]:=by
 have hz:sizeLine=16777216:=sizeLine_eq;have lv:=v.len;have hg:∀{T:aF} {x:SO},T.length=S.length->(T++[x])[S.length]? =some x:=fun h=>by rw[<-h];exact bg _ _
 unfold kx nE;refine QQ (k:=S.length) rfl ⟨_,hg lv⟩ <| Eg (k:=k) (m:=(ord.length:Int)+1) rfl (v.p.app (xx _)) (aH (a:= .int ord.length) (b:= .int 1) ?_ rfl rfl) (by omega) (by omega) fun r S2 h1 h2 v2=>?_
 .have:=p8 (S:=S1++[.lst (ord.map nI)]) (ks:=nZ ord) (q:=S.length) (i:=2) (δ:=[some (.loc k),some (.d xr),some (.loc S.length),some (.d (nI i)),a4,a5,none,none]) (by rw[Cc];exact hg lv) rfl
  rw[this];unfold nZ;rw[List.length_map]
 obtain⟨S3,rfl,v3⟩:=v2.split (by omega)
 obtain⟨p,rfl⟩:=Int.eq_ofNat_of_zero_le h1;have l3:=v3.len;refine⟨p,rfl,bN (d:=nI i) rfl ⟨_,_,rfl,hg (l3.trans lv),by rw[List.length_map];omega,by rw[List.length_map];omega,_,rfl,rfl,p,S3,v.trans v3,by omega,?_⟩⟩
 have:(S3++[SO.lst (ord.map nI)]).set S.length (.lst ((ord.map nI).take p++nI i ::(ord.map nI).drop p))=S3++[.lst ((ord.map nI).take p++nI i ::(ord.map nI).drop p)]:=by rw[<-lv,<-l3];exact cP _ _ _
 rw[this,List.map_append,List.map_cons,List.map_take,List.map_drop]
def oE(k n:Nat)(xr od:D)(a3 a4 a5:Option V3):DE:=[some (.loc k),some (.d xr),some (.d od),a3,a4,a5,some (.loc (n+1)),some (.loc (n+2))]
theorem o1(T:aF)(x y z:SO):(T++[x,y,z])[T.length+1]? =some y:=by rw[List.getElem?_append_right (by omega),show T.length+1 - T.length=1 by omega];rfl
theorem o2(T:aF)(x y z:SO):(T++[x,y,z])[T.length+2]? =some z:=by rw[List.getElem?_append_right (by omega),show T.length+2 - T.length=2 by omega];rfl
theorem p1(T:aF)(x y z w:SO):(T++[x,y,z]).set (T.length+1) w=T++[x,w,z]:=by rw[List.set_append_right _ _ (by omega),show T.length+1 - T.length=1 by omega];rfl
theorem p2(T:aF)(x y z w:SO):(T++[x,y,z]).set (T.length+2) w=T++[x,y,w]:=by rw[List.set_append_right _ _ (by omega),show T.length+2 - T.length=2 by omega];rfl
theorem Ji{S S1:aF}{k x:Nat}{xr od:D}{a4 a5:Option V3}{es:List Nat}{gs:List Gt}(hk:k < S.length)(v:Ev k S S1)(hg:gs.length<=1000)(he:es.length=3)(hx:x < 3)(JK:∀y∈es,y < 1+gs.length) :
 W3 (j3 (oE k S.length xr od (some (.d (nI x))) a4 a5) (S1++[.hV, .lst (es.map nI), .lst (gs.map fP)])) fun o S2=>∃cK,o= .nx cK/\cK=oE k S.length xr od (some (.d (nI x))) a4 a5/\∃(b:Bool) (S3:aF) (e:Nat),Ev k S S3/\e < 1+gs.length/\S2=S3++[.hV, .lst ((es.set x (gs.length+1)).map nI), .lst ((gs++[((0:Nat),[e],b)]).map fP)]:=by
 have hz:sizeLine=16777216:=sizeLine_eq;have lv:=v.len;have g1:∀{T:aF} {x y z:SO},T.length=S.length->(T++[x,y,z])[S.length+1]? =some y:=fun h=>by rw[<-h];exact o1 _ _ _ _
 have g2:∀{T:aF} {x y z:SO},T.length=S.length->(T++[x,y,z])[S.length+2]? =some z:=fun h=>by rw[<-h];exact o2 _ _ _ _
 have q1:∀{T:aF} {x y z w:SO},T.length=S.length->(T++[x,y,z]).set (S.length+1) w=T++[x,w,z]:=fun h=>by rw[<-h];exact p1 _ _ _ _ _
 have q2:∀{T:aF} {x y z w:SO},T.length=S.length->(T++[x,y,z]).set (S.length+2) w=T++[x,y,w]:=fun h=>by rw[<-h];exact p2 _ _ _ _ _
 have ex:es[x]? =some es[x]:=List.getElem?_eq_getElem (by omega)
 have hex:es[x] < 1+gs.length:=JK _ (List.getElem_mem _);unfold j3 oE;refine aK <| pU (k:=S.length+2) rfl ⟨_,g2 lv⟩ <| rR <| au <| bN (d:= .str "not") rfl <| au <| BE (d:= .tup [nI es[x]]) ?_ rfl <| au <| L9 <| draw (k:=k) (m:=8) rfl (v.p.app (Qg _ _)) rfl (by omega) (by omega) fun r S2 h1 h2 v2=>bN (d:= .int 0) rfl ⟨_,_, .bl (decide (r=0)),rfl,rfl,rfl,bF ?_⟩
 .refine cX (ds:=[nI es[x]]) (aV (aH (a:= .lst (es.map nI)) (b:= .int x) (tJ rfl (fM (g1 lv))) rfl (NT.kJ (by rw[List.getElem?_map,ex];rfl))) rfl) (by simp;omega)
 obtain⟨S3,rfl,v3⟩:=v2.split (by omega)
 have l3:=v3.len.trans lv;refine⟨by simp;omega,fP (0,[es[x]],decide (r=0)),gs.map fP,rfl,g2 l3,by rw[List.length_map];omega,_,rfl,?_⟩
 rw[q2 l3];have em:gs.map fP++[fP (0,[es[x]],decide (r=0))]=(gs++[((0:Nat),[es[x]],decide (r=0))]).map fP:=by rw[List.map_append];rfl
 rw[em];refine G4 <| BE (d:=nI (gs.length+1)) (aX (ds:=[.lst ((gs++[((0:Nat),[es[x]],decide (r=0))]).map fP)]) (aV (tJ rfl (fM (g2 l3))) rfl) (by rw[vO,List.length_map,List.length_append];rfl)) rfl <| w_var (v:= .loc (S.length+1)) rfl <| bN (d:=nI x) rfl ⟨_,_,_,es.map nI,x,rfl,rfl,rfl,g1 l3,?_,_,rfl,rfl,decide (r=0),S3,es[x],v.trans v3,hex,?_⟩
 .rw [List.length_map,he];unfold Ai;rw[if_pos (by omega),if_pos (by omega)]
  simp
 .rw [q1 l3,List.map_set]
theorem Ic(a b c i n:Nat)(h:[a,b,c][i]? =some n):([a,b,c].take (i+1)).sum=([a,b,c].take i).sum+n/\i < 3:=by
 match i,h with
 | 0,h=>cases h;simp
 | 1,h=>cases h;simp
 | 2,h=>cases h;simp;omega
 | i+3,h=>simp at h
theorem Fw{S:aF}{k:Nat}(p:yD k S){Q:V3->aF->Prop}
 (h:∀(gs:List Gt) (es:List Nat) S1,gs.length<=10->ve Dy gs->es.length=3->(∀y∈es,y < 1+gs.length)->Ev k S S1->Q (.d (bO Dy gs (oX es))) S1):W3 (iW [.loc k] S) Q:=by
 have hz:sizeLine=16777216:=sizeLine_eq;have hk:=p.lt;unfold iW;refine tK (uB rfl ?_);simp only[cm,jF,List.map,List.length,List.replicate,List.cons_append,List.nil_append,Nat.reduceAdd,Nat.reduceSub];unfold my;refine aK <| bq (by simp) <| FC <| bN (d:= .lst [.lst [.int 2, .int 2, .int 4], .lst [.int 2, .int 4, .int 4], .lst [.int 4, .int 2, .int 2], .lst [.int 4, .int 2, .int 4]]) rfl <| draw (k:=k) rfl p rfl (by omega) (by omega) fun r S1 h1 h2 v1=>?_
 obtain⟨a,b,c,hs,hm,es⟩:∃a b c:Nat,a+b+c<=10/\(a<=4/\b<=4/\c<=4)/\cR (.lst [.lst [.int 2, .int 2, .int 4], .lst [.int 2, .int 4, .int 4], .lst [.int 4, .int 2, .int 2], .lst [.int 4, .int 2, .int 4]]) (.int r)= .ok (.lst ([a,b,c].map nI)):=by
  have:r=0\/r=1\/r=2\/r=3:=by omega
  rcases this with rfl | rfl | rfl | rfl
  .exact⟨2,2,4,by omega,by omega,rfl⟩
  .exact⟨2,4,4,by omega,by omega,rfl⟩
  .exact⟨4,2,2,by omega,by omega,rfl⟩
  .exact⟨4,2,4,by omega,by omega,rfl⟩
 refine⟨_,_,_,rfl,rfl,es,_,rfl,?_⟩;simp only[List.set];refine aK <| bq (by simp) <| ic (ds:=[]) rfl ⟨_,rfl,?_⟩
 simp only[List.set];have l1:=v1.len;rw[l1];refine aK <| dJ <| jC (ds:=cB ([a,b,c].map nI)) rfl ?_
 refine(bA (fun i δ S2=>∃(ord:List Nat) (S':aF) (a3 a4 a5:Option V3),(∀x∈ord,x < 3)/\ord.length=([a,b,c].take i).sum/\Ev k S S'/\S2=S'++[SO.lst (ord.map nI)]/\δ=nE k S.length (.lst ([a,b,c].map nI)) a3 a4 a5)
  ⟨[],S1,none,none,none,by simp,rfl,v1,rfl,rfl⟩ ?_).mono fun o S2 ⟨cK,fR,ord,S',a3,a4,a5,hord,EI,vS,wx,hδ⟩=>⟨cK,fR,?_⟩
 .rintro i v δ S2 hv ⟨ord,S',a3,a4,a5,hord,EI,vS,rfl,rfl⟩;obtain⟨d,hd,rfl⟩:=pz hv;obtain⟨n,hn,rfl⟩:=NT.rA hd;obtain⟨hsum,VY⟩:=Ic a b c i n hn;have hn4:n<=4:=by
   have:=List.mem_of_getElem? hn;simp only[List.mem_cons,List.not_mem_nil,or_false] at this;rcases this with rfl | rfl | rfl <;> omega
  have hle:([a,b,c].take i).sum<=12:=by
   match i,VY with
   | 0,_=>simp
   | 1,_=>simp;omega
   | 2,_=>simp;omega
  refine⟨nE k S.length (.lst ([a,b,c].map nI)) (some (.d (nI i))) (some (.d (nI n))) a5,rfl,?_⟩;unfold nQ;refine dJ <| jC (ds:=(List.range n).map nI) ?_ ?_
  .rw [<-GC];exact kW (n:=n) rfl (by omega)
  refine(bA (fun j δ S3=>∃(Bw:List Nat) (uH:aF) (b5:Option V3),(∀x∈Bw,x < 3)/\Bw.length=ord.length+j/\Ev k S uH/\S3=uH++[SO.lst (Bw.map nI)]/\δ=nE k S.length (.lst ([a,b,c].map nI)) (some (.d (nI i))) (some (.d (nI n))) b5)
   ⟨ord,S',a5,hord,rfl,vS,rfl,rfl⟩ ?_).mono fun o S3 ⟨zH,e3,Bw,uH,b5,EE,OX,LO,zI,qD⟩=>⟨zH,e3,Bw,uH,_,_,b5,EE,?_,LO,zI,qD⟩
  .rintro j u δ S3 hu ⟨Bw,uH,b5,EE,OX,LO,rfl,rfl⟩;have hjn:j < n:=by
    have:=(List.getElem?_eq_some_iff.mp hu).1;simpa using this
   obtain⟨d',R5,rfl⟩:=NT.fG hu;refine⟨nE k S.length (.lst ([a,b,c].map nI)) (some (.d (nI i))) (some (.d (nI n))) (some (.d (nI d'))),rfl,?_⟩;refine(IZ hk LO (by omega)).mono fun o S4 ⟨Mm,e4,OZ,q,S5,v5,hq,OV⟩=>⟨Mm,e4,Bw.take q++i ::Bw.drop q,S5,_,?_,?_,v5,OV,OZ⟩
   .intro x hx;rcases List.mem_append.mp hx with z | z
    .exact EE x (List.mem_of_mem_take z)
    .rcases List.mem_cons.mp z with rfl | z
     .exact VY
     .exact EE x (List.mem_of_mem_drop z)
   .rw [List.length_append,List.length_cons,List.length_take,List.length_drop];omega
  .rw [List.length_map,List.length_map,List.length_range] at OX;rw[OX,hsum,EI]
 have hen:((cB ([a,b,c].map nI)).map V3.d).length=3:=rfl;rw[hen] at EI;have EI:ord.length=a+b+c:=by rw[EI];simp;omega
 subst hδ wx;have lS:=vS.len;unfold nE;refine GY (k:=S.length) (ds:=ord.map nI) rfl (by rw[<-lS];exact bg _ _) ?_
 have hset:(S'++[SO.lst (ord.map nI)]).set S.length .hV=S'++[SO.hV]:=by rw[<-lS];exact cP _ _ _
 rw[hset];simp only[List.set];refine aK <| bq (by simp) <| ic (ds:=[0,0,0].map nI) rfl ⟨_,rfl,?_⟩
 simp only[List.set];refine aK <| bq (by simp) <| ic (ds:=[]) rfl ⟨_,rfl,?_⟩
 simp only[List.set];have n1:(S'++[SO.hV]).length=S.length+1:=by rw[List.length_append,lS];rfl
 have n2:(S'++[SO.hV]++[SO.lst ([0,0,0].map nI)]).length=S.length+2:=by rw[List.length_append,n1];rfl
 rw[n1,n2,List.append_assoc,List.append_assoc];refine aK <| dJ <| jC (ds:=ord.map nI) (eE rfl) ?_
 refine(bA (fun i δ S2=>∃(es:List Nat) (gs:List Gt) (uH:aF) (b3:Option V3),es.length=3/\(∀y∈es,y < 1+gs.length)/\gs.length=i/\ve Dy gs/\Ev k S uH/\S2=uH++[SO.hV,SO.lst (es.map nI),SO.lst (gs.map fP)]/\δ=oE k S.length (.lst ([a,b,c].map nI)) (.lst (ord.map nI)) b3 a4 a5)
  ⟨[0,0,0],[],S',a3,rfl,by simp,rfl,fun i g hg=>by simp at hg,vS,rfl,rfl⟩ ?_).mono fun o S2 ⟨cK,fR,es,gs,uH,b3,hel,JK,Di,zG,LO,wx,hδ⟩=>⟨cK,fR,?_⟩
 .rintro i v δ S2 hv ⟨es,gs,uH,b3,hel,JK,Di,zG,LO,rfl,rfl⟩;have hil:i < ord.length:=by
   have:=(List.getElem?_eq_some_iff.mp hv).1;simpa using this
  obtain⟨x,hx,rfl⟩:=NT.fG hv;have hx3:=hord x (List.mem_of_getElem? hx);refine⟨oE k S.length (.lst ([a,b,c].map nI)) (.lst (ord.map nI)) (some (.d (nI x))) a4 a5,rfl,?_⟩;refine(Ji hk LO (by omega) hel hx3 JK).mono fun o S4 ⟨Mm,e4,OZ,b,S5,e,v5,he,OV⟩=>⟨Mm,e4,es.set x (gs.length+1),gs++[((0:Nat),[e],b)],S5,_,by rw[List.length_set];exact hel,?_,by simp [Di],zG.add ⟨by show 0<=4;omega,rfl,fun w hw=>?_⟩,v5,OV,OZ⟩
  .intro y hy;rw[List.length_append,List.length_singleton];rcases List.mem_or_eq_of_mem_set hy with z | z
   .have:=JK y z;omega
   .omega
  .have hw:w∈[e]:=hw;rw[List.mem_singleton.mp hw];show e < 1+gs.length;exact he
 rw[List.length_map,List.length_map] at Di;subst hδ wx;have lS':=LO.len;unfold oE;refine dD <| rR <| au <| ic (ds:=Dy.map MT.inD) rfl <| au <| w_var (v:= .loc (S.length+2)) rfl <| au <| TX <| au <| BE (d:=wJ ("x",es)) ?_ ?_ <| bF ⟨[wJ ("x",es)],rfl,by simp;omega,bF ⟨by simp;omega,_,rfl,?_⟩⟩
 .refine cX (ds:=[.str "x",aC es]) (aV rfl (aV (aX (ds:=[.lst (es.map nI)]) (aV (tJ rfl (fM ?_)) rfl) rfl) rfl)) (by simp;omega)
  rw[List.append_assoc,<-lS',List.getElem?_append_right (by omega),show uH.length+1 - uH.length=1 by omega];rfl
 .unfold wJ pB ni;rw[show pB (.str "x")=true from by unfold pB;rfl]
  unfold ni;rw[A0];rfl
 .rw [List.append_assoc,List.append_assoc];have m1:(uH++[SO.hV,SO.lst (es.map nI),SO.lst (gs.map fP)]).length=S.length+3:=by rw[List.length_append,lS'];rfl
  have m2:(uH++[SO.hV,SO.lst (es.map nI),SO.lst (gs.map fP)]++[SO.lst (Dy.map MT.inD)]).length=S.length+4:=by rw[List.length_append,m1];rfl
  rw[m1,m2];refine sS (d:=bO Dy gs (oX es)) LO (Q5 (es.map nI) (gs.map fP) (Dy.map MT.inD) [wJ ("x",es)]) ?_ ?_ (h gs es uH (by omega) zG hel JK LO)
  .show eN S.length (.tup [.loc (S.length+3), .loc (S.length+2), .loc (S.length+4)])=true;simp [eN,pQ]
  .show res _ (.tup [.loc (S.length+3), .loc (S.length+2), .loc (S.length+4)])=_;have fR:(uH++[SO.hV,SO.lst (es.map nI),SO.lst (gs.map fP),SO.lst (Dy.map MT.inD),SO.lst [wJ ("x",es)]])[S.length+2]? =some (.lst (gs.map fP)):=by rw[<-lS',List.getElem?_append_right (by omega),show uH.length+2 - uH.length=2 by omega];rfl
   have e3':(uH++[SO.hV,SO.lst (es.map nI),SO.lst (gs.map fP),SO.lst (Dy.map MT.inD),SO.lst [wJ ("x",es)]])[S.length+3]? =some (.lst (Dy.map MT.inD)):=by rw[<-lS',List.getElem?_append_right (by omega),show uH.length+3 - uH.length=3 by omega];rfl
   have e4':(uH++[SO.hV,SO.lst (es.map nI),SO.lst (gs.map fP),SO.lst (Dy.map MT.inD),SO.lst [wJ ("x",es)]])[S.length+4]? =some (.lst [wJ ("x",es)]):=by rw[<-lS',List.getElem?_append_right (by omega),show uH.length+4 - uH.length=4 by omega];rfl
   simp [res,yz,fR,e3',e4',bO,oX]
end K25
end
section
namespace K25
open PySem PySem.Spec PyProof.Rows L2 L3 MT
theorem LX{f g:FB}{δ:DE}{S:aF}{QB:Bool->aF->Prop}(h:W3 (f δ S) fun b S1=>(b=true/\QB true S1)\/(b=false/\W3 (g δ S1) QB)):W3 (RK f g δ S) QB:=W3.bind (h.mono fun b S1 h=>by
 rcases h with⟨rfl,q⟩ | ⟨rfl,q⟩
 .rw [if_pos rfl];exact W3.ok q
 .rw [if_neg (by decide)];exact q)
theorem G8:fQ 3 lV:=by
 unfold lV;exact(fQ.tup (n:=0) fun d hd=>by rw[List.mem_singleton.mp hd];exact fQ.str (by decide+kernel)).mono (by omega)
theorem P8(T:List Nat):fQ 1 (aC T):=fQ.tup fun d hd=>by obtain⟨x,_,rfl⟩:=List.mem_map.mp hd;exact fQ.int _
theorem DJ:kF lV lV= .ok (.bl true):=NT.eq_self G8 (by omega)
theorem j2{a b:D}{k:Bool}(h:kF a b= .ok (.bl k)):uk a b= .ok (.bl (!k)):=by
 unfold kF at h;unfold uk;cases q:F8 a b with
 | ok x=>rw [q] at h;cases h;rfl
 | no=>rw [q] at h;cases h
 | ex _=>rw [q] at h;cases h
theorem K2(T:List Nat):kF (aC T) (aC T)= .ok (.bl true):=NT.eq_self (P8 T) (by omega)
section
variable {c m:Nat} {l:ZA} {gs:List Gt} {os:ZC} {safe:Bool} {S:aF}
theorem Pw{T:List Nat}(Mu:∀x∈os,∀p,(pt (Wd c l gs [] []) x p).2=!(pt (Wd c l gs [] []) x p).1):∀x∈os,∀p,(pt (Wd c l (mk T gs) [] []) x p).2=!(pt (Wd c l (mk T gs) [] []) x p).1:=fun x hx p=>by
 rw[L1];exact Mu x hx p
def zE(k:Nat)(nt mm lv F T0 vd hd:D)(a8 a9:Option V3):DE:=[some (.loc k),some (.d nt),some (.d mm),some (.d lv),some (.d F),some (.d T0),some (.d vd),some (.d hd),a8,a9]
theorem Nz{x:Nat}(h:x∈hW gs):∃g,gs[x]? =some g/\g.2.2=false:=by
 have:=(List.mem_filter.mp h).2;cases q:gs[x]? with
 | none=>rw [q] at this;cases this
 | some g=>rw [q] at this;exact⟨g,rfl,by simpa using this⟩
theorem Fv{T0:List Nat}{p:Nat}{δ:aw}(hl:T0.length < 1000)(h5:ah 5 δ= .ok (aC T0))(hk:t9 ["one"] [8] δ=[.un, .val (nI p)]):bp oK (av (eNew (dM (cq (ah 5)) (bh 0) (b2 uk (ah 0) (ah 1)) (ah 0) ["one"] [8])) aP) δ= .ok (aC (T0.filter fun x=>x !=p)):=by
 have hz:sizeLine=16777216:=sizeLine_eq;refine aX (ds:=[.lst ((T0.filter fun x=>x !=p).map nI)]) (aV (dI (dh (ds:=T0.map nI) (nT h5) (by rw[List.length_map];omega) ?_)) rfl) rfl
 rw[hk];exact NT.eB (fun x=>x !=p) nI nI fun x _=>⟨[.val (nI x), .val (nI p)],rfl,dA (a:=nI x) (b:=nI p) rfl rfl (by
  show R.ok (D.bl (!((x:Int)==(p:Int))))=_;congr 2;show(!((x:Int)==(p:Int)))=!(x==p);congr 1;rw[Bool.eq_iff_iff,beq_iff_eq,beq_iff_eq];omega),fun _=>rfl⟩
theorem Kd{k p:Nat}{T0:List Nat}{vd hd:D}{a9:Option V3}(NO:jv l gs os)(hc:l.length=c)(uG:c<=6)(ho:∀x∈os,1<=x.2.length/\x.2.length<=3)(hg:gs.length<=10)(hm:m<=3)(hS:nv S)(hU:SU (KU (dN safe c l gs os m) (hW gs)) (dN safe c l gs os m) T0)(hp:p∈T0)(hl:T0.length < 1000) :
 W3 (mX (zE k (bO l gs os) (nI m) (.str (ml safe)) (.lst ((dN safe c l gs os m).map aC)) (aC T0) vd hd (some (.d (nI p))) a9) S) fun o S1=>S1=S/\∃b9,o= .nx (zE k (bO l gs os) (nI m) (.str (ml safe)) (.lst ((dN safe c l gs os m).map aC)) (aC T0) vd hd (some (.d (nI p))) b9):=by
 have hz:sizeLine=16777216:=sizeLine_eq;obtain⟨G,hG,hh⟩:=hU.other hp;obtain⟨g,hgp,zG⟩:=Nz (Hz.mp (hU.sub.subset hp)).1;unfold mX zE;refine aK <| bq (by simp) <| bN (d:=aC (T0.filter fun x=>x !=p)) (Fv hl rfl rfl) ⟨_,rfl,?_⟩
 simp only[List.set];have ur:=za (T:=T0.filter fun x=>x !=p) hG hh
 obtain⟨T1,r1,e1⟩:∃T r,dN safe c l (mk (T0.filter fun x=>x !=p) gs) os m=T ::r:=by
  cases q:dN safe c l (mk (T0.filter fun x=>x !=p) gs) os m with
  | nil=>exact absurd q ur
  | cons a r=>exact⟨a,r,rfl⟩
 obtain⟨q,eb⟩:=uJ e1;refine h_ <| LX <| k7 (b:=false) ?_ (.inr ⟨rfl,?_⟩)
 .unfold vY;rw[aH (a:=fP g) (b:= .int 2) (aH (a:= .lst (gs.map fP)) (b:=nI p) (aH (a:=bO l gs os) (b:= .int 1) rfl rfl rfl) rfl (NT.kJ (by rw[List.getElem?_map,hgp];rfl))) rfl (show cR (fP g) (.int 2)= .ok (.bl g.2.2) from rfl),zG]
  rfl
 refine yC <| FC <| cv <| au <| bN (d:=bO l (mk (T0.filter fun x=>x !=p) gs) os) (aX (ds:=[bO l gs os,aC (T0.filter fun x=>x !=p)]) rfl (qM (by omega))) <| au <| bN (d:=nI m) rfl <| au <| bN (d:= .str (ml safe)) rfl <| bF <| vK (HQ NO) hc (by omega) ho (by rw[oM];omega) hm hS ?_
 rw[eb];refine bN (d:= .int 0) rfl ⟨_,_, .str "breaks",rfl,rfl,rfl,bN (d:= .str "breaks") rfl ⟨_,_,false,rfl,rfl,rfl,?_⟩⟩;rw[if_neg (by decide)]
 exact dk ⟨rfl,_,rfl⟩
structure GN (l:ZA) (gs:List Gt) (os:ZC):Prop where
 no:jv l gs os
 c:l.length<=6
 o:∀x∈os,1<=x.2.length/\x.2.length<=3
 sd:∀x∈os,∀p,(pt (Wd l.length l gs [] []) x p).2=!(pt (Wd l.length l gs [] []) x p).1
 g:gs.length<=10
theorem GN.held(h:GN l gs os)(T:List Nat):GN l (K25.mk T gs) os:=⟨HQ h.no,h.c,h.o,Pw h.sd,by rw[oM];exact h.g⟩
theorem DN.gn(h:DN l gs os)(hl:l.length<=6)(hg:gs.length<=10):GN l gs os:=⟨h.no (by omega) (by omega),hl,h.w3,h.sd rfl,hg⟩
theorem IL{es:List Nat}(hg:gs.length<=10)(h:ve Dy gs)(he:es.length=3)(JK:∀y∈es,y < 1+gs.length):GN Dy gs (oX es):=by
 have hx:∀x∈oX es,x.2=es:=fun x hx=>by rw[List.mem_singleton.mp hx]
 refine⟨⟨by decide,fun x yu=>by rw[List.mem_singleton.mp yu];show 1 < 100;omega,by omega,h,by show 1 < 1000;omega,fun x yu=>?_⟩,by decide,fun x yu=>by rw[hx x yu,he];omega,fun x yu p=>zN (by rw[hx x yu,he];omega) fun a b zJ=>?_,hg⟩
 .rw [hx x yu];exact⟨by omega,JK⟩
 .rw [hx x yu] at zJ;rw[zJ] at he;simp at he
theorem Fm{F:ZD}{x:Nat}(hF:F.length<=20000):b2 kF (eNew (dM (cq (ah 1)) (bh 0) (b2 Ah (ah 1) (ah 0)) (ah 0) ["some"] [0])) (eNew (dy aP)) [.val (nI x), .val (.lst (F.map aC))]= .ok (F.filter fun o=>o.contains x).isEmpty:=by
 have hz:sizeLine=16777216:=sizeLine_eq;refine dA (a:= .lst ((F.filter fun o=>o.contains x).map aC)) (b:= .lst []) (dI (dh (ds:=F.map aC) (eE rfl) (by rw[List.length_map];omega) ?_)) rfl (C2 (Mb _))
 exact NT.eB (t:=bh 0) (c:=b2 Ah (ah 1) (ah 0)) (f:=ah 0) (δ:=[.un, .val (nI x)]) (fun o=>o.contains x) aC aC fun o _=>⟨[.val (aC o), .val (nI x)],rfl,dA (a:=nI x) (b:=aC o) rfl rfl (Ka x o),fun _=>rfl⟩
theorem BP{F:ZD}{T0:List Nat}{vd:D}{k:Nat}{nt mm lv:D}(h:(F=[]/\vd=lV/\T0=[])\/∃T r p,F=T ::r/\vd=CS T p){G:FZ}{S:aF}{QO:Ou->aF->Prop}{a7 a8 a9:Option V3}(hq:W3 (G [some (.loc k),some (.d nt),some (.d mm),some (.d lv),some (.d (.lst (F.map aC))),some (.d (aC T0)),some (.d vd),a7,a8,a9] S) QO) :
 W3 (aY (qK (bP (wM (b2 kF (ah 4) (eNew (dy aP))) (Jz (b2 uk (ah 6) (eT (av (eC (.str "bears")) aP))) (b2 uk (ah 5) (eT aP))))) (dW (xP (eC (.bl false)))) gI) (aY (qK (bP (wM (b2 uk (ah 4) (eNew (dy aP))) (Jz (b2 uk (e2 cR (ah 6) (eC (.int 0))) (eC (.str "breaks"))) (b2 uk (e2 cR (ah 6) (eC (.int 1))) (e2 cR (ah 4) (eC (.int 0))))))) (dW (xP (eC (.bl false)))) gI) G) [some (.loc k),some (.d nt),some (.d mm),some (.d lv),some (.d (.lst (F.map aC))),some (.d (aC T0)),some (.d vd),a7,a8,a9] S) QO:=by
 have hz:sizeLine=16777216:=sizeLine_eq;rcases h with⟨rfl,rfl,rfl⟩ | ⟨T,r,p,rfl,rfl⟩
 .refine ik <| h_ <| k7 (b:=false) ?_ ?_
  .unfold wM Jz;rw[dA (a:= .lst []) (b:= .lst []) (k:=true) rfl rfl rfl,R.aT,if_pos rfl,dA (a:=lV) (b:=lV) (k:=false) rfl (cX rfl (by simp;omega)) (j2 DJ),R.aT,if_neg (by decide)]
   exact dA (a:=aC []) (b:=aC []) rfl (cX rfl (by simp)) (j2 (K2 []))
  rw[if_neg (by decide)]
  refine dk <| ik <| h_ <| k7 (b:=false) ?_ ?_
  .unfold wM;rw[dA (a:= .lst []) (b:= .lst []) (k:=false) rfl rfl rfl];rfl
  rw[if_neg (by decide)]
  exact dk hq
 .have e1:kF (.lst ((T ::r).map aC)) (.lst [])= .ok (.bl false):=C2 (Mb _);refine ik <| h_ <| k7 (b:=false) ?_ ?_
  .unfold wM;rw[dA (a:= .lst ((T ::r).map aC)) (b:= .lst []) (k:=false) rfl rfl e1];rfl
  rw[if_neg (by decide)]
  refine dk <| ik <| h_ <| k7 (b:=false) ?_ ?_
  .unfold wM Jz;rw[dA (a:= .lst ((T ::r).map aC)) (b:= .lst []) (k:=true) rfl rfl (j2 e1),R.aT,if_pos rfl,dA (a:= .str "breaks") (b:= .str "breaks") (k:=false) (aH (a:=CS T p) (b:= .int 0) rfl rfl rfl) rfl rfl,R.aT,if_neg (by decide)]
   exact dA (a:=aC T) (b:=aC T) (aH (a:=CS T p) (b:= .int 1) rfl rfl rfl) (aH (a:= .lst ((T ::r).map aC)) (b:= .int 0) rfl rfl (NT.kJ (z:=0) rfl)) (j2 (K2 T))
  rw[if_neg (by decide)]
  exact dk hq
end
theorem KN{S:aF}{k:Nat}(p:yD k S){Q:V3->aF->Prop}(h:∀S1,Ev k S S1->Q (.d (.bl true)) S1):W3 (nX [.loc k] S) Q:=by
 have hz:sizeLine=16777216:=sizeLine_eq;have hk:=p.lt;unfold nX;refine tK (uB rfl ?_);simp only[cm,iF,List.map,List.length,List.replicate,List.cons_append,List.nil_append,Nat.reduceAdd,Nat.reduceSub];unfold qp;refine aK <| bq (by simp) <| cv <| au <| w_var (v:= .loc k) rfl <| au <| bN (d:= .int 5) rfl <| au <| bN (d:= .int 10) rfl <| au <| bN (d:= .int 3) rfl <| bF <| Az p ⟨by omega,by omega⟩ ⟨by omega,by omega⟩ fun l0 Gf R4 S1 yw V1 Di hD v1=>⟨_,rfl,?_⟩
 simp only[List.set];obtain⟨q,Zq,Zi,Xs⟩:∃q:Int,3<=q/\q<=4/\(e2 gu (eC (.int 3)) (bp DB (av (e2 SE (bp iE (av (e2 cR (ah 1) (eC (.int 1))) aP)) (eC (.int 9))) aP))) (down [some (.loc k),some (.d (bO l0 Gf R4)),none,none,none,none,none,none,none,none])= .ok (.int q):=by
  have e1:bp iE (av (e2 cR (ah 1) (eC (.int 1))) aP) (down [some (.loc k),some (.d (bO l0 Gf R4)),none,none,none,none,none,none,none,none])= .ok (.int Gf.length):=aX (ds:=[.lst (Gf.map fP)]) (aV (aH (a:=bO l0 Gf R4) (b:= .int 1) rfl rfl rfl) rfl) (by rw[vO,List.length_map])
  cases hb:decide ((Gf.length:Int) < 9) with
  | true=>exact⟨4,by omega,by omega,aH (a:= .int 3) (b:= .int 1) rfl (aX (ds:=[.bl true]) (aV (aH (a:= .int Gf.length) (b:= .int 9) e1 rfl (by show R.ok (D.bl (decide ((Gf.length:Int) < 9)))=_;rw [hb])) rfl) rfl) rfl⟩
  | false=>exact⟨3,by omega,by omega,aH (a:= .int 3) (b:= .int 0) rfl (aX (ds:=[.bl false]) (aV (aH (a:= .int Gf.length) (b:= .int 9) e1 rfl (by show R.ok (D.bl (decide ((Gf.length:Int) < 9)))=_;rw [hb])) rfl) rfl) rfl⟩
 refine aK <| bq (by simp) <| draw (k:=k) rfl v1.p Xs (by omega) (by omega) fun r S2 h1 h2 v2=>⟨_,rfl,?_⟩
 simp only[List.set];obtain⟨m0,rfl⟩:=Int.eq_ofNat_of_zero_le h1;refine aK (W3.mono (Q:=fun o S3=>∃(l:ZA) (gs:List Gt) (os:ZC) (m:Nat),o= .nx [some (.loc k),some (.d (bO l gs os)),some (.d (nI m)),none,none,none,none,none,none,none]/\GN l gs os/\m<=3/\Ev k S S3) ?_ fun o S3 ⟨l,gs,os,m,eo,hN,hm,v3⟩=>⟨_,eo,?_⟩)
 .refine h_ <| yC <| draw (k:=k) rfl v2.p rfl (by omega) (by omega) fun r3 S3 h3 h4 v3=>bN (d:= .int 0) rfl ⟨_,_,decide (r3=0),rfl,rfl,rfl,?_⟩
  have Pd:=(v1.trans v2).trans v3;cases decide (r3=0) with
  | false=>
    rw[if_neg (by decide)]
    exact dk ⟨l0,Gf,R4,m0,rfl,DN.gn hD (by omega) (by omega),by omega,Pd⟩
  | true=>
    rw[if_pos rfl];refine aK <| bq (by simp) <| cv <| au <| w_var (v:= .loc k) rfl <| bF <| Fw v3.p fun gs es S4 hg zG he JK v4=>⟨_,rfl,?_⟩
    simp only[List.set];refine bq (by simp) <| bN (d:=nI 2) rfl ?_
    simp only[List.set];exact⟨Dy,gs,oX es,2,rfl,IL hg zG he JK,by omega,Pd.trans v4⟩
 refine aK <| bq (by simp) <| FC <| bN (d:= .lst [.str "right", .str "safe"]) rfl <| draw (k:=k) rfl v3.p rfl (by omega) (by omega) fun r4 S4 h3 h4 v4=>?_
 obtain⟨safe,es⟩:∃safe,cR (.lst [.str "right", .str "safe"]) (.int r4)= .ok (.str (ml safe)):=by
  have:r4=0\/r4=1:=by omega
  rcases this with rfl | rfl
  .exact⟨false,rfl⟩
  .exact⟨true,rfl⟩
 refine⟨_,_,_,rfl,rfl,es,_,rfl,?_⟩;simp only[List.set];have v4':=v3.trans v4;have hcl:nv S4:=v4.p.1.Wk;have hc6:=hN.c;have hg10:=hN.g;have hGd:Good (hW gs) (dN safe l.length l gs os m):=Bb hN.sd (qj gs) (List.Sublist.refl _);have Gq:(hW gs).length<=10:=Nat.le_trans qY hg10;have hkl:(KU (dN safe l.length l gs os m) (hW gs)).length<=10:=Nat.le_trans (List.length_filter_le _ _) Gq;have hFl:(dN safe l.length l gs os m).length<=16384:=D9 (by omega) hm
 refine aK <| bq (by simp) <| cv <| au <| bN (d:=bO l gs os) rfl <| au <| bN (d:=nI m) rfl <| au <| bN (d:= .str (ml safe)) rfl <| bF <| qd (safe:=safe) hN.no rfl (by omega) hN.o (by omega) hm hcl ⟨_,rfl,?_⟩
 simp only[List.set];refine aK <| bq (by simp) <| cv <| au <| bN (d:=bO l gs os) rfl <| au <| bN (d:=nI m) rfl <| au <| bN (d:= .str (ml safe)) rfl <| bF <| yc hN.no rfl (by omega) hN.o hN.sd (by omega) hm (zo hGd).so (zo hGd) (by omega) hcl fun T0 hU=>⟨_,rfl,?_⟩
 simp only[List.set];have hTl:T0.length < 1000:=by have:=hU.sub.length_le;omega
 refine aK <| bq (by simp) <| cv <| au <| bN (d:=bO l gs os) rfl <| au <| bN (d:=nI m) rfl <| au <| bN (d:= .str (ml safe)) rfl <| bF <| vK (safe:=safe) hN.no rfl (by omega) hN.o (by omega) hm hcl ⟨_,rfl,?_⟩
 simp only[List.set];refine BP ?_ ?_
 .cases hF:dN safe l.length l gs os m with
  | nil=>
    rw[hF] at hU;exact .inl ⟨rfl,x8 hF,hU.empty⟩
  | cons T r=>
    obtain⟨q,hq⟩:=uJ hF;exact .inr ⟨T,r,q,rfl,hq⟩
 refine ik <| h_ <| yC <| bN (d:=aC T0) rfl <| cv <| au <| bN (d:= .lst ((dN safe l.length l gs os m).map aC)) rfl <| au <| bN (d:=nI T0.length) (aX (ds:=[aC T0]) rfl (by show R.ok (D.int (T0.map nI).length)=_;rw [List.length_map];rfl)) <| bF <| E5 hGd (by omega) (by omega) hU hcl ⟨_,_,false,rfl,rfl,j2 (K2 T0),?_⟩
 rw[if_neg (by decide)]
 refine dk <| aK <| bq (by simp) <| bN (d:=bO l (mk T0 gs) os) (aX (ds:=[bO l gs os,aC T0]) rfl (qM (by omega))) ⟨_,rfl,?_⟩
 simp only[List.set];have hH:=hN.held T0;have hH10:=hH.g;have hnil:dN safe l.length l (mk T0 gs) os m=[]:=E_ hU.hit;refine ik <| h_ <| LX <| yC <| cv <| au <| bN (d:=bO l (mk T0 gs) os) rfl <| au <| bN (d:=nI m) rfl <| au <| bN (d:= .str (ml safe)) rfl <| bF <| vK (safe:=safe) hH.no rfl (by omega) hH.o (by omega) hm hcl ?_
 rw[x8 hnil];refine bN (d:=lV) (cX rfl (by simp;omega)) ⟨_,_,false,rfl,rfl,j2 DJ, .inr ⟨rfl,?_⟩⟩
 refine yC <| cv <| au <| bN (d:=bO l (mk T0 gs) os) rfl <| au <| bN (d:=nI m) rfl <| au <| bN (d:= .str (ml safe)) rfl <| bF <| qd (safe:=safe) hH.no rfl (by omega) hH.o (by omega) hm hcl ?_
 rw[hnil];refine bN (d:= .lst []) rfl ⟨_,_,false,rfl,rfl,rfl,?_⟩;rw[if_neg (by decide)]
 have hGh:Good (hW (mk T0 gs)) (dN safe l.length l (mk T0 gs) os m):=Bb hH.sd (qj _) (List.Sublist.refl _);refine dk <| ik <| h_ <| yC <| cv <| au <| bN (d:=bO l (mk T0 gs) os) rfl <| au <| bN (d:=nI m) rfl <| au <| bN (d:= .str (ml safe)) rfl <| bF <| yc (free:=hW (mk T0 gs)) hH.no rfl (by omega) hH.o hH.sd (by omega) hm (qj _) hGh (Nat.le_trans qY (by omega)) hcl fun T1 VU=>?_
 rw[hnil] at VU;rw[VU.empty];refine bN (d:=aC []) (cX rfl (by simp)) ⟨_,_,false,rfl,rfl,j2 (K2 []),?_⟩
 rw[if_neg (by decide)]
 refine dk <| aK <| dJ <| jC (ds:=T0.map nI) (nT rfl) ?_
 refine(bA (fun i δ S5=>S5=S4/\∃a8 a9,δ=zE k (bO l gs os) (nI m) (.str (ml safe)) (.lst ((dN safe l.length l gs os m).map aC)) (aC T0) (bears safe l.length l gs os m) (bO l (mk T0 gs) os) a8 a9)
  ⟨rfl,none,none,rfl⟩ ?_).mono fun o S5 ⟨T7,e5,U4,a8,a9,hδ⟩=>⟨T7,e5,?_⟩
 .rintro i v δ S5 hv ⟨rfl,a8,a9,rfl⟩;obtain⟨x,hx,rfl⟩:=NT.fG hv;refine⟨zE k (bO l gs os) (nI m) (.str (ml safe)) (.lst ((dN safe l.length l gs os m).map aC)) (aC T0) (bears safe l.length l gs os m) (bO l (mk T0 gs) os) (some (.d (nI x))) a9,rfl,?_⟩;exact(Kd hN.no rfl hc6 hN.o hg10 hm hcl hU (List.mem_of_getElem? hx) hTl).mono fun o S6 ⟨e6,b9,eo⟩=>⟨_,eo,e6,_,_,rfl⟩
 subst hδ;rw[U4];unfold zE;have hlast:(T0.filter fun x=>((dN safe l.length l gs os m).filter fun o=>o.contains x).isEmpty)=[]:=by
  rw[List.filter_eq_nil_iff];intro x hx;obtain⟨G,hG,Ju⟩:=(Hz.mp (hU.sub.subset hx)).2;rw[List.isEmpty_iff,List.filter_eq_nil_iff];intro uo;exact uo G hG (by simpa using Ju)
 refine dD <| bN (d:= .bl true) (aH (a:= .lst []) (b:= .lst []) (dI (dh (ds:=T0.map nI) (nT rfl) (by rw[List.length_map];omega) ?_)) rfl rfl) ⟨_,rfl,?_⟩
 .have:=NT.eB (t:=bh 0) (c:=b2 kF (eNew (dM (cq (ah 1)) (bh 0) (b2 Ah (ah 1) (ah 0)) (ah 0) ["some"] [0])) (eNew (dy aP))) (f:=ah 0) (δ:=[.un, .val (.lst ((dN safe l.length l gs os m).map aC))]) (fun x=>((dN safe l.length l gs os m).filter fun o=>o.contains x).isEmpty) nI nI (xs:=T0) fun x _=>⟨[.val (nI x), .val (.lst ((dN safe l.length l gs os m).map aC))],rfl,Fm (by omega),fun _=>rfl⟩
  rw[hlast] at this;exact this
 have:=sS (X:=[]) (v:= .d (.bl true)) (d:= .bl true) (Q:=Q) v4' Flat.nil rfl (by unfold res;rfl) (h S4 v4')
 rw[List.append_nil] at this;exact this
theorem Hm(ns:List Int)(hn:ns.length<=63):DU [.lst (ns.map D.int)]= .ok (.bl true):=by
 have hz:sizeLine=16777216:=sizeLine_eq;have key:W3 (nC vy xW [.d (.lst (ns.map .int))] []) fun v S1=>v= .d (.bl true)/\S1=[]:=by
  refine tK (uB rfl ?_);simp only[cm,vy,List.map,List.length,List.replicate,List.cons_append,List.nil_append,Nat.reduceAdd,Nat.reduceSub];unfold xW;refine aK (dJ (Li (cv (au (bN (d:= .lst ((ns.take 2).map .int)) ?_ (bF (Kb _ ?_ fun n S1 Zr hP=>⟨_,rfl,?_⟩)))))))
  .refine C_ (d:= .lst (ns.map .int)) (lo:=none) (hi:=some 2) rfl rfl rfl ?_;show R.ok (D.lst (L2.cutD _ none (some 2)))=_;rw[Jf _ (by omega),List.map_take]
   rfl
  .rw [List.length_take];omega
  refine(bA (fun i δ S2=>(∃x,δ=[some (.d (.lst (ns.map .int))),x])/\IW n S2) ⟨⟨_,rfl⟩,hP⟩ ?_).mono fun o S2 ⟨cK,e,⟨x,hδ⟩,hP2⟩=>⟨cK,e,?_⟩
  .rintro i v δ S2 hv ⟨⟨x,rfl⟩,hP2⟩;obtain⟨k,hk,rfl⟩:=List.mem_map.mp (List.mem_of_getElem? hv);rw[List.mem_range] at hk;refine⟨_,rfl,?_⟩;unfold DW;refine h_ (w_not (LW (cv (au (w_var (v:= .loc k) rfl (bF (KN (hP2.2.2 k hk) fun S3 v3=>⟨_,true,rfl,rfl,?_⟩)))))))
   rw[if_neg (by decide)]
   exact dk ⟨_,rfl,⟨_,rfl⟩,hP2.ev hk v3⟩
  .subst hδ;refine dD (bN (d:= .bl true) rfl ⟨_,rfl,hP2.1,by unfold eN;rfl, .bl true,by unfold res;rfl,rfl,?_⟩)
   rfl
 obtain⟨v,S1,e,rfl,rfl⟩:=key;unfold DU RG;simp only[List.map_cons,List.map_nil];rw[e];rfl
end K25
end
open PySem PySem.W PyProof.Rows
set_option maxRecDepth 100000 in
set_option maxHeartbeats 0 in
theorem PySem.Challenge.cw_bearfaults_k25_whole_surest_bear_holds : PySem.Challenge.rw_bearfaults_k25_whole_surest_bear.Holds := by
 w_on;o_law;k_head;(case hw=>w_witness2)
 k_fill
 refine L2.Qa (l:=PySem.Challenge.rw_bearfaults_k25_whole_surest_bear) (n:=63) (k:=18) (x:="script") (g:=K25.DU) rfl (by decide) rfl ⟨rfl,by decide,by decide⟩ (fun w h Y=>PySem.W.kIn_of Y) ?F K25.Hm
 case F=>
  intro w mg fa h KX G Ra
  have tp:L2.Def (L2.fJ KX) mg "vote_of" K25.mj:=by
   dsimp only[L2.fJ]
   refine' L2.cn KX G ?a ?l ?c ?k
   (case a=>k_is);(case l=>k_is);(case c=>k_is);(case k=>k_is)
  have oR:L2.Def (L2.fJ KX) mg "gate_mask" K25.i4:=by
   dsimp only[L2.fJ]
   refine' L2.cn KX G ?a ?l ?c ?k
   (case a=>k_is);(case l=>k_is);(case c=>k_is);(case k=>k_is)
  have jt:L2.Def (L2.fJ KX) mg "in_wire_masks" K25.eG:=by
   dsimp only[L2.fJ]
   refine' L2.cn KX G ?a ?l ?c ?k
   (case a=>k_is);(case l=>k_is);(case c=>k_is);(case k=>k_is)
  have qI:L2.Def (L2.fJ KX) mg "masks_at" K25.jY:=by
   dsimp only[L2.fJ]
   refine' L2.cn KX G ?a ?l ?c ?k
   (case a=>k_is);(case l=>k_is);(case c=>k_is);(case k=>k_is)
  have m8:L2.Def (L2.fJ KX) mg "wire_masks" K25.gQ:=by
   dsimp only[L2.fJ]
   refine' L2.cn KX G ?a ?l ?c ?k
   (case a=>k_is);(case l=>k_is);(case c=>k_is);(case k=>k_is)
  have oT:L2.Def (L2.fJ KX) mg "out_masks" K25.i5:=by
   dsimp only[L2.fJ]
   refine' L2.cn KX G ?a ?l ?c ?k
   (case a=>k_is);(case l=>k_is);(case c=>k_is);(case k=>k_is)
  have tm:L2.Def (L2.fJ KX) mg "reading" K25.mf:=by
   dsimp only[L2.fJ]
   refine' L2.cn KX G ?a ?l ?c ?k
   (case a=>k_is);(case l=>k_is);(case c=>k_is);(case k=>k_is)
  have wz:L2.Def (L2.fJ KX) mg "bit_at" K25.oh:=by
   dsimp only[L2.fJ]
   refine' L2.cn KX G ?a ?l ?c ?k
   (case a=>k_is);(case l=>k_is);(case c=>k_is);(case k=>k_is)
  have m6:L2.Def (L2.fJ KX) mg "all_inputs" K25.gJ:=by
   dsimp only[L2.fJ]
   refine' L2.cn KX G ?a ?l ?c ?k
   (case a=>k_is);(case l=>k_is);(case c=>k_is);(case k=>k_is)
  have tq:L2.Def (L2.fJ KX) mg "mask_of" K25.ma:=by
   dsimp only[L2.fJ]
   refine' L2.cn KX G ?a ?l ?c ?k
   (case a=>k_is);(case l=>k_is);(case c=>k_is);(case k=>k_is)
  have tF:L2.Def (L2.fJ KX) mg "in_mask" K25.lO:=by
   dsimp only[L2.fJ]
   refine' L2.cn KX G ?a ?l ?c ?k
   (case a=>k_is);(case l=>k_is);(case c=>k_is);(case k=>k_is)
  have sZ:L2.Def (L2.fJ KX) mg "choices" K25.lY:=by
   dsimp only[L2.fJ]
   refine' L2.cn KX G ?a ?l ?c ?k
   (case a=>k_is);(case l=>k_is);(case c=>k_is);(case k=>k_is)
  have zt:L2.Def (L2.fJ KX) mg "bears" K25.qP:=by
   dsimp only[L2.fJ]
   refine' L2.cn KX G ?a ?l ?c ?k
   (case a=>k_is);(case l=>k_is);(case c=>k_is);(case k=>k_is)
  have sY:L2.Def (L2.fJ KX) mg "has_all" K25.lP:=by
   dsimp only[L2.fJ]
   refine' L2.cn KX G ?a ?l ?c ?k
   (case a=>k_is);(case l=>k_is);(case c=>k_is);(case k=>k_is)
  have qA:L2.Def (L2.fJ KX) mg "breaking" K25.j6:=by
   dsimp only[L2.fJ]
   refine' L2.cn KX G ?a ?l ?c ?k
   (case a=>k_is);(case l=>k_is);(case c=>k_is);(case k=>k_is)
  have lF:L2.Def (L2.fJ KX) mg "count_apart" K25.fV:=by
   dsimp only[L2.fJ]
   refine' L2.cn KX G ?a ?l ?c ?k
   (case a=>k_is);(case l=>k_is);(case c=>k_is);(case k=>k_is)
  have wq:L2.Def (L2.fJ KX) mg "behind" K25.oi:=by
   dsimp only[L2.fJ]
   refine' L2.cn KX G ?a ?l ?c ?k
   (case a=>k_is);(case l=>k_is);(case c=>k_is);(case k=>k_is)
  have lG:L2.Def (L2.fJ KX) mg "groups_left" K25.fX:=by
   dsimp only[L2.fJ]
   refine' L2.cn KX G ?a ?l ?c ?k
   (case a=>k_is);(case l=>k_is);(case c=>k_is);(case k=>k_is)
  have kC:L2.Def (L2.fJ KX) mg "first_places" K25.fg:=by
   dsimp only[L2.fJ]
   refine' L2.cn KX G ?a ?l ?c ?k
   (case a=>k_is);(case l=>k_is);(case c=>k_is);(case k=>k_is)
  have wD:L2.Def (L2.fJ KX) mg "surest" K25.nJ:=by
   dsimp only[L2.fJ]
   refine' L2.cn KX G ?a ?l ?c ?k
   (case a=>k_is);(case l=>k_is);(case c=>k_is);(case k=>k_is)
  have oY:L2.Def (L2.fJ KX) mg "made_sure" K25.i9:=by
   dsimp only[L2.fJ]
   refine' L2.cn KX G ?a ?l ?c ?k
   (case a=>k_is);(case l=>k_is);(case c=>k_is);(case k=>k_is)
  have qC:L2.Def (L2.fJ KX) mg "_law_next" K25.kh:=by
   dsimp only[L2.fJ]
   refine' L2.cn KX G ?a ?l ?c ?k
   (case a=>k_is);(case l=>k_is);(case c=>k_is);(case k=>k_is)
  have qH:L2.Def (L2.fJ KX) mg "_law_pots" K25.kr:=by
   dsimp only[L2.fJ]
   refine' L2.cn KX G ?a ?l ?c ?k
   (case a=>k_is);(case l=>k_is);(case c=>k_is);(case k=>k_is)
  have kA:L2.Def (L2.fJ KX) mg "_law_some_ins" K25.fw:=by
   dsimp only[L2.fJ]
   refine' L2.cn KX G ?a ?l ?c ?k
   (case a=>k_is);(case l=>k_is);(case c=>k_is);(case k=>k_is)
  have qE:L2.Def (L2.fJ KX) mg "_law_gate" K25.j0:=by
   dsimp only[L2.fJ]
   refine' L2.cn KX G ?a ?l ?c ?k
   (case a=>k_is);(case l=>k_is);(case c=>k_is);(case k=>k_is)
  have qF:L2.Def (L2.fJ KX) mg "_law_twin" K25.jS:=by
   dsimp only[L2.fJ]
   refine' L2.cn KX G ?a ?l ?c ?k
   (case a=>k_is);(case l=>k_is);(case c=>k_is);(case k=>k_is)
  have kB:L2.Def (L2.fJ KX) mg "_law_some_net" K25.fu:=by
   dsimp only[L2.fJ]
   refine' L2.cn KX G ?a ?l ?c ?k
   (case a=>k_is);(case l=>k_is);(case c=>k_is);(case k=>k_is)
  have mZ:L2.Def (L2.fJ KX) mg "_law_chains" K25.gA:=by
   dsimp only[L2.fJ]
   refine' L2.cn KX G ?a ?l ?c ?k
   (case a=>k_is);(case l=>k_is);(case c=>k_is);(case k=>k_is)
  have kD:L2.Def (L2.fJ KX) mg "_law_all_sets" K25.eZ:=by
   dsimp only[L2.fJ]
   refine' L2.cn KX G ?a ?l ?c ?k
   (case a=>k_is);(case l=>k_is);(case c=>k_is);(case k=>k_is)
  have oV:L2.Def (L2.fJ KX) mg "_law_meets" K25.ja:=by
   dsimp only[L2.fJ]
   refine' L2.cn KX G ?a ?l ?c ?k
   (case a=>k_is);(case l=>k_is);(case c=>k_is);(case k=>k_is)
  have m5:L2.Def (L2.fJ KX) mg "_law_fewest" K25.gG:=by
   dsimp only[L2.fJ]
   refine' L2.cn KX G ?a ?l ?c ?k
   (case a=>k_is);(case l=>k_is);(case c=>k_is);(case k=>k_is)
  have qB:L2.Def (L2.fJ KX) mg "_law_case" K25.j4:=by
   dsimp only[L2.fJ]
   refine' L2.cn KX G ?a ?l ?c ?k
   (case a=>k_is);(case l=>k_is);(case c=>k_is);(case k=>k_is)
  have D_law:L2.Def (L2.fJ KX) mg "law" K25.Ey:=by
   dsimp only[L2.fJ]
   refine' L2.cn KX G ?a ?l ?c ?k
   (case a=>k_is);(case l=>k_is);(case c=>k_is);(case k=>k_is)
  obtain⟨cl,CF⟩:∃cl,K25.Cf (L2.fJ KX) mg cl:=by
   dsimp only[L2.fJ]
   refine' K25.Qk KX G ?Uq ?Ue ?OI ?U0 ?Ub ?Uw ?T8 ?Dk ?kz ?zB ?oU ?UQ ?Ur ?Uc ?UD ?UI ?T9 ?UM ?wA ?wy ?s_ ?iI ?iM ?iS ?dZ ?iH ?lI ?lH ?lE ?fY ?i3 ?iL ?iJ ?iO ?ee ?fN ?iT ?iQ ?iG ?d9 ?iR ?g7 ?g6 ?gY ?dH ?eQ ?g_ ?gZ ?g9 ?dG ?eR
   (case Uq=>k_is)
   (case Ue=>k_is)
   (case OI=>k_is)
   (case U0=>k_is)
   (case Ub=>k_is)
   (case Uw=>k_is)
   (case T8=>k_is)
   (case Dk=>k_is)
   (case kz=>k_is)
   (case zB=>k_is)
   (case oU=>k_is)
   (case UQ=>k_is)
   (case Ur=>k_is)
   (case Uc=>k_is)
   (case UD=>k_is)
   (case UI=>k_is)
   (case T9=>k_is)
   (case UM=>k_is)
   (case wA=>k_is)
   (case wy=>k_is)
   (case s_=>k_is)
   (case iI=>k_is)
   (case iM=>k_is)
   (case iS=>k_is)
   (case dZ=>k_is)
   (case iH=>k_is)
   (case lI=>k_is)
   (case lH=>k_is)
   (case lE=>k_is)
   (case fY=>k_is)
   (case i3=>k_is)
   (case iL=>k_is)
   (case iJ=>k_is)
   (case iO=>k_is)
   (case ee=>k_is)
   (case fN=>k_is)
   (case iT=>k_is)
   (case iQ=>k_is)
   (case iG=>k_is)
   (case d9=>k_is)
   (case iR=>k_is)
   (case g7=>k_is)
   (case g6=>k_is)
   (case gY=>k_is)
   (case dH=>k_is)
   (case eQ=>k_is)
   (case g_=>k_is)
   (case gZ=>k_is)
   (case g9=>k_is)
   (case dG=>k_is)
   (case eR=>k_is)
  have eh:=CF.eh
  have fZ:=CF.fZ
  have eg:=CF.eg
  have ef:=CF.ef
  have dP:=CF.dP
  have dO:=CF.dO
  have T:K25.Tp (L2.fJ KX) mg cl:=by
   dsimp only[L2.fJ]
   refine' ⟨PySem.W.mg_none_of KX G ?z_enumerate,PySem.W.mg_none_of KX G ?z_range,PySem.W.mg_none_of KX G ?z_len,PySem.W.mg_none_of KX G ?z_tuple,PySem.W.mg_none_of KX G ?z_reversed,PySem.W.mg_none_of KX G ?z_zip,PySem.W.mg_none_of KX G ?z_all,PySem.W.mg_none_of KX G ?z_any,PySem.W.mg_none_of KX G ?z_min,PySem.W.mg_none_of KX G ?z_sorted,PySem.W.mg_none_of KX G ?z_list,PySem.W.mg_none_of KX G ?z_int,CF.C_Bench,CF.N_Bench_net,CF.N_Bench_many_inputs,CF.N_Bench_full,CF.N_Bench_in_masks,CF.M_Bench,CF.C_Trial,CF.N_Trial_bench,CF.N_Trial_plain,CF.N_Trial_unsure,CF.M_Trial⟩
   (case z_enumerate=>k_is);(case z_range=>k_is);(case z_len=>k_is);(case z_tuple=>k_is);(case z_reversed=>k_is);(case z_zip=>k_is);(case z_all=>k_is);(case z_any=>k_is);(case z_min=>k_is);(case z_sorted=>k_is);(case z_list=>k_is);(case z_int=>k_is)
  obtain⟨fl,fd,Fl,hl⟩:=D_law
  have e0:=Ra.symm.trans hl
  cases e0
  refine' ⟨fd,?b,fun base kb nb=>K25.NL T tp oR jt qI m8 oT tm wz m6 tq tF sZ eh fZ eg ef dP dO zt sY qA lF wq lG kC wD oY qC qH kA qE qF kB mZ kD oV m5 qB Fl⟩
  obtain⟨_,_,_,_,_,_,_,_,_,e,_,_⟩:=Fl.ex
  subst e
  exact fun s u=> .of_eq rfl
