import PyProof.Rows.All
import Wide.All
import OpenK.AllK
import Wide.FinOn
import Lean
import PyProof.EqAt
import PyProof.EqKinds
import PyProof.TupleCall
import PyProof.Rows.StrJoin2
import PyProof.TupleOfGen
import PyProof.ListRange
import PyProof.Draws
import PyProof.Rows.StrClose3
import KE.KSortedM
import PyProof.Rows.SortWalk
import PyProof.WalkInts
import PyProof.Rows.Range3
import PyProof.ZipIter
import PyProof.ConsumeWalk
import PyProof.Rows.SeqMore
import KE.KRevIter
import KE.KRevSl
import KE.KUnpack
import KE.KDictSum
import KE.KTupSum
import PySem.Challenge.RW_bearfaults_k37_whole_keeping_nets_joined
noncomputable section
set_option bootstrap.genMatcherCode false
section
open PySem
abbrev WH:=List (Addr×Obj)
abbrev WI:=Value->Shared->Prop
abbrev WJ:=List (Str×Nat)
abbrev WK:=List (Str×List Nat)
abbrev WL:=List (List Nat)
abbrev WM:=Str->Option Value
abbrev WN:=Nat->Addr
end
def PySem.W.Fast.tw1994884744890566428:=0
def PySem.W.Fast.tw16710080628086656197:=0
def PySem.W.Fast.tw4732844146218153536:=0
def PySem.W.Fast.tw6631953159964985234:=0
def PySem.W.Fast.tw6909176810989862187:=0
def PySem.W.Fast.tw11095217540560535479:=0
def PySem.W.Fast.tw1283841729704015599:=0
def PySem.W.Fast.tw16808070569978944121:=0
def PySem.W.Fast.tw10322646626934317108:=0
def PySem.W.Fast.tw13693670815715477655:=0
def PySem.W.Fast.tw12828089514138224840:=0
def PySem.W.Fast.tw10840115458735528689:=0
def PySem.W.Fast.tw12860818842690562372:=0
def PySem.W.Fast.tw9420730056299731282:=0
def PySem.W.Fast.tw857049492285680230:=0
def PySem.W.Fast.tw9554662482524065386:=0
def PySem.W.Fast.tw4857574182585552633:=0
def PySem.W.Fast.tw11780126403098474494:=0
def PySem.W.Fast.tw2867171192627745394:=0
def PySem.W.Fast.tw14819606093990543497:=0
def PySem.W.Fast.tw4905369246758760899:=0
def PySem.W.Fast.tw15456937842098794428:=0
def PySem.W.Fast.tw66824820159938969:=0
def PySem.W.Fast.tw2720384673847642140:=0
def PySem.W.Fast.tw18400090535745054033:=0
def PySem.W.Fast.tw6567309158416160292:=0
def PySem.W.Fast.tw17853609792023857843:=0
def PySem.W.Fast.tw8692078728948831020:=0
def PySem.W.Fast.tw17317729082158952949:=0
def PySem.W.Fast.tw11025574747444048593:=0
def PySem.W.Fast.tw12903211971690185342:=0
def PySem.W.Fast.tw18135400248311573343:=0
def PySem.W.Fast.tw17246164339393110215:=0
def PySem.W.Fast.tw5671514373582575090:=0
def PySem.W.Fast.tw11201385596967682727:=0
def PySem.W.Fast.tw16628551285409724258:=0
def PySem.W.Fast.tw95402204057932626:=0
def PySem.W.Fast.tw12891202901006538671:=0
def PySem.W.Fast.tw613388926002583772:=0
def PySem.W.Fast.tw1802187157301353448:=0
set_option Elab.async false
set_option linter.all false
set_option maxRecDepth 100000
set_option maxHeartbeats 4000000
section
namespace L2
open PySem PySem.Spec PyProof.Rows
abbrev Key:=Sum Int Str
def v_:Key->Value->Bool
 | .inl k,v=>Value.isInt k v
 | .inr x,v=>Value.isStrOf x v
def Qz(w:World):Key->Int
 | .inl k=>hashInt k
 | .inr x=>hashStr w x
theorem dj:∀{k:Key} {v:Value},v_ k v=true->(∃i t,k=Sum.inl i/\v=Value.int i t)\/(∃x t,k=Sum.inr x/\v=Value.str x t)
 | .inl i,v,h=>by
   obtain⟨t,e⟩:=Value.isInt_shape (k:=i) (v:=v) h;exact .inl ⟨i,t,rfl,e⟩
 | .inr x,v,h=>by
   obtain⟨t,e⟩:=Value.isStrOf_shape (x:=x) (v:=v) h;exact .inr ⟨x,t,rfl,e⟩
theorem D4(i:Int)(t:Tok):v_ (.inl i) (.int i t)=true:=by simp [v_,Value.isInt]
theorem CT(x:Str)(t:Tok):v_ (.inr x) (.str x t)=true:=by simp [v_,Value.isStrOf]
theorem Mh(a b:Int):decide ((Sum.inl a:Key)=Sum.inl b)=(a==b):=by
 by_cases e:a=b
 .subst e;simp
 .have h:¬(Sum.inl a:Key)=Sum.inl b:=fun q=>e (Sum.inl.inj q)
  rw[decide_eq_false h];exact(beq_eq_false_iff_ne.mpr e).symm
theorem Lf(a b:Str):decide ((Sum.inr a:Key)=Sum.inr b)=decide (a=b):=by
 by_cases e:a=b
 .subst e;simp
 .have h:¬(Sum.inr a:Key)=Sum.inr b:=fun q=>e (Sum.inr.inj q)
  rw[decide_eq_false h,decide_eq_false e]
theorem Ld(a:Int)(b:Str):decide ((Sum.inl a:Key)=Sum.inr b)=false:=decide_eq_false (fun q=>nomatch q)
theorem KH(a:Str)(b:Int):decide ((Sum.inr a:Key)=Sum.inl b)=false:=decide_eq_false (fun q=>nomatch q)
def c_(prog:Program)(w:World):PySem.KeyKind prog w Key where
 is:=v_
 hash:=Qz w
 inj:=fun v a b ha hb=>by
  rcases dj ha with⟨i,t,rfl,rfl⟩ | ⟨x,t,rfl,rfl⟩
  .rcases dj hb with⟨j,u,rfl,e⟩ | ⟨y,u,rfl,e⟩
   .injection e with e1 _;rw [e1]
   .exact nomatch e
  .rcases dj hb with⟨j,u,rfl,e⟩ | ⟨y,u,rfl,e⟩
   .exact nomatch e
   .injection e with e1 _;rw [e1]
 byValue:=fun k v h=>by
  rcases dj h with⟨i,t,rfl,rfl⟩ | ⟨x,t,rfl,rfl⟩ <;> rfl
 pyHash:=fun hv h=>by
  rcases dj hv with⟨i,t,rfl,rfl⟩ | ⟨x,t,rfl,rfl⟩
  .exact wpAny_pyHash_int h
  .exact wpAny_pyHash_str h
 eqBool:=fun hu hv h=>by
  rcases dj hu with⟨i,t,rfl,rfl⟩ | ⟨x,t,rfl,rfl⟩
  .rcases dj hv with⟨j,u,rfl,rfl⟩ | ⟨y,u,rfl,rfl⟩
   .rw [Mh] at h;exact wpAny_eqBool_int h
   .rw [Ld] at h;exact SeqAt.EqAt.int_str i t y u _ _ _ _ h
  .rcases dj hv with⟨j,u,rfl,rfl⟩ | ⟨y,u,rfl,rfl⟩
   .rw [KH] at h;exact SeqAt.EqAt.str_int x t j u _ _ _ _ h
   .rw [Lf] at h;exact wpAny_eqBool_str h
 «strs»:=fun k x t v h=>by
  rcases dj h with⟨i,u,rfl,e⟩ | ⟨y,u,rfl,e⟩
  .exact nomatch e
  .injection e with e1 _
   subst e1;cases v <;> rfl
theorem yu(prog:Program)(w:World)(i:Int)(t:Tok):(c_ prog w).is (.inl i) (.int i t)=true:=D4 i t
theorem zf(prog:Program)(w:World)(x:Str)(t:Tok):(c_ prog w).is (.inr x) (.str x t)=true:=CT x t
inductive V where
 | cX | bl (b:Bool) | int (i:Int) | str (x:Str) | byt (b:Array UInt8) | flt (b:UInt64) | ref (a:Addr) | ty (n:String)
 deriving DecidableEq
def RelV:V->Value->Prop
 | .cX,u=>u=Value.none
 | .bl b,u=>u=Value.bool b
 | .int i,u=>∃t,u=Value.int i t
 | .str x,u=>∃t,u=Value.str x t
 | .byt b,u=>∃t,u=Value.bytes b t
 | .flt b,u=>∃t,u=Value.float b t
 | .ref a,u=>u=Value.ref a
 | .ty n,u=>u=Value.type n
abbrev Vals:List V->List Value->Prop:=Paired RelV
theorem Vals.length{xs:List V}{us:List Value}(r:Vals xs us):xs.length=us.length:=Paired.length r
theorem Vals.get:∀{xs:List V} {us:List Value} {i:Nat} {x:V},Vals xs us->xs[i]? =some x->∃u,us[i]? =some u/\RelV x u
 | _,_,_,_, .nil,e=>by simp at e
 | _,_,0,_, .cons r _,e=>by simp at e;subst e;exact⟨_,rfl,r⟩
 | _,_,i+1,x, .cons _ t,e=>by
   obtain⟨u,h1,h2⟩:=Vals.get (i:=i) (x:=x) t (by simpa using e)
   exact⟨u,by simpa using h1,h2⟩
theorem Vals.set{x:V}{u:Value}(r:RelV x u):∀{xs:List V} {us:List Value} (i:Nat),Vals xs us->Vals (xs.set i x) (us.set i u)
 | _,_,_, .nil=> .nil
 | _,_,0, .cons _ t=> .cons r t
 | _,_,i+1, .cons q t=> .cons q (Vals.set r i t)
theorem Vals.append:∀{xs ys:List V} {us ws:List Value},Vals xs us->Vals ys ws->Vals (xs++ys) (us++ws)
 | _,_,_,_, .nil,s=>s
 | _,_,_,_, .cons r t,s=> .cons r (Vals.append t s)
theorem Vals.take:∀{xs:List V} {us:List Value} (n:Nat),Vals xs us->Vals (xs.take n) (us.take n)
 | _,_,0,_=> .nil
 | _,_,_+1, .nil=> .nil
 | _,_,n+1, .cons r t=> .cons r (Vals.take n t)
theorem Vals.drop:∀{xs:List V} {us:List Value} (n:Nat),Vals xs us->Vals (xs.drop n) (us.drop n)
 | _,_,0,r=>r
 | _,_,_+1, .nil=> .nil
 | _,_,n+1, .cons _ t=>Vals.drop n t
def mR:Option V->Option Value->Prop
 | some v,some u=>RelV v u
 | none,none=>True
 | _,_=>False
def KV{κ:Type}:List (κ × V)->List (κ × Value)->Prop:=Paired fun(p:κ × V) (q:κ × Value)=>p.1=q.1/\RelV p.2 q.2
def kV:Key->V
 | .inl i=> .int i
 | .inr x=> .str x
inductive HO where
 | lst (xs:List V)
 | tup (xs:List V)
 | dK (aL:List (Key × V)) | dT (aL:List (List Key × V))
 | set (S:Int->Bool) (n:Nat)
 | ins (C dx:Addr) (fs:List (Str × V))
 | own (x:Addr)
 | xd (fs:List (Str × V))
 | met (f x:Addr)
 | rng (lo hi:Int)
 | kL (o:Obj) (u:HO)
 | tbl (ps:Array Value)
 | ext (φ:Heap->Prop)
abbrev Hp:=Addr->Option HO
def upd(H:Hp)(a:Addr)(o:HO):Hp:=fun b=>if b=a then some o else H b
theorem aY{a:Addr}{o:HO}:upd H a o a=some o:=by unfold upd;rw [if_pos rfl]
theorem bg{H:Hp}{a b:Addr}{o:HO}(h:b≠a):upd H a o b=H b:=by unfold upd;rw [if_neg h]
theorem Jt{a:Addr}{o u:HO}:upd (upd H a o) a u=upd H a u:=by
 funext b;unfold upd;split <;> rfl
theorem Ol{H:Hp}{a b:Addr}{o u:HO}(h:H a=some o)(h':H b=some u)(d:o≠u):a≠b:=by
 intro e;subst e;rw [h] at h';exact d (Option.some.inj h')
theorem cH{H:Hp}{a b:Addr}{o:HO}(h:H a=some o)(h':H b=none):a≠b:=by
 intro e;subst e;rw [h] at h';cases h'
section
variable (P:Program) (w:World)
def eF(H:Hp)(h:Heap)(a:Addr):HO->Prop
 | .lst xs=>xs.length<=sizeLine/\∃(its:List Value) (n:Nat),Vals xs its/\h.get? a=some {cls:= .type "list",data:= .seq its.toArray n}
 | .tup xs=>xs.length<=sizeLine/\∃its:List Value,Vals xs its/\IsTup h a its.toArray
 | .dK aL=>aL.length<=sizeLine/\(a==sysModules)=false/\∃vs,KV aL vs/\h.DictOf (c_ P w) a vs
 | .dT aL=>aL.length<=sizeLine/\(a==sysModules)=false/\∃xs:List (List Key × Addr × Value),
    Paired (fun(p:List Key × V) (q:List Key × Addr × Value)=>p.1=q.1/\H q.2.1=some (.tup (p.1.map kV))/\RelV p.2 q.2.2) aL xs/\
    ∃o es ep,h.get? a=some o/\o.ExactDict/\o.data= .dict es ep/\es.toList=xs.map (entryOfKey (tupleKind (c_ P w)))/\(xs.map (·.1)).Nodup
 | .set S n=>h.SetOf (intKind P w) a S n
 | .ins C dx fs=>H dx=some (.own a)/\fs.length<=1000/\dx≠a/\h.get? a=some (PySem.W.instObj C dx)/\
    ∃mA,h.Ns1 dx mA/\(∀f,mR (fs.lookup f) (mA f))/\PySem.Within mA (fs.map (·.1))
 | .own _=>∃o,h.get? a=some o
 | .xd fs=>∃mA,h.Ns1 a mA/\∀f,mR (fs.lookup f) (mA f)
 | .rng lo hi=>∃t u v,h.get? a=some {cls:= .type "range",data:= .fields #[.int lo t, .int hi u, .int 1 v]}
 | .kL o u=>h.get? a=some o/\eF H h a u
 | .tbl ps=>h.get? a=some {cls:= .none,data:= .fields ps}
 | .met f x=>h.get? a=some (PySem.W.methodObj (.ref f) (.ref x))
 | .ext φ=>φ h/\(∃o,h.get? a=some o)/\∀h1 h2:Heap,φ h1->(∀o,h1.get? a=some o->h2.get? a=some o)->φ h2
def oq(H:Hp)(h:Heap):Prop:=∀a o,H a=some o->eF P w H h a o
end
section
variable {P:Program} {w:World} {H H':Hp} {h h':Heap} {a:Addr} {o:HO}
theorem eF.lt(x:eF P w H h a o):a < h.objs.size:=by
 cases o with
 | lst xs=>obtain⟨_,_,_,_,e⟩:=x;exact Heap.lt_size e
 | tup xs=>obtain⟨_,_,_,p⟩:=x;exact p.lt
 | dK aL=>obtain⟨_,_,_,_,o,_,_,e,_⟩:=x;exact Heap.lt_size e
 | dT aL=>obtain⟨_,_,_,_,o,_,_,e,_⟩:=x;exact Heap.lt_size e
 | set S n=>obtain⟨o,_,_,_,e,_⟩:=x;exact Heap.lt_size e
 | ins C dx fs=>obtain⟨_,_,_,e,_⟩:=x;exact Heap.lt_size e
 | own y=>obtain⟨_,e⟩:=x;exact Heap.lt_size e
 | xd fs=>obtain⟨_,⟨_,_,_,e,_⟩,_⟩:=x;exact Heap.lt_size e
 | rng lo hi=>obtain⟨_,_,_,e⟩:=x;exact Heap.lt_size e
 | kL ob u=>obtain⟨e,_⟩:=x;exact Heap.lt_size e
 | tbl ps=>exact Heap.lt_size (show h.get? a=some _ from x)
 | met f y=>exact Heap.lt_size (show h.get? a=some _ from x)
 | ext φ=>obtain⟨_,⟨_,e⟩,_⟩:=x;exact Heap.lt_size e
theorem Paired.LX{α β:Type}{F G:α->β->Prop}:∀{OO:List α} {OQ:List β},Paired F OO OQ->(∀a b,F a b->G a b)->Paired G OO OQ
 | _,_, .nil,_=> .nil
 | _,_, .cons r t,f=> .cons (f _ _ r) (Paired.LX t f)
theorem eF.xJ(x:eF P w H h a o)(k:∀b u,(b=a\/H b=some (.own a))->h.get? b=some u->h'.get? b=some u)
 (ho:∀b,H b=some (.own a)->H' b=some (.own a)) (ht:∀b xs,H b=some (.tup xs)->H' b=some (.tup xs)):eF P w H' h' a o:=by
 induction o with
 | lst xs=>obtain⟨z,its,n,r,e⟩:=x;exact⟨z,its,n,r,k _ _ (.inl rfl) e⟩
 | tup xs=>obtain⟨z,its,r,ob,e,c⟩:=x;exact⟨z,its,r,ob,k _ _ (.inl rfl) e,c⟩
 | dK aL=>obtain⟨z,y,vs,r,ob,es,ep,e,c⟩:=x;exact⟨z,y,vs,r,ob,es,ep,k _ _ (.inl rfl) e,c⟩
 | dT aL=>
   obtain⟨z,y,xs,r,ob,es,ep,e,c⟩:=x;exact⟨z,y,xs,Paired.LX r fun p q z=>⟨z.1,ht _ _ z.2.1,z.2.2⟩,ob,es,ep,k _ _ (.inl rfl) e,c⟩
 | set S n=>obtain⟨ob,es,ep,t,e,c⟩:=x;exact⟨ob,es,ep,t,k _ _ (.inl rfl) e,c⟩
 | ins C dx fs=>
   obtain⟨d,z,ne,e,mA,⟨od,es,ep,e2,c⟩,r⟩:=x;exact⟨ho _ d,z,ne,k _ _ (.inl rfl) e,mA,⟨od,es,ep,k _ _ (.inr d) e2,c⟩,r⟩
 | own y=>obtain⟨ob,e⟩:=x;exact⟨ob,k _ _ (.inl rfl) e⟩
 | xd fs=>obtain⟨mA,⟨od,es,ep,e,c⟩,r⟩:=x;exact⟨mA,⟨od,es,ep,k _ _ (.inl rfl) e,c⟩,r⟩
 | rng lo hi=>obtain⟨t,u,v,e⟩:=x;exact⟨t,u,v,k _ _ (.inl rfl) e⟩
 | kL ob u ih=>obtain⟨e,q⟩:=x;exact⟨k _ _ (.inl rfl) e,ih q⟩
 | tbl ps=>
   have e:h.get? a=some {cls:= .none,data:= .fields ps}:=x;show h'.get? a=some {cls:= .none,data:= .fields ps};exact k a _ (.inl rfl) e
 | met f y=>
   have e:h.get? a=some (PySem.W.methodObj (.ref f) (.ref y)):=x;show h'.get? a=some (PySem.W.methodObj (.ref f) (.ref y));exact k a _ (.inl rfl) e
 | ext φ=>obtain⟨p,⟨o,e⟩,st⟩:=x;exact⟨st _ _ p fun o q=>k _ _ (.inl rfl) q,⟨o,k _ _ (.inl rfl) e⟩,st⟩
theorem oq.lt(x:oq P w H h)(e:H a=some o):a < h.objs.size:=(x a o e).lt
theorem oq.fresh(x:oq P w H h)(e:h.objs.size<=a):H a=none:=by
 cases q:H a with
 | none=>rfl
 | some u=>exact absurd (Nat.lt_of_lt_of_le (x.lt q) e) (Nat.lt_irrefl _)
theorem oq.kept(x:oq P w H h)(k:∀b u,h.get? b=some u->h'.get? b=some u):oq P w H h':=fun a o e=>
 (x a o e).xJ (fun b u _ q=>k b u q) (fun _ q=>q) fun _ _ q=>q
theorem oq.laid(x:oq P w H h)(k:∀b u,h.get? b=some u->h'.get? b=some u)(hp:h.objs.size<=a)(new:eF P w (upd H a o) h' a o):oq P w (upd H a o) h':=fun b u e=>by
 have hn:=x.fresh hp;by_cases hb:b=a
 .subst hb;rw [aY] at e;cases e;exact new
 .rw [bg hb] at e;exact(x b u e).xJ (fun c v _ q=>k c v q) (fun c q=>by rw[bg (cH q hn)];exact q) fun c xs q=>by rw[bg (cH q hn)];exact q
end
def Rd(H:Hp)(a:Addr)(u:HO):Prop:=H a=some u\/∃o,H a=some (.kL o u)
theorem Rd.of{H:Hp}{a:Addr}{u:HO}(h:H a=some u):Rd H a u:= .inl h
theorem Rd.ok{a:Addr}{u:HO}(r:Rd H a u)(x:oq P w H h):eF P w H h a u:=by
 rcases r with r | ⟨o,r⟩
 .exact x a u r
 .obtain⟨_,q⟩:=x a _ r;exact q
def NC:Option HO->Prop
 | some (.lst _)=>True
 | some (.dK _)=>True
 | some (.dT _)=>True
 | some (.set _ _)=>True
 | some (.ins _ _ _)=>True
 | some (.ext _)=>True
 | _=>False
section
variable {P:Program} {w:World} {H:Hp} {h h':Heap} {x e:Addr} {o':HO}
theorem oq.write(ok:oq P w H h)(mu:NC (H x))(he:e=x\/H e=some (.own x))(k:∀b u,b≠e->h.get? b=some u->h'.get? b=some u)(Hl:∃u,h'.get? e=some u)
 (new:eF P w (upd H x o') h' x o'):oq P w (upd H x o') h':=fun b u q=>by
 have nown:∀c y,H c=some (.own y)->c≠x:=fun c y r z=>by subst z;rw [r] at mu;exact mu
 have ntup:∀c xs,H c=some (.tup xs)->c≠x:=fun c xs r z=>by subst z;rw [r] at mu;exact mu
 by_cases hb:b=x
 .subst hb;rw [aY] at q;cases q;exact new
 .rw [bg hb] at q;by_cases hbe:b=e
  .have q':H b=some (.own x):=by
    rcases he with z | z
    .exact absurd (hbe.trans z) hb
    .rw [hbe];exact z
   rw[q] at q';cases q';obtain⟨v,hv⟩:=Hl;exact⟨v,by rw[hbe];exact hv⟩
  .refine(ok b u q).xJ (fun c v hc r=>k c v ?_ r) (fun c r=>by rw[bg (nown c b r)];exact r) fun c xs r=>by rw[bg (ntup c xs r)];exact r
   rcases hc with rfl | hc
   .exact hbe
   .rintro rfl;rcases he with z | z
    .exact nown c b hc z
    .rw [hc] at z;cases z;exact hb rfl
end
structure Un (fs ex:List Addr) (H H':Hp) (h h':Heap):Prop where
 keep:∀b o,h.get? b=some o->H b=none->b ∉ fs->b ∉ ex->h'.get? b=some o
 slot:∀b o,h.get? b=some o->H b=none->b∈fs->b ∉ ex->∃sl,h'.get? b=some {o with slots:=sl}
 free:∀b o,h.get? b=some o->H b=none->b ∉ ex->H' b=none
 there:∀b o,h.get? b=some o->b ∉ ex->∃o',h'.get? b=some o'
 tups:∀b xs,H b=some (.tup xs)->H' b=some (.tup xs)
 frzs:∀b o u,H b=some (.kL o u)->H' b=some (.kL o u)
 tbls:∀b ps,H b=some (.tbl ps)->∃more,H' b=some (.tbl (ps++more))
section
variable {fs MS ex WB:List Addr} {H H1 H2:Hp} {h h1 h2 h':Heap} {a x e:Addr} {o:HO}
theorem Un.any(u:Un fs ex H H1 h h1){b:Addr}{ob:Obj}(q:h.get? b=some ob)(n:H b=none)(hx:b ∉ ex):∃sl,h1.get? b=some {ob with slots:=sl}:=by
 by_cases hb:b∈fs
 .exact u.slot b ob q n hb hx
 .exact⟨ob.slots,u.keep b ob q n hb hx⟩
theorem Un.kept(k:∀b u,h.get? b=some u->h'.get? b=some u):Un fs ex H H h h':=
 ⟨fun b ob q _ _ _=>k b ob q,fun b ob q _ _ _=>⟨ob.slots,k b ob q⟩,fun _ _ _ n _=>n,fun b ob q _=>⟨ob,k b ob q⟩,fun _ _ q=>q,fun _ _ _ q=>q,fun _ ps q=>⟨#[],by rw[q];simp⟩⟩
theorem Un.refl:Un fs ex H H h h:=Un.kept fun _ _ q=>q
theorem Un.laid(k:∀b u,h.get? b=some u->h'.get? b=some u)(hp:h.objs.size<=a)(hn:H a=none):Un fs ex H (upd H a o) h h' where
 keep:=fun b u q _ _ _=>k b u q
 slot:=fun b u q _ _ _=>⟨u.slots,k b u q⟩
 free:=fun b u q n _=>by rw[bg (Nat.ne_of_lt (Nat.lt_of_lt_of_le (Heap.lt_size q) hp))];exact n
 there:=fun b u q _=>⟨u,k b u q⟩
 tups:=fun b xs q=>by rw[bg (cH q hn)];exact q
 frzs:=fun b u xs q=>by rw[bg (cH q hn)];exact q
 tbls:=fun b ps q=>⟨#[],by rw[bg (cH q hn),q];simp⟩
theorem Un.write(mu:NC (H x))(he:e=x\/H e=some (.own x))(k:∀b u,b≠e->h.get? b=some u->h'.get? b=some u)(Hl:∃u,h'.get? e=some u):Un fs ex H (upd H x o) h h':=by
 have hx:∀b,H b=none->b≠x:=fun b n z=>by subst z;rw [n] at mu;exact mu
 have hb:∀b,H b=none->b≠e:=fun b n z=>by
  subst z;rcases he with r | r
  .exact hx b n r
  .rw [n] at r;cases r
 have hm:∀b u,H b=some u->¬NC (some u)->b≠x:=fun b u q nm z=>by subst z;rw [q] at mu;exact nm mu
 refine⟨fun b u q n _ _=>k b u (hb b n) q,fun b u q n _ _=>⟨u.slots,k b u (hb b n) q⟩,fun b u q n _=>by rw[bg (hx b n)];exact n,fun b u q _=>?_,
  fun b xs q=>by rw[bg (hm b _ q fun z=>z)];exact q,fun b u xs q=>by rw[bg (hm b _ q fun z=>z)];exact q,fun b ps q=>⟨#[],by rw[bg (hm b _ q fun z=>z),q];simp⟩⟩
 by_cases hbe:b=e
 .subst hbe;exact Hl
 .exact⟨u,k b u hbe q⟩
end
def Pe(h:Heap)(H:Hp):List Addr:=(List.range h.objs.size).filter fun a=>(H a).isSome
def xl(h:Heap)(H:Hp):Heap:=PySem.W.hideAll h (Pe h H)
theorem D3(h:Heap)(H:Hp):(xl h H).objs.size=h.objs.size:=PySem.W.hideAll_size _ _
theorem EI{h:Heap}{H:Hp}{b:Addr}{o:Obj}(e:h.get? b=some o)(n:H b=none):(xl h H).get? b=some o:=
 PySem.W.hideAll_get _ e fun hm=>by
  have q:(H b).isSome=true:=(List.mem_filter.mp hm).2;rw[n] at q;simp at q
theorem Ir{h:Heap}{H:Hp}{b:Addr}{o:Obj}(e:(xl h H).get? b=some o):h.get? b=some o/\H b=none:=by
 have e':h.get? b=some o:=PySem.W.of_hideAll (Pe h H) e;refine⟨e',?_⟩;cases q:H b with
 | none=>rfl
 | some x=>
   have hm:b∈Pe h H:=List.mem_filter.mpr ⟨List.mem_range.mpr (Heap.lt_size e'),by simp [q]⟩
   have z:(xl h H).get? b=none:=PySem.W.hideAll_none (Pe h H) hm;rw[z] at e;cases e
def HW(g h:Heap)(L:Addr):WH:=(List.range h.objs.size).filterMap fun a=>if a=L\/(g.get? a).isSome=true then none else(h.get? a).map fun o=>(a,o)
def rest(g h:Heap)(L d:Addr):WH:=(HW g h L).filter fun p=>decide (p.1≠d)
structure Mod (K:W.Frag) (mg:WM) (base:Heap):Prop where
 kin:K.In base
 glob:base.Ns mainGlobals mg
 blt:∃mb,base.Ns builtinsNs mb/\∀x:Str,x≠"__name__"->mb x=bootBuiltins x
 nolimit:base.NoLimit
structure Cx where
 prog:Program
 w:World
 K:W.Frag
 mg:WM
 base:Heap
 A:Around
 N:List Str
 s₀:Shared
 H₀:Hp
 env:Env
 outer:List Env
 stack:List Env
 ex:List Addr
 fn:Str->Bool
 calm:Bool
 pn:WH
 xe:WI
def Ee(l:List Env):List Addr:=l.filterMap (·.frame)
abbrev Cx.fs(X:Cx):List Addr:=Ee X.outer
def GK(sc:Scope)(x:Str):Prop:=sc.names.lookup x=some .local\/sc.names.lookup x=some .cell\/sc.names.lookup x=some .free
def Loc(sc:Scope)(x:Str):Prop:=sc.names.lookup x=some .local\/sc.names.lookup x=some .cell
def Look(env:Env)(h:Heap)(m:WM)(x:Str)(u:Value):Prop:=
 (env.kindOf x=some .local/\m x=some u)\/((env.kindOf x=some .cell\/env.kindOf x=some .free)/\∃c,env.cells.lookup x=some c/\h.IsCell c (some u))
structure Cx.Ok (X:Cx):Prop where
 mod:Mod X.K X.mg X.base
 kind:X.env.scope.kind= .function
 glob:X.env.globals=mainGlobals
 blt:X.env.builtins=builtinsNs
 above:X.s₀.heap.objs.size<=X.env.locals
 inj:∀x y c,X.env.cells.lookup x=some c->X.env.cells.lookup y=some c->x=y
 has:∀x,(X.env.kindOf x=some .cell\/X.env.kindOf x=some .free)->∃c,X.env.cells.lookup x=some c
 cab:∀x c,X.fn x=true->X.env.cells.lookup x=some c->X.s₀.heap.objs.size<=c
 hd:X.calm=true->X.A.handled=none
 frames:X.A.frames=some X.stack
 stk:X.stack=X.outer\/(X.stack=X.env ::X.outer/\X.env.frame=some X.env.locals)
 exf:∀b∈X.ex,b≠X.env.locals/\∀x c,X.env.cells.lookup x=some c->c≠b
 bs:∀b o,X.base.get? b=some o->X.s₀.heap.get? b=some o/\X.H₀ b=none
 bsz:X.base.objs.size<=X.s₀.heap.objs.size
 noex:∀b o,X.base.get? b=some o->b ∉ X.ex
 exfs:∀b∈X.ex,b ∉ X.fs
 sW:X.s₀.heap.FunFrames X.base X.outer
 frf:∀b∈X.fs,X.H₀ b=none
structure Inv (X:Cx) (pins:WH) (σ:List (Option V)) (H:Hp) (s:Shared):Prop where
 ok:X.Ok
 os:s.os=X.s₀.os
 bare:AllBare s.gens
 base:Un X.fs X.ex X.H₀ H X.s₀.heap s.heap
 loc:∃m,s.heap.Ns X.env.locals m/\∀(i:Nat) (x:Str) (v:V),X.N[i]? =some x->σ[i]? =some (some v)->GK X.env.scope x->∃u,RelV v u/\Look X.env s.heap m x u
 cell:∀x c,X.env.cells.lookup x=some c->∃v,s.heap.IsCell c v
 free:H X.env.locals=none
 freeC:∀x c,X.env.cells.lookup x=some c->H c=none
 pin:∀p∈X.pn++pins,s.heap.get? p.1=some p.2/\H p.1=none/\p.1≠X.env.locals/\p.1 ∉ X.fs/\∀v,p.2.data≠ .cell v
 hok:oq X.prog X.w H s.heap
 len:σ.length=X.N.length
section
variable {X:Cx} {pins:WH} {σ:List (Option V)} {H H':Hp} {s:Shared} {h':Heap}
theorem Cx.Ok.Qh(ok:X.Ok){b:Addr}{o:Obj}(e:X.base.get? b=some o):b ∉ X.fs:=fun hb=>by
 have:=(ok.sW.mem hb).1;rw[e] at this;cases this
theorem Inv.bs(I:Inv X pins σ H s):∀b o,X.base.get? b=some o->s.heap.get? b=some o/\H b=none:=fun b o e=>
 ⟨I.base.keep b o (I.ok.bs b o e).1 (I.ok.bs b o e).2 (I.ok.Qh e) (I.ok.noex b o e),I.base.free b o (I.ok.bs b o e).1 (I.ok.bs b o e).2 (I.ok.noex b o e)⟩
theorem Inv.bk(I:Inv X pins σ H s):∀b o,X.base.get? b=some o->s.heap.get? b=some o:=fun b o e=>(I.bs b o e).1
theorem Inv.mod(I:Inv X pins σ H s):Mod X.K X.mg X.base:=I.ok.mod
theorem Inv.Cn(I:Inv X pins σ H s):X.K.In s.heap:=I.ok.mod.kin.keeps I.bk
theorem Inv.lt(I:Inv X pins σ H s):X.env.locals < s.heap.objs.size:=let⟨_,hn,_⟩:=I.loc;hn.lt
theorem Inv.sz(I:Inv X pins σ H s):X.s₀.heap.objs.size<=s.heap.objs.size:=Nat.le_trans I.ok.above (Nat.le_of_lt I.lt)
theorem Inv.QK(I:Inv X pins σ H s){a:Addr}(h:s.heap.objs.size<=a):a ∉ X.fs:=fun hb=>by
 obtain⟨_,o,ho,_⟩:=I.ok.sW.mem hb;exact absurd (Nat.lt_of_lt_of_le (Heap.lt_size ho) (Nat.le_trans I.sz h)) (Nat.lt_irrefl _)
theorem Inv.Kw(I:Inv X pins σ H s):∀x c,X.env.cells.lookup x=some c->c≠X.env.locals:=fun x c e z=>by
 obtain⟨v,o,ho,hd⟩:=I.cell x c e;obtain⟨m,⟨o',es,ep,Mq,Ru,_⟩,_⟩:=I.loc;rw[z,Mq] at ho;cases ho;rw [Ru] at hd;cases hd
theorem Inv.sW(I:Inv X pins σ H s):s.heap.FunFrames X.base X.outer:=by
 have all:∀(l:List Env),(∀b∈Ee l,b∈X.fs)->X.s₀.heap.FunFrames X.base l->s.heap.FunFrames X.base l:=by
  intro l
  induction l with
  | nil=>intro _ _;trivial
  | cons env r ih=>
    intro hs hl;obtain⟨hk,⟨L,o,hf,hn,ho,hd⟩,hr⟩:=hl;have hL:L∈X.fs:=hs L (by unfold Ee;rw [List.filterMap_cons,hf];exact List.mem_cons_self)
    obtain⟨sl,e⟩:=I.base.slot L o ho (I.ok.frf L hL) hL fun z=>I.ok.exfs L z hL
    exact⟨hk,⟨L,_,hf,hn,e,hd⟩,ih (fun b hb=>hs b (by unfold Ee;rw [List.filterMap_cons,hf];exact List.mem_cons_of_mem _ hb)) hr⟩
 exact all X.outer (fun _ hb=>hb) I.ok.sW
theorem Inv.stack(I:Inv X pins σ H s):s.heap.FunFrames X.base X.stack:=by
 rcases I.ok.stk with e | ⟨e,hf⟩
 .rw [e];exact I.sW
 .rw [e];obtain⟨m,hn,_⟩:=I.loc;refine .cons (by rw[I.ok.kind];decide) hf hn ?_ I.sW
  exact Heap.get?_none_of_le (Nat.le_trans I.ok.bsz I.ok.above)
theorem Inv.Bb(I:Inv X pins σ H s):∀b∈Ee X.stack,b∈X.env.locals ::X.fs:=fun b hb=>by
 rcases I.ok.stk with e | ⟨e,hf⟩
 .rw [e] at hb;exact List.mem_cons_of_mem _ hb
 .rw [e] at hb;unfold Ee at hb;rw[List.filterMap_cons,hf] at hb;exact hb
theorem Inv.BO(I:Inv X pins σ H s):∀b∈Ee X.stack,H b=none:=fun b hb=>by
 rcases List.mem_cons.mp (I.Bb b hb) with e | hb
 .rw [e];exact I.free
 .obtain⟨_,o,ho,_⟩:=I.ok.sW.mem hb;exact I.base.free b o ho (I.ok.frf b hb) fun z=>I.ok.exfs b z hb
theorem Inv.step{g':Array GenState}{t':Nat}{d':Drawn}{ch:List Addr}(I:Inv X pins σ H s)
 (Hs:∀b∈ch,(b∈X.ex\/X.s₀.heap.objs.size<=b)/\b≠X.env.locals/\(∀x c,X.env.cells.lookup x=some c->c≠b)/\∀p∈X.pn++pins,p.1≠b)
 (keep:∀b o,b≠X.env.locals->b ∉ X.fs->b ∉ ch->s.heap.get? b=some o->H b=none->h'.get? b=some o)
 (slot:∀b o,b≠X.env.locals->b∈X.fs->b ∉ ch->s.heap.get? b=some o->H b=none->∃sl,h'.get? b=some {o with slots:=sl}) (free:∀b o,b ∉ ch->s.heap.get? b=some o->H b=none->H' b=none)
 (there:∀b o,b ∉ ch->s.heap.get? b=some o->∃o',h'.get? b=some o')
 (tups:∀b xs,H b=some (.tup xs)->H' b=some (.tup xs)) (frzs:∀b o u,H b=some (.kL o u)->H' b=some (.kL o u)) (tbls:∀b ps,H b=some (.tbl ps)->∃more,H' b=some (.tbl (ps++more)))
 (ns:∀m,s.heap.Ns X.env.locals m->h'.Ns X.env.locals m) (hok:oq X.prog X.w H' h') (hg:AllBare g') :
 Inv X pins σ H' {s with heap:=h',gens:=g',drawn:=d',toks:=t'}:=by
 have neL:∀b o,X.s₀.heap.get? b=some o->b≠X.env.locals:=fun b o e=>Nat.ne_of_lt (Nat.lt_of_lt_of_le (Heap.lt_size e) I.ok.above)
 have neC:∀b o,X.s₀.heap.get? b=some o->b ∉ X.ex->b ∉ ch:=fun b o e hx hb=>by
  rcases(Hs b hb).1 with z | z
  .exact hx z
  .exact absurd (Nat.lt_of_lt_of_le (Heap.lt_size e) z) (Nat.lt_irrefl _)
 have cellK:∀x c,X.env.cells.lookup x=some c->∀v,s.heap.IsCell c v->h'.IsCell c v:=fun x c e v ⟨o,ho,hd⟩=>by
  have nch:c ∉ ch:=fun z=>(Hs c z).2.2.1 x c e rfl
  by_cases hc:c∈X.fs
  .obtain⟨sl,q⟩:=slot c o (I.Kw x c e) hc nch ho (I.freeC x c e);exact⟨_,q,hd⟩
  .exact⟨o,keep c o (I.Kw x c e) hc nch ho (I.freeC x c e),hd⟩
 refine⟨I.ok,I.os,hg,⟨fun b o e n hb hx=>?_,fun b o e n hb hx=>?_,fun b o e n hx=>?_,fun b o e hx=>?_,fun b xs e=>tups b xs (I.base.tups b xs e),fun b o xs e=>frzs b o xs (I.base.frzs b o xs e),fun b ps e=>?_⟩,?_,fun x c e=>?_,?_,fun x c e=>?_,fun p hp=>?_,hok,I.len⟩
 .exact keep b o (neL b o e) hb (neC b o e hx) (I.base.keep b o e n hb hx) (I.base.free b o e n hx)
 .obtain⟨sl,e1⟩:=I.base.slot b o e n hb hx;obtain⟨Vk,e2⟩:=slot b _ (neL b o e) hb (neC b o e hx) e1 (I.base.free b o e n hx);exact⟨Vk,e2⟩
 .obtain⟨o',e1⟩:=I.base.there b o e hx;exact free b o' (neC b o e hx) e1 (I.base.free b o e n hx)
 .obtain⟨o',e1⟩:=I.base.there b o e hx;exact there b o' (neC b o e hx) e1
 .obtain⟨m1,e1⟩:=I.base.tbls b ps e;obtain⟨m2,e2⟩:=tbls b _ e1;exact⟨m1++m2,by rw[e2,Array.append_assoc]⟩
 .obtain⟨m,hn,hl⟩:=I.loc;refine⟨m,ns m hn,fun i x v e1 e2 e3=>?_⟩
  obtain⟨u,r,l⟩:=hl i x v e1 e2 e3;refine⟨u,r,?_⟩;rcases l with l | ⟨k,c,e,z⟩
  .exact .inl l
  .exact .inr ⟨k,c,e,cellK x c e _ z⟩
 .obtain⟨v,z⟩:=I.cell x c e;exact⟨v,cellK x c e v z⟩
 .obtain⟨m,⟨o,_,_,ho,_⟩,_⟩:=I.loc;exact free _ o (fun z=>(Hs _ z).2.1 rfl) ho I.free
 .obtain⟨v,o,ho,hd⟩:=I.cell x c e;exact free c o (fun z=>(Hs c z).2.2.1 x c e rfl) ho (I.freeC x c e)
 .obtain⟨e,n,ne,nf,d⟩:=I.pin p hp;have nch:p.1 ∉ ch:=fun z=>(Hs p.1 z).2.2.2 p hp rfl
  exact⟨keep p.1 p.2 ne nf nch e n,free p.1 p.2 nch e n,ne,nf,d⟩
theorem Inv.un{t':Nat}(I:Inv X pins σ H s)(u:Un X.fs [] H H' s.heap h')(hok:oq X.prog X.w H' h'):Inv X pins σ H' {s with heap:=h',toks:=t'}:=by
 obtain⟨m,⟨o,es,ep,ho,r⟩,_⟩:=id I.loc;obtain⟨sl,hL⟩:=u.any ho I.free (by simp)
 exact I.step (g':=s.gens) (d':=s.drawn) (ch:=[]) (fun _ z=>nomatch z) (fun b o _ hb _ e n=>u.keep b o e n hb (by simp)) (fun b o _ hb _ e n=>u.slot b o e n hb (by simp)) (fun b o _ e n=>u.free b o e n (by simp)) (fun b o _ e=>u.there b o e (by simp)) u.tups u.frzs u.tbls (fun m' hm=>by
  obtain⟨o',RS,Rx,Mq,r'⟩:=hm;rw[ho] at Mq;cases Mq;exact⟨_,RS,Rx,hL,r'⟩) hok I.bare
theorem Inv.call{g':Array GenState}{t':Nat}{d':Drawn}{ch:List Addr}(I:Inv X pins σ H s)(u:Un (Ee X.stack) ch H H' s.heap h')(hok:oq X.prog X.w H' h')(hg:AllBare g')
 (Hs:∀b∈ch,(b∈X.ex\/X.s₀.heap.objs.size<=b)/\b≠X.env.locals/\(∀x c,X.env.cells.lookup x=some c->c≠b)/\∀p∈X.pn++pins,p.1≠b) :
 Inv X pins σ H' {s with heap:=h',gens:=g',drawn:=d',toks:=t'}:=by
 obtain⟨m,⟨o,es,ep,ho,r⟩,_⟩:=id I.loc;obtain⟨sl,hL⟩:=u.any ho I.free fun z=>(Hs _ z).2.1 rfl
 exact I.step (ch:=ch) Hs (fun b o hL hb hc e n=>u.keep b o e n (fun z=>(List.mem_cons.mp (I.Bb b z)).elim hL hb) hc) (fun b o _ _ hc e n=>u.any e n hc) (fun b o hc e n=>u.free b o e n hc) (fun b o hc e=>u.there b o e hc) u.tups u.frzs u.tbls (fun m' hm=>by
  obtain⟨o',RS,Rx,Mq,r'⟩:=hm;rw[ho] at Mq;cases Mq;exact⟨_,RS,Rx,hL,r'⟩) hok hg
theorem Inv.turned{t':Nat}{it:Addr}(I:Inv X pins σ H s)(k:∀b o,b≠it->s.heap.get? b=some o->h'.get? b=some o)(hn:H it=none)(hL:it≠X.env.locals)
 (h1:it∈X.ex\/X.s₀.heap.objs.size<=it) (h2:∀x c,X.env.cells.lookup x=some c->c≠it) (h3:∀p∈X.pn++pins,p.1≠it):Inv X pins σ H {s with heap:=h',toks:=t'}:=by
 have nit:∀b u,H b=some u->b≠it:=fun b u e z=>by rw[z,hn] at e;cases e
 refine I.step (g':=s.gens) (d':=s.drawn) (ch:=[it]) (fun b hb=>?_) (fun b o _ _ hc e _=>k b o (fun z=>hc (by simp [z])) e) (fun b o _ _ hc e _=>⟨o.slots,k b o (fun z=>hc (by simp [z])) e⟩) (fun _ _ _ _ n=>n)
  (fun b o hc e=>⟨o,k b o (fun z=>hc (by simp [z])) e⟩) (fun _ _ e=>e) (fun _ _ _ e=>e) (fun b ps e=>⟨#[],by rw[e];simp⟩) (fun m hm=>?_) (fun b u e=>?_) I.bare
 .have e:b=it:=by simpa using hb
  subst e;exact⟨h1,hL,h2,h3⟩
 .obtain⟨o,es,ep,ho,r⟩:=hm;exact⟨o,es,ep,k _ o (Ne.symm hL) ho,r⟩
 .refine(I.hok b u e).xJ (fun c v hc q=>k c v ?_ q) (fun _ q=>q) fun _ _ q=>q
  rcases hc with z | z
  .rw [z];exact nit b u e
  .exact nit c _ z
theorem Inv.tok(I:Inv X pins σ H s)(t:Nat):Inv X pins σ H {s with toks:=t}:=I.un (h':=s.heap) (t':=t) Un.refl I.hok
theorem Inv.kept{t':Nat}(I:Inv X pins σ H s)(k:∀b u,s.heap.get? b=some u->h'.get? b=some u):Inv X pins σ H {s with heap:=h',toks:=t'}:=I.un (Un.kept k) (I.hok.kept k)
theorem Inv.laid{a:Addr}{o:HO}{t':Nat}(I:Inv X pins σ H s)(k:∀b u,s.heap.get? b=some u->h'.get? b=some u)(hp:s.heap.objs.size<=a)(new:eF X.prog X.w (upd H a o) h' a o) :
 Inv X pins σ (upd H a o) {s with heap:=h',toks:=t'}:=I.un (Un.laid k hp (I.hok.fresh hp)) (I.hok.laid k hp new)
theorem Inv.write{x e:Addr}{o:HO}{t':Nat}(I:Inv X pins σ H s)(mu:NC (H x))(he:e=x\/H e=some (.own x))(k:∀b u,b≠e->s.heap.get? b=some u->h'.get? b=some u)(Hl:∃u,h'.get? e=some u)
 (new:eF X.prog X.w (upd H x o) h' x o):Inv X pins σ (upd H x o) {s with heap:=h',toks:=t'}:=I.un (Un.write mu he k Hl) (I.hok.write mu he k Hl new)
theorem Inv.Bv{Ko:WH}(I:Inv X pins σ H s)(h:∀p∈Ko,s.heap.get? p.1=some p.2/\H p.1=none/\p.1≠X.env.locals/\p.1 ∉ X.fs/\∀v,p.2.data≠ .cell v):Inv X Ko σ H s:=
 ⟨I.ok,I.os,I.bare,I.base,I.loc,I.cell,I.free,I.freeC,fun p hp=>(List.mem_append.mp hp).elim (fun z=>I.pin p (List.mem_append_left _ z)) (h p),I.hok,I.len⟩
theorem yN{N:List Str}(hN:N.Nodup){i j:Nat}(a:N[i]? =some x)(b:N[j]? =some x):i=j:=by
 obtain⟨h1,e1⟩:=List.getElem?_eq_some_iff.mp a;obtain⟨h2,e2⟩:=List.getElem?_eq_some_iff.mp b;exact(List.getElem_inj hN).mp (e1.trans e2.symm)
theorem vX{M:Model}{A:Around}{E:WI}{i:Nat}{x:Str}{v:V}{u:Value}{Q:Unit->Shared->Prop}(I:Inv X pins σ H s)(hN:X.N.Nodup)(hi:X.N[i]? =some x)(hx:Loc X.env.scope x)(r:RelV v u)
 (h:∀s',Inv X pins (σ.set i (some v)) H s'->(∃a,Heap.SameBut a s.heap s'.heap/\(a=X.env.locals\/X.env.cells.lookup x=some a))->Q () s') (hf:X.fn x=true\/X.env.scope.names.lookup x=some .local:=by first | exact .inl rfl | exact .inr rfl | assumption):wpAny M A (storeName X.env x u) Q E s:=by
 obtain⟨m,hn,hl⟩:=id I.loc;have hcls:(X.env.scope.kind== .class || (X.env.scope.kind== .module && X.env.locals !=X.env.globals))=false:=by rw[I.ok.kind];rfl
 have hiσ:i < σ.length:=by rw[I.len];exact(List.getElem?_eq_some_iff.mp hi).1
 have Kw:=I.Kw;have tracked:∀{a:Addr} {h':Heap},(∃o,s.heap.get? a=some o/\H a=none)->Heap.SameBut a s.heap h'->oq X.prog X.w H h':=fun {a h'} ha hs b ob e=>by
  obtain⟨_,_,hfree⟩:=ha;refine(I.hok b ob e).xJ (fun c w' hc q=>(hs.2 c ?_).trans q) (fun _ q=>q) fun _ _ q=>q
  rintro rfl;rcases hc with rfl | hc
  .rw [hfree] at e;cases e
  .rw [hfree] at hc;cases hc
 rcases hx with hk | hk
 .refine wpAny_storeName_local hk hn (fun h' MB hs=>?_) hcls
  obtain⟨oL,_,_,hoL,_⟩:=id hn;refine h _ ⟨I.ok,I.os,I.bare,⟨fun b o e n hb hx=>?_,fun b o e n hb hx=>?_,I.base.free,fun b o e hx=>?_,I.base.tups,I.base.frzs,I.base.tbls⟩,⟨_,MB,fun j y v' e1 e2 e3=>?_⟩,fun y c e=>?_,I.free,I.freeC,fun p hp=>?_,tracked ⟨oL,hoL,I.free⟩ hs,by simpa using I.len⟩ ⟨_,hs, .inl rfl⟩
  .exact(hs.2 b (Nat.ne_of_lt (Nat.lt_of_lt_of_le (Heap.lt_size e) I.ok.above))).trans (I.base.keep b o e n hb hx)
  .obtain⟨sl,e1⟩:=I.base.slot b o e n hb hx;exact⟨sl,(hs.2 b (Nat.ne_of_lt (Nat.lt_of_lt_of_le (Heap.lt_size e) I.ok.above))).trans e1⟩
  .obtain⟨o',e1⟩:=I.base.there b o e hx;exact⟨o',(hs.2 b (Nat.ne_of_lt (Nat.lt_of_lt_of_le (Heap.lt_size e) I.ok.above))).trans e1⟩
  .by_cases hj:j=i
   .subst hj;rw[hi] at e1;cases e1;rw[List.getElem?_set_self hiσ] at e2;cases e2;exact⟨u,r, .inl ⟨hk,by simp⟩⟩
   .rw [List.getElem?_set_ne (Ne.symm hj)] at e2;obtain⟨u',r',q⟩:=hl j y v' e1 e2 e3;refine⟨u',r',?_⟩;rcases q with⟨k,e⟩ | ⟨k,c,e,z⟩
    .refine .inl ⟨k,?_⟩;have:y≠x:=fun e=>hj (yN hN e1 (e▸hi))
     simp [this,e]
    .exact .inr ⟨k,c,e,z.sameBut hs (Kw y c e)⟩
  .obtain⟨w',z⟩:=I.cell y c e;exact⟨w',z.sameBut hs (Kw y c e)⟩
  .obtain⟨e,n,ne,nf,d⟩:=I.pin p hp;exact⟨(hs.2 p.1 ne).trans e,n,ne,nf,d⟩
 .have hfn:X.fn x=true:=by
   rcases hf with z | z
   .exact z
   .rw [z] at hk;cases hk
  obtain⟨c,hc⟩:=I.ok.has x (.inl hk);obtain⟨w',z⟩:=I.cell x c hc;refine wpAny_storeName_cell I.ok.kind hk hc z (fun h' En hs=>?_)
  obtain⟨oc,hoc,hocd⟩:=id z;refine h {s with heap:=h'} ⟨I.ok,I.os,I.bare,⟨fun b o e n hb hx=>?_,fun b o e n hb hx=>?_,I.base.free,fun b o e hx=>?_,I.base.tups,I.base.frzs,I.base.tbls⟩,⟨m,hn.sameBut hs (Ne.symm (Kw x c hc)),fun j y v' e1 e2 e3=>?_⟩,fun y c' e=>?_,I.free,I.freeC,fun p hp=>?_,tracked ⟨oc,hoc,I.freeC x c hc⟩ hs,by simpa using I.len⟩ ⟨c,hs, .inr hc⟩
  .exact(hs.2 b (Nat.ne_of_lt (Nat.lt_of_lt_of_le (Heap.lt_size e) (I.ok.cab x c hfn hc)))).trans (I.base.keep b o e n hb hx)
  .obtain⟨sl,e1⟩:=I.base.slot b o e n hb hx;exact⟨sl,(hs.2 b (Nat.ne_of_lt (Nat.lt_of_lt_of_le (Heap.lt_size e) (I.ok.cab x c hfn hc)))).trans e1⟩
  .obtain⟨o',e1⟩:=I.base.there b o e hx;exact⟨o',(hs.2 b (Nat.ne_of_lt (Nat.lt_of_lt_of_le (Heap.lt_size e) (I.ok.cab x c hfn hc)))).trans e1⟩
  .by_cases hj:j=i
   .subst hj;rw[hi] at e1;cases e1;rw[List.getElem?_set_self hiσ] at e2;cases e2;exact⟨u,r, .inr ⟨.inl hk,c,hc,En⟩⟩
   .rw [List.getElem?_set_ne (Ne.symm hj)] at e2;obtain⟨u',r',q⟩:=hl j y v' e1 e2 e3;refine⟨u',r',?_⟩;rcases q with q | ⟨k,c',e,z'⟩
    .exact .inl q
    .refine .inr ⟨k,c',e,z'.sameBut hs ?_⟩;rintro rfl;exact hj (yN hN e1 (I.ok.inj _ _ _ e hc▸hi))
  .by_cases hcc:c'=c
   .subst hcc;exact⟨_,En⟩
   .obtain⟨w2,z2⟩:=I.cell y c' e;exact⟨w2,z2.sameBut hs hcc⟩
  .obtain⟨e,n,ne,nf,d⟩:=I.pin p hp;refine⟨(hs.2 p.1 ?_).trans e,n,ne,nf,d⟩;intro q;rw[q,hoc] at e;have q':oc=p.2:=Option.some.inj e;exact d w' (by rw[<-q'];exact hocd)
theorem yz{M:Model}{A:Around}{E:WI}{i:Nat}{x:Str}{v:V}{u:Value}{Q:Unit->Shared->Prop}(I:Inv X pins σ H s)(hN:X.N.Nodup)(hi:X.N[i]? =some x)(hx:Loc X.env.scope x)(r:RelV v u)
 (h:∀s',Inv X pins (σ.set i (some v)) H s'->Q () s') (hf:X.fn x=true\/X.env.scope.names.lookup x=some .local:=by first | exact .inl rfl | exact .inr rfl | assumption):wpAny M A (storeName X.env x u) Q E s:=
 vX I hN hi hx r (fun s' I' _=>h s' I') hf
theorem Inv.Nt{s':Shared}{ch:List Addr}(I:Inv X pins σ H s)(ho:s'.os=s.os)(u:Un (Ee X.stack) ch H H' s.heap s'.heap)(hok:oq X.prog X.w H' s'.heap)(hg:AllBare s'.gens)
 (Hs:∀b∈ch,(b∈X.ex\/X.s₀.heap.objs.size<=b)/\b≠X.env.locals/\(∀x c,X.env.cells.lookup x=some c->c≠b)/\∀p∈X.pn++pins,p.1≠b):Inv X pins σ H' s':=by
 obtain⟨h',g',d',t',o'⟩:=s';have e:o'=s.os:=ho;subst e;exact I.call (g':=g') (t':=t') (d':=d') u hok hg Hs
end
abbrev XK:=Value->Option Addr->Hp->Prop
abbrev St:=List (Option V)
abbrev VK:=V->Hp->Prop
abbrev TE:=St->Hp->VK->Prop
abbrev TT:=St->Hp->(Bool->Hp->Prop)->Prop
abbrev TA:=St->Hp->(List V->Hp->Prop)->Prop
structure Ends where
 nx:St->Hp->Prop
 rt:VK
 bk:St->Hp->Prop:=fun _ _=>False
 ct:St->Hp->Prop:=fun _ _=>False
abbrev TS:=Ends->St->Hp->Prop
def EP(X:Cx)(pins:WH)(σ:St)(Q:VK)(u:Value)(s':Shared):Prop:=∃v H',Inv X pins σ H' s'/\RelV v u/\Q v H'
def TP(X:Cx)(pins:WH)(σ:St)(Q:Bool->Hp->Prop)(b:Bool)(s':Shared):Prop:=∃H',Inv X pins σ H' s'/\Q b H'
def AP(X:Cx)(pins:WH)(σ:St)(Q:List V->Hp->Prop)(us:List Value)(s':Shared):Prop:=∃vs H',Inv X pins σ H' s'/\Vals vs us/\Q vs H'
def SP(X:Cx)(pins:WH)(D:Ends)(f:Flow)(s':Shared):Prop:=
 match f with
 | .next=>∃dy H',Inv X pins dy H' s'/\D.nx dy H'
 | .brk=>∃dy H',Inv X pins dy H' s'/\D.bk dy H'
 | .cont=>∃dy H',Inv X pins dy H' s'/\D.ct dy H'
 | .ret u=>∃v dy H',Inv X pins dy H' s'/\RelV v u/\D.rt v H'
def PE(X:Cx)(e:Expr)(t:TE):Prop:=
 ∀(pins:WH) (s:Shared) (σ:St) (H:Hp) (Q:VK),Inv X pins σ H s->t σ H Q->wpAny (model X.prog X.w) X.A (eval e X.env) (EP X pins σ Q) X.xe s
def PT(X:Cx)(e:Expr)(t:TT):Prop:=
 ∀(pins:WH) (s:Shared) (σ:St) (H:Hp) (Q:Bool->Hp->Prop),Inv X pins σ H s->t σ H Q->wpAny (model X.prog X.w) X.A (isTrue e X.env (eval e X.env)) (TP X pins σ Q) X.xe s
def PW(X:Cx)(e:Expr)(t:TT):Prop:=
 ∀(whole:Sem Value) (pins:WH) (s:Shared) (σ:St) (H:Hp) (Q:Bool->Hp->Prop),Inv X pins σ H s->t σ H Q->wpAny (model X.prog X.w) X.A (isTrue e X.env whole) (TP X pins σ Q) X.xe s
theorem PW.pt{X:Cx}{t:TT}(h:PW X e t):PT X e t:=h _
def PA(X:Cx)(es:List Expr)(t:TA):Prop:=
 ∀(pos:Pos) (pins:WH) (s:Shared) (σ:St) (H:Hp) (Q:List V->Hp->Prop),Inv X pins σ H s->t σ H Q->wpAny (model X.prog X.w) X.A (spliced (backTo pos (starEach es X.env))) (AP X pins σ Q) X.xe s
def PS(X:Cx)(st:Stmt)(t:TS):Prop:=
 ∀(pins:WH) (s:Shared) (σ:St) (H:Hp) (D:Ends),Inv X pins σ H s->t D σ H->wpAny (model X.prog X.w) X.A (exec st X.env) (SP X pins D) X.xe s
def ym(X:Cx)(st:List Stmt)(t:TS):Prop:=
 ∀(pins:WH) (s:Shared) (σ:St) (H:Hp) (D:Ends),Inv X pins σ H s->t D σ H->wpAny (model X.prog X.w) X.A (execs st X.env) (SP X pins D) X.xe s
theorem dH{α:Type}{t:Sem α}{Q Q':α->Shared->Prop}{M:Model}{E:WI}{s:Shared}(h:wpAny M A t Q E s)(hQ:∀a s,Q a s->Q' a s):wpAny M A t Q' E s:=wpAny_mono h hQ fun _ _ x=>x
section
variable {X:Cx}
def PL(i:Nat):TE:=fun σ H Q=>∃v,σ[i]? =some (some v)/\Q v H
def tC(v:V):TE:=fun _ H Q=>Q v H
theorem qJ{i:Nat}{pos:Pos}(hN:X.N[i]? =some x)(hv:GK X.env.scope x)(hd:(x==("__debug__":Str))=false:=by decide)(rK:(x==("__classdict__":Str))=false:=by decide):PE X (.Name x pos) (PL i):=by
 intro pins s σ H Q I h;obtain⟨v,e,h⟩:=h;obtain⟨m,hn,hl⟩:=I.loc;obtain⟨u,r,l⟩:=hl i x v hN e hv;have fin:EP X pins σ Q u s:=⟨v,H,I,r,h⟩;rcases l with⟨hk,hm⟩ | ⟨hk,c,hc,hcell⟩
 .exact wpAny_Name (wpAny_loadName_local I.ok.kind hk hn hm fin) hd
 .rcases hk with hk | hk
  .exact wpAny_Name (wpAny_loadName_cell I.ok.kind hk hc hcell fin) hd
  .exact wpAny_Name (wpAny_loadName_free I.ok.kind hk hc hcell fin rK) hd
theorem tR{i j pos}:PE X (.Constant (.int i) j pos) (tC (.int i)):=fun _ _ _ H _ I h=>wpAny_Constant_int ⟨.int i,H,I.tok _,⟨_,rfl⟩,h⟩
theorem Oj{b j pos}:PE X (.Constant (.bool b) j pos) (tC (.bl b)):=fun _ _ _ H _ I h=>Constant_bool ⟨.bl b,H,I,rfl,h⟩
theorem uN{x j pos}:PE X (.Constant (.str x) j pos) (tC (.str x)):=fun _ _ _ H _ I h=>Calls.Constant_str ⟨.str x,H,I.tok _,⟨_,rfl⟩,h⟩
def Gl(X:Cx)(x:Str):Prop:=X.env.kindOf x=some .globalImplicit
theorem xy{E:WI}{pins:WH}{s:Shared}{σ:St}{H:Hp}{x:Str}{u:Value}{pos:Pos}{Q:WI}(I:Inv X pins σ H s)(hg:Gl X x)(hm:X.mg x=some u)(h:Q u s)
 (hd:(x==("__debug__":Str))=false:=by decide):wpAny (model X.prog X.w) X.A (eval (.Name x pos) X.env) Q E s:=
 Calls.Name_function_global I.ok.kind hg (Calls.loadGlobal_global (by rw[I.ok.glob];exact I.mod.glob.keeps I.bk) hm h) hd
theorem jk{E:WI}{pins:WH}{s:Shared}{σ:St}{H:Hp}{x:Str}{u:Value}{pos:Pos}{Q:WI}(I:Inv X pins σ H s)(hg:Gl X x)(hm:X.mg x=none)(hv:bootBuiltins x=some u)(h:Q u s)
 (hn:x≠"__name__":=by decide) (hd:(x==("__debug__":Str))=false:=by decide):wpAny (model X.prog X.w) X.A (eval (.Name x pos) X.env) Q E s:=by
 obtain⟨mb,h1,h2⟩:=I.mod.blt;exact Calls.Name_function_global I.ok.kind hg (Calls.loadGlobal_builtin (by rw[I.ok.glob];exact I.mod.glob.keeps I.bk) hm (by rw[I.ok.blt];exact h1.keeps I.bk) ((h2 x hn).trans hv) h) hd
theorem II{v:V}{u:Value}{pos:Pos}(hg:Gl X x)(hm:X.mg x=some u)(r:RelV v u)(hd:(x==("__debug__":Str))=false:=by decide):PE X (.Name x pos) (tC v):=
 fun _ _ _ H _ I h=>xy I hg hm ⟨v,H,I,r,h⟩ hd
def Pd(ta tb:TE)(k:Int->Int->Hp->Prop):St->Hp->Prop:=fun σ H=>ta σ H fun x H1=>tb σ H1 fun y H2=>∃i j,x= .int i/\y= .int j/\k i j H2
def U5(ta tb:TE):TE:=fun σ H Q=>Pd ta tb (fun i j H2=>Q (.int (i+j)) H2) σ H
def Ui(ta tb:TE):TE:=fun σ H Q=>Pd ta tb (fun i j H2=>Q (.int (i - j)) H2) σ H
def Ua(ta tb:TE):TE:=fun σ H Q=>Pd ta tb (fun i j H2=>(-(2 ^ 64) < i/\i < 2 ^ 64)/\Q (.int (i*j)) H2) σ H
variable {a b:Expr} {ta tb:TE} {pos:Pos}
def PC(X:Cx)(op:CmpOp)(a b:Expr)(t:TE):Prop:=
 ∀(pins:WH) (s:Shared) (σ:St) (H:Hp) (Q:VK),Inv X pins σ H s->t σ H Q->
  wpAny (model X.prog X.w) X.A (eval a X.env) (fun v s₁=>wpAny (model X.prog X.w) X.A (eval b X.env) (fun u zU=>wpAny (model X.prog X.w) X.A (compareOp op v u) (EP X pins σ Q) X.xe zU) X.xe s₁) X.xe s
def DZ(p:Int->Int->Bool)(ta tb:TE):TE:=fun σ H Q=>Pd ta tb (fun i j H2=>Q (.bl (p i j)) H2) σ H
abbrev Wq:TE->TE->TE:=DZ fun i j=>decide (i < j)
abbrev Wl:TE->TE->TE:=DZ fun i j=>decide (i<=j)
abbrev V8:TE->TE->TE:=DZ fun i j=>decide (j < i)
abbrev Wi:TE->TE->TE:=DZ fun i j=>decide (j<=i)
abbrev UN:TE->TE->TE:=DZ fun i j=>decide (i=j)
abbrev UG:TE->TE->TE:=DZ fun i j=>!decide (i=j)
def TK(ta:TE):TE:=fun σ H Q=>ta σ H fun x H1=>Q (.bl (decide (x= .cX))) H1
def R9(ta:TE):TE:=fun σ H Q=>ta σ H fun x H1=>Q (.bl (!decide (x= .cX))) H1
def tB(t:TE):TT:=fun σ H Q=>t σ H fun x H1=>∃c,x= .bl c/\Q c H1
variable {tA Tu:TT} {rest:List Expr}
def Uq(t u:TT):TT:=fun σ H Q=>t σ H fun c H1=>if c=true then u σ H1 Q else Q false H1
def UK(t u:TT):TT:=fun σ H Q=>t σ H fun c H1=>if c=true then Q true H1 else u σ H1 Q
def Qw(t:TT):TT:=fun σ H Q=>t σ H fun c H1=>Q (!c) H1
theorem Ma(ha:PT X a tA):PW X (.BoolOp .Or [a] pos) tA:=by
 intro wh pins s σ H Q I h;refine isTrue_or (dH (ha pins s σ H Q I h) fun c s1 e=>?_)
 cases c with
 | false=>exact isTrue_or_nil e
 | true=>exact e
theorem OA(ha:PT X a tA)(hb:PW X (.BoolOp .Or (b ::rest) pos) Tu):PW X (.BoolOp .Or (a ::b ::rest) pos) (UK tA Tu):=by
 intro wh pins s σ H Q I h;refine isTrue_or (dH (ha pins s σ H _ I h) fun c s1 ⟨H1,I1,q1⟩=>?_)
 cases c with
 | true=>exact⟨H1,I1,q1⟩
 | false=>exact hb wh pins s1 σ H1 Q I1 q1
theorem La(ha:PT X a tA):PT X (.UnaryOp .Not a pos) (Qw tA):=by
 intro pins s σ H Q I h;exact isTrue_not (ha pins s σ H (fun c H1=>Q (!c) H1) I h)
def Ny(ta tb:TE):TE:=fun σ H Q=>ta σ H fun x H1=>∃c,x= .bl c/\if c=true then tb σ H1 Q else Q (.bl false) H1
def Ug(ta tb:TE):TE:=fun σ H Q=>ta σ H fun x H1=>∃c,x= .bl c/\if c=true then Q (.bl true) H1 else tb σ H1 Q
def SG(ta:TE):TE:=fun σ H Q=>ta σ H fun x H1=>∃c,x= .bl c/\Q (.bl (!c)) H1
theorem Kz{op}{t:TE}(h:PE X a t):PE X (.BoolOp op [a] pos) t:=fun pins s σ H Q I hw=>BoolOp_one (h pins s σ H Q I hw)
theorem Mb(ha:PE X a ta)(hb:PE X (.BoolOp .And (b ::rest) pos) tb):PE X (.BoolOp .And (a ::b ::rest) pos) (Ny ta tb):=by
 intro pins s σ H Q I h;refine BoolOp_and (dH (ha pins s σ H _ I h) fun v s1 ⟨x,H1,I1,r1,q1⟩=>?_)
 obtain⟨c,rfl,q1⟩:=q1;cases r1;refine wpAny_truthy_bool ?_;cases c with
 | true=>exact hb pins s1 σ H1 Q I1 q1
 | false=>exact⟨.bl false,H1,I1,rfl,q1⟩
def U0(t:TT)(ta tb:TE):TE:=fun σ H Q=>t σ H fun c H1=>if c=true then ta σ H1 Q else tb σ H1 Q
theorem GQ(hc:PT X c tA)(ha:PE X a ta)(hb:PE X b tb):PE X (.IfExp c a b pos) (U0 tA ta tb):=by
 intro pins s σ H Q I h;refine wpAny_IfExp (dH (hc pins s σ H _ I h) fun d s1 ⟨H1,I1,q1⟩=>?_)
 cases d with
 | true=>exact ha pins s1 σ H1 Q I1 q1
 | false=>exact hb pins s1 σ H1 Q I1 q1
end
def o8(K:W.Frag)(H:Hp)(a:Addr)(xs:List V):Prop:=
 Rd H a (.lst xs)\/
  ∃(o:Obj) (its:Array Value) (n:Nat),K.lookup a=some o/\o.cls= .type "list"/\o.dict=none/\o.data= .seq its n/\its.size<=sizeLine/\Vals xs its.toList
def sT(K:W.Frag)(H:Hp)(a:Addr)(xs:List V):Prop:=
 Rd H a (.tup xs)\/
  ∃(o:Obj) (its:Array Value) (n:Nat),K.lookup a=some o/\o.cls= .type "tuple"/\o.data= .seq its n/\its.size<=sizeLine/\Vals xs its.toList
def Qs:Value->Option V
 | .none=>some .cX
 | .bool b=>some (.bl b)
 | .int i _=>some (.int i)
 | .str x _=>some (.str x)
 | .bytes b _=>some (.byt b)
 | .float b _=>some (.flt b)
 | .ref a=>some (.ref a)
 | .type n=>some (.ty n)
 | _=>none
theorem RelV.abs{x:V}{u:Value}(r:RelV x u):Qs u=some x:=by
 cases x with
 | cX=>cases r;rfl
 | bl _=>cases r;rfl
 | int _=>obtain⟨t,rfl⟩:=r;rfl
 | str _=>obtain⟨t,rfl⟩:=r;rfl
 | byt _=>obtain⟨t,rfl⟩:=r;rfl
 | flt _=>obtain⟨t,rfl⟩:=r;rfl
 | ref _=>cases r;rfl
 | ty _=>cases r;rfl
theorem RelV.inj{x y:V}{u:Value}(r:RelV x u)(q:RelV y u):x=y:=Option.some.inj (r.abs.symm.trans q.abs)
theorem Vals.inj:∀{xs ys:List V} {us:List Value},Vals xs us->Vals ys us->xs=ys
 | _,_,_, .nil, .nil=>rfl
 | _,_,_, .cons r t, .cons r' t'=>by rw[r.inj r',Vals.inj t t']
section
variable {X:Cx} {pins:WH} {σ:St} {H:Hp} {s:Shared} {a:Addr} {xs ys:List V}
theorem o8.of{K:W.Frag}(h:H a=some (.lst xs)):o8 K H a xs:= .inl (.inl h)
theorem Inv.list(I:Inv X pins σ H s)(h:o8 X.K H a xs):∃its:List Value,Vals xs its/\PlainL s.heap a its.toArray/\xs.length<=sizeLine:=by
 rcases h with h | ⟨o,its,n,hk,hc,hd,hs,hz,r⟩
 .obtain⟨z,its,n,r,e⟩:=h.ok I.hok;exact⟨its,r,⟨_,n,e,rfl,rfl,rfl⟩,z⟩
 .refine⟨its.toList,r,⟨o,n,I.Cn a o hk,hc,hd,by simpa using hs⟩,?_⟩
  have e:=r.length;simp only[Array.length_toList] at e;omega
theorem Inv.tuple(I:Inv X pins σ H s)(h:sT X.K H a xs):∃its:List Value,Vals xs its/\IsTup s.heap a its.toArray/\xs.length<=sizeLine:=by
 rcases h with h | ⟨o,its,n,hk,hc,hs,hz,r⟩
 .obtain⟨z,its,r,p⟩:=h.ok I.hok;exact⟨its,r,p,z⟩
 .refine⟨its.toList,r,⟨o,I.Cn a o hk,hc,n,by simpa using hs⟩,?_⟩
  have e:=r.length;simp only[Array.length_toList] at e;omega
theorem Inv.qb(I:Inv X pins σ H s)(h:o8 X.K H a xs)(h':o8 X.K H a ys):xs=ys:=by
 obtain⟨its,r,⟨o,n,e,_,_,d⟩,_⟩:=I.list h;obtain⟨its',r',⟨o',n',e',_,_,d'⟩,_⟩:=I.list h';rw[e] at e';cases e';rw[d] at d';injection d' with d1 _
 have:its=its':=by simpa using congrArg Array.toList d1
 subst this;exact r.inj r'
theorem Inv.qS(I:Inv X pins σ H s)(h:sT X.K H a xs)(h':sT X.K H a ys):xs=ys:=by
 obtain⟨its,r,⟨o,e,_,n,d⟩,_⟩:=I.tuple h;obtain⟨its',r',⟨o',e',_,n',d'⟩,_⟩:=I.tuple h';rw[e] at e';cases e';rw[d] at d';injection d' with d1 _
 have:its=its':=by simpa using congrArg Array.toList d1
 subst this;exact r.inj r'
end
abbrev Cx.vL(X:Cx)(E:WI):Cx:={X with xe:=E}
abbrev Cx.Ig(X:Cx):Cx:=X.vL fun _ _=>False
theorem Cx.Ok.vL{X:Cx}(ok:X.Ok)(E:WI):(X.vL E).Ok:=
 ⟨ok.mod,ok.kind,ok.glob,ok.blt,ok.above,ok.inj,ok.has,ok.cab,ok.hd,ok.frames,ok.stk,ok.exf,ok.bs,ok.bsz,ok.noex,ok.exfs,ok.sW,ok.frf⟩
theorem Cx.Ok.m4{X:Cx}{E:WI}(ok:(X.vL E).Ok):X.Ok:=
 ⟨ok.mod,ok.kind,ok.glob,ok.blt,ok.above,ok.inj,ok.has,ok.cab,ok.hd,ok.frames,ok.stk,ok.exf,ok.bs,ok.bsz,ok.noex,ok.exfs,ok.sW,ok.frf⟩
section
variable {X:Cx} {pins:WH} {σ:St} {H:Hp} {s:Shared} {E:WI}
theorem Inv.vL(I:Inv X pins σ H s)(E:WI):Inv (X.vL E) pins σ H s:=⟨I.ok.vL E,I.os,I.bare,I.base,I.loc,I.cell,I.free,I.freeC,I.pin,I.hok,I.len⟩
theorem Inv.m4(I:Inv (X.vL E) pins σ H s):Inv X pins σ H s:=⟨I.ok.m4,I.os,I.bare,I.base,I.loc,I.cell,I.free,I.freeC,I.pin,I.hok,I.len⟩
theorem SP.m4{D:Ends}{f:Flow}{s':Shared}(h:SP (X.vL E) pins D f s'):SP X pins D f s':=by
 cases f with
 | next=>obtain⟨dy,H',I,q⟩:=h;exact⟨dy,H',I.m4,q⟩
 | brk=>obtain⟨dy,H',I,q⟩:=h;exact⟨dy,H',I.m4,q⟩
 | cont=>obtain⟨dy,H',I,q⟩:=h;exact⟨dy,H',I.m4,q⟩
 | ret u=>obtain⟨v,dy,H',I,r,q⟩:=h;exact⟨v,dy,H',I.m4,r,q⟩
theorem ym.Ig{st:List Stmt}{t:TS}(h:ym X.Ig st t):ym X st t:=fun pins s σ H D I hw=>
 wpAny_mono (h pins s σ H D (I.vL _) hw) (fun _ _ q=>q.m4) fun _ _ z=>False.elim z
end
section
variable {X:Cx} {st:Stmt} {rest:List Stmt} {t u:TS} {e:Expr} {te:TE} {pos:Pos}
def Oy:TS:=fun D σ H=>D.nx σ H
def Ox(t u:TS):TS:=fun D σ H=>t {D with nx:=u D} σ H
theorem Cj:ym X [] Oy:=fun _ _ σ H _ I h=>wpAny_execs_nil ⟨σ,H,I,h⟩
theorem yr(h1:PS X st t)(h2:ym X rest u):ym X (st ::rest) (Ox t u):=by
 intro pins s σ H D I h;refine wpAny_execs_cons (dH (h1 pins s σ H {D with nx:=u D} I h) fun f s1 q=>?_)
 cases f with
 | next=>
   obtain⟨dy,H',I',q⟩:=q;exact h2 pins s1 dy H' D I' q
 | ret v=>exact q
 | brk=>exact q
 | cont=>exact q
theorem Co(h1:PS X st t):ym X [st] t:=by
 intro pins s σ H D I h;refine wpAny_execs_cons (dH (h1 pins s σ H D I h) fun f s1 q=>?_)
 cases f with
 | next=>exact wpAny_execs_nil q
 | ret v=>exact q
 | brk=>exact q
 | cont=>exact q
def QL:TS:=fun D σ H=>D.bk σ H
def R_:TS:=fun D σ H=>D.ct σ H
theorem Inv.quiet{pins:WH}{s:Shared}(I:Inv X pins σ H s):interactive X.env=false:=by simp [interactive,I.ok.kind]
def M0(te:TE):TS:=fun D σ H=>te σ H fun _ H1=>D.nx σ H1
theorem qf(he:PE X e te)(hs:swapsWith e none pos.line X.env=pure false:=by rfl):PS X (.Expr e pos) (M0 te):=by
 intro pins s σ H D I h;exact wpAny_Expr_any (dH (he pins s σ H _ I h) fun v s1 ⟨x,H1,I1,r1,q1⟩=>⟨σ,H1,I1,q1⟩) I.quiet hs
def Qn(te:TE):TS:=fun D σ H=>te σ H D.rt
theorem G3(he:PE X e te):PS X (.Return (some e) pos) (Qn te):=by
 intro pins s σ H D I h;exact wpAny_Return_some (dH (he pins s σ H _ I h) fun v s1 ⟨x,H1,I1,r1,q1⟩=>⟨x,σ,H1,I1,r1,q1⟩)
def Sv:TS:=fun D _ H=>D.rt .cX H
def PR(c:TT)(t u:TS):TS:=fun D σ H=>c σ H fun b H1=>if b=true then t D σ H1 else u D σ H1
theorem Ka{tc:TT}(hc:PT X c tc)(ha:ym X a t)(hb:ym X b u):PS X (.If c a b pos) (PR tc t u):=by
 intro pins s σ H D I h;refine wpAny_If (dH (hc pins s σ H _ I h) fun d s1 ⟨H1,I1,q1⟩=>?_)
 cases d with
 | true=>exact ha pins s1 σ H1 D I1 q1
 | false=>exact hb pins s1 σ H1 D I1 q1
def QI:TS:=fun _ _ _=>False
end
abbrev TG:=V->St->Hp->(St->Hp->Prop)->Prop
abbrev EL:=List V->St->Hp->(St->Hp->Prop)->Prop
def PG(X:Cx)(target:Expr)(t:TG):Prop:=
 ∀(pins:WH) (s:Shared) (σ:St) (H:Hp) (v:V) (u:Value) (Q:St->Hp->Prop),Inv X pins σ H s->RelV v u->t v σ H Q->
  wpAny (model X.prog X.w) X.A (assign target X.env u) (fun _ s'=>∃dy H',Inv X pins dy H' s'/\Q dy H') X.xe s
def Jn(X:Cx)(ts:List Expr)(t:EL):Prop:=
 ∀(pins:WH) (s:Shared) (σ:St) (H:Hp) (vs:List V) (us:List Value) (Q:St->Hp->Prop),Inv X pins σ H s->Vals vs us->t vs σ H Q->
  wpAny (model X.prog X.w) X.A (assignInOrder ((assignEach ts X.env).map (·.2)) us) (fun _ s'=>∃dy H',Inv X pins dy H' s'/\Q dy H') X.xe s
abbrev IV:=V->V->V->Hp->(Hp->Prop)->Prop
def N_(X:Cx)(t:IV):Prop:=
 ∀(pins:WH) (s:Shared) (σ:St) (H:Hp) (o i v:V) (ov iv u:Value) (Q:Hp->Prop),Inv X pins σ H s->RelV o ov->RelV i iv->RelV v u->t o i v H Q->
  wpAny (model X.prog X.w) X.A (setItem ov iv u) (fun _ s'=>∃H',Inv X pins σ H' s'/\Q H') X.xe s
abbrev Pg:=V->V->Hp->VK->Prop
def V5(X:Cx)(op:Operator)(t:Pg):Prop:=
 ∀(pins:WH) (s:Shared) (σ:St) (H:Hp) (x y:V) (v u:Value) (Q:VK),Inv X pins σ H s->RelV x v->RelV y u->t x y H Q->
  wpAny (model X.prog X.w) X.A (inplaceOp op v u) (EP X pins σ Q) X.xe s
section
variable {X:Cx} {pos:Pos}
def ve(i:Nat):TG:=fun v σ H Q=>Q (σ.set i (some v)) H
theorem Bp{i:Nat}(hN:X.N.Nodup)(hi:X.N[i]? =some x)(hx:Loc X.env.scope x)(hf:X.fn x=true\/X.env.scope.names.lookup x=some .local:=by first | exact .inl rfl | exact .inr rfl | assumption):PG X (.Name x pos) (ve i):=by
 intro pins s σ H v u Q I r h;exact wpAny_assign_Name (yz I hN hi hx r (fun s' I'=>⟨_,H,I',h⟩) hf)
def Q1:EL:=fun vs σ H Q=>vs=[]/\Q σ H
def Oo(t:TG)(u:EL):EL:=fun vs σ H Q=>∃v r,vs=v ::r/\t v σ H fun dy H'=>u r dy H' Q
theorem Bw:Jn X [] Q1:=by
 intro pins s σ H vs us Q I r h;obtain⟨e,h⟩:=h;subst e;cases r;exact assignInOrder_nil ⟨σ,H,I,h⟩
theorem y7{e:Expr}{es:List Expr}{t:TG}{u:EL}(h1:PG X e t)(h2:Jn X es u)
 (hs:(assignEach (e ::es) X.env).map (·.2)=assign e X.env ::(assignEach es X.env).map (·.2):=by rfl):Jn X (e ::es) (Oo t u):=by
 intro pins s σ H vs us Q I r h;obtain⟨v,vr,e1,h⟩:=h;subst e1;cases r with
 | cons r rr=>
   rw[hs];refine assignInOrder_cons (dH (h1 pins s σ H _ _ _ I r h) fun _ s1 ⟨OP,H1,I1,q1⟩=>?_)
   exact h2 pins s1 OP H1 _ _ Q I1 rr q1
def Q4(K:W.Frag)(n:Nat)(t:EL):TG:=fun v σ H Q=>∃a xs,v= .ref a/\sT K H a xs/\xs.length=n/\t xs σ H Q
theorem EJ{es:List Expr}{k:Nat}{t:EL}{n:Nat}(hc:X.calm=true)(h:Jn X es t)
 (hn:(assignEach es X.env).length=n:=by rfl) (D_:(assignEach es X.env).findIdx? (·.1)=none:=by rfl):PG X (.Tuple es k pos) (Q4 X.K n t):=by
 intro pins s σ H v u Q I r hw;obtain⟨a,xs,e1,hq,hl,hw⟩:=hw;subst e1;cases r;obtain⟨its,rv,ht,hz⟩:=I.tuple hq;refine assign_Tuple_tuple (I.ok.hd hc) ht (by simp [hn,<-hl,rv.length]) D_ fun h' hx=>?_
 have I1:Inv X pins σ H {s with heap:=h'}:=I.kept (t':=s.toks) fun b o e=>hx b o (Nat.ne_of_lt (Heap.lt_size e)) e
 exact h pins _ σ H xs _ Q I1 (by simpa using rv) hw
def ND(to ti:TE)(t:IV):TG:=fun v σ H Q=>to σ H fun o H1=>ti σ H1 fun i H2=>t o i v H2 fun H3=>Q σ H3
theorem Ey{o i:Expr}{to ti:TE}{t:IV}(ho:PE X o to)(hi:PE X i ti)(hs:N_ X t)
 (ha:∀v,assign (.Subscript o i pos) X.env v=(do
   let ov <-holding [v] (eval o X.env)
   let iv <-holding [v,ov] (eval i X.env)
   standAt pos
   holding [v,ov,iv] (setItem ov iv v)
   release [v,ov,iv] []):=by intro _;rfl):PG X (.Subscript o i pos) (ND to ti t):=by
 intro pins s σ H v u Q I r h;rw[ha];refine wpAny_bind (wpAny_holding (dH (ho pins s σ H _ I h) fun ov s1 ⟨x,H1,I1,r1,q1⟩=>?_))
 refine wpAny_bind (wpAny_holding (dH (hi pins s1 σ H1 _ I1 q1) fun iv s2 ⟨y,H2,I2,r2,q2⟩=>?_))
 refine wpAny_bind (wpAny_standAt (wpAny_bind (wpAny_holding (dH (hs pins s2 σ H2 x y v ov iv u _ I2 r1 r2 r q2) fun _ s3 ⟨H3,I3,q3⟩=>?_))))
 exact wpAny_release ⟨σ,H3,I3,q3⟩
def Df(te:TE)(g:TG):TS:=fun D σ H=>te σ H fun x H1=>g x σ H1 D.nx
theorem Li{tg e:Expr}{te:TE}{g:TG}(he:PE X e te)(hg:PG X tg g)(hs:swapsWithSole [tg] e pos.line X.env=pure false:=by rfl)(hw:swappedStores [tg] e X.env=pure none:=by rfl)
 (h1:(assignEach [tg] X.env).map (·.2)=[assign tg X.env]:=by rfl):PS X (.Assign [tg] e pos) (Df te g):=by
 intro pins s σ H D I h;refine wpAny_Assign_stores (dH (he pins s σ H _ I h) fun v s1 ⟨x,H1,I1,r1,q1⟩=>?_) hs hw
 rw[h1];exact dH (hg pins s1 σ H1 x v _ I1 r1 q1) fun _ s2 q=>q
theorem AR{i:Nat}{te:TE}(hN:X.N.Nodup)(hi:X.N[i]? =some x)(hx:Loc X.env.scope x)(he:PE X e te)(hs:swapsWith e (some (.Name x pos')) pos.line X.env=pure false:=by rfl)(hf:X.fn x=true\/X.env.scope.names.lookup x=some .local:=by first | exact .inl rfl | exact .inr rfl | assumption) :
 PS X (.Assign [.Name x pos'] e pos) (Df te (ve i)):=by
 intro pins s σ H D I h;refine wpAny_Assign_Name (dH (he pins s σ H _ I h) fun v s1 ⟨y,H1,I1,r1,q1⟩=>?_) hs
 exact yz I1 hN hi hx r1 (fun s2 I2=>⟨_,H1,I2,q1⟩) hf
def Uu(i j:Nat)(ta:TA):TS:=fun D σ H=>ta σ H fun vs H1=>∃v w,vs=[v,w]/\D.nx ((σ.set i (some v)).set j (some w)) H1
def Uz(i:Nat)(te:TE)(ti:Pg):TS:=fun D σ H=>∃x,σ[i]? =some (some x)/\te σ H fun y H1=>ti x y H1 fun z H2=>D.nx (σ.set i (some z)) H2
def R1(to ti te:TE)(Rv:V->V->Hp->VK->Prop)(VW:Pg)(RW:IV):TS:=fun D σ H=>to σ H fun o H1=>ti σ H1 fun i H2=>Rv o i H2 fun x H3=>te σ H3 fun y H4=>VW x y H4 fun z H5=>RW o i z H5 fun H6=>D.nx σ H6
def U1(X:Cx)(t:V->V->Hp->VK->Prop):Prop:=
 ∀(pins:WH) (s:Shared) (σ:St) (H:Hp) (o i:V) (ov iv:Value) (Q:VK),Inv X pins σ H s->RelV o ov->RelV i iv->t o i H Q->
  wpAny (model X.prog X.w) X.A (getItem ov iv) (EP X pins σ Q) X.xe s
def V6(f:Int->Int->Int):Pg:=fun x y H Q=>∃i j,x= .int i/\y= .int j/\Q (.int (f i j)) H
end
section
variable {X:Cx} {pos:Pos}
def Q0(c:TT)(tb:TS):TS:=fun D σ H=>∃W:Nat->St->Hp->Prop,(∃m,W m σ H)/\∀m σ H,W m σ H->
 c σ H fun b H1=>if b=true then ∃N:St->Hp->Prop,(∀dy H',N dy H'->∃m',m' < m/\W m' dy H')/\tb {D with nx:=N,ct:=N,bk:=D.nx} σ H1 else D.nx σ H1
end
structure It where
 go:Nat->Hp->Prop
 yld:Nat->Hp->V->Hp->Prop
 stop:Nat->Hp->Prop
def sN(X:Cx)(pins:WH)(H:Hp)(b:Addr):Prop:=
 H b=none/\b≠X.env.locals/\b ∉ X.fs/\(b∈X.ex\/X.s₀.heap.objs.size<=b)/\(∀x c,X.env.cells.lookup x=some c->c≠b)/\∀p∈X.pn++pins,p.1≠b
theorem Inv.x4{X:Cx}{pins:WH}{H H':Hp}{s:Shared}{b:Addr}(I:Inv X pins σ H s)(hb:s.heap.objs.size<=b)(hn:H' b=none):sN X pins H' b:=by
 refine⟨hn,Nat.ne_of_gt (Nat.lt_of_lt_of_le I.lt hb),I.QK hb, .inr (Nat.le_trans I.sz hb),fun x c e z=>?_,fun p hp z=>?_⟩
 .obtain⟨v,q⟩:=I.cell x c e;exact absurd (Nat.lt_of_lt_of_le q.lt (by rw[z];exact hb)) (Nat.lt_irrefl _)
 .exact absurd (Nat.lt_of_lt_of_le (Heap.lt_size (I.pin p hp).1) (by rw[z];exact hb)) (Nat.lt_irrefl _)
structure Turn (P:Program) (w:World) (K:W.Frag) (tg:Expr) (J:It) (fp:List Addr) (it:Addr) (tn:Nat->Heap->Prop):Prop where
 mem:it∈fp
 obj:∀i h,tn i h->∀b∈fp,∃o,h.get? b=some o/\∀v,o.data≠ .cell v
 keep:∀i h h',tn i h->(∀b∈fp,∀o,h.get? b=some o->h'.get? b=some o)->tn i h'
 item:∀(X:Cx),X.prog=P->X.w=w->X.K=K->X.calm=true->∀(i:Nat) (pins:WH) (s:Shared) (σ:St) (H:Hp) (E:WI),Inv X pins σ H s->(∀b∈fp,sN X pins H b)->tn i s.heap->J.go i H->
  wpAny (model P w) X.A (pyNext (.ref it)) (fun r s1=>∃u,r=some u/\
   wpAny (model P w) X.A (letOwnedTupleGo tg (.ref it) u) (fun _ s2=>∃x H',Inv X pins σ H' s2/\RelV x u/\J.yld i H x H'/\tn (i+1) s2.heap/\∀b∈fp,H' b=none) E s1) E s
 done:∀(X:Cx),X.prog=P->X.w=w->X.K=K->X.calm=true->∀(i:Nat) (pins:WH) (s:Shared) (σ:St) (H:Hp) (E:WI),Inv X pins σ H s->(∀b∈fp,sN X pins H b)->tn i s.heap->J.stop i H->
  wpAny (model P w) X.A (pyNext (.ref it)) (fun r s1=>r=none/\Inv X pins σ H s1) E s
 self:∀(A:Around) (i:Nat) (s:Shared) (Q:WI) (E:WI),tn i s.heap->Q (.ref it) s->wpAny (model P w) A (pyIter (.ref it)) Q E s
abbrev TI:=St->Hp->(It->Hp->Prop)->Prop
def SY(X:Cx)(pins:WH)(σ:St)(tg:Expr)(R:It->Hp->Prop)(Py:Value)(s2:Shared):Prop:=
 ∃(it:Addr) (fp:List Addr) (tn:Nat->Heap->Prop) (J:It) (H':Hp),Py= .ref it/\Inv X pins σ H' s2/\Turn X.prog X.w X.K tg J fp it tn/\tn 0 s2.heap/\(∀b∈fp,sN X pins H' b)/\R J H'
def PI(X:Cx)(tg iter:Expr)(wi:TI):Prop:=
 ∀(pins:WH) (s:Shared) (σ:St) (H:Hp) (R:It->Hp->Prop),Inv X pins σ H s->wi σ H R->
  wpAny (model X.prog X.w) X.A (eval iter X.env) (fun v s1=>wpAny (model X.prog X.w) X.A (pyIter v) (SY X pins σ tg R) X.xe s1) X.xe s
theorem BV{M:Model}{A:Around}{E:WI}{s:Shared}{tg:Expr}{it:Addr}{u:Value}{o:Obj}{n:String}{vs:Array Value}{Q:Unit->Shared->Prop}(ho:s.heap.get? it=some o)(hc:o.cls= .type n)(hd:o.data= .fields vs)
 (hn:["enumerate","zip","dict_itemiterator","dict_reverseitemiterator","odict_iterator","itertools.zip_longest","itertools.pairwise"].contains n=false) (hQ:Q () s):wpAny M A (letOwnedTupleGo tg (.ref it) u) Q E s:=by
 unfold letOwnedTupleGo;cases tg <;> first
  | exact wpAny_pure hQ
  | (cases u <;> first
      | exact wpAny_pure hQ
      | (refine wpAny_bind (wpAny_load ho ?_)
         rw[hc,hd];show wpAny M A (if(["enumerate","zip","dict_itemiterator","dict_reverseitemiterator","odict_iterator","itertools.zip_longest","itertools.pairwise"].contains n && vs[0]? ==some (rawInt _))=true then _ else _) Q E s
         rw[if_neg (by intro h;rw [hn,Bool.false_and] at h;cases h)]
         exact wpAny_pure hQ))
def SH(K:W.Frag)(a:Addr):It:=
 ⟨fun i H=>∃xs x,o8 K H a xs/\xs[i]? =some x,fun i H x H'=>H'=H/\∀xs,o8 K H a xs->xs[i]? =some x,fun i H=>∃xs,o8 K H a xs/\xs.length<=i⟩
def Se(K:W.Frag)(a:Addr):It:=
 ⟨fun i H=>∃xs x,sT K H a xs/\xs[i]? =some x,fun i H x H'=>H'=H/\∀xs,sT K H a xs->xs[i]? =some x,fun i H=>∃xs,sT K H a xs/\xs.length<=i⟩
def Om(lo:Int)(n:Nat):It:=⟨fun i _=>i < n,fun i H x H'=>H'=H/\x= .int (lo+i),fun i _=>n<=i⟩
theorem Du{K:W.Frag}(a it:Addr):Turn P w K tg (SH K a) [it] it (fun i h=>h.IsListIter it a i) where
 mem:=by simp
 obj:=fun i h st b hb=>by
  have e:b=it:=by simpa using hb
  subst e;obtain⟨o,e,c,d⟩:=st;exact⟨o,e,fun v z=>by rw[d] at z;cases z⟩
 keep:=fun i h h' st k=>st.at fun o e=>k it (by simp) o e
 item:=by
  intro X hP hw hK hc i pins s σ H E I hf st hg;subst hP hw hK;obtain⟨xs,x,hq,hx⟩:=hg;obtain⟨its,rv,p,hz⟩:=I.list hq;obtain⟨u,hu,ru⟩:=rv.get hx;obtain⟨f0,f1,f2,f3,f4,f5⟩:=hf it (by simp)
  refine wpAny_pyNext_list_item st p.isList (x:=u) (by simpa using hu) fun h' G9 sb=>?_
  have I1:Inv X pins σ H {s with heap:=h'}:=I.turned (t':=s.toks) (fun b o hb e=>(sb.2 b hb).trans e) f0 f1 f3 f4 f5
  obtain⟨o,e,c,d⟩:=id G9;exact⟨u,rfl,BV (s:={s with heap:=h'}) e c d (by decide) ⟨x,H,I1,ru,⟨rfl,fun ys hy=>by rw[I.qb hy hq];exact hx⟩,G9,fun b hb=>(hf b hb).1⟩⟩
 done:=by
  intro X hP hw hK hc i pins s σ H E I hf st hg;subst hP hw hK;obtain⟨xs,hq,hx⟩:=hg;obtain⟨its,rv,p,hz⟩:=I.list hq;obtain⟨f0,f1,f2,f3,f4,f5⟩:=hf it (by simp)
  have hl:=rv.length;exact wpAny_pyNext_list_end (I.ok.hd hc) st p.isList (by simp;omega) fun h' eb=>⟨rfl,I.turned (t':=s.toks) (fun b o hb e=>eb b o hb e) f0 f1 f3 f4 f5⟩
 self:=fun _ _ _ _ _ st h=>wpAny_pyIter_listiter st h
theorem z7{K:W.Frag}(a it:Addr):Turn P w K tg (Se K a) [it] it (fun i h=>h.IsTupleIter it a i) where
 mem:=by simp
 obj:=fun i h st b hb=>by
  have e:b=it:=by simpa using hb
  subst e;obtain⟨o,e,c,d⟩:=st;exact⟨o,e,fun v z=>by rw[d] at z;cases z⟩
 keep:=fun i h h' st k=>st.at fun o e=>k it (by simp) o e
 item:=by
  intro X hP hw hK hc i pins s σ H E I hf st hg;subst hP hw hK;obtain⟨xs,x,hq,hx⟩:=hg;obtain⟨its,rv,p,hz⟩:=I.tuple hq;obtain⟨u,hu,ru⟩:=rv.get hx;obtain⟨f0,f1,f2,f3,f4,f5⟩:=hf it (by simp)
  refine wpAny_pyNext_tuple_item st (show s.heap.IsTuple a its.toArray from p) (x:=u) (by simpa using hu) fun h' G9 sb=>?_
  have I1:Inv X pins σ H {s with heap:=h'}:=I.turned (t':=s.toks) (fun b o hb e=>(sb.2 b hb).trans e) f0 f1 f3 f4 f5
  obtain⟨o,e,c,d⟩:=id G9;exact⟨u,rfl,BV (s:={s with heap:=h'}) e c d (by decide) ⟨x,H,I1,ru,⟨rfl,fun ys hy=>by rw[I.qS hy hq];exact hx⟩,G9,fun b hb=>(hf b hb).1⟩⟩
 done:=by
  intro X hP hw hK hc i pins s σ H E I hf st hg;subst hP hw hK;obtain⟨xs,hq,hx⟩:=hg;obtain⟨its,rv,p,hz⟩:=I.tuple hq;obtain⟨f0,f1,f2,f3,f4,f5⟩:=hf it (by simp)
  have hl:=rv.length;exact wpAny_pyNext_tuple_end (I.ok.hd hc) st (show s.heap.IsTuple a its.toArray from p) (by simp;omega) fun h' eb=>⟨rfl,I.turned (t':=s.toks) (fun b o hb e=>eb b o hb e) f0 f1 f3 f4 f5⟩
 self:=fun _ _ _ _ _ st h=>wpAny_pyIter_tupleiter st h
theorem AI{K:W.Frag}(it:Addr)(lo:Int)(n:Nat):Turn P w K tg (Om lo n) [it] it (fun i h=>IsRangeIter h it (lo+(i:Nat)*1) ((n:Int) - (i:Nat)) 1) where
 mem:=by simp
 obj:=fun i h st b hb=>by
  have e:b=it:=by simpa using hb
  subst e;exact⟨_,st,fun v z=>by
   have z':Data.fields _=Data.cell v:=z;cases z'⟩
 keep:=fun i h h' st k=>k it (by simp) _ st
 item:=by
  intro X hP hw hK hc i pins s σ H E I hf st hg;subst hP hw hK;obtain⟨f0,f1,f2,f3,f4,f5⟩:=hf it (by simp)
  have W:=Walks.range (prog:=X.prog) (w:=X.w) (I.ok.hd hc) it lo 1 n;refine W.item i s _ _ hg st fun v h' tk hv G9 kk=>?_
  obtain⟨t,rfl⟩:=hv;have I1:Inv X pins σ H {s with heap:=h',toks:=tk}:=I.turned (fun b o hb e=>kk b o (by simpa using hb) e) f0 f1 f3 f4 f5
  refine⟨_,rfl,BV (s:={s with heap:=h',toks:=tk}) (n:="range_iterator") G9 rfl rfl (by decide) ⟨.int (lo+i),H,I1,⟨t,?_⟩,⟨rfl,rfl⟩,G9,fun b hb=>(hf b hb).1⟩⟩
  rw[Int.mul_one]
 done:=by
  intro X hP hw hK hc i pins s σ H E I hf st hg;subst hP hw hK;obtain⟨f0,f1,f2,f3,f4,f5⟩:=hf it (by simp)
  exact wpAny_pyNext_range_end (I.ok.hd hc) st (by have:n<=i:=hg;omega) fun h' eb=>⟨rfl,I.turned (t':=s.toks) (fun b o hb e=>eb b o hb e) f0 f1 f3 f4 f5⟩
 self:=fun _ _ _ _ _ st h=>wpAny_pyIter_rangeiter st h
section
variable {X:Cx} {tg:Expr}
def Sg(K:W.Frag)(tl:TE):TI:=fun σ H R=>tl σ H fun x H1=>∃a,x= .ref a/\(∃xs,o8 K H1 a xs)/\R (SH K a) H1
def QM(K:W.Frag)(tl:TE):TI:=fun σ H R=>tl σ H fun x H1=>∃a,x= .ref a/\(∃xs,sT K H1 a xs)/\R (Se K a) H1
theorem yQ{pins:WH}{σ:St}{H:Hp}{s:Shared}{R:It->Hp->Prop}{E:WI}{lo hi:Int}{t u v:Tok}{tk:Nat}(I:Inv X pins σ H s)(h1: -(2 ^ 62)<=lo)(h2:lo < 2 ^ 62)(h3: -(2 ^ 62)<=hi)(h4:hi < 2 ^ 62)
 (q:R (Om lo (hi - lo).toNat) H):wpAny (model X.prog X.w) X.A (pyIter (.ref s.heap.objs.size)) (SY X pins σ tg R) E {s with heap:=s.heap.push {cls:= .type "range",data:= .fields #[.int lo t, .int hi u, .int 1 v]},toks:=tk}:=by
 refine wpAny_pyIter_range (IsRange.new ..) (small_one h1 h2 h3 h4) ?_;have I1:Inv X pins σ H {s with heap:=s.heap.push {cls:= .type "range",data:= .fields #[.int lo t, .int hi u, .int 1 v]},toks:=tk}:=I.kept fun b o e=>Heap.get?_push_of_some _ e
 refine⟨(s.heap.push {cls:= .type "range",data:= .fields #[.int lo t, .int hi u, .int 1 v]}).objs.size,[(s.heap.push {cls:= .type "range",data:= .fields #[.int lo t, .int hi u, .int 1 v]}).objs.size],_,_,H,rfl,
  I1.kept (t':=tk) fun b o e=>Heap.get?_push_of_some _ e,AI _ lo (hi - lo).toNat,?_,fun b hb=>?_,q⟩
 .have e1:lo+((0:Nat):Int)*1=lo:=by simp
  have e2:(((hi - lo).toNat:Nat):Int) - ((0:Nat):Int)=Builtin.Range.rangeSize lo hi 1:=by rw[rangeSize_one];split <;> omega
  show IsRangeIter _ _ (lo+((0:Nat):Int)*1) ((((hi - lo).toNat:Nat):Int) - ((0:Nat):Int)) 1;rw[e1,e2];exact Heap.get?_push_size _ rfl
 .have e:b=(s.heap.push {cls:= .type "range",data:= .fields #[.int lo t, .int hi u, .int 1 v]}).objs.size:=by simpa using hb
  subst e;exact I1.x4 (Nat.le_refl _) (I1.hok.fresh (Nat.le_refl _))
def yY(ta:TA):TI:=fun σ H R=>ta σ H fun vs H1=>∃j:Int,vs=[.int j]/\ -(2 ^ 62)<=j/\j < 2 ^ 62/\R (Om 0 j.toNat) H1
def Ow(ta:TA):TI:=fun σ H R=>ta σ H fun vs H1=>∃i j:Int,vs=[.int i, .int j]/\(-(2 ^ 62)<=i/\i < 2 ^ 62/\ -(2 ^ 62)<=j/\j < 2 ^ 62)/\R (Om i (j - i).toNat) H1
theorem wM{ta:TA}{p pos:Pos}(hg:Gl X "range")(hm:X.mg "range"=none)(ha:PA X [a] ta)(hs:starEach [a] X.env=[(false,eval a X.env)]:=by rfl):PI X tg (.Call (.Name "range" p) [a] [] pos) (yY ta):=by
 intro pins s σ H R I h;refine Call_ (jk I hg hm boot_range (PyProof.Rows.callWith_type1 (dH (ha pos pins s σ H _ I h) fun us s1 ⟨vs,H1,I1,r1,q1⟩=>?_) hs rfl))
 obtain⟨j,e,q1,q2,q⟩:=q1;subst e;cases r1 with
 | cons r rr=>
   cases rr;obtain⟨t,rfl⟩:=r;exact call_range_1 (yQ I1 (by omega) (by omega) q1 q2 (by simpa using q))
theorem CU{ta:TA}{p pos:Pos}(hg:Gl X "range")(hm:X.mg "range"=none)(ha:PA X [a,b] ta)(hs:starEach [a,b] X.env=[(false,eval a X.env),(false,eval b X.env)]:=by rfl)(sv:starEach [b] X.env=[(false,eval b X.env)]:=by rfl) :
 PI X tg (.Call (.Name "range" p) [a,b] [] pos) (Ow ta):=by
 intro pins s σ H R I h;refine Call_ (jk I hg hm boot_range (PyProof.Rows.callWith_type1 (dH (ha pos pins s σ H _ I h) fun us s1 ⟨vs,H1,I1,r1,q1⟩=>?_) (by rw[hs,sv]) (by rw[sv];rfl)))
 obtain⟨i,j,e,⟨q1,q2,q3,q4⟩,q⟩:=q1;subst e;cases r1 with
 | cons r rr=>
   cases rr with
   | cons r' rr=>
     cases rr;obtain⟨t,rfl⟩:=r;obtain⟨t',rfl⟩:=r';exact call_range_2 (yQ I1 q1 q2 q3 q4 q)
def Q2(wi:TI)(g:TG)(tb:TS):TS:=fun D σ H=>wi σ H fun J H1=>∃W:Nat->Nat->St->Hp->Prop,(∃m,W 0 m σ H1)/\∀i m σ H,W i m σ H->
 (J.stop i H/\D.nx σ H)\/(J.go i H/\∃N:St->Hp->Prop,(∀dy H',N dy H'->∃m',m' < m/\W (i+1) m' dy H')/\∀x H',J.yld i H x H'->g x σ H' fun yc H2=>tb {D with nx:=N,ct:=N,bk:=D.nx} yc H2)
def o5(fp:List Addr)(h:Heap):WH:=fp.filterMap fun b=>(h.get? b).map fun o=>(b,o)
theorem mh{fp:List Addr}{h:Heap}{b:Addr}{o:Obj}(hb:b∈fp)(e:h.get? b=some o):(b,o)∈o5 fp h:=List.mem_filterMap.mpr ⟨b,hb,by rw[e];rfl⟩
theorem DD{fp:List Addr}{h:Heap}{p:Addr × Obj}(hp:p∈o5 fp h):p.1∈fp/\h.get? p.1=some p.2:=by
 obtain⟨b,hb,e⟩:=List.mem_filterMap.mp hp;cases q:h.get? b with
 | none=>rw [q] at e;cases e
 | some o=>
   rw[q] at e;have e':(b,o)=p:=Option.some.inj e;subst e';exact⟨hb,q⟩
theorem Inv.pinned{pins:WH}{s:Shared}{fp:List Addr}(I:Inv X pins σ H s)(hf:∀b∈fp,sN X pins H b)(ho:∀b∈fp,∃o,s.heap.get? b=some o/\∀v,o.data≠ .cell v):Inv X (pins++o5 fp s.heap) σ H s:=
 I.Bv fun p hp=>(List.mem_append.mp hp).elim (fun z=>I.pin p (List.mem_append_right _ z)) fun z=>by
  obtain⟨hb,e⟩:=DD z;obtain⟨f0,f1,f2,_⟩:=hf p.1 hb;obtain⟨o,e',d⟩:=ho p.1 hb;rw[e] at e';cases e';exact⟨e,f0,f1,f2,d⟩
theorem Inv.pM{pins pl:WH}{s:Shared}(I:Inv X (pins++pl) σ H s):Inv X pins σ H s:=I.Bv fun p hp=>I.pin p (List.mem_append_right _ (List.mem_append_left _ hp))
theorem ER{iter:Expr}{body:List Stmt}{wi:TI}{g:TG}{tb:TS}{pos:Pos}(hp:PassesOwn (model X.prog X.w) X.A X.env X.xe)(hc:X.calm=true)(hi:PI X tg iter wi)(hg:PG X tg g)(hb:ym X body tb)
 (hs:∀x,foldedSetIterable iter X.env x=pure x:=by intro _;rfl):PS X (.For tg iter body [] pos) (Q2 wi g tb):=by
 intro pins s σ H D I h;refine wpAny_For (dH (hi pins s σ H _ I h) fun v s1 h1=>dH h1 fun Py s2 h2=>?_) hs
 obtain⟨it,fp,tn,J,H2,e,I2,T,Hr,f2,W,⟨m0,w0⟩,turn⟩:=h2;subst e;have stat:∀{H':Hp},(∀b∈fp,H' b=none)->∀b∈fp,sN X pins H' b:=fun hn b hb=>⟨hn b hb,(f2 b hb).2⟩
 refine codeAny_forLoop_any (fun n s'=>∃i dy H',Inv X pins dy H' s'/\tn i s'.heap/\(∀b∈fp,H' b=none)/\W i n dy H') ?_ m0 ⟨0,σ,H2,I2,Hr,fun b hb=>(f2 b hb).1,w0⟩
 rintro n s3 ⟨i,JP,H3,I3,JO,O9,w3⟩;rcases turn i n JP H3 w3 with⟨stop,qn⟩ | ⟨go,N,hN,step⟩
 .refine wpAny_passesOwn hp (dH (T.done X rfl rfl rfl hc i pins s3 JP H3 X.xe I3 (stat O9) JO stop) fun r s4 ⟨hr,I4⟩=>?_)
  subst hr;exact wpAny_execs_nil ⟨JP,H3,I4,qn⟩
 .refine wpAny_passesOwn hp (dH (T.item X rfl rfl rfl hc i pins s3 JP H3 X.xe I3 (stat O9) JO go) fun r s4 ⟨u,hr,h4⟩=>?_)
  subst hr;refine wpAny_passesOwn hp (dH h4 fun _ s5 ⟨x,H5,I5,r5,y5,Mw,RT⟩=>?_)
  have I5':=I5.pinned (stat RT) (T.obj _ _ Mw);refine wpAny_passesOwn hp (dH (hg _ s5 JP H5 x u _ I5' r5 (step x H5 y5)) fun _ s6 ⟨OV,H6,I6,q6⟩=>?_)
  refine wpAny_passesOwn hp (dH (hb _ s6 OV H6 _ I6 q6) fun f s7 q7=>?_)
  have again:∀{zT:St} {H7:Hp},Inv X (pins++o5 fp s5.heap) zT H7 s7->N zT H7->∃m,m < n/\∃i dy H',Inv X pins dy H' s7/\tn i s7.heap/\(∀b∈fp,H' b=none)/\W i m dy H':=fun {zT H7} I7 n7=>by
   obtain⟨m',hm,w7⟩:=hN zT H7 n7;refine⟨m',hm,i+1,zT,H7,I7.pM,T.keep _ _ _ Mw fun b hb o e=>(I7.pin (b,o) (List.mem_append_right _ (List.mem_append_right _ (mh hb e)))).1,fun b hb=>?_,w7⟩
   obtain⟨o,e,d⟩:=T.obj _ _ Mw b hb;exact(I7.pin (b,o) (List.mem_append_right _ (List.mem_append_right _ (mh hb e)))).2.1
  cases f with
  | next=>obtain⟨zT,H7,I7,n7⟩:=q7;exact again I7 n7
  | cont=>obtain⟨zT,H7,I7,n7⟩:=q7;exact again I7 n7
  | brk=>obtain⟨zT,H7,I7,q7⟩:=q7;exact⟨zT,H7,I7.pM,q7⟩
  | ret v=>obtain⟨x7,zT,H7,I7,r7,q7⟩:=q7;exact⟨x7,zT,H7,I7.pM,r7,q7⟩
end
abbrev R2:=V->V->Hp->VK->Prop
def mT(X:Cx)(f:Value->Value->Sem Value)(r:R2):Prop:=
 ∀(pins:WH) (s:Shared) (σ:St) (H:Hp) (x y:V) (v u:Value) (Q:VK),Inv X pins σ H s->RelV x v->RelV y u->r x y H Q->
  wpAny (model X.prog X.w) X.A (f v u) (EP X pins σ Q) X.xe s
def QW(X:Cx)(f:Value->Sem Value)(r:V->Hp->VK->Prop):Prop:=
 ∀(pins:WH) (s:Shared) (σ:St) (H:Hp) (x:V) (v:Value) (Q:VK),Inv X pins σ H s->RelV x v->r x H Q->
  wpAny (model X.prog X.w) X.A (f v) (EP X pins σ Q) X.xe s
def uC(X:Cx)(f:Value)(r:List V->Hp->VK->Prop):Prop:=
 ∀(pins:WH) (s:Shared) (σ:St) (H:Hp) (xs:List V) (us:List Value) (Q:VK),Inv X pins σ H s->Vals xs us->r xs H Q->
  wpAny (model X.prog X.w) X.A (call f us) (EP X pins σ Q) X.xe s
def P2(X:Cx)(r:V->Hp->(Bool->Hp->Prop)->Prop):Prop:=
 ∀(pins:WH) (s:Shared) (σ:St) (H:Hp) (x:V) (v:Value) (Q:Bool->Hp->Prop),Inv X pins σ H s->RelV x v->r x H Q->
  wpAny (model X.prog X.w) X.A (truthy v) (TP X pins σ Q) X.xe s
def MJ(r:R2)(ta tb:TE):TE:=fun σ H Q=>ta σ H fun x H1=>tb σ H1 fun y H2=>r x y H2 Q
def U6(r:V->Hp->VK->Prop)(ta:TE):TE:=fun σ H Q=>ta σ H fun x H1=>r x H1 Q
def rI(C:Int->Int->Prop)(g:Int->Int->V):R2:=fun x y H Q=>∃i j,x= .int i/\y= .int j/\C i j/\Q (g i j) H
def Ef(g:Int->Int->V):R2:=fun x y H Q=>∃i j,x= .int i/\y= .int j/\Q (g i j) H
def rU(g:Int->V):V->Hp->VK->Prop:=fun x H Q=>∃i,x= .int i/\Q (g i) H
section
variable {X:Cx} {a b c:Expr} {ta tb tc:TE} {pos:Pos}
theorem L_(ha:PE X a ta)(hb:PE X b tb){pins:WH}{s:Shared}{σ:St}{H:Hp}{R:V->V->Hp->Prop}(I:Inv X pins σ H s)
 (h:ta σ H fun x H1=>tb σ H1 fun y H2=>R x y H2) {Q:WI} {f:Value->Value->Sem Value}
 (hf:∀v u s2 x y H2,Inv X pins σ H2 s2->RelV x v->RelV y u->R x y H2->wpAny (model X.prog X.w) X.A (f v u) Q X.xe s2) :
 wpAny (model X.prog X.w) X.A (eval a X.env) (fun v s₁=>wpAny (model X.prog X.w) X.A (eval b X.env) (fun u zU=>wpAny (model X.prog X.w) X.A (f v u) Q X.xe zU) X.xe s₁) X.xe s:=by
 refine dH (ha pins s σ H _ I h) fun v s1 ⟨x,H1,I1,r1,q1⟩=>?_
 refine dH (hb pins s1 σ H1 _ I1 q1) fun u s2 ⟨y,H2,I2,r2,q2⟩=>?_
 exact hf v u s2 x y H2 I2 r1 r2 q2
theorem GS{op:Operator}{r:R2}(ho:mT X (binaryOp op) r)(ha:PE X a ta)(hb:PE X b tb):PE X (.BinOp a op b pos) (MJ r ta tb):=by
 intro pins s σ H Q I h;exact wpAny_BinOp (L_ ha hb I h fun v u s2 x y H2 I2 rx ry q=>ho pins s2 σ H2 x y v u Q I2 rx ry q)
theorem Nz{op:UnaryOp}{r:V->Hp->VK->Prop}(ho:QW X (unaryOp op) r)(ha:PE X a ta):PE X (.UnaryOp op a pos) (U6 r ta):=by
 intro pins s σ H Q I h;exact UnaryOp_ (dH (ha pins s σ H _ I h) fun v s1 ⟨x,H1,I1,r1,q1⟩=>ho pins s1 σ H1 x v Q I1 r1 q1)
theorem M_{f:Value->Value->Sem Value}{C:Int->Int->Prop}{g:Int->Int->Int}
 (rule:∀(i j:Int) (t u:Tok) (s:Shared) (Q:WI) (E:WI),C i j->Q (.int (g i j) s.toks) {s with toks:=s.toks+1}->wpAny (model X.prog X.w) X.A (f (.int i t) (.int j u)) Q E s) :
 mT X f (rI C fun i j=> .int (g i j)):=by
 intro pins s σ H x y v u Q I rx ry h;obtain⟨i,j,rfl,rfl,hc,q⟩:=h;obtain⟨t,rfl⟩:=rx;obtain⟨t',rfl⟩:=ry;exact rule i j t t' s _ _ hc ⟨.int (g i j),H,I.tok _,⟨_,rfl⟩,q⟩
theorem FV{f:Value->Value->Sem Value}{g:Int->Int->Int}
 (rule:∀(i j:Int) (t u:Tok) (s:Shared) (Q:WI) (E:WI),Q (.int (g i j) s.toks) {s with toks:=s.toks+1}->wpAny (model X.prog X.w) X.A (f (.int i t) (.int j u)) Q E s) :
 mT X f (Ef fun i j=> .int (g i j)):=by
 intro pins s σ H x y v u Q I rx ry h;obtain⟨i,j,rfl,rfl,q⟩:=h;obtain⟨t,rfl⟩:=rx;obtain⟨t',rfl⟩:=ry;exact rule i j t t' s _ _ ⟨.int (g i j),H,I.tok _,⟨_,rfl⟩,q⟩
theorem KI{f:Value->Value->Sem Value}{g:Int->Int->Bool}
 (rule:∀(i j:Int) (t u:Tok) (s:Shared) (Q:WI) (E:WI),Q (.bool (g i j)) s->wpAny (model X.prog X.w) X.A (f (.int i t) (.int j u)) Q E s) :
 mT X f (Ef fun i j=> .bl (g i j)):=by
 intro pins s σ H x y v u Q I rx ry h;obtain⟨i,j,rfl,rfl,q⟩:=h;obtain⟨t,rfl⟩:=rx;obtain⟨t',rfl⟩:=ry;exact rule i j t t' s _ _ ⟨.bl (g i j),H,I,rfl,q⟩
def PU(i j:Int):Prop:=0 < j/\j < 1073741824
def SU(i j:Int):Prop:=j≠0/\j.natAbs < 1073741824
def Q9(i j:Int):Prop:=0<=j/\j<=1000000/\i.natAbs < 2 ^ 64
def Mm(i j:Int):Prop:=(-(2 ^ 64) < i/\i < 2 ^ 64)\/(-(2 ^ 64) < j/\j < 2 ^ 64)
theorem Mm.ok{i j:Int}(h:Mm i j):IntMulOk i j:=by
 rcases h with⟨h1,h2⟩ | ⟨h1,h2⟩
 .exact .of_left (intBits_le_64 h1 h2)
 .exact .of_right (intBits_le_64 h1 h2)
theorem A3(k:Nat):(0:Int)<=2 ^ k:=by
 rw[two_pow_cast];exact Int.natCast_nonneg _
theorem KP:mT X (binaryOp .Add) (Ef fun i j=> .int (i+j)):=FV fun _ _ _ _ _ _ _ q=>add_int q
theorem KR:mT X (binaryOp .Sub) (Ef fun i j=> .int (i - j)):=FV fun _ _ _ _ _ _ _ q=>sub_int q
theorem Ls:mT X (binaryOp .Mult) (rI Mm fun i j=> .int (i*j)):=M_ fun _ _ _ _ _ _ _ hc q=>mul_int q hc.ok
theorem JJ:mT X (binaryOp .FloorDiv) (rI PU fun i j=> .int (i / j)):=M_ fun i j _ _ _ _ _ hc q=>by
 have h1:(0:Int) < j:=hc.1;have h2:j < 1073741824:=hc.2;exact floordiv_int (by omega) (by rw[Int.fdiv_eq_ediv_of_nonneg i (by omega)];exact q) (.inl (PyProof.noPylong_small (by omega)))
theorem KG:mT X (binaryOp .Mod) (rI (fun _ j=>0 < j) fun i j=> .int (i % j)):=M_ fun i j _ _ _ _ _ hc q=>by
 have h1:(0:Int) < j:=hc;exact mod_int' (by omega) (by rw[Int.fmod_eq_emod_of_nonneg i (by omega)];exact q)
theorem Lo:mT X (binaryOp .Pow) (rI Q9 fun i j=> .int (i ^ j.toNat)):=M_ fun _ _ _ _ _ _ _ hc q=>pow_int_small hc.1 hc.2.1 hc.2.2 q
theorem Kv:mT X (binaryOp .RShift) (rI (fun _ j=>0<=j) fun i j=> .int (i / 2 ^ j.toNat)):=M_ fun i j _ _ _ _ _ hc q=>
 rshift_int hc (by rw[Int.fdiv_eq_ediv_of_nonneg i (A3 _)];exact q)
theorem Lm:mT X (binaryOp .BitAnd) (Ef fun i j=> .int (Builtin.bitAnd i j)):=FV fun _ _ _ _ _ _ _ q=>and_int q
theorem Oq:mT X (binaryOp .BitOr) (Ef fun i j=> .int (Builtin.bitOr i j)):=FV fun _ _ _ _ _ _ _ q=>or_int q
theorem L1:mT X (binaryOp .BitXor) (Ef fun i j=> .int (Builtin.bitXor i j)):=FV fun _ _ _ _ _ _ _ q=>xor_int q
theorem T6{f:Value->Sem Value}{g:Int->Int}
 (rule:∀(i:Int) (t:Tok) (s:Shared) (Q:WI) (E:WI),Q (.int (g i) s.toks) {s with toks:=s.toks+1}->wpAny (model X.prog X.w) X.A (f (.int i t)) Q E s) :
 QW X f (rU fun i=> .int (g i)):=by
 intro pins s σ H x v Q I rx h;obtain⟨i,rfl,q⟩:=h;obtain⟨t,rfl⟩:=rx;exact rule i t s _ _ ⟨.int (g i),H,I.tok _,⟨_,rfl⟩,q⟩
theorem Mo:QW X (unaryOp .USub) (rU fun i=> .int (-i)):=T6 fun _ _ _ _ _ q=>neg_int q
end
def NM:V->V->Bool
 | .cX, .cX=>true | .cX, .int _=>true | .int _, .cX=>true | .cX, .bl _=>true | .bl _, .cX=>true | .cX, .str _=>true | .str _, .cX=>true
 | .int _, .int _=>true | .bl _, .bl _=>true | .str _, .str _=>true | .byt _, .byt _=>true
 | .int _, .str _=>true | .str _, .int _=>true | .bl _, .str _=>true | .str _, .bl _=>true
 | _,_=>false
def Us:R2:=fun x y H Q=>NM x y=true/\Q (.bl (decide (x=y))) H
def TQ:R2:=fun x y H Q=>NM x y=true/\Q (.bl (!decide (x=y))) H
theorem B_{i j:Int}:decide (V.int i=V.int j)=(i==j):=by
 rw[Bool.eq_iff_iff];simp
theorem E8{i j:Bool}:decide (V.bl i=V.bl j)=(i==j):=by
 rw[Bool.eq_iff_iff];simp
theorem BI:decide (V.str i=V.str j)=(i==j):=by
 rw[Bool.eq_iff_iff];simp
theorem BR{i j:Array UInt8}:decide (V.byt i=V.byt j)=(i.toList==j.toList):=by
 rw[Bool.eq_iff_iff];cases i;cases j;simp
section
variable {X:Cx} {a b c:Expr} {ta tb tc:TE} {pos:Pos}
theorem cj{pins:WH}{s:Shared}{Q:VK}{k k':Bool}(I:Inv X pins σ H s)(q:Q (.bl k) H)(e:k=k'):EP X pins σ Q (.bool k') s:=by
 subst e;exact⟨.bl k,H,I,rfl,q⟩
theorem ED:mT X (compareOp .Eq) Us:=by
 intro pins s σ H x y v u Q I rx ry h;obtain⟨hs,q⟩:=h;cases x with
 | cX=>
   cases rx;cases y with
   | cX=>cases ry;exact PySem.EqNone.eq_none_none (cj I q (by simp))
   | bl j=>cases ry;exact PySem.EqNone.eq_none_bool (cj I q (by simp))
   | int j=>obtain⟨t',rfl⟩:=ry;exact PySem.EqNone.eq_none_int (cj I q (by simp))
   | str j=>obtain⟨t',rfl⟩:=ry;exact PySem.EqNone.eq_none_str (cj I q (by simp))
   | _=>exact absurd (show false=true from hs) Bool.false_ne_true
 | bl i=>
   cases rx;cases y with
   | cX=>cases ry;exact PySem.EqNone.eq_bool_none (cj I q (by simp))
   | bl j=>cases ry;exact eq_bool (cj I q E8)
   | str j=>obtain⟨t',rfl⟩:=ry;exact PySem.EqMixed.eq_bool_str (cj I q (by simp))
   | _=>exact absurd (show false=true from hs) Bool.false_ne_true
 | int i=>
   obtain⟨t,rfl⟩:=rx;cases y with
   | cX=>cases ry;exact PySem.EqNone.eq_int_none (cj I q (by simp))
   | int j=>obtain⟨t',rfl⟩:=ry;exact eq_int (cj I q B_)
   | str j=>obtain⟨t',rfl⟩:=ry;exact PySem.EqMixed.eq_int_str (cj I q (by simp))
   | _=>exact absurd (show false=true from hs) Bool.false_ne_true
 | str i=>
   obtain⟨t,rfl⟩:=rx;cases y with
   | cX=>cases ry;exact PySem.EqNone.eq_str_none (cj I q (by simp))
   | bl j=>cases ry;exact PySem.EqMixed.eq_str_bool (cj I q (by simp))
   | int j=>obtain⟨t',rfl⟩:=ry;exact PySem.EqMixed.eq_str_int (cj I q (by simp))
   | str j=>obtain⟨t',rfl⟩:=ry;exact eq_str (cj I q BI)
   | _=>exact absurd (show false=true from hs) Bool.false_ne_true
 | byt i=>
   obtain⟨t,rfl⟩:=rx;cases y with
   | byt j=>obtain⟨t',rfl⟩:=ry;exact PySem.W.eq_bytes (cj I q BR)
   | _=>exact absurd (show false=true from hs) Bool.false_ne_true
 | _=>cases y <;> exact absurd (show false=true from hs) Bool.false_ne_true
theorem GN:mT X (compareOp .NotEq) TQ:=by
 intro pins s σ H x y v u Q I rx ry h;obtain⟨hs,q⟩:=h;cases x with
 | cX=>
   cases rx;cases y with
   | cX=>cases ry;exact PySem.EqNone.ne_none_none (cj I q (by simp))
   | bl j=>cases ry;exact PySem.EqNone.ne_none_bool (cj I q (by simp))
   | int j=>obtain⟨t',rfl⟩:=ry;exact PySem.EqNone.ne_none_int (cj I q (by simp))
   | str j=>obtain⟨t',rfl⟩:=ry;exact PySem.EqNone.ne_none_str (cj I q (by simp))
   | _=>exact absurd (show false=true from hs) Bool.false_ne_true
 | bl i=>
   cases rx;cases y with
   | cX=>cases ry;exact PySem.EqNone.ne_bool_none (cj I q (by simp))
   | bl j=>cases ry;exact ne_bool (cj I q (congrArg not E8))
   | str j=>obtain⟨t',rfl⟩:=ry;exact PySem.EqMixed.ne_bool_str (cj I q (by simp))
   | _=>exact absurd (show false=true from hs) Bool.false_ne_true
 | int i=>
   obtain⟨t,rfl⟩:=rx;cases y with
   | cX=>cases ry;exact PySem.EqNone.ne_int_none (cj I q (by simp))
   | int j=>obtain⟨t',rfl⟩:=ry;exact ne_int (cj I q (congrArg not B_))
   | str j=>obtain⟨t',rfl⟩:=ry;exact PySem.EqMixed.ne_int_str (cj I q (by simp))
   | _=>exact absurd (show false=true from hs) Bool.false_ne_true
 | str i=>
   obtain⟨t,rfl⟩:=rx;cases y with
   | cX=>cases ry;exact PySem.EqNone.ne_str_none (cj I q (by simp))
   | bl j=>cases ry;exact PySem.EqMixed.ne_str_bool (cj I q (by simp))
   | int j=>obtain⟨t',rfl⟩:=ry;exact PySem.EqMixed.ne_str_int (cj I q (by simp))
   | str j=>obtain⟨t',rfl⟩:=ry;exact ne_str (cj I q (congrArg not BI))
   | _=>exact absurd (show false=true from hs) Bool.false_ne_true
 | byt i=>
   obtain⟨t,rfl⟩:=rx;cases y with
   | byt j=>obtain⟨t',rfl⟩:=ry;exact PySem.W.ne_bytes (cj I q (congrArg not BR))
   | _=>exact absurd (show false=true from hs) Bool.false_ne_true
 | _=>cases y <;> exact absurd (show false=true from hs) Bool.false_ne_true
theorem Ng:mT X (compareOp .Lt) (Ef fun i j=> .bl (decide (i < j))):=KI fun _ _ _ _ _ _ _ q=>lt_int q
theorem Nn:mT X (compareOp .Gt) (Ef fun i j=> .bl (decide (j < i))):=KI fun _ _ _ _ _ _ _ q=>gt_int q
theorem Nl:mT X (compareOp .GtE) (Ef fun i j=> .bl (decide (j<=i))):=KI fun _ _ _ _ _ _ _ q=>ge_int q
theorem D6:mT X (compareOp .In) (fun x y H Q=>∃i j,x= .str i/\y= .str j/\Q (.bl (!(Builtin.Str.occurrences j i 0 j.length 1).isEmpty)) H):=by
 intro pins s σ H x y v u Q I rx ry h;obtain⟨i,j,rfl,rfl,q⟩:=h;obtain⟨t,rfl⟩:=rx;obtain⟨t',rfl⟩:=ry;exact in_str (cj I q rfl)
theorem xD:mT X (compareOp .NotIn) (fun x y H Q=>∃i j,x= .str i/\y= .str j/\Q (.bl (!(!(Builtin.Str.occurrences j i 0 j.length 1).isEmpty))) H):=by
 intro pins s σ H x y v u Q I rx ry h;obtain⟨i,j,rfl,rfl,q⟩:=h;obtain⟨t,rfl⟩:=rx;obtain⟨t',rfl⟩:=ry;exact notIn_str (cj I q rfl)
def isObj:HO->Bool
 | .lst _=>true
 | .ins _ _ _=>true
 | _=>false
theorem cq(b:Expr){op:CmpOp}(h:op≠ .In:=by decide)(h2:op≠ .NotIn:=by decide):behindInMarks op b=false:=by
 have e1:(op==CmpOp.In)=false:=by cases op <;> first | rfl | exact absurd rfl h
 have e2:(op==CmpOp.NotIn)=false:=by cases op <;> first | rfl | exact absurd rfl h2
 cases b <;> simp [behindInMarks,e1,e2]
theorem BJ{op:CmpOp}{r:R2}(ho:mT X (compareOp op) r)(ha:PE X a ta)(hb:PE X b tb)(hm:behindInMarks op b=false):PE X (.Compare a [op] [b] pos) (MJ r ta tb):=by
 intro pins s σ H Q I h;exact wpAny_Compare1 (L_ ha hb I h fun v u s2 x y H2 I2 rx ry q=>ho pins s2 σ H2 x y v u Q I2 rx ry q) hm
def NL(t:TE):TT:=fun σ H Q=>t σ H fun x H'=>∃k,x= .bl k/\Q k H'
theorem Cg{op:CmpOp}{r:R2}(ho:mT X (compareOp op) r)(ha:PE X a ta)(hb:PE X b tb)(hm:behindInMarks op b=false):PT X (.Compare a [op] [b] pos) (NL (MJ r ta tb)):=by
 intro pins s σ H Q I h;refine wpAny_isTrue_Compare1 (dH (ha pins s σ H _ I h) fun v s1 ⟨x,H1,I1,r1,q1⟩=>dH (hb pins s1 σ H1 _ I1 q1) fun u s2 ⟨y,H2,I2,r2,q2⟩=>
  dH (ho pins s2 σ H2 x y v u _ I2 r1 r2 q2) fun c s3 ⟨z,H3,I3,r3,k,e,q3⟩=>?_) hm
 subst e;cases r3;exact wpAny_truthy_bool ⟨H3,I3,q3⟩
def PQ(r r':R2)(ta tb tc:TE):TE:=fun σ H Q=>ta σ H fun x H1=>tb σ H1 fun y H2=>r x y H2 fun z H3=>∃k,z= .bl k/\
 (if k=true then tc σ H3 fun w' H4=>r' y w' H4 Q else Q (.bl false) H3)
def LS(K:W.Frag)(x:V)(H:Hp)(k:Bool):Prop:=
 match x with
 | .cX=>k=false
 | .bl b=>k=b
 | .int i=>k=(i !=0)
 | .str y=>y.length<=sizeLine/\k=((y.length:Int) !=0)
 | .byt y=>y.size<=sizeLine/\k=((y.size:Int) !=0)
 | .ref p=>(∃xs,o8 K H p xs/\k=!xs.isEmpty)\/(∃xs,sT K H p xs/\k=!xs.isEmpty)\/∃aL,H p=some (.dK aL)/\k=!aL.isEmpty
 | _=>False
theorem Av{κ:Type}{aL:List (κ × V)}{vs:List (κ × Value)}(r:KV aL vs):(!vs.isEmpty)=!aL.isEmpty:=by
 cases r <;> rfl
theorem tZ{xs:List V}{its:List Value}(r:Vals xs its):(!its.toArray.isEmpty)=!xs.isEmpty:=by
 cases r <;> simp
theorem qO:(sizeLine:Nat) < 2 ^ 63:=by rw[sizeLine_eq];decide
theorem Me:P2 X (fun x H Q=>∃k,LS X.K x H k/\Q k H):=by
 intro pins s σ H x v Q I rx h;obtain⟨k,e,q⟩:=h;have hl:=qO;have hs:sizeLine=16777216:=sizeLine_eq;cases x with
 | cX=>
   cases rx;have e':k=false:=e;subst e';exact truthy_none ⟨H,I,q⟩
 | bl b=>
   cases rx;have e':k=b:=e;subst e';exact wpAny_truthy_bool ⟨H,I,q⟩
 | int i=>
   obtain⟨t,rfl⟩:=rx;have e':k=(i !=0):=e;subst e';exact PySem.P.truthy_int ⟨H,I,q⟩
 | str y=>
   obtain⟨t,rfl⟩:=rx;obtain⟨hy,e'⟩:y.length<=sizeLine/\k=((y.length:Int) !=0):=e;subst e';exact PySem.P.truthy_str (by omega) ⟨H,I.tok _,q⟩
 | byt y=>
   obtain⟨t,rfl⟩:=rx;obtain⟨hy,e'⟩:y.size<=sizeLine/\k=((y.size:Int) !=0):=e;subst e';exact PySem.W.truthy_bytes (by omega) ⟨H,I.tok _,q⟩
 | ref p=>
   cases rx;have e':(∃xs,o8 X.K H p xs/\k=!xs.isEmpty)\/(∃xs,sT X.K H p xs/\k=!xs.isEmpty)\/∃aL,H p=some (.dK aL)/\k=!aL.isEmpty:=e;rcases e' with⟨xs,hx,e'⟩ | ⟨xs,hx,e'⟩ | ⟨aL,hx,e'⟩
   .subst e';obtain⟨its,r,pl,hz⟩:=I.list hx;have hlen:=r.length;exact wpAny_truthy_list pl.isList (by simp only[List.size_toArray];omega) ⟨H,I.tok _,by rw[tZ r];exact q⟩
   .subst e';obtain⟨its,r,pl,hz⟩:=I.tuple hx;have hlen:=r.length;exact truthy_tuple pl (by simp only[List.size_toArray];omega) ⟨H,I.tok _,by rw[tZ r];exact q⟩
   .subst e';obtain⟨hz,hS,vs,r,m⟩:aL.length<=sizeLine/\(p==sysModules)=false/\∃vs,KV aL vs/\s.heap.DictOf (c_ X.prog X.w) p vs:=I.hok p _ hx;have hlen:aL.length=vs.length:=Paired.length r;exact wpAny_truthy_dict hS m (by omega) ⟨H,I.tok _,by rw[Av r];exact q⟩
 | _=>exact(show False from e).elim
theorem Ga(ha:PE X a ta)(he:∀whole,isTrue a X.env whole=(do let v <-whole;standAt a.pos;holding [v] (truthy v))) :
 PT X a (fun σ H Q=>ta σ H fun x H'=>∃k,LS X.K x H' k/\Q k H'):=by
 intro pins s σ H Q I h;exact isTrue_plain (dH (ha pins s σ H _ I h) fun v s1 ⟨x,H1,I1,r1,q1⟩=>Me pins s1 σ H1 x v Q I1 r1 q1) (he _)
theorem z9:mT X (binaryOp .Add) (fun x y H Q=>∃i j,x= .str i/\y= .str j/\i.length+j.length<=sizeLine/\Q (.str (i++j)) H):=by
 intro pins s σ H x y v u Q I rx ry h;obtain⟨i,j,rfl,rfl,hz,q⟩:=h;obtain⟨t,rfl⟩:=rx;obtain⟨t',rfl⟩:=ry;exact add_str (fun t' tk=>⟨.str (i++j),H,I.tok _,⟨_,rfl⟩,q⟩) hz
def Of(b:Expr):Prop:=∀o i,subscripted b false o i=operate [o,i] (getItem o i)
theorem vals1{x:V}{us:List Value}(r:Vals [x] us):∃u,us=[u]/\RelV x u:=by
 cases r with
 | cons r1 r2=>cases r2;exact⟨_,rfl,r1⟩
theorem vals2{x y:V}{us:List Value}(r:Vals [x,y] us):∃u w',us=[u,w']/\RelV x u/\RelV y w':=by
 cases r with
 | cons r1 r2=>
   cases r2 with
   | cons r3 r4=>cases r4;exact⟨_,_,rfl,r1,r3⟩
theorem Dr(hc:X.calm=true):uC X (.builtin "min") (fun xs H Q=>∃i j,xs=[.int i, .int j]/\Q (.int (if j < i then j else i)) H):=by
 intro pins s σ H xs us Q I r h;obtain⟨i,j,rfl,q⟩:=h;obtain⟨u,w',rfl,⟨t,rfl⟩,⟨t',rfl⟩⟩:=vals2 r;refine min_two_ints (I.ok.hd hc) fun h' tk k=>⟨_,H,I.kept k,?_,q⟩
 by_cases hj:j < i
 .rw [if_pos hj,if_pos hj];exact⟨_,rfl⟩
 .rw [if_neg hj,if_neg hj];exact⟨_,rfl⟩
def Qe(K:W.Frag)(x:V)(H:Hp)(n:Nat):Prop:=
 match x with
 | .str y=>y.length<=sizeLine/\n=y.length
 | .byt y=>y.size<=sizeLine/\n=y.size
 | .ref p=>(∃xs,o8 K H p xs/\n=xs.length)\/∃xs,sT K H p xs/\n=xs.length
 | _=>False
theorem FI:uC X (.builtin "len") (fun xs H Q=>∃x n,xs=[x]/\Qe X.K x H n/\Q (.int n) H):=by
 intro pins s σ H xs us Q I r h;obtain⟨x,n,rfl,e,q⟩:=h;obtain⟨u,rfl,rx⟩:=vals1 r;have hl:=qO;have hs:sizeLine=16777216:=sizeLine_eq;cases x with
 | str y=>
   obtain⟨t,rfl⟩:=rx;obtain⟨hy,e'⟩:y.length<=sizeLine/\n=y.length:=e;subst e';exact len_str (by omega) ⟨.int _,H,I.tok _,⟨_,rfl⟩,q⟩
 | byt y=>
   obtain⟨t,rfl⟩:=rx;obtain⟨hy,e'⟩:y.size<=sizeLine/\n=y.size:=e;subst e';exact PySem.W.len_bytes (by omega) ⟨.int _,H,I.tok _,⟨_,rfl⟩,q⟩
 | ref p=>
   cases rx;have e':(∃xs,o8 X.K H p xs/\n=xs.length)\/∃xs,sT X.K H p xs/\n=xs.length:=e;rcases e' with⟨xs,hx,e'⟩ | ⟨xs,hx,e'⟩
   .subst e';obtain⟨its,r',pl,hz⟩:=I.list hx;have hlen:=r'.length;exact Calls.call_len_list pl.isList (by simp only[List.size_toArray];omega) ⟨.int xs.length,H,I.tok _,⟨_,by simp only[List.size_toArray];rw [hlen]⟩,q⟩
   .subst e';obtain⟨its,r',pl,hz⟩:=I.tuple hx;have hlen:=r'.length;exact len_tuple pl (by simp only[List.size_toArray];omega) ⟨.int xs.length,H,I.tok _,⟨_,by simp only[List.size_toArray];rw [hlen]⟩,q⟩
 | _=>exact(show False from e).elim
end
structure Ap (h:Heap) (x dx C:Addr) (mA:WM):Prop where
 obj:h.get? x=some (PySem.W.instObj C dx)
 ns:h.Ns1 dx mA
 ne:dx≠x
theorem Dq{h:Heap}{dx:Addr}{mA:WM}(n:h.Ns1 dx mA):∃od,h.get? dx=some od/\∀name,PySem.W.lookIn name od=some (mA name):=by
 obtain⟨o,es,ep,ho,hd,hk,_,hm⟩:=n;refine⟨o,ho,fun name=>?_⟩
 have e:=hm name;unfold nsFind findBy at e;rw[<-Array.find?_toList] at e;unfold PySem.W.lookIn;rw[hd];dsimp only;split
 .rename_i y q;rw[q] at e;exact congrArg some e
 .rename_i q;rw[q] at e;have a:es.toList.any (·.refKey)=false:=by
   rw[List.any_eq_false];intro y hy;obtain⟨z,t,hkey⟩:=hk y (Array.mem_toList_iff.mp hy);simp [DictEntry.refKey,hkey]
  have a':¬es.toList.any (·.refKey)=true:=by rw[a];exact Bool.false_ne_true
  rw[if_neg a'];exact congrArg some e
theorem Ap.look{x dx C:Addr}{mA:WM}(I:Ap h x dx C mA):∃od,PySem.W.InstAt h x (PySem.W.instObj C dx) C (some od)/\∀name,PySem.W.lookIn name od=some (mA name):=
 let⟨od,ho,hl⟩:=Dq I.ns
 ⟨od,⟨I.obj,rfl,rfl,ho⟩,hl⟩
section
variable {prog:Program} {w:World} {A:Around} {E:WI} {s:Shared} {K:W.Frag} {x dx C f:Addr} {mA:WM} {name:Str} {v:Value}
theorem get_map{expr:Bool}{Q:WI}(X:K.In s.heap)(I:Ap s.heap x dx C mA)(hg:PySem.W.plainGet K C name=true)(hh:PySem.W.hasDictIn K C=true)
 (ha:PySem.W.findIn K (.ref C) name=some none) (hv:mA name=some v) (VM:PySem.W.handedIn v=true) (h:Q v {s with toks:=s.toks+1}) :
 wpAny (model prog w) A (getAttr (.ref x) name expr) Q E s:=by
 obtain⟨od,J,hl⟩:=I.look;exact PySem.W.get_value X J (PySem.W.plainGet_of hg).1 (PySem.W.findObj_own hh ha rfl (by rw[hl,hv])) VM h
theorem E9{pl:Sem Bool}{Q:Value × List Value->Shared->Prop}(X:K.In s.heap)(I:Ap s.heap x dx C mA)(hg:PySem.W.plainGet K C name=true)
 (hf:PySem.W.findIn K (.ref C) name=some (some (.ref f))) (ht:PySem.W.isFn K (.ref f)=true) (hv:mA name=none) (h:Q (.ref f,[.ref x]) s) :
 wpAny (model prog w) A (getMethod (.ref x) name pl) Q E s:=by
 obtain⟨od,J,hl⟩:=I.look;exact PySem.W.method_fn X J (PySem.W.plainGet_of hg).1 (PySem.W.plainGet_of hg).2 hf (beq_iff_eq.mp ht) (by show(PySem.W.lookIn name od).map (·.isSome)=some false;rw [hl,hv];rfl) h
theorem HP{ns:List Str}{Q:Unit->Shared->Prop}(X:K.In s.heap)(I:Ap s.heap x dx C mA)
 (hs:PySem.W.findIn K (.ref C) "__setattr__"=some (some (.builtin "object.__setattr__"))) (hp:PySem.W.plainOver K C=true) (ht:PySem.W.takerIn K C name=some none) (hh:PySem.W.hasDictIn K C=true)
 (hw:PySem.Within mA ns) (hsz:ns.length<=sizeLine)
 (h:∀h',Ap h' x dx C (fun y=>if y=name then some v else mA y)->Heap.SameBut dx s.heap h'->Q () {s with heap:=h',toks:=s.toks+2}) :
 wpAny (model prog w) A (setAttr (.ref x) name v) Q E s:=by
 obtain⟨od,J,hl⟩:=I.look;refine PySem.W.set_plain X J hs (PySem.W.osa_open (s:={s with toks:=s.toks+1}) (r:=none) X J hp ht fun b=>?_)
 obtain⟨cd,hc,Ru⟩:=PySem.W.any_some hh;have hx:s.heap.get? x=some ⟨.ref C,some dx, .plain,#[]⟩:=I.obj;refine wpAny_bind (wpAny_pure (wpAny_bind (wpAny_bind (wpAny_loadPart hx (wpAny_bind (PySem.W.Looks.here (s:={s with toks:=s.toks+1}) (PySem.W.looks_clsIn X hc) ?_))))))
 rw[Ru];refine wpAny_pure (a:=some dx) (wpAny_bind (wpAny_pure (wpAny_bind ?_)));refine wpAny_nsSet1 (s:={s with toks:=s.toks+1}) I.ns fun h' Pu sv=>?_
 obtain⟨oD,esD,epD,hoD,hdD,hcD⟩:=Pu.count (PySem.Within.cons name v hw);refine wpAny_bind (wpAny_lookBehind hoD (by rw[hdD];exact pastItsLine_dict (Nat.le_trans hcD (by rw[List.length_cons];omega))) ?_)
 exact wpAny_pure (h _ ⟨(sv.2 _ (Ne.symm I.ne)).trans I.obj,Pu,I.ne⟩ sv)
theorem Fs{R:Result->Shared->Prop}{vs:List Value}{kw:List (Str × Value)}(X:K.In s.heap)(hm:PySem.W.makesIn K C=true)
 (hi:PySem.W.findIn K (.ref C) "__init__"=some (some (.ref f))) (hf:PySem.W.typeIn K (.ref f)=some (.type "function"))
 (h:codeAny (model prog w) (A.under (.builtin "type.__call__" ⟨.ref C ::vs,kw⟩)) (.call (.ref f) ⟨.ref (s.heap.objs.size+1) ::vs,kw⟩) (PySem.W.InitBack (s.heap.objs.size+1) R)
   {s with heap:=(s.heap.push PySem.W.emptyDict).push (PySem.W.instObj C s.heap.objs.size)}) :
 codeAny (model prog w) A (.call (.ref C) ⟨vs,kw⟩) R s:=by
 obtain⟨hh,g,d,t,os⟩:=s;exact PySem.W.make_core (PySem.W.makes_of X hm) (PySem.W.looks_findIn X hi) (fun self=>PySem.W.bind_fn X self hf) (.inl rfl) h
end
def kD(f:Str)(v:V):List (Str × V)->List (Str × V)
 | []=>[(f,v)]
 | (g,x) ::r=>if g=f then(g,v) ::r else(g,x) ::kD f v r
theorem sf(f g:Str)(v:V):∀fs:List (Str × V),(kD f v fs).lookup g=if g=f then some v else fs.lookup g
 | []=>by
   show List.lookup g [(f,v)]=_;by_cases h:g=f
   .have hb:(g==f)=true:=beq_iff_eq.mpr h;simp only[List.lookup,hb,if_pos h]
   .have hb:(g==f)=false:=beq_eq_false_iff_ne.mpr h;simp only[List.lookup,hb,if_neg h]
 | (k,x) ::r=>by
   have ih:=sf f g v r;rw[show kD f v ((k,x) ::r)=(if k=f then(k,v) ::r else(k,x) ::kD f v r) from rfl]
   by_cases hk:k=f
   .rw [if_pos hk];by_cases h:g=k
    .have hb:(g==k)=true:=beq_iff_eq.mpr h;simp only[List.lookup,hb,if_pos (h.trans hk)]
    .have hb:(g==k)=false:=beq_eq_false_iff_ne.mpr h;simp only[List.lookup,hb,if_neg (fun e:g=f=>h (e.trans hk.symm))]
   .rw [if_neg hk];by_cases h:g=k
    .have hb:(g==k)=true:=beq_iff_eq.mpr h;simp only[List.lookup,hb,if_neg (fun e:g=f=>hk (h.symm.trans e))]
    .have hb:(g==k)=false:=beq_eq_false_iff_ne.mpr h;simp only[List.lookup,hb];exact ih
theorem qU(f:Str)(v:V):∀fs:List (Str × V),f∈(kD f v fs).map (·.1)/\∀g,g∈fs.map (·.1)->g∈(kD f v fs).map (·.1)
 | []=>⟨by simp [kD],fun g h=>by simp at h⟩
 | (k,x) ::r=>by
   obtain⟨i1,i2⟩:=qU f v r;rw[show kD f v ((k,x) ::r)=(if k=f then(k,v) ::r else(k,x) ::kD f v r) from rfl]
   by_cases hk:k=f
   .rw [if_pos hk];subst hk;exact⟨by simp,fun g h=>by simpa using h⟩
   .rw [if_neg hk];refine⟨?_,fun g h=>?_⟩
    .rw [List.map_cons];exact List.mem_cons_of_mem _ i1
    .rw [List.map_cons] at h ⊢;rcases List.mem_cons.mp h with e | e
     .exact List.mem_cons.mpr (.inl e)
     .exact List.mem_cons_of_mem _ (i2 g e)
theorem sj(f:Str)(v:V):∀fs:List (Str × V),(kD f v fs).length<=fs.length+1
 | []=>by simp [kD]
 | (k,x) ::r=>by
   have ih:=sj f v r;rw[show kD f v ((k,x) ::r)=(if k=f then(k,v) ::r else(k,x) ::kD f v r) from rfl]
   by_cases hk:k=f
   .rw [if_pos hk,List.length_cons,List.length_cons];omega
   .rw [if_neg hk,List.length_cons,List.length_cons];omega
theorem mR.some_of{v:V}{o:Option Value}(r:mR (some v) o):∃u,o=some u/\RelV v u:=by
 cases o with
 | none=>exact(show False from r).elim
 | some u=>exact⟨u,rfl,r⟩
theorem mR.none_of{o:Option Value}(r:mR none o):o=none:=by
 cases o with
 | none=>rfl
 | some u=>exact(show False from r).elim
theorem DH{v:V}{u:Value}(r:RelV v u):PySem.W.handedIn u=true:=by
 cases v with
 | cX=>cases(show u=Value.none from r);rfl
 | bl b=>cases(show u=Value.bool b from r);rfl
 | int i=>obtain⟨t,e⟩:=(show ∃t,u=Value.int i t from r);cases e;rfl
 | str x=>obtain⟨t,e⟩:=(show ∃t,u=Value.str x t from r);cases e;rfl
 | byt b=>obtain⟨t,e⟩:=(show ∃t,u=Value.bytes b t from r);cases e;rfl
 | flt b=>obtain⟨t,e⟩:=(show ∃t,u=Value.float b t from r);cases e;rfl
 | ref a=>cases(show u=Value.ref a from r);rfl
 | ty n=>cases(show u=Value.type n from r);rfl
section
variable {P:Program} {w:World} {H H':Hp} {h h':Heap} {a C dx:Addr} {fs MS:List (Str × V)}
theorem xH(hok:oq P w H h)(e:H a=some (.ins C dx fs)):∃mA,Ap h a dx C mA/\(∀f,mR (fs.lookup f) (mA f))/\PySem.Within mA (fs.map (·.1))/\fs.length<=1000/\H dx=some (.own a):=by
 obtain⟨d,z,ne,ob,mA,n,r,q⟩:=(show eF P w H h a (.ins C dx fs) from hok a _ e)
 exact⟨mA,⟨ob,n,ne⟩,r,q,z,d⟩
end
structure zW (K:W.Frag) (C:Addr):Prop where
 pg:PySem.W.plainGet K C Str.empty=true
 hd:PySem.W.hasDictIn K C=true
 po:PySem.W.plainOver K C=true
 sa:PySem.W.findIn K (.ref C) "__setattr__"=some (some (.builtin "object.__setattr__"))
theorem zW.get{K:W.Frag}{C:Addr}(c:zW K C)(f:Str):PySem.W.plainGet K C f=true:=c.pg
def eD(K:W.Frag)(C:Addr)(f:Str):Prop:=PySem.W.findIn K (.ref C) f=some none
theorem eD.Oe{K:W.Frag}{C:Addr}(n:eD K C f):PySem.W.takerIn K C f=some none:=by
 unfold PySem.W.takerIn;rw[show PySem.W.findIn K (.ref C) f=some none from n]
 rfl
structure UB (K:W.Frag) (C:Addr) (f:Str) (v:V) (u:Value):Prop where
 at_:PySem.W.findIn K (.ref C) f=some (some u)
 rel:RelV v u
 get:PySem.W.specialIn K u "__get__"=some none
 cp:PySem.W.copiedNames.contains f=false
structure Meth (K:W.Frag) (C:Addr) (m:Str) (f:Addr):Prop where
 at_:PySem.W.findIn K (.ref C) m=some (some (.ref f))
 fn:PySem.W.isFn K (.ref f)=true
 kp:PySem.W.keepIn K (.ref f)=true
section
variable {X:Cx} {pins:WH} {σ:St} {H:Hp} {s:Shared} {a C dx:Addr} {fs:List (Str × V)} {f:Str} {v:V} {A:Around} {E:WI}
theorem AX{b:Bool}{Q:WI}(I:Inv X pins σ H s)(e:H a=some (.ins C dx fs))(c:zW X.K C)(n:eD X.K C f)(l:fs.lookup f=some v)
 (h:∀u s',Inv X pins σ H s'->RelV v u->Q u s'):wpAny (model X.prog X.w) A (getAttr (.ref a) f b) Q E s:=by
 obtain⟨mA,O,r,_,_,_⟩:=xH I.hok e;obtain⟨u,hu,ru⟩:=mR.some_of (v:=v) (o:=mA f) (by rw[<-l];exact r f)
 exact get_map I.Cn O (c.get f) c.hd n hu (DH ru) (h u _ (I.tok _) ru)
theorem zZ{m:Str}{g:Addr}{pl:Sem Bool}{Q:Value × List Value->Shared->Prop}(I:Inv X pins σ H s)(e:H a=some (.ins C dx fs))(c:zW X.K C)(k:Meth X.K C m g)(l:fs.lookup m=none)
 (h:Q (.ref g,[.ref a]) s):wpAny (model X.prog X.w) A (getMethod (.ref a) m pl) Q E s:=by
 obtain⟨mA,O,r,_,_,_⟩:=xH I.hok e;have hn:mA m=none:=mR.none_of (by rw[<-l];exact r m)
 exact E9 I.Cn O (c.get m) k.at_ k.fn hn h
theorem AM{y:V}{u:Value}{Q:Unit->Shared->Prop}(I:Inv X pins σ H s)(e:H a=some (.ins C dx fs))(c:zW X.K C)(n:eD X.K C f)(hl:fs.length < 1000)(ry:RelV y u)
 (h:∀s',Inv X pins σ (upd H a (.ins C dx (kD f y fs))) s'->Q () s'):wpAny (model X.prog X.w) A (setAttr (.ref a) f u) Q E s:=by
 obtain⟨mA,O,r,wi,_,ho⟩:=xH I.hok e;have hz:(fs.map (·.1)).length<=sizeLine:=by rw[List.length_map,sizeLine_eq];omega
 refine HP I.Cn O c.sa c.po n.Oe c.hd wi hz fun h' O' sb=>h _ ?_
 have hd:∃o,h'.get? dx=some o:=let⟨o,_,_,e',_⟩:=O'.ns;⟨o,e'⟩
 refine I.write (x:=a) (e:=dx) (by rw[e];exact True.intro) (.inr ho) (fun b q hb z=>(sb.2 b hb).trans z) hd ?_
 refine⟨by rw[bg O.ne];exact ho,?_,O.ne,O'.obj,_,O'.ns,fun g=>?_,fun g hg=>?_⟩
 .have:=sj f y fs;omega
 .show mR ((kD f y fs).lookup g) (if g=f then some u else mA g)
  rw[sf];by_cases q:g=f
  .rw [if_pos q,if_pos q];exact ry
  .rw [if_neg q,if_neg q];exact r g
 .by_cases q:g=f
  .rw [q];exact(qU f y fs).1
  .refine(qU f y fs).2 g (wi g fun z=>hg ?_)
   show(if g=f then some u else mA g)=none
   rw[if_neg q];exact z
theorem Inv.made(I:Inv X pins σ H s):Inv X pins σ (upd (upd H s.heap.objs.size (.own (s.heap.objs.size+1))) (s.heap.objs.size+1) (.ins C s.heap.objs.size []))
 {s with heap:=(s.heap.push PySem.W.emptyDict).push (PySem.W.instObj C s.heap.objs.size)}:=by
 have e1:(s.heap.push PySem.W.emptyDict).get? s.heap.objs.size=some PySem.W.emptyDict:=Heap.get?_push_size s.heap rfl;have e2:((s.heap.push PySem.W.emptyDict).push (PySem.W.instObj C s.heap.objs.size)).get? (s.heap.objs.size+1)=some (PySem.W.instObj C s.heap.objs.size):=by
  have:=Heap.get?_push_size (s.heap.push PySem.W.emptyDict) (o:=PySem.W.instObj C s.heap.objs.size) rfl
  rwa [Heap.size_push] at this
 have e3:(s.heap.push PySem.W.emptyDict).Ns s.heap.objs.size (fun _=>none):=⟨PySem.W.emptyDict,#[],_,e1,rfl,(fun e he=>absurd he (by simp)),fun _=>rfl⟩
 have I1:=I.laid (a:=s.heap.objs.size) (o:= .own (s.heap.objs.size+1)) (h':=s.heap.push PySem.W.emptyDict) (t':=s.toks) (fun b u q=>Heap.get?_push_of_some _ q) (Nat.le_refl _) ⟨_,e1⟩
 refine I1.laid (a:=s.heap.objs.size+1) (o:= .ins C s.heap.objs.size []) (t':=s.toks) (fun b u q=>Heap.get?_push_of_some _ q) (Nat.le_of_eq (Heap.size_push _ _)) ?_
 have ne:s.heap.objs.size≠s.heap.objs.size+1:=Nat.ne_of_lt (Nat.lt_succ_self _);refine⟨by rw[bg ne,aY],Nat.zero_le _,ne,e2,fun _=>none,(Heap.Ns1.of_empty e3).at fun o q=>Heap.get?_push_of_some _ q,fun _=>True.intro,fun y hy=>absurd rfl hy⟩
theorem IK{prog:Program}{w:World}{env:Env}{e:Expr}{f:Str}{pos:Pos}{s:Shared}{Q:WI}(hb:attributeBase e f env (eval e env)=eval e env)
 (h:wpAny (model prog w) A (eval e env) (fun o s₁=>wpAny (model prog w) A (getAttr o f true) Q E s₁) E s):wpAny (model prog w) A (eval (.Attribute e f pos) env) Q E s:=
 Attribute_any_ h (by rw[arm_eval_Attribute,hb])
end
def PV(K:W.Frag)(ta:TE)(f:Str):TE:=fun σ H Q=>ta σ H fun x H1=>∃a C dx fs v,x= .ref a/\H1 a=some (.ins C dx fs)/\zW K C/\eD K C f/\fs.lookup f=some v/\Q v H1
def TR(K:W.Frag)(ta:TE)(f:Str):TE:=fun σ H Q=>ta σ H fun x H1=>∃a C dx fs v u,x= .ref a/\H1 a=some (.ins C dx fs)/\zW K C/\UB K C f v u/\fs.lookup f=none/\Q v H1
def Qy(K:W.Frag)(ta tv:TE)(f:Str):TS:=fun D σ H=>tv σ H fun y H1=>ta σ H1 fun x H2=>∃a C dx fs,x= .ref a/\H2 a=some (.ins C dx fs)/\zW K C/\eD K C f/\fs.length < 1000/\
 D.nx σ (upd H2 a (.ins C dx (kD f y fs)))
def Tw(X:Cx)(op:Operator)(rd:V->V->Hp->VK->Prop):Prop:=
 ∀(pins:WH) (s:Shared) (σ:St) (H:Hp) (x y:V) (u v:Value) (Q:VK),Inv X pins σ H s->RelV x u->RelV y v->rd x y H Q->wpAny (model X.prog X.w) X.A (inplaceOp op u v) (EP X pins σ Q) X.xe s
def Pf(K:W.Frag)(ta tv:TE)(rd:V->V->Hp->VK->Prop)(f:Str):TS:=fun D σ H=>ta σ H fun x H1=>∃a C dx fs v,x= .ref a/\H1 a=some (.ins C dx fs)/\zW K C/\eD K C f/\fs.lookup f=some v/\
 tv σ H1 fun y H2=>rd v y H2 fun z H3=>∃dx' MS,H3 a=some (.ins C dx' MS)/\MS.length < 1000/\D.nx σ (upd H3 a (.ins C dx' (kD f z MS)))
section
variable {X:Cx} {o e value:Expr} {f:Str} {pos pos' vq:Pos} {ta tv:TE}
theorem K7(he:PE X e ta)(hb:attributeBase e f X.env (eval e X.env)=eval e X.env):PE X (.Attribute e f pos) (PV X.K ta f):=by
 intro pins s σ H Q I h;refine IK hb (dH (he pins s σ H _ I h) fun u s1 ⟨x,H1,I1,rx,a,C,dx,fs,v,ex,ea,c,n,l,q⟩=>?_)
 subst ex;obtain rfl:u=Value.ref a:=rx;exact AX I1 ea c n l fun u' s2 I2 ru=>⟨v,H1,I2,ru,q⟩
theorem Lq(ha:PE X o ta)(hv:PE X value tv)(hs:swapsWith value (some (.Attribute o f pos')) pos.line X.env=pure false):PS X (.Assign [.Attribute o f pos'] value pos) (Qy X.K ta tv f):=by
 intro pins s σ H D I h;refine plainObj_wpAny_Assign_Attribute (dH (hv pins s σ H _ I h) fun u s1 ⟨y,H1,I1,ry,q⟩=>dH (ha pins s1 σ H1 _ I1 q) fun ov s2 ⟨x,H2,I2,rx,a,C,dx,fs,ex,ea,c,n,l,q2⟩=>?_) hs
 subst ex;obtain rfl:ov=Value.ref a:=rx;exact AM I2 ea c n l ry fun s3 I3=>⟨σ,_,I3,q2⟩
def Tv:V->V->Hp->VK->Prop:=fun x y H Q=>∃i j,x= .int i/\y= .int j/\Q (.int (i+j)) H
def TH:V->V->Hp->VK->Prop:=fun x y H Q=>∃i j,x= .int i/\y= .int j/\Q (.int (i - j)) H
end
section
variable {X:Cx} {pins:WH} {σ:St} {H:Hp} {s:Shared} {A:Around} {E:WI} {Q:WI} {c:Value} {b:Bool}
inductive vb (K:W.Frag) (H:Hp):V->Value->Prop where
 | cX:vb K H .cX (.type "NoneType")
 | bl (x:Bool):vb K H (.bl x) (.type "bool")
 | int (i:Int):vb K H (.int i) (.type "int")
 | str (x:Str):vb K H (.str x) (.type "str")
 | flt (x:UInt64):vb K H (.flt x) (.type "float")
 | lst {a:Addr} {xs:List V} (e:H a=some (.lst xs)):vb K H (.ref a) (.type "list")
 | kL {a:Addr} {o:Obj} {xs:List V} (e:H a=some (.kL o (.lst xs))):vb K H (.ref a) (.type "list")
 | tup {a:Addr} {xs:List V} (e:H a=some (.tup xs)):vb K H (.ref a) (.type "tuple")
 | dK {a:Addr} {aL:List (Key × V)} (e:H a=some (.dK aL)):vb K H (.ref a) (.type "dict")
 | dT {a:Addr} {aL:List (List Key × V)} (e:H a=some (.dT aL)):vb K H (.ref a) (.type "dict")
 | ins {a C dx:Addr} {fs:List (Str × V)} (e:H a=some (.ins C dx fs)) (cl:zW K C) (ha:PySem.W.findIn K (.ref C) "__class__"=some (some (.builtin "object.__class__")))
    (hn:PySem.W.specialIn K (.builtin "object.__class__") "__get__"=some (some (.builtin "getset_descriptor.__get__"))) (Wy:PySem.W.takesIn K (.builtin "object.__class__")=some true)
    (hm:PySem.W.mroIn K C (.type "object")=some true):vb K H (.ref a) (.ref C)
end
structure eB (k:Nat) (A:Around):Prop where
 hd:A.handled=none
 dp:A.depth+3*k+5 < recursionLimit
 un:A.units+16*k+200 < cLine
theorem eB.mono{j k:Nat}(r:eB k A)(h:j<=k):eB j A:=⟨r.hd,by have:=r.dp;omega,by have:=r.un;omega⟩
theorem eB.deeper{k:Nat}{A:Around}(r:eB (k+1) A)(env:Env):eB k (A.deeper env):=
 ⟨r.hd,by have:=r.dp;show A.depth+1+3*k+5 < _;omega,by have:=r.un;show A.units+3+16*k+200 < _;omega⟩
theorem Aq{A:Around}{C:Addr}{us:List Value}{kw:List (Str × Value)}:(A.under (.builtin "type.__call__" ⟨.ref C ::us,kw⟩)).depth=A.depth+1:=by
 first | rfl | simp [Around.under,Code.weight,Code.isCreation,Code.isGuard,Code.isCaller,Code.frames,Code.isFrame,guardIds]
theorem AJ{A:Around}{C:Addr}{us:List Value}{kw:List (Str × Value)}:(A.under (.builtin "type.__call__" ⟨.ref C ::us,kw⟩)).units=A.units+1:=by
 first | rfl | simp [Around.under,Code.cUnits,Code.frames,Code.isFrame]
theorem eB.make{k:Nat}{A:Around}(r:eB (k+1) A)(C:Addr)(us:List Value)(kw:List (Str × Value)):eB k (A.under (.builtin "type.__call__" ⟨.ref C ::us,kw⟩)):=
 ⟨r.hd,by have:=r.dp;rw [Aq];omega,by have:=r.un;rw [AJ];omega⟩
theorem eB.depth{k:Nat}{A:Around}(r:eB k A):A.depth < recursionLimit:=by have:=r.dp;omega
theorem eB.units{k:Nat}{A:Around}(r:eB k A):A.units+64 < cLine:=by have:=r.un;omega
def QT:TA:=fun _ H Q=>Q [] H
def OD(ta:TE)(tr:TA):TA:=fun σ H Q=>ta σ H fun x H1=>tr σ H1 fun xs H2=>Q (x ::xs) H2
section
variable {X:Cx} {e:Expr} {es:List Expr} {te:TE} {t:TA} {pos:Pos}
theorem fZ:PA X [] QT:=fun _ _ _ _ H Q I h=>Calls.spliced_nil ⟨[],H,I, .nil,h⟩
theorem c9(ha:PE X e te)(hr:PA X es t)(hs:starEach (e ::es) X.env=(false,eval e X.env) ::starEach es X.env:=by rfl):PA X (e ::es) (OD te t):=by
 intro pos pins s σ H Q I h;rw[hs];show wpAny _ _ (spliced ((false,eval e X.env) ::backTo pos (starEach es X.env))) _ _ s;refine Calls.spliced_cons (dH (ha pins s σ H _ I h) fun u s1 ⟨x,H1,I1,r1,q1⟩=>?_)
 exact dH (hr pos pins s1 σ H1 _ I1 q1) fun us s2 ⟨xs,H2,I2,r2,q2⟩=>⟨x ::xs,H2,I2, .cons r1 r2,q2⟩
def PY(t:TA):TE:=fun σ H Q=>t σ H fun xs H1=>xs.length<=sizeLine/\∀p,H1 p=none->Q (.ref p) (upd H1 p (.tup xs))
def Q3(t:TA):TE:=fun σ H Q=>t σ H fun xs H1=>xs.length<=sizeLine/\∀p,H1 p=none->Q (.ref p) (upd H1 p (.lst xs))
theorem GX{x1}(h:PA X es t):PE X (.Tuple es x1 pos) (PY t):=by
 intro pins s σ H Q I hq;refine wpAny_Tuple_spliced (dH (h pos pins s σ H _ I hq) fun us s1 ⟨xs,H1,I1,r,z,q⟩=>⟨by rw[<-r.length];exact z,?_⟩)
 have hf:H1 s1.heap.objs.size=none:=I1.hok.fresh (Nat.le_refl _);refine⟨.ref s1.heap.objs.size,upd H1 s1.heap.objs.size (.tup xs),I1.laid (t':=s1.toks) (fun b u e=>Heap.get?_push_of_some _ e) (Nat.le_refl _) ?_,rfl,q _ hf⟩
 exact⟨z,us,r,⟨_,Heap.get?_push_size _ rfl,rfl,_,rfl⟩⟩
theorem Gh(h:PA X es t):PE X (.List es pos) (Q3 t):=by
 intro pins s σ H Q I hq;refine wpAny_List_spliced (dH (h pos pins s σ H _ I hq) fun us s1 ⟨xs,H1,I1,r,z,q⟩=>⟨by rw[<-r.length];exact z,?_⟩)
 have hf:H1 s1.heap.objs.size=none:=I1.hok.fresh (Nat.le_refl _);refine⟨.ref s1.heap.objs.size,upd H1 s1.heap.objs.size (.lst xs),I1.laid (t':=s1.toks) (fun b u e=>Heap.get?_push_of_some _ e) (Nat.le_refl _) ?_,rfl,q _ hf⟩
 exact⟨z,us,0,r,Heap.get?_push_size _ rfl⟩
end
abbrev Sp:=List V->Hp->VK->XK->Prop
abbrev EG:=List Env->Hp->Shared->XK->Value->Shared->Prop
structure A4 (P:Program) (w:World) (K:W.Frag) (mg:WM) (base:Heap) (A:Around) (outer:List Env) (s:Shared) (H:Hp):Prop where
 frames:A.frames=some outer
 mod:Mod K mg base
 bs:∀b o,base.get? b=some o->s.heap.get? b=some o/\H b=none
 bsz:base.objs.size<=s.heap.objs.size
 sW:s.heap.FunFrames base outer
 frf:∀b∈Ee outer,H b=none
 hok:oq P w H s.heap
 bare:AllBare s.gens
def CE(outer:List Env)(P:Program)(w:World)(H:Hp)(s:Shared)(Q:VK)(u:Value)(s':Shared):Prop:=
 ∃v H',s'.os=s.os/\AllBare s'.gens/\Un (Ee outer) [] H H' s.heap s'.heap/\oq P w H' s'.heap/\RelV v u/\Q v H'
def CR(CX:EG)(outer:List Env)(P:Program)(w:World)(H:Hp)(s:Shared)(Q:VK)(E:XK)(r:Result)(s':Shared):Prop:=
 match r with
 | .ok (.ret u)=>CE outer P w H s Q u s'
 | .ok _=>False
 | .error e=>CX outer H s E e s'
structure js (P:Program) (w:World) (K:W.Frag) (mg:WM) (base:Heap) (CX:EG) (k:Nat) (f:Addr) (fd:FuncData) (ps:List Str) (sp:Sp):Prop where
 len:∀vs H Q E,sp vs H Q E->vs.length=ps.length
 run:∀(A:Around) (outer:List Env) (s:Shared) (H:Hp) (args:Args) (us:List Value) (vs:List V) (Q:VK) (E:XK),eB k A->A4 P w K mg base A outer s H->BindsTo s fd args (ps.zip us)->Vals vs us->sp vs H Q E->
  codeAny (model P w) A (.call (.ref f) args) (CR CX outer P w H s Q E) s
theorem js.imp{P:Program}{w:World}{K:W.Frag}{mg:WM}{base:Heap}{CX:EG}{k:Nat}{f:Addr}{fd:FuncData}{ps:List Str}{sp Ta:Sp}(F:js P w K mg base CX k f fd ps sp)
 (h:∀vs H Q E,Ta vs H Q E->sp vs H Q E):js P w K mg base CX k f fd ps Ta:=
 ⟨fun vs H Q E q=>F.len vs H Q E (h _ _ _ _ q),fun A outer s H args us vs Q E hr he hb hv hs=>F.run A outer s H args us vs Q E hr he hb hv (h _ _ _ _ hs)⟩
theorem A4.make{K:W.Frag}{mg:WM}{outer:List Env}{s:Shared}(e:A4 P w K mg base A outer s H)(C:Addr)(us:List Value)(kw:List (Str × Value)) :
 A4 P w K mg base (A.under (.builtin "type.__call__" ⟨.ref C ::us,kw⟩)) outer s H:=⟨by first | exact e.frames | (simpa [Around.under,Code.envs,Code.isFrame,pushEnvs] using e.frames),e.mod,e.bs,e.bsz,e.sW,e.frf,e.hok,e.bare⟩
section
variable {X:Cx} {pins:WH} {σ:St} {H:Hp} {s s':Shared}
theorem Inv.OI(I:Inv X pins σ H s):A4 X.prog X.w X.K X.mg X.base X.A X.stack s H:=
 ⟨I.ok.frames,I.ok.mod,I.bs,Nat.le_trans I.ok.bsz I.sz,I.stack,I.BO,I.hok,I.bare⟩
theorem Inv.after{Q:VK}{u:Value}(I:Inv X pins σ H s)(h:CE X.stack X.prog X.w H s Q u s'):EP X pins σ Q u s':=by
 obtain⟨v,H',os,bare,un,hok,r,q⟩:=h;obtain⟨hh,g,d,t,Bk⟩:=s';obtain rfl:Bk=s.os:=os;exact⟨v,H',I.call (h':=hh) (g':=g) (d':=d) (t':=t) (ch:=[]) un hok bare (fun b z=>absurd z (by simp)),r,q⟩
end
def Ob(sp:Sp)(yh:List V)(E:XK)(t:TA):TE:=fun σ H Q=>t σ H fun vs H1=>sp (vs++yh) H1 Q E
def NY(C:Addr)(m:Str)(sp:Sp)(yh:List V)(E:XK)(ta:TE)(t:TA):TE:=fun σ H Q=>ta σ H fun x H1=>∃a dx fs,x= .ref a/\H1 a=some (.ins C dx fs)/\fs.lookup m=none/\
 t σ H1 fun vs H2=>sp (x ::(vs++yh)) H2 Q E
def Nd(C:Addr)(sp:Sp)(yh:List V)(E:XK)(t:TA):TE:=fun σ H Q=>t σ H fun vs H1=>∀x dx,H1 x=none->H1 dx=none->dx≠x->
 sp (.ref x ::(vs++yh)) (upd (upd H1 dx (.own x)) x (.ins C dx [])) (fun v H2=>v= .cX/\Q (.ref x) H2) E
def Binds(K:W.Frag)(fd:FuncData)(ps:List Str)(ds:List Value):Prop:=
 ∀(s:Shared) (us:List Value),K.In s.heap->(us++ds).length=ps.length->BindsTo s fd ⟨us,[]⟩ (ps.zip (us++ds))
theorem Binds.all{K:W.Frag}{fd:FuncData}{ps:List Str}(h:∀us:List Value,us.length=ps.length->bindArgs fd ⟨us,[]⟩=pure (ps.zip us)):Binds K fd ps []:=fun s us _ hl=>by
 rw[List.append_nil] at hl ⊢;exact .of_eq (h us hl)
def Passes(CX:EG)(X:Cx)(E:XK):Prop:=∀(pins:WH) (σ:St) (H:Hp) (s:Shared) (e:Value) (s':Shared),Inv X pins σ H s->CX X.stack H s E e s'->X.xe e s'
section
variable {X:Cx} {CX:EG} {k:Nat} {f C:Addr} {fd:FuncData} {ps:List Str} {sp:Sp} {yh:List V} {ds:List Value} {E:XK} {x m:Str} {p pos apos:Pos} {e o:Expr} {es:List Expr} {ta:TE} {t:TA}
theorem Ge{pins:WH}{σ:St}{H:Hp}{s:Shared}{Q:VK}{us:List Value}{vs:List V}(F:js X.prog X.w X.K X.mg X.base CX k f fd ps sp)(hr:eB k X.A)(hb:Binds X.K fd ps ds)(hd:Vals yh ds)(hx:Passes CX X E)
 (I:Inv X pins σ H s) (r:Vals vs us) (h:sp (vs++yh) H Q E):wpAny (model X.prog X.w) X.A (call (.ref f) us) (EP X pins σ Q) X.xe s:=by
 have r2:Vals (vs++yh) (us++ds):=r.append hd;have hl:(us++ds).length=ps.length:=by rw[<-r2.length];exact F.len _ _ _ _ h
 refine wpAny_call (codeAny_mono (F.run X.A X.stack s H ⟨us,[]⟩ (us++ds) (vs++yh) Q E hr I.OI (hb s us I.Cn hl) r2 h) fun r s' hq=>?_)
 cases r with
 | error e=>exact hx pins σ H s e s' I hq
 | ok fl=>
   cases fl with
   | ret u=>exact I.after hq
   | next=>exact False.elim hq
   | brk=>exact False.elim hq
   | cont=>exact False.elim hq
theorem xS(F:js X.prog X.w X.K X.mg X.base CX k f fd ps sp)(hr:eB k X.A)(hg:Gl X x)(hm:X.mg x=some (.ref f))(hk:PySem.W.keepIn X.K (.ref f)=true)(hb:Binds X.K fd ps ds)(hd:Vals yh ds)(hx:Passes CX X E)
 (ha:PA X (e ::es) t) (rB:(x==("__debug__":Str))=false:=by decide) (he:starEach (e ::es) X.env=(false,eval e X.env) ::starEach es X.env:=by rfl) (my:(backTo pos (starEach es X.env)).any (·.1)=false:=by rfl) :
 PE X (.Call (.Name x p) (e ::es) [] pos) (Ob sp yh E t):=by
 intro pins s σ H Q I h;refine wpAny_Call_Name_kw (xy I hg hm ?_ rB);refine PySem.W.callWith_K (h₀:=X.base) I.ok.mod.kin hk (dH (ha pos pins s σ H _ I h) fun us s1 ⟨vs,H1,I1,r,q⟩=>⟨I1.Cn,?_⟩) he my
 exact Ge F hr hb hd hx I1 r q
theorem IS{pl:Sem Bool}(he:PE X o ta)(c:zW X.K C)(hm:Meth X.K C m f)(F:js X.prog X.w X.K X.mg X.base CX k f fd ps sp)(hr:eB k X.A)(hb:Binds X.K fd ps ds)(hd:Vals yh ds)(hx:Passes CX X E)(ha:PA X (e ::es) t)
 (D_:starEach (e ::es) X.env=(false,eval e X.env) ::starEach es X.env:=by rfl) (my:(backTo pos (starEach es X.env)).any (·.1)=false:=by rfl)
 (ht:eval (.Call (.Attribute o m apos) (e ::es) [] pos) X.env=(do
   let ov <-eval o X.env
   standAt apos.atName
   let(f,first) <-holding [ov] (getMethod ov m pl)
   callWith pos f first (backTo pos (starEach (e ::es) X.env)) (backToKw pos (keywordEach [] X.env))):=by rfl) :
 PE X (.Call (.Attribute o m apos) (e ::es) [] pos) (NY C m sp yh E ta t):=by
 intro pins s σ H Q I h;refine PySem.W.methodCall_KW (pl:=pl) (dH (he pins s σ H _ I h) fun u s1 ⟨x,H1,I1,rx,a,dx,fs,ex,ea,l,q⟩=>?_) ht
 subst ex;obtain rfl:u=Value.ref a:=rx;refine zZ I1 ea c hm l ?_;refine PySem.W.callWith_K (first:=[.ref a]) (h₀:=X.base) I.ok.mod.kin hm.kp (dH (ha pos pins s1 σ H1 _ I1 q) fun us s2 ⟨vs,H2,I2,r,q2⟩=>⟨I2.Cn,?_⟩) D_ my
 exact Ge (us:= .ref a ::us) (vs:= .ref a ::vs) F hr hb hd hx I2 (.cons rfl r) q2
structure Mk (K:W.Frag) (C f:Addr):Prop where
 makes:PySem.W.makesIn K C=true
 init:PySem.W.findIn K (.ref C) "__init__"=some (some (.ref f))
 fn:PySem.W.isFn K (.ref f)=true
 kp:PySem.W.keepIn K (.ref C)=true
theorem Fw{pins:WH}{σ:St}{H:Hp}{s:Shared}{Q:VK}{us:List Value}{vs:List V}(M:Mk X.K C f)(F:js X.prog X.w X.K X.mg X.base CX k f fd ps sp)(hr:eB (k+1) X.A)(hb:Binds X.K fd ps ds)(hd:Vals yh ds)
 (hx:Passes CX X E) (I:Inv X pins σ H s) (r:Vals vs us)
 (h:∀x dx,H x=none->H dx=none->dx≠x->sp (.ref x ::(vs++yh)) (upd (upd H dx (.own x)) x (.ins C dx [])) (fun v H2=>v= .cX/\Q (.ref x) H2) E) :
 wpAny (model X.prog X.w) X.A (call (.ref C) us) (EP X pins σ Q) X.xe s:=by
 have hq:=h (s.heap.objs.size+1) s.heap.objs.size (I.hok.fresh (Nat.le_succ _)) (I.hok.fresh (Nat.le_refl _)) (Nat.ne_of_lt (Nat.lt_succ_self _));have I2:=Inv.made (C:=C) I;have r2:Vals (V.ref (s.heap.objs.size+1) ::(vs++yh)) (Value.ref (s.heap.objs.size+1) ::(us++ds)):= .cons rfl (r.append hd);have hl:(Value.ref (s.heap.objs.size+1) ::us++ds).length=ps.length:=by
  have e:=r2.length;rw[F.len _ _ _ _ hq] at e;exact e.symm
 refine wpAny_call (Fs (f:=f) I.Cn M.makes M.init (beq_iff_eq.mp M.fn) (codeAny_mono (F.run _ X.stack _ _ ⟨Value.ref (s.heap.objs.size+1) ::us,[]⟩ (Value.ref (s.heap.objs.size+1) ::(us++ds)) _ _ E (hr.make C us [])
  (I2.OI.make C us []) (hb _ (Value.ref (s.heap.objs.size+1) ::us) I2.Cn hl) r2 hq) fun r s' O5=>?_))
 cases r with
 | error e=>exact hx pins σ _ _ e s' I2 O5
 | ok fl=>
   cases fl with
   | ret u=>
     obtain⟨v,H',I3,rv,ev,q3⟩:=I2.after O5;subst ev;exact⟨rv,⟨V.ref (s.heap.objs.size+1),H',I3,rfl,q3⟩⟩
   | next=>exact False.elim O5
   | brk=>exact False.elim O5
   | cont=>exact False.elim O5
theorem Ie(M:Mk X.K C f)(F:js X.prog X.w X.K X.mg X.base CX k f fd ps sp)(hr:eB (k+1) X.A)(hg:Gl X x)(hm:X.mg x=some (.ref C))(hb:Binds X.K fd ps ds)(hd:Vals yh ds)(hx:Passes CX X E)
 (ha:PA X (e ::es) t) (rB:(x==("__debug__":Str))=false:=by decide) (he:starEach (e ::es) X.env=(false,eval e X.env) ::starEach es X.env:=by rfl) (my:(backTo pos (starEach es X.env)).any (·.1)=false:=by rfl) :
 PE X (.Call (.Name x p) (e ::es) [] pos) (Nd C sp yh E t):=by
 intro pins s σ H Q I h;refine wpAny_Call_Name_kw (xy I hg hm ?_ rB);refine PySem.W.callWith_K (h₀:=X.base) I.ok.mod.kin M.kp (dH (ha pos pins s σ H _ I h) fun us s1 ⟨vs,H1,I1,r,q⟩=>⟨I1.Cn,?_⟩) he my
 exact Fw M F hr hb hd hx I1 r q
end
def PK(X:Cx)(Th:List Keyword)(t:TA):Prop:=
 ∀(pos:Pos) (pins:WH) (s:Shared) (σ:St) (H:Hp) (Q:List V->Hp->Prop),Inv X pins σ H s->t σ H Q->wpAny (model X.prog X.w) X.A (evalAll ((backToKw pos (keywordEach Th X.env)).map (·.2))) (AP X pins σ Q) X.xe s
section
variable {X:Cx} {CX:EG} {k:Nat} {f C:Addr} {fd:FuncData} {ps ks:List Str} {sp:Sp} {E:XK} {x m:Str} {p pos apos VX:Pos} {e o:Expr} {es:List Expr} {Th:List Keyword} {te ta:TE} {t tk:TA} {nm:Option Str}
structure QE (K:W.Frag) (fd:FuncData) (ps ks:List Str) (g:List Value->List Value->List Value) (gV:List V->List V->List V):Prop where
 to:∀(s:Shared) (us ws:List Value),K.In s.heap->(g us ws).length=ps.length->BindsTo s fd ⟨us,ks.zip ws⟩ (ps.zip (g us ws))
 rel:∀{vs:List V} {us:List Value} {zs:List V} {ws:List Value},Vals vs us->Vals zs ws->Vals (gV vs zs) (g us ws)
def QC(sp:Sp)(gV:List V->List V->List V)(E:XK)(t tk:TA):TE:=fun σ H Q=>t σ H fun vs H1=>tk σ H1 fun zs H2=>sp (gV vs zs) H2 Q E
variable {g:List Value->List Value->List Value} {gV:List V->List V->List V}
end
structure aW (N P:List Str) (sc:Scope):Prop where
 kind:sc.kind= .function
 co:sc.isCoroutine=false
 gen:sc.isGenerator=false
 nd:N.Nodup
 pre:N.take P.length=P
 par:∀x∈P,sc.names.lookup x=some .local\/sc.names.lookup x=some .cell
 nofree:∀y∈sc.names,y.2≠ .free
theorem v7{kindOf:Str->Option NameKind}:∀{binds:List (Str × Value)} {m:WM},(∀v,(x,v) ∉ binds)->bindL kindOf binds m x=m x
 | [],_,_=>rfl
 | (n,v) ::r,m,h=>by
   unfold bindL;rw[v7 fun w hw=>h w (List.mem_cons_of_mem _ hw)]
   split
   .have:x≠n:=by rintro rfl;exact h v List.mem_cons_self
    simp [this]
   .rfl
theorem wz{kindOf:Str->Option NameKind}:∀{binds:List (Str × Value)} {m:WM},(∀v,(x,v) ∉ binds)->bindC kindOf binds m x=m x
 | [],_,_=>rfl
 | (n,v) ::r,m,h=>by
   unfold bindC;rw[wz fun w hw=>h w (List.mem_cons_of_mem _ hw)]
   split
   .rfl
   .have:x≠n:=by rintro rfl;exact h v List.mem_cons_self
    simp [this]
theorem wg{kindOf:Str->Option NameKind}{v:Value}:∀{P:List Str} {vs:List Value} {i:Nat} {m:WM},P.Nodup->P[i]? =some x->vs[i]? =some v->kindOf x=some .local->
 bindL kindOf (P.zip vs) m x=some v
 | [],_,_,_,_,h,_,_=>by simp at h
 | _ ::_,[],_,_,_,_,h,_=>by simp at h
 | p ::P,w ::vs,0,m,nd,h1,h2,hk=>by
   simp at h1 h2;subst h1;subst h2;show bindL kindOf ((p,w) ::P.zip vs) m p=_;unfold bindL;rw[v7 fun v hv=>(List.nodup_cons.mp nd).1 (List.of_mem_zip hv).1,if_pos hk]
   simp
 | p ::P,w ::vs,i+1,m,nd,h1,h2,hk=>by
   show bindL kindOf ((p,w) ::P.zip vs) m x=_;unfold bindL;exact wg (i:=i) (List.nodup_cons.mp nd).2 (by simpa using h1) (by simpa using h2) hk
theorem wm{kindOf:Str->Option NameKind}{v:Value}:∀{P:List Str} {vs:List Value} {i:Nat} {m:WM},P.Nodup->P[i]? =some x->vs[i]? =some v->kindOf x≠some .local->
 bindC kindOf (P.zip vs) m x=some v
 | [],_,_,_,_,h,_,_=>by simp at h
 | _ ::_,[],_,_,_,_,h,_=>by simp at h
 | p ::P,w ::vs,0,m,nd,h1,h2,hk=>by
   simp at h1 h2;subst h1;subst h2;show bindC kindOf ((p,w) ::P.zip vs) m p=_;unfold bindC;rw[wz fun v hv=>(List.nodup_cons.mp nd).1 (List.of_mem_zip hv).1,if_neg hk]
   simp
 | p ::P,w ::vs,i+1,m,nd,h1,h2,hk=>by
   show bindC kindOf ((p,w) ::P.zip vs) m x=_;unfold bindC;exact wm (i:=i) (List.nodup_cons.mp nd).2 (by simpa using h1) (by simpa using h2) hk
def start(N:List Str)(vs:List V):St:=vs.map some++List.replicate (N.length - vs.length) none
def uU(CX:EG)(P:Program)(w:World)(K:W.Frag)(mg:WM)(base:Heap)(N:List Str)(qual:Str)(scope:Scope)(f:Addr)(cd:Value)(A:Around)(outer:List Env)(s:Shared)(H:Hp)(E:XK):Cx where
 prog:=P
 w:=w
 K:=K
 mg:=mg
 base:=base
 A:=A.deeper (envOfC qual scope s.heap.objs.size f cd)
 N:=N
 s₀:=s
 H₀:=H
 env:=envOfC qual scope s.heap.objs.size f cd
 outer:=outer
 stack:=envOfC qual scope s.heap.objs.size f cd ::outer
 ex:=[]
 calm:=true
 fn:=fun _=>true
 pn:=[]
 xe:=fun e s'=>wpAny (model P w) (A.deeper (envOfC qual scope s.heap.objs.size f cd)) (leaving (envOfC qual scope s.heap.objs.size f cd) e) (fun _ RI=>CX outer H s E e RI) (fun e' RI=>CX outer H s E e' RI) s'
theorem uB{sc:Scope}{n:Nat}(h:sc.names.lookup x=some .cell):∃c,(cellsFrom n sc.names []).lookup x=some c:=by
 have q:=PySem.W.cellsFrom_some sc.names n [] (.inl h);exact Option.isSome_iff_exists.mp q
theorem DR{CX:EG}{P:Program}{w:World}{K:W.Frag}{mg:WM}{base:Heap}{N ps:List Str}{qual:Str}{scope:Scope}{f:Addr}{cd:Value}{A:Around}{outer:List Env}{s s1:Shared}{H:Hp}{E:XK}{us:List Value}{vs:List V}
 (S:aW N ps scope) (hd:A.handled=none) (e0:A4 P w K mg base A outer s H) (hl:vs.length=ps.length) (r:Vals vs us)
 (x:InCallC s s.heap.objs.size (bindL (envOfC qual scope s.heap.objs.size f cd).kindOf (ps.zip us) fun _=>none) (cellsFrom (s.heap.objs.size+1) scope.names []) (bindC (envOfC qual scope s.heap.objs.size f cd).kindOf (ps.zip us) fun _=>none) s1) :
 Inv (uU CX P w K mg base N qual scope f cd A outer s H E) [] (start N vs) H s1:=by
 have my:ps.length<=N.length:=by have:=congrArg List.length S.pre;rw [List.length_take] at this;omega
 obtain⟨h1,tk,rfl,hk⟩:=x.done;have noA:∀b:Addr,b ∉ (uU CX P w K mg base N qual scope f cd A outer s H E).ex:=fun b z=>absurd (show b∈([]:List Addr) from z) (by simp)
 refine⟨⟨e0.mod,S.kind,rfl,rfl,Nat.le_refl _,fun y z c h1 h2=>?_,fun y hy=>?_,fun y c _ h=>?_,fun _=>hd,Around.frames_deeper e0.frames, .inr ⟨rfl,rfl⟩,fun b z=>absurd z (noA b),e0.bs,e0.bsz,fun b _ _=>noA b,fun b z=>absurd z (noA b),e0.sW,e0.frf⟩,
  rfl,e0.bare,Un.kept hk,⟨_,x.toInCall.ns,fun i y v h1 h2 h3=>?_⟩,fun y c h=>⟨_,x.cell y c h⟩,e0.hok.fresh (Nat.le_refl _),fun y c h=>?_,fun p hp=>absurd (show p∈([]:WH) from hp) (by simp),e0.hok.kept hk,?_⟩
 .exact name_of_addr x.apart (PySem.mem_of_lookup h1) (PySem.mem_of_lookup h2)
 .have hy:scope.names.lookup y=some .cell\/scope.names.lookup y=some .free:=hy;rcases hy with hy | hy
  .exact uB hy
  .exact absurd rfl (S.nofree _ (PySem.mem_of_lookup hy))
 .exact Nat.le_of_lt (x.above y c (PySem.mem_of_lookup h))
 .have hi:i < vs.length:=by
   unfold start at h2;by_cases hi:i < vs.length
   .exact hi
   .rw [List.getElem?_append_right (by simpa using hi)] at h2
    rw[List.getElem?_replicate] at h2;split at h2 <;> cases h2
  have ha:vs[i]? =some v:=by
   unfold start at h2;rw[List.getElem?_append_left (by simpa using hi),List.getElem?_map] at h2
   cases e:vs[i]? with
   | none=>rw [e] at h2;cases h2
   | some a=>rw [e] at h2;cases h2;rfl
  obtain⟨u,hu,rv⟩:=r.get ha;have hp:ps[i]? =some y:=by
   rw[<-S.pre,List.getElem?_take_of_lt (by omega)];exact h1
  have ndP:ps.Nodup:=by rw[<-S.pre];exact S.nd.sublist (List.take_sublist _ _)
  refine⟨u,rv,?_⟩;rcases S.par y (List.mem_of_getElem? hp) with k | k
  .exact .inl ⟨k,wg ndP hp hu k⟩
  .obtain⟨c,e⟩:=uB (n:=s.heap.objs.size+1) k;refine .inr ⟨.inl k,c,e,?_⟩;have q:=x.cell y c e;rw[wm ndP hp hu (by show scope.names.lookup y≠_;rw [k];decide)] at q
   exact q
 .exact e0.hok.fresh (Nat.le_of_lt (x.above y c (PySem.mem_of_lookup h)))
 .unfold start;show _=N.length;rw[List.length_append,List.length_map,List.length_replicate];omega
theorem Nm{CX:EG}{P:Program}{w:World}{K:W.Frag}{mg:WM}{base:Heap}{k:Nat}{f:Addr}{name qual:Str}{params:Arguments}{body:List Stmt}{scope:Scope}{dV kV doc pm dI ct oc:Value}{an od:Option Addr}
 {Ho:Array (Option Value)} {N ps:List Str} {sp:Sp} (lk:K.lookup f=some ⟨oc,od, .func (PySem.W.fnOf name qual params body scope dV kV doc pm an dI ct),Ho⟩) (rK:PySem.W.codeIn K dI qual=true) (S:aW N ps scope)
 (len:∀vs H Q E,sp vs H Q E->vs.length=ps.length)
 (lO:∀(A:Around) (outer:List Env) (s:Shared) (H:Hp) (vs:List V) (Q:VK) (E:XK),eB k (A.deeper (envOfC qual scope s.heap.objs.size f dI))->sp vs H Q E->
   ∃t,ym (uU CX P w K mg base N qual scope f dI A outer s H E) body t/\t {nx:=fun _ H'=>Q .cX H',rt:=Q} (start N vs) H) :
 js P w K mg base CX (k+1) f (PySem.W.fnOf name qual params body scope dV kV doc pm an dI ct) ps sp:=by
 refine⟨len,fun A outer s H args us vs Q E hr e0 hb r MW=>?_⟩
 have hl:=len _ _ _ _ MW;have KX:K.In s.heap:=e0.mod.kin.keeps fun b o e=>(e0.bs b o e).1
 have lim:s.heap.NoLimit:=e0.mod.nolimit.keeps fun b o e=>(e0.bs b o e).1
 have hkind:∀y∈ps.zip us,scope.names.lookup y.1=some .local\/(scope.names.lookup y.1=some .cell/\((cellsFrom (s.heap.objs.size+1) scope.names []).lookup y.1).isSome=true):=fun⟨n,v⟩ hy=>by
  rcases S.par n (List.of_mem_zip hy).1 with q | q
  .exact .inl q
  .exact .inr ⟨q,PySem.W.cellsFrom_some _ _ _ (.inl q)⟩
 refine codeAny_call_function hr.depth (KX _ _ lk) rfl S.co S.gen rfl (PySem.W.codeRec_of KX rK) (hb _ _ _ _ ?_);refine wpAny_newFunctionEnv_cells S.kind hkind fun env he s1 x=>?_
 subst he;refine⟨lim.keeps x.toInCall.keep,codeAny_func ?_⟩;obtain⟨t,ht,hq⟩:=lO A outer s H vs Q E (hr.deeper _) MW;have I:Inv (uU CX P w K mg base N qual scope f dI A outer s H E) [] (start N vs) H s1:=DR S hr.hd e0 hl r x;refine wpAny_mono (ht [] s1 (start N vs) H _ I hq) (fun fl s' hs=>?_) fun e s' hs=>hs
 have fin:∀{dy:St} {H':Hp} {v:V} {u:Value},Inv (uU CX P w K mg base N qual scope f dI A outer s H E) [] dy H' s'->RelV v u->Q v H'->CE outer P w H s Q u s':=
  fun {dy H' v u} J rv q=>⟨v,H',J.os,J.bare,J.base,J.hok,rv,q⟩
 cases fl with
 | ret u=>
   obtain⟨v,dy,H',J,rv,q⟩:=hs;exact fin J rv q
 | next=>
   obtain⟨dy,H',J,q⟩:=hs;exact fin (v:=V.cX) (u:=Value.none) J rfl q
 | brk=>
   obtain⟨_,_,_,q⟩:=hs;exact False.elim q
 | cont=>
   obtain⟨_,_,_,q⟩:=hs;exact False.elim q
section
variable {X:Cx} {x:Str} {p pos:Pos} {e:Expr} {es:List Expr} {t:TA} {id T:String} {r:List V->Hp->VK->Prop}
def Sf(r:List V->Hp->VK->Prop)(t:TA):TE:=fun σ H Q=>t σ H fun vs H1=>r vs H1 Q
theorem FP(hc:uC X (.builtin id) r)(hg:Gl X x)(hm:X.mg x=none)(hv:bootBuiltins x=some (.builtin id))(ha:PA X (e ::es) t)(hn:x≠"__name__":=by decide)(rB:(x==("__debug__":Str))=false:=by decide)
 (he:starEach (e ::es) X.env=(false,eval e X.env) ::starEach es X.env:=by rfl) (my:(backTo pos (starEach es X.env)).any (·.1)=false:=by rfl):PE X (.Call (.Name x p) (e ::es) [] pos) (Sf r t):=by
 intro pins s σ H Q I h;refine wpAny_Call_Name_kw (jk I hg hm hv ?_ hn rB);exact PyProof.Rows.callWith_builtin1 (dH (ha pos pins s σ H _ I h) fun us s1 ⟨vs,H1,I1,r1,q1⟩=>hc pins s1 σ H1 vs us Q I1 r1 q1) he my
theorem DG(hc:uC X (.type T) r)(hg:Gl X x)(hm:X.mg x=none)(hv:bootBuiltins x=some (.type T))(ha:PA X (e ::es) t)(hn:x≠"__name__":=by decide)(rB:(x==("__debug__":Str))=false:=by decide)
 (he:starEach (e ::es) X.env=(false,eval e X.env) ::starEach es X.env:=by rfl) (my:(backTo pos (starEach es X.env)).any (·.1)=false:=by rfl):PE X (.Call (.Name x p) (e ::es) [] pos) (Sf r t):=by
 intro pins s σ H Q I h;refine wpAny_Call_Name_kw (jk I hg hm hv ?_ hn rB);exact PyProof.Rows.callWith_type1 (dH (ha pos pins s σ H _ I h) fun us s1 ⟨vs,H1,I1,r1,q1⟩=>hc pins s1 σ H1 vs us Q I1 r1 q1) he my
end
section
variable {κ:Type} [DecidableEq κ]
def kB(aL:List (κ × V))(k:κ):Option V:=(aL.find? fun kv=>decide (kv.1=k)).map (·.2)
def putK(aL:List (κ × V))(k:κ)(v:V):List (κ × V):=
 if(aL.any fun kv=>decide (kv.1=k))=true then aL.map (fun kv=>if kv.1=k then(kv.1,v) else kv) else aL++[(k,v)]
def FQ(aL:List (κ × V))(k:κ):List (κ × V):=aL.filter fun kv=>decide (kv.1≠k)
theorem uA{p:κ × V}{r:List (κ × V)}{k:κ}(e:p.1=k):kB (p ::r) k=some p.2:=by simp [kB,List.find?_cons,e]
theorem uo{p:κ × V}{r:List (κ × V)}{k:κ}(e:¬p.1=k):kB (p ::r) k=kB r k:=by simp [kB,List.find?_cons,e]
theorem yK(k:κ):∀aL:List (κ × V),(aL.any fun kv=>decide (kv.1=k))=(kB aL k).isSome
 | []=>rfl
 | p ::r=>by
   rw[List.any_cons];by_cases e:p.1=k
   .simp only[uA e,decide_eq_true e,Bool.true_or,Option.isSome_some]
   .rw [uo e,decide_eq_false e,Bool.false_or];exact yK k r
theorem nP(aL:List (κ × V))(k:κ)(v:V):(putK aL k v).length<=aL.length+1:=by
 unfold putK;split
 .rw [List.length_map];omega
 .rw [List.length_append,List.length_cons,List.length_nil];omega
theorem mR.lL{o:Option V}{u:Option Value}(r:mR o u):o.isSome=u.isSome:=by
 cases o with
 | none=>cases u with
   | none=>rfl
   | some _=>exact(show False from r).elim
 | some _=>cases u with
   | none=>exact(show False from r).elim
   | some _=>rfl
theorem mR.getD{o:Option V}{u:Option Value}{d:V}{d':Value}(r:mR o u)(rd:RelV d d'):RelV (o.getD d) (u.getD d'):=by
 cases o with
 | none=>cases u with
   | none=>exact rd
   | some _=>exact(show False from r).elim
 | some _=>cases u with
   | none=>exact(show False from r).elim
   | some _=>exact r
theorem KV.val{aL:List (κ × V)}{vs:List (κ × Value)}(r:KV aL vs)(k:κ):mR (kB aL k) (valueAt vs k):=by
 unfold KV at r
 induction r with
 | nil=>exact True.intro
 | @cons p q ps qs h t ih=>
   obtain⟨h1,h2⟩:=h;by_cases e:p.1=k
   .have e':q.1=k:=h1.symm.trans e;have b:valueAt (q ::qs) k=some q.2:=by simp [valueAt,List.find?_cons,e']
    rw[uA e,b];exact h2
   .have e':¬q.1=k:=fun z=>e (h1.trans z)
    have b:valueAt (q ::qs) k=valueAt qs k:=by simp [valueAt,List.find?_cons,e']
    rw[uo e,b];exact ih
theorem KV.any{aL:List (κ × V)}{vs:List (κ × Value)}(r:KV aL vs)(k:κ):(aL.any fun kv=>decide (kv.1=k))=vs.any fun kv=>decide (kv.1=k):=by
 unfold KV at r
 induction r with
 | nil=>rfl
 | cons h t ih=>rw [List.any_cons,List.any_cons,ih,h.1]
theorem KV.KY{aL:List (κ × V)}{vs:List (κ × Value)}(r:KV aL vs)(k:κ){y:V}{u:Value}(ry:RelV y u) :
 KV (aL.map fun kv=>if kv.1=k then(kv.1,y) else kv) (vs.map fun kv=>if kv.1=k then(kv.1,u) else kv):=by
 unfold KV at r ⊢
 induction r with
 | nil=>exact .nil
 | @cons p q ps qs h t ih=>
   rw[List.map_cons,List.map_cons];refine .cons ?_ ih;obtain⟨h1,h2⟩:=h;by_cases e:p.1=k
   .rw [if_pos e,if_pos (h1.symm.trans e)];exact⟨h1,ry⟩
   .rw [if_neg e,if_neg (fun z=>e (h1.trans z))];exact⟨h1,h2⟩
theorem KV.put{aL:List (κ × V)}{vs:List (κ × Value)}(r:KV aL vs)(k:κ){y:V}{u:Value}(ry:RelV y u):KV (putK aL k y) (stored vs k u):=by
 unfold putK stored;rw[r.any k];by_cases e:(vs.any fun kv=>decide (kv.1=k))=true
 .rw [if_pos e,if_pos e];exact r.KY k ry
 .rw [if_neg e,if_neg e];exact Paired.snoc r ⟨rfl,ry⟩
theorem KV.length{aL:List (κ × V)}{vs:List (κ × Value)}(r:KV aL vs):aL.length=vs.length:=Paired.length r
end
theorem t8{k:Key}{u:Value}(r:RelV (kV k) u):(c_ P w).is k u=true:=by
 cases k with
 | inl i=>obtain⟨t,e⟩:=(show ∃t,u=Value.int i t from r);subst e;exact yu P w i t
 | inr x=>obtain⟨t,e⟩:=(show ∃t,u=Value.str x t from r);subst e;exact zf P w x t
theorem wa:∀{ks:List Key} {us:List Value},Vals (ks.map kV) us->ItemsAre (c_ P w) ks us
 | [],_,r=>by rw[List.map_nil] at r;cases r;exact .nil
 | k ::ks,_,r=>by
   rw[List.map_cons] at r;cases r with
   | cons h t=>exact .cons (t8 h) (wa t)
abbrev KT(H:Hp):List (List Key × V)->List (List Key × Addr × Value)->Prop:=Paired fun p q=>p.1=q.1/\H q.2.1=some (.tup (p.1.map kV))/\RelV p.2 q.2.2
theorem KT.val{aL:List (List Key × V)}{xs:List (List Key × Addr × Value)}(r:KT H aL xs)(k:List Key):mR (kB aL k) ((atKey xs k).map (·.2)):=by
 induction r with
 | nil=>exact True.intro
 | @cons p q ps qs h t ih=>
   obtain⟨h1,_,h2⟩:=h;by_cases e:p.1=k
   .have e':q.1=k:=h1.symm.trans e;have b:atKey (q ::qs) k=some q.2:=by simp [atKey,List.find?_cons,e']
    rw[uA e,b];exact h2
   .have e':¬q.1=k:=fun z=>e (h1.trans z)
    have b:atKey (q ::qs) k=atKey qs k:=by simp [atKey,List.find?_cons,e']
    rw[uo e,b];exact ih
theorem KT.KY{aL:List (List Key × V)}{xs:List (List Key × Addr × Value)}(r:KT H aL xs)(k:List Key){y:V}{u:Value}(ry:RelV y u) :
 KT H (aL.map fun kv=>if kv.1=k then(kv.1,y) else kv) (xs.map (putAt k u)):=by
 induction r with
 | nil=>exact .nil
 | @cons p q ps qs h t ih=>
   rw[List.map_cons,List.map_cons];refine .cons ?_ ih;obtain⟨h1,h2,h3⟩:=h;unfold putAt;by_cases e:p.1=k
   .rw [if_pos e,if_pos (h1.symm.trans e)];exact⟨h1,h2,ry⟩
   .rw [if_neg e,if_neg (fun z=>e (h1.trans z))];exact⟨h1,h2,h3⟩
theorem KT.put{H:Hp}{aL:List (List Key × V)}{xs:List (List Key × Addr × Value)}(r:KT H aL xs)(k:List Key){b:Addr}{y:V}{u:Value}(hb:H b=some (.tup (k.map kV)))(ry:RelV y u) :
 KT H (putK aL k y) (storedH xs k b u):=by
 have e:(aL.any fun kv=>decide (kv.1=k))=(atKey xs k).isSome:=by
  rw[yK,(r.val k).lL,Option.isSome_map]
 unfold putK storedH;rw[e];by_cases q:(atKey xs k).isSome=true
 .rw [if_pos q,if_pos q];exact r.KY k ry
 .rw [if_neg q,if_neg q];exact Paired.snoc r ⟨rfl,hb,ry⟩
theorem KT.keeps{H H':Hp}{aL:List (List Key × V)}{xs:List (List Key × Addr × Value)}(r:KT H aL xs)(ht:∀b ys,H b=some (.tup ys)->H' b=some (.tup ys)):KT H' aL xs:=
 Paired.LX r fun _ _ z=>⟨z.1,ht _ _ z.2.1,z.2.2⟩
section
variable {P:Program} {w:World} {H:Hp} {h:Heap} {a:Addr}
theorem JU{u:HO}(ok:oq P w H h)(e:Rd H a u):eF P w H h a u:=e.ok ok
theorem uD{aL:List (Key × V)}(ok:oq P w H h)(e:Rd H a (.dK aL)):aL.length<=sizeLine/\(a==sysModules)=false/\∃vs,KV aL vs/\h.DictOf (c_ P w) a vs:=
 show eF P w H h a (.dK aL) from JU ok e
theorem JW{aL:List (Key × V)}(ok:oq P w H h)(e:H a=some (.dK aL)):aL.length<=sizeLine/\(a==sysModules)=false/\∃vs,KV aL vs/\h.DictOf (c_ P w) a vs:=uD ok (.inl e)
theorem qH{ks:List Key}(ok:oq P w H h)(e:H a=some (.tup (ks.map kV))):(tupleKind (c_ P w)).is h ks a:=by
 obtain⟨_,its,r,o,h1,h2,n,h3⟩:=(show eF P w H h a (.tup (ks.map kV)) from ok a _ e)
 exact⟨o,its.toArray,n,h1,h2,h3,by simpa using wa r⟩
theorem uj{aL:List (List Key × V)}(ok:oq P w H h)(e:Rd H a (.dT aL)):aL.length<=sizeLine/\(a==sysModules)=false/\
 ∃xs,KT H aL xs/\h.DictOfH (tupleKind (c_ P w)) a xs:=by
 obtain⟨z,y,xs,r,o,es,ep,h1,h2,h3,h4,h5⟩:=(show eF P w H h a (.dT aL) from JU ok e)
 refine⟨z,y,xs,r,o,es,ep,h1,h2,h3,h4,fun x hx=>?_,h5⟩
 have all:∀{l:List (List Key × V)} {m:List (List Key × Addr × Value)},KT H l m->∀x∈m,(tupleKind (c_ P w)).is h x.1 x.2.1:=by
  intro l m q
  induction q with
  | nil=>intro x hx;exact nomatch hx
  | @cons p q ps qs hq t ih=>
    intro x hx;rcases List.mem_cons.mp hx with e | hx
    .subst e;exact qH ok (by rw[<-hq.1];exact hq.2.1)
    .exact ih x hx
 exact all r x hx
theorem N5{aL:List (List Key × V)}(ok:oq P w H h)(e:H a=some (.dT aL)):aL.length<=sizeLine/\(a==sysModules)=false/\
 ∃xs,KT H aL xs/\h.DictOfH (tupleKind (c_ P w)) a xs:=uj ok (.inl e)
end
def nv(H:Hp)(a:Addr)(y:V)(r:Option V):Prop:=
 (∃aL k,Rd H a (.dK aL)/\y=kV k/\r=kB aL k)\/∃aL k b,Rd H a (.dT aL)/\y= .ref b/\H b=some (.tup (k.map kV))/\r=kB aL k
def Dx(H:Hp)(a:Addr)(y v:V)(H':Hp):Prop:=
 (∃aL k,H a=some (.dK aL)/\y=kV k/\aL.length < sizeLine/\H'=upd H a (.dK (putK aL k v)))\/
 ∃aL k b,H a=some (.dT aL)/\y= .ref b/\H b=some (.tup (k.map kV))/\aL.length < sizeLine/\H'=upd H a (.dT (putK aL k v))
theorem nv.k{H:Hp}{a:Addr}{aL:List (Key × V)}{k:Key}(e:H a=some (.dK aL)):nv H a (kV k) (kB aL k):= .inl ⟨aL,k, .inl e,rfl,rfl⟩
theorem Dx.k{H:Hp}{a:Addr}{aL:List (Key × V)}{k:Key}{v:V}(e:H a=some (.dK aL))(hl:aL.length < sizeLine):Dx H a (kV k) v (upd H a (.dK (putK aL k v))):= .inl ⟨aL,k,e,rfl,hl,rfl⟩
section
variable {X:Cx} {pins:WH} {σ:St} {H:Hp} {s:Shared} {a:Addr} {y v:V} {u r:Value} {o:Option V} {A:Around} {E:WI}
theorem Inv.big(I:Inv X pins σ H s):sysModules < s.heap.objs.size:=by
 have h:mainGlobals < s.heap.objs.size:=(I.mod.glob.keeps I.bk).lt;exact Nat.lt_trans (by decide) h
theorem C7{Q:WI}(hu:A.units+1 < cLine)(I:Inv X pins σ H s)(g:nv H a y (some v))(ry:RelV y u)(h:∀w' s',Inv X pins σ H s'->RelV v w'->Q w' s') :
 wpAny (model X.prog X.w) A (getItem (.ref a) u) Q E s:=by
 rcases g with⟨aL,k,e,ey,l⟩ | ⟨aL,k,b,e,ey,eb,l⟩
 .subst ey;obtain⟨z,hd,vs,rel,dd⟩:=uD I.hok e;obtain⟨w',hw,zY⟩:=mR.some_of (v:=v) (o:=valueAt vs k) (by rw[l];exact rel.val k)
  exact wpAny_getItem_of (t8 ry) dd.mapOf hw (h w' _ (I.tok _) zY)
 .subst ey;cases(show u=Value.ref b from ry)
  obtain⟨z,hd,xs,rel,dd⟩:=uj I.hok e;obtain⟨w',hw,zY⟩:=mR.some_of (v:=v) (o:=(atKey xs k).map (·.2)) (by rw[l];exact rel.val k)
  obtain⟨p,hp,Va⟩:=Option.map_eq_some_iff.mp hw;refine wpAny_getItem_heap (tupleKind_room_in1 hu) (qH I.hok eb) dd hp ?_;rw[Va];exact h w' _ (I.tok _) zY
theorem QG{Q:WI}(hu:A.units+1 < cLine)(I:Inv X pins σ H s)(g:nv H a y o)(ry:RelV y u)(h:∀s',Inv X pins σ H s'->Q (.bool o.isSome) s') :
 wpAny (model X.prog X.w) A (compareOp .In u (.ref a)) Q E s:=by
 rcases g with⟨aL,k,e,ey,l⟩ | ⟨aL,k,b,e,ey,eb,l⟩
 .subst ey;obtain⟨z,hd,vs,rel,dd⟩:=uD I.hok e;refine wpAny_in_of (t8 ry) hd dd.mapOf ?_;rw[<-(rel.val k).lL,<-l];exact h _ (I.tok _)
 .subst ey;cases(show u=Value.ref b from ry)
  obtain⟨z,hd,xs,rel,dd⟩:=uj I.hok e;refine wpAny_in_heap (tupleKind_room_in1 hu) (qH I.hok eb) hd dd ?_;have q:=(rel.val k).lL;rw[Option.isSome_map] at q;rw[<-q,<-l];exact h _ (I.tok _)
theorem JD{Q:WI}(hu:A.units+1 < cLine)(I:Inv X pins σ H s)(g:nv H a y o)(ry:RelV y u)(h:∀s',Inv X pins σ H s'->Q (.bool (!o.isSome)) s') :
 wpAny (model X.prog X.w) A (compareOp .NotIn u (.ref a)) Q E s:=by
 rcases g with⟨aL,k,e,ey,l⟩ | ⟨aL,k,b,e,ey,eb,l⟩
 .subst ey;obtain⟨z,hd,vs,rel,dd⟩:=uD I.hok e;refine wpAny_notIn_of (t8 ry) hd dd.mapOf ?_;rw[<-(rel.val k).lL,<-l];exact h _ (I.tok _)
 .subst ey;cases(show u=Value.ref b from ry)
  obtain⟨z,hd,xs,rel,dd⟩:=uj I.hok e;refine wpAny_notIn_heap (tupleKind_room_in1 hu) (qH I.hok eb) hd dd ?_;have q:=(rel.val k).lL;rw[Option.isSome_map] at q;rw[<-q,<-l];exact h _ (I.tok _)
theorem xK{h':Heap}{t':Nat}{ob:HO}(I:Inv X pins σ H s)(mu:NC (H a))(hs:Heap.SameBut a s.heap h')(he:∃q,h'.get? a=some q)(new:eF X.prog X.w (upd H a ob) h' a ob) :
 Inv X pins σ (upd H a ob) {s with heap:=h',toks:=t'}:=
 I.write (x:=a) (e:=a) mu (.inl rfl) (fun b q hb z=>(hs.2 b hb).trans z) he new
theorem Fc{H':Hp}{h':Heap}{aL:List (Key × V)}{vs:List (Key × Value)}(z:aL.length<=sizeLine)(hd:(a==sysModules)=false)(rel:KV aL vs)(dd:h'.DictOf (c_ P w) a vs) :
 eF P w H' h' a (.dK aL):=⟨z,hd,vs,rel,dd⟩
theorem C8{Q:Unit->Shared->Prop}(hu:A.units+1 < cLine)(I:Inv X pins σ H s)(g:Dx H a y v H')(ry:RelV y u)(rv:RelV v r)(h:∀s',Inv X pins σ H' s'->Q () s') :
 wpAny (model X.prog X.w) A (setItem (.ref a) u r) Q E s:=by
 rcases g with⟨aL,k,e,ey,l,eH⟩ | ⟨aL,k,b,e,ey,eb,l,eH⟩
 .subst ey eH;obtain⟨z,hd,vs,rel,dd⟩:=JW I.hok e;have hz:vs.length<=sizeLine:=by rw[<-rel.length];exact z
  have hl:(putK aL k v).length<=sizeLine:=by have:=nP aL k v;omega
  refine wpAny_setItem_pairs (hsz:=hz) (t8 ry) dd fun h' My hs=>h _ ?_
  have he:∃q,h'.get? a=some q:=let⟨q,_,_,hq,_⟩:=My;⟨q,hq⟩
  exact xK I (by rw[e];exact True.intro) hs he (Fc hl hd (rel.put k rv) My)
 .subst ey eH;cases(show u=Value.ref b from ry)
  obtain⟨z,hd,xs,rel,dd⟩:=N5 I.hok e;have hz:xs.length<=sizeLine:=by rw[<-Paired.length rel];exact z
  have hl:(putK aL k v).length<=sizeLine:=by have:=nP aL k v;omega
  refine wpAny_setItem_heap (hsz:=hz) (tupleKind_room_in1 hu) (qH I.hok eb) dd fun h' My hs=>h _ ?_
  obtain⟨q,es,ep,hq,h2,h3,h4,_,h5⟩:=My;refine xK I (by rw[e];exact True.intro) hs ⟨q,hq⟩ ⟨hl,hd,_,(rel.put k eb rv).keeps fun c ys ec=>?_,q,es,ep,hq,h2,h3,h4,h5⟩
  rw[bg (Ol ec e (fun z=>nomatch z))]
  exact ec
end
section
variable {X:Cx} {pins:WH} {σ:St} {H:Hp} {s:Shared} {a:Addr} {aL:List (Key × V)} {k:Key} {u:Value} {A:Around} {E:WI}
end
def K4(i:Expr):Prop:=∀ov iv,subscripted i false ov iv=operate [ov,iv] (getItem ov iv)
theorem JF{prog:Program}{w:World}{A:Around}{E:WI}{s:Shared}{env:Env}{value slice:Expr}{pos:Pos}{T id:String}{Q:WI}
 (hl:typeLookup (.type T) "__getitem__"=pure (some (.builtin id))) (hs:K4 slice)
 (h:wpAny (model prog w) A (eval value env) (fun o s₁=>wpAny (model prog w) A (eval slice env) (fun i zU=>zU.TypeIs o T/\wpAny (model prog w) A (getItem o i) Q E zU) E s₁) E s) :
 wpAny (model prog w) A (eval (.Subscript value slice pos) env) Q E s:=by
 refine Subscript_ (wpAny_mono h (fun o s₁ iq=>wpAny_mono iq (fun i zU fV=>?_) fun _ _ x=>x) fun _ _ x=>x)
 obtain⟨hT,fV⟩:=fV;unfold subscriptTail;refine wpAny_bind ?_;rw[getitemInPython_of_ne hT.not_modules];refine wpAny_bind (wpAny_specialOf hT hl ?_);have fin:wpAny (model prog w) A (subscripted slice false o i) (fun r OU=>wpAny (model prog w) A (letTemporaryGo value o r >>=fun _=>pure r) Q E OU) E zU:=by
  rw[hs o i];exact wpAny_operating (wpAny_mono fV (fun r OU Ea=>wpAny_bind (wpAny_letTemporaryGo (wpAny_pure Ea))) fun _ _ x=>x)
 first
  | exact wpAny_pure (wpAny_bind fin)
  | exact wpAny_bind (wpAny_pure (wpAny_bind fin))
  | exact wpAny_bind fin
theorem y8{X:Cx}{pins:WH}{s:Shared}{a:Addr}{y:V}{o:Option V}(I:Inv X pins σ H s)(g:nv H a y o):s.TypeIs (.ref a) "dict":=by
 rcases g with⟨aL,k,e,_,_⟩ | ⟨aL,k,b,e,_,_,_⟩
 .obtain⟨_,_,vs,_,dd⟩:=uD I.hok e;exact dd.typeIs
 .obtain⟨_,_,xs,_,dd⟩:=uj I.hok e;exact dd.typeIs
def NZ(td ty:TE):TE:=fun σ H Q=>td σ H fun x H1=>ty σ H1 fun y H2=>∃a v,x= .ref a/\nv H2 a y (some v)/\Q v H2
def TZ(ty td:TE):TE:=fun σ H Q=>ty σ H fun y H1=>td σ H1 fun x H2=>∃a o,x= .ref a/\nv H2 a y o/\Q (.bl o.isSome) H2
def Pa(ty td:TE):TE:=fun σ H Q=>ty σ H fun y H1=>td σ H1 fun x H2=>∃a o,x= .ref a/\nv H2 a y o/\Q (.bl (!o.isSome)) H2
def N8(td ty tv:TE):TS:=fun D σ H=>tv σ H fun v H1=>td σ H1 fun x H2=>ty σ H2 fun y H3=>∃a H4,x= .ref a/\Dx H3 a y v H4/\D.nx σ H4
def Sq(td ty tv:TE)(rd:V->V->Hp->VK->Prop):TS:=fun D σ H=>td σ H fun x H1=>ty σ H1 fun y H2=>∃a v,x= .ref a/\nv H2 a y (some v)/\
 tv σ H2 fun y2 H3=>rd v y2 H3 fun z H4=>∃H5,Dx H4 a y z H5/\D.nx σ H5
def SI(td ty:TE):TS:=fun D σ H=>td σ H fun x H1=>ty σ H1 fun y H2=>∃a aL k,x= .ref a/\H2 a=some (.dK aL)/\y=kV k/\(kB aL k).isSome=true/\D.nx σ (upd H2 a (.dK (FQ aL k)))
section
variable {X:Cx} {o i e value:Expr} {pos pos' vq:Pos} {td ty tv:TE}
theorem IW(hu:X.A.units+1 < cLine)(ho:PE X o td)(hi:PE X i ty)(hs:K4 i):PE X (.Subscript o i pos) (NZ td ty):=by
 intro pins s σ H Q I h;refine JF PySem.F.slot_dict_getitem.lookup hs (dH (ho pins s σ H _ I h) fun u s1 ⟨x,H1,I1,rx,q1⟩=>dH (hi pins s1 σ H1 _ I1 q1) fun iv s2 ⟨y,H2,I2,ry,a,v,ex,g,q2⟩=>?_)
 subst ex;obtain rfl:u=Value.ref a:=rx;exact⟨y8 I2 g,C7 hu I2 g ry fun w' s3 I3 zY=>⟨v,H2,I3,zY,q2⟩⟩
theorem IG(hu:X.A.units+1 < cLine)(ho:PE X o td)(hi:PE X i ty)(hv:PE X value tv)(hs:swapsWith value (some (.Subscript o i pos')) pos.line X.env=pure false) :
 PS X (.Assign [.Subscript o i pos'] value pos) (N8 td ty tv):=by
 intro pins s σ H D I h;refine wpAny_Assign_Subscript (dH (hv pins s σ H _ I h) fun r s1 ⟨v,H1,I1,rv,q1⟩=>dH (ho pins s1 σ H1 _ I1 q1) fun u s2 ⟨x,H2,I2,rx,q2⟩=>dH (hi pins s2 σ H2 _ I2 q2) fun iv s3 ⟨y,H3,I3,ry,a,H4,ex,g,q3⟩=>?_) hs
 subst ex;obtain rfl:u=Value.ref a:=rx;exact C8 hu I3 g ry rv fun s4 I4=>⟨σ,H4,I4,q3⟩
end
theorem zk(h:Heap)(hb:sysModules < h.objs.size):eF P w H (h.push {cls:= .type "dict",data:= .dict #[]}) h.objs.size (.dK []):=
 ⟨Nat.zero_le _,beq_eq_false_iff_ne.mpr (Ne.symm (Nat.ne_of_lt hb)),[], .nil,Heap.DictOf.new h⟩
def LW:TE:=fun _ H Q=>∀p,H p=none->Q (.ref p) (upd H p (.dK []))
def Qc:TE:=fun _ H Q=>∀p,H p=none->Q (.ref p) (upd H p (.dT []))
section
variable {X:Cx} {pos:Pos}
theorem GU:PE X (.Dict [] [] pos) LW:=fun pins s σ H Q I h=>
 wpAny_Dict_empty ⟨.ref s.heap.objs.size,_,I.laid (a:=s.heap.objs.size) (o:= .dK []) (t':=s.toks) (fun _ _ q=>Heap.get?_push_of_some _ q) (Nat.le_refl _) (zk s.heap I.big),rfl,h _ (I.hok.fresh (Nat.le_refl _))⟩
end
def qQ:List (TE × TE)->St->Hp->(List (V × V)->Hp->Prop)->Prop
 | [],_,H,Q=>Q [] H
 | (tk,tv) ::r,σ,H,Q=>tk σ H fun x H1=>tv σ H1 fun y H2=>qQ r σ H2 fun ps H3=>Q ((x,y) ::ps) H3
abbrev VV:List (V × V)->List (Value × Value)->Prop:=Paired fun p q=>RelV p.1 q.1/\RelV p.2 q.2
def Ln(X:Cx)(pos:Pos)(keys:List (Option Expr))(values:List Expr)(wQ:List (TE × TE)):Prop:=
 ∀(pins:WH) (s:Shared) (σ:St) (H:Hp) (Q:List (V × V)->Hp->Prop),Inv X pins σ H s->qQ wQ σ H Q->
  wpAny (model X.prog X.w) X.A (evalPairs (pairTrees keys values X.env pos)) (fun vs s'=>∃ps H',Inv X pins σ H' s'/\VV ps vs/\Q ps H') X.xe s
theorem B9{X:Cx}:Ln X pos [] [] []:=fun pins s σ H Q I h=>pairTrees_nil_walk ⟨[],H,I, .nil,h⟩
theorem qm{X:Cx}{ks:List (Option Expr)}{tk tv:TE}{wQ:List (TE × TE)}(hk:PE X k tk)(hv:PE X v tv)(hr:Ln X pos ks vs wQ) :
 Ln X pos (some k ::ks) (v ::vs) ((tk,tv) ::wQ):=fun pins s σ H Q I h=>
 pairTrees_cons_walk (dH (hk pins s σ H _ I h) fun u s1 ⟨x,H1,I1,rx,q1⟩=>dH (hv pins s1 σ H1 _ I1 q1) fun w2 s2 ⟨y,H2,I2,ry,q2⟩=>
  dH (hr pins s2 σ H2 _ I2 q2) fun ws s3 ⟨ps,H3,I3,rel,q3⟩=>⟨(x,y) ::ps,H3,I3, .cons ⟨rx,ry⟩ rel,q3⟩)
def lW(aL more:List (Key × V)):List (Key × V):=more.foldl (fun acc kv=>putK acc kv.1 kv.2) aL
theorem KV.merge:∀{more:List (Key × V)} {rs:List (Key × Value)} {aL:List (Key × V)} {vs:List (Key × Value)},KV more rs->KV aL vs->KV (lW aL more) (merged vs rs):=by
 intro more rs aL vs r;unfold KV at r
 induction r generalizing aL vs with
 | nil=>intro q;exact q
 | @cons p q ps qs h t ih=>
   intro r0;have e:KV (putK aL p.1 p.2) (stored vs q.1 q.2):=by
    have:=r0.put p.1 h.2;rw[<-h.1];exact this
   exact ih e
theorem oP:∀(more aL:List (Key × V)),(lW aL more).length<=aL.length+more.length
 | [],aL=>by show aL.length<=aL.length+0;omega
 | p ::r,aL=>by
   have h1:=oP r (putK aL p.1 p.2);have h2:=nP aL p.1 p.2;show(lW (putK aL p.1 p.2) r).length<=_;rw[List.length_cons];omega
theorem uM:∀{aL:List (Key × V)} {ws:List (Value × Value)},VV (aL.map fun kv=>(kV kv.1,kv.2)) ws->∃rs,Carries (c_ P w) ws rs/\KV aL rs
 | [],_,r=>by rw[List.map_nil] at r;cases r;exact⟨[],True.intro, .nil⟩
 | p ::aL,_,r=>by
   rw[List.map_cons] at r;cases r with
   | @cons a b as bs h t=>
     obtain⟨rs,c,q⟩:=uM (P:=P) (w:=w) t;obtain⟨b1,b2⟩:=b;exact⟨(p.1,b2) ::rs,⟨t8 h.1,rfl,c⟩, .cons ⟨rfl,h.2⟩ q⟩
def EO(wQ:List (TE × TE)):TE:=fun σ H Q=>∀p,H p=none->qQ wQ σ (upd H p (.dK [])) fun ps H2=>H2 p=some (.dK [])/\∃aL:List (Key × V),ps=aL.map (fun kv=>(kV kv.1,kv.2))/\aL.length<=15/\Q (.ref p) (upd H2 p (.dK (lW [] aL)))
theorem IY{X:Cx}{pos:Pos}{keys:List (Option Expr)}{values:List Expr}{wQ:List (TE × TE)}(h:Ln X pos keys values wQ)(Ed:keys.all (·.isSome)=true)(hl:keys.length=values.length)(h0:keys≠[])
 (VR:keys.length<=15):PE X (.Dict keys values pos) (EO wQ):=by
 intro pins s σ H Q I q;have hn:=I.hok.fresh (Nat.le_refl s.heap.objs.size);have I1:=I.laid (a:=s.heap.objs.size) (o:= .dK []) (h':=s.heap.push {cls:= .type "dict",data:= .dict #[]}) (t':=s.toks) (fun _ _ q=>Heap.get?_push_of_some _ q) (Nat.le_refl _) (zk s.heap I.big)
 refine wpAny_Dict_walk (knd:=c_ X.prog X.w) Ed hl h0 VR (dH (h pins _ σ _ _ I1 (q _ hn)) fun ws s2 ⟨ps,H2,I2,rel,e,aL,ep,lk,q2⟩=>?_)
 subst ep;obtain⟨rs,c,rk⟩:=uM (P:=X.prog) (w:=X.w) rel;obtain⟨z,hd,Wz,r0,dd⟩:=JW I2.hok e;cases r0;refine⟨rs,c,dd,fun h' My hs=>⟨.ref s.heap.objs.size,_,?_,rfl,q2⟩⟩
 have hz:(lW [] aL).length<=sizeLine:=by
  have h1:=oP aL [];rw[List.length_nil] at h1;rw[sizeLine_eq];omega
 have he:∃q,h'.get? s.heap.objs.size=some q:=let⟨q,_,_,hq,_⟩:=My;⟨q,hq⟩
 exact xK I2 (by rw[e];exact True.intro) hs he (Fc hz hd (rk.merge .nil) My)
structure M1 (X:Cx) (o:Expr) (m:Str) (apos:Pos) (e:Expr) (cu:Pos):Prop where
 base:attributeBase o m X.env (eval o X.env)=eval o X.env
 few:((backTo cu (starEach [e] X.env)).all (fun x=>!x.1) && (backToKw cu (keywordEach [] X.env)).all (fun x=>x.1.isSome)
  && decide (([e]:List Expr).length+([]:List Keyword).length+(if([]:List Keyword).isEmpty then 0 else 1) < 30))=true
 line:(apos.endLine==cu.line)=true
 trees:backTo cu (starEach [e] X.env)=[(false,eval e X.env)]
structure M2 (X:Cx) (o:Expr) (m:Str) (apos:Pos) (e f:Expr) (cu:Pos):Prop where
 base:attributeBase o m X.env (eval o X.env)=eval o X.env
 few:((backTo cu (starEach [e,f] X.env)).all (fun x=>!x.1) && (backToKw cu (keywordEach [] X.env)).all (fun x=>x.1.isSome)
  && decide (([e,f]:List Expr).length+([]:List Keyword).length+(if([]:List Keyword).isEmpty then 0 else 1) < 30))=true
 line:(apos.endLine==cu.line)=true
 trees:backTo cu (starEach [e,f] X.env)=[(false,eval e X.env),(false,eval f X.env)]
def Ot(H:Hp)(a:Addr):Prop:=(∃aL,Rd H a (.dK aL))\/∃aL,Rd H a (.dT aL)
theorem LP{X:Cx}{pins:WH}{s:Shared}{a:Addr}(I:Inv X pins σ H s)(d:Ot H a) :
 s.TypeIs (.ref a) "dict"/\(∀b,Value.ref a= .ref b->∃ob,s.heap.get? b=some ob/\ob.dict=none)/\(a==sysModules)=false:=by
 rcases d with⟨aL,e⟩ | ⟨aL,e⟩
 .obtain⟨_,hd,vs,_,dd⟩:=uD I.hok e;refine⟨dd.typeIs,fun b q=>?_,hd⟩
  cases q;obtain⟨ob,_,_,h1,h2,_⟩:=dd;exact⟨ob,h1,h2.2.1⟩
 .obtain⟨_,hd,xs,_,dd⟩:=uj I.hok e;refine⟨dd.typeIs,fun b q=>?_,hd⟩
  cases q;obtain⟨ob,_,_,h1,h2,_⟩:=dd;exact⟨ob,h1,h2.2.1⟩
section
variable {X:Cx} {pins:WH} {σ:St} {H:Hp} {s:Shared} {a:Addr} {y d:V} {u r:Value} {o:Option V} {A:Around} {E:WI}
theorem Lk{Q:WI}(hu:A.units+1 < cLine)(I:Inv X pins σ H s)(g:nv H a y o)(ry:RelV y u)(rd:RelV d r)(h:∀w' s',Inv X pins σ H s'->RelV (o.getD d) w'->Q w' s') :
 wpAny (model X.prog X.w) A (call (.builtin "dict.get") [.ref a,u,r]) Q E s:=by
 rcases g with⟨aL,k,e,ey,l⟩ | ⟨aL,k,b,e,ey,eb,l⟩
 .subst ey;obtain⟨z,hd,vs,rel,dd⟩:=uD I.hok e;refine call_meetsIn PySem.F.slot_dict_get dd.typeIs PySem.F.entry_dict_get (PySem.F.args_dict_get_3 _ _ _) (meets_dict_get_default (c_ X.prog X.w) a (t8 ry) hd r) ⟨_,dd.mapOf,h _ _ (I.tok _) ?_⟩;rw[l];exact(rel.val k).getD rd
 .subst ey;cases(show u=Value.ref b from ry)
  obtain⟨z,hd,xs,rel,dd⟩:=uj I.hok e;refine call_meetsIn PySem.F.slot_dict_get dd.typeIs PySem.F.entry_dict_get (PySem.F.args_dict_get_3 _ _ _) (meetsH_dict_get_default (tupleKind (c_ X.prog X.w)) a b hd r) ⟨tupleKind_room_in1 hu,k,xs,qH I.hok eb,dd,h _ _ (I.tok _) ?_⟩;rw[l];exact(rel.val k).getD rd
end
def QY(td ty:TE):TE:=fun σ H Q=>td σ H fun x H1=>∃a,x= .ref a/\Ot H1 a/\ty σ H1 fun y H2=>∃o,nv H2 a y o/\Q (o.getD .cX) H2
def LU(td ty tx:TE):TE:=fun σ H Q=>td σ H fun x H1=>∃a,x= .ref a/\Ot H1 a/\ty σ H1 fun y H2=>tx σ H2 fun z H3=>∃o,nv H3 a y o/\Q (o.getD z) H3
def P0(td ty:TE):TE:=fun σ H Q=>td σ H fun x H1=>∃a,x= .ref a/\Ot H1 a/\ty σ H1 fun y H2=>∃aL k v,H2 a=some (.dK aL)/\y=kV k/\kB aL k=some v/\Q v (upd H2 a (.dK (FQ aL k)))
def QU(td ty tx:TE):TE:=fun σ H Q=>td σ H fun x H1=>∃a,x= .ref a/\Ot H1 a/\ty σ H1 fun y H2=>tx σ H2 fun z H3=>∃aL k,H3 a=some (.dK aL)/\y=kV k/\
 (∀v,kB aL k=some v->Q v (upd H3 a (.dK (FQ aL k))))/\(kB aL k=none->Q z H3)
section
variable {X:Cx} {o e f:Expr} {apos cu:Pos} {td ty tx:TE}
theorem F_(hu:X.A.units+1 < cLine)(ho:PE X o td)(he:PE X e ty)(hf:PE X f tx)(m:M2 X o "get" apos e f cu):PE X (.Call (.Attribute o "get" apos) [e,f] [] cu) (LU td ty tx):=by
 intro pins s σ H Q I h;refine wpAny_Call_method m.base m.few m.line PySem.F.plainAttrs_dict PySem.F.slot_dict_get PySem.F.type_dict_get (dH (ho pins s σ H _ I h) fun u s1 ⟨x,H1,I1,rx,a,ex,d,q1⟩=>?_)
 subst ex;obtain rfl:u=Value.ref a:=rx;obtain⟨t1,t2,_⟩:=LP I1 d;refine⟨t1,t2,?_⟩;rw[m.trees];refine Calls.callWith_builtin rfl (Calls.evalArgs_plain (Calls.spliced_cons (dH (he pins s1 σ H1 _ I1 q1) fun iv s2 ⟨y,H2,I2,ry,q2⟩=>
  Calls.spliced_cons (dH (hf pins s2 σ H2 _ I2 q2) fun fv s3 ⟨z,H3,I3,rz,ov,g,q3⟩=>Calls.spliced_nil ?_))))
 exact Lk hu I3 g ry rz fun w' s4 I4 zY=>⟨_,H3,I4,zY,q3⟩
end
section
variable {X:Cx} {pins:WH} {σ:St} {H:Hp} {s:Shared} {a:Addr} {aL:List (Key × V)} {A:Around} {E:WI}
end
section
variable {X:Cx} {pins:WH} {σ:St} {H:Hp} {s:Shared} {a:Addr} {y:V} {u:Value} {A:Around} {E:WI}
end
end L2
namespace HT
open PySem PyProof.Rows
def lexLt:List Int->List Int->Bool
 | [],[]=>false
 | [],_ ::_=>true
 | _ ::_,[]=>false
 | x ::xs,y ::ys=>if x=y then lexLt xs ys else decide (x < y)
section
open PySem.SeqAt
open PySem.AutoSeq1 (wpAny_loadPart')
open PySem.MeetsSeq PySem.MeetsSeq2 PySem.MeetsSeq3
end
section
variable {prog:Program} {w:World} {A:Around} {E:WI} {s:Shared}
theorem IF{t b:Addr}{vs ws:List Value}{Q:WI}(ht:IsTup s.heap t vs.toArray)(hb:IsTup s.heap b ws.toArray)(hv:vs≠[])
 (h1:ws=[]->Q (.ref t) s) (h2:ws≠[]->Q (.ref s.heap.objs.size) {s with heap:=s.heap.push {cls:= .type "tuple",data:= .seq (vs++ws).toArray}})
 (hsz:vs.length+ws.length<=sizeLine):wpAny (model prog w) A (binaryOp .Add (.ref t) (.ref b)) Q E s:=by
 obtain⟨⟨cls,dd,data,sl⟩,ho,hc,n,hd⟩:=id ht;obtain⟨⟨Rj,PF,data2,MX⟩,Mu,hc2,n2,hd2⟩:=id hb;simp only at hc hd hc2 hd2;subst hc hd hc2 hd2;have e:vs.toArray++ws.toArray=(vs++ws).toArray:=by simp
 by_cases hw:ws=[]
 .exact concat_meets ⟨_,ho,rfl⟩ ⟨_,Mu,rfl⟩ noFill_tuple_add seq_tuple_add PySem.F.slot_tuple_add PySem.F.entry_tuple_add (PySem.F.args_tuple_add_2 _ _)
   (tuple_addW1 t b vs.toArray ws.toArray n n2 dd PF sl MX (by simpa using hv) (by simp [hw])) ⟨ho,Mu,h1 hw⟩
 .refine concat_meets ⟨_,ho,rfl⟩ ⟨_,Mu,rfl⟩ noFill_tuple_add seq_tuple_add PySem.F.slot_tuple_add PySem.F.entry_tuple_add (PySem.F.args_tuple_add_2 _ _)
   (tuple_addW2 t b vs.toArray ws.toArray n n2 dd PF sl MX (by simpa using hv) (by simpa using hw) (by rw[List.size_toArray,List.size_toArray];exact hsz)) ⟨ho,Mu,?_⟩
  rw[e];exact h2 hw
def tq(n d:Nat):Option Int->Nat
 | none=>d
 | some v=>if v < 0 then(v+(n:Int)).toNat else min v.toNat n
theorem Gm(n d:Nat):tq n d none=d:=rfl
theorem wV(n d k:Nat):tq n d (some (k:Int))=min k n:=by
 show(if(k:Int) < 0 then((k:Int)+(n:Int)).toNat else min (k:Int).toNat n)=min k n
 rw[if_neg (by omega),Int.toNat_natCast]
theorem Ao{v:Value}{o:Option Int}{Q:Option Int->Shared->Prop}(p:IsPart v o)(h:Q o s):wpAny (model prog w) A (Builtin.Slice.slicePartIndex v) Q E s:=by
 cases p with
 | none=>exact slicePart_none h
 | int i t=>exact slicePart_int h
end
end HT
namespace L2
open PySem PySem.Spec PyProof.Rows
abbrev TO:=St->Hp->(Option Int->Hp->Prop)->Prop
def PO(X:Cx)(e:Option Expr)(t:TO):Prop:=
 ∀(pins:WH) (s:Shared) (σ:St) (H:Hp) (Q:Option Int->Hp->Prop),Inv X pins σ H s->t σ H Q->
  wpAny (model X.prog X.w) X.A (evalPart e X.env) (fun u s'=>∃o H',Inv X pins σ H' s'/\IsPart u o/\Q o H') X.xe s
def Jx:TO:=fun _ H Q=>Q none H
def OG(t:TE):TO:=fun σ H Q=>t σ H fun x H1=>∃i,x= .int i/\Q (some i) H1
section
variable {X:Cx} {e:Expr} {te:TE} {lo hi:Option Expr} {tl th:TO} {pos p2:Pos}
theorem Hx:PO X none Jx:=by
 intro pins s σ H Q I h;rw[evalPart_none];exact wpAny_pure ⟨none,H,I, .none,h⟩
theorem Ju(h:PE X e te):PO X (some e) (OG te):=by
 intro pins s σ H Q I hw;rw[evalPart_some];refine dH (h pins s σ H _ I hw) fun u s1 ⟨x,H1,I1,r1,q1⟩=>?_
 obtain⟨i,rfl,q⟩:=q1;obtain⟨t,rfl⟩:=r1;exact⟨some i,H1,I1, .int i t,q⟩
def Ky(X:Cx)(r:V->Option Int->Option Int->Hp->VK->Prop):Prop:=
 ∀(pins:WH) (s:Shared) (σ:St) (H:Hp) (x:V) (v vl vu:Value) (lo hi:Option Int) (sl:Addr) (Q:VK),Inv X pins σ H s->RelV x v->s.heap.IsSliceOf sl vl vu .none->IsPart vl lo->IsPart vu hi->r x lo hi H Q->
  ∃T id,typeLookup (.type T) "__getitem__"=pure (some (.builtin id))/\s.TypeIs v T/\wpAny (model X.prog X.w) X.A (getItem v (.ref sl)) (EP X pins σ Q) X.xe s
theorem Ky.or{r r':V->Option Int->Option Int->Hp->VK->Prop}(h:Ky X r)(h':Ky X r'):Ky X (fun x lo hi H Q=>r x lo hi H Q\/r' x lo hi H Q):=by
 intro pins s σ H x v vl vu lo hi sl Q I rx hs pl pu q;rcases q with q | q
 .exact h pins s σ H x v vl vu lo hi sl Q I rx hs pl pu q
 .exact h' pins s σ H x v vl vu lo hi sl Q I rx hs pl pu q
def T4(r:V->Option Int->Option Int->Hp->VK->Prop)(te:TE)(tl th:TO):TE:=fun σ H Q=>te σ H fun x H1=>tl σ H1 fun l H2=>th σ H2 fun u H3=>r x l u H3 Q
theorem FL{r:V->Option Int->Option Int->Hp->VK->Prop}(hr:Ky X r)(he:PE X e te)(hl:PO X lo tl)(hu:PO X hi th):PE X (.Subscript e (.Slice lo hi none p2) pos) (T4 r te tl th):=by
 intro pins s σ H Q I h;refine Subscript_ (dH (he pins s σ H _ I h) fun v s1 ⟨x,H1,I1,r1,q1⟩=>?_)
 refine wpAny_Slice (dH (hl pins s1 σ H1 _ I1 q1) fun vl s2 ⟨l,H2,I2,pl,q2⟩=>dH (hu pins s2 σ H2 _ I2 q2) fun vu s3 ⟨u,H3,I3,pu,q3⟩=>?_)
 rw[evalPart_none];refine wpAny_pure ?_;have I4:Inv X pins σ H3 {s3 with heap:=s3.heap.push {cls:= .type "slice",data:= .fields #[vl,vu, .none]}}:=I3.kept (t':=s3.toks) fun b ob q=>Heap.get?_push_of_some _ q
 obtain⟨T,id,hT,ht,hg⟩:=hr pins {s3 with heap:=s3.heap.push {cls:= .type "slice",data:= .fields #[vl,vu, .none]}} σ H3 x v vl vu l u s3.heap.objs.size Q I4 r1 (Heap.IsSliceOf.new ..) pl pu q3
 show wpAny (model X.prog X.w) X.A (subscriptTail e (.Slice lo hi none p2) v (.ref s3.heap.objs.size)) (EP X pins σ Q) X.xe {s3 with heap:=s3.heap.push {cls:= .type "slice",data:= .fields #[vl,vu, .none]}}
 exact tail_any (ops:=[.ref s3.heap.objs.size,v]) ht hT hg (by with_unfolding_all rfl)
def z0(xs:List V)(lo hi:Option Int):List V:=(xs.drop (HT.tq xs.length 0 lo)).take (HT.tq xs.length xs.length hi - HT.tq xs.length 0 lo)
theorem y6(xs:List V)(lo hi:Option Int):(z0 xs lo hi).length<=xs.length:=by
 unfold z0;rw[List.length_take,List.length_drop];omega
def UX(K:W.Frag):V->Option Int->Option Int->Hp->VK->Prop:=fun x lo hi H Q=>∃a xs,x= .ref a/\sT K H a xs/\
 ¬(HT.tq xs.length 0 lo=0/\HT.tq xs.length xs.length hi=xs.length)/\∀p,H p=none->Q (.ref p) (upd H p (.tup (z0 xs lo hi)))
def Ul(K:W.Frag):R2:=fun x y H Q=>∃a b ns ms,x= .ref a/\y= .ref b/\sT K H a (ns.map V.int)/\sT K H b (ms.map V.int)/\Q (.bl (HT.lexLt ns ms)) H
def SX(K:W.Frag):R2:=fun x y H Q=>∃a b xs ys,x= .ref a/\y= .ref b/\sT K H a xs/\sT K H b ys/\xs≠[]/\xs.length+ys.length<=sizeLine/\
 (ys=[]->Q (.ref a) H)/\(ys≠[]->∀p,H p=none->Q (.ref p) (upd H p (.tup (xs++ys))))
end
def BD(n:Nat)(i:Int):Option Nat:=if 0<=i then(if i < n then some i.toNat else none) else if -(n:Int)<=i then some (i+n).toNat else none
def u_{α:Type}(xs:List α)(i:Int):Option α:=(BD xs.length i).bind fun j=>xs[j]?
theorem BM{n:Nat}{i:Int}{j:Nat}(h:BD n i=some j):seqIndex? i n=some j/\j < n/\ -(n:Int)<=i/\i < n:=by
 unfold BD at h;by_cases h0:0<=i
 .rw [if_pos h0] at h;by_cases h1:i < n
  .rw [if_pos h1] at h;have e:i.toNat=j:=Option.some.inj h;exact⟨by rw[seqIndex_of h0 h1,e],by omega,by omega,h1⟩
  .rw [if_neg h1] at h;cases h
 .rw [if_neg h0] at h;by_cases h1: -(n:Int)<=i
  .rw [if_pos h1] at h;have e:(i+n).toNat=j:=Option.some.inj h;exact⟨by rw[seqIndex_neg (by omega) h1,e],by omega,h1,by omega⟩
  .rw [if_neg h1] at h;cases h
theorem xU{α:Type}{xs:List α}{i:Int}{v:α}(h:u_ xs i=some v):∃j,seqIndex? i xs.length=some j/\xs[j]? =some v/\j < xs.length/\ -(xs.length:Int)<=i/\i < xs.length:=by
 unfold u_ at h;cases e:BD xs.length i with
 | none=>rw [e] at h;cases h
 | some j=>
   rw[e] at h;obtain⟨h1,h2,h3,h4⟩:=BM e;exact⟨j,h1,h,h2,h3,h4⟩
def tE(b:Expr):Prop:=∀o i,subscripted b false o i=operate [o,i] (getItem o i)
def I0(X:Cx)(r:R2):Prop:=
 ∀(value slice:Expr) (pins:WH) (s:Shared) (σ:St) (H:Hp) (x y:V) (v u:Value) (Q:VK),Inv X pins σ H s->RelV x v->RelV y u->r x y H Q->
  subscripted slice false v u=operate [v,u] (getItem v u)->wpAny (model X.prog X.w) X.A (subscriptTail value slice v u) (EP X pins σ Q) X.xe s
def UO(X:Cx)(id:String)(r:V->List V->Hp->VK->Prop):Prop:=
 ∀(pins:WH) (s:Shared) (σ:St) (H:Hp) (x:V) (xs:List V) (v:Value) (us:List Value) (Q:VK),Inv X pins σ H s->RelV x v->Vals xs us->r x xs H Q->
  wpAny (model X.prog X.w) X.A (call (.builtin id) (v ::us)) (EP X pins σ Q) X.xe s
section
variable {X:Cx} {a b:Expr} {ta tb:TE} {pos:Pos}
theorem I0.or{r r':R2}(h:I0 X r)(h':I0 X r'):I0 X (fun x y H Q=>r x y H Q\/r' x y H Q):=by
 intro value slice pins s σ H x y v u Q I rx ry q hs;rcases q with q | q
 .exact h value slice pins s σ H x y v u Q I rx ry q hs
 .exact h' value slice pins s σ H x y v u Q I rx ry q hs
theorem Kf{r:R2}(hr:I0 X r)(ha:PE X a ta)(hb:PE X b tb)(hs:tE b):PE X (.Subscript a b pos) (MJ r ta tb):=by
 intro pins s σ H Q I h;exact Subscript_ (L_ ha hb I h fun v u s2 x y H2 I2 rx ry q=>hr a b pins s2 σ H2 x y v u Q I2 rx ry q (hs _ _))
def OM(K:W.Frag):R2:=fun x y H Q=>∃p xs i v,x= .ref p/\y= .int i/\o8 K H p xs/\u_ xs i=some v/\Q v H
def Nj(K:W.Frag):R2:=fun x y H Q=>∃p xs i v,x= .ref p/\y= .int i/\sT K H p xs/\u_ xs i=some v/\Q v H
def Nr:R2:=fun x y H Q=>∃z i c,x= .str z/\y= .int i/\z.length<=sizeLine/\u_ z.cps.toList i=some c/\Q (.str ⟨#[c]⟩) H
theorem IU:I0 X (OM X.K):=by
 intro value slice pins s σ H x y v u Q I rx ry h hs;obtain⟨p,xs,i,z,rfl,rfl,hq,he,q⟩:=h;cases rx;obtain⟨t,rfl⟩:=ry;obtain⟨its,r,pl,hz⟩:=I.list hq;obtain⟨j,h1,h2,h3,h4,h5⟩:=xU he;obtain⟨w,ew,zY⟩:=r.get h2;have hl:=r.length;have hn:=qO;have fin:EP X pins σ Q w s:=⟨z,H,I,zY,q⟩;by_cases h0:0<=i
 .have hj:i.toNat=j:=by
   rw[seqIndex_of h0 h5] at h1;exact Option.some.inj h1
  exact item_listR pl.isList h0 (by omega) (by rw[hj];simpa using ew) fin hs
 .have hj:(i+(its.toArray.size:Int)).toNat=j:=by
   rw[seqIndex_neg (by omega) h4] at h1
   rw[List.size_toArray,<-hl];exact Option.some.inj h1
  exact subscriptTail_builtinR (x:=w) pl.isList.typeIs slot_list_getitem.lookup
   (wpAny_getItem_list_neg (Q:=fun r s'=>r=w/\EP X pins σ Q r s') pl.isList (by omega) (by rw[List.size_toArray] <;> omega) (by omega) (by rw[hj];simpa using ew) ⟨rfl,fin⟩) hs
theorem Lg:I0 X (Nj X.K):=by
 intro value slice pins s σ H x y v u Q I rx ry h hs;obtain⟨p,xs,i,z,rfl,rfl,hq,he,q⟩:=h;cases rx;obtain⟨t,rfl⟩:=ry;obtain⟨its,r,pl,hz⟩:=I.tuple hq;obtain⟨j,h1,h2,h3,h4,h5⟩:=xU he;obtain⟨w,ew,zY⟩:=r.get h2;have hl:=r.length;have hn:=qO;have fin:EP X pins σ Q w s:=⟨z,H,I,zY,q⟩;exact subscriptTail_builtinR (x:=w) pl.typeIs slot_tuple_getitem.lookup
  (getItem_tuple (j:=j) (Q:=fun r s'=>r=w/\EP X pins σ Q r s') pl (by omega) (by omega) (by rw[List.size_toArray,<-hl];exact h1) (by simpa using ew) ⟨rfl,fin⟩) hs
theorem Mj:I0 X Nr:=by
 intro value slice pins s σ H x y v u Q I rx ry h hs;obtain⟨z,i,c,rfl,rfl,hz,he,q⟩:=h;obtain⟨t,rfl⟩:=rx;obtain⟨t',rfl⟩:=ry;obtain⟨j,h1,h2,h3,h4,h5⟩:=xU he;have hl:z.cps.toList.length=z.length:=by simp [Str.length]
 rw[hl] at h1 h4 h5;have hn:=qO;exact tail_any (typeIs_str s z t) slot_str_getitem.lookup (getItem_str (c:=c) (by
  have e1:decide (i < -(2 ^ 63:Int))=false:=decide_eq_false (by omega)
  have e2:decide (i>=2 ^ 63)=false:=decide_eq_false (by omega)
  rw[e1,e2,Bool.or_false]) (by rw[h1];simpa using h2) ⟨.str ⟨#[c]⟩,H,I.tok _,⟨_,rfl⟩,q⟩) hs
def QS(K:W.Frag):R2:=fun x y H Q=>OM K x y H Q\/Nj K x y H Q\/Nr x y H Q
theorem Et:I0 X (QS X.K):=IU.or (Lg.or Mj)
theorem AG(its:List Value)(n j:Nat)(u:Value):Obj.mapSeq (·.setIfInBounds j u) {cls:= .type "list",data:= .seq its.toArray n}={cls:= .type "list",data:= .seq (its.set j u).toArray n}:=by
 simp [Obj.mapSeq]
theorem Inv.lst{pins:WH}{H:Hp}{s:Shared}{p:Addr}{xs:List V}(I:Inv X pins σ H s)(h:H p=some (.lst xs)) :
 ∃(its:List Value) (n:Nat),Vals xs its/\s.heap.get? p=some {cls:= .type "list",data:= .seq its.toArray n}/\xs.length<=sizeLine:=by
 obtain⟨z,its,n,r,e⟩:=I.hok p _ h;exact⟨its,n,r,e,z⟩
theorem Inv.LH{pins:WH}{σ:St}{H:Hp}{s:Shared}{p:Addr}{xs ys:List V}{its its':List Value}{n n':Nat}{f:Obj->Obj}(I:Inv X pins σ H s)(h:H p=some (.lst xs))
 (ho:s.heap.get? p=some {cls:= .type "list",data:= .seq its.toArray n}) (hf:f {cls:= .type "list",data:= .seq its.toArray n}={cls:= .type "list",data:= .seq its'.toArray n'}) (r:Vals ys its') (hz:ys.length<=sizeLine) (t:Nat) :
 Inv X pins σ (upd H p (.lst ys)) {s with heap:=s.heap.update p f,toks:=t}:=by
 have e:(s.heap.update p f).get? p=some {cls:= .type "list",data:= .seq its'.toArray n'}:=by
  rw[Heap.get?_update_self f ho (by rw[hf] <;> rfl),hf]
 refine I.write (x:=p) (e:=p) (by rw[h];trivial) (.inl rfl) (fun b u hb q=>(Heap.get?_update_other _ _ (Ne.symm hb)).trans q) ⟨_,e⟩ ?_
 exact⟨hz,its',n',r,e⟩
def JQ:V->V->V->Hp->(Hp->Prop)->Prop:=fun o i v H Q=>∃p xs k j,o= .ref p/\i= .int k/\H p=some (.lst xs)/\BD xs.length k=some j/\Q (upd H p (.lst (xs.set j v)))
theorem set_list:N_ X JQ:=by
 intro pins s σ H o i v ov iv u Q I ro ri rv h;obtain⟨p,xs,k,j,rfl,rfl,hp,hj,q⟩:=h;cases ro;obtain⟨t,rfl⟩:=ri;obtain⟨its,n,r,ho,hz⟩:=I.lst hp;obtain⟨h1,h2,h3,h4⟩:=BM hj;have hl:=r.length;have hn:=qO;have I':Inv X pins σ (upd H p (.lst (xs.set j v))) {s with heap:=s.heap.update p (Obj.mapSeq (·.setIfInBounds j u))}:=
  I.LH hp ho (AG its n j u) (r.set rv j) (by rw[List.length_set];exact hz) s.toks
 by_cases h0:0<=k
 .have hk:k.toNat=j:=by
   rw[seqIndex_of h0 h4] at h1;exact Option.some.inj h1
  exact PySem.W.ki_setAt ho h0 (by omega) (by rw[List.size_toArray,<-hl];exact h4) (by rw[hk];exact⟨_,I',q⟩)
 .have hk:(k+(its.toArray.size:Int)).toNat=j:=by
   rw[seqIndex_neg (by omega) h3] at h1
   rw[List.size_toArray,<-hl];exact Option.some.inj h1
  exact PySem.W.ki_setBack ho (by omega) (by rw[List.size_toArray,<-hl];exact h3) (by omega) (by rw[hk];exact⟨_,I',q⟩)
theorem xr(lo hi:Option Int)(n:Nat):(sliceBounds lo hi none n).1=((HT.tq n 0 lo:Nat):Int)/\(sliceBounds lo hi none n).2.1=((HT.tq n n hi:Nat):Int)/\(sliceBounds lo hi none n).2.2=1:=by
 refine⟨?_,?_,rfl⟩
 .cases lo with
  | none=>simp [sliceBounds,HT.tq]
  | some i=>
    simp only[sliceBounds,HT.tq,Option.getD_none,show(1:Int) > 0 by decide,if_true]
    by_cases h:i < 0
    .simp only[h,if_true] <;> omega
    .simp only[h,if_false] <;> omega
 .cases hi with
  | none=>simp [sliceBounds,HT.tq]
  | some i=>
    simp only[sliceBounds,HT.tq,Option.getD_none,show(1:Int) > 0 by decide,if_true]
    by_cases h:i < 0
    .simp only[h,if_true] <;> omega
    .simp only[h,if_false] <;> omega
theorem vS(its:List Value)(lo hi:Option Int):slicePick its.toArray lo hi none=((its.drop (HT.tq its.length 0 lo)).take (HT.tq its.length its.length hi - HT.tq its.length 0 lo)).toArray:=by
 obtain⟨h1,h2,h3⟩:=xr lo hi its.toArray.size;unfold slicePick;rw[h1,h2,h3];simp only[sliceRange_one,pick_run,List.size_toArray] <;> rfl
def Qu(K:W.Frag):V->Option Int->Option Int->Hp->VK->Prop:=fun x lo hi H Q=>∃a xs,x= .ref a/\o8 K H a xs/\∀p,H p=none->Q (.ref p) (upd H p (.lst (z0 xs lo hi)))
theorem JK:Ky X (Qu X.K):=by
 intro pins s σ H x v vl vu lo hi sl Q I rx hs pl pu h;obtain⟨a,xs,rfl,hx,q⟩:=h;cases rx;obtain⟨its,r,ht,hz⟩:=I.list hx;have hlen:=r.length;refine⟨"list",_,slot_list_getitem.lookup,ht.isList.typeIs,?_⟩;refine wpAny_getItem_list_slice ht.isList hs pl pu .none (by simp) ?_ (by rw[List.size_toArray] <;> omega)
 rw[vS,<-hlen];refine⟨.ref s.heap.objs.size,_,I.laid (t':=s.toks) (o:= .lst (z0 xs lo hi)) (fun b ob q=>Heap.get?_push_of_some _ q) (Nat.le_refl _) ?_,rfl,q _ (I.hok.fresh (Nat.le_refl _))⟩
 exact⟨Nat.le_trans (y6 xs lo hi) hz,_,0,(r.drop (HT.tq xs.length 0 lo)).take (HT.tq xs.length xs.length hi - HT.tq xs.length 0 lo),Heap.get?_push_size _ rfl⟩
def mN:V->Bool
 | .cX=>true
 | .bl _=>true
 | .int _=>true
 | .str _=>true
 | _=>false
def Kj:V->V->Bool
 | .cX, .cX=>true
 | .bl a, .bl b=>a==b
 | .bl a, .int b=>(if a then 1 else 0)==b
 | .int a, .bl b=>a==(if b then 1 else 0)
 | .int a, .int b=>a==b
 | .str a, .str b=>a==b
 | _,_=>false
theorem KU{s:Shared}{y x:V}{u v:Value}(ry:RelV y u)(rx:RelV x v)(fy:mN y=true)(fx:mN x=true):SeqAt.EqAt A s u v (Kj y x):=by
 cases y with
 | cX=>
   cases ry;cases x with
   | cX=>cases rx;exact SeqAt.EqAt.same _
   | bl b=>cases rx;exact SeqAt.EqAt.none_bool b
   | int b=>obtain⟨t,rfl⟩:=rx;exact SeqAt.EqAt.none_int b t
   | str b=>obtain⟨t,rfl⟩:=rx;exact SeqAt.EqAt.none_str b t
   | _=>exact absurd (show false=true from fx) Bool.false_ne_true
 | bl a=>
   cases ry;cases x with
   | cX=>cases rx;exact SeqAt.EqAt.bool_none a
   | bl b=>cases rx;exact SeqAt.EqAt.bool_bool a b
   | int b=>obtain⟨t,rfl⟩:=rx;exact SeqAt.EqAt.bool_int a b t
   | str b=>obtain⟨t,rfl⟩:=rx;exact SeqAt.EqAt.bool_str a b t
   | _=>exact absurd (show false=true from fx) Bool.false_ne_true
 | int a=>
   obtain⟨t',rfl⟩:=ry;cases x with
   | cX=>cases rx;exact SeqAt.EqAt.int_none a t'
   | bl b=>cases rx;exact SeqAt.EqAt.int_bool a t' b
   | int b=>obtain⟨t,rfl⟩:=rx;exact SeqAt.EqAt.int_int a t' b t
   | str b=>obtain⟨t,rfl⟩:=rx;exact SeqAt.EqAt.int_str a t' b t
   | _=>exact absurd (show false=true from fx) Bool.false_ne_true
 | str a=>
   obtain⟨t',rfl⟩:=ry;cases x with
   | cX=>cases rx;exact SeqAt.EqAt.str_none a t'
   | bl b=>cases rx;exact SeqAt.EqAt.str_bool a t' b
   | int b=>obtain⟨t,rfl⟩:=rx;exact SeqAt.EqAt.str_int a t' b t
   | str b=>obtain⟨t,rfl⟩:=rx;exact SeqAt.EqAt.str_str a t' b t
   | _=>exact absurd (show false=true from fx) Bool.false_ne_true
 | _=>exact absurd (show false=true from fy) Bool.false_ne_true
def AA(x:V)(u:Value):Bool:=match u with
 | .none=>Kj .cX x
 | .bool b=>Kj (.bl b) x
 | .int i _=>Kj (.int i) x
 | .str z _=>Kj (.str z) x
 | _=>false
theorem Gu{x y:V}{u:Value}(r:RelV y u)(f:mN y=true):AA x u=Kj y x:=by
 cases y with
 | cX=>cases r;rfl
 | bl b=>cases r;rfl
 | int i=>obtain⟨t,rfl⟩:=r;rfl
 | str z=>obtain⟨t,rfl⟩:=r;rfl
 | _=>exact absurd (show false=true from f) Bool.false_ne_true
theorem p6{x:V}:∀{xs:List V} {us:List Value},Vals xs us->xs.all mN=true->us.any (AA x)=xs.any fun y=>Kj y x
 | _,_, .nil,_=>rfl
 | y ::xs,u ::us, .cons r t,f=>by
   rw[List.all_cons,Bool.and_eq_true] at f;rw[List.any_cons,List.any_cons,Gu r f.1,p6 t f.2]
theorem mV{s:Shared}{x:V}{v:Value}(rx:RelV x v)(fx:mN x=true):∀{xs:List V} {us:List Value},Vals xs us->xs.all mN=true->∀u∈us,SeqAt.EqAt A s u v (AA x u)
 | _,_, .nil,_=>fun u hu=>by cases hu
 | y ::xs,u ::us, .cons r t,f=>fun u' hu=>by
   rw[List.all_cons,Bool.and_eq_true] at f;rcases List.mem_cons.mp hu with rfl | hu
   .rw [Gu r f.1];exact KU r rx f.1 fx
   .exact mV rx fx t f.2 u' hu
def J6(x:V)(xs:List V):Bool:=xs.any fun y=>Kj y x
def Qv(K:W.Frag)(neg:Bool):R2:=fun x y H Q=>∃p xs,y= .ref p/\(o8 K H p xs\/sT K H p xs)/\mN x=true/\xs.all mN=true/\Q (.bl (if neg then !J6 x xs else J6 x xs)) H
theorem D5:mT X (compareOp .In) (Qv X.K false):=by
 intro pins s σ H x y v u Q I rx ry h;obtain⟨p,xs,rfl,hq,fx,fs,q⟩:=h;cases ry;rcases hq with hq | hq
 .obtain⟨its,r,pl,hz⟩:=I.list hq;refine SeqAt.in_listAt (AA x) pl.isList (fun w hw=>mV rx fx r fs w (by simpa using hw)) ⟨.bl _,H,I,rfl,?_⟩
  rw[show its.toArray.any (AA x)=its.any (AA x) by simp,p6 r fs]
  exact q
 .obtain⟨its,r,pl,hz⟩:=I.tuple hq;refine SeqAt.in_tupleAt (AA x) pl (fun w hw=>mV rx fx r fs w (by simpa using hw)) ⟨.bl _,H,I,rfl,?_⟩
  rw[show its.toArray.any (AA x)=its.any (AA x) by simp,p6 r fs]
  exact q
theorem xM:mT X (compareOp .NotIn) (Qv X.K true):=by
 intro pins s σ H x y v u Q I rx ry h;obtain⟨p,xs,rfl,hq,fx,fs,q⟩:=h;cases ry;rcases hq with hq | hq
 .obtain⟨its,r,pl,hz⟩:=I.list hq;refine SeqAt.notIn_listAt (AA x) pl.isList (fun w hw=>mV rx fx r fs w (by simpa using hw)) ⟨.bl _,H,I,rfl,?_⟩
  rw[show its.toArray.any (AA x)=its.any (AA x) by simp,p6 r fs]
  exact q
 .obtain⟨its,r,pl,hz⟩:=I.tuple hq;refine SeqAt.notIn_tupleAt (AA x) pl (fun w hw=>mV rx fx r fs w (by simpa using hw)) ⟨.bl _,H,I,rfl,?_⟩
  rw[show its.toArray.any (AA x)=its.any (AA x) by simp,p6 r fs]
  exact q
theorem vz:uC X (.type "tuple") (fun xs H Q=>∃p ys,xs=[.ref p]/\((o8 X.K H p ys/\∀l,H l=none->Q (.ref l) (upd H l (.tup ys)))\/(sT X.K H p ys/\Q (.ref p) H))):=by
 intro pins s σ H xs us Q I r h;obtain⟨p,ys,rfl,h⟩:=h;obtain⟨u,rfl,rx⟩:=vals1 r;cases rx;rcases h with⟨hq,q⟩ | ⟨hq,q⟩
 .obtain⟨its,r',pl,hz⟩:=I.list hq;have hlen:=r'.length;refine call_tuple_list pl.isList (fun h' kp=>?_) (by simp only[List.size_toArray] <;> omega)
  have I1:Inv X pins σ H {s with heap:=h'}:=I.kept (t':=s.toks) kp
  have I2:Inv X pins σ (upd H h'.objs.size (.tup ys)) {s with heap:=h'.push {cls:= .type "tuple",data:= .seq its.toArray}}:=
   I1.laid (t':=s.toks) (fun b o e=>Heap.get?_push_of_some _ e) (Nat.le_refl _) (show eF X.prog X.w _ _ _ (.tup ys) from⟨hz,its,r',IsTup.new _ _⟩)
  exact⟨.ref h'.objs.size,_,I2,rfl,q _ (I1.hok.fresh (Nat.le_refl _))⟩
 .obtain⟨its,r',pl,hz⟩:=I.tuple hq;exact call_tuple_same pl ⟨.ref p,H,I,rfl,q⟩
def P9(K:W.Frag)(T:String)(x:V)(H:Hp):Prop:=match x with
 | .str _=>T="str"
 | .int _=>T="int"
 | .ref p=>(T="list"/\∃xs,o8 K H p xs)\/(T="tuple"/\∃o,K.lookup p=some o/\o.cls= .type "tuple"/\o.dict=none)\/
    (T="dict"/\((∃aL,H p=some (.dK aL))\/∃aL,H p=some (.dT aL)))\/(T="set"/\∃S n,H p=some (.set S n))
 | _=>False
theorem Mc{pins:WH}{s:Shared}{T:String}{x:V}{v:Value}(I:Inv X pins σ H s)(r:RelV x v)(ty:P9 X.K T x H) :
 s.TypeIs v T/\∀a,v= .ref a->∃ob,s.heap.get? a=some ob/\ob.dict=none:=by
 cases x with
 | str z=>
   obtain⟨t,rfl⟩:=r;cases(show T="str" from ty)
   exact⟨typeIs_str s z t,fun _ e=>nomatch e⟩
 | int i=>
   obtain⟨t,rfl⟩:=r;cases(show T="int" from ty)
   exact⟨typeIs_int s i t,fun _ e=>nomatch e⟩
 | ref p=>
   cases r;rcases ty with⟨rfl,xs,hq⟩ | ⟨rfl,o,hk,hc,hd⟩ | ⟨rfl,hk⟩ | ⟨rfl,S,n,hk⟩
   .obtain⟨its,_,pl,_⟩:=I.list hq;refine⟨pl.isList.typeIs,fun a e=>?_⟩
    cases e;obtain⟨o,n,e,c,hd,_⟩:=pl;exact⟨o,e,hd⟩
   .refine⟨⟨o,I.Cn p o hk,hc⟩,fun a e=>?_⟩
    cases e;exact⟨o,I.Cn _ o hk,hd⟩
   .have z:∃o,s.heap.get? p=some o/\o.ExactDict:=by
     rcases hk with⟨aL,hk⟩ | ⟨aL,hk⟩
     .obtain⟨_,_,_,_,o,_,_,e,ex,_⟩:=I.hok p _ hk;exact⟨o,e,ex⟩
     .obtain⟨_,_,_,_,o,_,_,e,ex,_⟩:=I.hok p _ hk;exact⟨o,e,ex⟩
    obtain⟨o,e,ex⟩:=z;refine⟨⟨o,e,ex.1⟩,fun a e2=>?_⟩
    cases e2;exact⟨o,e,ex.2.1⟩
   .obtain⟨o,_,_,_,e,ex,_⟩:=I.hok p _ hk;refine⟨⟨o,e,ex.1⟩,fun a e2=>?_⟩
    cases e2;exact⟨o,e,ex.2.1⟩
 | _=>exact False.elim ty
def Uw(K:W.Frag)(T:String)(r:V->List V->Hp->VK->Prop)(to:TE):TE:=fun σ H Q=>to σ H fun x H1=>P9 K T x H1/\r x [] H1 Q
def TN(K:W.Frag)(T:String)(r:V->List V->Hp->VK->Prop)(to:TE)(t:TA):TE:=fun σ H Q=>to σ H fun x H1=>P9 K T x H1/\t σ H1 fun xs H2=>r x xs H2 Q
variable {o e:Expr} {es:List Expr} {to:TE} {t:TA} {name:Str} {apos cu:Pos} {T id:String} {r:V->List V->Hp->VK->Prop}
theorem Cb(pa:PlainAttrs T)(slot:Slot T name id)(VP:typeOf (.builtin id)=pure (.type "method_descriptor"))(hm:UO X id r)(ho:PE X o to)(ha:PA X (e ::es) t)
 (lN:attributeBase o name X.env (eval o X.env)=eval o X.env:=by rfl)
 (rL:((backTo cu (starEach (e ::es) X.env)).all (fun x=>!x.1) && (backToKw cu (keywordEach [] X.env)).all (fun x=>x.1.isSome)
   && decide ((e ::es).length+([]:List Keyword).length+(if([]:List Keyword).isEmpty then 0 else 1) < 30))=true:=by rfl)
 (lP:(apos.endLine==cu.line)=true:=by rfl) (hs:starEach (e ::es) X.env=(false,eval e X.env) ::starEach es X.env:=by rfl) (MA:(backTo cu (starEach es X.env)).any (·.1)=false:=by rfl) :
 PE X (.Call (.Attribute o name apos) (e ::es) [] cu) (TN X.K T r to t):=by
 intro pins s σ H Q I h;refine wpAny_Call_method_late lN rL lP rfl (dH (ho pins s σ H _ I h) fun v s1 ⟨x,H1,I1,r1,ty,q1⟩=>?_)
 obtain⟨h1,h2⟩:=Mc I1 r1 ty;refine⟨T,id,pa,slot,VP,h1,h2,?_⟩;have hA:=ha cu pins s1 σ H1 _ I1 q1;rw[hs] at hA ⊢;refine Calls.callWith_builtin (by show(false || (backTo cu (starEach es X.env)).any (·.1))=false;rw [MA] <;> rfl) (Calls.evalArgs_plain ?_)
 exact dH hA fun us s2 ⟨vs,H2,I2,r2,q2⟩=>hm pins s2 σ H2 x vs v us Q I2 r1 r2 q2
end
def P1(X:Cx)(id:String)(r:V->List V->Hp->VK->Prop):Prop:=
 ∀(pins:WH) (s:Shared) (σ:St) (H:Hp) (x:V) (xs:List V) (v:Value) (us:List Value) (Q:VK),Inv X pins σ H s->RelV x v->Vals xs us->r x xs H Q->
  wpAny (model X.prog X.w) X.A (call (.builtin id) (v ::us)) (EP X pins σ Q) X.xe s
theorem Vals.one:∀{x:V} {us:List Value},Vals [x] us->∃u,us=[u]/\RelV x u
 | _,_, .cons r .nil=>⟨_,rfl,r⟩
theorem Vals.rep{xs:List V}{us:List Value}(h:Vals xs us):∀k:Nat,Vals (List.replicate k xs).flatten (List.replicate k us).flatten
 | 0=> .nil
 | k+1=>by
   rw[List.replicate_succ,List.replicate_succ,List.flatten_cons,List.flatten_cons];exact Vals.append h (Vals.rep h k)
theorem foldl_rep(its:List Value):∀(k:Nat) (acc:List Value),
 List.foldl (fun x1 x2=>x1++x2) acc.toArray (List.replicate k its.toArray)=(acc++(List.replicate k its).flatten).toArray
 | 0,acc=>by simp
 | k+1,acc=>by
   have e:acc.toArray++its.toArray=(acc++its).toArray:=by simp
   have e2:(acc++its)++(List.replicate k its).flatten=acc++(List.replicate (k+1) its).flatten:=by
    rw[List.replicate_succ,List.flatten_cons,List.append_assoc]
   rw[<-e2,<-foldl_rep its k (acc++its),<-e,List.replicate_succ,List.foldl_cons]
section
variable {X:Cx} {pins:WH} {σ:St} {H:Hp} {s:Shared} {l b:Addr} {xs ys zs:List V}
theorem Inv.JC{its its':List Value}{n:Nat}{f:Array Value->Array Value}{t':Nat}(I:Inv X pins σ H s)(hH:H l=some (.lst xs))
 (e:s.heap.get? l=some {cls:= .type "list",data:= .seq its.toArray n}) (hf:f its.toArray=its'.toArray) (hv:Vals ys its') (hz:ys.length<=sizeLine) :
 Inv X pins σ (upd H l (.lst ys)) {s with heap:=s.heap.update l (Obj.mapSeq f),toks:=t'}:=by
 have q:=PySem.IsL.update e f;rw[hf] at q;refine I.write (x:=l) (e:=l) (by rw[hH];exact trivial) (.inl rfl) (fun b' u hb hu=>(Heap.get?_update_other s.heap (Obj.mapSeq f) (Ne.symm hb)).trans hu) ⟨_,q⟩ ?_
 exact⟨hz,its',_,hv,q⟩
theorem Inv.JA{its:List Value}{t':Nat}(I:Inv X pins σ H s)(hv:Vals ys its)(hz:ys.length<=sizeLine) :
 Inv X pins σ (upd H s.heap.objs.size (.lst ys)) {s with heap:=s.heap.push {cls:= .type "list",data:= .seq its.toArray},toks:=t'}:=
 I.laid (fun _ _ q=>Heap.get?_push_of_some _ q) (Nat.le_refl _) ⟨hz,its,0,hv,Heap.get?_push_size _ rfl⟩
theorem Inv.fresh(I:Inv X pins σ H s):H s.heap.objs.size=none:=I.hok.fresh (Nat.le_refl _)
theorem Inv.GO(I:Inv X pins σ H s)(hH:H l=some (.lst xs)):xs.length<=sizeLine/\∃(its:List Value) (n:Nat),Vals xs its/\xs.length=its.length/\s.heap.get? l=some {cls:= .type "list",data:= .seq its.toArray n}:=by
 obtain⟨z,its,n,r,e⟩:=I.hok l _ hH;exact⟨z,its,n,r,r.length,e⟩
theorem uW{n:Nat}(h:n<=sizeLine):Builtin.List.listTooLong n=false:=by
 unfold Builtin.List.listTooLong;exact decide_eq_false (by omega)
end
section
variable {X:Cx}
def Jg:V->List V->Hp->VK->Prop:=fun x vs H Q=>∃l xs y,x= .ref l/\vs=[y]/\H l=some (.lst xs)/\xs.length < sizeLine/\Q .cX (upd H l (.lst (xs++[y])))
theorem q8:P1 X "list.append" Jg:=by
 intro pins s σ H x vs v us Q I rx rv h;obtain⟨l,xs,y,rfl,rfl,hH,hz,q⟩:=h;cases rx;obtain⟨u,rfl,ru⟩:=rv.one;obtain⟨z,its,n,r,hl,e⟩:=I.GO hH;refine call_meets F.slot_list_append ⟨_,e,rfl⟩ F.entry_list_append (F.args_list_append_2 _ _) (PySem.list_append l its.toArray n u (by rw[List.size_toArray];omega)) ⟨e,?_⟩
 refine⟨.cX,_,I.JC (its':=its++[u]) hH e (by simp) (r.append (.cons ru .nil)) ?_,rfl,q⟩
 rw[List.length_append,List.length_singleton];omega
def Ja:V->List V->Hp->VK->Prop:=fun x vs H Q=>∃l b xs zs,x= .ref l/\vs=[.ref b]/\H l=some (.lst xs)/\H b=some (.lst zs)/\xs.length+zs.length<=sizeLine/\Q .cX (upd H l (.lst (xs++zs)))
theorem D2:P1 X "list.extend" Ja:=by
 intro pins s σ H x vs v us Q I rx rv h;obtain⟨l,b,xs,zs,rfl,rfl,hH,hB,hz,q⟩:=h;cases rx;obtain⟨u,rfl,ru⟩:=rv.one;cases ru;obtain⟨z,its,n,r,hl,e⟩:=I.GO hH;obtain⟨z2,nX,n2,r2,Bg,e2⟩:=I.GO hB;have hsz:its.toArray.size+nX.toArray.size<=sizeLine:=by rw[List.size_toArray,List.size_toArray];omega
 have hlong:¬(!its.toArray.isEmpty && Builtin.List.listTooLong (its.toArray.size+nX.toArray.size))=true:=by
  rw[uW hsz,Bool.and_false];exact Bool.false_ne_true
 refine call_meets F.slot_list_extend ⟨_,e,rfl⟩ F.entry_list_extend (F.args_list_extend_2 _ _)
  (AutoSeq1.list_extend_list_list_0 l its.toArray n b nX.toArray n2 hlong (by rw[List.size_toArray];omega) (by omega)) ⟨e,e2,?_⟩
 refine⟨.cX,_,I.JC (its':=its++nX) hH e (by simp) (r.append r2) ?_,rfl,q⟩
 rw[List.length_append];omega
def Ur:V->List V->Hp->VK->Prop:=fun x vs H Q=>∃l xs y,x= .ref l/\vs=[]/\H l=some (.lst xs)/\xs[xs.length - 1]? =some y/\Q y (upd H l (.lst xs.dropLast))
def PM:V->List V->Hp->VK->Prop:=fun x vs H Q=>∃l xs i k y,x= .ref l/\vs=[.int i]/\H l=some (.lst xs)/\ -(2 ^ 63)<=i/\i < 2 ^ 63/\seqIndex? i xs.length=some k/\xs[k]? =some y/\Q y (upd H l (.lst (xs.eraseIdx k)))
def N7:V->List V->Hp->VK->Prop:=fun x vs H Q=>∃l xs,x= .ref l/\vs=[]/\H l=some (.lst xs)/\Q .cX (upd H l (.lst xs.reverse))
def Q7:V->List V->Hp->VK->Prop:=fun x vs H Q=>∃l xs,x= .ref l/\vs=[]/\H l=some (.lst xs)/\Q .cX (upd H l (.lst []))
def UZ:R2:=fun x y H Q=>∃l b xs zs,x= .ref l/\y= .ref b/\H l=some (.lst xs)/\H b=some (.lst zs)/\xs.length+zs.length<=sizeLine/\∀p,H p=none->Q (.ref p) (upd H p (.lst (xs++zs)))
def Qm:R2:=fun x y H Q=>∃l k xs,x= .ref l/\y= .int k/\H l=some (.lst xs)/\ -(2 ^ 63)<=k/\k < 2 ^ 63/\xs.length*k.toNat<=sizeLine/\
 ∀p,H p=none->Q (.ref p) (upd H p (.lst (List.replicate k.toNat xs).flatten))
theorem len_rep{α:Type}(xs:List α)(k:Nat):(List.replicate k xs).flatten.length=k*xs.length:=by
 induction k with
 | zero=>simp
 | succ k ih=>rw [List.replicate_succ,List.flatten_cons,List.length_append,ih,Nat.succ_mul,Nat.add_comm]
theorem Lj:mT X (binaryOp .Mult) Qm:=by
 intro pins s σ H x y v u Q I rx ry h;obtain⟨l,k,xs,rfl,rfl,hH,h1,h2,hz,q⟩:=h;cases rx;obtain⟨t,rfl⟩:=ry;obtain⟨z,its,n,r,hl,e⟩:=I.GO hH;have hlen:its.toArray.size*k.toNat<=sizeLine:=by rw[List.size_toArray,<-hl];exact hz
 have hcap:¬its.toArray.size*k.toNat > (2 ^ 63 - 1) / 8:=by
  have:(sizeLine:Nat)<=(2 ^ 63 - 1) / 8:=by decide
  omega
 have hfit:¬(!Builtin.List.listFitsIndex k)=true:=by
  rw[fitsIndex_both h1 h2];exact Bool.false_ne_true
 have hlong:¬Builtin.List.listTooLong (its.toArray.size*k.toNat)=true:=by
  rw[uW hlen];exact Bool.false_ne_true
 have hnew:List.foldl (fun x1 x2=>x1++x2) #[] (List.replicate (if its.toArray.isEmpty=true then 0 else k.toNat) its.toArray)=(List.replicate k.toNat its).flatten.toArray:=by
  have f0:∀m:Nat,List.foldl (fun x1 x2=>x1++x2) #[] (List.replicate m its.toArray)=(List.replicate m its).flatten.toArray:=fun m=>by
   have:=foldl_rep its m [];rw[List.nil_append] at this;exact this
  rw[f0];cases its with
  | nil=>simp
  | cons a r'=>rw [if_neg (by simp)]
 refine wpAny_binaryOp_repeat_ref (T:="list") (U:="int") (by decide) ⟨_,e,rfl⟩ (fun s'=>typeIs_int s' k t) noFill_list_mul F.fills_int_mul F.slot_int_rmul repeat_list F.slot_int_index.lookup
  (call_meets F.slot_int_rmul (typeIs_int s k t) F.entry_int_rmul (F.args_int_rmul_2 _ _) (int___rmul___int_list k t l its.toArray n)
    ⟨e,rfl,⟨_,e,rfl⟩,call_meets F.slot_list_mul ⟨_,e,rfl⟩ F.entry_list_mul (F.args_list_mul_2 _ _) (AutoListH.list___mul___list_int_3 l its.toArray n k t hfit hcap hlong) ⟨e,?_⟩⟩)
 rw[hnew];exact⟨.ref _,_,I.JA (t':=s.toks) (r.rep k.toNat) (by rw[len_rep,Nat.mul_comm];exact hz),rfl,q _ I.fresh⟩
end
section
variable {prog:Program} {w:World} {A:Around} {E:WI} {s:Shared}
set_option maxRecDepth 100000 in
end
section
variable {X:Cx}
end
end L2
namespace Att
open PySem PySem.W PySem.Calls PyProof.Rows
theorem sU{P:Params}:∀(ns:List Int) (vs:List Value),WellAll P h vs (ns.map WData.int)->IntsAre vs ns:=by
 intro ns
 induction ns with
 | nil=>
   intro vs w;rw[List.map_nil] at w;cases w;exact .nil
 | cons n ns ih=>
   intro vs w;rw[List.map_cons] at w;cases w with
   | cons a b=>
     cases a;exact .cons _ _ (ih _ b)
theorem Dh{l:OpenLaw}{n:Nat}(hn:l.most=some n){P:Params}{h:Heap}{args:List WData}{vals:List Value}
 (JM:l.row.toRowW.claim.pre args=true) (Rz:WellAll P h vals args) :
 ∃a vs ns,vals=[Value.ref a]/\args=[WData.list (ns.map WData.int)]/\h.get? a=some {cls:= .type "list",data:= .seq vs.toArray}/\IntsAre vs ns/\ns.length<=n:=by
 have hsh:WShape.hasAll [] args [.list .int]=true:=(pre_splitW JM).1;have hc:l.pre.holds [] {args:=args}=true:=(pre_splitW JM).2;obtain⟨d,r,rfl,h1,h2⟩:=hasAllW_cons hsh;obtain rfl:=hasAllW_nil h2;obtain⟨xs,rfl,h3⟩:=hasW_list h1;obtain⟨ns,rfl⟩:=items_int h3;have hlen:ns.length<=n:=by
  unfold OpenLaw.pre at hc;have h4:(WTm.not (.lt (.lit (.int (n:Int))) (.len (.arg 0)))).holds [] {args:=[.list (ns.map .int)]}=true:=by
   have h4:=(holds_andW hc).1;rw[hn] at h4;exact h4
  have h5:=condW_of h4 (w_not (w_lt w_lit (w_len_list (w_arg rfl))));rw[List.length_map] at h5;refine Nat.le_of_not_lt fun q=>?_
  have q':(n:Int) < ((ns.length:Nat):Int):=by omega
  first
   | (rw [decide_eq_true q'] at h5;exact absurd h5 (by decide))
   | (simp at h5;omega)
 cases Rz with
 | cons w1 w2=>
   cases w2;cases w1 with
   | list ho Ed=>exact⟨_,_,ns,rfl,rfl,ho,sU ns _ Ed,hlen⟩
theorem D8(l:OpenLaw)(args:List WData):l.row.toRowW.claim.post args (.bool true) args=true:=
 postW_of (r:=l.row.toRowW) (X:=(true==true))
  (show WShape.has [] (.bool true) .bool=true by first | rfl | decide | simp [WShape.has,WShape.arms,WShape.armsAll])
  (show(WTm.eq .res (.lit (.bool true))).value [] {args:=args,res:=some (.bool true),after:=args}=some (.bool (true==true)) from w_eq_bool (w_res rfl) w_lit) rfl
theorem zA{l:OpenLaw}{n:Nat}{q:Program}{loose:List Str}{XP:(Str->Option Value)->Heap->Prop}{YP:World->Heap->Prop}{d:DefRec}
 (hn:l.most=some n) (RJ:d.params.defaults=[])
 (call:∀(w:World) (s₀ s₁:Shared) (mg mb:WM) (fa:Addr) (o:Obj) (pm cd doc:Value) (a:Addr) (vs:List Value) (ns:List Int),
   Ground q loose [] XP w s₀ mg mb s₁.heap->YP w s₁.heap->
   s₁.heap.get? fa=some o->o.data= .func (docDef d.name d.params d.body d.scope pm cd doc)->s₁.heap.CodeRec cd d.name->mg d.name=some (.ref fa)->
   s₁.heap.get? a=some {cls:= .type "list",data:= .seq vs.toArray}->IntsAre vs ns->ns.length<=n->s₁.gens=#[]->
   codeAny (model l.prog w) callerA (.call (.ref fa) ⟨[.ref a],[]⟩) (fun r s'=>r= .ok (.ret (.bool true))/\OldK s₁.heap s'.heap/\s'.os=s₁.os/\AllBare s'.gens) s₁) :
 WalkO q loose XP YP l.row.toRowW d [] (fun f vs=>PySem.call f vs):=by
 intro w s₀ s₁ mg mb G Y fa o pm cd doc dV kV ho hd rK hD OS hg args vals as JM hlay hrd Rz hlo;obtain rfl:dV= .none:=Dflts.none hD RJ;obtain rfl:kV= .none:=Dflts.noKw hD;obtain⟨a,vs,ns,rfl,rfl,Mt,hints,hlen⟩:=Dh hn JM Rz;refine enter_call (codeAny_mono (call w s₀ s₁ mg mb fa o pm cd doc a vs ns G Y ho (fd_plain hd) rK OS Mt hints hlen hg) fun r s' hq=>?_)
 obtain⟨rfl,h2,h3,h4⟩:=hq;exact⟨.inl ⟨.bool true, .bool true,[],rfl,fun _=>rfl, .bool true,D8 l _,fun _=>⟨List.Pairwise.nil,fun _ hm=>(nomatch hm)⟩⟩,h2,h3,h4⟩
section
variable {prog:Program} {w:World} {A:Around} {E:WI} {s:Shared} {K:Frag}
def Q_(h:Heap):Heap:={h with objs:=#[]}
def ledger(h:Heap)(L d:Addr):WH:=(List.range h.objs.size).filterMap fun a=>if a=L\/a=d then none else(h.get? a).map fun o=>(a,o)
end
end Att
namespace L2
open PySem PySem.Spec PyProof.Rows
theorem wA:∀{vs:List Value} {ns:List Int},IntsAre vs ns->Vals (ns.map V.int) vs
 | _,_, .nil=> .nil
 | _,_, .cons n t h=> .cons ⟨t,rfl⟩ (wA h)
def NX(H:Hp):Prop:=∀b,H b=none\/∃o xs,H b=some (.kL o (.lst xs))
abbrev d5{K:W.Frag}{h:Heap}(_:K.In h):W.Frag:=K
def inClass(s:Stmt)(j:Nat):Stmt:=match s with
 | .ClassDef _ _ _ body _ _ _ _ _ _ _=>body.getD j (.Pass ⟨0,0,0,0⟩)
 | _=> .Pass ⟨0,0,0,0⟩
def kr(s:Stmt):Arguments:=match s with
 | .FunctionDef _ a _ _ _ _ _ _ _ _=>a
 | _=>{posonlyargs:=[],args:=[],vararg:=none,kwonlyargs:=[],kw_defaults:=[],kwarg:=none,defaults:=[]}
def aP(s:Stmt):List Stmt:=match s with
 | .FunctionDef _ _ b _ _ _ _ _ _ _=>b
 | _=>[]
def aC(s:Stmt):Scope:=match s with
 | .FunctionDef _ _ _ _ _ _ sc _ _ _=>sc
 | _=>{kind:= .function,names:=[],isGenerator:=false,isCoroutine:=false}
abbrev vI:EG:=fun _ _ _ _ _ _=>False
abbrev E0:XK:=fun _ _ _=>False
theorem zd{X:Cx}:Passes vI X E0:=fun _ _ _ _ _ _ _ h=>h.elim
structure Cm (K:W.Frag) (x qual:Str) (st:Stmt) (f:Addr) (fd:FuncData):Prop where
 ex:∃(oc:Value) (od:Option Addr) (kV doc pm:Value) (an:Option Addr) (dI ct:Value) (Ho:Array (Option Value)),
  fd=PySem.W.fnOf x qual (kr st) (aP st) (aC st) .none kV doc pm an dI ct/\K.lookup f=some ⟨oc,od, .func fd,Ho⟩/\PySem.W.codeIn K dI qual=true
 kp:PySem.W.keepIn K (.ref f)=true
section
variable {P:Program} {w:World} {K:W.Frag} {mg:WM} {base:Heap}
theorem Cm.ok{x qual:Str}{st:Stmt}{f:Addr}{fd:FuncData}{N ps:List Str}{k:Nat}{sp:Sp}(F:Cm K x qual st f fd)(S:aW N ps (aC st))(len:∀vs H Q E,sp vs H Q E->vs.length=ps.length)
 (lO:∀(dI:Value) (A:Around) (outer:List Env) (s:Shared) (H:Hp) (vs:List V) (Q:VK) (E:XK),eB k (A.deeper (envOfC qual (aC st) s.heap.objs.size f dI))->sp vs H Q E->
   ∃t,ym (uU vI P w K mg base N qual (aC st) f dI A outer s H E).Ig (aP st) t/\t {nx:=fun _ H'=>Q .cX H',rt:=Q} (start N vs) H):js P w K mg base vI (k+1) f fd ps sp:=by
 obtain⟨oc,od,kV,doc,pm,an,dI,ct,Ho,rfl,lk,rK⟩:=F.ex;refine Nm lk rK S len fun A outer s H vs Q E hr MW=>?_
 obtain⟨t,h,q⟩:=lO dI A outer s H vs Q E hr MW;exact⟨t,h.Ig,q⟩
theorem Cm.binds{x qual:Str}{st:Stmt}{f:Addr}{fd:FuncData}{ps:List Str}(F:Cm K x qual st f fd)
 (h:∀(kV doc pm:Value) (an:Option Addr) (dI ct:Value) (us:List Value),us.length=ps.length->bindArgs (PySem.W.fnOf x qual (kr st) (aP st) (aC st) .none kV doc pm an dI ct) ⟨us,[]⟩=pure (ps.zip us)):Binds K fd ps []:=by
 obtain⟨oc,od,kV,doc,pm,an,dI,ct,Ho,rfl,lk,rK⟩:=F.ex;exact .all (h kV doc pm an dI ct)
theorem xQ{x qual:Str}{st:Stmt}{f:Addr}{oc:Value}{od an:Option Addr}{Ho:Array (Option Value)}{kV doc pm dI ct:Value}(l:K.lookup f=some ⟨oc,od, .func (PySem.W.fnOf x qual (kr st) (aP st) (aC st) .none kV doc pm an dI ct),Ho⟩)
 (c:PySem.W.codeIn K dI qual=true) (k:PySem.W.keepIn K (.ref f)=true):Cm K x qual st f (PySem.W.fnOf x qual (kr st) (aP st) (aC st) .none kV doc pm an dI ct):=⟨⟨oc,od,kV,doc,pm,an,dI,ct,Ho,rfl,l,c⟩,k⟩
end
theorem so{A:Around}{k:Nat}(hr:eB k A):A.units+1 < cLine:=Nat.lt_of_le_of_lt (Nat.add_le_add_left (by decide:1<=64) _) hr.units
section
variable {X:Cx}
end
theorem JG{A B:Prop}(h:B):if false=true then A else B:=by
 rw[if_neg Bool.false_ne_true];exact h
theorem HR{A B:Prop}(h:A):if true=true then A else B:=by
 rw[if_pos rfl];exact h
def aT(H H':Hp):Prop:=∀b o,H b=some o->H' b=some o
theorem aT.refl(H:Hp):aT H H:=fun _ _ h=>h
theorem aT.trans(a:aT H H1)(b:aT H1 H2):aT H H2:=fun c o h=>b c o (a c o h)
theorem aT.free{H H':Hp}(e:aT H H'){l:Addr}(h:H' l=Option.none):H l=Option.none:=by
 cases q:H l with
 | none=>rfl
 | some o=>
   rw[e l o q] at h;cases h
section
variable {κ:Type} [DecidableEq κ]
end
end L2
end
section
namespace L2
open PySem PySem.Spec PyProof.Rows
def ox(cells:List (Str × Addr)):List (Str × NameKind)->List (Str × Addr)->List (Str × Addr)
 | [],acc=>acc
 | (n,k) ::r,acc=>ox cells r (if k==NameKind.free then(n,(cells.lookup n).getD 0) ::acc else acc)
theorem l8{env:Env}:∀(names:List (Str × NameKind)) (acc:List (Str × Addr)),(∀y∈names,y.2= .free->∃c,env.cells.lookup y.1=some c)->
 (forIn names acc fun(x:Str × NameKind) (cs:List (Str × Addr))=>(match x with
   | (name,kind)=>if kind== .free then do let a <-cellOf env name;pure (ForInStep.yield ((name,a) ::cs)) else pure (ForInStep.yield cs):Sem (ForInStep (List (Str × Addr)))))=pure (ox env.cells names acc)
 | [],acc,_=>by simp [ox]
 | (n,k) ::r,acc,h=>by
   rw[List.forIn_cons];by_cases hk:k=NameKind.free
   .subst hk;obtain⟨c,hc⟩:=h (n, .free) List.mem_cons_self rfl;have e:cellOf env n=pure c:=by unfold cellOf;rw [hc]
    simp only[beq_self_eq_true,if_true,e,pure_bind,ox,hc,Option.getD_some];exact l8 r _ fun y hy=>h y (List.mem_cons_of_mem _ hy)
   .have hb:(k==NameKind.free)=false:=by simpa using hk
    simp only[hb,Bool.false_eq_true,if_false,pure_bind,ox];exact l8 r _ fun y hy=>h y (List.mem_cons_of_mem _ hy)
theorem mO{env:Env}{scope:Scope}(h:∀y∈scope.names,y.2= .free->∃c,env.cells.lookup y.1=some c):closureFor scope env=pure (ox env.cells scope.names []):=by
 unfold closureFor;have:=l8 (env:=env) scope.names [] h;simp only[bind_pure];exact this
theorem kl{cells:List (Str × Addr)}:∀(names:List (Str × NameKind)) (acc:List (Str × Addr)) {x:Str} {c:Addr},(ox cells names acc).lookup x=some c->
 acc.lookup x=some c\/((x,NameKind.free)∈names/\c=(cells.lookup x).getD 0)
 | [],acc,x,c,h=> .inl h
 | (n,k) ::r,acc,x,c,h=>by
   rcases kl r _ h with q | ⟨q1,q2⟩
   .by_cases hk:k=NameKind.free
    .subst hk;simp only[beq_self_eq_true,if_true] at q;cases hx:x==n with
     | true=>
       have e:x=n:=by simpa using hx
       subst e;rw[List.lookup_cons,hx] at q;exact .inr ⟨List.mem_cons_self,(Option.some.inj q).symm⟩
     | false=>
       rw[List.lookup_cons,hx] at q;exact .inl q
    .have hb:(k==NameKind.free)=false:=by simpa using hk
     simp only[hb,Bool.false_eq_true,if_false] at q;exact .inl q
   .exact .inr ⟨List.mem_cons_of_mem _ q1,q2⟩
theorem zI{cells:List (Str × Addr)}:∀(names:List (Str × NameKind)) (acc:List (Str × Addr)) {x:Str},((x,NameKind.free)∈names\/∃c,acc.lookup x=some c)->∃c,(ox cells names acc).lookup x=some c
 | [],acc,x,h=>by
   rcases h with h | h
   .simp at h
   .exact h
 | (n,k) ::r,acc,x,h=>by
   refine zI r _ ?_;rcases h with h | ⟨c,h⟩
   .rcases List.mem_cons.mp h with e | e
    .cases e;exact .inr ⟨(cells.lookup n).getD 0,by simp [List.lookup_cons]⟩
    .exact .inl e
   .by_cases hk:k=NameKind.free
    .subst hk;simp only[beq_self_eq_true,if_true];cases hx:x==n with
     | true=>exact .inr ⟨(cells.lookup n).getD 0,by rw[List.lookup_cons,hx]⟩
     | false=>exact .inr ⟨c,by rw[List.lookup_cons,hx];exact h⟩
    .have hb:(k==NameKind.free)=false:=by simpa using hk
     simp only[hb,Bool.false_eq_true,if_false];exact .inr ⟨c,h⟩
theorem wW:∀(names:List (Str × NameKind)) (n:Nat) (acc:List (Str × Addr)) {x:Str},(x,NameKind.cell) ∉ names->(cellsFrom n names acc).lookup x=acc.lookup x
 | [],_,_,_,_=>rfl
 | (y,k) ::r,n,acc,x,h=>by
   unfold cellsFrom;split
   .rename_i hk;have hk:k= .cell:=by simpa using hk
    subst hk;rw[wW r _ _ fun z=>h (List.mem_cons_of_mem _ z),List.lookup_cons]
    cases hx:x==y with
    | true=>
      have e:x=y:=by simpa using hx
      subst e;exact absurd List.mem_cons_self h
    | false=>rfl
   .exact wW r _ _ fun z=>h (List.mem_cons_of_mem _ z)
theorem pf:∀(names:List (Str × NameKind)) (n:Nat) (acc:List (Str × Addr)),cellsFrom n names acc=cellsFrom n names []++acc
 | [],_,_=>rfl
 | (y,k) ::r,n,acc=>by
   unfold cellsFrom;split
   .rw [pf r (n+1) ((y,n) ::acc),pf r (n+1) [(y,n)],List.append_assoc];rfl
   .exact pf r n acc
theorem AV{a b:List (Str × Addr)}{c:Addr}(h:(a++b).lookup x=some c):(x,c)∈a\/b.lookup x=some c:=by
 induction a with
 | nil=>exact .inr h
 | cons y r ih=>
   obtain⟨n,v⟩:=y;rw[List.cons_append,List.lookup_cons] at h;cases hx:x==n with
   | true=>
     rw[hx] at h;have e:x=n:=by simpa using hx
     subst e;cases h;exact .inl List.mem_cons_self
   | false=>
     rw[hx] at h;exact(ih h).imp (List.mem_cons_of_mem _) id
theorem nL{a b:List (Str × Addr)}(h:∃c,b.lookup x=some c):∃c,(a++b).lookup x=some c:=by
 induction a with
 | nil=>exact h
 | cons y r ih=>
   rw[List.cons_append,List.lookup_cons];cases x==y.1 with
   | true=>exact⟨_,rfl⟩
   | false=>exact ih
theorem x8{a b:List (Str × Addr)}{c:Addr}(h:a.lookup x=some c):∃c,(a++b).lookup x=some c:=by
 induction a with
 | nil=>cases h
 | cons y r ih=>
   rw[List.cons_append,List.lookup_cons];rw[List.lookup_cons] at h;cases hx:x==y.1 with
   | true=>exact⟨_,rfl⟩
   | false=>rw [hx] at h;exact ih h
theorem wu{M:Model}{A:Around}{E:WI}{s:Shared}{scope:Scope}{cl:List (Str × Addr)}{qual:Str}{env:Env}{Q:Env->Shared->Prop}(hQ:∀h',h'.Ns s.heap.objs.size (fun _=>none)->(∀b o,s.heap.get? b=some o->h'.get? b=some o)->CellsOk h' (s.heap.objs.size+1) (cellsFrom (s.heap.objs.size+1) scope.names [])->
 Q (newEnv scope s.heap.objs.size env.globals (cellsFrom (s.heap.objs.size+1) scope.names cl) qual none .none (some env) builtinsNs) {s with heap:=h'}) :
 wpAny M A (newFunctionEnv scope env.globals cl [] qual none .none (some env)) Q E s:=by
 simp only[newFunctionEnv,Option.isSome_some,if_true];refine wpAny_bind (wpAny_alloc ?_);refine wpAny_bind (wpAny_layCells _ (fun name kind cells=>by cases hkc:kind==NameKind.cell <;> simp [hkc]) _ _ _ _ ?_)
 have ok:=cellsFrom_ok scope.names (s.heap.push {cls:= .type "dict",data:= .dict #[]}) (s.heap.objs.size+1) [] ⟨fun _ _ hm=>(nomatch hm),List.Pairwise.nil⟩ (by rw[Heap.size_push];exact Nat.le_refl _)
 rw[Heap.size_push] at ok;rw[show({s with heap:=s.heap.push {cls:= .type "dict",data:= .dict #[]}}:Shared).heap.objs.size=s.heap.objs.size+1 from Heap.size_push ..]
 rw[List.forIn_nil];refine wpAny_bind (wpAny_pure (wpAny_pure ?_));exact hQ _ ((Heap.Ns.new s.heap (.type "dict")).keeps (pushCells_keeps _ _)) (fun b o e=>pushCells_keeps _ _ b o (Heap.get?_push_of_some _ e)) ok
def bc(X:Cx)(scope:Scope)(N':List Str)(fp:List Addr)(s:Shared)(H:Hp):Cx where
 prog:=X.prog
 w:=X.w
 K:=X.K
 mg:=X.mg
 base:=X.base
 A:=X.A
 N:=N'
 s₀:=s
 H₀:=H
 env:=compEnvC scope (cellsFrom (s.heap.objs.size+1) scope.names (ox X.env.cells scope.names [])) s.heap.objs.size X.env
 outer:=X.stack
 stack:=X.stack
 ex:=fp
 fn:=fun x=>scope.names.lookup x==some .cell
 calm:=X.calm
 pn:=[]
 xe:=fun _ _=>False
structure bt (X:Cx) (scope:Scope) (own:List Str) (kp:List Nat) (kn:List Str):Prop where
 kind:scope.kind= .function
 cel:∀y∈scope.names,y.2= .cell->scope.names.lookup y.1=some .cell
 nd:∀y∈scope.names,y.2= .local->scope.names.lookup y.1=some .local
 free:∀y∈scope.names,y.2= .free->X.env.kindOf y.1=some .cell\/X.env.kindOf y.1=some .free
 frl:∀y∈scope.names,y.2= .free->scope.names.lookup y.1=some .free
 names:kn.length=kp.length
 at_:∀(j i:Nat) (x:Str),kp[j]? =some i->kn[j]? =some x->X.N[i]? =some x
 isfree:∀x∈kn,scope.names.lookup x=some .free
def dA(own:List Str)(kp:List Nat)(σ:St):St:=List.replicate own.length none++kp.map fun i=>(σ[i]?).getD none
section
variable {X:Cx} {scope:Scope} {own:List Str} {kp:List Nat} {kn:List Str}
theorem eN{env:Env}:∀{names:List (Str × NameKind)} {x:Str} {k:NameKind},
 (names.map fun(n,k)=>if(k==NameKind.free && env.scope.kind== .function && env.kindOf n==some .cell) then(n,NameKind.cell) else(n,k)).lookup x=some k->
 names.lookup x=some k\/(k= .cell/\names.lookup x=some .free)
 | [],_,_,h=>by simp at h
 | (n,k) ::r,x,k',h=>by
   have ih:=@eN env r x k';have h:List.lookup x ((if(k==NameKind.free && env.scope.kind== .function && env.kindOf n==some .cell)=true then(n,NameKind.cell) else(n,k)) ::_)=some k':=h
   by_cases hc:(k==NameKind.free && env.scope.kind== .function && env.kindOf n==some .cell)=true
   .rw [if_pos hc] at h;have hkf:k= .free:=by
     simp only[Bool.and_eq_true,beq_iff_eq] at hc;exact hc.1.1
    cases hx:x==n with
    | true=>
      rw[List.lookup_cons,hx] at h;cases h;exact .inr ⟨rfl,by rw[List.lookup_cons,hx,hkf]⟩
    | false=>
      rw[List.lookup_cons,hx] at h;rw[List.lookup_cons,hx];exact ih h
   .rw [if_neg hc] at h;cases hx:x==n with
    | true=>
      rw[List.lookup_cons,hx] at h;rw[List.lookup_cons,hx];exact .inl h
    | false=>
      rw[List.lookup_cons,hx] at h;rw[List.lookup_cons,hx];exact ih h
theorem ph{pins:WH}{s:Shared}(C:bt X scope own kp kn)(I:Inv X pins σ H s):∀y∈scope.names,y.2= .free->∃c,X.env.cells.lookup y.1=some c:=fun y hy hf=>
 I.ok.has y.1 (C.free y hy hf)
theorem EU{pins:WH}{σ:St}{H:Hp}{s:Shared}{fp:List Addr}{iq:Heap}{tk:Nat}(C:bt X scope own kp kn)(I:Inv X pins σ H s)(hf:∀b∈fp,sN X pins H b)(hb:∀b∈fp,b < s.heap.objs.size)
 (hn:iq.Ns s.heap.objs.size (fun _=>none)) (hk:∀b o,s.heap.get? b=some o->iq.get? b=some o) (hC:CellsOk iq (s.heap.objs.size+1) (cellsFrom (s.heap.objs.size+1) scope.names [])):Inv (bc X scope (own++kn) fp s H) [] (dA own kp σ) H {s with heap:=iq,toks:=tk}:=by
 have cl:∀x c,(ox X.env.cells scope.names []).lookup x=some c->X.env.cells.lookup x=some c:=fun x c e=>by
  rcases kl scope.names [] e with q | ⟨q1,q2⟩
  .simp at q
  .obtain⟨c',En⟩:=ph C I (x, .free) q1 rfl;have En:X.env.cells.lookup x=some c':=En;rw[En] at q2;rw[En,q2];rfl
 have clA:∀x c,(cellsFrom (s.heap.objs.size+1) scope.names (ox X.env.cells scope.names [])).lookup x=some c->(x,c)∈cellsFrom (s.heap.objs.size+1) scope.names []\/(ox X.env.cells scope.names []).lookup x=some c:=fun x c e=>by
  rw[pf] at e;exact AV e
 have old:∀x c,(ox X.env.cells scope.names []).lookup x=some c->c < s.heap.objs.size:=fun x c e=>by
  obtain⟨v,h⟩:=I.cell x c (cl x c e);exact h.lt
 have new:∀x c,(x,c)∈cellsFrom (s.heap.objs.size+1) scope.names []->s.heap.objs.size<=c:=fun x c e=>Nat.le_of_lt (hC.empty x c e).2
 have clh:∀x,scope.names.lookup x=some .free->∃c,(ox X.env.cells scope.names []).lookup x=some c:=fun x hx=>zI scope.names [] (.inl (PySem.mem_of_lookup hx))
 refine⟨⟨I.ok.mod,C.kind,I.ok.glob,I.ok.blt,Nat.le_refl _,fun x y c h1 h2=>?inj,fun x hx=>?_,fun x c hn h=>?cab,I.ok.hd,I.ok.frames, .inl rfl,fun b yg=>⟨Nat.ne_of_lt (hb b yg),fun x c e z=>?exf⟩,
  fun b o e=>I.bs b o e,Nat.le_trans I.ok.bsz I.sz,fun b o e yg=>?_,fun b yg hs=>?_,I.stack,I.BO⟩,
  rfl,I.bare,Un.kept hk,⟨_,hn,fun i x v h1 h2 h3=>?_⟩,fun x c e=>?_,I.hok.fresh (Nat.le_refl _),fun x c e=>?frc,fun p hp=>(by cases hp),I.hok.kept hk,?_⟩
 case inj=>
  rcases clA x c h1 with a | a <;> rcases clA y c h2 with b | b
  .exact name_of_addr hC.apart a b
  .exact absurd (Nat.lt_of_lt_of_le (old y c b) (new x c a)) (Nat.lt_irrefl _)
  .exact absurd (Nat.lt_of_lt_of_le (old x c a) (new y c b)) (Nat.lt_irrefl _)
  .exact I.ok.inj x y c (cl x c a) (cl y c b)
 case cab=>
  have hn:(scope.names.lookup x==some .cell)=true:=hn;rcases clA x c h with a | a
  .exact new x c a
  .rcases kl scope.names [] a with q | ⟨q1,q2⟩
   .simp at q
   .have hx:scope.names.lookup x=some .cell:=by simpa using hn
    have h7:scope.names.lookup x=some .free:=C.frl _ q1 rfl;rw[hx] at h7;cases h7
 case exf=>
  rcases clA x c e with a | a
  .subst z;exact absurd (Nat.lt_of_lt_of_le (hb _ yg) (new x _ a)) (Nat.lt_irrefl _)
  .exact(hf b yg).2.2.2.2.1 x c (cl x c a) z
 case frc=>
  rcases clA x c e with a | a
  .exact I.hok.fresh (new x c a)
  .exact I.freeC x c (cl x c a)
 .have hx:(relabel scope X.env).names.lookup x=some .cell\/(relabel scope X.env).names.lookup x=some .free:=hx;show ∃c,(cellsFrom (s.heap.objs.size+1) scope.names (ox X.env.cells scope.names [])).lookup x=some c;rcases hx with hx | hx
  .rcases eN hx with q | ⟨_,q⟩
   .rw [pf];obtain⟨c,hc⟩:=uB (n:=s.heap.objs.size+1) q;exact x8 hc
   .rw [pf];exact nL (clh x q)
  .rcases eN hx with q | ⟨q,_⟩
   .rw [pf];exact nL (clh x q)
   .cases q
 .rcases(hf b yg).2.2.2.1 with z | z
  .exact I.ok.noex b o e z
  .exact absurd (Nat.lt_of_lt_of_le (Heap.lt_size (I.ok.bs b o e).1) z) (Nat.lt_irrefl _)
 .rcases List.mem_cons.mp (I.Bb b hs) with z | z
  .exact(hf b yg).2.1 z
  .exact(hf b yg).2.2.1 z
 .-- a kept name
  have h1:(own++kn)[i]? =some x:=h1;have h2:(dA own kp σ)[i]? =some (some v):=h2;unfold dA at h2;by_cases hi:i < own.length
  .rw [List.getElem?_append_left (by simpa using hi),List.getElem?_replicate] at h2
   split at h2 <;> cases h2
  .rw [List.getElem?_append_right (by simpa using hi),List.length_replicate,List.getElem?_map] at h2
   rw[List.getElem?_append_right (by simpa using hi)] at h1
   cases e:kp[i - own.length]? with
   | none=>rw [e] at h2;cases h2
   | some j=>
     rw[e] at h2;have h2:(σ[j]?).getD none=some v:=Option.some.inj h2;have hj:X.N[j]? =some x:=C.at_ _ j x e h1;have JL:σ[j]? =some (some v):=by
      cases q:σ[j]? with
      | none=>rw [q] at h2;cases h2
      | some y=>rw [q] at h2;exact congrArg some h2
     have hfree:scope.names.lookup x=some .free:=C.isfree x (List.mem_of_getElem? h1);have hkind:=C.free (x, .free) (PySem.mem_of_lookup hfree) rfl;obtain⟨m,hm,hl⟩:=I.loc;obtain⟨u,r,l⟩:=hl j x v hj JL (hkind.elim (fun q=>Or.inr (Or.inl q)) fun q=>Or.inr (Or.inr q))
     refine⟨u,r, .inr ⟨?_,?_⟩⟩
     .have h3:(relabel scope X.env).names.lookup x=some .local\/(relabel scope X.env).names.lookup x=some .cell\/(relabel scope X.env).names.lookup x=some .free:=h3;rcases h3 with q | q | q
      .rcases eN q with z | ⟨z,_⟩
       .rw [hfree] at z;cases z
       .cases z
      .exact .inl q
      .exact .inr q
     .rcases l with⟨k,_⟩ | ⟨_,c,hc,hcell⟩
      .rcases hkind with q | q
       .rw [show X.env.kindOf x=some .cell from q] at k;cases k
       .rw [show X.env.kindOf x=some .free from q] at k;cases k
      .obtain⟨c',En⟩:=clh x hfree;have:=cl x c' En;rw[hc] at this;cases this;obtain⟨o,ho,hd⟩:=hcell;exact⟨c,(wW _ _ _ fun z=>by have:=C.cel _ z rfl;rw [hfree] at this;cases this).trans En,o,hk c o ho,hd⟩
 .rcases clA x c e with a | a
  .exact⟨_,(hC.empty x c a).1⟩
  obtain⟨v,o,ho,hd⟩:=I.cell x c (cl x c a);exact⟨v,o,hk c o ho,hd⟩
 .show(dA own kp σ).length=(own++kn).length;unfold dA;rw[List.length_append,List.length_replicate,List.length_map,List.length_append,C.names]
theorem uk{pins:WH}{s s':Shared}{fp:List Addr}{N':List Str}(I:Inv X pins σ H s)(hf:∀b∈fp,sN X pins H b)(J:Inv (bc X scope N' fp s H) [] dy H' s'):Inv X pins σ H' s':=
 I.Nt (ch:=fp) J.os J.base J.hok J.bare fun b hb=>⟨(hf b hb).2.2.2.1,(hf b hb).2.1,(hf b hb).2.2.2.2.1,(hf b hb).2.2.2.2.2⟩
end
def o_(X:Cx)(ifs:List Expr)(t:TT):Prop:=
 ∀(pins:WH) (s:Shared) (σ:St) (H:Hp) (Q:Bool->Hp->Prop),Inv X pins σ H s->t σ H Q->
  wpAny (model X.prog X.w) X.A (forIn ifs true fun c r=>if r=true then do let ok <-isTrue c X.env (eval c X.env);pure (ForInStep.yield ok) else pure (ForInStep.yield r)) (TP X pins σ Q) X.xe s
def Qf:TT:=fun _ H Q=>Q true H
theorem zi{X:Cx}:o_ X [] Qf:=fun _ _ _ H _ I h=>wpAny_tests_nil ⟨H,I,h⟩
theorem yZ{X:Cx}{t:TT}(h:PT X c t):o_ X [c] t:=fun pins s σ H Q I hq=>wpAny_tests_one (h pins s σ H Q I hq)
def BU(wi:TI)(g:TG)(tc:TT)(te:TE)(own:List Str)(kp:List Nat):TE:=fun σ H Q=>wi σ H fun J H1=>∀D,H1 D=none->
 ∃W:Nat->Nat->List V->Hp->Prop,(∃m,W 0 m [] (upd H1 D (.lst [])))/\∀i m ys H,W i m ys H->
  (J.stop i H/\Q (.ref D) H)\/(J.go i H/\∀x H',J.yld i H x H'->g x (dA own kp σ) H' fun yc H2=>tc yc H2 fun c H3=>
    if c=true then te yc H3 fun y H4=>H4 D=some (.lst ys)/\ys.length < sizeLine/\∃m',m' < m/\W (i+1) m' (ys++[y]) (upd H4 D (.lst (ys++[y])))
    else ∃m',m' < m/\W (i+1) m' ys H3)
section
variable {X:Cx} {scope:Scope} {own:List Str} {kp:List Nat} {kn:List Str} {tg iter elt:Expr} {ifs:List Expr} {wi:TI} {g:TG} {tc:TT} {te:TE} {pos:Pos}
theorem zq{pins:WH}{σ:St}{H:Hp}{s:Shared}{fp:List Addr}{it D:Addr}{tn:Nat->Heap->Prop}{J:It}{Q:VK}{iq:Heap}{tk:Nat}{R:Result->Shared->Prop}
 (hc:X.calm=true) (C:bt X scope own kp kn) (I:Inv X pins σ H s) (hf:∀b∈fp,sN X pins H b) (hb:∀b∈fp,b < s.heap.objs.size) (T:Turn X.prog X.w X.K tg J fp it tn)
 (hg:PG (bc X scope (own++kn) fp s H) tg g) (hi:o_ (bc X scope (own++kn) fp s H) ifs tc) (he:PE (bc X scope (own++kn) fp s H) elt te)
 (hn:iq.Ns s.heap.objs.size (fun _=>none)) (hk:∀b o,s.heap.get? b=some o->iq.get? b=some o) (hC:CellsOk iq (s.heap.objs.size+1) (cellsFrom (s.heap.objs.size+1) scope.names [])) (st:tn 0 s.heap)
 (W:Nat->Nat->List V->Hp->Prop) (w0:∃m,W 0 m [] H)
 (turn:∀i m ys H,W i m ys H->
   (J.stop i H/\Q (.ref D) H)\/(J.go i H/\∀x H',J.yld i H x H'->g x (dA own kp σ) H' fun yc H2=>tc yc H2 fun c H3=>
     if c=true then te yc H3 fun y H4=>H4 D=some (.lst ys)/\ys.length < sizeLine/\∃m',m' < m/\W (i+1) m' (ys++[y]) (upd H4 D (.lst (ys++[y])))
     else ∃m',m' < m/\W (i+1) m' ys H3))
 (hR:∀H' s' dy,Inv (bc X scope (own++kn) fp s H) [] dy H' s'->Q (.ref D) H'->R (.ok .next) s') :
 codeAny (model X.prog X.w) X.A (.compStart (.ListComp elt [⟨tg,iter,ifs,0⟩] scope pos) 0 (.ref it) (.ref D) (bc X scope (own++kn) fp s H).env) R {s with heap:=iq,toks:=tk}:=by
 have I1:Inv (bc X scope (own++kn) fp s H) [] (dA own kp σ) H {s with heap:=iq,toks:=tk}:=EU C I hf hb hn hk hC
 have Te:tn 0 iq:=T.keep _ _ _ st fun b _ o e=>hk b o e
 have fp1:∀{H':Hp} {p:WH},(∀b∈fp,H' b=none)->(∀b∈fp,∀q∈p,q.1≠b)->∀b∈fp,sN (bc X scope (own++kn) fp s H) p H' b:=fun {H' p} hn hp b yg=>
  ⟨hn b yg,(I1.ok.exf b yg).1,I1.ok.exfs b yg, .inl yg,fun x c e=>(I1.ok.exf b yg).2 x c e,fun q hq=>hp b yg q hq⟩
 obtain⟨m0,w0⟩:=w0;have loop:codeAny (model X.prog X.w) X.A (.compLoop (.ListComp elt [⟨tg,iter,ifs,0⟩] scope pos) 0 (.ref it) (.ref D) (bc X scope (own++kn) fp s H).env) R {s with heap:=iq,toks:=tk}:=by
  refine codeAny_loop rfl (fun n s'=>∃i ys H',Inv (bc X scope (own++kn) fp s H) [] (dA own kp σ) H' s'/\tn i s'.heap/\(∀b∈fp,H' b=none)/\W i n ys H') (fun n s' hI=>?_) m0 ⟨0,[],H,I1,Te,fun b yg=>(hf b yg).1,w0⟩
  obtain⟨i,ys,H3,I3,JO,O9,w3⟩:=hI;show wpAny _ _ ((compTurn (.ListComp elt [⟨tg,iter,ifs,0⟩] scope pos) 0 (.ref it) (.ref D) (bc X scope (own++kn) fp s H).env).onRaise (fun x=>do noteFrame x (bc X scope (own++kn) fp s H).env;theTreesLotGoes x)) _ _ s'
  refine wpAny_noted (wpAny_noRaise ?_);rw[compTurn_list];refine wpAny_bind (wpAny_standAt (wpAny_bind ?_));rcases turn i n ys H3 w3 with⟨stop,q⟩ | ⟨go,step⟩
  .refine dH (T.done (bc X scope (own++kn) fp s H) rfl rfl rfl hc i [] s' _ H3 _ I3 (fp1 O9 (fun _ _ q hq=>by cases hq)) JO stop) fun r s4 ⟨hr,I4⟩=>?_
   subst hr;exact wpAny_pure (hR H3 s4 _ I4 q)
  .refine dH (T.item (bc X scope (own++kn) fp s H) rfl rfl rfl hc i [] s' _ H3 _ I3 (fp1 O9 (fun _ _ q hq=>by cases hq)) JO go) fun r s4 ⟨u,hr,h4⟩=>?_
   subst hr;refine wpAny_bind (dH h4 fun _ s5 ⟨x,H5,I5,r5,y5,Mw,RT⟩=>?_)
   have I5':=I5.pinned (fp1 RT (fun _ _ q hq=>by cases hq)) (T.obj _ _ Mw)
   have keepIt:∀{zT:St} {H7:Hp} {s7:Shared},Inv (bc X scope (own++kn) fp s H) ([]++o5 fp s5.heap) zT H7 s7->tn (i+1) s7.heap/\∀b∈fp,H7 b=none:=fun {zT H7 s7} I7=>by
    refine⟨T.keep _ _ _ Mw fun b hb o e=>(I7.pin (b,o) (List.mem_append_right _ (List.mem_append_right _ (mh hb e)))).1,fun b hb=>?_⟩
    obtain⟨o,e,d⟩:=T.obj _ _ Mw b hb;exact(I7.pin (b,o) (List.mem_append_right _ (List.mem_append_right _ (mh hb e)))).2.1
   have reset:∀{zT:St} {H7:Hp} {s7:Shared},Inv (bc X scope (own++kn) fp s H) ([]++o5 fp s5.heap) zT H7 s7->Inv (bc X scope (own++kn) fp s H) [] (dA own kp σ) H7 s7:=fun {zT H7 s7} I7=>by
    have I8:=I7.pM;have hun:Un (Ee X.stack) fp H H7 s.heap s7.heap:=I8.base;have I9:Inv X pins σ H7 s7:=uk I hf I8;refine⟨I8.ok,I8.os,I8.bare,I8.base,?_,I8.cell,I8.free,I8.freeC,I8.pin,I8.hok,I1.len⟩;obtain⟨m,hm,_⟩:=I8.loc;refine⟨m,hm,fun i x v h1 h2 h3=>?_⟩
    obtain⟨m1,S9,yo⟩:=I1.loc;obtain⟨u1,r1,l1⟩:=yo i x v h1 h2 h3;have h1:(own++kn)[i]? =some x:=h1;have h2:(dA own kp σ)[i]? =some (some v):=h2;unfold dA at h2;by_cases hi:i < own.length
    .rw [List.getElem?_append_left (by simpa using hi),List.getElem?_replicate] at h2
     split at h2 <;> cases h2
    .rw [List.getElem?_append_right (by simpa using hi),List.length_replicate,List.getElem?_map] at h2
     rw[List.getElem?_append_right (by simpa using hi)] at h1
     cases e:kp[i - own.length]? with
     | none=>rw [e] at h2;cases h2
     | some j=>
       rw[e] at h2;have h2:(σ[j]?).getD none=some v:=Option.some.inj h2;have hj:X.N[j]? =some x:=C.at_ _ j x e h1;have JL:σ[j]? =some (some v):=by
        cases q:σ[j]? with
        | none=>rw [q] at h2;cases h2
        | some y=>rw [q] at h2;exact congrArg some h2
       have hfree:scope.names.lookup x=some .free:=C.isfree x (List.mem_of_getElem? h1);have hkind:=C.free (x, .free) (PySem.mem_of_lookup hfree) rfl;obtain⟨m9,Wx,VC⟩:=I9.loc;obtain⟨u,r,l⟩:=VC j x v hj JL (hkind.elim (fun q=>Or.inr (Or.inl q)) fun q=>Or.inr (Or.inr q))
       refine⟨u,r, .inr ?_⟩;rcases l1 with⟨k,k2⟩ | ⟨k,c,hc,hcell⟩
       .have k:(relabel scope X.env).names.lookup x=some .local:=k;rcases eN k with z | ⟨z,_⟩
        .rw [hfree] at z;cases z
        .cases z
       .refine⟨k,c,hc,?_⟩;rcases l with⟨k',_⟩ | ⟨_,c',En,Mp⟩
        .rcases hkind with q | q
         .rw [show X.env.kindOf x=some .cell from q] at k';cases k'
         .rw [show X.env.kindOf x=some .free from q] at k';cases k'
        .have Hn:(ox X.env.cells scope.names []).lookup x=some c:=(wW _ _ _ fun z=>by have:=C.cel _ z rfl;rw [hfree] at this;cases this).symm.trans hc
         rcases kl scope.names [] Hn with q | ⟨q1,q2⟩
         .simp at q
         .rw [En] at q2;have q2:c=c':=q2;rw[q2];exact Mp
   have hmm:=hg ([]++o5 fp s5.heap) s5 (dA own kp σ) H5 x u _ I5' r5 (step x H5 y5);refine wpAny_bind (dH hmm fun _ s6 ⟨OV,H6,I6,q6⟩=>?_)
   refine wpAny_bind (dH (hi _ s6 OV H6 _ I6 q6) fun ok s7 ⟨H7,I7,q7⟩=>?_)
   cases ok with
   | false=>
     simp only[Bool.false_eq_true,if_false] at q7 ⊢;obtain⟨m',MD,w7⟩:=q7;obtain⟨a1,a2⟩:=keepIt I7;exact wpAny_pure ⟨rfl,m',MD,i+1,ys,H7,reset I7,a1,a2,w7⟩
   | true=>
     simp only[if_true] at q7 ⊢;refine wpAny_bind (wpAny_bind (dH (he _ s7 OV H7 _ I7 q7) fun yv s8 ⟨y,H8,I8,r8,hD,hlt,m',MD,w8⟩=>wpAny_bind ?_))
     obtain⟨a1,a2⟩:=keepIt I8;refine dH (q8 _ s8 OV H8 (.ref D) [y] (.ref D) [yv] (fun v H9=>v= .cX/\H9=upd H8 D (.lst (ys++[y]))) I8 rfl (.cons r8 .nil) ⟨D,ys,y,rfl,rfl,hD,hlt,rfl,rfl⟩) fun _ s9 ⟨v9,H9,I9,_,_,e9⟩=>?_
     subst e9;obtain⟨b1,b2⟩:=keepIt I9;exact wpAny_pure (wpAny_pure ⟨rfl,m',MD,i+1,ys++[y],_,reset I9,b1,b2,w8⟩)
 exact codeAny_compStart_list loop (T.self _ _ _ _ _ Te loop)
theorem BG(hc:X.calm=true)(C:bt X scope own kp kn)(hi:PI X tg iter wi)(hg:∀fp s H,PG (bc X scope (own++kn) fp s H) tg g)(vU:∀fp s H,o_ (bc X scope (own++kn) fp s H) ifs tc)
 (he:∀fp s H,PE (bc X scope (own++kn) fp s H) elt te) (hs:∀x,foldedSetIterable iter X.env x=pure x:=by intro _;rfl):PE X (.ListComp elt [⟨tg,iter,ifs,0⟩] scope pos) (BU wi g tc te own kp):=by
 intro pins s σ H Q I h;rw[eval_ListComp];refine wpAny_comprehension_free (use:=none) rfl hs (mO (ph C I)) C.kind C.nd (dH (hi pins s σ H _ I h) fun v s1 h1=>dH h1 fun Py s2 h2=>?_)
 obtain⟨it,fp,tn,J,H2,e,I2,T,Hr,f2,q⟩:=h2;subst e;refine wpAny_newObj_type ?_;have I3:Inv X pins σ (upd H2 s2.heap.objs.size (.lst [])) {s2 with heap:=s2.heap.push {cls:= .type "list",dict:=none,data:= .seq ([]:List Value).toArray}}:=I2.JA (its:=[]) (t':=s2.toks) .nil (Nat.zero_le _)
 obtain⟨W,w0,turn⟩:=q s2.heap.objs.size I2.fresh;have fne:∀b∈fp,b < s2.heap.objs.size:=fun b hb=>let⟨o,e,_⟩:=T.obj _ _ Hr b hb;Heap.lt_size e
 have f3:∀b∈fp,sN X pins (upd H2 s2.heap.objs.size (.lst [])) b:=fun b hb=>⟨by rw[bg (Nat.ne_of_lt (fne b hb))];exact(f2 b hb).1,(f2 b hb).2⟩
 generalize hs3:({s2 with heap:=s2.heap.push {cls:= .type "list",dict:=none,data:= .seq ([]:List Value).toArray}}:Shared)=s3 at I3 ⊢
 have JO:tn 0 s3.heap:=by rw[<-hs3];exact T.keep _ _ _ Hr fun b _ o e=>Heap.get?_push_of_some _ e
 have fne3:∀b∈fp,b < s3.heap.objs.size:=fun b hb=>by rw[<-hs3];exact Nat.lt_of_lt_of_le (fne b hb) (by rw[Heap.size_push];exact Nat.le_succ _)
 refine wu fun iq Bd hk hC=>?_
 refine zq (D:=s2.heap.objs.size) hc C I3 f3 fne3 T (hg fp s3 _) (vU fp s3 _) (he fp s3 _) Bd hk hC JO W w0 turn fun H' s' dy J' hq=>?_
 have B:=uk I3 f3 J';obtain⟨m',MD,_⟩:=J'.loc;refine⟨m',MD,fun h' sb=>⟨.ref s2.heap.objs.size,H',?_,rfl,hq⟩⟩
 have fC:=I3.x4 (H':=H') (b:=s3.heap.objs.size) (Nat.le_refl _) J'.free;exact B.turned (it:=s3.heap.objs.size) (t':=s'.toks) (fun b o hb e=>(sb.2 b hb).trans e) fC.1 fC.2.1 fC.2.2.2.1 fC.2.2.2.2.1 fC.2.2.2.2.2
theorem mf{i:Nat}{x:Str}{pos' iz:Pos}(hc:X.calm=true)(hN:X.N.Nodup)(hx:X.N[i]? =some x)(CL:X.env.scope.names.lookup x=some .local)(C:bt X scope own kp kn)(hi:PI X tg iter wi)
 (hg:∀fp s H,PG (bc X scope (own++kn) fp s H) tg g) (vU:∀fp s H,o_ (bc X scope (own++kn) fp s H) ifs tc)
 (he:∀fp s H,PE (bc X scope (own++kn) fp s H) elt te)
 (rD:swapsWith (.ListComp elt [⟨tg,iter,ifs,0⟩] scope pos) (some (.Name x pos')) iz.line X.env=pure true:=by rfl)
 (hs:∀x,foldedSetIterable iter X.env x=pure x:=by intro _;rfl) :
 PS X (.Assign [.Name x pos'] (.ListComp elt [⟨tg,iter,ifs,0⟩] scope pos) iz) (Df (BU wi g tc te own kp) (ve i)):=by
 intro pins s σ H D I h;rw[exec_Assign_Name_used _ _ _ _ rD];refine wpAny_bind (wpAny_standAt (wpAny_bind ?_));show wpAny _ X.A (do let _ <-comprehension (.ListComp elt [⟨tg,iter,ifs,0⟩] scope pos) scope X.env _ (newList []) false (eval iter X.env) (some (assign (.Name x pos') X.env))) _ _ s
 refine wpAny_bind (wpAny_mono (wpAny_comprehension_free (use:=some (assign (.Name x pos') X.env)) (Q:=fun _ s'=>SP X pins D .next s') rfl hs (mO (ph C I)) C.kind C.nd
  (dH (hi pins s σ H _ I h) fun v s1 h1=>dH h1 fun Py s2 h2=>?_)) (fun _ s' hq=>wpAny_pure (wpAny_pure hq)) fun _ _ e=>e)
 obtain⟨it,fp,tn,J,H2,e,I2,T,Hr,f2,q⟩:=h2;subst e;refine wpAny_newObj_type ?_;have I3:Inv X pins σ (upd H2 s2.heap.objs.size (.lst [])) {s2 with heap:=s2.heap.push {cls:= .type "list",dict:=none,data:= .seq ([]:List Value).toArray}}:=I2.JA (its:=[]) (t':=s2.toks) .nil (Nat.zero_le _)
 obtain⟨W,w0,turn⟩:=q s2.heap.objs.size I2.fresh;have fne:∀b∈fp,b < s2.heap.objs.size:=fun b hb=>let⟨o,e,_⟩:=T.obj _ _ Hr b hb;Heap.lt_size e
 have f3:∀b∈fp,sN X pins (upd H2 s2.heap.objs.size (.lst [])) b:=fun b hb=>⟨by rw[bg (Nat.ne_of_lt (fne b hb))];exact(f2 b hb).1,(f2 b hb).2⟩
 generalize hs3:({s2 with heap:=s2.heap.push {cls:= .type "list",dict:=none,data:= .seq ([]:List Value).toArray}}:Shared)=s3 at I3 ⊢
 have JO:tn 0 s3.heap:=by rw[<-hs3];exact T.keep _ _ _ Hr fun b _ o e=>Heap.get?_push_of_some _ e
 have fne3:∀b∈fp,b < s3.heap.objs.size:=fun b hb=>by rw[<-hs3];exact Nat.lt_of_lt_of_le (fne b hb) (by rw[Heap.size_push];exact Nat.le_succ _)
 refine wu fun iq Bd hk hC=>?_
 refine zq (Q:=fun x H1=>ve i x σ H1 D.nx) (D:=s2.heap.objs.size) hc C I3 f3 fne3 T (hg fp s3 _) (vU fp s3 _) (he fp s3 _) Bd hk hC JO W w0 turn fun H' s' dy J' hq=>?_
 have B:=uk I3 f3 J';obtain⟨m',MD,_⟩:=J'.loc;have fC:=I3.x4 (H':=H') (b:=s3.heap.objs.size) (Nat.le_refl _) J'.free;show wpAny _ X.A (assign (.Name x pos') X.env (.ref s2.heap.objs.size)) _ _ s';refine wpAny_assign_Name (vX B hN hx (.inl CL) (v:= .ref s2.heap.objs.size) rfl (fun s4 I4 ⟨a,sb,ha⟩=>?_) (.inr CL))
 have ha':s3.heap.objs.size≠a:=by
  rcases ha with rfl | z
  .exact fC.2.1
  .exact fun e=>fC.2.2.2.2.1 x a z e.symm
 refine⟨m',MD.sameBut sb ha',fun h' VJ=>⟨_,H',?_,hq⟩⟩
 exact I4.turned (it:=s3.heap.objs.size) (t':=s4.toks) (fun b o hb e=>(VJ.2 b hb).trans e) fC.1 fC.2.1 fC.2.2.2.1 fC.2.2.2.2.1 fC.2.2.2.2.2
end
end L2
end
section
namespace L2
open PySem PySem.Spec PyProof.Rows
inductive D where
 | cX | bl (b:Bool) | int (i:Int) | str (x:Str) | lst (ds:List D) | tup (ds:List D) | dct (ks:List Key) (ds:List D)
inductive R (α:Type) where
 | ok (a:α) | ex (c:Nat) | no
def R.bind{α β:Type}:R α->(α->R β)->R β
 | .ok a,f=>f a
 | .ex c,_=> .ex c
 | .no,_=> .no
theorem R.ai{α β:Type}{r:R α}{f:α->R β}{b:β}(h:r.bind f= .ok b):∃a,r= .ok a/\f a= .ok b:=by
 cases r with
 | ok a=>exact⟨a,rfl,h⟩
 | ex c=>cases h
 | no=>cases h
@[simp] theorem R.aO{α β:Type}(a:α)(f:α->R β):(R.ok a).bind f=f a:=rfl
def R.bz{α:Type}(c:Bool)(r:R α):R α:=if c then r else .no
theorem R.ba{α:Type}{c:Bool}{r:R α}{a:α}(h:R.bz c r= .ok a):c=true/\r= .ok a:=by
 cases c with
 | true=>exact⟨rfl,h⟩
 | false=>cases h
@[simp] theorem R.MP{α:Type}(r:R α):R.bz true r=r:=rfl
def xZ(K:W.Frag)(B:List Addr)(H:Hp)(a:Addr)(xs:List V):Prop:=
 (a ∉ B/\Rd H a (.lst xs))\/∃(its:List Value) (n:Nat),K.lookup a=some {cls:= .type "list",data:= .seq its.toArray n}/\xs.length<=sizeLine/\Vals xs its
def v8(K:W.Frag)(B:List Addr)(H:Hp)(a:Addr)(xs:List V):Prop:=
 (a ∉ B/\Rd H a (.tup xs))\/∃(o:Obj) (its:Array Value) (n:Nat),K.lookup a=some o/\o.cls= .type "tuple"/\o.data= .seq its n/\its.size<=sizeLine/\Vals xs its.toList
theorem xZ.sq{K:W.Frag}{B:List Addr}{a:Addr}{xs:List V}(h:xZ K B H a xs):o8 K H a xs:=by
 rcases h with z | ⟨its,n,hk,hz,r⟩
 .exact .inl z.2
 .exact .inr ⟨_,its.toArray,n,hk,rfl,rfl,rfl,by rw[List.size_toArray,<-r.length];exact hz,by simpa using r⟩
theorem v8.sq{K:W.Frag}{B:List Addr}{a:Addr}{xs:List V}(h:v8 K B H a xs):sT K H a xs:=h.elim (fun z=> .inl z.2) .inr
mutual
def Rep(K:W.Frag)(B:List Addr)(H:Hp):D->V->Prop
 | .cX,v=>v= .cX
 | .bl b,v=>v= .bl b
 | .int i,v=>v= .int i
 | .str x,v=>v= .str x
 | .lst ds,v=>∃a xs,v= .ref a/\xZ K B H a xs/\az K B H ds xs
 | .tup ds,v=>∃a xs,v= .ref a/\v8 K B H a xs/\az K B H ds xs
 | .dct ks ds,v=>∃(a:Addr) (aL:List (Key × V)),v= .ref a/\(a ∉ B/\H a=some (.dK aL))/\aL.map (·.1)=ks/\az K B H ds (aL.map (·.2))
def az(K:W.Frag)(B:List Addr)(H:Hp):List D->List V->Prop
 | [],xs=>xs=[]
 | d ::ds,xs=>∃x r,xs=x ::r/\Rep K B H d x/\az K B H ds r
end
def dF(B:List Addr)(H:Hp)(B':List Addr)(H':Hp):Prop:=∀b o,H b=some o->b ∉ B->H' b=some o/\b ∉ B'
theorem dF.rd{B B':List Addr}(p:dF B H B' H'){a:Addr}{u:HO}(h:Rd H a u)(n:a ∉ B):Rd H' a u/\a ∉ B':=by
 rcases h with e | ⟨o,e⟩
 .exact⟨.inl (p a _ e n).1,(p a _ e n).2⟩
 .exact⟨.inr ⟨o,(p a _ e n).1⟩,(p a _ e n).2⟩
theorem dF.trans{B B' OT:List Addr}(p:dF B H B' H')(q:dF B' H' OT oV):dF B H OT oV:=fun b o e n=>
 let⟨e1,n1⟩:=p b o e n;q b o e1 n1
theorem dF.same{B:List Addr}(s:aT H H'):dF B H B H':=fun b o e n=>⟨s b o e,n⟩
theorem dF.refl(B:List Addr)(H:Hp):dF B H B H:=dF.same (aT.refl H)
theorem xZ.br{K:W.Frag}{B B':List Addr}(p:dF B H B' H'){a:Addr}{xs:List V}(l:xZ K B H a xs):xZ K B' H' a xs:=
 l.elim (fun z=> .inl ⟨(p.rd z.2 z.1).2,(p.rd z.2 z.1).1⟩) .inr
mutual
theorem Rep.br{K:W.Frag}{B B':List Addr}(p:dF B H B' H'):∀{d:D} {v:V},Rep K B H d v->Rep K B' H' d v
 | .cX,_,h=>h
 | .bl _,_,h=>h
 | .int _,_,h=>h
 | .str _,_,h=>h
 | .lst ds,v,h=>by
   unfold Rep at h ⊢;obtain⟨a,xs,e,l,r⟩:=h;exact⟨a,xs,e,l.br p,az.br p r⟩
 | .tup ds,v,h=>by
   unfold Rep at h ⊢;obtain⟨a,xs,e,l,r⟩:=h;exact⟨a,xs,e,l.elim (fun z=> .inl ⟨(p.rd z.2 z.1).2,(p.rd z.2 z.1).1⟩) .inr,az.br p r⟩
 | .dct ks ds,v,h=>by
   unfold Rep at h ⊢;obtain⟨a,aL,e,⟨n,l⟩,k,r⟩:=h;exact⟨a,aL,e,⟨(p a _ l n).2,(p a _ l n).1⟩,k,az.br p r⟩
theorem az.br{K:W.Frag}{B B':List Addr}(p:dF B H B' H'):∀{ds:List D} {xs:List V},az K B H ds xs->az K B' H' ds xs
 | [],_,h=>h
 | d ::ds,xs,h=>by
   unfold az at h ⊢;obtain⟨x,r,e,h1,h2⟩:=h;exact⟨x,r,e,Rep.br p h1,az.br p h2⟩
end
theorem Rep.same{K:W.Frag}{B:List Addr}{d:D}{v:V}(h:Rep K B H d v)(s:aT H H'):Rep K B H' d v:=h.br (dF.same s)
theorem az.same{K:W.Frag}{B:List Addr}{d:List D}{v:List V}(h:az K B H d v)(s:aT H H'):az K B H' d v:=h.br (dF.same s)
theorem az.nil{K:W.Frag}{B:List Addr}:az K B H [] []:=by unfold az;rfl
theorem az.cons{K:W.Frag}{B:List Addr}{d:D}{ds:List D}{x:V}{xs:List V}(h:Rep K B H d x)(t:az K B H ds xs):az K B H (d ::ds) (x ::xs):=by
 unfold az;exact⟨x,xs,rfl,h,t⟩
theorem az.cn{K:W.Frag}{B:List Addr}{d:D}{ds:List D}{xs:List V}(h:az K B H (d ::ds) xs):∃x r,xs=x ::r/\Rep K B H d x/\az K B H ds r:=by
 unfold az at h;exact h
theorem az.length{K:W.Frag}{B:List Addr}:∀{ds:List D} {xs:List V},az K B H ds xs->ds.length=xs.length
 | [],_,h=>by unfold az at h;rw [h];rfl
 | d ::ds,xs,h=>by
   obtain⟨x,r,rfl,_,h2⟩:=h.cn;simp [h2.length]
theorem az.get{K:W.Frag}{B:List Addr}:∀{ds:List D} {xs:List V} {i:Nat} {d:D},az K B H ds xs->ds[i]? =some d->∃x,xs[i]? =some x/\Rep K B H d x
 | [],_,_,_,_,e=>by simp at e
 | d ::ds,xs,0,d',h,e=>by
   obtain⟨x,r,rfl,h1,h2⟩:=h.cn;simp at e;subst e;exact⟨x,rfl,h1⟩
 | d ::ds,xs,i+1,d',h,e=>by
   obtain⟨x,r,rfl,h1,h2⟩:=h.cn;obtain⟨y,e1,e2⟩:=az.get (i:=i) h2 (by simpa using e)
   exact⟨y,by simpa using e1,e2⟩
theorem az.append{K:W.Frag}{B:List Addr}:∀{ds es:List D} {xs ys:List V},az K B H ds xs->az K B H es ys->az K B H (ds++es) (xs++ys)
 | [],_,_,_,h,t=>by unfold az at h;subst h;exact t
 | d ::ds,es,xs,ys,h,t=>by
   obtain⟨x,r,rfl,h1,h2⟩:=h.cn;exact az.cons h1 (az.append h2 t)
theorem az.drop{K:W.Frag}{B:List Addr}:∀{ds:List D} {xs:List V} (n:Nat),az K B H ds xs->az K B H (ds.drop n) (xs.drop n)
 | _,_,0,h=>h
 | [],_,n+1,h=>by unfold az at h;subst h;exact az.nil
 | d ::ds,xs,n+1,h=>by
   obtain⟨x,r,rfl,h1,h2⟩:=h.cn;exact az.drop n h2
theorem az.take{K:W.Frag}{B:List Addr}:∀{ds:List D} {xs:List V} (n:Nat),az K B H ds xs->az K B H (ds.take n) (xs.take n)
 | _,_,0,h=>az.nil
 | [],_,n+1,h=>by unfold az at h;subst h;exact az.nil
 | d ::ds,xs,n+1,h=>by
   obtain⟨x,r,rfl,h1,h2⟩:=h.cn;exact az.cons h1 (az.take n h2)
def D.atom:D->Bool
 | .cX=>true | .bl _=>true | .int _=>true | .str _=>true | _=>false
theorem Rep.atom{K:W.Frag}{B B':List Addr}{d:D}{v:V}(a:d.atom=true)(h:Rep K B H d v):Rep K B' H' d v:=by
 cases d <;> first | exact h | cases a
inductive Sl where
 | un | val (d:D) | bld (ds:List D)
abbrev au:=List Sl
structure d_ (K:W.Frag) (Z B:List Addr) (H:Hp) (σ:St) (δ:au):Prop where
 len:δ.length=σ.length
 bs:∀a∈B,∃o,H a=some o
 zb:∀a∈Z,a∈B
 val:∀(i:Nat) (d:D),δ[i]? =some (.val d)->∃v,σ[i]? =some (some v)/\Rep K B H d v
 bld:∀(i:Nat) (ds:List D),δ[i]? =some (.bld ds)->∃a xs,σ[i]? =some (some (.ref a))/\a∈B/\a ∉ Z/\H a=some (.lst xs)/\az K B H ds xs
 dis:∀(i j:Nat) (a:Addr) (ds es:List D),δ[i]? =some (.bld ds)->δ[j]? =some (.bld es)->σ[i]? =some (some (.ref a))->σ[j]? =some (some (.ref a))->i=j
theorem d_.same{K:W.Frag}{Z B:List Addr}{δ:au}(E:d_ K Z B H σ δ)(s:aT H H'):d_ K Z B H' σ δ where
 len:=E.len
 bs:=fun a ha=>let⟨o,e⟩:=E.bs a ha;⟨o,s a o e⟩
 zb:=E.zb
 val:=fun i d e=>let⟨v,h1,h2⟩:=E.val i d e;⟨v,h1,h2.same s⟩
 bld:=fun i ds e=>let⟨a,xs,h1,h2,h3,h4,h5⟩:=E.bld i ds e;⟨a,xs,h1,h2,h3,s a _ h4,h5.same s⟩
 dis:=E.dis
def Nk(δ:au):au:=δ.map fun x=>match x with | .bld ds=> .val (.lst ds) | y=>y
theorem PE.imp{X:Cx}{t t':TE}(h:PE X e t)(w:∀σ H Q,t' σ H Q->t σ H Q):PE X e t':=fun pins s σ H Q I hq=>h pins s σ H Q I (w σ H Q hq)
theorem PT.imp{X:Cx}{t t':TT}(h:PT X e t)(w:∀σ H Q,t' σ H Q->t σ H Q):PT X e t':=fun pins s σ H Q I hq=>h pins s σ H Q I (w σ H Q hq)
theorem PA.imp{X:Cx}{t t':TA}(h:PA X e t)(w:∀σ H Q,t' σ H Q->t σ H Q):PA X e t':=fun pos pins s σ H Q I hq=>h pos pins s σ H Q I (w σ H Q hq)
theorem PS.imp{X:Cx}{t t':TS}(h:PS X e t)(w:∀D σ H,t' D σ H->t D σ H):PS X e t':=fun pins s σ H D I hq=>h pins s σ H D I (w D σ H hq)
theorem ym.imp{X:Cx}{t t':TS}(h:ym X e t)(w:∀D σ H,t' D σ H->t D σ H):ym X e t':=fun pins s σ H D I hq=>h pins s σ H D I (w D σ H hq)
theorem PG.imp{X:Cx}{t t':TG}(h:PG X e t)(w:∀v σ H Q,t' v σ H Q->t v σ H Q):PG X e t':=fun pins s σ H v u Q I r hq=>h pins s σ H v u Q I r (w v σ H Q hq)
theorem PI.imp{X:Cx}{t t':TI}(h:PI X tg e t)(w:∀σ H Q,t' σ H Q->t σ H Q):PI X tg e t':=fun pins s σ H Q I hq=>h pins s σ H Q I (w σ H Q hq)
abbrev FD:=au->R D
def tD(K:W.Frag)(f:FD):TE:=fun σ H Q=>∃Z B δ d,d_ K Z B H σ δ/\f δ= .ok d/\∀v H',aT H H'->Rep K B H' d v->Q v H'
def tN(K:W.Frag)(f:au->R (List D)):TE:=fun σ H Q=>∃Z B δ ds,d_ K Z B H σ δ/\f δ= .ok ds/\∀a xs H',aT H H'->H a=none->H' a=some (.lst xs)->az K (a ::B) H' ds xs->Q (.ref a) H'
def Hu(K:W.Frag)(f:au->R Bool):TT:=fun σ H Q=>∃Z B δ b,d_ K Z B H σ δ/\f δ= .ok b/\∀H',aT H H'->Q b H'
def R7(K:W.Frag)(f:au->R (List D)):TA:=fun σ H Q=>∃Z B δ ds,d_ K Z B H σ δ/\f δ= .ok ds/\∀vs H',aT H H'->az K B H' ds vs->Q vs H'
abbrev PD(X:Cx)(e:Expr)(f:FD):Prop:=PE X e (tD X.K f)
abbrev PN(X:Cx)(e:Expr)(f:au->R (List D)):Prop:=PE X e (tN X.K f)
abbrev PB(X:Cx)(e:Expr)(f:au->R Bool):Prop:=PT X e (Hu X.K f)
abbrev Hj(X:Cx)(es:List Expr)(f:au->R (List D)):Prop:=PA X es (R7 X.K f)
section
variable {X:Cx}
def eNew(f:au->R (List D)):FD:=fun δ=>(f δ).bind fun ds=> .ok (.lst ds)
theorem L7{f:au->R (List D)}(h:PN X e f):PD X e (eNew f):=h.imp fun σ H Q ⟨Z,B,δ,d,E,hf,q⟩=>by
 obtain⟨ds,h1,h2⟩:=R.ai hf;cases h2;refine⟨Z,B,δ,ds,E,h1,fun a xs H' s n e r=>q _ H' s ?_⟩
 unfold Rep;refine⟨a,xs,rfl, .inl ⟨fun ha=>?_, .inl e⟩,r.br fun b o e nb=>⟨e,fun hb=>nb (List.mem_cons_of_mem _ hb)⟩⟩
 obtain⟨o,ho⟩:=E.bs a ha;rw[n] at ho;cases ho
theorem ze{B:List Addr}{H:Hp}{p:Addr}{o:HO}(h:H p=none):dF B H (p ::B) (upd H p o):=fun b u e nb=>
 ⟨by rw[bg (cH e h)];exact e,fun hb=>by
   rcases List.mem_cons.mp hb with z | z
   .exact cH e h z
   .exact nb z⟩
def Sw(f:FD):FD:=fun δ=>(f (Nk δ)).bind fun d=>R.bz d.atom (.ok d)
def SN(f:au->R Bool):au->R Bool:=fun δ=>f (Nk δ)
def af(i:Nat):FD:=fun δ=>match δ[i]? with | some (.val d)=> .ok d | _=> .no
def eC(d:D):FD:=fun _=> .ok d
theorem Lv(i:Nat){x:Str}{pos:Pos}(hN:X.N[i]? =some x:=by rfl)(hv:GK X.env.scope x:=by first | exact Or.inl rfl | exact Or.inr (Or.inl rfl) | exact Or.inr (Or.inr rfl))(hd:(x==("__debug__":Str))=false:=by decide)
 (rK:(x==("__classdict__":Str))=false:=by decide):PD X (.Name x pos) (af i):=(qJ hN hv hd rK).imp fun σ H Q ⟨Z,B,δ,d,E,hf,q⟩=>by
 unfold af at hf;split at hf
 .rename_i d' e;cases hf;obtain⟨v,h1,h2⟩:=E.val i d e;exact⟨v,h1,q v H (aT.refl H) h2⟩
 .cases hf
theorem qa{v:V}{d:D}(h:PE X e (tC v))(r:∀B H,Rep X.K B H d v):PD X e (eC d):=h.imp fun σ H Q ⟨Z,B,δ,d',E,hf,q⟩=>by
 cases hf;exact q v H (aT.refl H) (r B H)
theorem LM{i j pos}:PD X (.Constant (.int i) j pos) (eC (.int i)):=qa tR fun _ _=>by unfold Rep;rfl
theorem NB{b j pos}:PD X (.Constant (.bool b) j pos) (eC (.bl b)):=qa Oj fun _ _=>by unfold Rep;rfl
theorem L5{x j pos}:PD X (.Constant (.str x) j pos) (eC (.str x)):=qa uN fun _ _=>by unfold Rep;rfl
def Glob(K:W.Frag)(mg:WM)(x:Str)(d:D):Prop:=∃(u:Value) (v:V),mg x=some u/\RelV v u/\∀B H,Rep K B H d v
theorem HE{d:D}{pos:Pos}(g:Glob X.K X.mg x d)(hg:Gl X x)(hd:(x==("__debug__":Str))=false:=by decide):PD X (.Name x pos) (eC d):=by
 obtain⟨u,v,hm,r,h⟩:=g;exact qa (II hg hm r hd) h
def aI:au->R (List D):=fun _=> .ok []
def ah(f:FD)(g:au->R (List D)):au->R (List D):=fun δ=>(f δ).bind fun d=>(g δ).bind fun ds=> .ok (d ::ds)
theorem HV:Hj X [] aI:=fZ.imp fun σ H Q ⟨Z,B,δ,d,E,hf,q⟩=>by
 cases hf;exact q [] H (aT.refl H) az.nil
theorem FY{g:au->R (List D)}(h:PD X e f)(t:Hj X es g)(hs:starEach (e ::es) X.env=(false,eval e X.env) ::starEach es X.env:=by rfl):Hj X (e ::es) (ah f g):=
 (c9 h t hs).imp fun σ H Q ⟨Z,B,δ,d,E,hf,q⟩=>by
   obtain⟨d1,h1,h2⟩:=R.ai hf;obtain⟨ds,h3,h4⟩:=R.ai h2;cases h4;exact⟨Z,B,δ,d1,E,h1,fun v H1 s1 r1=>⟨Z,B,δ,ds,E.same s1,h3,fun vs H2 s2 r2=>q _ H2 (s1.trans s2) (az.cons (r1.same s2) r2)⟩⟩
def cG(g:au->R (List D)):FD:=fun δ=>(g δ).bind fun ds=>R.bz (decide (ds.length<=sizeLine)) (.ok (.tup ds))
def kC(g:au->R (List D)):au->R (List D):=fun δ=>(g δ).bind fun ds=>R.bz (decide (ds.length<=sizeLine)) (.ok ds)
theorem aX{H:Hp}{p:Addr}{o:HO}(h:H p=none):aT H (upd H p o):=fun b u e=>by rw[bg (cH e h)];exact e
theorem L9{g:au->R (List D)}{x1 pos}(h:Hj X es g):PD X (.Tuple es x1 pos) (cG g):=(GX h).imp fun σ H Q ⟨Z,B,δ,d,E,hf,q⟩=>by
 obtain⟨ds,h1,h2⟩:=R.ai hf;obtain⟨hl,h3⟩:=R.ba h2;cases h3;refine⟨Z,B,δ,ds,E,h1,fun vs H1 s1 r1=>⟨by rw[<-r1.length];exact of_decide_eq_true hl,fun p hp=>q _ _ (s1.trans (aX hp)) ?_⟩⟩
 unfold Rep;refine⟨p,vs,rfl, .inl ⟨fun ha=>?_, .inl aY⟩,r1.same (aX hp)⟩
 obtain⟨o,ho⟩:=(E.same s1).bs p ha;rw[hp] at ho;cases ho
theorem LG{g:au->R (List D)}{pos}(h:Hj X es g):PN X (.List es pos) (kC g):=(Gh h).imp fun σ H Q ⟨Z,B,δ,d,E,hf,q⟩=>by
 obtain⟨ds,h1,h2⟩:=R.ai hf;obtain⟨hl,h3⟩:=R.ba h2;cases h3;exact⟨Z,B,δ,_,E,h1,fun vs H1 s1 r1=>⟨by rw[<-r1.length];exact of_decide_eq_true hl,fun p hp=>q p vs _ (s1.trans (aX hp)) (s1.free hp) aY (r1.br (ze hp))⟩⟩
def lQ(X:Cx)(f:Value->Value->Sem Value)(g:D->D->R D):Prop:=
 ∀(pins:WH) (s:Shared) (σ:St) (H:Hp) (B:List Addr) (da db d:D) (x y:V) (v u:Value),Inv X pins σ H s->(∀a∈B,∃o,H a=some o)->RelV x v->RelV y u->Rep X.K B H da x->Rep X.K B H db y->g da db= .ok d->
  wpAny (model X.prog X.w) X.A (f v u) (EP X pins σ fun z H'=>aT H H'/\Rep X.K B H' d z) X.xe s
def e2(g:D->D->R D)(fa fb:FD):FD:=fun δ=>(fa δ).bind fun a=>(fb δ).bind fun b=>g a b
theorem lQ.r{f:Value->Value->Sem Value}{g:D->D->R D}(h:lQ X f g):mT X f (fun x y H Q=>∃B da db d,(∀a∈B,∃o,H a=some o)/\Rep X.K B H da x/\Rep X.K B H db y/\g da db= .ok d/\∀z H',aT H H'->Rep X.K B H' d z->Q z H'):=by
 intro pins s σ H x y v u Q I rx ry ⟨B,da,db,d,hb,ha,yg,hg,q⟩;exact dH (h pins s σ H B da db d x y v u I hb rx ry ha yg hg) fun z s' ⟨zv,H',I',r',s1,r1⟩=>⟨zv,H',I',r',q zv H' s1 r1⟩
theorem Lx{K:W.Frag}{g:D->D->R D}{Q:VK}(h:tD K (e2 g fa fb) σ H Q) :
 MJ (fun x y H Q=>∃B da db d,(∀a∈B,∃o,H a=some o)/\Rep K B H da x/\Rep K B H db y/\g da db= .ok d/\∀z H',aT H H'->Rep K B H' d z->Q z H') (tD K fa) (tD K fb) σ H Q:=by
 obtain⟨Z,B,δ,d,E,hf,q⟩:=h;obtain⟨d1,h1,h2⟩:=R.ai hf;obtain⟨d2,h3,h4⟩:=R.ai h2;exact⟨Z,B,δ,d1,E,h1,fun v1 H1 s1 r1=>⟨Z,B,δ,d2,E.same s1,h3,fun v2 H2 s2 r2=>⟨B,d1,d2,d,(E.same (s1.trans s2)).bs,r1.same s2,r2,h4,fun z H' s3 r3=>q z H' (s1.trans (s2.trans s3)) r3⟩⟩⟩
theorem NQ{op:Operator}{g:D->D->R D}(ho:lQ X (binaryOp op) g)(ha:PD X a fa)(hb:PD X b fb):PD X (.BinOp a op b pos) (e2 g fa fb):=
 (GS ho.r ha hb).imp fun σ H Q h=>Lx h
theorem K0{op:CmpOp}{g:D->D->R D}(ho:lQ X (compareOp op) g)(ha:PD X a fa)(hb:PD X b fb)(hm:behindInMarks op b=false):PD X (.Compare a [op] [b] pos) (e2 g fa fb):=
 (BJ ho.r ha hb hm).imp fun σ H Q h=>Lx h
def b2(g:D->D->R D)(fa fb:FD):au->R Bool:=fun δ=>(e2 g fa fb δ).bind fun d=>match d with | .bl b=> .ok b | _=> .no
theorem Kq{op:CmpOp}{g:D->D->R D}(ho:lQ X (compareOp op) g)(ha:PD X a fa)(hb:PD X b fb)(hm:behindInMarks op b=false):PB X (.Compare a [op] [b] pos) (b2 g fa fb):=
 (Cg ho.r ha hb hm).imp fun σ H Q ⟨Z,B,δ,b,E,hf,q⟩=>by
   obtain⟨d,h1,h2⟩:=R.ai hf;cases d with
   | bl k=>
     cases h2;exact Lx (g:=g) (Q:=fun x H'=>∃k,x= .bl k/\Q k H') ⟨Z,B,δ, .bl b,E,h1,fun v H' s r=>⟨b,by unfold Rep at r;exact r,q H' s⟩⟩
   | _=>cases h2
def QQ(g g':D->D->R D)(fa fb fc:FD):FD:=fun δ=>(fa δ).bind fun a=>(fb δ).bind fun b=>(g a b).bind fun r=>match r with
 | .bl true=>(fc δ).bind fun c=>g' b c
 | .bl false=> .ok (.bl false)
 | _=> .no
def LC:D->R Bool
 | .cX=> .ok false
 | .bl b=> .ok b
 | .int i=> .ok (i !=0)
 | .str x=>R.bz (decide (x.length<=sizeLine)) (.ok ((x.length:Int) !=0))
 | .lst ds=> .ok (!ds.isEmpty)
 | .tup ds=> .ok (!ds.isEmpty)
 | .dct _ _=> .no
def Aw(f:FD):au->R Bool:=fun δ=>(f δ).bind LC
theorem az.isEmpty{K:W.Frag}{B:List Addr}{ds:List D}{xs:List V}(h:az K B H ds xs):ds.isEmpty=xs.isEmpty:=by
 have:=h.length;cases ds <;> cases xs <;> simp_all
theorem KD{K:W.Frag}{B:List Addr}{d:D}{v:V}{b:Bool}(r:Rep K B H d v)(h:LC d= .ok b):LS K v H b:=by
 cases d with
 | cX=>unfold Rep at r;subst r;cases h;exact rfl
 | bl k=>unfold Rep at r;subst r;cases h;exact rfl
 | int i=>unfold Rep at r;subst r;cases h;exact rfl
 | str x=>unfold Rep at r;subst r;obtain⟨h1,h2⟩:=R.ba h;cases h2;exact⟨of_decide_eq_true h1,rfl⟩
 | lst ds=>unfold Rep at r;obtain⟨a,xs,rfl,l,r⟩:=r;cases h;exact .inl ⟨xs,l.sq,by rw[r.isEmpty]⟩
 | tup ds=>unfold Rep at r;obtain⟨a,xs,rfl,l,r⟩:=r;cases h;exact .inr (.inl ⟨xs,l.sq,by rw[r.isEmpty]⟩)
 | dct _ _=>cases h
theorem KQ{a:Expr}(ha:PD X a f)(he:∀whole,isTrue a X.env whole=(do let v <-whole;standAt a.pos;holding [v] (truthy v)):=by intro _;rfl):PB X a (Aw f):=
 (Ga ha he).imp fun σ H Q ⟨Z,B,δ,b,E,hf,q⟩=>by
   obtain⟨d,h1,h2⟩:=R.ai hf;exact⟨Z,B,δ,d,E,h1,fun v H' s r=>⟨b,KD r h2,q H' s⟩⟩
def TL(f g:au->R Bool):au->R Bool:=fun δ=>(f δ).bind fun b=>if b then g δ else .ok false
def M3(f g:au->R Bool):au->R Bool:=fun δ=>(f δ).bind fun b=>if b then .ok true else g δ
def Au(f:au->R Bool):au->R Bool:=fun δ=>(f δ).bind fun b=> .ok (!b)
def LR(X:Cx)(e:Expr)(f:au->R Bool):Prop:=PW X e (Hu X.K f)
theorem LR.pb{f:au->R Bool}(h:LR X e f):PB X e f:=PW.pt h
theorem Hy{f:au->R Bool}(h:PB X a f):LR X (.BoolOp .Or [a] pos) f:=Ma h
theorem Lw{rest:List Expr}{f g:au->R Bool}(ha:PB X a f)(hb:LR X (.BoolOp .Or (b ::rest) pos) g):LR X (.BoolOp .Or (a ::b ::rest) pos) (M3 f g):=by
 intro wh pins s σ H Q I ⟨Z,B,δ,k,E,hf,q⟩;refine OA ha hb wh pins s σ H Q I ?_;obtain⟨c,h1,h2⟩:=R.ai hf;refine⟨Z,B,δ,c,E,h1,fun H1 s1=>?_⟩
 cases c with
 | true=>rw [if_pos rfl] at h2 ⊢;cases h2;exact q H1 s1
 | false=>rw [if_neg (by decide)] at h2 ⊢;exact⟨Z,B,δ,k,E.same s1,h2,fun H' s2=>q H' (s1.trans s2)⟩
theorem K6{f:au->R Bool}(ha:PB X a f):PB X (.UnaryOp .Not a pos) (Au f):=(La ha).imp fun σ H Q ⟨Z,B,δ,k,E,hf,q⟩=>by
 obtain⟨c,h1,h2⟩:=R.ai hf;cases h2;exact⟨Z,B,δ,c,E,h1,fun H1 s1=>q H1 s1⟩
def J5(f:FD):au->R Bool:=fun δ=>(f δ).bind fun d=>match d with | .bl b=> .ok b | _=> .no
def Ik(f g:FD):FD:=fun δ=>(J5 f δ).bind fun b=>if b then g δ else .ok (.bl false)
def Wk(f g:FD):FD:=fun δ=>(J5 f δ).bind fun b=>if b then .ok (.bl true) else g δ
def UU(f:FD):FD:=fun δ=>(J5 f δ).bind fun b=> .ok (.bl (!b))
theorem Lz{f:FD}{δ:au}{b:Bool}(h:J5 f δ= .ok b):f δ= .ok (.bl b):=by
 obtain⟨d,h1,h2⟩:=R.ai h;cases d with
 | bl k=>cases h2;exact h1
 | _=>cases h2
theorem L0{op}(h:PD X a f):PD X (.BoolOp op [a] pos) f:=Kz h
theorem Lb{rest:List Expr}(ha:PD X a f)(hb:PD X (.BoolOp .And (b ::rest) pos) g):PD X (.BoolOp .And (a ::b ::rest) pos) (Ik f g):=(Mb ha hb).imp fun σ H Q ⟨Z,B,δ,k,E,hf,q⟩=>by
 obtain⟨c,h1,h2⟩:=R.ai hf;refine⟨Z,B,δ, .bl c,E,Lz h1,fun v H1 s1 r1=>⟨c,by unfold Rep at r1;exact r1,?_⟩⟩
 cases c with
 | true=>rw [if_pos rfl] at h2 ⊢;exact⟨Z,B,δ,k,E.same s1,h2,fun v H' s2 r2=>q v H' (s1.trans s2) r2⟩
 | false=>rw [if_neg (by decide)] at h2 ⊢;cases h2;exact q _ H1 s1 (by unfold Rep;rfl)
def MM(c:au->R Bool)(f g:FD):FD:=fun δ=>(c δ).bind fun b=>if b then f δ else g δ
theorem NI{fc:au->R Bool}(hc:PB X c fc)(ha:PD X a f)(hb:PD X b g):PD X (.IfExp c a b pos) (MM fc f g):=(GQ hc ha hb).imp fun σ H Q ⟨Z,B,δ,k,E,hf,q⟩=>by
 obtain⟨c,h1,h2⟩:=R.ai hf;refine⟨Z,B,δ,c,E,h1,fun H1 s1=>?_⟩
 cases c with
 | true=>rw [if_pos rfl] at h2 ⊢;exact⟨Z,B,δ,k,E.same s1,h2,fun v H' s2 r2=>q v H' (s1.trans s2) r2⟩
 | false=>rw [if_neg (by decide)] at h2 ⊢;exact⟨Z,B,δ,k,E.same s1,h2,fun v H' s2 r2=>q v H' (s1.trans s2) r2⟩
def h_(X:Cx)(f:Value)(g:List D->R D):Prop:=
 ∀(pins:WH) (s:Shared) (σ:St) (H:Hp) (B:List Addr) (ds:List D) (d:D) (xs:List V) (us:List Value),Inv X pins σ H s->(∀a∈B,∃o,H a=some o)->Vals xs us->az X.K B H ds xs->g ds= .ok d->
  wpAny (model X.prog X.w) X.A (call f us) (EP X pins σ fun z H'=>aT H H'/\Rep X.K B H' d z) X.xe s
def aM(g:List D->R D)(fs:au->R (List D)):FD:=fun δ=>(fs δ).bind g
theorem h_.r{f:Value}{g:List D->R D}(h:h_ X f g):uC X f (fun xs H Q=>∃B ds d,(∀a∈B,∃o,H a=some o)/\az X.K B H ds xs/\g ds= .ok d/\∀z H',aT H H'->Rep X.K B H' d z->Q z H'):=by
 intro pins s σ H xs us Q I rx ⟨B,ds,d,hb,hr,hg,q⟩;exact dH (h pins s σ H B ds d xs us I hb rx hr hg) fun z s' ⟨zv,H',I',r',s1,r1⟩=>⟨zv,H',I',r',q zv H' s1 r1⟩
theorem Bt{K:W.Frag}{g:List D->R D}{fs:au->R (List D)}{Q:VK}(h:tD K (aM g fs) σ H Q) :
 R7 K fs σ H fun vs H1=>∃B ds d,(∀a∈B,∃o,H1 a=some o)/\az K B H1 ds vs/\g ds= .ok d/\∀z H',aT H1 H'->Rep K B H' d z->Q z H':=by
 obtain⟨Z,B,δ,d,E,hf,q⟩:=h;obtain⟨ds,h1,h2⟩:=R.ai hf;exact⟨Z,B,δ,ds,E,h1,fun vs H1 s1 r1=>⟨B,ds,d,(E.same s1).bs,r1,h2,fun z H' s2 r2=>q z H' (s1.trans s2) r2⟩⟩
theorem E_{g:List D->R D}{x:Str}{id:String}{p pos:Pos}{e:Expr}{es:List Expr}{fs:au->R (List D)}(hc:h_ X (.builtin id) g)(hg:Gl X x)(hm:X.mg x=none)(hv:bootBuiltins x=some (.builtin id))(ha:Hj X (e ::es) fs)(hn:x≠"__name__":=by decide)(rB:(x==("__debug__":Str))=false:=by decide)
 (he:starEach (e ::es) X.env=(false,eval e X.env) ::starEach es X.env:=by rfl) (my:(backTo pos (starEach es X.env)).any (·.1)=false:=by rfl):PD X (.Call (.Name x p) (e ::es) [] pos) (aM g fs):=
 (FP hc.r hg hm hv ha hn rB he my).imp fun σ H Q h=>Bt h
theorem DF{g:List D->R D}{x:Str}{T:String}{p pos:Pos}{e:Expr}{es:List Expr}{fs:au->R (List D)}(hc:h_ X (.type T) g)(hg:Gl X x)(hm:X.mg x=none)(hv:bootBuiltins x=some (.type T))(ha:Hj X (e ::es) fs)(hn:x≠"__name__":=by decide)(rB:(x==("__debug__":Str))=false:=by decide)
 (he:starEach (e ::es) X.env=(false,eval e X.env) ::starEach es X.env:=by rfl) (my:(backTo pos (starEach es X.env)).any (·.1)=false:=by rfl):PD X (.Call (.Name x p) (e ::es) [] pos) (aM g fs):=
 (DG hc.r hg hm hv ha hn rB he my).imp fun σ H Q h=>Bt h
def Gy(K:W.Frag)(n:Nat)(g:List D->R D):Sp:=fun vs H Q _=>vs.length=n/\∃B ds d,(∀a∈B,∃o,H a=some o)/\az K B H ds vs/\g ds= .ok d/\∀z H',aT H H'->Rep K B H' d z->Q z H'
theorem Ht{g:List D->R D}{k n:Nat}{f:Addr}{fd:FuncData}{ps:List Str}{x:Str}{p pos:Pos}{e:Expr}{es:List Expr}{fs:au->R (List D)}
 (F:js X.prog X.w X.K X.mg X.base vI k f fd ps (Gy X.K n g)) (hr:eB k X.A) (hg:Gl X x) (hm:X.mg x=some (.ref f)) (hk:PySem.W.keepIn X.K (.ref f)=true) (hb:Binds X.K fd ps []) (ha:Hj X (e ::es) fs)
 (hn:∀δ ds,fs δ= .ok ds->ds.length=n) (rB:(x==("__debug__":Str))=false:=by decide) (he:starEach (e ::es) X.env=(false,eval e X.env) ::starEach es X.env:=by rfl) (my:(backTo pos (starEach es X.env)).any (·.1)=false:=by rfl) :
 PD X (.Call (.Name x p) (e ::es) [] pos) (aM g fs):=
 (xS F hr hg hm hk hb .nil zd ha rB he my).imp fun σ H Q ⟨Z,B,δ,d,E,hf,q⟩=>by
   obtain⟨ds,h1,h2⟩:=R.ai hf;refine⟨Z,B,δ,ds,E,h1,fun vs H1 s1 r1=>?_⟩
   show Gy X.K n g (vs++[]) H1 Q E0;rw[List.append_nil];exact⟨by rw[<-r1.length];exact hn δ ds h1,B,ds,d,(E.same s1).bs,r1,h2,fun z H' s2 r2=>q z H' (s1.trans s2) r2⟩
end
end L2
end
section
namespace L2
open PySem PySem.Spec PyProof.Rows
inductive Out where
 | nx (δ:au) | rt (d:D)
abbrev FS:=au->R Out
structure Ev (Z B:List Addr) (H:Hp) (B':List Addr) (H':Hp):Prop where
 br:dF B H B' H'
 zs:∀b o,H b=some o->b∈Z->H' b=some o/\b∈B'
theorem Ev.refl(Z B:List Addr)(H:Hp)(zb:∀a∈Z,a∈B):Ev Z B H B H:=⟨dF.refl B H,fun b o e z=>⟨e,zb b z⟩⟩
theorem Ev.trans{Z B B' OT:List Addr}(a:Ev Z B H B' H')(b:Ev Z B' H' OT oV):Ev Z B H OT oV:=
 ⟨a.br.trans b.br,fun c o e z=>let⟨e1,_⟩:=a.zs c o e z;b.zs c o e1 z⟩
theorem Ev.same{Z B:List Addr}(zb:∀a∈Z,a∈B)(s:aT H H'):Ev Z B H B H':=⟨dF.same s,fun b o e z=>⟨s b o e,zb b z⟩⟩
def Bm(K:W.Frag)(Z B:List Addr)(H:Hp)(D:Ends):Out->Prop
 | .nx eh=>∀dy B' H',Ev Z B H B' H'->d_ K Z B' H' dy eh->D.nx dy H'
 | .rt d=>∀v B' H',Ev Z B H B' H'->(∀a∈Z,a∈B')->Rep K B' H' d v->D.rt v H'
theorem Bm.ev{K:W.Frag}{Z B B1:List Addr}{D:Ends}{o:Out}(q:Bm K Z B H D o)(ev:Ev Z B H B1 H1):Bm K Z B1 H1 D o:=by
 cases o with
 | nx eh=>exact fun dy B' H' He E'=>q dy B' H' (ev.trans He) E'
 | rt d=>exact fun v B' H' He z r=>q v B' H' (ev.trans He) z r
def sD(K:W.Frag)(F:FS):TS:=fun D σ H=>∃Z B δ o,d_ K Z B H σ δ/\F δ= .ok o/\Bm K Z B H D o
abbrev Eh(X:Cx)(st:Stmt)(F:FS):Prop:=PS X st (sD X.K F)
abbrev sS(X:Cx)(st:List Stmt)(F:FS):Prop:=ym X st (sD X.K F)
section
variable {X:Cx}
def uq:FS:=fun δ=> .ok (.nx δ)
def dW(F G:FS):FS:=fun δ=>(F δ).bind fun o=>match o with | .nx eh=>G eh | .rt d=> .ok (.rt d)
theorem IP:sS X [] uq:=Cj.imp fun D σ H ⟨Z,B,δ,o,E,hf,q⟩=>by
 cases hf;exact q σ B H (Ev.refl Z B H E.zb) E
theorem Lu{K:W.Frag}{F G:FS}{D:Ends}(h:sD K (dW F G) D σ H):Ox (sD K F) (sD K G) D σ H:=by
 obtain⟨Z,B,δ,o,E,hf,q⟩:=h;obtain⟨o1,h1,h2⟩:=R.ai hf;refine⟨Z,B,δ,o1,E,h1,?_⟩;cases o1 with
 | nx δ1=>
   intro OP B1 H1 ev E1;refine⟨Z,B1,δ1,o,E1,h2,?_⟩;cases o with
   | nx fU=>exact fun dy B' H' He E'=>q dy B' H' (ev.trans He) E'
   | rt d=>exact fun v B' H' He z r=>q v B' H' (ev.trans He) z r
 | rt d=>
   cases h2;exact q
theorem GY{st:Stmt}{rest:List Stmt}{F G:FS}(h1:Eh X st F)(h2:sS X rest G):sS X (st ::rest) (dW F G):=(yr h1 h2).imp fun D σ H h=>Lu h
theorem HI{st:Stmt}{F:FS}(h1:Eh X st F):sS X [st] F:=Co h1
theorem d_.set{K:W.Frag}{Z B:List Addr}{σ:St}{δ:au}(E:d_ K Z B H σ δ){i:Nat}{d:D}{v:V}(hi:i < σ.length)(r:Rep K B H d v):d_ K Z B H (σ.set i (some v)) (δ.set i (.val d)) where
 len:=by rw[List.length_set,List.length_set];exact E.len
 bs:=E.bs
 zb:=E.zb
 val:=fun j d' e=>by
  by_cases h:i=j
  .subst h;rw[List.getElem?_set_self (by rw[E.len];exact hi)] at e
   cases e;exact⟨v,List.getElem?_set_self hi,r⟩
  .rw [List.getElem?_set_ne h] at e ⊢;exact E.val j d' e
 bld:=fun j ds e=>by
  by_cases h:i=j
  .subst h;rw[List.getElem?_set_self (by rw[E.len];exact hi)] at e
   cases e
  .rw [List.getElem?_set_ne h] at e ⊢;exact E.bld j ds e
 dis:=fun j k a ds es e1 e2 e3 e4=>by
  by_cases h:i=j
  .subst h;rw[List.getElem?_set_self (by rw[E.len];exact hi)] at e1
   cases e1
  .by_cases h':i=k
   .subst h';rw[List.getElem?_set_self (by rw[E.len];exact hi)] at e2
    cases e2
   .rw [List.getElem?_set_ne h] at e1 e3;rw[List.getElem?_set_ne h'] at e2 e4;exact E.dis j k a ds es e1 e2 e3 e4
theorem d_.setB{K:W.Frag}{Z B:List Addr}{H:Hp}{σ:St}{δ:au}(E:d_ K Z B H σ δ){i:Nat}{ds:List D}{a:Addr}{xs:List V}(hi:i < σ.length)(hB:a∈B)(hZ:a ∉ Z)(hH:H a=some (.lst xs))(r:az K B H ds xs)
 (new:∀j es,j≠i->δ[j]? =some (.bld es)->σ[j]?≠some (some (.ref a))):d_ K Z B H (σ.set i (some (.ref a))) (δ.set i (.bld ds)) where
 len:=by rw[List.length_set,List.length_set];exact E.len
 bs:=E.bs
 zb:=E.zb
 val:=fun j d' e=>by
  by_cases h:i=j
  .subst h;rw[List.getElem?_set_self (by rw[E.len];exact hi)] at e
   cases e
  .rw [List.getElem?_set_ne h] at e ⊢;exact E.val j d' e
 bld:=fun j es e=>by
  by_cases h:i=j
  .subst h;rw[List.getElem?_set_self (by rw[E.len];exact hi)] at e
   cases e;exact⟨a,xs,List.getElem?_set_self hi,hB,hZ,hH,r⟩
  .rw [List.getElem?_set_ne h] at e ⊢;exact E.bld j es e
 dis:=fun j k b OX OZ e1 e2 e3 e4=>by
  by_cases h:i=j
  .subst h;by_cases h':i=k
   .exact h'
   .rw [List.getElem?_set_self hi] at e3;cases e3;rw[List.getElem?_set_ne h'] at e2 e4;exact absurd e4 (new k OZ (Ne.symm h') e2)
  .by_cases h':i=k
   .subst h';rw[List.getElem?_set_self hi] at e4;cases e4;rw[List.getElem?_set_ne h] at e1 e3;exact absurd e3 (new j OX (Ne.symm h) e1)
   .rw [List.getElem?_set_ne h] at e1 e3;rw[List.getElem?_set_ne h'] at e2 e4;exact E.dis j k b OX OZ e1 e2 e3 e4
def jN(i:Nat)(f:FD):FS:=fun δ=>(f δ).bind fun d=>R.bz (decide (i < δ.length)) (.ok (.nx (δ.set i (.val d))))
theorem Ez{K:W.Frag}{i:Nat}{D:Ends}(h:sD K (jN i f) D σ H):Df (tD K f) (ve i) D σ H:=by
 obtain⟨Z,B,δ,o,E,hf,q⟩:=h;obtain⟨d,h1,h2⟩:=R.ai hf;obtain⟨hi,h3⟩:=R.ba h2;cases h3;refine⟨Z,B,δ,d,E,h1,fun v H1 s1 r1=>?_⟩
 exact q _ B H1 (Ev.same E.zb s1) ((E.same s1).set (by rw[<-E.len];exact of_decide_eq_true hi) r1)
theorem HF{i:Nat}{pos pos':Pos}(hN:X.N.Nodup)(hi:X.N[i]? =some x)(hx:Loc X.env.scope x)(he:PD X e f)(hs:swapsWith e (some (.Name x pos')) pos.line X.env=pure false:=by rfl)(hf:X.fn x=true\/X.env.scope.names.lookup x=some .local:=by first | exact .inl rfl | exact .inr rfl | assumption) :
 Eh X (.Assign [.Name x pos'] e pos) (jN i f):=(AR hN hi hx he hs hf).imp fun D σ H h=>Ez h
def ue(i:Nat)(f:au->R (List D)):FS:=fun δ=>(f δ).bind fun ds=>R.bz (decide (i < δ.length)) (.ok (.nx (δ.set i (.bld ds))))
theorem GL{K:W.Frag}{i:Nat}{f:au->R (List D)}{D:Ends}(h:sD K (ue i f) D σ H):Df (tN K f) (ve i) D σ H:=by
 obtain⟨Z,B,δ,o,E,hf,q⟩:=h;obtain⟨ds,h1,h2⟩:=R.ai hf;obtain⟨hi,h3⟩:=R.ba h2;cases h3;refine⟨Z,B,δ,ds,E,h1,fun a xs H1 s1 n e r=>?_⟩
 have E1:=E.same s1;have aB:a ∉ B:=fun ha=>by obtain⟨o,ho⟩:=E.bs a ha;rw [n] at ho;cases ho
 have nZ:a ∉ Z:=fun ha=>aB (E.zb a ha)
 have p0:dF B H (a ::B) H1:=fun b o e' nb=>⟨s1 b o e',fun hb=>by
  rcases List.mem_cons.mp hb with z | z
  .subst z;rw [n] at e';cases e'
  .exact nb z⟩
 have E2:d_ K Z (a ::B) H1 σ δ:={
  len:=E.len
  bs:=fun b hb=>by
   rcases List.mem_cons.mp hb with z | z
   .subst z;exact⟨_,e⟩
   .exact E1.bs b z
  zb:=fun b hb=>List.mem_cons_of_mem _ (E.zb b hb)
  val:=fun j d e=>let⟨v,q1,q2⟩:=E.val j d e;⟨v,q1,q2.br p0⟩
  bld:=fun j es e=>let⟨b,ys,q1,q2,q3,q4,q5⟩:=E.bld j es e;⟨b,ys,q1,List.mem_cons_of_mem _ q2,q3,s1 b _ q4,q5.br p0⟩
  dis:=E.dis}
 refine q _ (a ::B) H1 ⟨p0,fun b o e' hb=>⟨s1 b o e',List.mem_cons_of_mem _ (E.zb b hb)⟩⟩ (E2.setB (by rw[<-E.len];exact of_decide_eq_true hi) List.mem_cons_self nZ e r fun j es hj ej JL=>?_)
 obtain⟨b,ys,q1,_,_,q4,_⟩:=E.bld j es ej;rw[JL] at q1;cases q1;rw[n] at q4;cases q4
theorem Hw{i:Nat}{f:au->R (List D)}{pos pos':Pos}(hN:X.N.Nodup)(hi:X.N[i]? =some x)(hx:Loc X.env.scope x)(he:PN X e f)(hs:swapsWith e (some (.Name x pos')) pos.line X.env=pure false:=by rfl)(hf:X.fn x=true\/X.env.scope.names.lookup x=some .local:=by first | exact .inl rfl | exact .inr rfl | assumption) :
 Eh X (.Assign [.Name x pos'] e pos) (ue i f):=(AR hN hi hx he hs hf).imp fun D σ H h=>GL h
theorem d_.grow{K:W.Frag}{Z B:List Addr}{H:Hp}{σ:St}{δ:au}(E:d_ K Z B H σ δ){i:Nat}{ds es:List D}{a:Addr}{xs ys:List V}(hd:δ[i]? =some (.bld ds))(JL:σ[i]? =some (some (.ref a)))(hB:a∈B)(hH:H a=some (.lst xs))(r:az K B H es ys) :
 d_ K Z B (upd H a (.lst ys)) σ (δ.set i (.bld es))/\dF B H B (upd H a (.lst ys)):=by
 have p:dF B H B (upd H a (.lst ys)):=fun b o e nb=>⟨by rw[bg (fun(z:b=a)=>nb (by rw[z];exact hB))];exact e,nb⟩
 have hi:i < δ.length:=(List.getElem?_eq_some_iff.mp hd).1;refine⟨{
  len:=by rw[List.length_set];exact E.len
  bs:=fun b hb=>by
   by_cases z:b=a
   .subst z;exact⟨_,aY⟩
   .rw [bg z];exact E.bs b hb
  zb:=E.zb
  val:=fun j d e=>by
   by_cases h:i=j
   .subst h;rw [List.getElem?_set_self hi] at e;cases e
   .rw [List.getElem?_set_ne h] at e;obtain⟨v,q1,q2⟩:=E.val j d e;exact⟨v,q1,q2.br p⟩
  bld:=fun j fs e=>by
   by_cases h:i=j
   .subst h;rw [List.getElem?_set_self hi] at e;cases e;obtain⟨b,zs,q1,q2,q3,_,_⟩:=E.bld i ds hd;rw[JL] at q1;cases q1;exact⟨a,ys,JL,hB,q3,aY,r.br p⟩
   .rw [List.getElem?_set_ne h] at e;obtain⟨b,zs,q1,q2,q3,q4,q5⟩:=E.bld j fs e;have ne:b≠a:=fun z=>by subst z;exact h (E.dis i j b ds fs hd e JL q1)
    exact⟨b,zs,q1,q2,q3,by rw[bg ne];exact q4,q5.br p⟩
  dis:=fun j k b OX OZ e1 e2 e3 e4=>by
   have f1:∃fs,δ[j]? =some (.bld fs):=by
    by_cases h:i=j
    .subst h;exact⟨ds,hd⟩
    .rw [List.getElem?_set_ne h] at e1;exact⟨_,e1⟩
   have f2:∃fs,δ[k]? =some (.bld fs):=by
    by_cases h:i=k
    .subst h;exact⟨ds,hd⟩
    .rw [List.getElem?_set_ne h] at e2;exact⟨_,e2⟩
   obtain⟨_,f1⟩:=f1;obtain⟨_,f2⟩:=f2;exact E.dis j k b _ _ f1 f2 e3 e4},p⟩
theorem Ev.grow{Z B:List Addr}{a:Addr}{o:HO}(zb:∀a∈Z,a∈B)(hZ:a ∉ Z)(p:dF B H B (upd H a o)):Ev Z B H B (upd H a o):=
 ⟨p,fun b u e hb=>⟨by rw[bg (fun(z:b=a)=>hZ (by rw[<-z];exact hb))];exact e,zb b hb⟩⟩
def oT(δ:au)(i:Nat):R (List D):=match δ[i]? with | some (.bld ds)=> .ok ds | _=> .no
theorem uI{δ:au}{i:Nat}{ds:List D}(h:oT δ i= .ok ds):δ[i]? =some (.bld ds):=by
 unfold oT at h;split at h
 .rename_i q;cases h;exact q
 .cases h
def Fz(i:Nat)(f:FD):FS:=fun δ=>(f δ).bind fun d=>(oT δ i).bind fun ds=>R.bz (decide (ds.length < sizeLine)) (.ok (.nx (δ.set i (.bld (ds++[d])))))
theorem Js{i:Nat}{x:Str}{e:Expr}{f:FD}{eU apos cu pos:Pos}(hN:X.N[i]? =some x)(hv:GK X.env.scope x)(he:PD X e f)
 (hd:(x==("__debug__":Str))=false:=by decide) (rK:(x==("__classdict__":Str))=false:=by decide)
 (hs:starEach [e] X.env=(false,eval e X.env) ::starEach [] X.env:=by rfl) (lP:(apos.endLine==cu.line)=true:=by rfl)
 (rL:((backTo cu (starEach [e] X.env)).all (fun x=>!x.1) && (backToKw cu (keywordEach [] X.env)).all (fun x=>x.1.isSome)
   && decide (([e]:List Expr).length+([]:List Keyword).length+(if([]:List Keyword).isEmpty then 0 else 1) < 30))=true:=by rfl)
 (rD:swapsWith (.Call (.Attribute (.Name x eU) "append" apos) [e] [] cu) none pos.line X.env=pure false:=by rfl)
 (lN:attributeBase (.Name x eU) "append" X.env (eval (.Name x eU) X.env)=eval (.Name x eU) X.env:=by rfl) :
 Eh X (.Expr (.Call (.Attribute (.Name x eU) "append" apos) [e] [] cu) pos) (Fz i f):=by
 refine(qf (Cb (X:=X) PySem.F.plainAttrs_list PySem.F.slot_list_append PySem.F.type_list_append q8 (qJ hN hv hd rK) (c9 he fZ hs) lN rL lP hs) rD).imp fun D σ H ⟨Z,B,δ,o,E,hf,q⟩=>?_
 obtain⟨d,h1,h2⟩:=R.ai hf;obtain⟨ds,h3,h4⟩:=R.ai h2;obtain⟨hl,h5⟩:=R.ba h4;cases h5;have hb:=uI h3;obtain⟨a,xs,q1,q2,q3,q4,q5⟩:=E.bld i ds hb;refine⟨.ref a,q1, .inl ⟨rfl,xs,o8.of q4⟩,⟨Z,B,δ,d,E,h1,fun v H1 s1 r1=>?_⟩⟩
 have E1:=E.same s1;refine⟨a,xs,v,rfl,rfl,s1 a _ q4,by rw[<-q5.length];exact of_decide_eq_true hl,?_⟩
 obtain⟨E2,p2⟩:=E1.grow (es:=ds++[d]) (ys:=xs++[v]) hb q1 q2 (s1 a _ q4) ((q5.same s1).append (az.cons r1 az.nil));exact q σ B _ ((Ev.same E.zb s1).trans (Ev.grow E.zb q3 p2)) E2
def C5(i:Nat)(f:au->R (List D)):FS:=fun δ=>(f δ).bind fun es=>(oT δ i).bind fun ds=>R.bz (decide (ds.length+es.length<=sizeLine)) (.ok (.nx (δ.set i (.bld (ds++es)))))
theorem IH{i:Nat}{x:Str}{e:Expr}{f:au->R (List D)}{eU apos cu pos:Pos}(hN:X.N[i]? =some x)(hv:GK X.env.scope x)(he:PN X e f)
 (hd:(x==("__debug__":Str))=false:=by decide) (rK:(x==("__classdict__":Str))=false:=by decide)
 (hs:starEach [e] X.env=(false,eval e X.env) ::starEach [] X.env:=by rfl) (lP:(apos.endLine==cu.line)=true:=by rfl)
 (rL:((backTo cu (starEach [e] X.env)).all (fun x=>!x.1) && (backToKw cu (keywordEach [] X.env)).all (fun x=>x.1.isSome)
   && decide (([e]:List Expr).length+([]:List Keyword).length+(if([]:List Keyword).isEmpty then 0 else 1) < 30))=true:=by rfl)
 (rD:swapsWith (.Call (.Attribute (.Name x eU) "extend" apos) [e] [] cu) none pos.line X.env=pure false:=by rfl)
 (lN:attributeBase (.Name x eU) "extend" X.env (eval (.Name x eU) X.env)=eval (.Name x eU) X.env:=by rfl) :
 Eh X (.Expr (.Call (.Attribute (.Name x eU) "extend" apos) [e] [] cu) pos) (C5 i f):=by
 refine(qf (Cb (X:=X) PySem.F.plainAttrs_list PySem.F.slot_list_extend PySem.F.type_list_extend D2 (qJ hN hv hd rK) (c9 he fZ hs) lN rL lP hs) rD).imp fun D σ H ⟨Z,B,δ,o,E,hf,q⟩=>?_
 obtain⟨es,h1,h2⟩:=R.ai hf;obtain⟨ds,h3,h4⟩:=R.ai h2;obtain⟨hl,h5⟩:=R.ba h4;cases h5;have hb:=uI h3;obtain⟨a,xs,q1,q2,q3,q4,q5⟩:=E.bld i ds hb;refine⟨.ref a,q1, .inl ⟨rfl,xs,o8.of q4⟩,⟨Z,B,δ,es,E,h1,fun b ys H1 s1 n e r=>?_⟩⟩
 have E1:=E.same s1;have r':az X.K B H1 es ys:=r.br fun b o e nb=>⟨e,fun hb=>nb (List.mem_cons_of_mem _ hb)⟩
 refine⟨a,b,xs,ys,rfl,rfl,s1 a _ q4,e,by rw[<-q5.length,<-r'.length];exact of_decide_eq_true hl,?_⟩
 obtain⟨E2,p2⟩:=E1.grow (es:=ds++es) (ys:=xs++ys) hb q1 q2 (s1 a _ q4) ((q5.same s1).append r');exact q σ B _ ((Ev.same E.zb s1).trans (Ev.grow E.zb q3 p2)) E2
def kL(i:Nat)(δ:au):au:=match δ[i]? with | some (.bld ds)=>δ.set i (.val (.lst ds)) | _=>δ
theorem d_.kL{K:W.Frag}{Z B:List Addr}{δ:au}(E:d_ K Z B H σ δ)(i:Nat):∃B',Ev Z B H B' H/\d_ K Z B' H σ (kL i δ):=by
 unfold L2.kL;cases hd:δ[i]? with
 | none=>exact⟨B,Ev.refl Z B H E.zb,E⟩
 | some x=>
   cases x with
   | un=>exact⟨B,Ev.refl Z B H E.zb,E⟩
   | val d=>exact⟨B,Ev.refl Z B H E.zb,E⟩
   | bld ds=>
     obtain⟨a,xs,q1,q2,q3,q4,q5⟩:=E.bld i ds hd;have hi:i < δ.length:=(List.getElem?_eq_some_iff.mp hd).1;have p:dF B H (B.filter fun b=>decide (b≠a)) H:=fun b o e nb=>⟨e,fun hb=>nb (List.mem_filter.mp hb).1⟩
     have zb:∀b∈Z,b∈B.filter fun b=>decide (b≠a):=fun b hb=>List.mem_filter.mpr ⟨E.zb b hb,decide_eq_true fun z=>q3 (z▸hb)⟩
     refine⟨B.filter fun b=>decide (b≠a),⟨p,fun b o e hb=>⟨e,zb b hb⟩⟩,{
      len:=by rw[List.length_set];exact E.len
      bs:=fun b hb=>E.bs b (List.mem_filter.mp hb).1
      zb:=zb
      val:=fun j d e=>by
       by_cases h:i=j
       .subst h;rw [List.getElem?_set_self hi] at e;cases e;refine⟨.ref a,q1,?_⟩;unfold Rep;exact⟨a,xs,rfl, .inl ⟨fun hb=>by simpa using(List.mem_filter.mp hb).2, .inl q4⟩,q5.br p⟩
       .rw [List.getElem?_set_ne h] at e;obtain⟨v,z1,z2⟩:=E.val j d e;exact⟨v,z1,z2.br p⟩
      bld:=fun j fs e=>by
       by_cases h:i=j
       .subst h;rw [List.getElem?_set_self hi] at e;cases e
       .rw [List.getElem?_set_ne h] at e;obtain⟨b,zs,z1,z2,z3,z4,z5⟩:=E.bld j fs e;exact⟨b,zs,z1,List.mem_filter.mpr ⟨z2,decide_eq_true fun z=>by subst z;exact h (E.dis i j b ds fs hd e q1 z1)⟩,z3,z4,z5.br p⟩
      dis:=fun j k b OX OZ e1 e2 e3 e4=>by
       by_cases h:i=j
       .subst h;rw [List.getElem?_set_self hi] at e1;cases e1
       .by_cases h':i=k
        .subst h';rw [List.getElem?_set_self hi] at e2;cases e2
        .rw [List.getElem?_set_ne h] at e1;rw[List.getElem?_set_ne h'] at e2;exact E.dis j k b OX OZ e1 e2 e3 e4}⟩
def AE(i:Nat)(F:FS):FS:=fun δ=>F (kL i δ)
theorem KC{K:W.Frag}{i:Nat}{F:FS}{D:Ends}(h:sD K (AE i F) D σ H):sD K F D σ H:=by
 obtain⟨Z,B,δ,o,E,hf,q⟩:=h;obtain⟨B1,ev,E1⟩:=E.kL i;refine⟨Z,B1,L2.kL i δ,o,E1,hf,?_⟩;cases o with
 | nx eh=>exact fun dy B' H' He E'=>q dy B' H' (ev.trans He) E'
 | rt d=>exact fun v B' H' He z r=>q v B' H' (ev.trans He) z r
theorem IB(i:Nat){F:FS}(h:sS X Km F):sS X Km (AE i F):=h.imp fun D σ H h=>KC h
def fF(f:FD):FS:=fun δ=>(f δ).bind fun d=> .ok (.rt d)
theorem Je(he:PD X e f):Eh X (.Return (some e) pos) (fF f):=(G3 he).imp fun D σ H ⟨Z,B,δ,o,E,hf,q⟩=>by
 obtain⟨d,h1,h2⟩:=R.ai hf;cases h2;exact⟨Z,B,δ,d,E,h1,fun v H1 s1 r1=>q v B H1 (Ev.same E.zb s1) E.zb r1⟩
def zV(c:au->R Bool)(F G:FS):FS:=fun δ=>(c δ).bind fun b=>if b then F δ else G δ
theorem Kt{fc:au->R Bool}{F G:FS}(hc:PB X c fc)(ha:sS X a F)(hb:sS X b G):Eh X (.If c a b pos) (zV fc F G):=(Ka hc ha hb).imp fun D σ H ⟨Z,B,δ,o,E,hf,q⟩=>by
 obtain⟨k,h1,h2⟩:=R.ai hf;refine⟨Z,B,δ,k,E,h1,fun H1 s1=>?_⟩
 have q':=q.ev (Ev.same E.zb s1);cases k with
 | true=>rw [if_pos rfl] at h2;exact HR ⟨Z,B,δ,o,E.same s1,h2,q'⟩
 | false=>rw [if_neg (by decide)] at h2;exact JG ⟨Z,B,δ,o,E.same s1,h2,q'⟩
abbrev FT:=D->au->R au
def gD(K:W.Frag)(t:FT):TG:=fun v σ H Q=>∃Z B δ d eh,d_ K Z B H σ δ/\Rep K B H d v/\t d δ= .ok eh/\∀dy H',aT H H'->d_ K Z B H' dy eh->dy.length=σ.length->Q dy H'
abbrev Kc(X:Cx)(tg:Expr)(t:FT):Prop:=PG X tg (gD X.K t)
def aD(i:Nat):FT:=fun d δ=>R.bz (decide (i < δ.length)) (.ok (δ.set i (.val d)))
theorem F3{i:Nat}{pos:Pos}(hN:X.N.Nodup)(hi:X.N[i]? =some x)(hx:Loc X.env.scope x)(hf:X.fn x=true\/X.env.scope.names.lookup x=some .local:=by first | exact .inl rfl | exact .inr rfl | assumption):Kc X (.Name x pos) (aD i):=
 (Bp hN hi hx hf).imp fun v σ H Q ⟨Z,B,δ,d,eh,E,r,ht,q⟩=>by
   obtain⟨hi,h⟩:=R.ba ht;cases h;exact q _ H (aT.refl H) (E.set (by rw[<-E.len];exact of_decide_eq_true hi) r) (List.length_set ..)
abbrev Fo:=List D->au->R au
def UI(K:W.Frag)(t:Fo):EL:=fun vs σ H Q=>∃Z B δ ds eh,d_ K Z B H σ δ/\az K B H ds vs/\t ds δ= .ok eh/\∀dy H',aT H H'->d_ K Z B H' dy eh->dy.length=σ.length->Q dy H'
abbrev Fe(X:Cx)(ts:List Expr)(t:Fo):Prop:=Jn X ts (UI X.K t)
theorem Jn.imp{X:Cx}{t t':EL}(h:Jn X e t)(w:∀v σ H Q,t' v σ H Q->t v σ H Q):Jn X e t':=fun pins s σ H v u Q I r hq=>h pins s σ H v u Q I r (w v σ H Q hq)
def eR:Fo:=fun ds δ=>match ds with | []=> .ok δ | _=> .no
def bw(t:FT)(u:Fo):Fo:=fun ds δ=>match ds with | d ::r=>(t d δ).bind fun eh=>u r eh | []=> .no
theorem Gj:Fe X [] eR:=Bw.imp fun vs σ H Q ⟨Z,B,δ,ds,eh,E,r,ht,q⟩=>by
 cases ds with
 | nil=>unfold az at r;cases ht;exact⟨r,q σ H (aT.refl H) E rfl⟩
 | cons=>cases ht
theorem DN{u:Fo}(h1:Kc X e t)(h2:Fe X es u)(hs:(assignEach (e ::es) X.env).map (·.2)=assign e X.env ::(assignEach es X.env).map (·.2):=by rfl):Fe X (e ::es) (bw t u):=
 (y7 h1 h2 hs).imp fun vs σ H Q ⟨Z,B,δ,ds,eh,E,r,ht,q⟩=>by
   cases ds with
   | nil=>cases ht
   | cons d ds=>
     obtain⟨x,xs,rfl,r1,r2⟩:=r.cn;obtain⟨δ1,h1,h2⟩:=R.ai ht;exact⟨x,xs,rfl,Z,B,δ,d,δ1,E,r1,h1,fun OP H1 s1 E1 l1=>⟨Z,B,δ1,ds,eh,E1,r2.same s1,h2,fun yc H2 s2 E2 l2=>q yc H2 (s1.trans s2) E2 (l2.trans l1)⟩⟩
def eJ(n:Nat)(t:Fo):FT:=fun d δ=>match d with | .tup ds=>R.bz (decide (ds.length=n)) (t ds δ) | _=> .no
theorem IQ{k:Nat}{t:Fo}{n:Nat}{pos:Pos}(hc:X.calm=true)(h:Fe X es t)(hn:(assignEach es X.env).length=n:=by rfl)(D_:(assignEach es X.env).findIdx? (·.1)=none:=by rfl):Kc X (.Tuple es k pos) (eJ n t):=
 (EJ hc h hn D_).imp fun v σ H Q ⟨Z,B,δ,d,eh,E,r,ht,q⟩=>by
   cases d with
   | tup ds=>
     unfold Rep at r;obtain⟨a,xs,rfl,l,r⟩:=r;obtain⟨hl,h⟩:=R.ba ht;exact⟨a,xs,rfl,l.sq,by rw[<-r.length];exact of_decide_eq_true hl,Z,B,δ,ds,eh,E,r,h,q⟩
   | _=>cases ht
def T_(f:FD)(t:FT):FS:=fun δ=>(f δ).bind fun d=>(t d δ).bind fun eh=> .ok (.nx eh)
def Fh(K:W.Frag)(B:List Addr)(H:Hp)(J:It)(ds:List D):Prop:=∀B' H',dF B H B' H'->(∀(i:Nat) (d:D),ds[i]? =some d->J.go i H'/\∀x oV,J.yld i H' x oV->(∀a∈B',∃o,H' a=some o)->aT H' oV/\Rep K B' oV d x)/\J.stop ds.length H'
def iD(K:W.Frag)(f:au->R (List D)):TI:=fun σ H R=>∃Z B δ ds,d_ K Z B H σ δ/\f δ= .ok ds/\∀J H1,aT H H1->Fh K B H1 J ds->R J H1
abbrev Jp(X:Cx)(tg e:Expr)(f:au->R (List D)):Prop:=PI X tg e (iD X.K f)
def cP(f:FD):au->R (List D):=fun δ=>(f δ).bind fun d=>match d with | .lst ds=> .ok ds | .tup ds=> .ok ds | _=> .no
theorem Il(h:PD X e f):Jp X tg e (cP f):=by
 intro pins s σ H RR I ⟨Z,B,δ,ds,E,hf,q⟩;obtain⟨d,h1,h2⟩:=R.ai hf;refine dH (h pins s σ H (fun v H1=>aT H H1/\Rep X.K B H1 d v) I ⟨Z,B,δ,d,E,h1,fun v H1 s1 r1=>⟨s1,r1⟩⟩) fun v s1 ⟨x,H1,I1,r1,ss,rr⟩=>?_
 cases d with
 | lst es=>
   cases h2;unfold Rep at rr;obtain⟨a,xs,rfl,l,rr⟩:=rr;cases r1;obtain⟨its,rv,p,hz⟩:=I1.list l.sq;refine wpAny_pyIter_list p.isList ?_;refine⟨s1.heap.objs.size,[s1.heap.objs.size],_,_,H1,rfl,I1.kept (t':=s1.toks) fun b o e=>Heap.get?_push_of_some _ e,Du a _,⟨_,Heap.get?_push_size _ rfl,rfl,rfl⟩,fun b hb=>?_,q _ H1 ss fun B' H' pr=>?_⟩
   .have e:b=s1.heap.objs.size:=by simpa using hb
    subst e;exact I1.x4 (Nat.le_refl _) (I1.hok.fresh (Nat.le_refl _))
   .have l':xZ X.K B' H' a xs:=l.br pr;have O0:=rr.br pr;refine⟨fun i d hd=>?_,⟨xs,l'.sq,by rw[rr.length];exact Nat.le_refl _⟩⟩
    obtain⟨x,hx,rx⟩:=O0.get hd;exact⟨⟨xs,x,l'.sq,hx⟩,fun y oV ⟨e1,e2⟩ _=>by
     subst e1;have:=e2 xs l'.sq;rw[hx] at this;cases this;exact⟨aT.refl _,rx⟩⟩
 | tup es=>
   cases h2;unfold Rep at rr;obtain⟨a,xs,rfl,l,rr⟩:=rr;cases r1;obtain⟨its,rv,p,hz⟩:=I1.tuple l.sq;refine wpAny_pyIter_tuple (show s1.heap.IsTuple a its.toArray from p) ?_
   refine⟨s1.heap.objs.size,[s1.heap.objs.size],_,_,H1,rfl,I1.kept (t':=s1.toks) fun b o e=>Heap.get?_push_of_some _ e,z7 a _,⟨_,Heap.get?_push_size _ rfl,rfl,rfl⟩,fun b hb=>?_,q _ H1 ss fun B' H' pr=>?_⟩
   .have e:b=s1.heap.objs.size:=by simpa using hb
    subst e;exact I1.x4 (Nat.le_refl _) (I1.hok.fresh (Nat.le_refl _))
   .have l':v8 X.K B' H' a xs:=l.elim (fun z=> .inl ⟨(pr.rd z.2 z.1).2,(pr.rd z.2 z.1).1⟩) .inr
    have O0:=rr.br pr;refine⟨fun i d hd=>?_,⟨xs,l'.sq,by rw[rr.length];exact Nat.le_refl _⟩⟩
    obtain⟨x,hx,rx⟩:=O0.get hd;exact⟨⟨xs,x,l'.sq,hx⟩,fun y oV ⟨e1,e2⟩ _=>by
     subst e1;have:=e2 xs l'.sq;rw[hx] at this;cases this;exact⟨aT.refl _,rx⟩⟩
 | _=>cases h2
def fG(lo:Int)(n:Nat):List D:=(List.range n).map fun(i:Nat)=>D.int (lo+i)
theorem AH{K:W.Frag}{B:List Addr}(lo:Int)(n:Nat):Fh K B H (Om lo n) (fG lo n):=fun B' H' _=>by
 refine⟨fun i d hd=>?_,?_⟩
 .unfold fG at hd;rw[List.getElem?_map] at hd;cases e:(List.range n)[i]? with
  | none=>rw [e] at hd;cases hd
  | some j=>
    rw[e] at hd;cases hd;obtain⟨hi,ej⟩:=List.getElem?_eq_some_iff.mp e;rw[List.getElem_range] at ej;subst ej;rw[List.length_range] at hi;exact⟨hi,fun x oV ⟨e1,e2⟩ _=>by subst e1 e2;exact⟨aT.refl _,by unfold Rep;rfl⟩⟩
 .show n<=(fG lo n).length;unfold fG;rw[List.length_map,List.length_range];exact Nat.le_refl _
def dE(f:FD):au->R (List D):=fun δ=>(f δ).bind fun d=>match d with | .int j=>R.bz (decide (-(2 ^ 62)<=j/\j < 2 ^ 62)) (.ok (fG 0 j.toNat)) | _=> .no
theorem Ai{tg a:Expr}{p pos:Pos}(h:PD X a f)(hg:Gl X "range")(hm:X.mg "range"=none)(hs:starEach [a] X.env=[(false,eval a X.env)]:=by rfl):Jp X tg (.Call (.Name "range" p) [a] [] pos) (dE f):=
 (wM hg hm (c9 h fZ hs) hs).imp fun σ H RR ⟨Z,B,δ,ds,E,hf,q⟩=>by
   obtain⟨d,h1,h2⟩:=R.ai hf;cases d with
   | int j=>
     obtain⟨hb,h3⟩:=R.ba h2;cases h3;have hb:=of_decide_eq_true hb;refine⟨Z,B,δ, .int j,E,h1,fun v H1 s1 r1=>⟨j,?_,hb.1,hb.2,q _ H1 s1 (AH 0 _)⟩⟩
     unfold Rep at r1;rw[r1]
   | _=>cases h2
def rA(f g:FD):au->R (List D):=fun δ=>(f δ).bind fun d=>(g δ).bind fun e=>match d,e with
 | .int i, .int j=>R.bz (decide (-(2 ^ 62)<=i/\i < 2 ^ 62/\ -(2 ^ 62)<=j/\j < 2 ^ 62)) (.ok (fG i (j - i).toNat)) | _,_=> .no
theorem Ba{tg a b:Expr}{p pos:Pos}(h:PD X a f)(h':PD X b g)(hg:Gl X "range")(hm:X.mg "range"=none)(hs:starEach [a,b] X.env=[(false,eval a X.env),(false,eval b X.env)]:=by rfl)(sv:starEach [b] X.env=[(false,eval b X.env)]:=by rfl) :
 Jp X tg (.Call (.Name "range" p) [a,b] [] pos) (rA f g):=
 (CU hg hm (c9 h (c9 h' fZ sv) (by rw[hs,sv])) hs sv).imp fun σ H RR ⟨Z,B,δ,ds,E,hf,q⟩=>by
   obtain⟨d,h1,h2⟩:=R.ai hf;obtain⟨d2,h3,h4⟩:=R.ai h2;split at h4
   .rename_i i j;obtain⟨hb,h5⟩:=R.ba h4;cases h5;have hb:=of_decide_eq_true hb;refine⟨Z,B,δ, .int i,E,h1,fun v H1 s1 r1=>⟨Z,B,δ, .int j,E.same s1,h3,fun v2 H2 s2 r2=>⟨i,j,?_,hb,q _ H2 (s1.trans s2) (AH i _)⟩⟩⟩
    unfold Rep at r1 r2;rw[r1,r2]
   .cases h4
def sg(t:FT)(body:FS):List D->FS
 | [],δ=> .ok (.nx δ)
 | d ::ds,δ=>(t d δ).bind fun δ1=>(body δ1).bind fun o=>match o with | .nx fU=>sg t body ds fU | .rt r=> .ok (.rt r)
def sR(it:au->R (List D))(t:FT)(body:FS):FS:=fun δ=>(it δ).bind fun ds=>sg t body ds δ
theorem HY{tg iter:Expr}{body:List Stmt}{it:au->R (List D)}{t:FT}{F:FS}{pos:Pos}(hp:PassesOwn (model X.prog X.w) X.A X.env X.xe)(hc:X.calm=true)(hi:Jp X tg iter it)(hg:Kc X tg t)(hb:sS X body F)
 (hs:∀x,foldedSetIterable iter X.env x=pure x:=by intro _;rfl):Eh X (.For tg iter body [] pos) (sR it t F):=(ER hp hc hi hg hb hs).imp fun D σ H ⟨Z,B,δ,o,E,hf,q⟩=>by
 obtain⟨ds,h1,h2⟩:=R.ai hf;refine⟨Z,B,δ,ds,E,h1,fun J H1 s1 ir=>?_⟩
 refine⟨fun i m dy H'=>m=ds.length - i/\i<=ds.length/\∃B' eh,Ev Z B H1 B' H'/\d_ X.K Z B' H' dy eh/\sg t F (ds.drop i) eh= .ok o,⟨ds.length,rfl,Nat.zero_le _,B,δ,Ev.refl Z B H1 E.zb,E.same s1,by simpa using h2⟩,?_⟩
 rintro i m dy H' ⟨rfl,hi,B',eh,ev,E',hl⟩;obtain⟨go,stop⟩:=ir B' H' ev.br;by_cases hlt:i < ds.length
 .have hd:ds[i]? =some ds[i]:=List.getElem?_eq_getElem hlt;have hdrop:ds.drop i=ds[i] ::ds.drop (i+1):=List.drop_eq_getElem_cons hlt;rw[hdrop] at hl;obtain⟨δ1,h3,h4⟩:=R.ai hl;obtain⟨o1,h5,h6⟩:=R.ai h4;obtain⟨g1,g2⟩:=go i _ hd;refine .inr ⟨g1,fun yc H2=>∃B2 fU,Ev Z B H1 B2 H2/\d_ X.K Z B2 H2 yc fU/\sg t F (ds.drop (i+1)) fU= .ok o,fun yc H2 n=>⟨ds.length - (i+1),by omega,rfl,hlt,n⟩,fun x oV y=>?_⟩
  obtain⟨ss,rr⟩:=g2 x oV y E'.bs;refine⟨Z,B',eh,ds[i],δ1,E'.same ss,rr,h3,fun yc H2 s2 E2 l2=>⟨Z,B',δ1,o1,E2,h5,?_⟩⟩
  have ev2:Ev Z B H1 B' H2:=ev.trans (Ev.same E'.zb (ss.trans s2));cases o1 with
  | nx fU=>exact fun JP B3 H3 Rr E3=>⟨B3,fU,ev2.trans Rr,E3,h6⟩
  | rt d=>
    cases h6;exact fun v B3 H3 Rr z r=>q v B3 H3 ((Ev.same E.zb s1).trans (ev2.trans Rr)) z r
 .have e:i=ds.length:=by omega
  subst e;rw[List.drop_length] at hl;cases hl;exact .inl ⟨stop,q dy B' H' ((Ev.same E.zb s1).trans ev) E'⟩
def FW(c:au->R Bool)(body:FS):Nat->FS
 | 0,_=> .no
 | n+1,δ=>(c δ).bind fun b=>if b then(body δ).bind fun o=>match o with | .nx fU=>FW c body n fU | .rt r=> .ok (.rt r) else .ok (.nx δ)
def Q8(n:Nat)(c:au->R Bool)(body:FS):FS:=fun δ=>FW c body n δ
def uH(δ:au)(i:Nat):Sl:=match δ[i]? with | some (.val d)=> .val d | _=> .un
def sM(own:List Str)(kp:List Nat)(δ:au):au:=List.replicate own.length .un++kp.map (uH δ)
def oC(t:FT)(c:au->R Bool)(f:FD)(δ:au):List D->R (List D)
 | []=> .ok []
 | d ::ds=>(t d δ).bind fun δ1=>(c δ1).bind fun b=>if b then(f δ1).bind fun y=>(oC t c f δ ds).bind fun ys=> .ok (y ::ys) else oC t c f δ ds
def ck(it:au->R (List D))(t:FT)(c:au->R Bool)(f:FD)(own:List Str)(kp:List Nat):au->R (List D):=fun δ=>(it δ).bind fun ds=>R.bz (decide (ds.length<=sizeLine)) (oC t c f (sM own kp δ) ds)
theorem LV{K:W.Frag}{Z B B':List Addr}{H H':Hp}{δ:au}{own:List Str}{kp:List Nat}(E:d_ K Z B H σ δ)(p:dF B H B' H')(hB:∀a∈B',∃o,H' a=some o):d_ K [] B' H' (dA own kp σ) (sM own kp δ) where
 len:=by unfold dA sM;simp
 bs:=hB
 zb:=fun a ha=>by cases ha
 val:=fun i d e=>by
  unfold sM at e;unfold dA;by_cases hi:i < own.length
  .rw [List.getElem?_append_left (by simpa using hi),List.getElem?_replicate] at e
   split at e <;> cases e
  .rw [List.getElem?_append_right (by simpa using hi),List.length_replicate,List.getElem?_map] at e ⊢
   cases q:kp[i - own.length]? with
   | none=>rw [q] at e;cases e
   | some j=>
     rw[q] at e;have e:uH δ j= .val d:=Option.some.inj e;unfold uH at e;split at e
     .rename_i d' ed;cases e;obtain⟨v,h1,h2⟩:=E.val j d ed;exact⟨v,by simp [h1],h2.br p⟩
     .cases e
 bld:=fun i ds e=>by
  unfold sM at e;by_cases hi:i < own.length
  .rw [List.getElem?_append_left (by simpa using hi),List.getElem?_replicate] at e
   split at e <;> cases e
  .rw [List.getElem?_append_right (by simpa using hi),List.length_replicate,List.getElem?_map] at e
   cases q:kp[i - own.length]? with
   | none=>rw [q] at e;cases e
   | some j=>
     rw[q] at e;have e:uH δ j= .bld ds:=Option.some.inj e;unfold uH at e;split at e <;> cases e
 dis:=fun i j a ds es e=>by
  unfold sM at e;by_cases hi:i < own.length
  .rw [List.getElem?_append_left (by simpa using hi),List.getElem?_replicate] at e
   split at e <;> cases e
  .rw [List.getElem?_append_right (by simpa using hi),List.length_replicate,List.getElem?_map] at e
   cases q:kp[i - own.length]? with
   | none=>rw [q] at e;cases e
   | some j=>
     rw[q] at e;have e:uH δ j= .bld ds:=Option.some.inj e;unfold uH at e;split at e <;> cases e
theorem tf{K:W.Frag}{it:au->R (List D)}{c:au->R Bool}{own:List Str}{kp:List Nat}{Q:VK}(h:tN K (ck it t c f own kp) σ H Q) :
 BU (iD K it) (gD K t) (Hu K c) (tD K f) own kp σ H Q:=by
 obtain⟨Z,B,δ,ds,E,hf,q⟩:=h;obtain⟨es,h1,h2⟩:=R.ai hf;obtain⟨hl,h3⟩:=R.ba h2;have hl:=of_decide_eq_true hl;refine⟨Z,B,δ,es,E,h1,fun J H1 s1 ir Dd hD=>?_⟩
 have E1:=E.same s1;have pD:dF B H1 (Dd ::B) (upd H1 Dd (.lst [])):=ze hD;refine⟨fun i m ys H'=>m=es.length - i/\i<=es.length/\ys.length<=i/\H' Dd=some (.lst ys)/\aT H1 H'/\∃done rest,ds=done++rest/\az K (Dd ::B) H' done ys/\oC t c f (sM own kp δ) (es.drop i)= .ok rest,
  ⟨es.length,rfl,Nat.zero_le _,Nat.le_refl _,aY,aX hD,[],ds,rfl,az.nil,by simpa using h3⟩,?_⟩
 rintro i m ys H' ⟨rfl,hi,hy,hDl,ss,done,rest,rfl,rd,hc⟩;have dB:Dd ∉ B:=fun hb=>by obtain⟨o,ho⟩:=E1.bs Dd hb;rw [hD] at ho;cases ho
 have p':dF B H1 (Dd ::B) H':=fun b o e nb=>⟨ss b o e,fun hb=>by
  rcases List.mem_cons.mp hb with z | z
  .exact cH e hD z
  .exact nb z⟩
 have JN:∀a∈Dd ::B,∃o,H' a=some o:=fun a ha=>by
  rcases List.mem_cons.mp ha with z | z
  .subst z;exact⟨_,hDl⟩
  .obtain⟨o,ho⟩:=E1.bs a z;exact⟨o,ss a o ho⟩
 obtain⟨go,stop⟩:=ir (Dd ::B) H' p';by_cases hlt:i < es.length
 .have hd:es[i]? =some es[i]:=List.getElem?_eq_getElem hlt;have hdrop:es.drop i=es[i] ::es.drop (i+1):=List.drop_eq_getElem_cons hlt;rw[hdrop] at hc;obtain⟨δ1,h4,h5⟩:=R.ai hc;obtain⟨b,h6,h7⟩:=R.ai h5;obtain⟨g1,g2⟩:=go i _ hd;refine .inr ⟨g1,fun x H2 y=>?_⟩
  obtain⟨sy,ry⟩:=g2 x H2 y JN;have Ec:d_ K [] (Dd ::B) H2 (dA own kp σ) (sM own kp δ):=LV E1 (p'.trans (dF.same sy)) fun a ha=>let⟨o,ho⟩:=JN a ha;⟨o,sy a o ho⟩
  refine⟨[],Dd ::B,sM own kp δ,es[i],δ1,Ec,ry,h4,fun JP H3 s3 E3 _=>⟨[],Dd ::B,δ1,b,E3,h6,fun H4 s4=>?_⟩⟩
  have sAll:aT H' H4:=sy.trans (s3.trans s4);cases b with
  | true=>
    rw[if_pos rfl] at h7;refine HR ?_;obtain⟨yv,h8,h9⟩:=R.ai h7;obtain⟨rs,RB,MU⟩:=R.ai h9;cases MU;refine⟨[],Dd ::B,δ1,yv,E3.same s4,h8,fun v H5 s5 r5=>?_⟩
    have s':aT H' H5:=sAll.trans s5;have RC:H5 Dd=some (.lst ys):=s' Dd _ hDl;have pu:dF (Dd ::B) H5 (Dd ::B) (upd H5 Dd (.lst (ys++[v]))):=fun b o e nb=>⟨by rw[bg (fun(z:b=Dd)=>nb (by rw[z];exact List.mem_cons_self))];exact e,nb⟩
    refine⟨RC,by omega,es.length - (i+1),by omega,rfl,hlt,by rw[List.length_append,List.length_singleton];omega,aY,fun b o e=>?_,done++[yv],rs,by simp,((rd.same s').append (az.cons r5 az.nil)).br pu,RB⟩
    rw[bg (cH e hD)];exact s' b o (ss b o e)
  | false=>
    rw[if_neg (by decide)] at h7
    refine JG ?_;exact⟨es.length - (i+1),by omega,rfl,hlt,by omega,sAll Dd _ hDl,ss.trans sAll,done,rest,rfl,rd.same sAll,h7⟩
 .have e:i=es.length:=by omega
  subst e;rw[List.drop_length] at hc;cases hc;rw[List.append_nil] at q;exact .inl ⟨stop,q Dd ys H' (s1.trans ss) (s1.free hD) hDl rd⟩
theorem Jw{scope:Scope}{own:List Str}{kp:List Nat}{kn:List Str}{tg iter elt:Expr}{ifs:List Expr}{it:au->R (List D)}{t:FT}{c:au->R Bool}{f:FD}{pos:Pos}(hc:X.calm=true)(C:bt X scope own kp kn)(hi:Jp X tg iter it)
 (hg:∀fp s H,Kc (bc X scope (own++kn) fp s H) tg t) (vU:∀fp s H,o_ (bc X scope (own++kn) fp s H) ifs (Hu X.K c)) (he:∀fp s H,PD (bc X scope (own++kn) fp s H) elt f)
 (hs:∀x,foldedSetIterable iter X.env x=pure x:=by intro _;rfl):PN X (.ListComp elt [⟨tg,iter,ifs,0⟩] scope pos) (ck it t c f own kp):=
 (BG hc C hi hg vU he hs).imp fun σ H Q h=>tf h
def fI:au->R Bool:=fun _=> .ok true
theorem GF:o_ X [] (Hu X.K fI):=fun pins s σ H Q I ⟨Z,B,δ,b,E,hf,q⟩=>zi pins s σ H Q I (by cases hf;exact q H (aT.refl H))
theorem Hv{c:au->R Bool}(h:PB X e c):o_ X [e] (Hu X.K c):=yZ h
theorem za{i:Nat}{x:Str}{pos' iz:Pos}{scope:Scope}{own:List Str}{kp:List Nat}{kn:List Str}{tg iter elt:Expr}{ifs:List Expr}{it:au->R (List D)}{t:FT}{c:au->R Bool}{f:FD}{pos:Pos}(hc:X.calm=true)
 (hN:X.N.Nodup) (hx:X.N[i]? =some x) (CL:X.env.scope.names.lookup x=some .local) (C:bt X scope own kp kn) (hi:Jp X tg iter it)
 (hg:∀fp s H,Kc (bc X scope (own++kn) fp s H) tg t) (vU:∀fp s H,o_ (bc X scope (own++kn) fp s H) ifs (Hu X.K c)) (he:∀fp s H,PD (bc X scope (own++kn) fp s H) elt f)
 (rD:swapsWith (.ListComp elt [⟨tg,iter,ifs,0⟩] scope pos) (some (.Name x pos')) iz.line X.env=pure true:=by rfl)
 (hs:∀x,foldedSetIterable iter X.env x=pure x:=by intro _;rfl):Eh X (.Assign [.Name x pos'] (.ListComp elt [⟨tg,iter,ifs,0⟩] scope pos) iz) (jN i (eNew (ck it t c f own kp))):=
 (mf hc hN hx CL C hi hg vU he rD hs).imp fun D σ H h=>by
   have h1:=Ez h;obtain⟨Z,B,δ,d,E,hf,q⟩:=h1;obtain⟨ds,h2,h3⟩:=R.ai hf;cases h3;refine tf ⟨Z,B,δ,ds,E,h2,fun a xs H' s n e r=>q _ H' s ?_⟩
   unfold Rep;refine⟨a,xs,rfl, .inl ⟨fun ha=>?_, .inl e⟩,r.br fun b o e nb=>⟨e,fun hb=>nb (List.mem_cons_of_mem _ hb)⟩⟩
   obtain⟨o,ho⟩:=E.bs a ha;rw[n] at ho;cases ho
theorem yW{i:Nat}{x:Str}{pos' iz:Pos}{scope:Scope}{own:List Str}{kp:List Nat}{kn:List Str}{tg iter elt:Expr}{ifs:List Expr}{it:au->R (List D)}{t:FT}{c:au->R Bool}{f:FD}{pos:Pos}(hc:X.calm=true)
 (hN:X.N.Nodup) (hx:X.N[i]? =some x) (CL:X.env.scope.names.lookup x=some .local) (C:bt X scope own kp kn) (hi:Jp X tg iter it)
 (hg:∀fp s H,Kc (bc X scope (own++kn) fp s H) tg t) (vU:∀fp s H,o_ (bc X scope (own++kn) fp s H) ifs (Hu X.K c)) (he:∀fp s H,PD (bc X scope (own++kn) fp s H) elt f)
 (rD:swapsWith (.ListComp elt [⟨tg,iter,ifs,0⟩] scope pos) (some (.Name x pos')) iz.line X.env=pure true:=by rfl)
 (hs:∀x,foldedSetIterable iter X.env x=pure x:=by intro _;rfl):Eh X (.Assign [.Name x pos'] (.ListComp elt [⟨tg,iter,ifs,0⟩] scope pos) iz) (ue i (ck it t c f own kp)):=
 (mf hc hN hx CL C hi hg vU he rD hs).imp fun D σ H h=>tf (GL h)
end
def cA(N:List Str)(ds:List D):au:=ds.map .val++List.replicate (N.length - ds.length) .un
def oQ(N:List Str)(F:FS):List D->R D:=fun ds=>(F (cA N ds)).bind fun o=>match o with | .rt d=> .ok d | .nx _=> .ok .cX
theorem Iu{K:W.Frag}{B:List Addr}{H:Hp}{N:List Str}{ds:List D}{vs:List V}(hB:∀a∈B,∃o,H a=some o)(r:az K B H ds vs):d_ K B B H (start N vs) (cA N ds) where
 len:=by unfold start cA;simp [r.length]
 bs:=hB
 zb:=fun a ha=>ha
 val:=fun i d e=>by
  unfold cA at e;unfold start;by_cases hi:i < ds.length
  .rw [List.getElem?_append_left (by simpa using hi),List.getElem?_map] at e
   cases q:ds[i]? with
   | none=>rw [q] at e;cases e
   | some d'=>
     rw[q] at e;cases e;obtain⟨x,h1,h2⟩:=r.get q;exact⟨x,by rw[List.getElem?_append_left (by rw[List.length_map,<-r.length];exact hi),List.getElem?_map,h1];rfl,h2⟩
  .rw [List.getElem?_append_right (by simpa using hi),List.getElem?_replicate] at e
   split at e <;> cases e
 bld:=fun i es e=>by
  unfold cA at e;by_cases hi:i < ds.length
  .rw [List.getElem?_append_left (by simpa using hi),List.getElem?_map] at e
   cases q:ds[i]? with
   | none=>rw [q] at e;cases e
   | some d'=>rw [q] at e;cases e
  .rw [List.getElem?_append_right (by simpa using hi),List.getElem?_replicate] at e
   split at e <;> cases e
 dis:=fun i j a es fs e=>by
  unfold cA at e;by_cases hi:i < ds.length
  .rw [List.getElem?_append_left (by simpa using hi),List.getElem?_map] at e
   cases q:ds[i]? with
   | none=>rw [q] at e;cases e
   | some d'=>rw [q] at e;cases e
  .rw [List.getElem?_append_right (by simpa using hi),List.getElem?_replicate] at e
   split at e <;> cases e
theorem IX{P:Program}{w:World}{K:W.Frag}{mg:WM}{base:Heap}{x qual:Str}{st:Stmt}{f:Addr}{fd:FuncData}{N ps:List Str}{k:Nat}{F:FS}(Fn:Cm K x qual st f fd)(S:aW N ps (aC st))
 (lO:∀(dI:Value) (A:Around) (outer:List Env) (s:Shared) (H:Hp) (E:XK),eB k (A.deeper (envOfC qual (aC st) s.heap.objs.size f dI))->
   sS (uU vI P w K mg base N qual (aC st) f dI A outer s H E).Ig (aP st) F):js P w K mg base vI (k+1) f fd ps (Gy K ps.length (oQ N F)):=by
 refine Fn.ok S (fun vs H Q E h=>h.1) (fun dI A outer s H vs Q E hr h=>⟨_,lO dI A outer s H E hr,?_⟩)
 obtain⟨_,B,ds,d,hB,r,hg,q⟩:=h;obtain⟨o,h1,h2⟩:=R.ai hg;refine⟨B,B,cA N ds,o,Iu hB r,h1,?_⟩;have sm:∀{B':List Addr} {H':Hp},Ev B B H B' H'->aT H H':=fun {B' H'} ev b u e=>by
  by_cases hb:b∈B
  .exact(ev.zs b u e hb).1
  .exact(ev.br b u e hb).1
 cases o with
 | nx eh=>
   cases h2;exact fun dy B' H' ev _=>q _ H' (sm ev) (by unfold Rep;rfl)
 | rt d'=>
   cases h2;exact fun v B' H' ev z rr=>q v H' (sm ev) (rr.br fun b o e nb=>⟨e,fun hb=>nb (z b hb)⟩)
end L2
end
section
namespace L2
open PySem PySem.Spec PyProof.Rows
theorem Rep.int{K:W.Frag}{B:List Addr}{i:Int}{v:V}:Rep K B H (.int i) v↔v= .int i:=by unfold Rep;exact Iff.rfl
theorem Rep.bl{K:W.Frag}{B:List Addr}{i:Bool}{v:V}:Rep K B H (.bl i) v↔v= .bl i:=by unfold Rep;exact Iff.rfl
theorem Rep.str{K:W.Frag}{B:List Addr}{v:V}:Rep K B H (.str i) v↔v= .str i:=by unfold Rep;exact Iff.rfl
theorem Rep.cX{K:W.Frag}{B:List Addr}{v:V}:Rep K B H .cX v↔v= .cX:=by unfold Rep;exact Iff.rfl
theorem Rep.lst{K:W.Frag}{B:List Addr}{ds:List D}{v:V}:Rep K B H (.lst ds) v↔∃a xs,v= .ref a/\xZ K B H a xs/\az K B H ds xs:=by rw[Rep]
theorem Rep.tup{K:W.Frag}{B:List Addr}{ds:List D}{v:V}:Rep K B H (.tup ds) v↔∃a xs,v= .ref a/\v8 K B H a xs/\az K B H ds xs:=by rw[Rep]
section
variable {X:Cx}
theorem lQ.of{f:Value->Value->Sem Value}{r:R2}{g:D->D->R D}(h:mT X f r)
 (w:∀(B:List Addr) (H:Hp) (da db d:D) (x y:V) (Q:VK),(∀a∈B,∃o,H a=some o)->Rep X.K B H da x->Rep X.K B H db y->g da db= .ok d->(∀z H',aT H H'->Rep X.K B H' d z->Q z H')->r x y H Q):lQ X f g:=by
 intro pins s σ H B da db d x y v u I hb rx ry ra rb hg;exact h pins s σ H x y v u _ I rx ry (w B H da db d x y _ hb ra rb hg fun z H' s1 r1=>⟨s1,r1⟩)
theorem h_.of{f:Value}{r:List V->Hp->VK->Prop}{g:List D->R D}(h:uC X f r)
 (w:∀(B:List Addr) (H:Hp) (ds:List D) (d:D) (xs:List V) (Q:VK),(∀a∈B,∃o,H a=some o)->az X.K B H ds xs->g ds= .ok d->(∀z H',aT H H'->Rep X.K B H' d z->Q z H')->r xs H Q):h_ X f g:=by
 intro pins s σ H B ds d xs us I hb rx rs hg;exact h pins s σ H xs us _ I rx (w B H ds d xs _ hb rs hg fun z H' s1 r1=>⟨s1,r1⟩)
def Hk(C:Int->Int->Bool)(g:Int->Int->Int):D->D->R D
 | .int i, .int j=>R.bz (C i j) (.ok (.int (g i j)))
 | _,_=> .no
theorem Bu{f:Value->Value->Sem Value}{C:Int->Int->Bool}{Cp:Int->Int->Prop}{g:Int->Int->Int}(h:mT X f (rI Cp fun i j=> .int (g i j)))(hc:∀i j,C i j=true->Cp i j):lQ X f (Hk C g):=
 lQ.of h fun B H da db d x y Q _ ra rb hg q=>by
  unfold Hk at hg;split at hg
  .obtain⟨h1,h2⟩:=R.ba hg;cases h2;exact⟨_,_,Rep.int.mp ra,Rep.int.mp rb,hc _ _ h1,q _ H (aT.refl H) (Rep.int.mpr rfl)⟩
  .cases hg
def Dk(g:Int->Int->Int):D->D->R D
 | .int i, .int j=> .ok (.int (g i j))
 | _,_=> .no
theorem xY{f:Value->Value->Sem Value}{g:Int->Int->Int}(h:mT X f (Ef fun i j=> .int (g i j))):lQ X f (Dk g):=
 lQ.of h fun B H da db d x y Q _ ra rb hg q=>by
  unfold Dk at hg;split at hg
  .cases hg;exact⟨_,_,Rep.int.mp ra,Rep.int.mp rb,q _ H (aT.refl H) (Rep.int.mpr rfl)⟩
  .cases hg
def MG(g:Int->Int->Bool):D->D->R D
 | .int i, .int j=> .ok (.bl (g i j))
 | _,_=> .no
theorem GV{f:Value->Value->Sem Value}{g:Int->Int->Bool}(h:mT X f (Ef fun i j=> .bl (g i j))):lQ X f (MG g):=
 lQ.of h fun B H da db d x y Q _ ra rb hg q=>by
  unfold MG at hg;split at hg
  .cases hg;exact⟨_,_,Rep.int.mp ra,Rep.int.mp rb,q _ H (aT.refl H) (Rep.bl.mpr rfl)⟩
  .cases hg
abbrev Am:D->D->R D:=Dk fun i j=>i - j
theorem yD:lQ X (binaryOp .Sub) Am:=xY KR
abbrev lK:D->D->R D:=Hk (fun _ j=>decide (0 < j/\j < 1073741824)) fun i j=>i / j
theorem qP:lQ X (binaryOp .FloorDiv) lK:=Bu JJ fun i j h=>(of_decide_eq_true h:0 < j/\j < 1073741824)
abbrev je:D->D->R D:=Hk (fun _ j=>decide (0 < j)) fun i j=>i % j
theorem jb:lQ X (binaryOp .Mod) je:=Bu KG fun i j h=>of_decide_eq_true h
abbrev C2:D->D->R D:=Hk (fun i j=>decide (0<=j/\j<=1000000/\i.natAbs < 2 ^ 64)) fun i j=>i ^ j.toNat
theorem FU:lQ X (binaryOp .Pow) C2:=Bu Lo fun i j h=>(of_decide_eq_true h:0<=j/\j<=1000000/\i.natAbs < 2 ^ 64)
abbrev DT:D->D->R D:=Hk (fun _ j=>decide (0<=j)) fun i j=>i / 2 ^ j.toNat
theorem J4:lQ X (binaryOp .RShift) DT:=Bu Kv fun i j h=>of_decide_eq_true h
abbrev Iq:D->D->R D:=Dk fun i j=>Builtin.bitAnd i j
theorem Gn:lQ X (binaryOp .BitAnd) Iq:=xY Lm
abbrev J7:D->D->R D:=Dk fun i j=>Builtin.bitOr i j
theorem De:lQ X (binaryOp .BitOr) J7:=xY Oq
abbrev CW:D->D->R D:=Dk fun i j=>Builtin.bitXor i j
theorem AU:lQ X (binaryOp .BitXor) CW:=xY L1
abbrev P6:D->D->R D:=MG fun i j=>decide (i < j)
theorem Qp:lQ X (compareOp .Lt) P6:=GV Ng
abbrev Wb:D->D->R D:=MG fun i j=>decide (i<=j)
abbrev Eg:D->D->R D:=MG fun i j=>decide (j < i)
theorem CV:lQ X (compareOp .Gt) Eg:=GV Nn
abbrev Q6:D->D->R D:=MG fun i j=>decide (j<=i)
theorem P_:lQ X (compareOp .GtE) Q6:=GV Nl
theorem xZ.Eu{K:W.Frag}{B:List Addr}{H:Hp}{a:Addr}{xs:List V}(h:H a=some (.lst xs))(n:a ∉ B):xZ K B H a xs:= .inl ⟨n, .inl h⟩
theorem Inv.MF{pins:WH}{s:Shared}{a:Addr}{xs:List V}{B:List Addr}(I:Inv X pins σ H s)(h:xZ X.K B H a xs):∃(its:List Value) (n:Nat),Vals xs its/\s.heap.get? a=some {cls:= .type "list",data:= .seq its.toArray n}/\xs.length<=sizeLine:=by
 rcases h with⟨_,h⟩ | ⟨its,n,hk,hz,r⟩
 .obtain⟨z,its,n,r,e⟩:=h.ok I.hok;exact⟨its,n,r,e,z⟩
 .exact⟨its,n,r,I.Cn a _ hk,hz⟩
theorem HC:mT X (binaryOp .Add) (fun x y H Q=>∃B l b xs zs,x= .ref l/\y= .ref b/\xZ X.K B H l xs/\xZ X.K B H b zs/\xs.length+zs.length<=sizeLine/\∀p,H p=none->Q (.ref p) (upd H p (.lst (xs++zs)))):=by
 intro pins s σ H x y v u Q I rx ry h;obtain⟨B,l,b,xs,zs,rfl,rfl,hH,hB,hz,q⟩:=h;cases rx;cases ry;obtain⟨its,n,r,e,_⟩:=I.MF hH;obtain⟨nX,n2,r2,e2,_⟩:=I.MF hB;have l1:=r.length;have l2:=r2.length;refine PySem.P.add_list e e2 ?_ (by rw[List.size_toArray,List.size_toArray];omega)
 have ea:its.toArray++nX.toArray=(its++nX).toArray:=by simp
 rw[ea];exact⟨.ref _,_,I.JA (t':=s.toks) (r.append r2) (by rw[List.length_append];omega),rfl,q _ I.fresh⟩
def cx:D->D->R D
 | .int i, .int j=> .ok (.int (i+j))
 | .str a, .str b=>R.bz (decide (a.length+b.length<=sizeLine)) (.ok (.str (a++b)))
 | .lst a, .lst b=>R.bz (decide (a.length+b.length<=sizeLine)) (.ok (.lst (a++b)))
 | _,_=> .no
theorem cD:lQ X (binaryOp .Add) cx:=by
 intro pins s σ H B da db d x y v u I hb rx ry ra rb hg;unfold cx at hg;split at hg
 .cases hg;exact KP pins s σ H x y v u _ I rx ry ⟨_,_,Rep.int.mp ra,Rep.int.mp rb,aT.refl H,Rep.int.mpr rfl⟩
 .obtain⟨h1,h2⟩:=R.ba hg;cases h2;exact z9 pins s σ H x y v u _ I rx ry ⟨_,_,Rep.str.mp ra,Rep.str.mp rb,of_decide_eq_true h1,aT.refl H,Rep.str.mpr rfl⟩
 .obtain⟨h1,h2⟩:=R.ba hg;cases h2;obtain⟨a1,RG,rfl,l1,r1⟩:=Rep.lst.mp ra;obtain⟨a2,Rg,rfl,l2,r2⟩:=Rep.lst.mp rb;refine HC pins s σ H _ _ v u _ I rx ry ⟨B,a1,a2,RG,Rg,rfl,rfl,l1,l2,by rw[<-r1.length,<-r2.length];exact of_decide_eq_true h1,fun p hp=>⟨aX hp,Rep.lst.mpr ⟨p,_,rfl, .Eu aY fun ha=>?_,(r1.append r2).same (aX hp)⟩⟩⟩
  obtain⟨o,ho⟩:=hb p ha;rw[hp] at ho;cases ho
 .cases hg
theorem Iy:mT X (binaryOp .Mult) (fun x y H Q=>∃z n,x= .str z/\y= .int n/\MulOk z n/\Q (.str (Txt.mul z n)) H):=by
 intro pins s σ H x y v u Q I rx ry h;obtain⟨z,n,rfl,rfl,hm,q⟩:=h;obtain⟨t,rfl⟩:=rx;obtain⟨t',rfl⟩:=ry;exact SB.mul hm fun t2 k=>⟨.str _,H,I.tok _,⟨_,rfl⟩,q⟩
end
end L2
end
section
namespace L2
open PySem PySem.Spec PyProof.Rows
section
variable {X:Cx}
theorem mulOk_of{x:Str}{n:Int}(h1: -(2 ^ 63)<=n)(h2:n < 2 ^ 63)(h3:x.length*n.toNat<=sizeLine):MulOk x n:=by
 refine⟨by simp only[Bool.or_eq_false_iff,decide_eq_false_iff_not];omega,fun hn _=>?_,fun hn _=>?_⟩
 .have hz:sizeLine=16777216:=sizeLine_eq;have e:(n.toNat:Int)=n:=by omega
  have h4:(x.length:Int)*n<=16777216:=by
   have:((x.length*n.toNat:Nat):Int)<=((16777216:Nat):Int):=Int.ofNat_le.mpr (by omega)
   rw[Int.natCast_mul,e] at this;exact this
  have:(x.length:Int)<=(2 ^ 63 - 1) / n:=(Int.le_ediv_iff_mul_le (by omega)).mpr (by omega)
  omega
 .unfold Builtin.Str.tooLong;exact decide_eq_false (by omega)
def gI:D->D->R D
 | .int i, .int j=>R.bz (decide ((-(2 ^ 64) < i/\i < 2 ^ 64)\/(-(2 ^ 64) < j/\j < 2 ^ 64))) (.ok (.int (i*j)))
 | .str x, .int n=>R.bz (decide (-(2 ^ 63)<=n/\n < 2 ^ 63/\x.length*n.toNat<=sizeLine)) (.ok (.str (Txt.mul x n)))
 | _,_=> .no
theorem jq:lQ X (binaryOp .Mult) gI:=by
 intro pins s σ H B da db d x y v u I hb rx ry ra rb hg;unfold gI at hg;split at hg
 .obtain⟨h1,h2⟩:=R.ba hg;cases h2;have h1:=of_decide_eq_true h1;exact Ls pins s σ H x y v u _ I rx ry ⟨_,_,Rep.int.mp ra,Rep.int.mp rb,h1,aT.refl H,Rep.int.mpr rfl⟩
 .obtain⟨h1,h2⟩:=R.ba hg;cases h2;have h1:=of_decide_eq_true h1;exact Iy pins s σ H x y v u _ I rx ry ⟨_,_,Rep.str.mp ra,Rep.int.mp rb,mulOk_of h1.1 h1.2.1 h1.2.2,aT.refl H,Rep.str.mpr rfl⟩
 .cases hg
mutual
def toPy:D->PyData
 | .cX=> .none
 | .bl b=> .bool b
 | .int i=> .int i
 | .str x=> .str x
 | .lst ds=> .list (mD ds)
 | .tup ds=> .tuple (mD ds)
 | .dct _ _=> .dict []
def mD:List D->List PyData
 | []=>[]
 | d ::ds=>toPy d ::mD ds
end
mutual
def ik:D->Bool
 | .dct _ _=>false
 | .lst ds=>ku ds
 | .tup ds=>ku ds
 | _=>true
def ku:List D->Bool
 | []=>true
 | d ::ds=>ik d && ku ds
end
mutual
theorem Rep.reads{pins:WH}{s:Shared}{B:List Addr}(I:Inv X pins σ H s):∀{d:D} {v:V} {u:Value},ik d=true->Rep X.K B H d v->RelV v u->∃as,Reads s.heap u (toPy d) as
 | .cX,v,u,_,r,q=>by rw[Rep.cX.mp r] at q;cases q;unfold toPy;exact⟨_, .none⟩
 | .bl b,v,u,_,r,q=>by rw[Rep.bl.mp r] at q;cases q;unfold toPy;exact⟨_, .bool b⟩
 | .int i,v,u,_,r,q=>by rw[Rep.int.mp r] at q;obtain⟨t,rfl⟩:=q;unfold toPy;exact⟨_, .int i t⟩
 | .str x,v,u,_,r,q=>by rw[Rep.str.mp r] at q;obtain⟨t,rfl⟩:=q;unfold toPy;exact⟨_, .str x t⟩
 | .lst ds,v,u,hp,r,q=>by
   obtain⟨a,xs,rfl,l,rs⟩:=Rep.lst.mp r;cases q;obtain⟨its,rv,⟨o,n,e,hc,hd,he⟩,_⟩:=I.list l.sq;obtain⟨as,ra⟩:=az.reads I (by unfold ik at hp;exact hp) rs rv
   unfold toPy;exact⟨_, .list e hc he (by simpa using ra)⟩
 | .tup ds,v,u,hp,r,q=>by
   obtain⟨a,xs,rfl,l,rs⟩:=Rep.tup.mp r;cases q;obtain⟨its,rv,⟨o,e,hc,n,hd⟩,_⟩:=I.tuple l.sq;obtain⟨as,ra⟩:=az.reads I (by unfold ik at hp;exact hp) rs rv
   unfold toPy;exact⟨_, .tuple e hc hd (by simpa using ra)⟩
 | .dct _ _,v,u,hp,r,q=>by unfold ik at hp;cases hp
theorem az.reads{pins:WH}{s:Shared}{B:List Addr}(I:Inv X pins σ H s):∀{ds:List D} {vs:List V} {us:List Value},ku ds=true->az X.K B H ds vs->Vals vs us->∃as,ReadsAll s.heap us (mD ds) as
 | [],vs,us,_,r,q=>by unfold az at r;subst r;cases q;unfold mD;exact⟨_, .nil⟩
 | d ::ds,vs,us,hp,r,q=>by
   obtain⟨x,xs,rfl,r1,r2⟩:=r.cn;cases q with
   | cons q1 q2=>
     unfold ku at hp;obtain⟨h1,h2⟩:=Bool.and_eq_true_iff.mp hp;obtain⟨as,a1⟩:=Rep.reads I h1 r1 q1;obtain⟨bs,a2⟩:=az.reads I h2 r2 q2;unfold mD;exact⟨_, .cons a1 a2⟩
end
def Ki:D->D->R Bool
 | .int i, .int j=> .ok (decide (i=j))
 | .str x, .str y=> .ok (decide (x=y))
 | .bl a, .bl b=> .ok (decide (a=b))
 | d,e=>R.bz (ik d && ik e && SeqAt.shaped (toPy d) && SeqAt.shaped (toPy e)) (.ok (PyData.eqv (toPy d) (toPy e)))
def qB(d e:D):R D:=(Ki d e).bind fun b=> .ok (.bl b)
def BN(d e:D):R D:=(Ki d e).bind fun b=> .ok (.bl (!b))
theorem ng(hu:X.A.units+64 < cLine):lQ X (compareOp .Eq) qB:=by
 intro pins s σ H B da db d x y v u I hb rx ry ra rb hg;obtain⟨b,h1,h2⟩:=R.ai hg;cases h2;unfold Ki at h1;split at h1
 .cases h1;rename_i i j;have:=ED pins s σ H x y v u (fun z H'=>aT H H'/\Rep X.K B H' (.bl (decide (i=j))) z) I rx ry
  rw[Rep.int.mp ra,Rep.int.mp rb] at this;refine this ⟨rfl,aT.refl H,Rep.bl.mpr ?_⟩;simp [V.int.injEq]
 .cases h1;rename_i i j;have:=ED pins s σ H x y v u (fun z H'=>aT H H'/\Rep X.K B H' (.bl (decide (i=j))) z) I rx ry
  rw[Rep.str.mp ra,Rep.str.mp rb] at this;refine this ⟨rfl,aT.refl H,Rep.bl.mpr ?_⟩;simp [V.str.injEq]
 .cases h1;rename_i i j;have:=ED pins s σ H x y v u (fun z H'=>aT H H'/\Rep X.K B H' (.bl (decide (i=j))) z) I rx ry
  rw[Rep.bl.mp ra,Rep.bl.mp rb] at this;refine this ⟨rfl,aT.refl H,Rep.bl.mpr ?_⟩;simp [V.bl.injEq]
 .obtain⟨h3,h4⟩:=R.ba h1;cases h4;simp only[Bool.and_eq_true] at h3;obtain⟨⟨⟨p1,p2⟩,s1⟩,s2⟩:=h3;obtain⟨as,r1⟩:=ra.reads I p1 rx;obtain⟨bs,r2⟩:=rb.reads I p2 ry;exact eq_dataH r1 r2 s1 s2 hu ⟨.bl _,H,I,rfl,aT.refl H,Rep.bl.mpr rfl⟩
theorem D1(hu:X.A.units+64 < cLine):lQ X (compareOp .NotEq) BN:=by
 intro pins s σ H B da db d x y v u I hb rx ry ra rb hg;obtain⟨b,h1,h2⟩:=R.ai hg;cases h2;unfold Ki at h1;split at h1
 .cases h1;rename_i i j;have:=GN pins s σ H x y v u (fun z H'=>aT H H'/\Rep X.K B H' (.bl (!decide (i=j))) z) I rx ry
  rw[Rep.int.mp ra,Rep.int.mp rb] at this;refine this ⟨rfl,aT.refl H,Rep.bl.mpr ?_⟩;simp [V.int.injEq]
 .cases h1;rename_i i j;have:=GN pins s σ H x y v u (fun z H'=>aT H H'/\Rep X.K B H' (.bl (!decide (i=j))) z) I rx ry
  rw[Rep.str.mp ra,Rep.str.mp rb] at this;refine this ⟨rfl,aT.refl H,Rep.bl.mpr ?_⟩;simp [V.str.injEq]
 .cases h1;rename_i i j;have:=GN pins s σ H x y v u (fun z H'=>aT H H'/\Rep X.K B H' (.bl (!decide (i=j))) z) I rx ry
  rw[Rep.bl.mp ra,Rep.bl.mp rb] at this;refine this ⟨rfl,aT.refl H,Rep.bl.mpr ?_⟩;simp [V.bl.injEq]
 .obtain⟨h3,h4⟩:=R.ba h1;cases h4;simp only[Bool.and_eq_true] at h3;obtain⟨⟨⟨p1,p2⟩,s1⟩,s2⟩:=h3;obtain⟨as,r1⟩:=ra.reads I p1 rx;obtain⟨bs,r2⟩:=rb.reads I p2 ry;exact ne_dataH r1 r2 s1 s2 hu ⟨.bl _,H,I,rfl,aT.refl H,Rep.bl.mpr rfl⟩
def strs?:List D->Option (List Str)
 | []=>some []
 | .str x ::ds=>(strs? ds).map (x ::·)
 | _ ::_=>none
theorem lx{K:W.Frag}{B:List Addr}:∀{ds:List D} {xs:List V} {ss:List Str},az K B H ds xs->strs? ds=some ss->xs=ss.map V.str
 | [],xs,ss,r,h=>by unfold az at r;subst r;cases h;rfl
 | d ::ds,xs,ss,r,h=>by
   obtain⟨x,r',rfl,r1,r2⟩:=r.cn;cases d with
   | str z=>
     unfold strs? at h;cases e:strs? ds with
     | none=>rw [e] at h;cases h
     | some tt=>
       rw[e] at h;cases h;rw[Rep.str.mp r1,lx r2 e];rfl
   | _=>cases h
def ints?:List D->Option (List Int)
 | []=>some []
 | .int x ::ds=>(ints? ds).map (x ::·)
 | _ ::_=>none
theorem gm{K:W.Frag}{B:List Addr}:∀{ds:List D} {xs:List V} {ss:List Int},az K B H ds xs->ints? ds=some ss->xs=ss.map V.int
 | [],xs,ss,r,h=>by unfold az at r;subst r;cases h;rfl
 | d ::ds,xs,ss,r,h=>by
   obtain⟨x,r',rfl,r1,r2⟩:=r.cn;cases d with
   | int z=>
     unfold ints? at h;cases e:ints? ds with
     | none=>rw [e] at h;cases h
     | some tt=>
       rw[e] at h;cases h;rw[Rep.int.mp r1,gm r2 e];rfl
   | _=>cases h
def inD(d e:D):R Bool:=match d,e with
 | .str x, .lst ds=>(match strs? ds with | some ss=> .ok (ss.contains x) | none=> .no)
 | .str x, .tup ds=>(match strs? ds with | some ss=> .ok (ss.contains x) | none=> .no)
 | .str x, .str y=> .ok (!(Builtin.Str.occurrences y x 0 y.length 1).isEmpty)
 | .int x, .lst ds=>(match ints? ds with | some ss=> .ok (ss.contains x) | none=> .no)
 | .int x, .tup ds=>(match ints? ds with | some ss=> .ok (ss.contains x) | none=> .no)
 | _,_=> .no
def Pn(d e:D):R D:=(inD d e).bind fun b=> .ok (.bl b)
def Ad(d e:D):R D:=(inD d e).bind fun b=> .ok (.bl (!b))
theorem uK(x:Str):∀ss:List Str,J6 (.str x) (ss.map V.str)=ss.contains x
 | []=>rfl
 | y ::ss=>by
   unfold J6;rw[List.map_cons,List.any_cons];have ih:=uK x ss;unfold J6 at ih;rw[ih];show(y==x || ss.contains x)=_
   rw[List.contains_cons];congr 1;exact Bool.eq_iff_iff.mpr ⟨fun h=>by simpa using(beq_iff_eq.mp h).symm,fun h=>by simpa using(beq_iff_eq.mp h).symm⟩
theorem tH(x:Int):∀ss:List Int,J6 (.int x) (ss.map V.int)=ss.contains x
 | []=>rfl
 | y ::ss=>by
   unfold J6;rw[List.map_cons,List.any_cons];have ih:=tH x ss;unfold J6 at ih;rw[ih];show(y==x || ss.contains x)=_
   rw[List.contains_cons];congr 1;exact Bool.eq_iff_iff.mpr ⟨fun h=>by simpa using(beq_iff_eq.mp h).symm,fun h=>by simpa using(beq_iff_eq.mp h).symm⟩
theorem vY(ss:List Int):(ss.map V.int).all mN=true:=by
 rw[List.all_map];simp [List.all_eq_true,mN]
theorem wo(ss:List Str):(ss.map V.str).all mN=true:=by
 rw[List.all_map];simp [List.all_eq_true,mN]
theorem EE{neg:Bool}{op:CmpOp}{g:D->D->R D}(h1:mT X (compareOp op) (Qv X.K neg))(h2:mT X (compareOp op) (fun x y H Q=>∃i j,x= .str i/\y= .str j/\Q (.bl (if neg then !(!(Builtin.Str.occurrences j i 0 j.length 1).isEmpty) else(!(Builtin.Str.occurrences j i 0 j.length 1).isEmpty))) H))
 (hg:∀d e r,g d e= .ok r->∃b,inD d e= .ok b/\r= .bl (if neg then !b else b)):lQ X (compareOp op) g:=by
 intro pins s σ H B da db d x y v u I hb rx ry ra rb hg';obtain⟨b,hi,rfl⟩:=hg da db d hg';unfold inD at hi;split at hi
 .rename_i z ds;split at hi
  .rename_i ss e;cases hi;obtain⟨a,xs,rfl,l,rs⟩:=Rep.lst.mp rb;refine h1 pins s σ H x _ v u _ I rx ry ⟨a,xs,rfl, .inl l.sq,by rw[Rep.str.mp ra];rfl,by rw[lx rs e];exact wo _,aT.refl H,Rep.bl.mpr ?_⟩
   rw[lx rs e,Rep.str.mp ra,uK]
  .cases hi
 .rename_i z ds;split at hi
  .rename_i ss e;cases hi;obtain⟨a,xs,rfl,l,rs⟩:=Rep.tup.mp rb;refine h1 pins s σ H x _ v u _ I rx ry ⟨a,xs,rfl, .inr l.sq,by rw[Rep.str.mp ra];rfl,by rw[lx rs e];exact wo _,aT.refl H,Rep.bl.mpr ?_⟩
   rw[lx rs e,Rep.str.mp ra,uK]
  .cases hi
 .cases hi;exact h2 pins s σ H x y v u _ I rx ry ⟨_,_,Rep.str.mp ra,Rep.str.mp rb,aT.refl H,Rep.bl.mpr rfl⟩
 .rename_i z ds;split at hi
  .rename_i ss e;cases hi;obtain⟨a,xs,rfl,l,rs⟩:=Rep.lst.mp rb;refine h1 pins s σ H x _ v u _ I rx ry ⟨a,xs,rfl, .inl l.sq,by rw[Rep.int.mp ra];rfl,by rw[gm rs e];exact vY _,aT.refl H,Rep.bl.mpr ?_⟩
   rw[gm rs e,Rep.int.mp ra,tH]
  .cases hi
 .rename_i z ds;split at hi
  .rename_i ss e;cases hi;obtain⟨a,xs,rfl,l,rs⟩:=Rep.tup.mp rb;refine h1 pins s σ H x _ v u _ I rx ry ⟨a,xs,rfl, .inr l.sq,by rw[Rep.int.mp ra];rfl,by rw[gm rs e];exact vY _,aT.refl H,Rep.bl.mpr ?_⟩
   rw[gm rs e,Rep.int.mp ra,tH]
  .cases hi
 .cases hi
theorem OL:lQ X (compareOp .In) Pn:=EE (neg:=false) D5 D6 fun d e r h=>by
 obtain⟨b,h1,h2⟩:=R.ai h;cases h2;exact⟨b,h1,rfl⟩
theorem JH:lQ X (compareOp .NotIn) Ad:=EE (neg:=true) xM xD fun d e r h=>by
 obtain⟨b,h1,h2⟩:=R.ai h;cases h2;exact⟨b,h1,rfl⟩
def cm(d e:D):R D:=match d,e with
 | .lst ds, .int i=>(match u_ ds i with | some x=> .ok x | none=> .no)
 | .tup ds, .int i=>(match u_ ds i with | some x=> .ok x | none=> .no)
 | .str x, .int i=>R.bz (decide (x.length<=sizeLine)) (match u_ x.cps.toList i with | some c=> .ok (.str ⟨#[c]⟩) | none=> .no)
 | _,_=> .no
theorem p8{K:W.Frag}{B:List Addr}{ds:List D}{xs:List V}{i:Int}{d:D}(r:az K B H ds xs)(h:u_ ds i=some d):∃x,u_ xs i=some x/\Rep K B H d x:=by
 unfold u_ at h ⊢;rw[<-r.length];cases e:BD ds.length i with
 | none=>rw [e] at h;cases h
 | some j=>
   rw[e] at h;exact r.get h
theorem NU(ha:PD X a fa)(hb:PD X b fb)(hs:tE b):PD X (.Subscript a b pos) (e2 cm fa fb):=by
 refine(Kf (r:=QS X.K) Et ha hb hs).imp fun σ H Q ⟨Z,B,δ,d,E,hf,q⟩=>?_
 obtain⟨d1,h1,h2⟩:=R.ai hf;obtain⟨d2,h3,h4⟩:=R.ai h2;refine⟨Z,B,δ,d1,E,h1,fun v1 H1 s1 r1=>⟨Z,B,δ,d2,E.same s1,h3,fun v2 H2 s2 r2=>?_⟩⟩
 have qz:=r1.same s2;unfold cm at h4;split at h4
 .split at h4
  .rename_i e;cases h4;obtain⟨p,xs,rfl,l,rs⟩:=Rep.lst.mp qz;obtain⟨y,e1,e2⟩:=p8 rs e;exact .inl ⟨p,xs,_,y,rfl,Rep.int.mp r2,l.sq,e1,q y H2 (s1.trans s2) e2⟩
  .cases h4
 .split at h4
  .rename_i e;cases h4;obtain⟨p,xs,rfl,l,rs⟩:=Rep.tup.mp qz;obtain⟨y,e1,e2⟩:=p8 rs e;exact .inr (.inl ⟨p,xs,_,y,rfl,Rep.int.mp r2,l.sq,e1,q y H2 (s1.trans s2) e2⟩)
  .cases h4
 .obtain⟨hl,h5⟩:=R.ba h4;split at h5
  .rename_i e;cases h5;exact .inr (.inr ⟨_,_,_,Rep.str.mp qz,Rep.int.mp r2,of_decide_eq_true hl,e,q _ H2 (s1.trans s2) (Rep.str.mpr rfl)⟩)
  .cases h5
 .cases h4
abbrev FO:=au->R (Option Int)
def Uj(K:W.Frag)(f:FO):TO:=fun σ H Q=>∃Z B δ o,d_ K Z B H σ δ/\f δ= .ok o/\∀H',aT H H'->Q o H'
theorem PO.imp{X:Cx}{e:Option Expr}{t t':TO}(h:PO X e t)(w:∀σ H Q,t' σ H Q->t σ H Q):PO X e t':=fun pins s σ H Q I hq=>h pins s σ H Q I (w σ H Q hq)
abbrev PP(X:Cx)(e:Option Expr)(f:FO):Prop:=PO X e (Uj X.K f)
def Fg:FO:=fun _=> .ok none
def rT(f:FD):FO:=fun δ=>(f δ).bind fun d=>match d with | .int i=> .ok (some i) | _=> .no
theorem Jj:PP X none Fg:=Hx.imp fun σ H Q ⟨Z,B,δ,o,E,hf,q⟩=>by cases hf;exact q H (aT.refl H)
theorem Jm(h:PD X e f):PP X (some e) (rT f):=(Ju h).imp fun σ H Q ⟨Z,B,δ,o,E,hf,q⟩=>by
 obtain⟨d,h1,h2⟩:=R.ai hf;cases d with
 | int i=>cases h2;exact⟨Z,B,δ, .int i,E,h1,fun v H1 s1 r1=>⟨i,Rep.int.mp r1,q H1 s1⟩⟩
 | _=>cases h2
theorem Lp:Ky X (fun x lo hi H Q=>∃z,x= .str z/\z.length<=sizeLine/\Q (.str (Txt.slice z lo hi)) H):=by
 intro pins s σ H x v vl vu lo hi sl Q I rx hs pl pu h;obtain⟨z,rfl,hz,q⟩:=h;obtain⟨t,rfl⟩:=rx;refine⟨"str",_,F.slot_str_getitem.lookup,typeIs_str _ _ _,?_⟩;have fin:∀t' k,EP X pins σ Q (.str (Txt.slice z lo hi) t') {s with toks:=k}:=fun t' k=>⟨.str _,H,I.tok _,⟨_,rfl⟩,q⟩
 obtain⟨o,ho,hc,hd⟩:=hs;cases pl with
 | none=>
   cases pu with
   | none=>exact wpAny_getItem_str_slice (l:=none) (u:=none) (st:=none) ⟨o,ho,hc,hd⟩ rfl (post_val_or_str ⟨Nat.le_trans (Txt.slice_le z _ _) hz,fin⟩)
   | int j u=>exact wpAny_getItem_str_slice (l:=none) (u:=some (j,u)) (st:=none) ⟨o,ho,hc,hd⟩ rfl (post_val_or_str ⟨Nat.le_trans (Txt.slice_le z _ _) hz,fin⟩)
 | int i t1=>
   cases pu with
   | none=>exact wpAny_getItem_str_slice (l:=some (i,t1)) (u:=none) (st:=none) ⟨o,ho,hc,hd⟩ rfl (post_val_or_str ⟨Nat.le_trans (Txt.slice_le z _ _) hz,fin⟩)
   | int j u=>exact wpAny_getItem_str_slice (l:=some (i,t1)) (u:=some (j,u)) (st:=none) ⟨o,ho,hc,hd⟩ rfl (post_val_or_str ⟨Nat.le_trans (Txt.slice_le z _ _) hz,fin⟩)
def cutD{α:Type}(xs:List α)(lo hi:Option Int):List α:=(xs.drop (HT.tq xs.length 0 lo)).take (HT.tq xs.length xs.length hi - HT.tq xs.length 0 lo)
def MK(d:D)(lo hi:Option Int):R D:=match d with
 | .str x=>R.bz (decide (x.length<=sizeLine)) (.ok (.str (Txt.slice x lo hi)))
 | .lst ds=> .ok (.lst (cutD ds lo hi))
 | _=> .no
theorem Gk{K:W.Frag}{B:List Addr}{ds:List D}{xs:List V}(r:az K B H ds xs)(lo hi:Option Int):az K B H (cutD ds lo hi) (z0 xs lo hi):=by
 unfold cutD z0;rw[<-r.length];exact(r.drop _).take _
def MO(f:FD)(fl fh:FO):FD:=fun δ=>(f δ).bind fun d=>(fl δ).bind fun lo=>(fh δ).bind fun hi=>MK d lo hi
theorem M8{lo hi:Option Expr}{fl fh:FO}(he:PD X e f)(hl:PP X lo fl)(hh:PP X hi fh):PD X (.Subscript e (.Slice lo hi none p2) pos) (MO f fl fh):=by
 refine(FL (Lp.or JK) he hl hh).imp fun σ H Q ⟨Z,B,δ,d,E,hf,q⟩=>?_
 obtain⟨d1,h1,h2⟩:=R.ai hf;obtain⟨l,h3,h4⟩:=R.ai h2;obtain⟨h,h5,h6⟩:=R.ai h4;refine⟨Z,B,δ,d1,E,h1,fun v1 H1 s1 r1=>⟨Z,B,δ,l,E.same s1,h3,fun H2 s2=>⟨Z,B,δ,h,(E.same s1).same s2,h5,fun H3 s3=>?_⟩⟩⟩
 have sA:aT H H3:=s1.trans (s2.trans s3);have qz:=r1.same (s2.trans s3);unfold MK at h6;split at h6
 .obtain⟨hz,h7⟩:=R.ba h6;cases h7;exact .inl ⟨_,Rep.str.mp qz,of_decide_eq_true hz,q _ H3 sA (Rep.str.mpr rfl)⟩
 .cases h6;obtain⟨a,xs,rfl,ls,rs⟩:=Rep.lst.mp qz;refine .inr ⟨a,xs,rfl,ls.sq,fun p hp=>q _ _ (sA.trans (aX hp)) (Rep.lst.mpr ⟨p,_,rfl, .Eu aY fun ha=>?_,(Gk rs l h).same (aX hp)⟩)⟩
  obtain⟨o,ho⟩:=(E.same sA).bs p ha;rw[hp] at ho;cases ho
 .cases h6
end
end L2
end
section
namespace L2
open PySem PySem.Spec PyProof.Rows
section
variable {X:Cx}
theorem az.one{K:W.Frag}{B:List Addr}{d:D}{xs:List V}(h:az K B H [d] xs):∃x,xs=[x]/\Rep K B H d x:=by
 obtain⟨x,r,rfl,h1,h2⟩:=h.cn;unfold az at h2;subst h2;exact⟨x,rfl,h1⟩
theorem az.two{K:W.Frag}{B:List Addr}{d e:D}{xs:List V}(h:az K B H [d,e] xs):∃x y,xs=[x,y]/\Rep K B H d x/\Rep K B H e y:=by
 obtain⟨x,r,rfl,h1,h2⟩:=h.cn;obtain⟨y,rfl,h3⟩:=h2.one;exact⟨x,y,rfl,h1,h3⟩
def fA:List D->R D
 | [.str x]=>R.bz (decide (x.length<=sizeLine)) (.ok (.int x.length))
 | [.lst ds]=> .ok (.int ds.length)
 | [.tup ds]=> .ok (.int ds.length)
 | _=> .no
theorem fP:h_ X (.builtin "len") fA:=h_.of FI fun B H ds d xs Q _ rs hg q=>by
 unfold fA at hg;split at hg
 .obtain⟨h1,h2⟩:=R.ba hg;cases h2;obtain⟨x,rfl,r⟩:=rs.one;exact⟨x,_,rfl,by rw[Rep.str.mp r];exact⟨of_decide_eq_true h1,rfl⟩,q _ H (aT.refl H) (Rep.int.mpr rfl)⟩
 .cases hg;obtain⟨x,rfl,r⟩:=rs.one;obtain⟨a,ys,rfl,l,r⟩:=Rep.lst.mp r;exact⟨_,_,rfl, .inl ⟨ys,l.sq,rfl⟩,q _ H (aT.refl H) (Rep.int.mpr (by rw[r.length]))⟩
 .cases hg;obtain⟨x,rfl,r⟩:=rs.one;obtain⟨a,ys,rfl,l,r⟩:=Rep.tup.mp r;exact⟨_,_,rfl, .inr ⟨ys,l.sq,rfl⟩,q _ H (aT.refl H) (Rep.int.mpr (by rw[r.length]))⟩
 .cases hg
def cInt:List D->R D
 | [.int i]=> .ok (.int i)
 | [.bl b]=> .ok (.int (if b then 1 else 0))
 | _=> .no
def cStr:List D->R D
 | [.int i]=>R.bz (decide (i.natAbs.log2 < 1920)) (.ok (.str (toString i)))
 | _=> .no
def Ft:List D->R D
 | [.int i, .int j]=> .ok (.int (if j < i then j else i))
 | _=> .no
theorem NH(hc:X.calm=true):h_ X (.builtin "min") Ft:=h_.of (Dr hc) fun B H ds d xs Q _ rs hg q=>by
 unfold Ft at hg;split at hg
 .cases hg;obtain⟨x,y,rfl,r1,r2⟩:=rs.two;exact⟨_,_,by rw[Rep.int.mp r1,Rep.int.mp r2],q _ H (aT.refl H) (Rep.int.mpr rfl)⟩
 .cases hg
def Qo:List D->R D
 | [.int i, .int j]=> .ok (.int (if j > i then j else i))
 | _=> .no
def ip:List D->R D
 | [.lst ds]=> .ok (.tup ds)
 | [.tup ds]=> .ok (.tup ds)
 | _=> .no
theorem ki:h_ X (.type "tuple") ip:=h_.of vz fun B H ds d xs Q hb rs hg q=>by
 unfold ip at hg;split at hg
 .cases hg;obtain⟨x,rfl,r⟩:=rs.one;obtain⟨a,ys,rfl,l,r⟩:=Rep.lst.mp r;refine⟨a,ys,rfl, .inl ⟨l.sq,fun p hp=>q _ _ (aX hp) (Rep.tup.mpr ⟨p,ys,rfl, .inl ⟨fun ha=>?_, .inl aY⟩,r.same (aX hp)⟩)⟩⟩
  obtain⟨o,ho⟩:=hb p ha;rw[hp] at ho;cases ho
 .cases hg;obtain⟨x,rfl,r⟩:=rs.one;have r0:=r;obtain⟨a,ys,rfl,l,r⟩:=Rep.tup.mp r;exact⟨a,ys,rfl, .inr ⟨l.sq,q _ H (aT.refl H) r0⟩⟩
 .cases hg
def SA:List D->R D
 | [.lst ds]=> .ok (.lst ds)
 | [.tup ds]=> .ok (.lst ds)
 | _=> .no
def cAbs:List D->R D
 | [.int i]=> .ok (.int (if i < 0 then -i else i))
 | _=> .no
def Lh:List D->R D
 | [.lst ds]=>(match ints? ds with | some ns=> .ok (.int ns.sum) | none=> .no)
 | _=> .no
theorem iG:∀{ns:List Int} {us:List Value},Vals (ns.map V.int) us->∃l:List (Int × Tok),us=l.map (fun p=>Value.int p.1 p.2)/\l.map (·.1)=ns
 | [],_, .nil=>⟨[],rfl,rfl⟩
 | n ::ns,_, .cons r t=>by
   obtain⟨l,rfl,e⟩:=iG t;obtain⟨tk,rfl⟩:=r;exact⟨(n,tk) ::l,rfl,by rw[List.map_cons,e]⟩
theorem Oa(hc:X.calm=true):h_ X (.builtin "sum") Lh:=by
 intro pins s σ H B ds d xs us I hb rx rs hg;unfold Lh at hg;split at hg
 .split at hg
  .rename_i es ns e;cases hg;obtain⟨x,rfl,r⟩:=rs.one;obtain⟨a,ys,rfl,l,r⟩:=Rep.lst.mp r;obtain⟨u,rfl,ru⟩:=vals1 rx;cases ru;obtain⟨its,n,rv,e1,hz⟩:=I.MF l;rw[gm r e] at rv;obtain⟨ps,rfl,rfl⟩:=iG rv;have hl:s.heap.IsList a (intItems ps.toArray):=⟨_,e1,rfl,n,by simp [intItems]⟩
   refine sum_intListG (I.ok.hd hc) hl fun h' tk t' k=>⟨.int _,H,I.kept k,⟨t',rfl⟩,aT.refl H,Rep.int.mpr ?_⟩
   rw[preSum_eq,List.take_of_length_le (by simp)]
  .cases hg
 .cases hg
def tyName:D->String
 | .cX=>"NoneType" | .bl _=>"bool" | .int _=>"int" | .str _=>"str" | .lst _=>"list" | .tup _=>"tuple" | .dct _ _=>"dict"
def UJ(T:String)(f:FD):FD:=fun δ=>(f δ).bind fun d=>R.bz (tyName d==T && d.atom) (.ok (.bl true))
def Wt(X:Cx)(id:String)(g:D->List D->R D):Prop:=
 ∀(pins:WH) (s:Shared) (σ:St) (H:Hp) (B:List Addr) (da d:D) (ds:List D) (x:V) (xs:List V) (v:Value) (us:List Value),Inv X pins σ H s->(∀a∈B,∃o,H a=some o)->RelV x v->Vals xs us->Rep X.K B H da x->az X.K B H ds xs->g da ds= .ok d->
  wpAny (model X.prog X.w) X.A (call (.builtin id) (v ::us)) (EP X pins σ fun z H'=>aT H H'/\Rep X.K B H' d z) X.xe s
def Wn(T:String)(g:D->List D->R D)(f:FD)(fs:au->R (List D)):FD:=fun δ=>(f δ).bind fun d=>R.bz (tyName d==T && (d.atom || T=="list")) ((fs δ).bind fun ds=>g d ds)
def Sb(d:D)(ds:List D):R D:=match d,ds with
 | .str sep,[.lst es]=>(match strs? es with | some ss=>R.bz (JoinOk sep ss) (.ok (.str (Str.join sep ss))) | none=> .no)
 | _,_=> .no
abbrev PJ(X:Cx)(es:List Expr)(f:au->R (List Str)):Prop:=
 ∀(pins:WH) (s:Shared) (σ:St) (H:Hp) (Z B:List Addr) (δ:au) (acc:Str) (ss:List Str) (Q:VK),Inv X pins σ H s->d_ X.K Z B H σ δ->f δ= .ok ss->(ss.foldl (·++·) acc).length<=sizeLine->(∀H',aT H H'->Q (.str (ss.foldl (·++·) acc)) H')->
  wpAny (model X.prog X.w) X.A (joinParts acc (evalEach es X.env)) (EP X pins σ Q) X.xe s
def Um:au->R (List Str):=fun _=> .ok []
def SJ(f:FD)(g:au->R (List Str)):au->R (List Str):=fun δ=>(f δ).bind fun d=>match d with | .str x=>(g δ).bind fun ss=> .ok (x ::ss) | _=> .no
def Pb(g:au->R (List Str)):FD:=fun δ=>(g δ).bind fun ss=>R.bz (decide ((ss.foldl (·++·) Str.empty).length<=sizeLine)) (.ok (.str (ss.foldl (·++·) Str.empty)))
def QR:D->R D
 | .str x=>R.bz (decide (x.length<=sizeLine)) (.ok (.str x))
 | .int i=>R.bz (decide (i.natAbs.log2 < 1920)) (.ok (.str (toString i)))
 | _=> .no
def T7(f:FD):FD:=fun δ=>(f δ).bind QR
def N6:List (D × D)->Str->R (Option D)
 | [],_=> .ok none
 | (.str y,d) ::r,x=>(N6 r x).bind fun o=> .ok (match o with | some e=>some e | none=>if y=x then some d else none)
 | _ ::_,_=> .no
def NR(x:Str):List D:=x.cps.toList.map fun c=> .str ⟨#[c]⟩
def V4(x:Str):It:=⟨fun i _=>i < x.cps.size,fun i H v H'=>H'=H/\∃c,x.cps[i]? =some c/\v= .str ⟨#[c]⟩,fun i _=>x.cps.size<=i⟩
def R5(f:FD):au->R (List D):=fun δ=>(f δ).bind fun d=>match d with | .str x=> .ok (NR x) | _=> .no
def UY(K:W.Frag)(a:Addr):It:=
 ⟨fun i H=>∃xs x,o8 K H a xs/\xs[i]? =some x,fun i H v H'=>∃p x,H p=none/\v= .ref p/\(∀xs,o8 K H a xs->xs[i]? =some x)/\H'=upd H p (.tup [.int i,x]),fun i H=>∃xs,o8 K H a xs/\xs.length<=i⟩
theorem CS{K:W.Frag}{k:Nat}(a e it:Addr)(MY:e≠it):Turn P w K (.Tuple elts k pos) (UY K a) [e,it] e (fun i h=>(∃old,IsEnum h e it ((i:Nat):Int) old)/\h.IsListIter it a i) where
 mem:=by simp
 obj:=fun i h st b hb=>by
  obtain⟨⟨old,he⟩,o,ho,c,d⟩:=st;rcases List.mem_cons.mp hb with rfl | hb
  .exact⟨_,he,fun v z=>by cases z⟩
  .have e:b=it:=by simpa using hb
   subst e;exact⟨o,ho,fun v z=>by rw[d] at z;cases z⟩
 keep:=fun i h h' st k=>by
  obtain⟨⟨old,he⟩,hi⟩:=st;exact⟨⟨old,k e (by simp) _ he⟩,hi.at fun o x=>k it (by simp) o x⟩
 item:=by
  intro X hP hw hK hc i pins s σ H E I hf st hg;subst hP hw hK;obtain⟨xs,x,hq,hx⟩:=hg;obtain⟨its,rv,p,hz⟩:=I.list hq;obtain⟨u,hu,ru⟩:=rv.get hx;obtain⟨⟨old,he⟩,hit⟩:=st;obtain⟨f0,f1,f2,f3,f4,f5⟩:=hf e (by simp)
  obtain⟨g0,g1,g2,g3,g4,g5⟩:=hf it (by simp)
  refine wpAny_pyNext_enum_item he hit p.isList (x:=u) (by simpa using hu) MY fun iq Hl Bi G6 oU wO=>⟨_,rfl,?_⟩
  refine wpAny_letOwnedTupleGo_enum Hl fun fV Hd cR=>?_
  replace cR:Heap.SameBut e iq fV:=cR
  have hel:e < s.heap.objs.size:=Heap.lt_size he;have zR:fV.get? s.heap.objs.size=some {cls:= .type "tuple",data:= .seq #[.int i s.toks,u]}:=(cR.2 _ (Nat.ne_of_gt hel)).trans G6;have kk:∀b o,b≠e->b≠it->s.heap.get? b=some o->fV.get? b=some o:=fun b o h1 h2 q=>(cR.2 b h1).trans (wO b o h1 h2 q)
  have hn:H s.heap.objs.size=none:=I.fresh;have sm:aT H (upd H s.heap.objs.size (.tup [.int i,x])):=aX hn;have nit:∀b o,H b=some o->b≠e/\b≠it:=fun b o q=>⟨fun z=>(by rw[z,f0] at q;cases q),fun z=>(by rw[z,g0] at q;cases q)⟩
  have hok:oq X.prog X.w (upd H s.heap.objs.size (.tup [.int i,x])) fV:=fun b ob q=>by
   by_cases hb:b=s.heap.objs.size
   .subst hb;rw[aY] at q;cases q;exact⟨by show 2<=sizeLine;decide,[.int i s.toks,u], .cons ⟨_,rfl⟩ (.cons ru .nil),⟨_,zR,rfl,_,rfl⟩⟩
   .rw [bg hb] at q;refine(I.hok b ob q).xJ (fun c v hc z=>?_) (fun c z=>sm c _ z) fun c ys z=>sm c _ z
    rcases hc with rfl | hc
    .exact kk c v (nit c _ q).1 (nit c _ q).2 z
    .exact kk c v (nit c _ hc).1 (nit c _ hc).2 z
  have nch:∀b,b ∉ [e,it]->b≠e/\b≠it:=fun b hb=>⟨fun z=>hb (by simp [z]),fun z=>hb (by simp [z])⟩
  have I2:Inv X pins σ (upd H s.heap.objs.size (.tup [.int i,x])) {s with heap:=fV,toks:=s.toks+1}:=by
   refine I.step (g':=s.gens) (d':=s.drawn) (ch:=[e,it]) (fun b hb=>?_) (fun b o _ _ hb q _=>kk b o (nch b hb).1 (nch b hb).2 q) (fun b o _ _ hb q _=>⟨o.slots,kk b o (nch b hb).1 (nch b hb).2 q⟩)
    (fun b o hb q n=>by rw[bg (Nat.ne_of_lt (Heap.lt_size q))];exact n) (fun b o hb q=>⟨o,kk b o (nch b hb).1 (nch b hb).2 q⟩) (fun b ys z=>sm b _ z) (fun b o u z=>sm b _ z) (fun b ps z=>⟨#[],by rw[sm b _ z];simp⟩) (fun m hm=>?_) hok I.bare
   .rcases List.mem_cons.mp hb with rfl | hb
    .exact⟨f3,f1,f4,f5⟩
    .have z:b=it:=by simpa using hb
     subst z;exact⟨g3,g1,g4,g5⟩
   .obtain⟨o,es,ep,ho,r⟩:=hm;exact⟨o,es,ep,kk _ o (Ne.symm f1) (Ne.symm g1) ho,r⟩
  refine⟨.ref s.heap.objs.size,_,I2,rfl,⟨s.heap.objs.size,x,hn,rfl,fun ys hy=>(by rw[I.qb hy hq];exact hx),rfl⟩,⟨⟨_,by simpa using Hd⟩,Bi.at fun o q=>(cR.2 it (Ne.symm MY)).trans q⟩,fun b hb=>?_⟩
  rcases List.mem_cons.mp hb with rfl | hb
  .rw [bg (Nat.ne_of_lt hel)];exact f0
  .have z:b=it:=by simpa using hb
   subst z;obtain⟨o,ho,_⟩:=hit;rw[bg (Nat.ne_of_lt (Heap.lt_size ho))];exact g0
 done:=by
  intro X hP hw hK hc i pins s σ H E I hf st hg;subst hP hw hK;obtain⟨xs,hq,hx⟩:=hg;obtain⟨its,rv,p,hz⟩:=I.list hq;obtain⟨⟨old,he⟩,hit⟩:=st;obtain⟨g0,g1,g2,g3,g4,g5⟩:=hf it (by simp)
  have hl:=rv.length;exact wpAny_pyNext_enum_end (I.ok.hd hc) he hit p.isList (by simp;omega) fun h' eb=>⟨rfl,I.turned (t':=s.toks) (fun b o hb q=>eb b o hb q) g0 g1 g3 g4 g5⟩
 self:=fun A i s Q E st h=>let⟨⟨_,he⟩,_⟩:=st;wpAny_pyIter_enum he h
def dG(ds:List D):List D:=ds.zipIdx.map fun p=> .tup [.int p.2,p.1]
def jh(f:FD):au->R (List D):=fun δ=>(f δ).bind fun d=>match d with | .lst ds=> .ok (dG ds) | _=> .no
theorem yO{elts:List Expr}{k:Nat}{vq:Pos}{p pos:Pos}(h:PD X a f)(hg:Gl X "enumerate")(hm:X.mg "enumerate"=none)(hs:starEach [a] X.env=[(false,eval a X.env)]:=by rfl):Jp X (.Tuple elts k vq) (.Call (.Name "enumerate" p) [a] [] pos) (jh f):=by
 intro pins s σ H RR I ⟨Z,B,δ,ds,E,hf,q⟩;obtain⟨d,h1,h2⟩:=R.ai hf;have hA:=c9 h fZ hs pos pins s σ H (fun vs H1=>aT H H1/\∃v,vs=[v]/\Rep X.K B H1 d v) I ⟨Z,B,δ,d,E,h1,fun v H1 s1 r1=>⟨s1,v,rfl,r1⟩⟩
 refine Call_ (jk I hg hm boot_enumerate (PyProof.Rows.callWith_type1 (dH hA fun us s1 ⟨vs,H1,I1,r1,ss,v,ev,rr⟩=>?_) hs rfl))
 subst ev;obtain⟨u,rfl,ru⟩:=vals1 r1;cases d with
 | lst es=>
   cases h2;obtain⟨b,xs,rfl,l,rs⟩:=Rep.lst.mp rr;cases ru;obtain⟨its,n,rv,e1,hz⟩:=I1.MF l;refine call_enumerate_list (items:=its.toArray) ⟨_,e1,rfl,n,rfl⟩ fun h' he hit hsz kk=>wpAny_pyIter_enum he ?_
   have I2:Inv X pins σ H1 {s1 with heap:=h'}:=I1.kept (t':=s1.toks) kk
   refine⟨s1.heap.objs.size+1,[s1.heap.objs.size+1,s1.heap.objs.size],_,_,H1,rfl,I2,CS b (s1.heap.objs.size+1) s1.heap.objs.size (Nat.succ_ne_self _),⟨⟨_,he⟩,hit⟩,fun c hc=>?_,q _ H1 ss fun B' H' pr=>?_⟩
   .have hle:s1.heap.objs.size<=c:=by
     rcases List.mem_cons.mp hc with z | hc
     .rw [z];exact Nat.le_succ _
     .have z:c=s1.heap.objs.size:=by simpa using hc
      rw[z];exact Nat.le_refl _
    exact I1.x4 hle (I1.hok.fresh hle)
   .have l':xZ X.K B' H' b xs:=l.br pr;have rs':=rs.br pr;refine⟨fun i d hd=>?_,⟨xs,l'.sq,by rw[<-rs.length];unfold dG;simp⟩⟩
    unfold dG at hd;rw[List.getElem?_map,List.getElem?_zipIdx] at hd;cases e:es[i]? with
    | none=>rw [e] at hd;cases hd
    | some d0=>
      rw[e] at hd;have hd:D.tup [.int ((0+i:Nat):Int),d0]=d:=Option.some.inj hd;rw[Nat.zero_add] at hd;obtain⟨x,hx,rx⟩:=rs'.get e;refine⟨⟨xs,x,l'.sq,hx⟩,fun v oV y JN=>?_⟩
      obtain⟨p,y,hp,rfl,hy,rfl⟩:=y;refine⟨aX hp,?_⟩;subst hd;have Eb:=hy xs l'.sq;rw[hx] at Eb;cases Eb;refine Rep.tup.mpr ⟨p,_,rfl, .inl ⟨fun ha=>?_, .inl aY⟩,az.cons (Rep.int.mpr rfl) (az.cons (rx.same (aX hp)) az.nil)⟩
      obtain⟨o,ho⟩:=JN p ha;rw[hp] at ho;cases ho
 | _=>cases h2
end
end L2
end
section
namespace L2
open PySem PySem.Spec PyProof.Rows
def Def(K:W.Frag)(mg:WM)(x:Str)(st:Stmt):Prop:=∃f fd,Cm K x x st f fd/\mg x=some (.ref f)
def Callee(P:Program)(w:World)(K:W.Frag)(mg:WM)(base:Heap)(k:Nat)(x:Str)(n:Nat)(g:List D->R D):Prop:=
 ∃f fd ps,js P w K mg base vI k f fd ps (Gy K n g)/\mg x=some (.ref f)/\PySem.W.keepIn K (.ref f)=true/\Binds K fd ps []
theorem aR:∀(δ:au) (ds:List D),aI δ= .ok ds->ds.length=0:=fun δ ds h=>by cases h;rfl
theorem ak{g:au->R (List D)}{n:Nat}(h:∀(δ:au) (ds:List D),g δ= .ok ds->ds.length=n):∀(δ:au) (ds:List D),ah f g δ= .ok ds->ds.length=n+1:=fun δ ds e=>by
 obtain⟨d,h1,h2⟩:=R.ai e;obtain⟨es,h3,h4⟩:=R.ai h2;cases h4;rw[List.length_cons,h δ es h3]
theorem Gd{P:Program}{w:World}{K:W.Frag}{mg:WM}{base:Heap}{x qual:Str}{st:Stmt}{f:Addr}{fd:FuncData}{N ps:List Str}{k:Nat}{F:FS}{b:List Stmt}{sc:Scope}(hb:aP st=b)(hs:aC st=sc)(Fn:Cm K x qual st f fd)(S:aW N ps sc)
 (lO:∀(dI:Value) (A:Around) (outer:List Env) (s:Shared) (H:Hp) (E:XK),eB k (A.deeper (envOfC qual sc s.heap.objs.size f dI))->
   sS (uU vI P w K mg base N qual sc f dI A outer s H E).Ig b F):js P w K mg base vI (k+1) f fd ps (Gy K ps.length (oQ N F)):=by
 subst hb hs;exact IX Fn S lO
section
variable {X:Cx}
theorem Gg{g:List D->R D}{k j n:Nat}{x:Str}{p pos:Pos}{e:Expr}{es:List Expr}{fs:au->R (List D)}(C:Callee X.prog X.w X.K X.mg X.base k x n g)(hr:eB j X.A)(G8:k<=j)(hg:Gl X x)(ha:Hj X (e ::es) fs)
 (hn:∀δ ds,fs δ= .ok ds->ds.length=n) (rB:(x==("__debug__":Str))=false:=by decide) (he:starEach (e ::es) X.env=(false,eval e X.env) ::starEach es X.env:=by rfl) (my:(backTo pos (starEach es X.env)).any (·.1)=false:=by rfl) :
 PD X (.Call (.Name x p) (e ::es) [] pos) (aM g fs):=by
 obtain⟨f,fd,ps,F,hm,hk,hb⟩:=C;exact Ht F (hr.mono G8) hg hm hk hb ha hn rB he my
def Od(sc:Scope)(N:List Str)(scope:Scope)(kp:List Nat)(kn:List Str):Bool:=
 decide (scope.kind= .function) && scope.names.all (fun y=>decide (y.2= .cell->scope.names.lookup y.1=some .cell)) && scope.names.all (fun y=>decide (y.2= .local->scope.names.lookup y.1=some .local))
  && scope.names.all (fun y=>decide (y.2= .free->(sc.names.lookup y.1=some .cell\/sc.names.lookup y.1=some .free))) && scope.names.all (fun y=>decide (y.2= .free->scope.names.lookup y.1=some .free)) && decide (kn.length=kp.length)
  && (List.range kp.length).all (fun j=>decide ((kp[j]?).bind (N[·]?)=kn[j]?)) && kn.all (fun x=>decide (scope.names.lookup x=some .free))
theorem bt.of{own:List Str}{kp:List Nat}{kn:List Str}{N:List Str}(h1:X.env.scope=sc)(h2:X.N=N)(h:Od sc N scope kp kn=true):bt X scope own kp kn:=by
 unfold Od at h;simp only[Bool.and_eq_true,decide_eq_true_eq,List.all_eq_true] at h;obtain⟨⟨⟨⟨⟨⟨⟨a1,a2⟩,a3⟩,a4⟩,a8⟩,a5⟩,a6⟩,a7⟩:=h;refine⟨a1,a2,a3,fun y hy hf=>?_,a8,a5,fun j i x hj hx=>?_,a7⟩
 .have:=a4 y hy hf;unfold Env.kindOf;rw[h1];exact this
 .have hlt:j < kp.length:=(List.getElem?_eq_some_iff.mp hj).1;have:=a6 j (List.mem_range.mpr hlt);rw[hj] at this;rw[h2];exact this.trans hx
def EA(aL:List (Key × V))(f g:FD):FD:=fun δ=>(f δ).bind fun k=>(g δ).bind fun d=>match k with
 | .str x=>(match kB (lW [] aL) (Sum.inr x) with | some (.int i)=> .ok (.int i) | none=> .ok d | _=> .no)
 | _=> .no
theorem KA{keys:List (Option Expr)}{values:List Expr}{wQ:List (TE × TE)}{yf apos cu:Pos}{e f:Expr}{fe ff:FD}{aL:List (Key × V)}(hu:X.A.units+1 < cLine)(h:Ln X yf keys values wQ)(Ed:keys.all (·.isSome)=true)(hl:keys.length=values.length)(h0:keys≠[])
 (hc:∀σ H Q,Q (aL.map fun kv=>(kV kv.1,kv.2)) H->qQ wQ σ H Q) (hlen:aL.length<=15) (he:PD X e fe) (hf:PD X f ff) (m:M2 X (.Dict keys values yf) "get" apos e f cu)
 (hd:PE X (.Dict keys values yf) (EO wQ)):PD X (.Call (.Attribute (.Dict keys values yf) "get" apos) [e,f] [] cu) (EA aL fe ff):=by
 refine(F_ hu hd he hf m).imp fun σ H Q ⟨Z,B,δ,d,E,hfd,q⟩=>?_
 obtain⟨k,h1,h2⟩:=R.ai hfd;obtain⟨dd,h3,h4⟩:=R.ai h2;intro p hp;refine hc σ _ _ ⟨aY,aL,rfl,hlen,p,rfl, .inl ⟨_, .inl aY⟩,?_⟩;rw[Jt];have s0:aT H (upd H p (.dK (lW [] aL))):=aX hp;refine⟨Z,B,δ,k,E.same s0,h1,fun v1 H1 s1 r1=>⟨Z,B,δ,dd,(E.same s0).same s1,h3,fun v2 H2 s2 r2=>?_⟩⟩
 have hH2:H2 p=some (.dK (lW [] aL)):=s2 p _ (s1 p _ aY);have sA:aT H H2:=s0.trans (s1.trans s2);split at h4
 .rename_i x;refine⟨kB (lW [] aL) (Sum.inr x),?_,?_⟩
  .rw [Rep.str.mp r1];exact nv.k (k:=Sum.inr x) hH2
  .split at h4
   .rename_i i e1;cases h4;rw[e1];exact q _ H2 sA (Rep.int.mpr rfl)
   .rename_i e1;cases h4;rw[e1];exact q _ H2 sA r2
   .cases h4
 .cases h4
def Si(i:Nat)(f:FD):FS:=fun δ=>(f δ).bind fun d=>match d with
 | .lst es=>(oT δ i).bind fun ds=>R.bz (decide (ds.length+es.length<=sizeLine)) (.ok (.nx (δ.set i (.bld (ds++es)))))
 | _=> .no
end
end L2
end
section
namespace L2
open PySem PySem.Spec PyProof.Rows
structure QD (X:Cx) (e:Expr) (f:FD):Prop where
 h:PD X e f
structure QN (X:Cx) (e:Expr) (f:au->R (List D)):Prop where
 h:PN X e f
structure QB (X:Cx) (e:Expr) (f:au->R Bool):Prop where
 h:PB X e f
structure Pq (X:Cx) (e:Expr) (f:au->R Bool):Prop where
 h:LR X e f
structure JX (X:Cx) (e:List Expr) (f:au->R (List D)):Prop where
 h:Hj X e f
structure DX (X:Cx) (e:Stmt) (f:FS):Prop where
 h:Eh X e f
structure vO (X:Cx) (e:List Stmt) (f:FS):Prop where
 h:sS X e f
structure J2 (X:Cx) (e:Expr) (f:FT):Prop where
 h:Kc X e f
structure JB (X:Cx) (e:List Expr) (f:Fo):Prop where
 h:Fe X e f
structure wY (X:Cx) (tg e:Expr) (f:au->R (List D)):Prop where
 h:Jp X tg e f
structure QP (X:Cx) (e:Option Expr) (f:FO):Prop where
 h:PP X e f
structure QJ (X:Cx) (e:List Expr) (f:au->R (List Str)):Prop where
 h:PJ X e f
structure Dv (X:Cx) (e:List Expr) (c:au->R Bool):Prop where
 h:o_ X e (Hu X.K c)
section
variable {X:Cx}
theorem bX{f:au->R (List D)}(h:QN X e f):QD X e (eNew f):=⟨L7 h.1⟩
theorem aa(i:Nat){pos:Pos}(hN:X.N[i]? =some x:=by rfl)(hv:GK X.env.scope x:=by first | exact Or.inl rfl | exact Or.inr (Or.inl rfl) | exact Or.inr (Or.inr rfl))(hd:(x==("__debug__":Str))=false:=by decide)(rK:(x==("__classdict__":Str))=false:=by decide):QD X (.Name x pos) (af i):=⟨Lv i hN hv hd rK⟩
theorem ae{i j pos}:QD X (.Constant (.int i) j pos) (eC (.int i)):=⟨LM⟩
theorem kK{b j pos}:QD X (.Constant (.bool b) j pos) (eC (.bl b)):=⟨NB⟩
theorem cw{x j pos}:QD X (.Constant (.str x) j pos) (eC (.str x)):=⟨L5⟩
theorem uu{d:D}{pos:Pos}(g:Glob X.K X.mg x d)(hg:Gl X x)(hd:(x==("__debug__":Str))=false:=by decide):QD X (.Name x pos) (eC d):=⟨HE g hg hd⟩
theorem ag:JX X [] aI:=⟨HV⟩
theorem ab{g:au->R (List D)}(h:QD X e f)(t:JX X es g)(hs:starEach (e ::es) X.env=(false,eval e X.env) ::starEach es X.env:=by rfl):JX X (e ::es) (ah f g):=⟨FY h.1 t.1 hs⟩
theorem bh{g:au->R (List D)}{x1 pos}(h:JX X es g):QD X (.Tuple es x1 pos) (cG g):=⟨L9 h.1⟩
theorem er{g:au->R (List D)}{pos}(h:JX X es g):QN X (.List es pos) (kC g):=⟨LG h.1⟩
theorem ax{op:Operator}{g:D->D->R D}(ho:lQ X (binaryOp op) g)(ha:QD X a fa)(hb:QD X b fb):QD X (.BinOp a op b pos) (e2 g fa fb):=⟨NQ ho ha.1 hb.1⟩
theorem pU{op:CmpOp}{g:D->D->R D}(ho:lQ X (compareOp op) g)(ha:QD X a fa)(hb:QD X b fb)(hm:behindInMarks op b=false):QD X (.Compare a [op] [b] pos) (e2 g fa fb):=⟨K0 ho ha.1 hb.1 hm⟩
theorem bO{op:CmpOp}{g:D->D->R D}(ho:lQ X (compareOp op) g)(ha:QD X a fa)(hb:QD X b fb)(hm:behindInMarks op b=false):QB X (.Compare a [op] [b] pos) (b2 g fa fb):=⟨Kq ho ha.1 hb.1 hm⟩
theorem Bx{a:Expr}(ha:QD X a f)(he:∀whole,isTrue a X.env whole=(do let v <-whole;standAt a.pos;holding [v] (truthy v)):=by intro _;rfl):QB X a (Aw f):=⟨KQ ha.1 he⟩
theorem HN{f:au->R Bool}(h:Pq X e f):QB X e f:=⟨LR.pb h.1⟩
theorem GW{f:au->R Bool}(h:QB X a f):Pq X (.BoolOp .Or [a] pos) f:=⟨Hy h.1⟩
theorem Ce{rest:List Expr}{f g:au->R Bool}(ha:QB X a f)(hb:Pq X (.BoolOp .Or (b ::rest) pos) g):Pq X (.BoolOp .Or (a ::b ::rest) pos) (M3 f g):=⟨Lw ha.1 hb.1⟩
theorem Ca{f:au->R Bool}(ha:QB X a f):QB X (.UnaryOp .Not a pos) (Au f):=⟨K6 ha.1⟩
theorem Jf{op}(h:QD X a f):QD X (.BoolOp op [a] pos) f:=⟨L0 h.1⟩
theorem Jq{rest:List Expr}(ha:QD X a f)(hb:QD X (.BoolOp .And (b ::rest) pos) g):QD X (.BoolOp .And (a ::b ::rest) pos) (Ik f g):=⟨Lb ha.1 hb.1⟩
theorem Gf{fc:au->R Bool}(hc:QB X c fc)(ha:QD X a f)(hb:QD X b g):QD X (.IfExp c a b pos) (MM fc f g):=⟨NI hc.1 ha.1 hb.1⟩
theorem bA{g:List D->R D}{id:String}{p pos:Pos}{fs:au->R (List D)}(hc:h_ X (.builtin id) g)(hg:Gl X x)(hm:X.mg x=none)(hv:bootBuiltins x=some (.builtin id))(ha:JX X (e ::es) fs)(hn:x≠"__name__":=by decide)(rB:(x==("__debug__":Str))=false:=by decide)(he:starEach (e ::es) X.env=(false,eval e X.env) ::starEach es X.env:=by rfl)(my:(backTo pos (starEach es X.env)).any (·.1)=false:=by rfl):QD X (.Call (.Name x p) (e ::es) [] pos) (aM g fs):=⟨E_ hc hg hm hv ha.1 hn rB he my⟩
theorem eP{g:List D->R D}{T:String}{p pos:Pos}{fs:au->R (List D)}(hc:h_ X (.type T) g)(hg:Gl X x)(hm:X.mg x=none)(hv:bootBuiltins x=some (.type T))(ha:JX X (e ::es) fs)(hn:x≠"__name__":=by decide)(rB:(x==("__debug__":Str))=false:=by decide)(he:starEach (e ::es) X.env=(false,eval e X.env) ::starEach es X.env:=by rfl)(my:(backTo pos (starEach es X.env)).any (·.1)=false:=by rfl):QD X (.Call (.Name x p) (e ::es) [] pos) (aM g fs):=⟨DF hc hg hm hv ha.1 hn rB he my⟩
theorem gu:vO X [] uq:=⟨IP⟩
theorem aV{st:Stmt}{rest:List Stmt}{F G:FS}(h1:DX X st F)(h2:vO X rest G):vO X (st ::rest) (dW F G):=⟨GY h1.1 h2.1⟩
theorem aQ{st:Stmt}{F:FS}(h1:DX X st F):vO X [st] F:=⟨HI h1.1⟩
theorem c8{i:Nat}{pos pos':Pos}(hN:X.N.Nodup)(hi:X.N[i]? =some x)(hx:Loc X.env.scope x)(he:QD X e f)(hs:swapsWith e (some (.Name x pos')) pos.line X.env=pure false:=by rfl)(hf:X.fn x=true\/X.env.scope.names.lookup x=some .local:=by first | exact .inl rfl | exact .inr rfl | assumption):DX X (.Assign [.Name x pos'] e pos) (jN i f):=⟨HF hN hi hx he.1 hs hf⟩
theorem uh{i:Nat}{f:au->R (List D)}{pos pos':Pos}(hN:X.N.Nodup)(hi:X.N[i]? =some x)(hx:Loc X.env.scope x)(he:QN X e f)(hs:swapsWith e (some (.Name x pos')) pos.line X.env=pure false:=by rfl)(hf:X.fn x=true\/X.env.scope.names.lookup x=some .local:=by first | exact .inl rfl | exact .inr rfl | assumption):DX X (.Assign [.Name x pos'] e pos) (ue i f):=⟨Hw hN hi hx he.1 hs hf⟩
theorem GG{i:Nat}{x:Str}{e:Expr}{f:FD}{eU apos cu pos:Pos}(hN:X.N[i]? =some x)(hv:GK X.env.scope x)(he:QD X e f)(hd:(x==("__debug__":Str))=false:=by decide)(rK:(x==("__classdict__":Str))=false:=by decide)(hs:starEach [e] X.env=(false,eval e X.env) ::starEach [] X.env:=by rfl)(lP:(apos.endLine==cu.line)=true:=by rfl)(rL:((backTo cu (starEach [e] X.env)).all (fun x=>!x.1) && (backToKw cu (keywordEach [] X.env)).all (fun x=>x.1.isSome)
 && decide (([e]:List Expr).length+([]:List Keyword).length+(if([]:List Keyword).isEmpty then 0 else 1) < 30))=true:=by rfl) (rD:swapsWith (.Call (.Attribute (.Name x eU) "append" apos) [e] [] cu) none pos.line X.env=pure false:=by rfl) (lN:attributeBase (.Name x eU) "append" X.env (eval (.Name x eU) X.env)=eval (.Name x eU) X.env:=by rfl):DX X (.Expr (.Call (.Attribute (.Name x eU) "append" apos) [e] [] cu) pos) (Fz i f):=⟨Js hN hv he.1 hd rK hs lP rL rD lN⟩
theorem zg{i:Nat}{x:Str}{e:Expr}{f:au->R (List D)}{eU apos cu pos:Pos}(hN:X.N[i]? =some x)(hv:GK X.env.scope x)(he:QN X e f)(hd:(x==("__debug__":Str))=false:=by decide)(rK:(x==("__classdict__":Str))=false:=by decide)(hs:starEach [e] X.env=(false,eval e X.env) ::starEach [] X.env:=by rfl)(lP:(apos.endLine==cu.line)=true:=by rfl)(rL:((backTo cu (starEach [e] X.env)).all (fun x=>!x.1) && (backToKw cu (keywordEach [] X.env)).all (fun x=>x.1.isSome)
 && decide (([e]:List Expr).length+([]:List Keyword).length+(if([]:List Keyword).isEmpty then 0 else 1) < 30))=true:=by rfl) (rD:swapsWith (.Call (.Attribute (.Name x eU) "extend" apos) [e] [] cu) none pos.line X.env=pure false:=by rfl) (lN:attributeBase (.Name x eU) "extend" X.env (eval (.Name x eU) X.env)=eval (.Name x eU) X.env:=by rfl):DX X (.Expr (.Call (.Attribute (.Name x eU) "extend" apos) [e] [] cu) pos) (C5 i f):=⟨IH hN hv he.1 hd rK hs lP rL rD lN⟩
theorem qy(i:Nat){F:FS}(h:vO X Km F):vO X Km (AE i F):=⟨IB i h.1⟩
theorem bF(he:QD X e f):DX X (.Return (some e) pos) (fF f):=⟨Je he.1⟩
theorem iM{fc:au->R Bool}{F G:FS}(hc:QB X c fc)(ha:vO X a F)(hb:vO X b G):DX X (.If c a b pos) (zV fc F G):=⟨Kt hc.1 ha.1 hb.1⟩
theorem aA{i:Nat}{pos:Pos}(hN:X.N.Nodup)(hi:X.N[i]? =some x)(hx:Loc X.env.scope x)(hf:X.fn x=true\/X.env.scope.names.lookup x=some .local:=by first | exact .inl rfl | exact .inr rfl | assumption):J2 X (.Name x pos) (aD i):=⟨F3 hN hi hx hf⟩
theorem cW:JB X [] eR:=⟨Gj⟩
theorem aU{u:Fo}(h1:J2 X e t)(h2:JB X es u)(hs:(assignEach (e ::es) X.env).map (·.2)=assign e X.env ::(assignEach es X.env).map (·.2):=by rfl):JB X (e ::es) (bw t u):=⟨DN h1.1 h2.1 hs⟩
theorem dP{k:Nat}{t:Fo}{n:Nat}{pos:Pos}(hc:X.calm=true)(h:JB X es t)(hn:(assignEach es X.env).length=n:=by rfl)(D_:(assignEach es X.env).findIdx? (·.1)=none:=by rfl):J2 X (.Tuple es k pos) (eJ n t):=⟨IQ hc h.1 hn D_⟩
theorem bJ(h:QD X e f):wY X tg e (cP f):=⟨Il h.1⟩
theorem cf{tg a:Expr}{p pos:Pos}(h:QD X a f)(hg:Gl X "range")(hm:X.mg "range"=none)(hs:starEach [a] X.env=[(false,eval a X.env)]:=by rfl):wY X tg (.Call (.Name "range" p) [a] [] pos) (dE f):=⟨Ai h.1 hg hm hs⟩
theorem rX{tg a b:Expr}{p pos:Pos}(h:QD X a f)(h':QD X b g)(hg:Gl X "range")(hm:X.mg "range"=none)(hs:starEach [a,b] X.env=[(false,eval a X.env),(false,eval b X.env)]:=by rfl)(sv:starEach [b] X.env=[(false,eval b X.env)]:=by rfl):wY X tg (.Call (.Name "range" p) [a,b] [] pos) (rA f g):=⟨Ba h.1 h'.1 hg hm hs sv⟩
theorem i7{it:au->R (List D)}{F:FS}{pos:Pos}(hp:PassesOwn (model X.prog X.w) X.A X.env X.xe)(hc:X.calm=true)(hi:wY X tg iter it)(hg:J2 X tg t)(hb:vO X body F)(hs:∀x,foldedSetIterable iter X.env x=pure x:=by intro _;rfl):DX X (.For tg iter body [] pos) (sR it t F):=⟨HY hp hc hi.1 hg.1 hb.1 hs⟩
theorem cb{own:List Str}{kp:List Nat}{kn:List Str}{it:au->R (List D)}{c:au->R Bool}{pos:Pos}(hc:X.calm=true)(C:bt X scope own kp kn)(hi:wY X tg iter it)(hg:∀fp s H,J2 (bc X scope (own++kn) fp s H) tg t)(vU:∀fp s H,Dv (bc X scope (own++kn) fp s H) ifs c)(he:∀fp s H,QD (bc X scope (own++kn) fp s H) elt f)(hs:∀x,foldedSetIterable iter X.env x=pure x:=by intro _;rfl):QN X (.ListComp elt [⟨tg,iter,ifs,0⟩] scope pos) (ck it t c f own kp):=⟨Jw hc C hi.1 (fun fp s H=>(hg fp s H).1) (fun fp s H=>(vU fp s H).1) (fun fp s H=>(he fp s H).1) hs⟩
theorem bB:Dv X [] fI:=⟨GF⟩
theorem Gv{c:au->R Bool}(h:QB X e c):Dv X [e] c:=⟨Hv h.1⟩
theorem xu{i:Nat}{pos' iz:Pos}{own:List Str}{kp:List Nat}{kn:List Str}{it:au->R (List D)}{c:au->R Bool}(hc:X.calm=true)(hN:X.N.Nodup)(hx:X.N[i]? =some x)(CL:X.env.scope.names.lookup x=some .local)(C:bt X scope own kp kn)(hi:wY X tg iter it)(hg:∀fp s H,J2 (bc X scope (own++kn) fp s H) tg t)(vU:∀fp s H,Dv (bc X scope (own++kn) fp s H) ifs c)(he:∀fp s H,QD (bc X scope (own++kn) fp s H) elt f)(rD:swapsWith (.ListComp elt [⟨tg,iter,ifs,0⟩] scope pos) (some (.Name x pos')) iz.line X.env=pure true:=by rfl)(hs:∀x,foldedSetIterable iter X.env x=pure x:=by intro _;rfl):DX X (.Assign [.Name x pos'] (.ListComp elt [⟨tg,iter,ifs,0⟩] scope pos) iz) (jN i (eNew (ck it t c f own kp))):=⟨za hc hN hx CL C hi.1 (fun fp s H=>(hg fp s H).1) (fun fp s H=>(vU fp s H).1) (fun fp s H=>(he fp s H).1) rD hs⟩
theorem xX{i:Nat}{pos' iz:Pos}{own:List Str}{kp:List Nat}{kn:List Str}{it:au->R (List D)}{c:au->R Bool}(hc:X.calm=true)(hN:X.N.Nodup)(hx:X.N[i]? =some x)(CL:X.env.scope.names.lookup x=some .local)(C:bt X scope own kp kn)(hi:wY X tg iter it)(hg:∀fp s H,J2 (bc X scope (own++kn) fp s H) tg t)(vU:∀fp s H,Dv (bc X scope (own++kn) fp s H) ifs c)(he:∀fp s H,QD (bc X scope (own++kn) fp s H) elt f)(rD:swapsWith (.ListComp elt [⟨tg,iter,ifs,0⟩] scope pos) (some (.Name x pos')) iz.line X.env=pure true:=by rfl)(hs:∀x,foldedSetIterable iter X.env x=pure x:=by intro _;rfl):DX X (.Assign [.Name x pos'] (.ListComp elt [⟨tg,iter,ifs,0⟩] scope pos) iz) (ue i (ck it t c f own kp)):=⟨yW hc hN hx CL C hi.1 (fun fp s H=>(hg fp s H).1) (fun fp s H=>(vU fp s H).1) (fun fp s H=>(he fp s H).1) rD hs⟩
theorem aF(ha:QD X a fa)(hb:QD X b fb)(hs:tE b):QD X (.Subscript a b pos) (e2 cm fa fb):=⟨NU ha.1 hb.1 hs⟩
theorem Gz:QP X none Fg:=⟨Jj⟩
theorem qi(h:QD X e f):QP X (some e) (rT f):=⟨Jm h.1⟩
theorem Gi{lo hi:Option Expr}{fl fh:FO}(he:QD X e f)(hl:QP X lo fl)(hh:QP X hi fh):QD X (.Subscript e (.Slice lo hi none p2) pos) (MO f fl fh):=⟨M8 he.1 hl.1 hh.1⟩
theorem k6{elts:List Expr}{k:Nat}{vq:Pos}{p pos:Pos}(h:QD X a f)(hg:Gl X "enumerate")(hm:X.mg "enumerate"=none)(hs:starEach [a] X.env=[(false,eval a X.env)]:=by rfl):wY X (.Tuple elts k vq) (.Call (.Name "enumerate" p) [a] [] pos) (jh f):=⟨yO h.1 hg hm hs⟩
theorem bG{P:Program}{w:World}{K:W.Frag}{mg:WM}{base:Heap}{x qual:Str}{st:Stmt}{f:Addr}{fd:FuncData}{N ps:List Str}{k:Nat}{F:FS}{b:List Stmt}{sc:Scope}(hb:aP st=b)(hs:aC st=sc)(Fn:Cm K x qual st f fd)(S:aW N ps sc)(lO:∀(dI:Value) (A:Around) (outer:List Env) (s:Shared) (H:Hp) (E:XK),eB k (A.deeper (envOfC qual sc s.heap.objs.size f dI))->
 vO (uU vI P w K mg base N qual sc f dI A outer s H E).Ig b F):js P w K mg base vI (k+1) f fd ps (Gy K ps.length (oQ N F)):=Gd hb hs Fn S (fun dI A outer s H E hr=>(lO dI A outer s H E hr).1)
theorem aK{g:List D->R D}{k j n:Nat}{p pos:Pos}{fs:au->R (List D)}(C:Callee X.prog X.w X.K X.mg X.base k x n g)(hr:eB j X.A)(G8:k<=j)(hg:Gl X x)(ha:JX X (e ::es) fs)(hn:∀δ ds,fs δ= .ok ds->ds.length=n)(rB:(x==("__debug__":Str))=false:=by decide)(he:starEach (e ::es) X.env=(false,eval e X.env) ::starEach es X.env:=by rfl)(my:(backTo pos (starEach es X.env)).any (·.1)=false:=by rfl):QD X (.Call (.Name x p) (e ::es) [] pos) (aM g fs):=⟨Gg C hr G8 hg ha.1 hn rB he my⟩
theorem IL{keys:List (Option Expr)}{values:List Expr}{wQ:List (TE × TE)}{aL:List (Key × V)}(hu:X.A.units+1 < cLine)(h:Ln X yf keys values wQ)(Ed:keys.all (·.isSome)=true)(hl:keys.length=values.length)(h0:keys≠[])(hc:∀σ H Q,Q (aL.map fun kv=>(kV kv.1,kv.2)) H->qQ wQ σ H Q)(hlen:aL.length<=15)(he:QD X e fe)(hf:QD X f ff)(m:M2 X (.Dict keys values yf) "get" apos e f cu)(hd:PE X (.Dict keys values yf) (EO wQ)):QD X (.Call (.Attribute (.Dict keys values yf) "get" apos) [e,f] [] cu) (EA aL fe ff):=⟨KA hu h Ed hl h0 hc hlen he.1 hf.1 m hd⟩
end
end L2
end
section
namespace L2
open PySem PySem.Spec PyProof.Rows
theorem DL{P:Program}{w:World}{K:W.Frag}{mg mb:WM}{CX:EG}{k:Nat}{fa a:Addr}{fd:FuncData}{x:Str}{sp:Sp}{s₁:Shared}{vs:List Value}{ns:List Int}
 (KX:K.In s₁.heap) (S5:s₁.heap.Ns mainGlobals mg) (hb:s₁.heap.Ns builtinsNs mb) (VH:∀x:Str,x≠"__name__"->mb x=bootBuiltins x) (RU:s₁.heap.NoLimit) (hg:s₁.gens=#[])
 (ha:s₁.heap.get? a=some {cls:= .type "list",data:= .seq vs.toArray}) (hi:IntsAre vs ns) (hl:ns.length<=sizeLine) (hr:eB k callerA)
 (F:∀base:Heap,K.In base->base.Ns mainGlobals mg->js P w K mg base CX k fa fd [x] sp) (O3:∀(s:Shared) (u:Value),BindsTo s fd ⟨[u],[]⟩ [(x,u)])
 (MW:∀H:Hp,NX H->xZ K [] H a (ns.map V.int)->sp [.ref a] H (fun v _=>v= .bl true) fun _ _ _=>False)
 (Vw:∀H e s',CX [] H s₁ (fun _ _ _=>False) e s'->False) :
 codeAny (model P w) callerA (.call (.ref fa) ⟨[.ref a],[]⟩) (fun r s'=>r= .ok (.ret (.bool true))/\OldK s₁.heap s'.heap/\s'.os=s₁.os/\AllBare s'.gens) s₁:=by
 have rv:=wA hi;have lenV:=hi.length;have core:∀H:Hp,NX H->xZ K [] H a (ns.map V.int)->oq P w H s₁.heap->(∀b,H b≠none->b=a)->(H a≠none->K.lookup a=none)->
  codeAny (model P w) callerA (.call (.ref fa) ⟨[.ref a],[]⟩) (fun r s'=>r= .ok (.ret (.bool true))/\OldK s₁.heap s'.heap/\s'.os=s₁.os/\AllBare s'.gens) s₁:=by
  intro H hO hS hok hA hK;have CP:∀{b:Addr} {o:Obj},s₁.heap.get? b=some o->H b=none->(xl s₁.heap H).get? b=some o:=fun e n=>EI e n
  have noA:∀{b:Addr} {o:Obj} {es:Array DictEntry} {ep:Nat},s₁.heap.get? b=some o->o.data= .dict es ep->H b=none:=fun {b o es ep} e d=>by
   cases q:H b with
   | none=>rfl
   | some u=>
     have e':b=a:=hA b (by rw[q];simp)
     subst e';rw[ha] at e;cases e;have d':Data.seq vs.toArray _=Data.dict es ep:=d;cases d'
  have nsK:∀{b:Addr} {m:WM},s₁.heap.Ns b m->(xl s₁.heap H).Ns b m:=fun {b m} ⟨o,es,ep,e,d,r⟩=>⟨o,es,ep,CP e (noA e d),d,r⟩
  have hKb:K.In (xl s₁.heap H):=fun b o e=>CP (KX b o e) (by
   cases q:H b with
   | none=>rfl
   | some u=>
     have e':b=a:=hA b (by rw[q];simp)
     subst e';rw[hK (by rw[q];simp)] at e;cases e)
  have hM:Mod K mg (xl s₁.heap H):=⟨hKb,nsK S5,⟨mb,nsK hb,VH⟩,let⟨mc,h1,h2⟩:=RU;⟨mc,nsK h1,h2⟩⟩
  have e0:A4 P w K mg (xl s₁.heap H) callerA [] s₁ H:=⟨rfl,hM,fun b o e=>Ir e,Nat.le_of_eq (D3 _ _),trivial,fun b hb=>absurd (show b∈([]:List Addr) from hb) (by simp),hok, .of_eq hg⟩
  refine codeAny_mono ((F _ hKb (nsK S5)).run callerA [] s₁ H ⟨[.ref a],[]⟩ [.ref a] [.ref a] _ _ hr e0 (O3 s₁ (.ref a)) (.cons rfl .nil) (MW H hO hS)) fun r s' h=>?_
  cases r with
  | error e=>exact(Vw H e s' h).elim
  | ok fl=>
    cases fl with
    | next=>exact False.elim h
    | brk=>exact False.elim h
    | cont=>exact False.elim h
    | ret u=>
      obtain⟨v,H',os,bare,un,Rn,r',q⟩:=h;have q':v= .bl true:=q;subst q';obtain rfl:u=Value.bool true:=r';refine⟨rfl,OldK.of_keep fun b o e=>?_,os,bare⟩
      cases q:H b with
      | none=>exact un.keep b o e q (by intro z;exact absurd (show b∈([]:List Addr) from z) (by simp)) (by simp)
      | some u=>
        rcases hO b with z | ⟨ob,xs,z⟩
        .rw [q] at z;cases z
        .have z2:=un.frzs b ob _ z;obtain⟨e1,_⟩:=hok b _ z;obtain⟨e2,_⟩:=Rn b _ z2;rw[e] at e1;cases e1;exact e2
 cases hk:K.lookup a with
 | some o=>
   have e:=KX a o hk;rw[ha] at e;cases e;refine core (fun _=>none) (fun _=> .inl rfl) (.inr ⟨vs,_,hk,by rw[List.length_map];exact hl,rv⟩) (fun b u z=>by have z':(none:Option HO)=some u:=z;cases z') (fun b z=>absurd rfl z) fun z=>absurd rfl z
 | none=>
   refine core (fun b=>if b=a then some (.kL {cls:= .type "list",data:= .seq vs.toArray} (.lst (ns.map V.int))) else none) (fun b=>?_) (.inl ⟨by simp, .inr ⟨{cls:= .type "list",data:= .seq vs.toArray},if_pos rfl⟩⟩) (fun b u z=>?_) (fun b z=>?_) fun _=>hk
   .by_cases hb:b=a
    .exact .inr ⟨_,_,if_pos hb⟩
    .exact .inl (if_neg hb)
   .by_cases hb:b=a
    .have z':=(if_pos hb).symm.trans z;cases z';subst hb;exact⟨ha,by rw[List.length_map];exact hl,vs,_,rv,ha⟩
    .have z':=(if_neg hb).symm.trans z;cases z'
   .by_cases hb:b=a
    .exact hb
    .exact absurd (if_neg hb) z
theorem ints_rep{K:W.Frag}{B:List Addr}:∀ns:List Int,az K B H (ns.map D.int) (ns.map V.int)
 | []=>az.nil
 | n ::ns=>az.cons (Rep.int.mpr rfl) (ints_rep ns)
theorem Nq{l:PySem.W.OpenLaw}{n k:Nat}{q:Program}{loose:List Str}{XP:(Str->Option Value)->Heap->Prop}{YP:World->Heap->Prop}{d:DefRec}{K:Params->W.Frag}{x:Str}{g:List D->R D}
 (hn:l.most=some n) (Pu:n<=sizeLine) (RJ:d.params.defaults=[]) (hr:eB k callerA) (hY:∀(w:World) (h:Heap),YP w h->(K w.params).In h)
 (F:∀(w:World) (mg:WM) (fa:Addr) (h:Heap),(K w.params).In h->h.Ns mainGlobals mg->mg d.name=some (.ref fa)->
   ∃fd:FuncData,(∀(s:Shared) (u:Value),BindsTo s fd ⟨[u],[]⟩ [(x,u)])/\∀base:Heap,(K w.params).In base->base.Ns mainGlobals mg->js l.prog w (K w.params) mg base vI k fa fd [x] (Gy (K w.params) 1 g))
 (hg:∀ns:List Int,ns.length<=n->g [.lst (ns.map D.int)]= .ok (.bl true)):PySem.W.WalkO q loose XP YP l.row.toRowW d [] (fun f vs=>PySem.call f vs):=by
 refine Att.zA hn RJ fun w s₀ s₁ mg mb fa o pm cd doc a vs ns G Y ho hd rK OS Mt hints hlen Rb=>?_
 have KX:=hY w _ Y;obtain⟨fd,hb,hF⟩:=F w mg fa _ KX G.T.g OS;refine DL KX G.T.g G.T.b G.T.builtins G.T.nolimit Rb Mt hints (Nat.le_trans hlen Pu) hr hF hb (fun H hO hS=>?_) fun H e s' h=>h
 refine⟨rfl,[],[.lst (ns.map D.int)], .bl true,fun b hb=>(by cases hb),az.cons (Rep.lst.mpr ⟨_,_,rfl,hS,ints_rep ns⟩) az.nil,hg ns hlen,fun z H' _ r=>Rep.bl.mp r⟩
theorem b_{K:W.Frag}{h:Heap}{mg:WM}{x:Str}{st:Stmt}{f:Addr}{oc:Value}{od an:Option Addr}{Ho:Array (Option Value)}{kV doc pm dI ct:Value}(X:K.In h)(G:h.Ns mainGlobals mg)(a:PySem.W.nsIn K mainGlobals x=some (some (.ref f)))
 (l:K.lookup f=some ⟨oc,od, .func (PySem.W.fnOf x x (kr st) (aP st) (aC st) .none kV doc pm an dI ct),Ho⟩) (c:PySem.W.codeIn K dI x=true) (k:PySem.W.keepIn K (.ref f)=true):Def K mg x st:=
 ⟨f,_,xQ l c k,PySem.W.mg_of X G a⟩
theorem tY{K:W.Frag}{h:Heap}{mg:WM}(X:K.In h)(G:h.Ns mainGlobals mg){i:Int}{t:Tok}(a:PySem.W.nsIn K mainGlobals x=some (some (.int i t))):Glob K mg x (.int i):=
 ⟨_, .int i,PySem.W.mg_of X G a,⟨t,rfl⟩,fun _ _=>Rep.int.mpr rfl⟩
end L2
end
section
namespace L2
open PySem PySem.Spec PyProof.Rows
theorem vf{t:FT}{body:FS}:∀(ds:List D) (n:Nat) (P:Nat->au->Prop) {δ:au},P n δ->
 (∀i d δ,ds[i]? =some d->P (n+i) δ->∃eh,((t d δ).bind body)= .ok (.nx eh)/\P (n+i+1) eh)->∃eh,sg t body ds δ= .ok (.nx eh)/\P (n+ds.length) eh
 | [],n,P,δ,h0,_=>⟨δ,rfl,h0⟩
 | d ::ds,n,P,δ,h0,hs=>by
   obtain⟨δ1,e1,p1⟩:=hs 0 d δ rfl h0;obtain⟨fU,e2,p2⟩:=vf ds (n+1) P p1 (fun i d' eh hi hp=>by
    have:=hs (i+1) d' eh (by simpa using hi) (by rw[show n+(i+1)=n+1+i by omega];exact hp)
    rw[show n+(i+1)+1=n+1+i+1 by omega] at this
    exact this)
   refine⟨fU,?_,by rw[List.length_cons,show n+(ds.length+1)=n+1+ds.length by omega];exact p2⟩
   obtain⟨Wv,h1,h2⟩:=R.ai e1;show(t d δ).bind (fun δ1=>(body δ1).bind fun o=>match o with | .nx fU=>sg t body ds fU | .rt r=> .ok (.rt r))=_
   rw[h1,R.aO,h2,R.aO];exact e2
theorem gg{t:FT}{body:FS}{ds:List D}(P:Nat->au->Prop){δ:au}(h0:P 0 δ)
 (hs:∀i d δ,ds[i]? =some d->P i δ->∃eh,((t d δ).bind body)= .ok (.nx eh)/\P (i+1) eh):∃eh,sg t body ds δ= .ok (.nx eh)/\P ds.length eh:=by
 have:=vf (t:=t) (body:=body) ds 0 P h0 (fun i d δ hi hp=>by simpa using hs i d δ hi (by simpa using hp))
 simpa using this
theorem ma{α:Type}{xs:List α}{i:Int}(h0:0<=i)(h:i.toNat < xs.length):u_ xs i=some xs[i.toNat]:=by
 unfold u_ BD;rw[if_pos h0,if_pos (by omega)]
 simp [h]
theorem ints_map:∀ss:List Int,ints? (ss.map D.int)=some ss
 | []=>rfl
 | s ::ss=>by show(ints? (ss.map D.int)).map (s ::·)=_;rw [ints_map ss];rfl
theorem bp{F G:FS}{δ δ1:au}{r:R Out}(h:F δ= .ok (.nx δ1))(h2:G δ1=r):dW F G δ=r:=by unfold dW;rw [h,R.aO];exact h2
theorem cK{f:au->R (List D)}{δ:au}{ds:List D}(h:f δ= .ok ds):eNew f δ= .ok (.lst ds):=by unfold eNew;rw [h];rfl
theorem rW{c:au->R Bool}{F G:FS}{δ:au}{r:R Out}(h:c δ= .ok true)(h2:F δ=r):zV c F G δ=r:=by unfold zV;rw [h,R.aO,if_pos rfl];exact h2
theorem jr{c:au->R Bool}{F G:FS}{δ:au}{r:R Out}(h:c δ= .ok false)(h2:G δ=r):zV c F G δ=r:=by unfold zV;rw [h,R.aO,if_neg (by decide)];exact h2
theorem kg{it:au->R (List D)}{F:FS}{δ:au}{ds:List D}{r:R Out}(h:it δ= .ok ds)(h2:sg t F ds δ=r):sR it t F δ=r:=by unfold sR;rw [h,R.aO];exact h2
theorem bM{f:FD}{δ:au}{d:D}(h:f δ= .ok d):fF f δ= .ok (.rt d):=by unfold fF;rw [h];rfl
theorem cy{N:List Str}{F:FS}{ds:List D}{d:D}(h:F (cA N ds)= .ok (.rt d)):oQ N F ds= .ok d:=by unfold oQ;rw [h];rfl
theorem bN{α:Type}{p:Prop} [Decidable p](r:R α)(h:p):R.bz (decide p) r=r:=by rw[decide_eq_true h];rfl
theorem dJ{i:Nat}{f:FD}{δ:au}{d:D}(h:f δ= .ok d)(hi:i < δ.length):jN i f δ= .ok (.nx (δ.set i (.val d))):=by unfold jN;rw [h,R.aO,bN _ hi]
theorem tj{i:Nat}{f:au->R (List D)}{δ:au}{ds:List D}(h:f δ= .ok ds)(hi:i < δ.length):ue i f δ= .ok (.nx (δ.set i (.bld ds))):=by unfold ue;rw [h,R.aO,bN _ hi]
theorem Hz{i:Nat}{f:FD}{δ:au}{d:D}{ds:List D}(h:f δ= .ok d)(hb:δ[i]? =some (.bld ds))(hl:ds.length < sizeLine):Fz i f δ= .ok (.nx (δ.set i (.bld (ds++[d])))):=by unfold Fz oT;rw [h,R.aO,hb];show R.bz _ _=_;rw [bN _ hl]
theorem bR{it:au->R (List D)}{c:au->R Bool}{own:List Str}{kp:List Nat}{δ:au}{ds ys:List D}(h1:it δ= .ok ds)(h2:ds.length<=sizeLine)(h3:oC t c f (sM own kp δ) ds= .ok ys):ck it t c f own kp δ= .ok ys:=by unfold ck;rw [h1,R.aO,bN _ h2,h3]
theorem rp{ds:List D}{i:Int}{d:D}(h:u_ ds i=some d):cm (.lst ds) (.int i)= .ok d:=by unfold cm;simp only[h]
theorem u9{ds:List D}{i:Int}{d:D}(h:u_ ds i=some d):cm (.tup ds) (.int i)= .ok d:=by unfold cm;simp only[h]
theorem tG{x:Str}{i:Int}{c:Nat}(hz:x.length<=sizeLine)(h:u_ x.cps.toList i=some c):cm (.str x) (.int i)= .ok (.str ⟨#[c]⟩):=by unfold cm;simp only[h,bN _ hz]
end L2
end
section
namespace L2
open PySem PySem.Spec PyProof.Rows
theorem aj{g:D->D->R D}{fa fb:FD}{δ:au}{a b:D}{r:R D}(ha:fa δ= .ok a)(hb:fb δ= .ok b)(h:g a b=r):e2 g fa fb δ=r:=by unfold e2;rw [ha,R.aO,hb,R.aO];exact h
theorem cZ{g:D->D->R D}{fa fb:FD}{δ:au}{a b:D}{k:Bool}(ha:fa δ= .ok a)(hb:fb δ= .ok b)(h:g a b= .ok (.bl k)):b2 g fa fb δ= .ok k:=by unfold b2;rw [aj ha hb h];rfl
theorem ao{f:FD}{g:au->R (List D)}{δ:au}{d:D}{ds:List D}(h:f δ= .ok d)(h2:g δ= .ok ds):ah f g δ= .ok (d ::ds):=by unfold ah;rw [h,R.aO,h2];rfl
theorem aw{g:List D->R D}{fs:au->R (List D)}{δ:au}{ds:List D}{r:R D}(h:fs δ= .ok ds)(h2:g ds=r):aM g fs δ=r:=by unfold aM;rw [h,R.aO];exact h2
theorem cv{g:au->R (List D)}{δ:au}{ds:List D}(h:g δ= .ok ds)(hl:ds.length<=sizeLine):cG g δ= .ok (.tup ds):=by unfold cG;rw [h,R.aO,bN _ hl]
theorem Ia{g:au->R (List D)}{δ:au}{ds:List D}(h:g δ= .ok ds)(hl:ds.length<=sizeLine):kC g δ= .ok ds:=by unfold kC;rw [h,R.aO,bN _ hl]
theorem Gq{f:FD}{fl fh:FO}{δ:au}{d:D}{lo hi:Option Int}{r:R D}(h:f δ= .ok d)(h1:fl δ= .ok lo)(h2:fh δ= .ok hi)(h3:MK d lo hi=r):MO f fl fh δ=r:=by unfold MO;rw [h,R.aO,h1,R.aO,h2,R.aO];exact h3
theorem tS{f:FD}{δ:au}{i:Int}(h:f δ= .ok (.int i)):rT f δ= .ok (some i):=by unfold rT;rw [h];rfl
theorem lU{a b:Str}(h:a.length+b.length<=sizeLine):cx (.str a) (.str b)= .ok (.str (a++b)):=by unfold cx;exact bN _ h
theorem IT{a b:List D}(h:a.length+b.length<=sizeLine):cx (.lst a) (.lst b)= .ok (.lst (a++b)):=by unfold cx;exact bN _ h
theorem uS{a b:Int}(h:0 < b):je (.int a) (.int b)= .ok (.int (a % b)):=by unfold je Hk;exact bN _ h
theorem xN{a b:Int}(h:0 < b)(h2:b < 1073741824):lK (.int a) (.int b)= .ok (.int (a / b)):=by unfold lK Hk;exact bN _ ⟨h,h2⟩
theorem pQ{f:FD}{δ:au}{n:Nat}(h:f δ= .ok (.int n))(hn:n < 1000000):dE f δ= .ok (fG 0 n):=by
 unfold dE;rw [h,R.aO];show R.bz (decide (-(2 ^ 62)<=(n:Int)/\(n:Int) < 2 ^ 62)) _=_;rw[bN _ ⟨by omega,by omega⟩,Int.toNat_natCast]
theorem jf{f:FD}{δ:au}{ds:List D}(h:f δ= .ok (.lst ds)):cP f δ= .ok ds:=by unfold cP;rw [h];rfl
theorem Aj{f:FD}{δ:au}{ds:List D}(h:f δ= .ok (.tup ds)):cP f δ= .ok ds:=by unfold cP;rw [h];rfl
theorem w6{f:FD}{δ:au}{ds:List D}(h:f δ= .ok (.lst ds)):jh f δ= .ok (dG ds):=by unfold jh;rw [h];rfl
theorem K3{f:FD}{δ:au}{b:Bool}(h:f δ= .ok (.bl b)):J5 f δ= .ok b:=by unfold J5;rw [h];rfl
theorem q9(ds:List D):fA [.lst ds]= .ok (.int ds.length):=rfl
end L2
end
section
namespace L3
open PySem PySem.Spec PyProof.Rows L2
inductive V3 where
 | d (x:D) | loc (k:Nat) | lst (vs:List V3) | tup (vs:List V3) | fn (x:Str)
inductive SO where
 | lst (ds:List D) | dct (aL:List (Key × D)) | ins (c:Nat) (fs:List (Str × V3)) | kL | exc (c:Nat)
abbrev bu:=List SO
inductive R3 (α:Type) where
 | ok (a:α) (S:bu) | ex (c:Nat) (S:bu) | no
def R3.bind{α β:Type}:R3 α->(α->bu->R3 β)->R3 β
 | .ok a S,f=>f a S
 | .ex c S,_=> .ex c S
 | .no,_=> .no
theorem R3.ai{α β:Type}{r:R3 α}{f:α->bu->R3 β}{b:β}{S':bu}(h:r.bind f= .ok b S'):∃a S,r= .ok a S/\f a S= .ok b S':=by
 cases r with
 | ok a S=>exact⟨a,S,rfl,h⟩
 | ex c S=>cases h
 | no=>cases h
@[simp] theorem R3.aO{α β:Type}(a:α)(S:bu)(f:α->bu->R3 β):(R3.ok a S).bind f=f a S:=rfl
def R3.bz{α:Type}(c:Bool)(r:R3 α):R3 α:=if c then r else .no
theorem R3.ba{α:Type}{c:Bool}{r:R3 α}{a:α}{S:bu}(h:R3.bz c r= .ok a S):c=true/\r= .ok a S:=by
 cases c with
 | true=>exact⟨rfl,h⟩
 | false=>cases h
def R3.of{α:Type}(r:R α)(S:bu):R3 α:=match r with | .ok a=> .ok a S | _=> .no
theorem R3.of_ok{α:Type}{r:R α}{S S':bu}{a:α}(h:R3.of r S= .ok a S'):r= .ok a/\S'=S:=by
 cases r with
 | ok b=>cases h;exact⟨rfl,rfl⟩
 | ex c=>cases h
 | no=>cases h
structure P3 where
 r:List Addr
 z:List Addr
 f:List Addr
def P3.b(ρ:P3):List Addr:=ρ.r.filter (fun a=>!ρ.f.contains a)++ρ.z
theorem P3.dY{ρ:P3}{a:Addr}:a∈ρ.b↔(a∈ρ.r/\a ∉ ρ.f)\/a∈ρ.z:=by
 unfold P3.b;rw[List.mem_append,List.mem_filter];simp
def P3.push(ρ:P3)(a:Addr):P3:=⟨ρ.r++[a],ρ.z,ρ.f⟩
def P3.cut(ρ:P3)(n:Nat):P3:=⟨ρ.r.take n,ρ.z,ρ.f⟩
mutual
def bo(K:W.Frag)(ρ:P3)(H:Hp):V3->V->Prop
 | .d x,v=>Rep K ρ.b H x v
 | .loc k,v=>∃a,ρ.r[k]? =some a/\v= .ref a
 | .lst vs,v=>∃a xs,v= .ref a/\xZ K ρ.b H a xs/\aN K ρ H vs xs
 | .tup vs,v=>∃a xs,v= .ref a/\v8 K ρ.b H a xs/\aN K ρ H vs xs
 | .fn x,v=>∃a,PySem.W.nsIn K mainGlobals x=some (some (.ref a))/\v= .ref a
def aN(K:W.Frag)(ρ:P3)(H:Hp):List V3->List V->Prop
 | [],xs=>xs=[]
 | d ::ds,xs=>∃x r,xs=x ::r/\bo K ρ H d x/\aN K ρ H ds r
end
structure Pre (ρ:P3) (H:Hp) (cY:P3) (H':Hp):Prop where
 br:dF ρ.b H cY.b H'
 zz:cY.z=ρ.z
 zs:∀(b:Addr) (o:HO),b∈ρ.z->H b=some o->H' b=some o
 ext:∀(k:Nat) (a:Addr),ρ.r[k]? =some a->cY.r[k]? =some a
theorem Pre.refl(ρ:P3)(H:Hp):Pre ρ H ρ H:=⟨dF.refl ρ.b H,rfl,fun _ _ _ h=>h,fun _ _ h=>h⟩
theorem Pre.trans(a:Pre ρ H cY H')(b:Pre cY H' G_ oV):Pre ρ H G_ oV:=⟨a.br.trans b.br,b.zz.trans a.zz,fun c o hc h=>b.zs c o (by rw[a.zz];exact hc) (a.zs c o hc h),fun k x h=>b.ext k x (a.ext k x h)⟩
theorem Pre.same(s:aT H H'):Pre ρ H ρ H':=⟨dF.same s,rfl,fun b o _ h=>s b o h,fun _ _ h=>h⟩
theorem v8.br{K:W.Frag}{B B':List Addr}(p:dF B H B' H'){a:Addr}{xs:List V}(l:v8 K B H a xs):v8 K B' H' a xs:=
 l.elim (fun z=> .inl ⟨(p.rd z.2 z.1).2,(p.rd z.2 z.1).1⟩) .inr
mutual
theorem bo.pre{K:W.Frag}(p:Pre ρ H cY H'):∀{d:V3} {v:V},bo K ρ H d v->bo K cY H' d v
 | .d x,v,h=>by unfold bo at h ⊢;exact h.br p.br
 | .loc k,v,h=>by unfold bo at h ⊢;obtain⟨a,h1,h2⟩:=h;exact⟨a,p.ext k a h1,h2⟩
 | .lst vs,v,h=>by unfold bo at h ⊢;obtain⟨a,xs,e,l,r⟩:=h;exact⟨a,xs,e,l.br p.br,aN.pre p r⟩
 | .tup vs,v,h=>by unfold bo at h ⊢;obtain⟨a,xs,e,l,r⟩:=h;exact⟨a,xs,e,v8.br p.br l,aN.pre p r⟩
 | .fn x,v,h=>by unfold bo at h ⊢;exact h
theorem aN.pre{K:W.Frag}(p:Pre ρ H cY H'):∀{ds:List V3} {xs:List V},aN K ρ H ds xs->aN K cY H' ds xs
 | [],_,h=>by unfold aN at h ⊢;exact h
 | d ::ds,xs,h=>by
   unfold aN at h ⊢;obtain⟨x,r,e,h1,h2⟩:=h;exact⟨x,r,e,bo.pre p h1,aN.pre p h2⟩
end
structure PW (ρ:P3) (H:Hp) (cY:P3) (H':Hp):Prop where
 br:dF ρ.b H cY.b H'
 ext:∀(k:Nat) (a:Addr),ρ.r[k]? =some a->cY.r[k]? =some a
theorem Pre.pw(p:Pre ρ H cY H'):PW ρ H cY H':=⟨p.br,p.ext⟩
theorem PW.trans(a:PW ρ H cY H')(b:PW cY H' G_ oV):PW ρ H G_ oV:=⟨a.br.trans b.br,fun k x h=>b.ext k x (a.ext k x h)⟩
mutual
theorem bo.pw{K:W.Frag}(p:PW ρ H cY H'):∀{d:V3} {v:V},bo K ρ H d v->bo K cY H' d v
 | .d x,v,h=>by unfold bo at h ⊢;exact h.br p.br
 | .loc k,v,h=>by unfold bo at h ⊢;obtain⟨a,h1,h2⟩:=h;exact⟨a,p.ext k a h1,h2⟩
 | .lst vs,v,h=>by unfold bo at h ⊢;obtain⟨a,xs,e,l,r⟩:=h;exact⟨a,xs,e,l.br p.br,aN.pw p r⟩
 | .tup vs,v,h=>by unfold bo at h ⊢;obtain⟨a,xs,e,l,r⟩:=h;exact⟨a,xs,e,v8.br p.br l,aN.pw p r⟩
 | .fn x,v,h=>by unfold bo at h ⊢;exact h
theorem aN.pw{K:W.Frag}(p:PW ρ H cY H'):∀{ds:List V3} {xs:List V},aN K ρ H ds xs->aN K cY H' ds xs
 | [],_,h=>by unfold aN at h ⊢;exact h
 | d ::ds,xs,h=>by
   unfold aN at h ⊢;obtain⟨x,r,e,h1,h2⟩:=h;exact⟨x,r,e,bo.pw p h1,aN.pw p h2⟩
end
theorem aN.nil{K:W.Frag}:aN K ρ H [] []:=by unfold aN;rfl
theorem aN.cons{K:W.Frag}{d:V3}{ds:List V3}{x:V}{xs:List V}(h:bo K ρ H d x)(t:aN K ρ H ds xs):aN K ρ H (d ::ds) (x ::xs):=by
 unfold aN;exact⟨x,xs,rfl,h,t⟩
theorem aN.cn{K:W.Frag}{d:V3}{ds:List V3}{xs:List V}(h:aN K ρ H (d ::ds) xs):∃x r,xs=x ::r/\bo K ρ H d x/\aN K ρ H ds r:=by
 unfold aN at h;exact h
theorem aN.length{K:W.Frag}:∀{ds:List V3} {xs:List V},aN K ρ H ds xs->ds.length=xs.length
 | [],_,h=>by unfold aN at h;rw [h];rfl
 | d ::ds,xs,h=>by
   obtain⟨x,r,rfl,_,h2⟩:=h.cn;simp [h2.length]
theorem aN.of{K:W.Frag}{ρ:P3}:∀{ds:List D} {xs:List V},az K ρ.b H ds xs->aN K ρ H (ds.map .d) xs
 | [],_,h=>by unfold az at h;subst h;exact aN.nil
 | d ::ds,xs,h=>by
   obtain⟨x,r,rfl,h1,h2⟩:=h.cn;exact aN.cons (by unfold bo;exact h1) (aN.of h2)
theorem aN.to{K:W.Frag}{ρ:P3}:∀{ds:List D} {xs:List V},aN K ρ H (ds.map .d) xs->az K ρ.b H ds xs
 | [],_,h=>by unfold aN at h;subst h;exact az.nil
 | d ::ds,xs,h=>by
   obtain⟨x,r,rfl,h1,h2⟩:=aN.cn h;unfold bo at h1;exact az.cons h1 (aN.to h2)
def isExc(C b:Addr):Heap->Prop:=fun h=>∃o,h.get? b=some o/\o.cls= .ref C
def Er(K:W.Frag)(cl:WN)(ρ:P3)(H:Hp):SO->Option HO->Prop
 | .lst ds,h=>∃xs,h=some (.lst xs)/\az K ρ.b H ds xs
 | .dct aL,h=>∃ys,h=some (.dK ys)/\ys.map (·.1)=aL.map (·.1)/\az K ρ.b H (aL.map (·.2)) (ys.map (·.2))
 | .ins c fs,h=>∃dx ys,h=some (.ins (cl c) dx ys)/\ys.map (·.1)=fs.map (·.1)/\aN K ρ H (fs.map (·.2)) (ys.map (·.2))
 | .kL,h=>∃u,h=some u
 | .exc c,h=>∃b,h=some (.ext (isExc (cl c) b))
theorem Er.pre{K:W.Frag}{cl:WN}(p:Pre ρ H cY H'){o:SO}{h:Option HO}(r:Er K cl ρ H o h):Er K cl cY H' o h:=by
 cases o with
 | lst ds=>obtain⟨xs,e,q⟩:=r;exact⟨xs,e,q.br p.br⟩
 | dct aL=>obtain⟨ys,e,e2,q⟩:=r;exact⟨ys,e,e2,q.br p.br⟩
 | ins c fs=>obtain⟨dx,ys,e,e2,q⟩:=r;exact⟨dx,ys,e,e2,q.pre p⟩
 | kL=>exact r
 | exc c=>exact r
theorem Er.pw{K:W.Frag}{cl:WN}(p:PW ρ H cY H'){o:SO}{h:Option HO}(r:Er K cl ρ H o h):Er K cl cY H' o h:=by
 cases o with
 | lst ds=>obtain⟨xs,e,q⟩:=r;exact⟨xs,e,q.br p.br⟩
 | dct aL=>obtain⟨ys,e,e2,q⟩:=r;exact⟨ys,e,e2,q.br p.br⟩
 | ins c fs=>obtain⟨dx,ys,e,e2,q⟩:=r;exact⟨dx,ys,e,e2,q.pw p⟩
 | kL=>exact r
 | exc c=>exact r
theorem Er.some{K:W.Frag}{cl:WN}{o:SO}{h:Option HO}(r:Er K cl ρ H o h):∃u,h=some u:=by
 cases o with
 | lst ds=>obtain⟨xs,e,q⟩:=r;exact⟨_,e⟩
 | dct aL=>obtain⟨ys,e,e2,q⟩:=r;exact⟨_,e⟩
 | ins c fs=>obtain⟨dx,ys,e,e2,q⟩:=r;exact⟨_,e⟩
 | kL=>exact r
 | exc c=>obtain⟨b,e⟩:=r;exact⟨_,e⟩
structure SW (K:W.Frag) (cl:WN) (ρ:P3) (H:Hp) (S:bu):Prop where
 len:ρ.r.length=S.length
 nd:∀(i j:Nat) (a:Addr),ρ.r[i]? =some a->ρ.r[j]? =some a->i=j
 ob:∀(k:Nat) (a:Addr) (o:SO),ρ.r[k]? =some a->S[k]? =some o->Er K cl ρ H o (H a)
 zb:∀b∈ρ.z,(∃xs,H b=some (.lst xs))/\b ∉ ρ.r
 fz:∀(k:Nat) (a:Addr),ρ.r[k]? =some a->S[k]?≠some .kL->a ∉ ρ.f
 ff:∀a∈ρ.f,∃o,H a=some o
 fi:∀(k:Nat) (a:Addr),ρ.r[k]? =some a->S[k]? =some .kL->a∈ρ.f
theorem SW.rs{K:W.Frag}{cl:WN}{ρ:P3}{H:Hp}{S:bu}(w:SW K cl ρ H S):∀a∈ρ.r,∃o,H a=some o:=fun a z=>by
 obtain⟨k,hk⟩:=List.getElem?_of_mem z;have hl:=(List.getElem?_eq_some_iff.mp hk).1;exact(w.ob k a _ hk (List.getElem?_eq_getElem (by rw[<-w.len];exact hl))).some
theorem SW.bs{K:W.Frag}{cl:WN}{ρ:P3}{H:Hp}{S:bu}(w:SW K cl ρ H S):∀a∈ρ.b,∃o,H a=some o:=fun a ha=>by
 rcases P3.dY.mp ha with z | z
 .exact w.rs a z.1
 .obtain⟨xs,h⟩:=(w.zb a z).1;exact⟨_,h⟩
theorem SW.same{K:W.Frag}{cl:WN}{S:bu}(w:SW K cl ρ H S)(s:aT H H'):SW K cl ρ H' S:=
 ⟨w.len,w.nd,fun k a o h1 h2=>by
   have r:=w.ob k a o h1 h2;obtain⟨u,hu⟩:=r.some;rw[s a u hu,<-hu];exact r.pre (Pre.same s),fun b hb=>let⟨⟨o,ho⟩,n⟩:=w.zb b hb;⟨⟨o,s b _ ho⟩,n⟩,w.fz,fun a ha=>let⟨o,ho⟩:=w.ff a ha;⟨o,s a o ho⟩,w.fi⟩
theorem P3.mem_push{ρ:P3}{a b:Addr}(h:b∈(ρ.push a).b):b∈ρ.b\/b=a:=by
 rcases P3.dY.mp h with⟨z,n⟩ | z
 .rcases List.mem_append.mp z with y | y
  .exact .inl (P3.dY.mpr (.inl ⟨y,n⟩))
  .exact .inr (List.mem_singleton.mp y)
 .exact .inl (P3.dY.mpr (.inr z))
theorem SW.new{K:W.Frag}{cl:WN}{ρ:P3}{H H':Hp}{S:bu}(w:SW K cl ρ H S){a:Addr}{o:SO}(s:aT H H')(n:H a=none)(r:Er K cl (ρ.push a) H' o (H' a))(vV:o≠SO.kL:=by intro h;cases h) :
 SW K cl (ρ.push a) H' (S++[o])/\Pre ρ H (ρ.push a) H':=by
 have na:a ∉ ρ.b:=fun ha=>by obtain⟨o,ho⟩:=w.bs a ha;rw [n] at ho;cases ho
 have nr:a ∉ ρ.r:=fun ha=>by obtain⟨o,ho⟩:=w.rs a ha;rw [n] at ho;cases ho
 have nf:a ∉ ρ.f:=fun ha=>by obtain⟨o,ho⟩:=w.ff a ha;rw [n] at ho;cases ho
 have p:Pre ρ H (ρ.push a) H':=⟨fun b u e nb=>⟨s b u e,fun hb=>by
  rcases P3.mem_push hb with z | z
  .exact nb z
  .subst z;rw [n] at e;cases e⟩,rfl,fun b o _ h=>s b o h,fun k x hx=>by
   show(ρ.r++[a])[k]? =_;rw[List.getElem?_append_left (List.getElem?_eq_some_iff.mp hx).1];exact hx⟩
 have last:∀(i:Nat) (b:Addr),(ρ.push a).r[i]? =some b->(i < ρ.r.length/\ρ.r[i]? =some b)\/(i=ρ.r.length/\b=a):=fun i b h=>by
  have h:(ρ.r++[a])[i]? =some b:=h;by_cases q:i < ρ.r.length
  .rw [List.getElem?_append_left q] at h;exact .inl ⟨q,h⟩
  .rw [List.getElem?_append_right (by omega)] at h
   have h0:i - ρ.r.length=0:=by
    have:=(List.getElem?_eq_some_iff.mp h).1;simp at this;omega
   rw[h0] at h;cases h;exact .inr ⟨by omega,rfl⟩
 refine⟨⟨by show(ρ.r++[a]).length=_;rw [List.length_append,List.length_append,w.len];rfl,fun i j b hi hj=>?_,fun k b u hk hu=>?_,fun b hb=>?_,fun k b hk hu=>?_,fun b hb=>?_,fun k b hk hu=>?_⟩,p⟩
 .rcases last i b hi with⟨q1,q2⟩ | ⟨q1,rfl⟩
  .rcases last j b hj with⟨z1,z2⟩ | ⟨z1,rfl⟩
   .exact w.nd i j b q2 z2
   .exact absurd (List.mem_of_getElem? q2) nr
  .rcases last j b hj with⟨z1,z2⟩ | ⟨z1,z3⟩
   .exact absurd (List.mem_of_getElem? z2) nr
   .omega
 .rcases last k b hk with⟨q1,q2⟩ | ⟨q1,rfl⟩
  .rw [List.getElem?_append_left (by rw[<-w.len];exact q1)] at hu
   have r0:=w.ob k b u q2 hu;obtain⟨x,hx⟩:=r0.some;rw[s b x hx,<-hx];exact r0.pre p
  .rw [List.getElem?_append_right (by rw[<-w.len];omega),q1,w.len,Nat.sub_self] at hu
   cases hu;exact r
 .obtain⟨⟨o,ho⟩,nb⟩:=w.zb b hb;refine⟨⟨o,s b _ ho⟩,fun h=>?_⟩
  rcases List.mem_append.mp h with y | y
  .exact nb y
  .rw [List.mem_singleton] at y;subst y;rw [n] at ho;cases ho
 .rcases last k b hk with⟨q1,q2⟩ | ⟨q1,rfl⟩
  .rw [List.getElem?_append_left (by rw[<-w.len];exact q1)] at hu
   exact w.fz k b q2 hu
  .exact nf
 .obtain⟨o,ho⟩:=w.ff b hb;exact⟨o,s b o ho⟩
 .rcases last k b hk with⟨q1,q2⟩ | ⟨q1,rfl⟩
  .rw [List.getElem?_append_left (by rw[<-w.len];exact q1)] at hu
   exact w.fi k b q2 hu
  .rw [List.getElem?_append_right (by rw[<-w.len];omega),q1,w.len,Nat.sub_self] at hu
   cases hu;exact absurd rfl vV
theorem SW.put{K:W.Frag}{cl:WN}{ρ:P3}{S:bu}(w:SW K cl ρ H S){k:Nat}{a:Addr}{o:SO}{u:HO}(hk:ρ.r[k]? =some a)(hf:a ∉ ρ.f)(r:Er K cl ρ H o (some u))(vV:o≠SO.kL:=by intro h;cases h) :
 SW K cl ρ (upd H a u) (S.set k o)/\Pre ρ H ρ (upd H a u):=by
 have ha:a∈ρ.r:=List.mem_of_getElem? hk;have hb:a∈ρ.b:=P3.dY.mpr (.inl ⟨ha,hf⟩);have nz:∀b∈ρ.z,b≠a:=fun b hb z=>(w.zb b hb).2 (by rw[z];exact ha)
 have p:Pre ρ H ρ (upd H a u):=⟨fun b x e nb=>⟨by rw[bg (fun(z:b=a)=>nb (by rw[z];exact hb))];exact e,nb⟩,rfl,fun b o hb h=>by rw[bg (nz b hb)];exact h,fun _ _ h=>h⟩
 have hl:k < S.length:=by rw[<-w.len];exact(List.getElem?_eq_some_iff.mp hk).1
 refine⟨⟨by rw[List.length_set];exact w.len,w.nd,fun j b x hj hx=>?_,fun b hb=>?_,fun j b hj hx=>?_,fun b hb=>?_,fun j b hj hx=>?_⟩,p⟩
 .by_cases q:k=j
  .subst q;rw[hk] at hj;cases hj;rw[List.getElem?_set_self hl] at hx;cases hx;rw[aY];exact r.pre p
  .rw [List.getElem?_set_ne q] at hx;have ne:b≠a:=fun z=>by subst z;exact q (w.nd k j b hk hj)
   rw[bg ne];exact(w.ob j b x hj hx).pre p
 .obtain⟨⟨o,ho⟩,nb⟩:=w.zb b hb;exact⟨⟨o,by rw[bg (nz b hb)];exact ho⟩,nb⟩
 .by_cases q:k=j
  .subst q;rw[hk] at hj;cases hj;exact hf
  .rw [List.getElem?_set_ne q] at hx;exact w.fz j b hj hx
 .obtain⟨o,ho⟩:=w.ff b hb;exact⟨o,by rw[bg (fun z=>hf (by rw[<-z];exact hb))];exact ho⟩
 .by_cases q:k=j
  .subst q;rw[List.getElem?_set_self hl] at hx;cases hx;exact absurd rfl vV
  .rw [List.getElem?_set_ne q] at hx;exact w.fi j b hj hx
theorem SW.kL{K:W.Frag}{cl:WN}{ρ:P3}{S:bu}(w:SW K cl ρ H S){k:Nat}{a:Addr}{ds:List D}(hk:ρ.r[k]? =some a)(hS:S[k]? =some (.lst ds)) :
 SW K cl ⟨ρ.r,ρ.z,a ::ρ.f⟩ H (S.set k .kL)/\Pre ρ H ⟨ρ.r,ρ.z,a ::ρ.f⟩ H/\Rep K (⟨ρ.r,ρ.z,a ::ρ.f⟩:P3).b H (.lst ds) (.ref a):=by
 have hl:k < S.length:=by rw[<-w.len];exact(List.getElem?_eq_some_iff.mp hk).1
 have sub:∀b,b∈(⟨ρ.r,ρ.z,a ::ρ.f⟩:P3).b->b∈ρ.b:=fun b hb=>by
  rcases P3.dY.mp hb with⟨z,n⟩ | z
  .exact P3.dY.mpr (.inl ⟨z,fun h=>n (List.mem_cons_of_mem _ h)⟩)
  .exact P3.dY.mpr (.inr z)
 have p:Pre ρ H ⟨ρ.r,ρ.z,a ::ρ.f⟩ H:=⟨fun b o e nb=>⟨e,fun hb=>nb (sub b hb)⟩,rfl,fun _ _ _ h=>h,fun _ _ h=>h⟩
 obtain⟨xs,e1,r1⟩:=w.ob k a _ hk hS;refine⟨⟨by rw[List.length_set];exact w.len,w.nd,fun j b x hj hx=>?_,w.zb,fun j b hj hx=>?_,fun b hb=>?_,fun j b hj hx=>?_⟩,p,?_⟩
 .by_cases q:k=j
  .subst q;rw[List.getElem?_set_self hl] at hx;cases hx;rw[hk] at hj;cases hj;exact⟨_,e1⟩
  .rw [List.getElem?_set_ne q] at hx;exact(w.ob j b x hj hx).pre p
 .by_cases q:k=j
  .subst q;rw[List.getElem?_set_self hl] at hx;exact absurd rfl hx
  .rw [List.getElem?_set_ne q] at hx;intro h;rcases List.mem_cons.mp h with z | z
   .subst z;exact q (w.nd k j b hk hj)
   .exact w.fz j b hj hx z
 .rcases List.mem_cons.mp hb with z | z
  .subst z;exact⟨_,e1⟩
  .exact w.ff b z
 .by_cases q:k=j
  .subst q;rw[hk] at hj;cases hj;exact List.mem_cons_self
  .rw [List.getElem?_set_ne q] at hx;exact List.mem_cons_of_mem _ (w.fi j b hj hx)
 .refine Rep.lst.mpr ⟨a,xs,rfl, .inl ⟨fun hb=>?_, .inl e1⟩,r1.br p.br⟩
  rcases P3.dY.mp hb with⟨_,n⟩ | z
  .exact n List.mem_cons_self
  .exact(w.zb a z).2 (List.mem_of_getElem? hk)
mutual
def yA:D->Bool
 | .lst _=>false
 | .dct _ _=>false
 | .tup ds=>pZ ds
 | _=>true
def pZ:List D->Bool
 | []=>true
 | d ::ds=>yA d && pZ ds
end
mutual
theorem Rep.zM{K:W.Frag}{B:List Addr}(hB:∀b∈B,∀xs,¬Rd H b (.tup xs)):∀{d:D} {v:V},yA d=true->Rep K [] H d v->Rep K B H d v
 | .cX,v,_,r=>Rep.cX.mpr (Rep.cX.mp r)
 | .bl _,v,_,r=>Rep.bl.mpr (Rep.bl.mp r)
 | .int _,v,_,r=>Rep.int.mpr (Rep.int.mp r)
 | .str _,v,_,r=>Rep.str.mpr (Rep.str.mp r)
 | .lst _,v,h,_=>by unfold yA at h;cases h
 | .dct _ _,v,h,_=>by unfold yA at h;cases h
 | .tup ds,v,h,r=>by
   unfold yA at h;obtain⟨a,xs,rfl,l,rs⟩:=Rep.tup.mp r;exact Rep.tup.mpr ⟨a,xs,rfl,l.elim (fun z=> .inl ⟨fun hb=>hB a hb xs z.2,z.2⟩) .inr,az.zM hB h rs⟩
theorem az.zM{K:W.Frag}{B:List Addr}(hB:∀b∈B,∀xs,¬Rd H b (.tup xs)):∀{ds:List D} {vs:List V},pZ ds=true->az K [] H ds vs->az K B H ds vs
 | [],_,_,r=>by unfold az at r;subst r;exact az.nil
 | d ::ds,vs,h,r=>by
   unfold pZ at h;obtain⟨h1,h2⟩:=Bool.and_eq_true_iff.mp h;obtain⟨x,xs,rfl,r1,r2⟩:=r.cn;exact az.cons (Rep.zM hB h1 r1) (az.zM hB h2 r2)
end
theorem SW.nt{K:W.Frag}{cl:WN}{ρ:P3}{S:bu}(w:SW K cl ρ H S):∀b∈ρ.b,∀xs,¬Rd H b (.tup xs):=fun b hb xs h=>by
 have key:∀o,H b=some o->(∀xs,o≠ .tup xs)->(∀ob xs,o≠ .kL ob (.tup xs))->False:=fun o e h1 h2=>by
  rcases h with z | ⟨ob,z⟩
  .rw [e] at z;cases z;exact h1 _ rfl
  .rw [e] at z;cases z;exact h2 _ _ rfl
 rcases P3.dY.mp hb with⟨z,n⟩ | z
 .obtain⟨k,hk⟩:=List.getElem?_of_mem z;have hl:=(List.getElem?_eq_some_iff.mp hk).1;have hS:S[k]? =some (S[k]'(by rw[<-w.len];exact hl)):=List.getElem?_eq_getElem (by rw[<-w.len];exact hl)
  have r:=w.ob k b _ hk hS;generalize S[k]'(by rw[<-w.len];exact hl)=o at r hS
  cases o with
  | lst ds=>obtain⟨ys,e,_⟩:=r;exact key _ e (fun _ q=>by cases q) (fun _ _ q=>by cases q)
  | dct aL=>obtain⟨ys,e,_⟩:=r;exact key _ e (fun _ q=>by cases q) (fun _ _ q=>by cases q)
  | ins c fs=>obtain⟨dx,ys,e,_⟩:=r;exact key _ e (fun _ q=>by cases q) (fun _ _ q=>by cases q)
  | kL=>exact n (w.fi k b hk hS)
  | exc c=>obtain⟨b',e⟩:=r;exact key _ e (fun _ q=>by cases q) (fun _ _ q=>by cases q)
 .obtain⟨⟨ys,e⟩,_⟩:=w.zb b z;exact key _ e (fun _ q=>by cases q) (fun _ _ q=>by cases q)
abbrev DE:=List (Option V3)
structure gb (K:W.Frag) (cl:WN) (ρ:P3) (H:Hp) (S:bu) (σ:L2.St) (δ:DE):Prop where
 len:δ.length=σ.length
 sw:SW K cl ρ H S
 val:∀(i:Nat) (d:V3),δ[i]? =some (some d)->∃v,σ[i]? =some (some v)/\bo K ρ H d v
theorem gb.to{K:W.Frag}{cl:WN}{S S':bu}{σ:L2.St}{δ:DE}(E:gb K cl ρ H S σ δ)(p:Pre ρ H cY H')(w:SW K cl cY H' S'):gb K cl cY H' S' σ δ:=
 ⟨E.len,w,fun i d e=>let⟨v,h1,h2⟩:=E.val i d e;⟨v,h1,h2.pre p⟩⟩
theorem gb.set{K:W.Frag}{cl:WN}{S:bu}{σ:L2.St}{δ:DE}(E:gb K cl ρ H S σ δ){i:Nat}{d:V3}{v:V}(hi:i < σ.length)(r:bo K ρ H d v):gb K cl ρ H S (σ.set i (some v)) (δ.set i (some d)):=
 ⟨by rw[List.length_set,List.length_set];exact E.len,E.sw,fun j d' e=>by
   by_cases h:i=j
   .subst h;rw[List.getElem?_set_self (by rw[E.len];exact hi)] at e
    cases e;exact⟨v,List.getElem?_set_self hi,r⟩
   .rw [List.getElem?_set_ne h] at e ⊢;exact E.val j d' e⟩
def down(δ:DE):au:=δ.map fun x=>match x with | some (.d d)=> .val d | _=> .un
theorem gb.down{K:W.Frag}{cl:WN}{ρ:P3}{S:bu}{σ:L2.St}{δ:DE}(E:gb K cl ρ H S σ δ):d_ K [] ρ.b H σ (down δ) where
 len:=by unfold L3.down;rw [List.length_map];exact E.len
 bs:=E.sw.bs
 zb:=fun a ha=>by cases ha
 val:=fun i d e=>by
  unfold L3.down at e;rw[List.getElem?_map] at e;cases q:δ[i]? with
  | none=>rw [q] at e;cases e
  | some x=>
    rw[q] at e
    match x,e,q with
    | some (.d y),e,q=>
      cases e;obtain⟨v,h1,h2⟩:=E.val i _ q;unfold bo at h2;exact⟨v,h1,h2⟩
    | some (.loc k),e,q=>cases e
    | some (.lst k),e,q=>cases e
    | some (.tup k),e,q=>cases e
    | none,e,q=>cases e
 bld:=fun i ds e=>by
  unfold L3.down at e;rw[List.getElem?_map] at e;cases q:δ[i]? with
  | none=>rw [q] at e;cases e
  | some x=>
    rw[q] at e
    match x,e with
    | some (.d y),e=>cases e
    | some (.loc k),e=>cases e
    | some (.lst k),e=>cases e
    | some (.tup k),e=>cases e
    | none,e=>cases e
 dis:=fun i j a ds es e=>by
  unfold L3.down at e;rw[List.getElem?_map] at e;cases q:δ[i]? with
  | none=>rw [q] at e;cases e
  | some x=>
    rw[q] at e
    match x,e with
    | some (.d y),e=>cases e
    | some (.loc k),e=>cases e
    | some (.lst k),e=>cases e
    | some (.tup k),e=>cases e
    | none,e=>cases e
mutual
def res(S:bu):V3->Option D
 | .d x=>some x
 | .loc k=>(match S[k]? with | some (.lst ds)=>some (.lst ds) | some (.dct aL)=>some (.dct (aL.map (·.1)) (aL.map (·.2))) | _=>none)
 | .lst vs=>(Ax S vs).map D.lst
 | .tup vs=>(Ax S vs).map D.tup
 | .fn _=>none
def Ax(S:bu):List V3->Option (List D)
 | []=>some []
 | v ::vs=>(res S v).bind fun d=>(Ax S vs).map (d ::·)
end
def dq(S:bu)(δ:DE):au:=δ.map fun x=>match x with | some v=>(match res S v with | some d=> .val d | none=> .un) | none=> .un
theorem k9{α β:Type}{o:Option α}{f:α->β}{b:β}(h:o.map f=some b):∃a,o=some a/\f a=b:=by
 cases o with
 | none=>cases h
 | some a=>cases h;exact⟨a,rfl,rfl⟩
theorem A7{α β:Type}{o:Option α}{f:α->Option β}{b:β}(h:o.bind f=some b):∃a,o=some a/\f a=some b:=by
 cases o with
 | none=>cases h
 | some a=>exact⟨a,rfl,h⟩
mutual
def jt(n:Nat):V3->Bool
 | .d _=>true
 | .loc k=>decide (n<=k)
 | .lst vs=>se n vs
 | .tup vs=>se n vs
 | .fn _=>true
def se(n:Nat):List V3->Bool
 | []=>true
 | v ::vs=>jt n v && se n vs
end
mutual
theorem bo.resB{K:W.Frag}{cl:WN}{ρ:P3}{S:bu}{B':List Addr}{n:Nat}(w:SW K cl ρ H S)(p:dF ρ.b H B' H)(hn:∀(k:Nat) (a:Addr),n<=k->ρ.r[k]? =some a->a ∉ B'):∀{v:V3} {d:D} {x:V},jt n v=true->res S v=some d->bo K ρ H v x->Rep K B' H d x
 | .d y,d,x,_,h,r=>by unfold L3.res at h;cases h;unfold bo at r;exact r.br p
 | .fn y,d,x,_,h,r=>by unfold L3.res at h;cases h
 | .loc k,d,x,g,h,r=>by
   unfold L3.res at h;unfold bo at r;unfold jt at g;obtain⟨a,h1,rfl⟩:=r;split at h
   .rename_i ds e;cases h;obtain⟨xs,e2,q⟩:=w.ob k a _ h1 e;unfold Rep;exact⟨a,xs,rfl, .inl ⟨hn k a (of_decide_eq_true g) h1, .inl e2⟩,q.br p⟩
   .rename_i aL e;cases h;obtain⟨ys,e2,e3,q⟩:=w.ob k a _ h1 e;unfold Rep;exact⟨a,ys,rfl,⟨hn k a (of_decide_eq_true g) h1,e2⟩,e3,q.br p⟩
   .cases h
 | .lst vs,d,x,g,h,r=>by
   unfold L3.res at h;unfold jt at g;obtain⟨ds,e,rfl⟩:=k9 h;unfold bo at r;obtain⟨a,xs,rfl,l,r⟩:=r;unfold Rep;exact⟨a,xs,rfl,l.br p,aN.resB w p hn g e r⟩
 | .tup vs,d,x,g,h,r=>by
   unfold L3.res at h;unfold jt at g;obtain⟨ds,e,rfl⟩:=k9 h;unfold bo at r;obtain⟨a,xs,rfl,l,r⟩:=r;unfold Rep;exact⟨a,xs,rfl,v8.br p l,aN.resB w p hn g e r⟩
theorem aN.resB{K:W.Frag}{cl:WN}{ρ:P3}{S:bu}{B':List Addr}{n:Nat}(w:SW K cl ρ H S)(p:dF ρ.b H B' H)(hn:∀(k:Nat) (a:Addr),n<=k->ρ.r[k]? =some a->a ∉ B'):∀{vs:List V3} {ds:List D} {xs:List V},se n vs=true->Ax S vs=some ds->aN K ρ H vs xs->az K B' H ds xs
 | [],ds,xs,_,h,r=>by unfold Ax at h;cases h;unfold aN at r;subst r;exact az.nil
 | v ::vs,ds,xs,g,h,r=>by
   unfold Ax at h;unfold se at g;obtain⟨g1,g2⟩:=Bool.and_eq_true_iff.mp g;obtain⟨d,e1,h2⟩:=A7 h;obtain⟨es,e2,rfl⟩:=k9 h2;obtain⟨y,ys,rfl,r1,r2⟩:=r.cn;exact az.cons (bo.resB w p hn g1 e1 r1) (aN.resB w p hn g2 e2 r2)
end
mutual
theorem we:∀v:V3,jt 0 v=true
 | .d _=>by unfold jt;rfl
 | .loc k=>by unfold jt;exact decide_eq_true (Nat.zero_le _)
 | .lst vs=>by unfold jt;exact oY vs
 | .tup vs=>by unfold jt;exact oY vs
 | .fn _=>by unfold jt;rfl
theorem oY:∀vs:List V3,se 0 vs=true
 | []=>by unfold se;rfl
 | v ::vs=>by unfold se;rw [we v,oY vs];rfl
end
theorem bo.res{K:W.Frag}{cl:WN}{S:bu}(w:SW K cl ρ H S){v:V3}{d:D}{x:V}(h:res S v=some d)(r:bo K ρ H v x):Rep K [] H d x:=
 r.resB w (fun b o e _=>⟨e,by simp⟩) (n:=0) (fun _ _ _ _=>by simp) (we v) h
theorem qX{S:bu}{δ:DE}{i:Nat}{y:Sl}(e:(dq S δ)[i]? =some y):(∃v d,δ[i]? =some (some v)/\res S v=some d/\y= .val d)\/y= .un:=by
 unfold dq at e;rw[List.getElem?_map] at e;cases q:δ[i]? with
 | none=>rw [q] at e;cases e
 | some x=>
   rw[q] at e;cases x with
   | none=>cases e;exact .inr rfl
   | some v=>
     cases z:res S v with
     | none=>
       have e:some (match res S v with | some d=>Sl.val d | none=> .un)=some y:=e
       rw[z] at e;cases e;exact .inr rfl
     | some d=>
       have e:some (match res S v with | some d=>Sl.val d | none=> .un)=some y:=e
       rw[z] at e;cases e;exact .inl ⟨v,d,rfl,z,rfl⟩
theorem gb.dq{K:W.Frag}{cl:WN}{S:bu}{σ:L2.St}{δ:DE}(E:gb K cl ρ H S σ δ):d_ K [] [] H σ (dq S δ) where
 len:=by unfold L3.dq;rw [List.length_map];exact E.len
 bs:=fun a ha=>by cases ha
 zb:=fun a ha=>by cases ha
 val:=fun i d e=>by
  rcases qX e with⟨v,d',h1,h2,h3⟩ | h
  .cases h3;obtain⟨x,q1,q2⟩:=E.val i v h1;exact⟨x,q1,q2.res E.sw h2⟩
  .cases h
 bld:=fun i ds e=>by
  rcases qX e with⟨v,d',h1,h2,h3⟩ | h
  .cases h3
  .cases h
 dis:=fun i j a ds es e=>by
  rcases qX e with⟨v,d',h1,h2,h3⟩ | h
  .cases h3
  .cases h
abbrev FX:=DE->bu->R3 V3
abbrev FB:=DE->bu->R3 Bool
abbrev FA:=DE->bu->R3 (List V3)
def tX(K:W.Frag)(cl:WN)(f:FX):TE:=fun σ H Q=>∃ρ S δ v S',gb K cl ρ H S σ δ/\f δ S= .ok v S'/\∀u cY H',Pre ρ H cY H'->SW K cl cY H' S'->bo K cY H' v u->Q u H'
def Mn(K:W.Frag)(cl:WN)(f:FB):TT:=fun σ H Q=>∃ρ S δ b S',gb K cl ρ H S σ δ/\f δ S= .ok b S'/\∀cY H',Pre ρ H cY H'->SW K cl cY H' S'->Q b H'
def Uh(K:W.Frag)(cl:WN)(f:FA):TA:=fun σ H Q=>∃ρ S δ vs S',gb K cl ρ H S σ δ/\f δ S= .ok vs S'/\∀us cY H',Pre ρ H cY H'->SW K cl cY H' S'->aN K cY H' vs us->Q us H'
structure PX (X:Cx) (cl:WN) (e:Expr) (f:FX):Prop where
 go:PE X e (tX X.K cl f)
structure Nu (X:Cx) (cl:WN) (e:Expr) (f:FB):Prop where
 go:PT X e (Mn X.K cl f)
structure IJ (X:Cx) (cl:WN) (es:List Expr) (f:FA):Prop where
 go:PA X es (Uh X.K cl f)
section
variable {X:Cx} {cl:WN}
def xP(f:FD):FX:=fun δ S=>(R3.of (f (down δ)) S).bind fun d S=> .ok (.d d) S
theorem aq(h:QD X e f):PX X cl e (xP f):=⟨h.1.imp fun σ H Q ⟨ρ,S,δ,v,S',E,hf,q⟩=>by
 obtain⟨d,S1,h1,h2⟩:=R3.ai hf;obtain⟨h3,e3⟩:=R3.of_ok h1;cases h2;subst e3;exact⟨[],ρ.b,down δ,d,E.down,h3,fun v H' s r=>q v ρ H' (Pre.same s) (E.sw.same s) (by unfold bo;exact r)⟩⟩
def xT(f:FD):FX:=fun δ S=>(R3.of (f (dq S δ)) S).bind fun d S=>R3.bz (yA d) (.ok (.d d) S)
theorem pW(h:QD X e f):PX X cl e (xT f):=⟨h.1.imp fun σ H Q ⟨ρ,S,δ,v,S',E,hf,q⟩=>by
 obtain⟨d,S1,h1,h2⟩:=R3.ai hf;obtain⟨h4,e3⟩:=R3.of_ok h1;obtain⟨ha,h3⟩:=R3.ba h2;cases h3;subst e3;exact⟨[],[],dq _ δ,d,E.dq,h4,fun v H' s r=>q v ρ H' (Pre.same s) (E.sw.same s) (by unfold bo;exact Rep.zM (E.sw.same s).nt ha r)⟩⟩
def bP(f:au->R Bool):FB:=fun δ S=>R3.of (f (down δ)) S
theorem dr{f:au->R Bool}(h:QB X e f):Nu X cl e (bP f):=⟨h.1.imp fun σ H Q ⟨ρ,S,δ,v,S',E,hf,q⟩=>by
 obtain⟨h1,e3⟩:=R3.of_ok hf;subst e3;exact⟨[],ρ.b,down δ,v,E.down,h1,fun H' s=>q ρ H' (Pre.same s) (E.sw.same s)⟩⟩
def bT(f:au->R Bool):FB:=fun δ S=>R3.of (f (dq S δ)) S
theorem yE{f:au->R Bool}(h:QB X e f):Nu X cl e (bT f):=⟨h.1.imp fun σ H Q ⟨ρ,S,δ,v,S',E,hf,q⟩=>by
 obtain⟨h1,e3⟩:=R3.of_ok hf;subst e3;exact⟨[],[],dq _ δ,v,E.dq,h1,fun H' s=>q ρ H' (Pre.same s) (E.sw.same s)⟩⟩
def hJ(i:Nat):FX:=fun δ S=>match δ[i]? with | some (some v)=> .ok v S | _=> .no
theorem c7(i:Nat){x:Str}{pos:Pos}(hN:X.N[i]? =some x:=by rfl)(hv:GK X.env.scope x:=by first | exact Or.inl rfl | exact Or.inr (Or.inl rfl) | exact Or.inr (Or.inr rfl))(hd:(x==("__debug__":Str))=false:=by decide)
 (rK:(x==("__classdict__":Str))=false:=by decide):PX X cl (.Name x pos) (hJ i):=⟨(qJ hN hv hd rK).imp fun σ H Q ⟨ρ,S,δ,v,S',E,hf,q⟩=>by
 unfold hJ at hf;split at hf
 .rename_i d' e;cases hf;obtain⟨u,h1,h2⟩:=E.val i _ e;exact⟨u,h1,q u ρ H (Pre.refl ρ H) E.sw h2⟩
 .cases hf⟩
def sQ(f:au->R (List D)):FX:=fun δ S=>(R3.of (f (down δ)) S).bind fun ds S=> .ok (.loc S.length) (S++[.lst ds])
theorem qM{f:au->R (List D)}(h:QN X e f):PX X cl e (sQ f):=⟨h.1.imp fun σ H Q ⟨ρ,S,δ,v,S',E,hf,q⟩=>by
 obtain⟨ds,S1,h1,h2⟩:=R3.ai hf;obtain⟨h3,e3⟩:=R3.of_ok h1;cases h2;subst e3;refine⟨[],ρ.b,down δ,ds,E.down,h3,fun a xs H' s n e r=>?_⟩
 have r':az X.K (ρ.push a).b H' ds xs:=r.br fun b o e nb=>⟨e,fun hb=>nb (by
  rcases P3.mem_push hb with z | z
  .exact List.mem_cons_of_mem _ z
  .subst z;exact List.mem_cons_self)⟩
 obtain⟨w,p⟩:=E.sw.new (o:= .lst ds) s n ⟨xs,e,r'⟩;exact q _ _ H' p w (by unfold bo;exact⟨a,by show(ρ.r++[a])[_]? =_;rw [<-E.sw.len,List.getElem?_append_right (by omega),Nat.sub_self];rfl,rfl⟩)⟩
end
end L3
end
section
namespace L3
open PySem PySem.Spec PyProof.Rows L2
section
variable {X:Cx} {cl:WN}
def fw:FA:=fun _ S=> .ok [] S
def bE(f:FX)(g:FA):FA:=fun δ S=>(f δ S).bind fun v S1=>(g δ S1).bind fun vs S2=> .ok (v ::vs) S2
theorem b8:IJ X cl [] fw:=⟨fZ.imp fun σ H Q ⟨ρ,S,δ,v,S',E,hf,q⟩=>by
 cases hf;exact q [] ρ H (Pre.refl ρ H) E.sw aN.nil⟩
theorem aH(h:PX X cl e f)(t:IJ X cl es g)(hs:starEach (e ::es) X.env=(false,eval e X.env) ::starEach es X.env:=by rfl):IJ X cl (e ::es) (bE f g):=
 ⟨(c9 h.1 t.1 hs).imp fun σ H Q ⟨ρ,S,δ,v,S',E,hf,q⟩=>by
   obtain⟨v1,S1,h1,h2⟩:=R3.ai hf;obtain⟨vs,S2,h3,h4⟩:=R3.ai h2;cases h4;exact⟨ρ,S,δ,v1,S1,E,h1,fun u de H1 p1 w1 r1=>⟨de,S1,δ,vs,_,E.to p1 w1,h3,fun us vm H2 p2 w2 r2=>q _ vm H2 (p1.trans p2) w2 (aN.cons (r1.pre p2) r2)⟩⟩⟩
def sV:List V3->Option (List D)
 | []=>some []
 | .d x ::r=>(sV r).map (x ::·)
 | _ ::_=>none
theorem lA:∀{vs:List V3} {ds:List D},sV vs=some ds->vs=ds.map .d
 | [],ds,h=>by cases h;rfl
 | .d x ::r,ds,h=>by
   cases e:sV r with
   | none=>have h:(sV r).map (x ::·)=some ds:=h;rw [e] at h;cases h
   | some es=>
     have h:(sV r).map (x ::·)=some ds:=h
     rw[e] at h;cases h;rw[lA e];rfl
 | .loc _ ::_,_,h=>by cases h
 | .lst _ ::_,_,h=>by cases h
 | .tup _ ::_,_,h=>by cases h
 | .fn _ ::_,_,h=>by cases h
theorem uR:∀ds:List D,sV (ds.map .d)=some ds
 | []=>rfl
 | d ::ds=>by show(sV (ds.map .d)).map (d ::·)=_;rw [uR ds];rfl
def CH(vs:List V3):V3:=match sV vs with | some ds=> .d (.tup ds) | none=> .tup vs
def vc(vs:List V3):V3:=match sV vs with | some ds=> .d (.lst ds) | none=> .lst vs
def HK(g:FA):FX:=fun δ S=>(g δ S).bind fun vs S=>R3.bz (decide (vs.length<=sizeLine)) (.ok (CH vs) S)
theorem tp{H:Hp}{p:Addr}{o:HO}(hp:H p=none):Pre ρ H ρ (upd H p o):=Pre.same (aX hp)
theorem CQ{K:W.Frag}{ρ:P3}{vs:List V3}{xs:List V}{a:Addr}(l:v8 K ρ.b H a xs)(r:aN K ρ H vs xs):bo K ρ H (CH vs) (.ref a):=by
 unfold CH;split
 .rename_i ds e;rw[lA e] at r;unfold bo Rep;exact⟨a,xs,rfl,l,r.to⟩
 .unfold bo;exact⟨a,xs,rfl,l,r⟩
theorem wx{K:W.Frag}{ρ:P3}{vs:List V3}{xs:List V}{a:Addr}(l:xZ K ρ.b H a xs)(r:aN K ρ H vs xs):bo K ρ H (vc vs) (.ref a):=by
 unfold vc;split
 .rename_i ds e;rw[lA e] at r;unfold bo Rep;exact⟨a,xs,rfl,l,r.to⟩
 .unfold bo;exact⟨a,xs,rfl,l,r⟩
theorem FN{x1 pos}(h:IJ X cl es g):PX X cl (.Tuple es x1 pos) (HK g):=⟨(GX h.1).imp fun σ H Q ⟨ρ,S,δ,v,S',E,hf,q⟩=>by
 obtain⟨vs,S1,h1,h2⟩:=R3.ai hf;obtain⟨hl,h3⟩:=R3.ba h2;cases h3;refine⟨ρ,S,δ,vs,_,E,h1,fun us de H1 p1 w1 r1=>⟨by rw[<-r1.length];exact of_decide_eq_true hl,fun p hp=>q _ de _ (p1.trans (tp hp)) (w1.same (aX hp)) ?_⟩⟩
 refine CQ (.inl ⟨fun ha=>?_, .inl aY⟩) (r1.pre (tp hp))
 obtain⟨o,ho⟩:=w1.bs p ha;rw[hp] at ho;cases ho⟩
def K9(g:FA):FX:=fun δ S=>(g δ S).bind fun vs S=>R3.bz (decide (vs.length<=sizeLine)) (.ok (vc vs) S)
theorem LI{pos}(h:IJ X cl es g):PX X cl (.List es pos) (K9 g):=⟨(Gh h.1).imp fun σ H Q ⟨ρ,S,δ,v,S',E,hf,q⟩=>by
 obtain⟨vs,S1,h1,h2⟩:=R3.ai hf;obtain⟨hl,h3⟩:=R3.ba h2;cases h3;refine⟨ρ,S,δ,vs,_,E,h1,fun us de H1 p1 w1 r1=>⟨by rw[<-r1.length];exact of_decide_eq_true hl,fun p hp=>q _ de _ (p1.trans (tp hp)) (w1.same (aX hp)) ?_⟩⟩
 refine wx (.inl ⟨fun ha=>?_, .inl aY⟩) (r1.pre (tp hp))
 obtain⟨o,ho⟩:=w1.bs p ha;rw[hp] at ho;cases ho⟩
def x2(g:D->D->R D)(fa fb:FX):FX:=fun δ S=>(fa δ S).bind fun a S1=>(fb δ S1).bind fun b S2=>match a,b with
 | .d x, .d y=>(R3.of (g x y) S2).bind fun d S=> .ok (.d d) S
 | _,_=> .no
theorem Ll{K:W.Frag}{g:D->D->R D}{σ:L2.St}{Q:VK}(h:tX K cl (x2 g fa fb) σ H Q) :
 MJ (fun x y H Q=>∃B da db d,(∀a∈B,∃o,H a=some o)/\Rep K B H da x/\Rep K B H db y/\g da db= .ok d/\∀z H',aT H H'->Rep K B H' d z->Q z H') (tX K cl fa) (tX K cl fb) σ H Q:=by
 obtain⟨ρ,S,δ,v,S',E,hf,q⟩:=h;obtain⟨a,S1,h1,h2⟩:=R3.ai hf;obtain⟨b,S2,h3,h4⟩:=R3.ai h2
 match a,b,h1,h3,h4 with
 | .d x, .d y,h1,h3,h4=>
   obtain⟨d,S3,h5,h6⟩:=R3.ai h4;obtain⟨h7,e⟩:=R3.of_ok h5;cases h6;subst e;refine⟨ρ,S,δ, .d x,S1,E,h1,fun u1 de H1 p1 w1 r1=>⟨de,S1,δ, .d y,_,E.to p1 w1,h3,fun u2 vm H2 p2 w2 r2=>?_⟩⟩
   have qz:=r1.pre p2;unfold bo at qz r2;exact⟨vm.b,x,y,d,w2.bs,qz,r2,h7,fun z H' s r=>q z vm H' (p1.trans (p2.trans (Pre.same s))) (w2.same s) (by unfold bo;exact r)⟩
 | .d x, .loc _,_,_,h4=>cases h4
 | .d x, .lst _,_,_,h4=>cases h4
 | .d x, .tup _,_,_,h4=>cases h4
 | .d x, .fn _,_,_,h4=>cases h4
 | .loc _,_,_,_,h4=>cases h4
 | .lst _,_,_,_,h4=>cases h4
 | .tup _,_,_,_,h4=>cases h4
 | .fn _,_,_,_,h4=>cases h4
theorem NV{op:Operator}{g:D->D->R D}(ho:lQ X (binaryOp op) g)(ha:PX X cl a fa)(hb:PX X cl b fb):PX X cl (.BinOp a op b pos) (x2 g fa fb):=
 ⟨(GS ho.r ha.1 hb.1).imp fun σ H Q h=>Ll h⟩
theorem AB{op:CmpOp}{g:D->D->R D}(ho:lQ X (compareOp op) g)(ha:PX X cl a fa)(hb:PX X cl b fb)(hm:behindInMarks op b=false):PX X cl (.Compare a [op] [b] pos) (x2 g fa fb):=
 ⟨(BJ ho.r ha.1 hb.1 hm).imp fun σ H Q h=>Ll h⟩
def P7(g:D->D->R D)(fa fb:FX):FB:=fun δ S=>(x2 g fa fb δ S).bind fun v S=>match v with | .d (.bl b)=> .ok b S | _=> .no
theorem Iw{op:CmpOp}{g:D->D->R D}(ho:lQ X (compareOp op) g)(ha:PX X cl a fa)(hb:PX X cl b fb)(hm:behindInMarks op b=false):Nu X cl (.Compare a [op] [b] pos) (P7 g fa fb):=
 ⟨(Cg ho.r ha.1 hb.1 hm).imp fun σ H Q ⟨ρ,S,δ,b,S',E,hf,q⟩=>by
   obtain⟨v,S1,h1,h2⟩:=R3.ai hf;have hv:v= .d (.bl b)/\S1=S':=by
    match v,h2 with
    | .d (.bl k),h2=>cases h2;exact⟨rfl,rfl⟩
    | .d .cX,h2=>cases h2
    | .d (.int _),h2=>cases h2
    | .d (.str _),h2=>cases h2
    | .d (.lst _),h2=>cases h2
    | .d (.tup _),h2=>cases h2
    | .d (.dct _ _),h2=>cases h2
    | .loc _,h2=>cases h2
    | .lst _,h2=>cases h2
    | .tup _,h2=>cases h2
    | .fn _,h2=>cases h2
   obtain⟨rfl,rfl⟩:=hv;exact Ll (g:=g) (Q:=fun x H'=>∃k,x= .bl k/\Q k H') ⟨ρ,S,δ,_,_,E,h1,fun u cY H' p w r=>⟨b,by unfold bo Rep at r;exact r,q cY H' p w⟩⟩⟩
inductive Ou where
 | nx (δ:DE) | rt (v:V3)
abbrev FZ:=DE->bu->R3 Ou
def HS(K:W.Frag)(cl:WN)(ρ:P3)(H:Hp)(D:Ends)(S':bu):Ou->Prop
 | .nx eh=>∀dy cY H',Pre ρ H cY H'->gb K cl cY H' S' dy eh->D.nx dy H'
 | .rt v=>∀u cY H',Pre ρ H cY H'->SW K cl cY H' S'->bo K cY H' v u->D.rt u H'
theorem HS.pre{K:W.Frag}{D:Ends}{S':bu}{o:Ou}(q:HS K cl ρ H D S' o)(p:Pre ρ H de H1):HS K cl de H1 D S' o:=by
 cases o with
 | nx eh=>exact fun dy cY H' p' E'=>q dy cY H' (p.trans p') E'
 | rt d=>exact fun v cY H' p' w r=>q v cY H' (p.trans p') w r
def sX(K:W.Frag)(cl:WN)(F:FZ):TS:=fun D σ H=>∃ρ S δ o S',gb K cl ρ H S σ δ/\F δ S= .ok o S'/\HS K cl ρ H D S' o
structure PZ (X:Cx) (cl:WN) (st:Stmt) (F:FZ):Prop where
 go:PS X st (sX X.K cl F)
structure GJ (X:Cx) (cl:WN) (st:List Stmt) (F:FZ):Prop where
 go:ym X st (sX X.K cl F)
def nJ:FZ:=fun δ S=> .ok (.nx δ) S
def bH(F G:FZ):FZ:=fun δ S=>(F δ S).bind fun o S1=>match o with | .nx eh=>G eh S1 | .rt d=> .ok (.rt d) S1
theorem eu:GJ X cl [] nJ:=⟨Cj.imp fun D σ H ⟨ρ,S,δ,o,S',E,hf,q⟩=>by
 cases hf;exact q σ ρ H (Pre.refl ρ H) E⟩
theorem av{st:Stmt}{rest:List Stmt}(h1:PZ X cl st F)(h2:GJ X cl rest G):GJ X cl (st ::rest) (bH F G):=⟨(yr h1.1 h2.1).imp fun D σ H ⟨ρ,S,δ,o,S',E,hf,q⟩=>by
 obtain⟨o1,S1,h1,h2⟩:=R3.ai hf;refine⟨ρ,S,δ,o1,S1,E,h1,?_⟩;cases o1 with
 | nx δ1=>
   intro OP de H1 p1 E1;exact⟨de,S1,δ1,o,S',E1,h2,q.pre p1⟩
 | rt d=>
   cases h2;exact q⟩
theorem bf{st:Stmt}(h1:PZ X cl st F):GJ X cl [st] F:=⟨Co h1.1⟩
def cF(i:Nat)(f:FX):FZ:=fun δ S=>(f δ S).bind fun v S=>R3.bz (decide (i < δ.length)) (.ok (.nx (δ.set i (some v))) S)
theorem bC{i:Nat}{pos pos':Pos}(hN:X.N.Nodup)(hi:X.N[i]? =some x)(hx:Loc X.env.scope x)(he:PX X cl e f)(hs:swapsWith e (some (.Name x pos')) pos.line X.env=pure false:=by rfl)(hf:X.fn x=true\/X.env.scope.names.lookup x=some .local:=by first | exact .inl rfl | exact .inr rfl | assumption) :
 PZ X cl (.Assign [.Name x pos'] e pos) (cF i f):=⟨(AR hN hi hx he.1 hs hf).imp fun D σ H ⟨ρ,S,δ,o,S',E,hf,q⟩=>by
 obtain⟨v,S1,h1,h2⟩:=R3.ai hf;obtain⟨hi,h3⟩:=R3.ba h2;cases h3;refine⟨ρ,S,δ,v,_,E,h1,fun u de H1 p1 w1 r1=>?_⟩
 exact q _ de H1 p1 ((E.to p1 w1).set (by rw[<-E.len];exact of_decide_eq_true hi) r1)⟩
def lJ(f:FX):FZ:=fun δ S=>(f δ S).bind fun v S=> .ok (.rt v) S
theorem eM(he:PX X cl e f):PZ X cl (.Return (some e) pos) (lJ f):=⟨(G3 he.1).imp fun D σ H ⟨ρ,S,δ,o,S',E,hf,q⟩=>by
 obtain⟨v,S1,h1,h2⟩:=R3.ai hf;cases h2;exact⟨ρ,S,δ,v,_,E,h1,fun u de H1 p1 w1 r1=>q u de H1 p1 w1 r1⟩⟩
def zH(c:FB)(F G:FZ):FZ:=fun δ S=>(c δ S).bind fun b S=>if b then F δ S else G δ S
theorem kh(hc:Nu X cl c fc)(ha:GJ X cl a F)(hb:GJ X cl b G):PZ X cl (.If c a b pos) (zH fc F G):=⟨(Ka hc.1 ha.1 hb.1).imp fun D σ H ⟨ρ,S,δ,o,S',E,hf,q⟩=>by
 obtain⟨k,S1,h1,h2⟩:=R3.ai hf;refine⟨ρ,S,δ,k,S1,E,h1,fun de H1 p1 w1=>?_⟩
 cases k with
 | true=>rw [if_pos rfl] at h2;exact HR ⟨de,S1,δ,o,S',E.to p1 w1,h2,q.pre p1⟩
 | false=>rw [if_neg (by decide)] at h2;exact JG ⟨de,S1,δ,o,S',E.to p1 w1,h2,q.pre p1⟩⟩
def wI(f:FX):FZ:=fun δ S=>(f δ S).bind fun _ S=> .ok (.nx δ) S
theorem sZ{pos:Pos}(he:PX X cl e f)(rD:swapsWith e none pos.line X.env=pure false:=by rfl):PZ X cl (.Expr e pos) (wI f):=⟨(qf he.1 rD).imp fun D σ H ⟨ρ,S,δ,o,S',E,hf,q⟩=>by
 obtain⟨v,S1,h1,h2⟩:=R3.ai hf;cases h2;exact⟨ρ,S,δ,v,_,E,h1,fun u de H1 p1 w1 r1=>q _ de H1 p1 (E.to p1 w1)⟩⟩
def BW(c:FB)(body:FZ):Nat->FZ
 | 0,_,_=> .no
 | n+1,δ,S=>(c δ S).bind fun b S=>if b then(body δ S).bind fun o S=>match o with | .nx fU=>BW c body n fU S | .rt r=> .ok (.rt r) S else .ok (.nx δ) S
def Ql(n:Nat)(c:FB)(body:FZ):FZ:=fun δ S=>BW c body n δ S
end
end L3
end
section
namespace L3
open PySem PySem.Spec PyProof.Rows L2
theorem aN.get{K:W.Frag}:∀{ds:List V3} {xs:List V} {i:Nat} {d:V3},aN K ρ H ds xs->ds[i]? =some d->∃x,xs[i]? =some x/\bo K ρ H d x
 | [],_,_,_,_,e=>by simp at e
 | d ::ds,xs,0,d',h,e=>by
   obtain⟨x,r,rfl,h1,h2⟩:=h.cn;simp at e;subst e;exact⟨x,rfl,h1⟩
 | d ::ds,xs,i+1,d',h,e=>by
   obtain⟨x,r,rfl,h1,h2⟩:=h.cn;obtain⟨y,e1,e2⟩:=aN.get (i:=i) h2 (by simpa using e)
   exact⟨y,by simpa using e1,e2⟩
def OH(K:W.Frag)(ρ:P3)(H:Hp)(J:It)(vs:List V3):Prop:=∀cY H',PW ρ H cY H'->(∀a∈cY.b,∃o,H' a=some o)->(∀(i:Nat) (d:V3),vs[i]? =some d->J.go i H'/\∀x oV,J.yld i H' x oV->aT H' oV/\bo K cY oV d x)/\J.stop vs.length H'
theorem OH.of{K:W.Frag}{ρ:P3}{J:It}{ds:List D}(h:Fh K ρ.b H J ds):OH K ρ H J (ds.map .d):=fun cY H' p bs=>by
 obtain⟨h1,h2⟩:=h cY.b H' p.br;refine⟨fun i v hv=>?_,by rw[List.length_map];exact h2⟩
 rw[List.getElem?_map] at hv;cases e:ds[i]? with
 | none=>rw [e] at hv;cases hv
 | some d=>
   rw[e] at hv;cases hv;obtain⟨g1,g2⟩:=h1 i d e;exact⟨g1,fun x oV y=>let⟨s,r⟩:=g2 x oV y bs;⟨s,by unfold bo;exact r⟩⟩
def Ss(K:W.Frag)(cl:WN)(f:FA):TI:=fun σ H R=>∃ρ S δ vs S',gb K cl ρ H S σ δ/\f δ S= .ok vs S'/\∀J de H1,Pre ρ H de H1->SW K cl de H1 S'->OH K de H1 J vs->R J H1
structure NN (X:Cx) (cl:WN) (tg e:Expr) (f:FA):Prop where
 go:PI X tg e (Ss X.K cl f)
section
variable {X:Cx} {cl:WN}
def iP(f:au->R (List D)):FA:=fun δ S=>(R3.of (f (down δ)) S).bind fun ds S=> .ok (ds.map .d) S
theorem cQ{f:au->R (List D)}(h:wY X tg e f):NN X cl tg e (iP f):=⟨h.1.imp fun σ H Q ⟨ρ,S,δ,vs,S',E,hf,q⟩=>by
 obtain⟨ds,S1,h1,h2⟩:=R3.ai hf;obtain⟨h3,e3⟩:=R3.of_ok h1;cases h2;subst e3;exact⟨[],ρ.b,down δ,ds,E.down,h3,fun J H1 s r=>q J ρ H1 (Pre.same s) (E.sw.same s) (OH.of r)⟩⟩
def yY(f:FX):FA:=fun δ S=>(f δ S).bind fun v S=>match v with | .d (.int j)=>R3.bz (decide (-(2 ^ 62)<=j/\j < 2 ^ 62)) (.ok ((fG 0 j.toNat).map .d) S) | _=> .no
theorem Az{tg a:Expr}{p pos:Pos}(h:PX X cl a f)(hg:Gl X "range")(hm:X.mg "range"=none)(hs:starEach [a] X.env=[(false,eval a X.env)]:=by rfl):NN X cl tg (.Call (.Name "range" p) [a] [] pos) (yY f):=
 ⟨(wM hg hm (c9 h.1 fZ hs) hs).imp fun σ H RR ⟨ρ,S,δ,vs,S',E,hf,q⟩=>by
   obtain⟨v,S1,h1,h2⟩:=R3.ai hf
   match v,h1,h2 with
   | .d (.int j),h1,h2=>
     obtain⟨hb,h3⟩:=R3.ba h2;cases h3;have hb:=of_decide_eq_true hb;refine⟨ρ,S,δ, .d (.int j),_,E,h1,fun u de H1 p1 w1 r1=>⟨j,?_,hb.1,hb.2,q _ de H1 p1 w1 (OH.of (AH 0 _))⟩⟩
     unfold bo Rep at r1;rw[r1]
   | .d .cX,_,h2=>cases h2
   | .d (.bl _),_,h2=>cases h2
   | .d (.str _),_,h2=>cases h2
   | .d (.lst _),_,h2=>cases h2
   | .d (.tup _),_,h2=>cases h2
   | .d (.dct _ _),_,h2=>cases h2
   | .loc _,_,h2=>cases h2
   | .lst _,_,h2=>cases h2
   | .tup _,_,h2=>cases h2⟩
def Uk(f:FX):FA:=fun δ S=>(f δ S).bind fun v S=>match v with | .d (.lst ds)=> .ok (ds.map .d) S | .lst vs=> .ok vs S | _=> .no
abbrev FG:=V3->DE->Option DE
abbrev HU:=List V3->DE->Option DE
def gX(K:W.Frag)(cl:WN)(t:FG):TG:=fun v σ H Q=>∃ρ S δ x eh,gb K cl ρ H S σ δ/\bo K ρ H x v/\t x δ=some eh/\∀dy H',aT H H'->gb K cl ρ H' S dy eh->Q dy H'
def UH(K:W.Frag)(cl:WN)(t:HU):EL:=fun v σ H Q=>∃ρ S δ x eh,gb K cl ρ H S σ δ/\aN K ρ H x v/\t x δ=some eh/\∀dy H',aT H H'->gb K cl ρ H' S dy eh->Q dy H'
structure ML (X:Cx) (cl:WN) (tg:Expr) (t:FG):Prop where
 go:PG X tg (gX X.K cl t)
structure Jb (X:Cx) (cl:WN) (tg:List Expr) (t:HU):Prop where
 go:Jn X tg (UH X.K cl t)
theorem gb.same{K:W.Frag}{S:bu}{σ:L2.St}{δ:DE}(E:gb K cl ρ H S σ δ)(s:aT H H'):gb K cl ρ H' S σ δ:=E.to (Pre.same s) (E.sw.same s)
def sr(i:Nat):FG:=fun d δ=>if i < δ.length then some (δ.set i (some d)) else none
theorem bS{i:Nat}{pos:Pos}(hN:X.N.Nodup)(hi:X.N[i]? =some x)(hx:Loc X.env.scope x)(hf:X.fn x=true\/X.env.scope.names.lookup x=some .local:=by first | exact .inl rfl | exact .inr rfl | assumption):ML X cl (.Name x pos) (sr i):=
 ⟨(Bp hN hi hx hf).imp fun v σ H Q ⟨ρ,S,δ,d,eh,E,r,ht,q⟩=>by
   unfold sr at ht;split at ht
   .rename_i hi;cases ht;exact q _ H (aT.refl H) (E.set (by rw[<-E.len];exact hi) r)
   .cases ht⟩
def J9:HU:=fun ds δ=>match ds with | []=>some δ | _=>none
def A1(t:FG)(u:HU):HU:=fun ds δ=>match ds with | d ::r=>(t d δ).bind fun eh=>u r eh | []=>none
theorem jK:Jb X cl [] J9:=⟨Bw.imp fun vs σ H Q ⟨ρ,S,δ,ds,eh,E,r,ht,q⟩=>by
 cases ds with
 | nil=>unfold aN at r;cases ht;exact⟨r,q σ H (aT.refl H) E⟩
 | cons=>cases ht⟩
theorem cM{u:HU}(h1:ML X cl e t)(h2:Jb X cl es u)(hs:(assignEach (e ::es) X.env).map (·.2)=assign e X.env ::(assignEach es X.env).map (·.2):=by rfl):Jb X cl (e ::es) (A1 t u):=
 ⟨(y7 h1.1 h2.1 hs).imp fun vs σ H Q ⟨ρ,S,δ,ds,eh,E,r,ht,q⟩=>by
   cases ds with
   | nil=>cases ht
   | cons d ds=>
     obtain⟨x,xs,rfl,r1,r2⟩:=r.cn;have ht:(t d δ).bind (fun eh=>u ds eh)=some eh:=ht
     cases e1:t d δ with
     | none=>rw [e1] at ht;cases ht
     | some δ1=>
       rw[e1] at ht;exact⟨x,xs,rfl,ρ,S,δ,d,δ1,E,r1,e1,fun OP H1 s1 E1=>⟨ρ,S,δ1,ds,eh,E1,r2.pre (Pre.same s1),ht,fun yc H2 s2 E2=>q yc H2 (s1.trans s2) E2⟩⟩⟩
def Ih(n:Nat)(t:HU):FG:=fun d δ=>match d with
 | .d (.tup ds)=>if ds.length=n then t (ds.map .d) δ else none
 | .tup vs=>if vs.length=n then t vs δ else none
 | _=>none
theorem lV{k:Nat}{t:HU}{n:Nat}{pos:Pos}(hc:X.calm=true)(h:Jb X cl es t)(hn:(assignEach es X.env).length=n:=by rfl)(D_:(assignEach es X.env).findIdx? (·.1)=none:=by rfl):ML X cl (.Tuple es k pos) (Ih n t):=
 ⟨(EJ hc h.1 hn D_).imp fun v σ H Q ⟨ρ,S,δ,d,eh,E,r,ht,q⟩=>by
   have key:∃vs a xs,v= .ref a/\v8 X.K ρ.b H a xs/\aN X.K ρ H vs xs/\vs.length=n/\t vs δ=some eh:=by
    unfold Ih at ht;split at ht
    .rename_i ds;split at ht
     .rename_i hl;unfold bo Rep at r;obtain⟨a,xs,e,l,r⟩:=r;exact⟨ds.map .d,a,xs,e,l,aN.of r,by rw[List.length_map];exact hl,ht⟩
     .cases ht
    .rename_i vs;split at ht
     .rename_i hl;unfold bo at r;obtain⟨a,xs,e,l,r⟩:=r;exact⟨vs,a,xs,e,l,r,hl,ht⟩
     .cases ht
    .cases ht
   obtain⟨vs,a,xs,rfl,l,r,hl,ht⟩:=key;exact⟨a,xs,rfl,l.sq,by rw[<-r.length];exact hl,ρ,S,δ,vs,eh,E,r,ht,q⟩⟩
def UT(f:FX)(t:FG):FZ:=fun δ S=>(f δ S).bind fun d S=>match t d δ with | some eh=> .ok (.nx eh) S | none=> .no
def nM(t:FG)(body:FZ):List V3->FZ
 | [],δ,S=> .ok (.nx δ) S
 | d ::ds,δ,S=>match t d δ with
   | none=> .no
   | some δ1=>(body δ1 S).bind fun o S=>match o with | .nx fU=>nM t body ds fU S | .rt r=> .ok (.rt r) S
def p_(it:FA)(t:FG)(body:FZ):FZ:=fun δ S=>(it δ S).bind fun vs S=>nM t body vs δ S
theorem jg{tg iter:Expr}{body:List Stmt}{it:FA}{t:FG}{F:FZ}{pos:Pos}(hp:PassesOwn (model X.prog X.w) X.A X.env X.xe)(hc:X.calm=true)(hi:NN X cl tg iter it)(hg:ML X cl tg t)(hb:GJ X cl body F)
 (hs:∀x,foldedSetIterable iter X.env x=pure x:=by intro _;rfl):PZ X cl (.For tg iter body [] pos) (p_ it t F):=⟨(ER hp hc hi.1 hg.1 hb.1 hs).imp fun D σ H ⟨ρ,S,δ,o,S',E,hf,q⟩=>by
 obtain⟨ds,S0,h1,h2⟩:=R3.ai hf;refine⟨ρ,S,δ,ds,S0,E,h1,fun J de H1 p1 w1 ir=>?_⟩
 refine⟨fun i m dy H'=>m=ds.length - i/\i<=ds.length/\∃cY S1 eh,Pre de H1 cY H'/\gb X.K cl cY H' S1 dy eh/\nM t F (ds.drop i) eh S1= .ok o S',⟨ds.length,rfl,Nat.zero_le _,de,S0,δ,Pre.refl de H1,E.to p1 w1,by simpa using h2⟩,?_⟩
 rintro i m dy H' ⟨rfl,hi,cY,S1,eh,pv,E',hl⟩;obtain⟨go,stop⟩:=ir cY H' pv.pw E'.sw.bs;by_cases hlt:i < ds.length
 .have hd:ds[i]? =some ds[i]:=List.getElem?_eq_getElem hlt;have hdrop:ds.drop i=ds[i] ::ds.drop (i+1):=List.drop_eq_getElem_cons hlt;rw[hdrop] at hl;unfold nM at hl;split at hl
  .cases hl
  .rename_i δ1 h3;obtain⟨o1,S2,h5,h6⟩:=R3.ai hl;obtain⟨g1,g2⟩:=go i _ hd;refine .inr ⟨g1,fun yc H2=>∃vm S2 fU,Pre de H1 vm H2/\gb X.K cl vm H2 S2 yc fU/\nM t F (ds.drop (i+1)) fU S2= .ok o S',fun yc H2 n=>⟨ds.length - (i+1),by omega,rfl,hlt,n⟩,fun x oV y=>?_⟩
   obtain⟨ss,rr⟩:=g2 x oV y;refine⟨cY,S1,eh,ds[i],δ1,E'.same ss,rr,h3,fun yc H2 s2 E2=>⟨cY,S1,δ1,o1,S2,E2,h5,?_⟩⟩
   have pv2:Pre de H1 cY H2:=pv.trans (Pre.same (ss.trans s2));cases o1 with
   | nx fU=>exact fun JP G7 H3 p3 E3=>⟨G7,S2,fU,pv2.trans p3,E3,h6⟩
   | rt d=>
     cases h6;exact fun v G7 H3 p3 w r=>q v G7 H3 (p1.trans (pv2.trans p3)) w r
 .have e:i=ds.length:=by omega
  subst e;rw[List.drop_length] at hl;cases hl;exact .inl ⟨stop,q dy cY H' (p1.trans pv) E'⟩⟩
end
end L3
end
section
namespace L3
open PySem PySem.Spec PyProof.Rows L2
mutual
def zQ(n:Nat):V3->Bool
 | .d _=>true
 | .loc k=>decide (k < n)
 | .lst vs=>qF n vs
 | .tup vs=>qF n vs
 | .fn _=>true
def qF(n:Nat):List V3->Bool
 | []=>true
 | v ::vs=>zQ n v && qF n vs
end
def Ag(n:Nat):SO->Bool
 | .ins _ fs=>qF n (fs.map (·.2))
 | _=>true
theorem Jk{ρ:P3}{n:Nat}{b:Addr}(h:b∈(ρ.cut n).b):b∈ρ.b:=by
 rcases P3.dY.mp h with z | z
 .exact P3.dY.mpr (.inl ⟨List.mem_of_mem_take z.1,z.2⟩)
 .exact P3.dY.mpr (.inr z)
theorem jP{ρ:P3}(n:Nat):dF ρ.b H (ρ.cut n).b H:=fun b o e nb=>⟨e,fun hb=>nb (Jk hb)⟩
mutual
theorem bo.cut{K:W.Frag}{ρ:P3}{n:Nat}:∀{v:V3} {x:V},zQ n v=true->bo K ρ H v x->bo K (ρ.cut n) H v x
 | .fn y,x,_,h=>by unfold bo at h ⊢;exact h
 | .d y,x,_,h=>by unfold bo at h ⊢;exact h.br (jP n)
 | .loc k,x,o,h=>by
   unfold bo at h ⊢;unfold zQ at o;obtain⟨a,h1,h2⟩:=h;exact⟨a,by show(ρ.r.take n)[k]? =_;rw [List.getElem?_take_of_lt (of_decide_eq_true o)];exact h1,h2⟩
 | .lst vs,x,o,h=>by
   unfold bo at h ⊢;unfold zQ at o;obtain⟨a,xs,e,l,r⟩:=h;exact⟨a,xs,e,l.br (jP n),aN.cut o r⟩
 | .tup vs,x,o,h=>by
   unfold bo at h ⊢;unfold zQ at o;obtain⟨a,xs,e,l,r⟩:=h;exact⟨a,xs,e,v8.br (jP n) l,aN.cut o r⟩
theorem aN.cut{K:W.Frag}{ρ:P3}{n:Nat}:∀{vs:List V3} {xs:List V},qF n vs=true->aN K ρ H vs xs->aN K (ρ.cut n) H vs xs
 | [],_,_,h=>by unfold aN at h ⊢;exact h
 | v ::vs,xs,o,h=>by
   unfold qF at o;obtain⟨o1,o2⟩:=Bool.and_eq_true_iff.mp o;obtain⟨x,r,rfl,h1,h2⟩:=h.cn;exact aN.cons (bo.cut o1 h1) (aN.cut o2 h2)
end
theorem SW.cut{K:W.Frag}{cl:WN}{ρ:P3}{S:bu}(w:SW K cl ρ H S){n:Nat}(ok:(S.take n).all (Ag n)=true):SW K cl (ρ.cut n) H (S.take n):=
 ⟨by show(ρ.r.take n).length=_;rw [List.length_take,List.length_take,w.len],fun i j a hi hj=>by
   have hi:(ρ.r.take n)[i]? =some a:=hi;have hj:(ρ.r.take n)[j]? =some a:=hj;have gi:ρ.r[i]? =some a:=by
    rw[List.getElem?_take] at hi;split at hi
    .exact hi
    .cases hi
   have gj:ρ.r[j]? =some a:=by
    rw[List.getElem?_take] at hj;split at hj
    .exact hj
    .cases hj
   exact w.nd i j a gi gj,fun k a o hk ho=>by
   have hk:(ρ.r.take n)[k]? =some a:=hk;have gk:ρ.r[k]? =some a:=by
    rw[List.getElem?_take] at hk;split at hk
    .exact hk
    .cases hk
   have go:S[k]? =some o:=by
    rw[List.getElem?_take] at ho;split at ho
    .exact ho
    .cases ho
   have r:=w.ob k a o gk go;have oo:Ag n o=true:=List.all_eq_true.mp ok o (List.mem_of_getElem? ho);cases o with
   | lst ds=>obtain⟨xs,e,q⟩:=r;exact⟨xs,e,q.br (jP n)⟩
   | dct aL=>obtain⟨ys,e,e2,q⟩:=r;exact⟨ys,e,e2,q.br (jP n)⟩
   | ins c fs=>obtain⟨dx,ys,e,e2,q⟩:=r;exact⟨dx,ys,e,e2,q.cut oo⟩
   | exc c=>exact r
   | kL=>exact r,fun b hb=>let⟨h1,h2⟩:=w.zb b hb;⟨h1,fun h=>h2 (List.mem_of_mem_take h)⟩,(fun k a hk ho=>by
   have hk:(ρ.r.take n)[k]? =some a:=hk;rw[List.getElem?_take] at hk;split at hk
   .rename_i hlt;rw[List.getElem?_take_of_lt hlt] at ho;exact w.fz k a hk ho
   .cases hk),w.ff,(fun k a hk ho=>by
   have hk:(ρ.r.take n)[k]? =some a:=hk;rw[List.getElem?_take] at hk;split at hk
   .rename_i hlt;rw[List.getElem?_take_of_lt hlt] at ho;exact w.fi k a hk ho
   .cases hk)⟩
theorem SW.K5{K:W.Frag}{cl:WN}{ρ cY:P3}{n:Nat}(hn:ρ.r.length<=n)(p:Pre ρ H cY H'):Pre ρ H (cY.cut n) H':=
 ⟨p.br.trans (jP n),p.zz,p.zs,fun k a h=>by show(cY.r.take n)[k]? =_;rw [List.getElem?_take_of_lt (Nat.lt_of_lt_of_le (List.getElem?_eq_some_iff.mp h).1 hn)];exact p.ext k a h⟩
section
variable {X:Cx} {cl:WN}
def dn(S:bu)(k:Nat):Option (List D):=match S[k]? with | some (.lst ds)=>some ds | _=>none
theorem ib{S:bu}{k:Nat}{ds:List D}(h:dn S k=some ds):S[k]? =some (.lst ds):=by
 unfold dn at h;split at h
 .rename_i e;cases h;exact e
 .cases h
def ko(δ:DE)(i:Nat):Option Nat:=match δ[i]? with | some (some (.loc k))=>some k | _=>none
theorem pe{δ:DE}{i k:Nat}(h:ko δ i=some k):δ[i]? =some (some (.loc k)):=by
 unfold ko at h;split at h
 .rename_i e;cases h;exact e
 .cases h
def pd(i:Nat)(f:FX):FZ:=fun δ S=>match ko δ i with
 | none=> .no
 | some k=>match dn S k with
   | none=> .no
   | some _=>(f δ S).bind fun v S1=>match v with
     | .d d=>(match dn S1 k with | some ds=>R3.bz (decide (ds.length < sizeLine)) (.ok (.nx δ) (S1.set k (.lst (ds++[d])))) | none=> .no)
     | _=> .no
theorem o4{i:Nat}{x:Str}{e:Expr}{f:FX}{eU apos cu pos:Pos}(hN:X.N[i]? =some x)(hv:GK X.env.scope x)(he:PX X cl e f)
 (hd:(x==("__debug__":Str))=false:=by decide) (rK:(x==("__classdict__":Str))=false:=by decide)
 (hs:starEach [e] X.env=(false,eval e X.env) ::starEach [] X.env:=by rfl) (lP:(apos.endLine==cu.line)=true:=by rfl)
 (rL:((backTo cu (starEach [e] X.env)).all (fun x=>!x.1) && (backToKw cu (keywordEach [] X.env)).all (fun x=>x.1.isSome)
   && decide (([e]:List Expr).length+([]:List Keyword).length+(if([]:List Keyword).isEmpty then 0 else 1) < 30))=true:=by rfl)
 (rD:swapsWith (.Call (.Attribute (.Name x eU) "append" apos) [e] [] cu) none pos.line X.env=pure false:=by rfl)
 (lN:attributeBase (.Name x eU) "append" X.env (eval (.Name x eU) X.env)=eval (.Name x eU) X.env:=by rfl) :
 PZ X cl (.Expr (.Call (.Attribute (.Name x eU) "append" apos) [e] [] cu) pos) (pd i f):=by
 refine⟨(qf (Cb (X:=X) PySem.F.plainAttrs_list PySem.F.slot_list_append PySem.F.type_list_append q8 (qJ hN hv hd rK) (c9 he.1 fZ hs) lN rL lP hs) rD).imp fun D σ H ⟨ρ,S,δ,o,S',E,hf,q⟩=>?_⟩
 unfold pd at hf;split at hf
 .cases hf
 .rename_i k hk;split at hf
  .cases hf
  .rename_i ds0 h0;obtain⟨v,S1,h1,h2⟩:=R3.ai hf;split at h2
   .rename_i d;split at h2
    .rename_i ds h3;obtain⟨hl,h4⟩:=R3.ba h2;cases h4;obtain⟨u,u1,u2⟩:=E.val i _ (pe hk);unfold bo at u2;obtain⟨a,a1,rfl⟩:=u2;obtain⟨Vy,x0,_⟩:=E.sw.ob k a _ a1 (ib h0);refine⟨.ref a,u1, .inl ⟨rfl,Vy,o8.of x0⟩,⟨ρ,S,δ, .d d,S1,E,h1,fun y de H1 p1 w1 r1=>?_⟩⟩
     have b1:=p1.ext k a a1;obtain⟨xs,x1,x2⟩:=w1.ob k a _ b1 (ib h3);refine⟨a,xs,y,rfl,rfl,x1,by rw[<-x2.length];exact of_decide_eq_true hl,?_⟩
     unfold bo at r1;obtain⟨w2,p2⟩:=w1.put (o:= .lst (ds++[d])) (u:= .lst (xs++[y])) b1 (w1.fz k a b1 (by rw[ib h3];intro h;cases h)) ⟨xs++[y],rfl,x2.append (az.cons r1 az.nil)⟩
     exact q σ de _ (p1.trans p2) (E.to (p1.trans p2) w2)
    .cases h2
   .cases h2
def IA(fo fi fe:FX):FZ:=fun δ S=>(fe δ S).bind fun v S1=>(fo δ S1).bind fun o S2=>(fi δ S2).bind fun j S3=>match v,o,j with
 | .d d, .loc k, .d (.int n)=>(match dn S3 k with
   | some ds=>(match BD ds.length n with | some m=> .ok (.nx δ) (S3.set k (.lst (ds.set m d))) | none=> .no)
   | none=> .no)
 | _,_,_=> .no
def Ff(K:W.Frag)(cl:WN)(n:Nat)(g:List V3->bu->R3 V3):Sp:=fun vs H Q _=>vs.length=n/\∃ρ S xs v S',SW K cl ρ H S/\aN K ρ H xs vs/\g xs S= .ok v S'/\∀u cY H',Pre ρ H cY H'->SW K cl cY H' S'->bo K cY H' v u->Q u H'
def gA(g:List V3->bu->R3 V3)(fs:FA):FX:=fun δ S=>(fs δ S).bind g
def cJ(P:Program)(w:World)(K:W.Frag)(mg:WM)(base:Heap)(cl:WN)(k:Nat)(x:Str)(n:Nat)(g:List V3->bu->R3 V3):Prop:=
 ∃(f:Addr) (fd:FuncData) (ps:List Str),js P w K mg base vI k f fd ps (Ff K cl n g)/\mg x=some (.ref f)/\PySem.W.keepIn K (.ref f)=true/\Binds K fd ps []
theorem dt{g:List V3->bu->R3 V3}{k j n:Nat}{x:Str}{p pos:Pos}{e:Expr}{es:List Expr}{fs:FA}(C:cJ X.prog X.w X.K X.mg X.base cl k x n g)(hr:eB j X.A)(G8:k<=j)(hg:Gl X x)(ha:IJ X cl (e ::es) fs)
 (hn:∀δ S ds S',fs δ S= .ok ds S'->ds.length=n) (rB:(x==("__debug__":Str))=false:=by decide) (he:starEach (e ::es) X.env=(false,eval e X.env) ::starEach es X.env:=by rfl) (my:(backTo pos (starEach es X.env)).any (·.1)=false:=by rfl) :
 PX X cl (.Call (.Name x p) (e ::es) [] pos) (gA g fs):=by
 obtain⟨f,fd,ps,F,hm,hk,hb⟩:=C;refine⟨(xS F (hr.mono G8) hg hm hk hb .nil zd ha.1 rB he my).imp fun σ H Q ⟨ρ,S,δ,v,S',E,hf,q⟩=>?_⟩
 obtain⟨vs,S1,h1,h2⟩:=R3.ai hf;refine⟨ρ,S,δ,vs,S1,E,h1,fun us de H1 p1 w1 r1=>?_⟩
 show Ff X.K cl n g (us++[]) H1 Q E0;rw[List.append_nil];exact⟨by rw[<-r1.length];exact hn δ S vs S1 h1,de,S1,vs,v,S',w1,r1,h2,fun z vm H2 p2 w2 r2=>q z vm H2 (p1.trans p2) w2 r2⟩
end
def dC(N:List Str)(vs:List V3):DE:=vs.map some++List.replicate (N.length - vs.length) none
theorem EN{K:W.Frag}{cl:WN}{S:bu}{N:List Str}{ds:List V3}{vs:List V}(w:SW K cl ρ H S)(r:aN K ρ H ds vs):gb K cl ρ H S (L2.start N vs) (dC N ds) where
 len:=by unfold L2.start dC;simp [r.length]
 sw:=w
 val:=fun i d e=>by
  unfold dC at e;unfold L2.start;by_cases hi:i < ds.length
  .rw [List.getElem?_append_left (by simpa using hi),List.getElem?_map] at e
   cases q:ds[i]? with
   | none=>rw [q] at e;cases e
   | some d'=>
     rw[q] at e;cases e;obtain⟨x,h1,h2⟩:=r.get q;exact⟨x,by rw[List.getElem?_append_left (by rw[List.length_map,<-r.length];exact hi),List.getElem?_map,h1];rfl,h2⟩
  .rw [List.getElem?_append_right (by simpa using hi),List.getElem?_replicate] at e
   split at e <;> cases e
def sE(N:List Str)(F:FZ):List V3->bu->R3 V3:=fun vs S=>(F (dC N vs) S).bind fun o S'=>match o with | .rt v=> .ok v S' | .nx _=> .ok (.d .cX) S'
def vv(N:List Str)(F:FZ):List V3->bu->R3 V3:=fun vs S=>(sE N F vs S).bind fun v S'=>match res S' v with
 | some d=>R3.bz ((S'.take S.length).all (Ag S.length) && jt S.length v) (.ok (.d d) (S'.take S.length))
 | none=> .no
theorem HQ{P:Program}{w:World}{K:W.Frag}{mg:WM}{base:Heap}{cl:WN}{x qual:Str}{st:Stmt}{f:Addr}{fd:FuncData}{N ps:List Str}{k:Nat}{F:FZ}(Fn:Cm K x qual st f fd)(S:aW N ps (aC st))
 (lO:∀(dI:Value) (A:Around) (outer:List Env) (s:Shared) (H:Hp) (E:XK),eB k (A.deeper (envOfC qual (aC st) s.heap.objs.size f dI))->
   GJ (uU vI P w K mg base N qual (aC st) f dI A outer s H E).Ig cl (aP st) F):js P w K mg base vI (k+1) f fd ps (Ff K cl ps.length (sE N F)):=by
 refine Fn.ok S (fun vs H Q E h=>h.1) (fun dI A outer s H vs Q E hr h=>⟨_,(lO dI A outer s H E hr).1,?_⟩)
 obtain⟨_,ρ,S,ds,v,S',w,r,hg,q⟩:=h;obtain⟨o,S1,h1,h2⟩:=R3.ai hg;refine⟨ρ,S,dC N ds,o,S1,EN w r,h1,?_⟩;cases o with
 | nx eh=>
   cases h2;exact fun dy cY H' p' E'=>q _ cY H' p' E'.sw (by unfold bo Rep;rfl)
 | rt d'=>
   cases h2;exact fun u cY H' p' w' r'=>q u cY H' p' w' r'
theorem A8{K:W.Frag}{cl:WN}{N:List Str}{n:Nat}{vs:List V}{Q:VK}{E:XK}(h:Ff K cl n (vv N F) vs H Q E):Ff K cl n (sE N F) vs H Q E:=by
 obtain⟨hl,ρ,S,xs,v,S',w,r,hg,q⟩:=h;obtain⟨v1,S1,h1,h2⟩:=R3.ai hg;refine⟨hl,ρ,S,xs,v1,S1,w,r,h1,fun u de H1 p1 w1 r1=>?_⟩
 have pc:Pre ρ H (de.cut S.length) H1:=SW.K5 (K:=K) (cl:=cl) (by rw[w.len];exact Nat.le_refl _) p1
 split at h2
 .rename_i d e;obtain⟨ok,h3⟩:=R3.ba h2;obtain⟨ok,hk⟩:=Bool.and_eq_true_iff.mp ok;cases h3;refine q u _ H1 pc (w1.cut ok) ?_;unfold bo;refine r1.resB w1 (jP _) (fun k a hk a1 ha=>?_) hk e
  rcases P3.dY.mp ha with⟨z,_⟩ | z
  .obtain⟨j,hj⟩:=List.getElem?_of_mem z;have hj:(de.r.take S.length)[j]? =some a:=hj;rw[List.getElem?_take] at hj;split at hj
   .rename_i hjl;have:=w1.nd j k a hj a1;omega
   .cases hj
  .exact(w1.zb a z).2 (List.mem_of_getElem? a1)
 .cases h2
end L3
end
section
namespace L3
open PySem PySem.Spec PyProof.Rows L2
theorem az.setAt{K:W.Frag}{ρ:P3}:∀{ds:List D} {xs:List V} {m:Nat} {d:D} {v:V},az K ρ.b H ds xs->Rep K ρ.b H d v->az K ρ.b H (ds.set m d) (xs.set m v)
 | [],_,_,_,_,h,_=>by unfold az at h;subst h;exact az.nil
 | e ::ds,xs,0,d,v,h,r=>by
   obtain⟨x,r',rfl,h1,h2⟩:=h.cn;exact az.cons r h2
 | e ::ds,xs,m+1,d,v,h,r=>by
   obtain⟨x,r',rfl,h1,h2⟩:=h.cn;exact az.cons h1 (az.setAt h2 r)
section
variable {X:Cx} {cl:WN}
theorem EW{o i e:Expr}{fo fi fe:FX}{iz pos:Pos}(he:PX X cl e fe)
 (hg:PG X (.Subscript o i iz) (ND (tX X.K cl fo) (tX X.K cl fi) JQ))
 (hs:swapsWithSole [.Subscript o i iz] e pos.line X.env=pure false:=by rfl) (hw:swappedStores [.Subscript o i iz] e X.env=pure none:=by rfl)
 (h1:(assignEach [.Subscript o i iz] X.env).map (·.2)=[assign (.Subscript o i iz) X.env]:=by rfl):PZ X cl (.Assign [.Subscript o i iz] e pos) (IA fo fi fe):=⟨(Li he.1 hg hs hw h1).imp fun D σ H ⟨ρ,S,δ,ou,S',E,hf,q⟩=>by
 obtain⟨v,S1,h1,h2⟩:=R3.ai hf;obtain⟨vo,S2,h3,h4⟩:=R3.ai h2;obtain⟨vi,S3,h5,h6⟩:=R3.ai h4;split at h6
 .rename_i d k n;split at h6
  .rename_i ds hds;split at h6
   .rename_i m hm;cases h6;refine⟨ρ,S,δ, .d d,S1,E,h1,fun u de H1 p1 w1 r1=>⟨de,S1,δ, .loc k,S2,E.to p1 w1,h3,fun u2 vm H2 p2 w2 r2=>⟨vm,S2,δ, .d (.int n),S3,(E.to p1 w1).to p2 w2,h5,fun u3 G7 H3 p3 w3 r3=>?_⟩⟩⟩
    unfold bo at r2;obtain⟨a,a1,rfl⟩:=r2;have a3:=p3.ext k a a1;obtain⟨xs,x1,x2⟩:=w3.ob k a _ a3 (ib hds);unfold bo Rep at r3;have qz:=r1.pre (p2.trans p3);unfold bo at qz;obtain⟨w4,p4⟩:=w3.put (o:= .lst (ds.set m d)) (u:= .lst (xs.set m u)) a3 (w3.fz k a a3 (by rw[ib hds];intro h;cases h)) ⟨xs.set m u,rfl,az.setAt x2 qz⟩
    exact⟨a,xs,n,m,rfl,r3,x1,by rw[<-x2.length];exact hm,q σ G7 _ (((p1.trans p2).trans p3).trans p4) (E.to (((p1.trans p2).trans p3).trans p4) w4)⟩
   .cases h6
  .cases h6
 .cases h6⟩
def kX(δ:DE)(i:Nat):Option V3:=match δ[i]? with | some (some v)=>some v | _=>none
def oE(own:List Str)(kp:List Nat)(δ:DE):DE:=List.replicate own.length none++kp.map (kX δ)
theorem Jh{K:W.Frag}{S S':bu}{σ:L2.St}{δ:DE}{own:List Str}{kp:List Nat}(E:gb K cl ρ H S σ δ)(p:PW ρ H cY H')(w:SW K cl cY H' S'):gb K cl cY H' S' (dA own kp σ) (oE own kp δ) where
 len:=by unfold dA oE;simp
 sw:=w
 val:=fun i d e=>by
  unfold oE at e;unfold dA;by_cases hi:i < own.length
  .rw [List.getElem?_append_left (by simpa using hi),List.getElem?_replicate] at e
   split at e <;> cases e
  .rw [List.getElem?_append_right (by simpa using hi),List.length_replicate,List.getElem?_map] at e ⊢
   cases q:kp[i - own.length]? with
   | none=>rw [q] at e;cases e
   | some j=>
     rw[q] at e;have e:kX δ j=some d:=Option.some.inj e;unfold kX at e;split at e
     .rename_i d' ed;cases e;obtain⟨v,h1,h2⟩:=E.val j d ed;exact⟨v,by simp [h1],h2.pw p⟩
     .cases e
def nD(t:FG)(c:FB)(f:FX)(δ:DE):List V3->bu->R3 (List V3)
 | [],S=> .ok [] S
 | v ::vs,S=>match t v δ with
   | none=> .no
   | some δ1=>(c δ1 S).bind fun b S1=>if b then(f δ1 S1).bind fun y S2=>(nD t c f δ vs S2).bind fun ys S3=> .ok (y ::ys) S3 else nD t c f δ vs S1
def oH(it:FA)(t:FG)(c:FB)(f:FX)(own:List Str)(kp:List Nat):FX:=fun δ S=>(it δ S).bind fun vs S1=>R3.bz (decide (vs.length<=sizeLine)) ((nD t c f (oE own kp δ) vs S1).bind fun ys S2=> .ok (vc ys) S2)
theorem aN.append{K:W.Frag}:∀{ds es:List V3} {xs ys:List V},aN K ρ H ds xs->aN K ρ H es ys->aN K ρ H (ds++es) (xs++ys)
 | [],_,_,_,h,t=>by unfold aN at h;subst h;exact t
 | d ::ds,es,xs,ys,h,t=>by
   obtain⟨x,r,rfl,h1,h2⟩:=h.cn;exact aN.cons h1 (aN.append h2 t)
theorem BP{K:W.Frag}{own:List Str}{kp:List Nat}{σ:L2.St}{Q:VK}(h:tX K cl (oH it t c f own kp) σ H Q) :
 BU (Ss K cl it) (gX K cl t) (Mn K cl c) (tX K cl f) own kp σ H Q:=by
 obtain⟨ρ,S,δ,v,SF,E,hf,q⟩:=h;obtain⟨es,S1,h1,h2⟩:=R3.ai hf;obtain⟨hl,h3⟩:=R3.ba h2;have hl:=of_decide_eq_true hl;obtain⟨vs,S2,h4,h5⟩:=R3.ai h3;cases h5;refine⟨ρ,S,δ,es,S1,E,h1,fun J de H1 p1 w1 ir Dd hD=>?_⟩
 have nDz:Dd ∉ de.b:=fun hb=>by obtain⟨o,ho⟩:=w1.bs Dd hb;rw [hD] at ho;cases ho
 have nDr:Dd ∉ de.r:=fun hb=>by obtain⟨o,ho⟩:=w1.rs Dd hb;rw [hD] at ho;cases ho
 have toZ:∀{r' f':List Addr} {H':Hp},Pre de H1 ⟨r',de.z,f'⟩ H'->PW de H1 ⟨r',Dd ::de.z,f'⟩ H':=fun {r' f' H'} p=>⟨fun b o e nb=>⟨(p.br b o e nb).1,fun hb=>by
  rcases P3.dY.mp hb with z | z
  .exact(p.br b o e nb).2 (P3.dY.mpr (.inl z))
  .rcases List.mem_cons.mp z with y | y
   .exact cH e hD y
   .exact(p.br b o e nb).2 (P3.dY.mpr (.inr y))⟩,p.ext⟩
 have w0:SW K cl ⟨de.r,Dd ::de.z,de.f⟩ (upd H1 Dd (.lst [])) S1:=by
  have s0:aT H1 (upd H1 Dd (.lst [])):=aX hD;have ws:=w1.same s0;refine⟨ws.len,ws.nd,fun k a o hk ho=>?_,fun b hb=>?_,ws.fz,ws.ff,ws.fi⟩
  .have r:=w1.ob k a o hk ho;obtain⟨u,hu⟩:=r.some;rw[s0 a u hu,<-hu];exact r.pw (toZ (Pre.same s0))
  .rcases List.mem_cons.mp hb with y | y
   .subst y;exact⟨⟨_,aY⟩,nDr⟩
   .exact ws.zb b y
 refine⟨fun i m ys H'=>m=es.length - i/\i<=es.length/\ys.length<=i/\H' Dd=some (.lst ys)/\∃r' f' S' done rest,Pre de H1 ⟨r',de.z,f'⟩ H'/\SW K cl ⟨r',Dd ::de.z,f'⟩ H' S'/\vs=done++rest/\aN K ⟨r',Dd ::de.z,f'⟩ H' done ys/\nD t c f (oE own kp δ) (es.drop i) S'= .ok rest SF,
  ⟨es.length,rfl,Nat.zero_le _,Nat.le_refl _,aY,de.r,de.f,S1,[],vs,Pre.same (aX hD),w0,rfl,aN.nil,by simpa using h4⟩,?_⟩
 rintro i m ys H' ⟨rfl,hi,hy,hDl,r',f',S',done,rest,pv,w',rfl,rd,hc⟩;obtain⟨go,stop⟩:=ir ⟨r',Dd ::de.z,f'⟩ H' (toZ pv) w'.bs;have unZ:∀{Kn:P3} {H4:Hp},Pre ⟨r',Dd ::de.z,f'⟩ H' Kn H4->Pre de H1 ⟨Kn.r,de.z,Kn.f⟩ H4:=fun {Kn H4} p4=>⟨fun b o e nb=>by
  obtain⟨e1,n1⟩:=(toZ pv).br b o e nb;obtain⟨k4,n2⟩:=p4.br b o e1 n1;refine⟨k4,fun hb=>n2 ?_⟩
  rcases P3.dY.mp hb with z | z
  .exact P3.dY.mpr (.inl z)
  .exact P3.dY.mpr (.inr (by rw[p4.zz];exact List.mem_cons_of_mem _ z)),rfl,fun b o hb h=>p4.zs b o (List.mem_cons_of_mem _ hb) (pv.zs b o hb h),fun k a h=>p4.ext k a (pv.ext k a h)⟩
 by_cases hlt:i < es.length
 .have hd:es[i]? =some es[i]:=List.getElem?_eq_getElem hlt;have hdrop:es.drop i=es[i] ::es.drop (i+1):=List.drop_eq_getElem_cons hlt;rw[hdrop] at hc;unfold nD at hc;split at hc
  .cases hc
  .rename_i δ1 h6;obtain⟨b,T1,h7,h8⟩:=R3.ai hc;obtain⟨g1,g2⟩:=go i _ hd;refine .inr ⟨g1,fun x H2 y=>?_⟩
   obtain⟨sy,ry⟩:=g2 x H2 y;have Ec:gb K cl ⟨r',Dd ::de.z,f'⟩ H2 S' (dA own kp σ) (oE own kp δ):=Jh E (p1.pw.trans ((toZ pv).trans (Pre.same sy).pw)) (w'.same sy);refine⟨⟨r',Dd ::de.z,f'⟩,S',oE own kp δ,es[i],δ1,Ec,ry,h6,fun JP H3 s3 E3=>⟨⟨r',Dd ::de.z,f'⟩,S',δ1,b,T1,E3,h7,fun Kn H4 p4 w4=>?_⟩⟩
   have O1:Pre ⟨r',Dd ::de.z,f'⟩ H' Kn H4:=(Pre.same (sy.trans s3)).trans p4;cases b with
   | true=>
     rw[if_pos rfl] at h8;refine HR ?_;obtain⟨yv,T2,h9,RB⟩:=R3.ai h8;obtain⟨rs,T3,MU,O8⟩:=R3.ai RB;cases O8;refine⟨Kn,T1,δ1,yv,T2,E3.to p4 w4,h9,fun v5 S6 H5 p5 w5 r5=>?_⟩
     have pv5:Pre ⟨r',Dd ::de.z,f'⟩ H' S6 H5:=O1.trans p5;have RC:H5 Dd=some (.lst ys):=pv5.zs Dd _ List.mem_cons_self hDl;have u5:=unZ pv5;obtain⟨Pw,z5,f5⟩:=S6;have ez:z5=Dd ::de.z:=pv5.zz;subst ez;have nr:Dd ∉ Pw:=(w5.zb Dd List.mem_cons_self).2;have pw:PW ⟨Pw,Dd ::de.z,f5⟩ H5 ⟨Pw,Dd ::de.z,f5⟩ (upd H5 Dd (.lst (ys++[v5]))):=⟨fun b o e nb=>⟨by rw[bg (fun(z:b=Dd)=>nb (by rw[z];exact P3.dY.mpr (.inr List.mem_cons_self)))];exact e,nb⟩,fun _ _ h=>h⟩
     refine⟨RC,by omega,es.length - (i+1),by omega,rfl,hlt,by rw[List.length_append,List.length_singleton];omega,aY,Pw,f5,T2,done++[yv],rs,?_,?_,by simp,aN.append ((rd.pre pv5).pw pw) (aN.cons (r5.pw pw) aN.nil),MU⟩
     .refine⟨fun b o e nb=>⟨by rw[bg (cH e hD)];exact(u5.br b o e nb).1,(u5.br b o e nb).2⟩,rfl,fun b o hb h=>?_,u5.ext⟩
      rw[bg (cH h hD)];exact u5.zs b o hb h
     .refine⟨w5.len,w5.nd,fun k a o hk ho=>?_,fun b hb=>?_,w5.fz,fun b hb=>?_,w5.fi⟩
      .have ne:a≠Dd:=fun z=>nr (by rw[<-z];exact List.mem_of_getElem? hk)
       rw[bg ne];exact(w5.ob k a o hk ho).pw pw
      .obtain⟨⟨o,ho⟩,n⟩:=w5.zb b hb;refine⟨?_,n⟩;by_cases z:b=Dd
       .subst z;exact⟨_,aY⟩
       .rw [bg z];exact⟨o,ho⟩
      .obtain⟨o,ho⟩:=w5.ff b hb;by_cases z:b=Dd
       .subst z;exact⟨_,aY⟩
       .rw [bg z];exact⟨o,ho⟩
   | false=>
     rw[if_neg (by decide)] at h8
     refine JG ?_;have V2:H4 Dd=some (.lst ys):=O1.zs Dd _ List.mem_cons_self hDl;have u4:=unZ O1;obtain⟨Ve,z4,f4⟩:=Kn;have ez:z4=Dd ::de.z:=O1.zz;subst ez;exact⟨es.length - (i+1),by omega,rfl,hlt,by omega,V2,Ve,f4,T1,done,rest,u4,w4,rfl,rd.pre O1,h8⟩
 .have e:i=es.length:=by omega
  subst e;rw[List.drop_length] at hc;cases hc;rw[List.append_nil] at q;refine .inl ⟨stop,?_⟩;have back:PW ⟨r',Dd ::de.z,f'⟩ H' ⟨r',de.z,f'⟩ H':=⟨fun b o e nb=>⟨e,fun hb=>nb (by
   rcases P3.dY.mp hb with z | z
   .exact P3.dY.mpr (.inl z)
   .exact P3.dY.mpr (.inr (List.mem_cons_of_mem _ z)))⟩,fun _ _ h=>h⟩
  have wB:SW K cl ⟨r',de.z,f'⟩ H' _:=⟨w'.len,w'.nd,fun k a o hk ho=>(w'.ob k a o hk ho).pw back,fun b hb=>w'.zb b (List.mem_cons_of_mem _ hb),w'.fz,w'.ff,w'.fi⟩
  refine q _ ⟨r',de.z,f'⟩ H' (p1.trans pv) wB (wx (.inl ⟨fun hb=>?_, .inl hDl⟩) (rd.pw back))
  rcases P3.dY.mp hb with z | z
  .exact(w'.zb Dd List.mem_cons_self).2 z.1
  .exact nDz (P3.dY.mpr (.inr z))
end
end L3
end
section
namespace L3
open PySem PySem.Spec PyProof.Rows L2
section
variable {X:Cx} {cl:WN}
theorem Cd{scope:Scope}{own:List Str}{kp:List Nat}{kn:List Str}{tg iter elt:Expr}{ifs:List Expr}{it:FA}{t:FG}{c:FB}{f:FX}{pos:Pos}(hc:X.calm=true)(C:bt X scope own kp kn)(hi:NN X cl tg iter it)
 (hg:∀fp s H,ML (bc X scope (own++kn) fp s H) cl tg t) (vU:∀fp s H,o_ (bc X scope (own++kn) fp s H) ifs (Mn X.K cl c)) (he:∀fp s H,PX (bc X scope (own++kn) fp s H) cl elt f)
 (hs:∀x,foldedSetIterable iter X.env x=pure x:=by intro _;rfl):PX X cl (.ListComp elt [⟨tg,iter,ifs,0⟩] scope pos) (oH it t c f own kp):=
 ⟨(BG hc C hi.1 (fun fp s H=>(hg fp s H).1) vU (fun fp s H=>(he fp s H).1) hs).imp fun σ H Q h=>BP h⟩
def I_:FB:=fun _ S=> .ok true S
theorem wd:o_ X [] (Mn X.K cl I_):=fun pins s σ H Q I ⟨ρ,S,δ,b,S',E,hf,q⟩=>zi pins s σ H Q I (by cases hf;exact q ρ H (Pre.refl ρ H) E.sw)
theorem t6(h:Nu X cl e c):o_ X [e] (Mn X.K cl c):=yZ h.1
theorem EZ{K:W.Frag}{i:Nat}{D:Ends}{σ:L2.St}(h:sX K cl (cF i f) D σ H):Df (tX K cl f) (ve i) D σ H:=by
 obtain⟨ρ,S,δ,o,S',E,hf,q⟩:=h;obtain⟨v,S1,h1,h2⟩:=R3.ai hf;obtain⟨hi,h3⟩:=R3.ba h2;cases h3;refine⟨ρ,S,δ,v,_,E,h1,fun u de H1 p1 w1 r1=>?_⟩
 exact q _ de H1 p1 ((E.to p1 w1).set (by rw[<-E.len];exact of_decide_eq_true hi) r1)
theorem pE{i:Nat}{x:Str}{pos' iz:Pos}{scope:Scope}{own:List Str}{kp:List Nat}{kn:List Str}{tg iter elt:Expr}{ifs:List Expr}{it:FA}{t:FG}{c:FB}{f:FX}{pos:Pos}(hc:X.calm=true)
 (hN:X.N.Nodup) (hx:X.N[i]? =some x) (CL:X.env.scope.names.lookup x=some .local) (C:bt X scope own kp kn) (hi:NN X cl tg iter it)
 (hg:∀fp s H,ML (bc X scope (own++kn) fp s H) cl tg t) (vU:∀fp s H,o_ (bc X scope (own++kn) fp s H) ifs (Mn X.K cl c)) (he:∀fp s H,PX (bc X scope (own++kn) fp s H) cl elt f)
 (rD:swapsWith (.ListComp elt [⟨tg,iter,ifs,0⟩] scope pos) (some (.Name x pos')) iz.line X.env=pure true:=by rfl)
 (hs:∀x,foldedSetIterable iter X.env x=pure x:=by intro _;rfl):PZ X cl (.Assign [.Name x pos'] (.ListComp elt [⟨tg,iter,ifs,0⟩] scope pos) iz) (cF i (oH it t c f own kp)):=
 ⟨(mf hc hN hx CL C hi.1 (fun fp s H=>(hg fp s H).1) vU (fun fp s H=>(he fp s H).1) rD hs).imp fun D σ H h=>BP (EZ h)⟩
def Wh(g:FA):FX:=fun δ S=>(g δ S).bind fun vs S1=>match sV vs with
 | some ds=>R3.bz (decide (ds.length<=sizeLine)) (.ok (.loc S1.length) (S1++[.lst ds]))
 | none=> .no
end
end L3
end
section
namespace L3
open PySem PySem.Spec PyProof.Rows L2
section
variable {X:Cx} {cl:WN}
def xg(g:List D->R D)(fs:FA):FX:=fun δ S=>(fs δ S).bind fun vs S1=>match sV vs with
 | some ds=>(R3.of (g ds) S1).bind fun d S=> .ok (.d d) S
 | none=> .no
def V7(c:FB)(f g:FX):FX:=fun δ S=>(c δ S).bind fun b S=>if b then f δ S else g δ S
theorem bL:∀(δ:DE) (S:bu) (ds:List V3) (S':bu),fw δ S= .ok ds S'->ds.length=0:=fun δ S ds S' h=>by cases h;rfl
theorem aJ{g:FA}{n:Nat}(h:∀(δ:DE) (S:bu) (ds:List V3) (S':bu),g δ S= .ok ds S'->ds.length=n):∀(δ:DE) (S:bu) (ds:List V3) (S':bu),bE f g δ S= .ok ds S'->ds.length=n+1:=fun δ S ds S' e=>by
 obtain⟨v,S1,h1,h2⟩:=R3.ai e;obtain⟨vs,S2,h3,h4⟩:=R3.ai h2;cases h4;rw[List.length_cons,h δ S1 vs _ h3]
end
end L3
end
section
namespace L3
open PySem PySem.Spec PyProof.Rows L2
theorem wD{K:W.Frag}{ds:List V3}{xs:List V}{i:Int}{d:V3}(r:aN K ρ H ds xs)(h:u_ ds i=some d):∃x,u_ xs i=some x/\bo K ρ H d x:=by
 unfold u_ at h ⊢;rw[<-r.length];cases e:BD ds.length i with
 | none=>rw [e] at h;cases h
 | some j=>
   rw[e] at h;exact r.get h
section
variable {X:Cx} {cl:WN}
def M5(fa fb:FX):FX:=fun δ S=>(fa δ S).bind fun a S1=>(fb δ S1).bind fun b S2=>match a,b with
 | .d x, .d y=>(R3.of (cm x y) S2).bind fun d S=> .ok (.d d) S
 | .lst vs, .d (.int i)=>(match u_ vs i with | some v=> .ok v S2 | none=> .no)
 | .tup vs, .d (.int i)=>(match u_ vs i with | some v=> .ok v S2 | none=> .no)
 | _,_=> .no
theorem Kk(ha:PX X cl a fa)(hb:PX X cl b fb)(hs:tE b):PX X cl (.Subscript a b pos) (M5 fa fb):=by
 refine⟨(Kf (r:=QS X.K) Et ha.1 hb.1 hs).imp fun σ H Q ⟨ρ,S,δ,v,S',E,hf,q⟩=>?_⟩
 obtain⟨v1,S1,h1,h2⟩:=R3.ai hf;obtain⟨v2,S2,h3,h4⟩:=R3.ai h2;refine⟨ρ,S,δ,v1,S1,E,h1,fun u1 de H1 p1 w1 r1=>⟨de,S1,δ,v2,S2,E.to p1 w1,h3,fun u2 vm H2 p2 w2 r2=>?_⟩⟩
 have qz:=r1.pre p2;have O_:=p1.trans p2;split at h4
 .rename_i x y;obtain⟨d,S3,h5,h6⟩:=R3.ai h4;obtain⟨h7,e7⟩:=R3.of_ok h5;cases h6;subst e7;unfold bo at qz r2;unfold cm at h7;split at h7
  .split at h7
   .rename_i e;cases h7;obtain⟨p,xs,rfl,l,rs⟩:=Rep.lst.mp qz;obtain⟨y,e1,e2⟩:=p8 rs e;exact .inl ⟨p,xs,_,y,rfl,Rep.int.mp r2,l.sq,e1,q y vm H2 O_ w2 (by unfold bo;exact e2)⟩
   .cases h7
  .split at h7
   .rename_i e;cases h7;obtain⟨p,xs,rfl,l,rs⟩:=Rep.tup.mp qz;obtain⟨y,e1,e2⟩:=p8 rs e;exact .inr (.inl ⟨p,xs,_,y,rfl,Rep.int.mp r2,l.sq,e1,q y vm H2 O_ w2 (by unfold bo;exact e2)⟩)
   .cases h7
  .obtain⟨hl,h8⟩:=R.ba h7;split at h8
   .rename_i e;cases h8;exact .inr (.inr ⟨_,_,_,Rep.str.mp qz,Rep.int.mp r2,of_decide_eq_true hl,e,q _ vm H2 O_ w2 (by unfold bo;exact Rep.str.mpr rfl)⟩)
   .cases h8
  .cases h7
 .split at h4
  .rename_i e;cases h4;unfold bo at qz r2;obtain⟨p,xs,rfl,l,rs⟩:=qz;obtain⟨y,e1,e2⟩:=wD rs e;exact .inl ⟨p,xs,_,y,rfl,Rep.int.mp r2,l.sq,e1,q y vm H2 O_ w2 e2⟩
  .cases h4
 .split at h4
  .rename_i e;cases h4;unfold bo at qz r2;obtain⟨p,xs,rfl,l,rs⟩:=qz;obtain⟨y,e1,e2⟩:=wD rs e;exact .inr (.inl ⟨p,xs,_,y,rfl,Rep.int.mp r2,l.sq,e1,q y vm H2 O_ w2 e2⟩)
  .cases h4
 .cases h4
end
end L3
end
section
namespace L3
open PySem PySem.Spec PyProof.Rows L2
section
variable {X:Cx} {cl:WN}
structure Wm (X:Cx) (cl:WN) (e:Expr) (f:FB):Prop where
 go:L2.PW X e (Mn X.K cl f)
def TY(f g:FB):FB:=fun δ S=>(f δ S).bind fun b S=>if b then g δ S else .ok false S
def Wj(f g:FB):FB:=fun δ S=>(f δ S).bind fun b S=>if b then .ok true S else g δ S
def Ud(f:FB):FB:=fun δ S=>(f δ S).bind fun b S=> .ok (!b) S
def UD(f:FX):FB:=fun δ S=>(f δ S).bind fun v S=>match v with | .d d=>R3.of (LC d) S | _=> .no
abbrev MH:=DE->bu->R3 (Option Int)
def Uv(K:W.Frag)(cl:WN)(f:MH):TO:=fun σ H Q=>∃ρ S δ o S',gb K cl ρ H S σ δ/\f δ S= .ok o S'/\∀cY H',Pre ρ H cY H'->SW K cl cY H' S'->Q o H'
structure Wf (X:Cx) (cl:WN) (e:Option Expr) (f:MH):Prop where
 go:PO X e (Uv X.K cl f)
def P4:MH:=fun _ S=> .ok none S
def QF(f:FX):MH:=fun δ S=>(f δ S).bind fun v S=>match v with | .d (.int i)=> .ok (some i) S | _=> .no
def V_(f:FX)(fl fh:MH):FX:=fun δ S=>(f δ S).bind fun v S1=>(fl δ S1).bind fun lo S2=>(fh δ S2).bind fun hi S3=>match v with
 | .d d=>(R3.of (MK d lo hi) S3).bind fun r S=> .ok (.d r) S
 | _=> .no
end
end L3
end
section
namespace L2
open PySem PySem.Spec PyProof.Rows
section
variable {X:Cx}
def LY(t T:String):Bool:=t==T || (t=="bool" && T=="int")
def UM(T:String)(f:FD):FD:=fun δ=>(f δ).bind fun d=>match d with | .dct _ _=> .no | _=> .ok (.bl (LY (tyName d) T))
def nList(f:FD):au->R (List D):=fun δ=>(f δ).bind fun d=>match d with | .lst ds=> .ok ds | .tup ds=> .ok ds | _=> .no
end
end L2
namespace L3
open PySem PySem.Spec PyProof.Rows L2
theorem du{P:Program}{w:World}{K:W.Frag}{mg:WM}{base:Heap}{cl:WN}{x qual:Str}{st:Stmt}{f:Addr}{fd:FuncData}{N ps:List Str}{k:Nat}{F:FZ}{b:List Stmt}{sc:Scope}(hb:aP st=b)(hs:aC st=sc)(Fn:Cm K x qual st f fd)(S:aW N ps sc)
 (lO:∀(dI:Value) (A:Around) (outer:List Env) (s:Shared) (H:Hp) (E:XK),eB k (A.deeper (envOfC qual sc s.heap.objs.size f dI))->
   GJ (uU vI P w K mg base N qual sc f dI A outer s H E).Ig cl b F):js P w K mg base vI (k+1) f fd ps (Ff K cl ps.length (sE N F)):=by
 subst hb hs;exact HQ Fn S lO
theorem cJ.p{K:W.Frag}{mg:WM}{cl:WN}{k:Nat}{n:Nat}{N:List Str}(C:cJ P w K mg base cl k x n (sE N F)):cJ P w K mg base cl k x n (vv N F):=
 let⟨f,fd,ps,F,h⟩:=C;⟨f,fd,ps,F.imp fun _ _ _ _ h=>A8 h,h⟩
def Pm(N:List Str)(F:FZ):List D->R D:=fun ds=>match vv N F (ds.map .d) [] with
 | .ok (.d d) []=>R.bz d.atom (.ok d)
 | _=> .no
theorem KZ{K:W.Frag}{cl:WN}{N:List Str}{n:Nat}{vs:List V}{Q:VK}{E:XK}(h:Gy K n (Pm N F) vs H Q E):Ff K cl n (sE N F) vs H Q E:=by
 obtain⟨hl,B,ds,d,hb,r,hg,q⟩:=h;unfold Pm at hg;split at hg
 .rename_i d' e;obtain⟨ha,h2⟩:=R.ba hg;cases h2;have r0:az K (⟨[],[],[]⟩:P3).b H ds vs:=r.br fun b o e _=>⟨e,by simp [P3.b]⟩
  refine A8 ⟨hl,⟨[],[],[]⟩,[],ds.map .d, .d d,[],⟨rfl,fun i j a hi=>by simp at hi,fun k a o hk=>by simp at hk,fun b hb=>by simp at hb,fun k a hk=>by simp at hk,fun b hb=>by simp at hb,fun k a hk=>by simp at hk⟩,aN.of r0,e,fun u cY H' p w' r'=>q u H' (fun b o eb=>?_) ?_⟩
  .exact(p.br b o eb (by simp [P3.b])).1
  .unfold bo at r';exact r'.atom ha
 .cases hg
section
variable {X:Cx} {cl:WN}
theorem zG{g:List D->R D}{k j n:Nat}{x:Str}{p pos:Pos}{e:Expr}{es:List Expr}{fs:FA}(C:Callee X.prog X.w X.K X.mg X.base k x n g)(hr:eB j X.A)(G8:k<=j)(hg:Gl X x)(ha:IJ X cl (e ::es) fs)
 (hn:∀δ S ds S',fs δ S= .ok ds S'->ds.length=n) (rB:(x==("__debug__":Str))=false:=by decide) (he:starEach (e ::es) X.env=(false,eval e X.env) ::starEach es X.env:=by rfl) (my:(backTo pos (starEach es X.env)).any (·.1)=false:=by rfl) :
 PX X cl (.Call (.Name x p) (e ::es) [] pos) (xg g fs):=by
 obtain⟨f,fd,ps,F,hm,hk,hb⟩:=C;refine⟨(xS F (hr.mono G8) hg hm hk hb .nil zd ha.1 rB he my).imp fun σ H Q ⟨ρ,S,δ,v,S',E,hf,q⟩=>?_⟩
 obtain⟨vs,S1,h1,h2⟩:=R3.ai hf;split at h2
 .rename_i ds e;obtain⟨d,S2,h3,h4⟩:=R3.ai h2;obtain⟨h5,e5⟩:=R3.of_ok h3;cases h4;subst e5;refine⟨ρ,S,δ,vs,_,E,h1,fun us de H1 p1 w1 r1=>?_⟩
  have hl:=hn δ S vs _ h1;rw[lA e] at r1;show Gy X.K n g (us++[]) H1 Q E0;rw[List.append_nil];exact⟨by rw[<-r1.length,<-lA e];exact hl,de.b,ds,d,w1.bs,r1.to,h5,fun z H' s r=>q z de H' (p1.trans (Pre.same s)) (w1.same s) (by unfold bo;exact r)⟩
 .cases h2
def QM(f:FX):FA:=fun δ S=>(f δ S).bind fun v S=>match v with | .d (.tup ds)=> .ok (ds.map .d) S | .tup vs=> .ok vs S | _=> .no
end
end L3
end
section
namespace L3
open PySem PySem.Spec PyProof.Rows L2
def W3{α:Type}(r:R3 α)(Q:α->bu->Prop):Prop:=∃a S,r= .ok a S/\Q a S
section
variable {α β:Type} {Q Q':α->bu->Prop} {S:bu} {δ:DE}
theorem W3.ok{a:α}(h:Q a S):W3 (.ok a S) Q:=⟨a,S,rfl,h⟩
theorem W3.bind{Q:β->bu->Prop}{r:R3 α}{f:α->bu->R3 β}(h:W3 r fun a S=>W3 (f a S) Q):W3 (r.bind f) Q:=by
 obtain⟨a,S1,e1,b,S2,h2,q⟩:=h;exact⟨b,S2,by rw[e1];exact h2,q⟩
theorem W3.mono{r:R3 α}(h:W3 r Q)(m:∀a S,Q a S->Q' a S):W3 r Q':=let⟨a,S,e,q⟩:=h;⟨a,S,e,m a S q⟩
theorem W3.wh{c:Bool}{r:R3 α}(hc:c=true)(h:W3 r Q):W3 (R3.bz c r) Q:=by rw[hc];exact h
theorem W3.of{r:R α}{a:α}(e:r= .ok a)(h:Q a S):W3 (R3.of r S) Q:=by rw[e];exact⟨a,S,rfl,h⟩
end
section
variable {S:bu} {δ:DE} {QV:V3->bu->Prop} {QB:Bool->bu->Prop} {QA:List V3->bu->Prop} {QO:Ou->bu->Prop}
theorem dc{f:FD}{d:D}(e:f (down δ)= .ok d)(h:QV (.d d) S):W3 (xP f δ S) QV:=W3.bind (W3.of e (W3.ok h))
theorem Oc{f:FD}{d:D}(e:f (dq S δ)= .ok d)(ha:yA d=true)(h:QV (.d d) S):W3 (xT f δ S) QV:=W3.bind (W3.of e (W3.wh ha (W3.ok h)))
theorem ot{f:au->R Bool}{b:Bool}(e:f (down δ)= .ok b)(h:QB b S):W3 (bP f δ S) QB:=W3.of e h
theorem Np{f:au->R Bool}{b:Bool}(e:f (dq S δ)= .ok b)(h:QB b S):W3 (bT f δ S) QB:=W3.of e h
theorem w_var{i:Nat}{v:V3}(e:δ[i]? =some (some v))(h:QV v S):W3 (hJ i δ S) QV:=by unfold hJ;rw [e];exact W3.ok h
theorem rV{f:au->R (List D)}{ds:List D}(e:f (down δ)= .ok ds)(h:QV (.loc S.length) (S++[.lst ds])):W3 (sQ f δ S) QV:=W3.bind (W3.of e (W3.ok h))
theorem dX(h:QA [] S):W3 (fw δ S) QA:=W3.ok h
theorem bb{f:FX}{g:FA}(h:W3 (f δ S) fun v S1=>W3 (g δ S1) fun vs S2=>QA (v ::vs) S2):W3 (bE f g δ S) QA:=W3.bind (h.mono fun _ _ h=>W3.bind (h.mono fun _ _ h=>W3.ok h))
theorem Kb{g:FA}(h:W3 (g δ S) fun vs S1=>vs.length<=sizeLine/\QV (CH vs) S1):W3 (HK g δ S) QV:=W3.bind (h.mono fun _ _ h=>W3.wh (decide_eq_true h.1) (W3.ok h.2))
theorem Nx{g:FA}(h:W3 (g δ S) fun vs S1=>vs.length<=sizeLine/\QV (vc vs) S1):W3 (K9 g δ S) QV:=W3.bind (h.mono fun _ _ h=>W3.wh (decide_eq_true h.1) (W3.ok h.2))
theorem Nw{g:D->D->R D}{fa fb:FX}(h:W3 (fa δ S) fun a S1=>W3 (fb δ S1) fun b S2=>∃x y d,a= .d x/\b= .d y/\g x y= .ok d/\QV (.d d) S2):W3 (x2 g fa fb δ S) QV:=
 W3.bind (h.mono fun _ _ h=>W3.bind (h.mono fun _ _ ⟨_,_,_,e1,e2,e3,q⟩=>by subst e1 e2;exact W3.bind (W3.of e3 (W3.ok q))))
theorem Qj{g:D->D->R D}{fa fb:FX}(h:W3 (fa δ S) fun a S1=>W3 (fb δ S1) fun b S2=>∃x y k,a= .d x/\b= .d y/\g x y= .ok (.bl k)/\QB k S2):W3 (P7 g fa fb δ S) QB:=
 W3.bind (Nw (h.mono fun _ _ h=>h.mono fun _ _ ⟨x,y,k,e1,e2,e3,q⟩=>⟨x,y, .bl k,e1,e2,e3,W3.ok q⟩))
theorem Qb{fa fb:FX}(h:W3 (fa δ S) fun a S1=>W3 (fb δ S1) fun b S2=>∃x y d,a= .d x/\b= .d y/\cm x y= .ok d/\QV (.d d) S2):W3 (M5 fa fb δ S) QV:=
 W3.bind (h.mono fun _ _ h=>W3.bind (h.mono fun _ _ ⟨_,_,_,e1,e2,e3,q⟩=>by subst e1 e2;exact W3.bind (W3.of e3 (W3.ok q))))
theorem eQ{g:List V3->bu->R3 V3}{fs:FA}(h:W3 (fs δ S) fun vs S1=>W3 (g vs S1) QV):W3 (gA g fs δ S) QV:=W3.bind h
theorem Cr{g:List D->R D}{fs:FA}(h:W3 (fs δ S) fun vs S1=>∃ds d,vs=ds.map .d/\g ds= .ok d/\QV (.d d) S1):W3 (xg g fs δ S) QV:=
 W3.bind (h.mono fun _ _ ⟨ds,_,e1,e2,q⟩=>by subst e1;rw [uR];exact W3.bind (W3.of e2 (W3.ok q)))
theorem KN{it:FA}{own:List Str}{kp:List Nat}(h:W3 (it δ S) fun vs S1=>vs.length<=sizeLine/\W3 (nD t c f (oE own kp δ) vs S1) fun ys S2=>QV (vc ys) S2):W3 (oH it t c f own kp δ S) QV:=
 W3.bind (h.mono fun _ _ h=>W3.wh (decide_eq_true h.1) (W3.bind (h.2.mono fun _ _ h=>W3.ok h)))
theorem aZ{F G:FZ}(h:W3 (F δ S) fun o S1=>∃δ1,o= .nx δ1/\W3 (G δ1 S1) QO):W3 (bH F G δ S) QO:=W3.bind (h.mono fun _ _ ⟨_,e,h⟩=>by subst e;exact h)
theorem Gr{F G:FZ}(h:W3 (F δ S) fun o S1=>∃v,o= .rt v/\QO (.rt v) S1):W3 (bH F G δ S) QO:=W3.bind (h.mono fun _ _ ⟨_,e,h⟩=>by subst e;exact W3.ok h)
theorem bQ{i:Nat}{f:FX}(hi:i < δ.length)(h:W3 (f δ S) fun v S1=>QO (.nx (δ.set i (some v))) S1):W3 (cF i f δ S) QO:=W3.bind (h.mono fun _ _ h=>W3.wh (decide_eq_true hi) (W3.ok h))
theorem jJ{f:FX}(h:W3 (f δ S) fun v S1=>QO (.rt v) S1):W3 (lJ f δ S) QO:=W3.bind (h.mono fun _ _ h=>W3.ok h)
theorem oj{c:FB}{F G:FZ}(h:W3 (c δ S) fun b S1=>if b then W3 (F δ S1) QO else W3 (G δ S1) QO):W3 (zH c F G δ S) QO:=W3.bind (h.mono fun b _ h=>by cases b <;> exact h)
theorem gG(h:QO (.nx δ) S):W3 (nJ δ S) QO:=W3.ok h
theorem om{f:au->R (List D)}{ds:List D}(e:f (down δ)= .ok ds)(h:QA (ds.map .d) S):W3 (iP f δ S) QA:=W3.bind (W3.of e (W3.ok h))
theorem K_{f:FX}(h:W3 (f δ S) fun v S1=>∃n:Nat,v= .d (.int n)/\n < 1000000/\QA ((fG 0 n).map .d) S1):W3 (yY f δ S) QA:=W3.bind (h.mono fun _ _ ⟨n,e,hn,q⟩=>by
 subst e;refine W3.wh (decide_eq_true ⟨by omega,by omega⟩) (W3.ok ?_)
 rw[Int.toNat_natCast];exact q)
theorem mK{it:FA}(h:W3 (it δ S) fun vs S1=>W3 (nM t F vs δ S1) QO):W3 (p_ it t F δ S) QO:=W3.bind h
theorem uZ{i k:Nat}{f:FX}(hk:δ[i]? =some (some (.loc k)))(h0:∃ds,S[k]? =some (.lst ds))(h:W3 (f δ S) fun v S1=>∃d ds,v= .d d/\S1[k]? =some (.lst ds)/\ds.length < sizeLine/\QO (.nx δ) (S1.set k (.lst (ds++[d])))):W3 (pd i f δ S) QO:=by
 obtain⟨es,h0⟩:=h0;unfold pd;have e1:ko δ i=some k:=by unfold ko;rw [hk]
 have e2:dn S k=some es:=by unfold dn;simp only[h0]
 rw[e1];show W3 (match dn S k with | none=>_ | some _=>_) _
 rw[e2];refine W3.bind (h.mono fun v S1 ⟨d,ds,e,h1,hl,q⟩=>?_)
 subst e;have e3:dn S1 k=some ds:=by unfold dn;simp only[h1]
 show W3 (match dn S1 k with | some ds=>_ | none=>_) _
 rw[e3];exact W3.wh (decide_eq_true hl) (W3.ok q)
theorem J1{fo fi fe:FX}(h:W3 (fe δ S) fun v S1=>W3 (fo δ S1) fun o S2=>W3 (fi δ S2) fun j S3=>∃d k n ds m,v= .d d/\o= .loc k/\j= .d (.int n)/\S3[k]? =some (.lst ds)/\BD ds.length n=some m/\QO (.nx δ) (S3.set k (.lst (ds.set m d)))):W3 (IA fo fi fe δ S) QO:=
 W3.bind (h.mono fun _ _ h=>W3.bind (h.mono fun _ _ h=>W3.bind (h.mono fun _ S3 ⟨d,k,n,ds,m,e1,e2,e3,h1,h2,q⟩=>by
  subst e1 e2 e3;have e3:dn S3 k=some ds:=by unfold dn;simp only[h1]
  show W3 (match dn S3 k with | some ds=>_ | none=>_) _
  rw[e3];show W3 (match BD ds.length n with | some m=>_ | none=>_) _
  rw[h2];exact W3.ok q)))
theorem tM{t:FG}{body:FZ}:∀(vs:List V3) (n:Nat) (P:Nat->DE->bu->Prop) {δ:DE} {S:bu},P n δ S->
 (∀i v δ S,vs[i]? =some v->P (n+i) δ S->∃δ1,t v δ=some δ1/\W3 (body δ1 S) fun o S1=>∃fU,o= .nx fU/\P (n+i+1) fU S1)->W3 (nM t body vs δ S) fun o S1=>∃fU,o= .nx fU/\P (n+vs.length) fU S1
 | [],n,P,δ,S,h0,_=>W3.ok ⟨δ,rfl,h0⟩
 | v ::vs,n,P,δ,S,h0,hs=>by
   obtain⟨δ1,e1,o,S1,e2,fU,rfl,p2⟩:=hs 0 v δ S rfl h0;have ih:=tM vs (n+1) P p2 (fun i v' eh S' hi hp=>by
    have:=hs (i+1) v' eh S' (by simpa using hi) (by rw[show n+(i+1)=n+1+i by omega];exact hp)
    rw[show n+(i+1)+1=n+1+i+1 by omega] at this
    exact this)
   rw[show n+1+vs.length=n+(v ::vs).length by rw[List.length_cons];omega] at ih
   unfold nM;rw[e1];refine W3.bind ⟨_,_,e2,?_⟩;exact ih
theorem dQ{t:FG}{body:FZ}{vs:List V3}(P:Nat->DE->bu->Prop){δ:DE}{S:bu}(h0:P 0 δ S)
 (hs:∀i v δ S,vs[i]? =some v->P i δ S->∃δ1,t v δ=some δ1/\W3 (body δ1 S) fun o S1=>∃fU,o= .nx fU/\P (i+1) fU S1):W3 (nM t body vs δ S) fun o S1=>∃fU,o= .nx fU/\P vs.length fU S1:=by
 have:=tM (t:=t) (body:=body) vs 0 P h0 (fun i v δ S hi hp=>by simpa using hs i v δ S hi (by simpa using hp))
 simpa using this
theorem uX{t:FG}{c:FB}{f:FX}{δ:DE}:∀(vs:List V3) (n:Nat) (P:Nat->List V3->bu->Prop) {ys:List V3} {S:bu},P n ys S->
 (∀i v ys S,vs[i]? =some v->P (n+i) ys S->∃δ1,t v δ=some δ1/\W3 (c δ1 S) fun b S1=>if b then W3 (f δ1 S1) fun y S2=>P (n+i+1) (ys++[y]) S2 else P (n+i+1) ys S1)->W3 (nD t c f δ vs S) fun zs S1=>P (n+vs.length) (ys++zs) S1
 | [],n,P,ys,S,h0,_=>W3.ok (by rw[List.append_nil];exact h0)
 | v ::vs,n,P,ys,S,h0,hs=>by
   obtain⟨δ1,e1,b,S1,e2,h2⟩:=hs 0 v ys S rfl h0;have ih:∀{ON S'},P (n+1) ON S'->W3 (nD t c f δ vs S') fun zs S1=>P (n+(v ::vs).length) (ON++zs) S1:=fun {ON S'} p=>by
    have:=uX (t:=t) (c:=c) (f:=f) (δ:=δ) vs (n+1) P p (fun i v' ON S' hi hp=>by
     have:=hs (i+1) v' ON S' (by simpa using hi) (by rw[show n+(i+1)=n+1+i by omega];exact hp)
     rw[show n+(i+1)+1=n+1+i+1 by omega] at this
     exact this)
    rw[show n+1+vs.length=n+(v ::vs).length by rw[List.length_cons];omega] at this
    exact this
   unfold nD;rw[e1];refine W3.bind ⟨b,S1,e2,?_⟩;cases b with
   | true=>
     rw[if_pos rfl] at h2 ⊢;exact W3.bind (h2.mono fun y S2 p=>W3.bind ((ih p).mono fun zs S3 q=>W3.ok (by rw[List.append_assoc] at q;exact q)))
   | false=>rw [if_neg (by decide)] at h2 ⊢;exact ih h2
theorem Dz{t:FG}{c:FB}{f:FX}{δ:DE}{vs:List V3}(P:Nat->List V3->bu->Prop){S:bu}(h0:P 0 [] S)
 (hs:∀i v ys S,vs[i]? =some v->P i ys S->∃δ1,t v δ=some δ1/\W3 (c δ1 S) fun b S1=>if b then W3 (f δ1 S1) fun y S2=>P (i+1) (ys++[y]) S2 else P (i+1) ys S1):W3 (nD t c f δ vs S) fun zs S1=>P vs.length zs S1:=by
 have:=uX (t:=t) (c:=c) (f:=f) (δ:=δ) vs 0 P h0 (fun i v ys S hi hp=>by simpa using hs i v ys S hi (by simpa using hp))
 simpa using this
theorem J3{QB:Bool->bu->Prop}(h:QB true S):W3 (I_ δ S) QB:=W3.ok h
theorem Ei{N:List Str}{F:FZ}{vs:List V3}{δ:DE}(e:dC N vs=δ)(h:W3 (F δ S) fun o S1=>∃v,o= .rt v/\QV v S1):W3 (sE N F vs S) QV:=by
 subst e;exact W3.bind (h.mono fun _ _ ⟨_,e,q⟩=>by subst e;exact W3.ok q)
def Sj(S:bu):Prop:=∀o∈S,∃ds,o=SO.lst ds
end
section
variable {S:bu} {δ:DE} {QV:V3->bu->Prop}
theorem qv{it:FA}{t:FG}{c:FB}{f:FX}{own:List Str}{kp:List Nat}(P:Nat->List D->bu->Prop)(h:W3 (it δ S) fun vs S1=>vs.length<=sizeLine/\P 0 [] S1/\
 (∀i v ds S2,vs[i]? =some v->P i ds S2->∃δ1,t v (oE own kp δ)=some δ1/\W3 (c δ1 S2) fun b S3=>if b then W3 (f δ1 S3) fun y S4=>∃d,y= .d d/\P (i+1) (ds++[d]) S4 else P (i+1) ds S3)/\
 ∀ds S2,P vs.length ds S2->QV (.d (.lst ds)) S2):W3 (oH it t c f own kp δ S) QV:=by
 refine KN (h.mono fun vs S1 ⟨hl,h0,hs,hq⟩=>⟨hl,?_⟩)
 refine(Dz (fun i ys S=>∃ds,ys=ds.map V3.d/\P i ds S) ⟨[],rfl,h0⟩ ?_).mono fun zs S2 ⟨ds,e,p⟩=>?_
 .rintro i v ys S2 hv ⟨ds,rfl,p⟩;obtain⟨δ1,e1,h1⟩:=hs i v ds S2 hv p;refine⟨δ1,e1,h1.mono fun b S3 h3=>?_⟩
  cases b with
  | true=>
    rw[if_pos rfl] at h3 ⊢;exact h3.mono fun y S4 ⟨d,e,p⟩=>by subst e;exact⟨ds++[d],by simp,p⟩
  | false=>rw [if_neg (by decide)] at h3 ⊢;exact⟨ds,rfl,h3⟩
 .subst e;unfold vc;rw[uR];exact hq ds S2 p
structure pz (n:Nat) (d:D):Prop where
 pl:ik d=true
 ly:(toPy d).canLay0=true
 dp:(toPy d).depth<=n
theorem pz.int(i:Int):pz 0 (.int i):=⟨by unfold ik;rfl,by unfold toPy PyData.canLay0;rfl,by unfold toPy PyData.depth;omega⟩
theorem pz.str(h:(PyData.str s).canLay0=true):pz 0 (.str s):=⟨by unfold ik;rfl,by unfold toPy;exact h,by unfold toPy PyData.depth;omega⟩
theorem pz.mono{n m:Nat}{d:D}(h:pz n d)(hm:n<=m):pz m d:=⟨h.pl,h.ly,Nat.le_trans h.dp hm⟩
theorem pz.all{n:Nat}:∀{ds:List D},(∀d∈ds,pz n d)->ku ds=true/\PyData.canLayAll0 (mD ds)=true/\PyData.depthAll (mD ds)<=n
 | [],_=>⟨by unfold ku;rfl,by unfold mD PyData.canLayAll0;rfl,by unfold mD PyData.depthAll;omega⟩
 | d ::ds,h=>by
   obtain⟨h1,h2,h3⟩:=pz.all (ds:=ds) fun x hx=>h x (List.mem_cons_of_mem _ hx)
   have f:=h d List.mem_cons_self;refine⟨by unfold ku;rw [f.pl,h1];rfl,by unfold mD PyData.canLayAll0;rw [f.ly,h2];rfl,?_⟩
   unfold mD PyData.depthAll;have:=f.dp;omega
theorem pz.tup{n:Nat}{ds:List D}(h:∀d∈ds,pz n d):pz (n+1) (.tup ds):=by
 obtain⟨h1,h2,h3⟩:=pz.all h;exact⟨by unfold ik;exact h1,by unfold toPy PyData.canLay0;exact h2,by unfold toPy PyData.depth;omega⟩
theorem pz.sh{n:Nat}{d:D}(h:pz n d)(hn:n<=64):SeqAt.shaped (toPy d)=true:=by
 unfold SeqAt.shaped;rw[h.ly,decide_eq_true (Nat.le_trans h.dp hn)];rfl
theorem Gs{d e:List D}:Ki (.tup d) (.tup e)=R.bz (ik (.tup d) && ik (.tup e) && SeqAt.shaped (toPy (.tup d)) && SeqAt.shaped (toPy (.tup e))) (.ok (PyData.eqv (toPy (.tup d)) (toPy (.tup e)))):=rfl
theorem pz.eqT{n:Nat}{ds:List D}(h:pz n (.tup ds))(hn:n<=64):Ki (.tup ds) (.tup ds)= .ok true:=by
 rw[Gs,h.pl,h.sh hn,SeqAt.eqv_refl _ h.ly];rfl
end
end L3
end
section
namespace L2
open PySem PySem.Spec PyProof.Rows
section
variable {X:Cx}
def JY:D->Bool | .cX=>true | _=>false
def Wo(d e:D):R D:=match e with | .cX=> .ok (.bl (JY d)) | _=> .no
def TF(d e:D):R D:=match e with | .cX=> .ok (.bl (!JY d)) | _=> .no
def N9:List D->R D
 | [.str x]=>R.bz (decide (x.length<=640)) (match PySem.intText? x with | some n=> .ok (.int n) | none=> .no)
 | _=> .no
def RZ(ds:List D):R D:=match ds with | [.str _]=>N9 ds | _=>cInt ds
def OF(f:FD):FD:=fun δ=>(f δ).bind fun d=>match d with | .int i=> .ok (.int (-i)) | _=> .no
theorem HH(h:QD X a f):QD X (.UnaryOp .USub a pos) (OF f):=⟨(Nz Mo h.1).imp fun σ H Q ⟨Z,B,δ,d,E,hf,q⟩=>by
 obtain⟨d1,h1,h2⟩:=R.ai hf;split at h2
 .cases h2;exact⟨Z,B,δ,_,E,h1,fun v H1 s1 r1=>⟨_,Rep.int.mp r1,q _ H1 s1 (Rep.int.mpr rfl)⟩⟩
 .cases h2⟩
def Sn(d:D)(ds:List D):R D:=match d,ds with
 | .str x,[.str y]=> .ok (.int (Txt.find x y))
 | _,_=> .no
def UE(aL:List (Str × Str)):D:= .dct (aL.map fun p=>Sum.inr p.1) (aL.map fun p=> .str p.2)
def We(aL:List (Str × Str)):List (Key × V):=aL.map fun p=>((Sum.inr p.1:Key),V.str p.2)
def Ub(d k:D):R D:=match d,k with
 | .dct ks ds, .str x=>(match (ks.zip ds).find? fun p=>decide (p.1=Sum.inr x) with | some p=> .ok p.2 | none=> .no)
 | _,_=> .no
theorem rY{K:W.Frag}{B:List Addr}{k:Key}{v:Key × D}:∀{aL:List (Key × V)} {ds:List D},az K B H ds (aL.map (·.2))->(((aL.map (·.1)).zip ds).find? fun p=>decide (p.1=k))=some v->∃x,kB aL k=some x/\Rep K B H v.2 x
 | [],ds,r,h=>by simp at h
 | (k1,v1) ::aL,[],r,h=>by simp at h
 | (k1,v1) ::aL,d ::ds,r,h=>by
   obtain⟨x,xs,e,r1,r2⟩:=r.cn;cases e;rw[List.map_cons,List.zip_cons_cons,List.find?_cons] at h;unfold kB;rw[List.find?_cons];by_cases hk:k1=k
   .have e1:decide (k1=k)=true:=decide_eq_true hk;simp only[e1] at h ⊢;cases h;exact⟨_,rfl,r1⟩
   .have e1:decide (k1=k)=false:=decide_eq_false hk;simp only[e1] at h ⊢;exact rY r2 h
end
theorem Ni{K:W.Frag}{mg:WM}{k n:Nat}{f:Addr}{fd:FuncData}{ps:List Str}:js P w K mg base vI k f fd ps (Gy K n fun _=> .no):=
 ⟨fun vs H Q E h=>(by obtain⟨_,_,_,_,_,_,h,_⟩:=h;cases h),fun A outer s H args us vs Q E _ _ _ _ h=>(by obtain⟨_,_,_,_,_,_,h,_⟩:=h;cases h)⟩
end L2
namespace L3
open PySem PySem.Spec PyProof.Rows L2
section
variable {X:Cx} {cl:WN}
def Su(f:FX):FB:=fun δ S=>(f δ S).bind fun v S=>match v with | .d (.bl b)=> .ok b S | _=> .no
def TU(f g:FX):FX:=fun δ S=>(Su f δ S).bind fun b S=>if b then g δ S else .ok (.d (.bl false)) S
def Wg(f g:FX):FX:=fun δ S=>(Su f δ S).bind fun b S=>if b then .ok (.d (.bl true)) S else g δ S
def xj(i:Nat)(F:FZ):FZ:=fun δ S=>match ko δ i with
 | some k=>(match dn S k with | some ds=>F (δ.set i (some (.d (.lst ds)))) (S.set k .kL) | none=> .no)
 | none=> .no
theorem s_(i:Nat)(h:GJ X cl Km F):GJ X cl Km (xj i F):=⟨h.1.imp fun D σ H ⟨ρ,S,δ,o,S',E,hf,q⟩=>by
 unfold xj at hf;split at hf
 .rename_i k hk;split at hf
  .rename_i ds hds;obtain⟨v,v1,v2⟩:=E.val i _ (pe hk);unfold bo at v2;obtain⟨a,a1,rfl⟩:=v2;obtain⟨w,p,r⟩:=E.sw.kL a1 (ib hds);have E1:gb X.K cl ⟨ρ.r,ρ.z,a ::ρ.f⟩ H (S.set k .kL) σ (δ.set i (some (.d (.lst ds)))):=⟨by rw[List.length_set];exact E.len,w,fun j d e=>by
    by_cases h:i=j
    .subst h;rw[List.getElem?_set_self (by obtain⟨h1,_⟩:=List.getElem?_eq_some_iff.mp (pe hk);exact h1)] at e
     cases e;exact⟨_,v1,by unfold bo;exact r⟩
    .rw [List.getElem?_set_ne h] at e;obtain⟨u,u1,u2⟩:=E.val j d e;exact⟨u,u1,u2.pre p⟩⟩
   exact⟨_,_,_,o,S',E1,hf,q.pre p⟩
  .cases hf
 .cases hf⟩
theorem CI{i k:Nat}{ds:List D}{F:FZ}{δ:DE}{S:bu}{QO:Ou->bu->Prop}(hk:δ[i]? =some (some (.loc k)))(hS:S[k]? =some (.lst ds))(h:W3 (F (δ.set i (some (.d (.lst ds)))) (S.set k .kL)) QO):W3 (xj i F δ S) QO:=by
 unfold xj;have e1:ko δ i=some k:=by unfold ko;rw [hk]
 have e2:dn S k=some ds:=by unfold dn;simp only[hS]
 simp only[e1,e2];exact h
end
def Flat(S:bu):Prop:=∀o∈S,∀n,Ag n o=true
theorem Flat.nil:Flat []:=fun o ho=>by cases ho
end L3
end
section
namespace PySem
open Sem (wp)
open AutoSeq1 (wpAny_loadPart')
section
variable {prog:Program} {w:World} {A:Around} {E:WI} {s:Shared}
end
end PySem
namespace L2
open PySem PySem.Spec PyProof.Rows
section
variable {X:Cx}
def Pj(f:FD):FD:=fun δ=>(f δ).bind fun d=>match d with
 | .int j=>R.bz (decide (-(2 ^ 62)<=j/\j < 16777216)) (.ok (.tup (fG 0 j.toNat)))
 | _=> .no
theorem Ac{n:Nat}{acc:Array Value}(h:ItemsOf (fun i v=>∃t,v=Value.int (0+(i:Int)*1) t) acc n):Vals ((List.range n).map fun(i:Nat)=>V.int (0+(i:Int))) acc.toList:=by
 obtain⟨hl,h⟩:=h;have gen:∀(l:List Value) (m:Nat),(∀j v,l[j]? =some v->∃t,v=Value.int (((m+j:Nat):Int)) t)->Vals ((List.range' m l.length).map fun(i:Nat)=>V.int (0+(i:Int))) l:=by
  intro l
  induction l with
  | nil=>intro m _;exact .nil
  | cons x l ih=>
    intro m hv;rw[List.length_cons,List.range'_succ,List.map_cons];obtain⟨t,e⟩:=hv 0 x rfl;refine .cons ⟨t,by rw[e];simp⟩ (ih (m+1) fun j v hj=>?_)
    obtain⟨t,e⟩:=hv (j+1) v (by simpa using hj)
    exact⟨t,by rw[e];congr 1;omega⟩
 have:=gen acc.toList 0 fun j v hj=>by
  obtain⟨t,e⟩:=h j v (by rw[<-hj];simp)
  exact⟨t,by rw[e];congr 1;omega⟩
 rw[<-hl,List.range_eq_range'];simpa using this
theorem zD{K:W.Frag}{B:List Addr}:∀l:List Nat,az K B H (l.map fun(i:Nat)=>D.int (0+(i:Int))) (l.map fun(i:Nat)=>V.int (0+(i:Int)))
 | []=>az.nil
 | i ::l=>az.cons (Rep.int.mpr rfl) (zD l)
end
end L2
end
section
namespace PySem
open Sem (wp)
open AutoSeq1 (wpAny_loadPart')
section
variable {prog:Program} {w:World} {A:Around} {E:WI} {s:Shared}
theorem mH{it l:Addr}{i:Nat}{items:Array Value}{x:Value}{Q:WI}(hit:s.heap.IsTupleIter it l i)(hl:s.heap.IsTuple l items)(hx:items[i]? =some x)
 (hQ:∀h',h'.IsTupleIter it l (i+1)->Heap.SameBut it s.heap h'->Q x {s with heap:=h'}):wpAny (model prog w) A (Builtin.SmallTypes.nextOf (.ref it)) Q E s:=by
 obtain⟨o,ho,hc,hd⟩:=id hit;obtain⟨ol,hol,_,nl,hdl⟩:=hl;unfold Builtin.SmallTypes.nextOf;refine wpAny_bind (wpAny_callSpecial?_slot (name:="__next__") hit.typeIs F.slot_tuple_iterator_next (wpAny_call_entry F.slot_tuple_iterator_next hit.typeIs F.entry_tuple_iterator_next ?_ (F.args_tuple_iterator_next_1 _)));show wpAny _ _ (field (.ref it) 0 >>=_) _ _ s;refine wpAny_bind (wpAny_field ho hd (x:= .ref l) rfl ?_);show wpAny _ _ (if(Value.ref l==Value.none)=true then _ else _) _ _ s;rw [if_neg (show ¬((Value.ref l==Value.none)=true) from Bool.false_ne_true)]
 show wpAny _ _ (field (.ref it) 1 >>=_) _ _ s;refine wpAny_bind (wpAny_field ho hd (x:= .int i 0) rfl ?_);show wpAny _ _ (seqItems? (.ref l) >>=_) _ _ s;refine wpAny_bind (wpAny_seqItems hol hdl ?_);simp only[Int.toNat_natCast,hx];refine wpAny_bind (wpAny_setField ho hd (by simp) (wpAny_pure ⟨x,rfl,wpAny_pure (hQ _ ⟨_,Heap.get?_update_self _ ho (Obj.isFreed_of_fields (Obj.data_mapFields hd _)),(Obj.cls_mapFields ..).trans hc,by rw[Obj.data_mapFields hd];simp [rawInt]⟩ (Heap.SameBut.update ..))⟩))
theorem jU{it l:Addr}{i:Nat}{items:Array Value}{Q:WI}(hh:A.handled=none)(hit:s.heap.IsTupleIter it l i)(hl:s.heap.IsTuple l items)(hx:items[i]? =none)
 (hE:∀h' e,Heap.ExtBut it s.heap h'->(∃o,h'.get? e=some o/\o.cls= .type "StopIteration")->E (.ref e) {s with heap:=h'}):wpAny (model prog w) A (Builtin.SmallTypes.nextOf (.ref it)) Q E s:=by
 obtain⟨o,ho,hc,hd⟩:=id hit;obtain⟨ol,hol,_,nl,hdl⟩:=hl;unfold Builtin.SmallTypes.nextOf;refine wpAny_bind (wpAny_callSpecial?_slot (name:="__next__") hit.typeIs F.slot_tuple_iterator_next (wpAny_call_entry F.slot_tuple_iterator_next hit.typeIs F.entry_tuple_iterator_next ?_ (F.args_tuple_iterator_next_1 _)));show wpAny _ _ (field (.ref it) 0 >>=_) _ _ s;refine wpAny_bind (wpAny_field ho hd (x:= .ref l) rfl ?_);show wpAny _ _ (if(Value.ref l==Value.none)=true then _ else _) _ _ s;rw [if_neg (show ¬((Value.ref l==Value.none)=true) from Bool.false_ne_true)]
 show wpAny _ _ (field (.ref it) 1 >>=_) _ _ s;refine wpAny_bind (wpAny_field ho hd (x:= .int i 0) rfl ?_);show wpAny _ _ (seqItems? (.ref l) >>=_) _ _ s;refine wpAny_bind (wpAny_seqItems hol hdl ?_);simp only[Int.toNat_natCast,hx];refine wpAny_bind (wpAny_rule (wpAny_bind (wpAny_setField ho hd (by simp) ?_)))
 show wpAny _ _ (newExc (.type "StopIteration") [] >>=_) _ _ _;refine wpAny_bind ?_;simp only[newExc,newTuple];refine wpAny_bind (wpAny_newObj_type ?_ (by size_fits))
 refine wpAny_bind (m:=firstArgMember _ _) (wpAny_of_eq (a:=Value.none) (by first | rfl | (simp only[firstArgMember];rfl)) ?_);refine wpAny_newObj_type ?_ (by size_fits)
 simp only[raiseNew];refine wpAny_bind (wpAny_handled ?_)
 first | rw[show A.in1.handled=none from hh] | rw[hh]
 exact wpAny_bind (wpAny_pure (wpAny_throw (hE _ _ (((Heap.SameBut.update ..).extBut.push _).push _) ⟨_,Heap.get?_push_size _ rfl,rfl⟩)))
end
theorem DW{prog:Program}{w:World}{A:Around}(hh:A.handled=none)(it l:Addr)(vV:l≠it)(items:Array Value) :
 Draws prog w A it [it,l] items.size (fun i v=>items[i]? =some v) (fun i h=>h.IsTupleIter it l i/\h.IsTuple l items) where
 live:=fun _ _ st=>let⟨o,ho,_⟩:=st.1;⟨o,ho⟩
 frame:=fun _ _ _ st hk=>⟨st.1.at fun o e=>hk it (by simp) o e,Heap.IsTuple.at st.2 fun o e=>hk l (by simp) o e⟩
 item:=fun i s Q E hi st hQ=>mH st.1 st.2 (x:=items[i]) (by simp [hi]) fun h' RF Tn=>hQ _ h' s.toks (by simp [hi]) ⟨RF,st.2.extBut Tn.extBut vV⟩ Tn
 done:=fun s Q E st hE=>jU hh st.1 st.2 (by simp) hE
theorem sI(l:Addr)(items:Array Value)(o:Obj)(n:Nat)(hc:o.cls= .type "tuple")(hd:o.data= .seq items n) :
 Meets (Builtin.«enumerate.__new__» ⟨[.type "enumerate", .ref l],[]⟩) (fun _ R s=>s.heap.get? l=some o/\
  R (.ok (.ret (.ref (s.heap.push {cls:= .type "tuple_iterator",data:= .fields #[.ref l, .int 0 0]}).objs.size)))
   {s with heap:=(s.heap.push {cls:= .type "tuple_iterator",data:= .fields #[.ref l, .int 0 0]}).push {cls:= .type "enumerate",data:= .fields #[.none, .bool false, .ref s.heap.objs.size,rawInt 0, .none, .none]}}):=
 .of_wp fun prog w A R s h=>by
   obtain⟨hp,g,d,tk,os⟩:=s;obtain⟨hl,h⟩:=h;have hsub:=sub_enumerate;have hL:Heap.IsTuple (Shared.heap ⟨hp,g,d,tk,os⟩) l items:=⟨_,hl,hc,n,hd⟩
   wp_walk using wpAny_loadPart' hl
   refine wpAny_stack_any fun st=>wpAny_pure ?_
   split
   .rename_i c _ _ _ _ _;cases(c==Value.type "enumerate") <;> (wp_walk using wpAny_loadPart' hl,wpAny_pyIter_tuple hL;exact⟨_,rfl,h⟩)
   .wp_walk using wpAny_loadPart' hl,wpAny_pyIter_tuple hL
    exact⟨_,rfl,h⟩
theorem Ah{prog:Program}{w:World}{A:Around}{E:WI}{s:Shared}{l:Addr}{items:Array Value}{Q:WI}(hL:s.heap.IsTuple l items)
 (h:∀h':Heap,IsEnum h' (s.heap.objs.size+1) s.heap.objs.size 0 .none->h'.IsTupleIter s.heap.objs.size l 0->(∀b o,s.heap.get? b=some o->h'.get? b=some o)->Q (.ref (s.heap.objs.size+1)) {s with heap:=h'}) :
 wpAny (model prog w) A (call (.type "enumerate") [.ref l]) Q E s:=by
 obtain⟨o,hl,hc,n,hd⟩:=hL;refine callType_new F.called_enumerate (by decide) (F.typeCall_enumerate_1 _) (F.newCall_enumerate_1 _) (fun obj=>F.args_object_init_2 obj _) F.entry_enumerate_new (sI l items o n hc hd) ⟨hl,?_⟩
 have hz:(s.heap.push {cls:= .type "tuple_iterator",data:= .fields #[.ref l, .int 0 0]}).objs.size=s.heap.objs.size+1:=Heap.size_push ..;show _/\_;rw [hz];have he:IsEnum ((s.heap.push {cls:= .type "tuple_iterator",data:= .fields #[.ref l, .int 0 0]}).push {cls:= .type "enumerate",data:= .fields #[.none, .bool false, .ref s.heap.objs.size,rawInt 0, .none, .none]}) (s.heap.objs.size+1) s.heap.objs.size 0 .none:=by
  have:=Heap.get?_push_size (s.heap.push {cls:= .type "tuple_iterator",data:= .fields #[.ref l, .int 0 0]}) (o:={cls:= .type "enumerate",data:= .fields #[.none, .bool false, .ref s.heap.objs.size,rawInt 0, .none, .none]}) rfl;rw[hz] at this;exact this
 exact⟨⟨_,he,rfl⟩,h _ he ⟨_,Heap.get?_push_of_some _ (Heap.get?_push_size _ rfl),rfl,rfl⟩ fun b o x=>Heap.get?_push_of_some _ (Heap.get?_push_of_some _ x)⟩
end PySem
namespace L2
open PySem PySem.Spec PyProof.Rows
def QH(K:W.Frag)(a:Addr):It:=
 ⟨fun i H=>∃xs x,sT K H a xs/\xs[i]? =some x,fun i H v H'=>∃p x,H p=none/\v= .ref p/\(∀xs,sT K H a xs->xs[i]? =some x)/\H'=upd H p (.tup [.int i,x]),fun i H=>∃xs,sT K H a xs/\xs.length<=i⟩
theorem Aa{K:W.Frag}{k:Nat}(a e it:Addr)(MY:e≠it):Turn P w K (.Tuple elts k pos) (QH K a) [e,it] e (fun i h=>(∃old,IsEnum h e it ((i:Nat):Int) old)/\h.IsTupleIter it a i) where
 mem:=by simp
 obj:=fun i h st b hb=>by
  obtain⟨⟨old,he⟩,o,ho,c,d⟩:=st;rcases List.mem_cons.mp hb with rfl | hb
  .exact⟨_,he,fun v z=>by cases z⟩
  .have e:b=it:=by simpa using hb
   subst e;exact⟨o,ho,fun v z=>by rw[d] at z;cases z⟩
 keep:=fun i h h' st k=>by
  obtain⟨⟨old,he⟩,hi⟩:=st;exact⟨⟨old,k e (by simp) _ he⟩,hi.at fun o x=>k it (by simp) o x⟩
 item:=by
  intro X hP hw hK hc i pins s σ H E I hf st hg;subst hP hw hK;obtain⟨xs,x,hq,hx⟩:=hg;obtain⟨its,rv,p,hz⟩:=I.tuple hq;have p':s.heap.IsTuple a its.toArray:=p;obtain⟨u,hu,ru⟩:=rv.get hx;obtain⟨⟨old,he⟩,hit⟩:=st;obtain⟨f0,f1,f2,f3,f4,f5⟩:=hf e (by simp)
  obtain⟨g0,g1,g2,g3,g4,g5⟩:=hf it (by simp)
  have ha_it:a≠it:=fun z=>by
   obtain⟨o1,h1,c1,_⟩:=p';obtain⟨o2,h2,c2,_⟩:=hit;rw[z,h2] at h1;cases h1;rw[c2] at c1;exact absurd c1 (by decide)
  have ha_e:e ∉ [it,a]:=fun z=>by
   rcases List.mem_cons.mp z with q | q
   .exact MY q
   .have q:e=a:=by simpa using q
    obtain⟨o1,h1,c1,_⟩:=p';rw[<-q,he] at h1;cases h1;exact absurd (show Value.type "enumerate"=Value.type "tuple" from c1) (by decide)
  refine wpAny_pyNext_enum_itemD (DW (A:=X.A.in1) (I.ok.hd hc) it a ha_it its.toArray) he ⟨hit,p'⟩ (by have:=(List.getElem?_eq_some_iff.mp hu).1;simpa using this) MY ha_e fun u2 iq tk V1 Hl O4 G6 oU wO=>⟨_,rfl,?_⟩
  obtain rfl:u2=u:=by
   have h1:its[i]? =some u2:=by simpa using V1
   rw[hu] at h1;cases h1;rfl
  obtain⟨Bi,_⟩:=O4;refine wpAny_letOwnedTupleGo_enum Hl fun fV Hd cR=>?_
  replace cR:Heap.SameBut e iq fV:=cR
  have hel:e < s.heap.objs.size:=Heap.lt_size he;have zR:fV.get? s.heap.objs.size=some {cls:= .type "tuple",data:= .seq #[.int i tk,u2]}:=(cR.2 _ (Nat.ne_of_gt hel)).trans G6;have kk:∀b o,b≠e->b≠it->s.heap.get? b=some o->fV.get? b=some o:=fun b o h1 h2 q=>(cR.2 b h1).trans (wO b o h1 h2 q)
  have hn:H s.heap.objs.size=none:=I.fresh;have sm:aT H (upd H s.heap.objs.size (.tup [.int i,x])):=aX hn;have nit:∀b o,H b=some o->b≠e/\b≠it:=fun b o q=>⟨fun z=>(by rw[z,f0] at q;cases q),fun z=>(by rw[z,g0] at q;cases q)⟩
  have hok:oq X.prog X.w (upd H s.heap.objs.size (.tup [.int i,x])) fV:=fun b ob q=>by
   by_cases hb:b=s.heap.objs.size
   .subst hb;rw[aY] at q;cases q;exact⟨by show 2<=sizeLine;decide,[.int i tk,u2], .cons ⟨_,rfl⟩ (.cons ru .nil),⟨_,zR,rfl,_,rfl⟩⟩
   .rw [bg hb] at q;refine(I.hok b ob q).xJ (fun c v hc z=>?_) (fun c z=>sm c _ z) fun c ys z=>sm c _ z
    rcases hc with rfl | hc
    .exact kk c v (nit c _ q).1 (nit c _ q).2 z
    .exact kk c v (nit c _ hc).1 (nit c _ hc).2 z
  have nch:∀b,b ∉ [e,it]->b≠e/\b≠it:=fun b hb=>⟨fun z=>hb (by simp [z]),fun z=>hb (by simp [z])⟩
  have I2:Inv X pins σ (upd H s.heap.objs.size (.tup [.int i,x])) {s with heap:=fV,toks:=tk+1}:=by
   refine I.step (g':=s.gens) (d':=s.drawn) (ch:=[e,it]) (fun b hb=>?_) (fun b o _ _ hb q _=>kk b o (nch b hb).1 (nch b hb).2 q) (fun b o _ _ hb q _=>⟨o.slots,kk b o (nch b hb).1 (nch b hb).2 q⟩)
    (fun b o hb q n=>by rw[bg (Nat.ne_of_lt (Heap.lt_size q))];exact n) (fun b o hb q=>⟨o,kk b o (nch b hb).1 (nch b hb).2 q⟩) (fun b ys z=>sm b _ z) (fun b o u z=>sm b _ z) (fun b ps z=>⟨#[],by rw[sm b _ z];simp⟩) (fun m hm=>?_) hok I.bare
   .rcases List.mem_cons.mp hb with rfl | hb
    .exact⟨f3,f1,f4,f5⟩
    .have z:b=it:=by simpa using hb
     subst z;exact⟨g3,g1,g4,g5⟩
   .obtain⟨o,es,ep,ho,r⟩:=hm;exact⟨o,es,ep,kk _ o (Ne.symm f1) (Ne.symm g1) ho,r⟩
  refine⟨.ref s.heap.objs.size,_,I2,rfl,⟨s.heap.objs.size,x,hn,rfl,fun ys hy=>(by rw[I.qS hy hq];exact hx),rfl⟩,⟨⟨_,by simpa using Hd⟩,Bi.at fun o q=>(cR.2 it (Ne.symm MY)).trans q⟩,fun b hb=>?_⟩
  rcases List.mem_cons.mp hb with rfl | hb
  .rw [bg (Nat.ne_of_lt hel)];exact f0
  .have z:b=it:=by simpa using hb
   subst z;obtain⟨o,ho,_⟩:=hit;rw[bg (Nat.ne_of_lt (Heap.lt_size ho))];exact g0
 done:=by
  intro X hP hw hK hc i pins s σ H E I hf st hg;subst hP hw hK;obtain⟨xs,hq,hx⟩:=hg;obtain⟨its,rv,p,hz⟩:=I.tuple hq;have p':s.heap.IsTuple a its.toArray:=p;obtain⟨⟨old,he⟩,hit⟩:=st;obtain⟨g0,g1,g2,g3,g4,g5⟩:=hf it (by simp)
  have hl:=rv.length;have hT:s.TypeIs (.ref e) "enumerate":=⟨_,he,rfl⟩;unfold pyNext;refine wpAny_bind (wpAny_attempt (wpAny_callSpecial?_slot (name:="__next__") hT F.slot_enumerate_next (wpAny_call_entry F.slot_enumerate_next hT F.entry_enumerate_next ?_ (F.args_enumerate_next_1 _))));show wpAny _ _ (field (.ref e) 2 >>=_) _ _ _;refine wpAny_bind (wpAny_field he rfl (x:= .ref it) rfl ?_);refine wpAny_bind (jU (A:=X.A.in1) (I.ok.hd hc) hit p' (by simp;omega) fun h' x VU Vu=>?_)
  obtain⟨o,ho,Hn⟩:=Vu;refine wpAny_bind (wpAny_isInstance (T:="StopIteration") (b:=true) ⟨o,ho,Hn⟩ isSubtype_stop ?_);exact wpAny_pure ⟨rfl,I.turned (t':=s.toks) (fun b o hb q=>VU b o hb q) g0 g1 g3 g4 g5⟩
 self:=fun A i s Q E st h=>let⟨⟨_,he⟩,_⟩:=st;wpAny_pyIter_enum he h
section
variable {X:Cx}
def xo(f:FD):au->R (List D):=fun δ=>(f δ).bind fun d=>match d with | .tup ds=> .ok (dG ds) | _=> .no
theorem z6{elts:List Expr}{k:Nat}{vq:Pos}{p pos:Pos}(h:QD X a f)(hg:Gl X "enumerate")(hm:X.mg "enumerate"=none)(hs:starEach [a] X.env=[(false,eval a X.env)]:=by rfl):wY X (.Tuple elts k vq) (.Call (.Name "enumerate" p) [a] [] pos) (xo f):=by
 refine⟨?_⟩;intro pins s σ H RR I ⟨Z,B,δ,ds,E,hf,q⟩;obtain⟨d,h1,h2⟩:=R.ai hf;have hA:=c9 h.1 fZ hs pos pins s σ H (fun vs H1=>aT H H1/\∃v,vs=[v]/\Rep X.K B H1 d v) I ⟨Z,B,δ,d,E,h1,fun v H1 s1 r1=>⟨s1,v,rfl,r1⟩⟩
 refine Call_ (jk I hg hm boot_enumerate (PyProof.Rows.callWith_type1 (dH hA fun us s1 ⟨vs,H1,I1,r1,ss,v,ev,rr⟩=>?_) hs rfl))
 subst ev;obtain⟨u,rfl,ru⟩:=vals1 r1;cases d with
 | tup es=>
   cases h2;obtain⟨b,xs,rfl,l,rs⟩:=Rep.tup.mp rr;cases ru;obtain⟨its,rv,pt,hz⟩:=I1.tuple l.sq;refine Ah (items:=its.toArray) pt fun h' he hit kk=>wpAny_pyIter_enum he ?_
   have I2:Inv X pins σ H1 {s1 with heap:=h'}:=I1.kept (t':=s1.toks) kk
   refine⟨s1.heap.objs.size+1,[s1.heap.objs.size+1,s1.heap.objs.size],_,_,H1,rfl,I2,Aa b (s1.heap.objs.size+1) s1.heap.objs.size (Nat.succ_ne_self _),⟨⟨_,he⟩,hit⟩,fun c hc=>?_,q _ H1 ss fun B' H' pr=>?_⟩
   .have hle:s1.heap.objs.size<=c:=by
     rcases List.mem_cons.mp hc with z | hc
     .rw [z];exact Nat.le_succ _
     .have z:c=s1.heap.objs.size:=by simpa using hc
      rw[z];exact Nat.le_refl _
    exact I1.x4 hle (I1.hok.fresh hle)
   .have l':v8 X.K B' H' b xs:=l.elim (fun z=> .inl ⟨(pr.rd z.2 z.1).2,(pr.rd z.2 z.1).1⟩) .inr
    have rs':=rs.br pr;refine⟨fun i d hd=>?_,⟨xs,l'.sq,by rw[<-rs.length];unfold dG;simp⟩⟩
    unfold dG at hd;rw[List.getElem?_map,List.getElem?_zipIdx] at hd;cases e:es[i]? with
    | none=>rw [e] at hd;cases hd
    | some d0=>
      rw[e] at hd;have hd:D.tup [.int ((0+i:Nat):Int),d0]=d:=Option.some.inj hd;rw[Nat.zero_add] at hd;obtain⟨x,hx,rx⟩:=rs'.get e;refine⟨⟨xs,x,l'.sq,hx⟩,fun v oV y JN=>?_⟩
      obtain⟨p,y,hp,rfl,hy,rfl⟩:=y;refine⟨aX hp,?_⟩;subst hd;have Eb:=hy xs l'.sq;rw[hx] at Eb;cases Eb;refine Rep.tup.mpr ⟨p,_,rfl, .inl ⟨fun ha=>?_, .inl aY⟩,az.cons (Rep.int.mpr rfl) (az.cons (rx.same (aX hp)) az.nil)⟩
      obtain⟨o,ho⟩:=JN p ha;rw[hp] at ho;cases ho
 | _=>cases h2
end
end L2
end
section
namespace L2
open PySem PySem.Spec PyProof.Rows
section
variable {X:Cx}
abbrev SV:D->D->R D:=Hk (fun _ j=>decide (0 < j/\j.natAbs.log2 < 9000)) fun i j=>i / j
theorem zJ{K:W.Frag}{B:List Addr}{ds:List D}{xs:List V}(r:az K B H ds xs):∀n:Nat,az K B H (List.replicate n ds).flatten (List.replicate n xs).flatten
 | 0=>az.nil
 | n+1=>by rw[List.replicate_succ,List.replicate_succ,List.flatten_cons,List.flatten_cons];exact r.append (zJ r n)
def KO(f:au->R (List D))(g:FD):au->R (List D):=fun δ=>(f δ).bind fun ds=>(g δ).bind fun d=>match d with
 | .int k=>R.bz (decide (0<=k/\k < 1000000/\ds.length*k.toNat<=sizeLine)) (.ok (List.replicate k.toNat ds).flatten)
 | _=> .no
theorem Jc{f:au->R (List D)}(ha:QN X a f)(hb:QD X b g):QN X (.BinOp a .Mult b pos) (KO f g):=by
 refine⟨(GS Lj ha.1 hb.1).imp fun σ H Q ⟨Z,B,δ,es,E,hf,q⟩=>?_⟩
 obtain⟨ds,h1,h2⟩:=R.ai hf;obtain⟨d,h3,h4⟩:=R.ai h2;split at h4
 .rename_i k;obtain⟨h5,h6⟩:=R.ba h4;cases h6;obtain⟨k0,k1,k2⟩:=of_decide_eq_true h5;refine⟨Z,B,δ,ds,E,h1,fun a xs H1 s1 n1 e1 r1=>⟨Z,B,δ, .int k,E.same s1,h3,fun v H2 s2 r2=>⟨a,k,xs,rfl,Rep.int.mp r2,s2 a _ e1,by omega,by omega,by rw[<-r1.length];exact k2,fun p hp=>?_⟩⟩⟩
  refine q p _ _ (s1.trans (s2.trans (aX hp))) ((s1.trans s2).free hp) aY ?_;refine(zJ r1 k.toNat).br fun b o e nb=>⟨(s2.trans (aX hp)) b o e,fun hm=>?_⟩
  rcases List.mem_cons.mp hm with z | z
  .rw [z] at e;rw [s2 p _ e] at hp;cases hp
  .exact nb (List.mem_cons_of_mem _ z)
 .cases h4
def EB(ns:List Int):List Int:=ns.mergeSort fun a b=>decide (a<=b)
def Pt:List D->R D
 | [.lst ds]=>(match ints? ds with | some ns=>R.bz (decide (ns.length < 64)) (.ok (.lst ((EB ns).map .int))) | none=> .no)
 | _=> .no
theorem getD_in{l:List Int}{i:Nat}(h:i < l.length):l.getD i 0∈l:=by
 have e:l.getD i 0=l[i]:=by simp [h]
 rw[e];exact List.getElem_mem h
theorem fold_min:∀(ns:List Int) (n:Int),ns.foldl min n∈n ::ns/\∀a∈n ::ns,ns.foldl min n<=a
 | [],n=>⟨by simp,fun a ha=>by simp at ha;subst ha;exact Int.le_refl _⟩
 | x ::ns,n=>by
   obtain⟨h1,h2⟩:=fold_min ns (min n x);rw[List.foldl_cons];refine⟨?_,fun a ha=>?_⟩
   .rcases List.mem_cons.mp h1 with z | z
    .rw [z];by_cases hc:n<=x
     .rw [Int.min_eq_left hc];simp
     .rw [Int.min_eq_right (by omega)];simp
    .exact List.mem_cons_of_mem _ (List.mem_cons_of_mem _ z)
   .have hm:=h2 _ List.mem_cons_self;rcases List.mem_cons.mp ha with z | z
    .subst z;omega
    .rcases List.mem_cons.mp z with z | z
     .subst z;omega
     .exact h2 a (List.mem_cons_of_mem _ z)
def Cs:List D->R D
 | [.lst ds]=>(match ints? ds with | some (n ::ns)=> .ok (.int (ns.foldl min n)) | _=> .no)
 | ds=>Ft ds
def SM:List D->R D
 | [.lst ds]=>(match ints? ds with | some (n ::ns)=> .ok (.int (ns.foldl max n)) | _=> .no)
 | ds=>Qo ds
theorem LA(hc:X.calm=true):h_ X (.builtin "min") Cs:=by
 intro pins s σ H B ds d xs us I hb rx rs hg;unfold Cs at hg;split at hg
 .split at hg
  .rename_i es n ns e;cases hg;obtain⟨x,rfl,r⟩:=rs.one;obtain⟨a,ys,rfl,l,r⟩:=Rep.lst.mp r;obtain⟨u,rfl,ru⟩:=vals1 rx;cases ru;obtain⟨its,k,rv,e1,hz⟩:=I.MF l;rw[gm r e] at rv;obtain⟨ps,rfl,hps⟩:=iG rv;have hl:s.heap.IsList a (intItems ps.toArray):=⟨_,e1,rfl,k,by simp [intItems]⟩
   have hlp:ps.length=ns.length+1:=by have:=congrArg List.length hps;simpa using this
   refine min_intList (I.ok.hd hc) hl (by simp;omega) fun v h' tk hv hk=>?_
   obtain⟨t,rfl⟩:=intItems_at hv;obtain⟨b1,b2⟩:=argBest_lt (numAt ps.toArray) (ps.toArray.size - 1);refine⟨.int _,H,I.kept hk,⟨t,rfl⟩,aT.refl H,Rep.int.mpr ?_⟩;obtain⟨m1,m2⟩:=fold_min ns n;have hge:∀j,j < ps.length->numAt ps.toArray j=(n ::ns).getD j 0:=fun j hj=>by rw[numAt_eq,<-hps]
   have hin:numAt ps.toArray (argBest (fun i j=>decide (numAt ps.toArray i < numAt ps.toArray j)) (ps.toArray.size - 1))∈n ::ns:=by
    rw[hge _ (by simp at b1 ⊢;omega)];exact getD_in (by simp at b1 ⊢;omega)
   have hle:=m2 _ hin;obtain⟨j,hj,ej⟩:=List.getElem_of_mem m1;have Hq:j < ns.length+1:=by simpa using hj
   have h3:=b2 j (by simp;omega)
   rw[hge j (by omega)] at h3
   have h4:(n ::ns).getD j 0=ns.foldl min n:=by rw[<-ej,List.getD_eq_getElem?_getD,List.getElem?_eq_getElem hj];rfl
   rw[h4] at h3;congr 1;omega
  .cases hg
 .exact NH hc pins s σ H B _ d xs us I hb rx rs hg
end
end L2
namespace L3
open PySem PySem.Spec PyProof.Rows L2
def M9(S:bu):V3->Option (List D)
 | .d (.lst ds)=>some ds
 | .loc k=>dn S k
 | _=>none
section
variable {X:Cx} {cl:WN}
def UR(fa fb:FX):FX:=fun δ S=>(fa δ S).bind fun a S1=>(fb δ S1).bind fun b S2=>match M9 S2 a,M9 S2 b with
 | some ds,some es=>R3.bz (decide (ds.length+es.length<=sizeLine)) (.ok (.loc S2.length) (S2++[.lst (ds++es)]))
 | _,_=> .no
def Ux(i:Nat):FZ:=fun δ S=>match ko δ i with
 | none=> .no
 | some k=>(match dn S k with | some _=> .ok (.nx δ) (S.set k (.lst [])) | none=> .no)
end
end L3
end
section
namespace L3
open PySem PySem.Spec PyProof.Rows L2
def nj(S:bu)(c k:Nat):Option (List (Str × V3)):=match S[k]? with | some (.ins c' fs)=>(if c'=c then some fs else none) | _=>none
theorem l4{S:bu}{c k:Nat}{fs:List (Str × V3)}(h:nj S c k=some fs):S[k]? =some (.ins c fs):=by
 unfold nj at h;split at h
 .rename_i c' MS e;split at h
  .rename_i hc;cases h;rw [e,hc]
  .cases h
 .cases h
theorem Cw{K:W.Frag}{v:V3}:∀{fs:List (Str × V3)} {ys:List (Str × V)},ys.map (·.1)=fs.map (·.1)->aN K ρ H (fs.map (·.2)) (ys.map (·.2))->fs.lookup f=some v->∃x,ys.lookup f=some x/\bo K ρ H v x
 | [],ys,_,_,h=>by simp at h
 | (g,w) ::fs,[],e,_,_=>by simp at e
 | (g,w) ::fs,(g',y) ::ys,e,r,h=>by
   obtain⟨e1,k4⟩:=List.cons.inj e;have e1:g'=g:=e1;subst e1;obtain⟨x,xs,ex,r1,r2⟩:=r.cn;cases ex;rw[List.lookup_cons] at h ⊢;cases hq:f==g' with
   | true=>rw [hq] at h;cases h;exact⟨y,rfl,r1⟩
   | false=>rw [hq] at h;exact Cw k4 r2 h
theorem yB:∀{fs:List (Str × V3)} {ys:List (Str × V)},ys.map (·.1)=fs.map (·.1)->fs.lookup f=none->ys.lookup f=none
 | [],[],_,_=>rfl
 | [],_ ::_,e,_=>by simp at e
 | _ ::_,[],e,_=>by simp at e
 | (g,w) ::fs,(g',y) ::ys,e,h=>by
   obtain⟨e1,k4⟩:=List.cons.inj e;have e1:g'=g:=e1;subst e1;rw[List.lookup_cons] at h ⊢;cases hq:f==g' with
   | true=>rw [hq] at h;cases h
   | false=>rw [hq] at h;exact yB k4 h
def zl(f:Str)(v:V3):List (Str × V3)->List (Str × V3)
 | []=>[(f,v)]
 | (g,x) ::r=>if g=f then(g,v) ::r else(g,x) ::zl f v r
theorem BC{K:W.Frag}{f:Str}{v:V3}{u:V}(rv:bo K ρ H v u):∀{fs:List (Str × V3)} {ys:List (Str × V)},ys.map (·.1)=fs.map (·.1)->aN K ρ H (fs.map (·.2)) (ys.map (·.2))->
 (kD f u ys).map (·.1)=(zl f v fs).map (·.1)/\aN K ρ H ((zl f v fs).map (·.2)) ((kD f u ys).map (·.2))
 | [],[],_,_=>⟨rfl,aN.cons rv aN.nil⟩
 | [],_ ::_,e,_=>by simp at e
 | _ ::_,[],e,_=>by simp at e
 | (g,w) ::fs,(g',y) ::ys,e,r=>by
   obtain⟨e1,k4⟩:=List.cons.inj e;have e1:g'=g:=e1;subst e1;obtain⟨x,xs,ex,r1,r2⟩:=r.cn;cases ex;unfold zl kD;by_cases hg:g'=f
   .rw [if_pos hg,if_pos hg];exact⟨by rw[List.map_cons,List.map_cons,k4],aN.cons rv r2⟩
   .rw [if_neg hg,if_neg hg];obtain⟨h1,h2⟩:=BC rv k4 r2;exact⟨by rw[List.map_cons,List.map_cons,h1],aN.cons r1 h2⟩
section
variable {X:Cx} {cl:WN}
def Ae(c:Nat)(f:Str)(g:FX):FX:=fun δ S=>(g δ S).bind fun v S1=>match v with
 | .loc k=>(match nj S1 c k with | some fs=>(match fs.lookup f with | some v=> .ok v S1 | none=> .no) | none=> .no)
 | _=> .no
theorem uJ{c:Nat}{pos:Pos}(hC:zW X.K (cl c))(hn:eD X.K (cl c) f)(he:PX X cl e g)(hb:attributeBase e f X.env (eval e X.env)=eval e X.env:=by rfl):PX X cl (.Attribute e f pos) (Ae c f g):=⟨(K7 he.1 hb).imp fun σ H Q ⟨ρ,S,δ,v,S',E,hf,q⟩=>by
 obtain⟨o,S1,h1,h2⟩:=R3.ai hf;split at h2
 .rename_i k;split at h2
  .rename_i fs e1;split at h2
   .rename_i w k4;cases h2;refine⟨ρ,S,δ, .loc k,_,E,h1,fun u de H1 p1 w1 r1=>?_⟩
    unfold bo at r1;obtain⟨a,a1,rfl⟩:=r1;obtain⟨dx,ys,ey,ek,rs⟩:=w1.ob k a _ a1 (l4 e1);obtain⟨x,hx,rx⟩:=Cw ek rs k4;exact⟨a,cl c,dx,ys,x,rfl,ey,hC,hn,hx,q x de H1 p1 w1 rx⟩
   .cases h2
  .cases h2
 .cases h2⟩
theorem w_fld{c k:Nat}{g:FX}{δ:DE}{S:bu}{Q:V3->bu->Prop}(h:W3 (g δ S) fun v S1=>∃fs w,v= .loc k/\S1[k]? =some (.ins c fs)/\fs.lookup f=some w/\Q w S1):W3 (Ae c f g δ S) Q:=
 W3.bind (h.mono fun v S1 ⟨fs,w,e1,k4,e3,q⟩=>by
  subst e1;have e4:nj S1 c k=some fs:=by unfold nj;simp only[k4,if_true]
  simp only[e4,e3];exact W3.ok q)
def sk(P:Program)(w:World)(K:W.Frag)(mg:WM)(base:Heap)(cl:WN)(k c:Nat)(m:Str)(n:Nat)(g:List V3->bu->R3 V3):Prop:=
 ∃(f:Addr) (fd:FuncData) (ps:List Str),zW K (cl c)/\Meth K (cl c) m f/\js P w K mg base vI k f fd ps (Ff K cl (n+1) g)/\Binds K fd ps []
def uG(c:Nat)(m:Str)(g:List V3->bu->R3 V3)(fo:FX)(fs:FA):FX:=fun δ S=>(fo δ S).bind fun o S1=>match o with
 | .loc k=>(match nj S1 c k with | some ys=>(match ys.lookup m with | none=>(fs δ S1).bind fun vs S2=>g (.loc k ::vs) S2 | some _=> .no) | none=> .no)
 | _=> .no
theorem tw{g:List V3->bu->R3 V3}{k j n c:Nat}{m:Str}{o e:Expr}{es:List Expr}{fo:FX}{fs:FA}{apos pos:Pos}{pl:Sem Bool}(M:sk X.prog X.w X.K X.mg X.base cl k c m n g)(hr:eB j X.A)(G8:k<=j)(ho:PX X cl o fo)(ha:IJ X cl (e ::es) fs)(hn:∀δ S ds S',fs δ S= .ok ds S'->ds.length=n)
 (D_:starEach (e ::es) X.env=(false,eval e X.env) ::starEach es X.env:=by rfl) (my:(backTo pos (starEach es X.env)).any (·.1)=false:=by rfl)
 (ht:eval (.Call (.Attribute o m apos) (e ::es) [] pos) X.env=(do
   let ov <-eval o X.env
   standAt apos.atName
   let(f,first) <-holding [ov] (getMethod ov m pl)
   callWith pos f first (backTo pos (starEach (e ::es) X.env)) (backToKw pos (keywordEach [] X.env))):=by rfl) :
 PX X cl (.Call (.Attribute o m apos) (e ::es) [] pos) (uG c m g fo fs):=by
 obtain⟨f,fd,ps,hC,hm,F,hb⟩:=M;refine⟨(IS ho.1 hC hm F (hr.mono G8) hb .nil zd ha.1 D_ my ht).imp fun σ H Q ⟨ρ,S,δ,v,S',E,hf,q⟩=>?_⟩
 obtain⟨ov,S1,h1,h2⟩:=R3.ai hf;split at h2
 .rename_i kk;split at h2
  .rename_i ys e1;split at h2
   .rename_i k4;obtain⟨vs,S2,h3,h4⟩:=R3.ai h2;refine⟨ρ,S,δ, .loc kk,S1,E,h1,fun u de H1 p1 w1 r1=>?_⟩
    have qz:=r1;unfold bo at r1;obtain⟨a,a1,rfl⟩:=r1;obtain⟨dx,zs,ey,ek,rs⟩:=w1.ob kk a _ a1 (l4 e1);refine⟨a,dx,zs,rfl,ey,yB ek k4,de,S1,δ,vs,S2,E.to p1 w1,h3,fun us vm H2 p2 w2 r2=>?_⟩
    show Ff X.K cl (n+1) g (V.ref a ::(us++[])) H2 Q E0;rw[List.append_nil];exact⟨by rw[List.length_cons,<-r2.length,hn δ S1 vs S2 h3],vm,S2, .loc kk ::vs,v,S',w2,aN.cons (qz.pre p2) r2,h4,fun z G7 H3 p3 w3 r3=>q z G7 H3 (p1.trans (p2.trans p3)) w3 r3⟩
   .cases h2
  .cases h2
 .cases h2
def GA(P:Program)(w:World)(K:W.Frag)(mg:WM)(base:Heap)(cl:WN)(k c:Nat)(x:Str)(n:Nat)(g:List V3->bu->R3 V3):Prop:=
 ∃(f:Addr) (fd:FuncData) (ps:List Str),Mk K (cl c) f/\js P w K mg base vI k f fd ps (Ff K cl (n+1) g)/\mg x=some (.ref (cl c))/\Binds K fd ps []
def Fu(c:Nat)(g:List V3->bu->R3 V3)(fs:FA):FX:=fun δ S=>(fs δ S).bind fun vs S1=>(g (.loc S1.length ::vs) (S1++[.ins c []])).bind fun v S2=>match v with
 | .d .cX=> .ok (.loc S1.length) S2
 | _=> .no
theorem HB{g:List V3->bu->R3 V3}{k j n c:Nat}{x:Str}{p pos:Pos}{e:Expr}{es:List Expr}{fs:FA}(M:GA X.prog X.w X.K X.mg X.base cl k c x n g)(hr:eB j X.A)(G8:k+1<=j)(hg:Gl X x)(ha:IJ X cl (e ::es) fs)(hn:∀δ S ds S',fs δ S= .ok ds S'->ds.length=n)
 (rB:(x==("__debug__":Str))=false:=by decide) (he:starEach (e ::es) X.env=(false,eval e X.env) ::starEach es X.env:=by rfl) (my:(backTo pos (starEach es X.env)).any (·.1)=false:=by rfl) :
 PX X cl (.Call (.Name x p) (e ::es) [] pos) (Fu c g fs):=by
 obtain⟨f,fd,ps,M,F,hm,hb⟩:=M;refine⟨(Ie M F (hr.mono G8) hg hm hb .nil zd ha.1 rB he my).imp fun σ H Q ⟨ρ,S,δ,v,S',E,hf,q⟩=>?_⟩
 obtain⟨vs,S1,h1,h2⟩:=R3.ai hf;obtain⟨v0,S2,h3,h4⟩:=R3.ai h2;split at h4
 .cases h4;refine⟨ρ,S,δ,vs,S1,E,h1,fun us de H1 p1 w1 r1 xa dx hx VL vV=>?_⟩
  have hx1:upd H1 dx (.own xa) xa=none:=by rw[bg (fun z=>vV z.symm)];exact hx
  have sm:aT H1 (upd (upd H1 dx (.own xa)) xa (.ins (cl c) dx [])):=(aX VL).trans (aX hx1);obtain⟨w2,p2⟩:=w1.new (a:=xa) (o:= .ins c []) sm hx ⟨dx,[],aY,rfl,aN.nil⟩;show Ff X.K cl (n+1) g (V.ref xa ::(us++[])) _ _ E0;rw[List.append_nil];have rl:bo X.K (de.push xa) (upd (upd H1 dx (.own xa)) xa (.ins (cl c) dx [])) (.loc S1.length) (.ref xa):=by
   unfold bo;exact⟨xa,by show(de.r++[xa])[_]? =_;rw [<-w1.len,List.getElem?_append_right (Nat.le_refl _),Nat.sub_self];rfl,rfl⟩
  exact⟨by rw[List.length_cons,<-r1.length,hn δ S vs S1 h1],_,_, .loc S1.length ::vs, .d .cX,_,w2,aN.cons rl (r1.pre p2),h3,fun z G7 H3 p3 w3 r3=>⟨by unfold bo Rep at r3;exact r3,q _ G7 H3 (p1.trans (p2.trans p3)) w3 (rl.pre p3)⟩⟩
 .cases h4
def DA(c:Nat)(f:Str)(fo fe:FX):FZ:=fun δ S=>(fe δ S).bind fun v S1=>(fo δ S1).bind fun o S2=>match o with
 | .loc k=>(match nj S2 c k with | some fs=>R3.bz (decide (fs.length < 1000)) (.ok (.nx δ) (S2.set k (.ins c (zl f v fs)))) | none=> .no)
 | _=> .no
theorem xk{c:Nat}{pos pos':Pos}(hC:zW X.K (cl c))(hn:eD X.K (cl c) f)(ho:PX X cl o fo)(he:PX X cl value fe)(hs:swapsWith value (some (.Attribute o f pos')) pos.line X.env=pure false:=by rfl) :
 PZ X cl (.Assign [.Attribute o f pos'] value pos) (DA c f fo fe):=⟨(Lq ho.1 he.1 hs).imp fun D σ H ⟨ρ,S,δ,ou,S',E,hf,q⟩=>by
 obtain⟨v,S1,h1,h2⟩:=R3.ai hf;obtain⟨vo,S2,h3,h4⟩:=R3.ai h2;split at h4
 .rename_i k;split at h4
  .rename_i fs e1;obtain⟨hl,h5⟩:=R3.ba h4;cases h5;refine⟨ρ,S,δ,v,S1,E,h1,fun u de H1 p1 w1 r1=>⟨de,S1,δ, .loc k,S2,E.to p1 w1,h3,fun u2 vm H2 p2 w2 r2=>?_⟩⟩
   unfold bo at r2;obtain⟨a,a1,rfl⟩:=r2;obtain⟨dx,ys,ey,ek,rs⟩:=w2.ob k a _ a1 (l4 e1);have hlen:ys.length=fs.length:=by have:=congrArg List.length ek;simpa using this
   obtain⟨k1,k2⟩:=BC (f:=f) (r1.pre p2) ek rs;obtain⟨w3,p3⟩:=w2.put (o:= .ins c (zl f v fs)) (u:= .ins (cl c) dx (kD f u ys)) a1 (w2.fz k a a1 (by rw[l4 e1];intro h;cases h)) ⟨dx,_,rfl,k1,k2⟩
   exact⟨a,cl c,dx,ys,rfl,ey,hC,hn,by rw[hlen];exact of_decide_eq_true hl,q σ vm _ (p1.trans (p2.trans p3)) (E.to (p1.trans (p2.trans p3)) w3)⟩
  .cases h4
 .cases h4⟩
theorem qe{c k:Nat}{fo fe:FX}{δ:DE}{S:bu}{QO:Ou->bu->Prop}(h:W3 (fe δ S) fun v S1=>W3 (fo δ S1) fun o S2=>∃fs,o= .loc k/\S2[k]? =some (.ins c fs)/\fs.length < 1000/\QO (.nx δ) (S2.set k (.ins c (zl f v fs)))):W3 (DA c f fo fe δ S) QO:=
 W3.bind (h.mono fun v S1 h=>W3.bind (h.mono fun o S2 ⟨fs,e1,k4,hl,q⟩=>by
  subst e1;have e4:nj S2 c k=some fs:=by unfold nj;simp only[k4,if_true]
  simp only[e4];exact W3.wh (decide_eq_true hl) (W3.ok q)))
theorem Ak{c k:Nat}{g:List V3->bu->R3 V3}{fo:FX}{fs:FA}{δ:DE}{S:bu}{Q:V3->bu->Prop}(h:W3 (fo δ S) fun o S1=>∃ys,o= .loc k/\S1[k]? =some (.ins c ys)/\ys.lookup m=none/\W3 (fs δ S1) fun vs S2=>W3 (g (.loc k ::vs) S2) Q):W3 (uG c m g fo fs δ S) Q:=
 W3.bind (h.mono fun o S1 ⟨ys,e1,k4,e3,h⟩=>by
  subst e1;have e4:nj S1 c k=some ys:=by unfold nj;simp only[k4,if_true]
  simp only[e4,e3];exact W3.bind h)
theorem Le{c:Nat}{g:List V3->bu->R3 V3}{fs:FA}{δ:DE}{S:bu}{Q:V3->bu->Prop}(h:W3 (fs δ S) fun vs S1=>W3 (g (.loc S1.length ::vs) (S1++[.ins c []])) fun v S2=>v= .d .cX/\Q (.loc S1.length) S2):W3 (Fu c g fs δ S) Q:=
 W3.bind (h.mono fun vs S1 h=>W3.bind (h.mono fun v S2 ⟨e,q⟩=>by subst e;exact W3.ok q))
end
end L3
end
section
namespace PySem
open Sem (wp)
def gM(t:Bool)(h:Heap)(i l:Addr)(k:Nat):Prop:=cond t (h.IsTupleIter i l k) (h.IsListIter i l k)
def ke(t:Bool)(h:Heap)(l:Addr)(xs:Array Value):Prop:=cond t (h.IsTuple l xs) (h.IsList l xs)
def tW(t:Bool):String:=cond t "tuple_iterator" "list_iterator"
theorem gM.at{t:Bool}{h h':Heap}{i l:Addr}{k:Nat}(x:gM t h i l k)(e:∀o,h.get? i=some o->h'.get? i=some o):gM t h' i l k:=by
 cases t with
 | true=>exact Heap.IsTupleIter.at x e
 | false=>exact Heap.IsListIter.at x e
theorem ke.at{t:Bool}{h h':Heap}{l:Addr}{xs:Array Value}(x:ke t h l xs)(e:∀o,h.get? l=some o->h'.get? l=some o):ke t h' l xs:=by
 cases t with
 | true=>exact Heap.IsTuple.at x e
 | false=>exact Heap.IsList.at x e
theorem gM.xb{t:Bool}{i l b:Addr}{k:Nat}(x:gM t h i l k)(hs:Heap.ExtBut b h h')(RD:i≠b):gM t h' i l k:=x.at fun o e=>hs i o RD e
theorem ke.xb{t:Bool}{l b:Addr}{xs:Array Value}(x:ke t h l xs)(hs:Heap.ExtBut b h h')(RD:l≠b):ke t h' l xs:=x.at fun o e=>hs l o RD e
theorem gM.ob{t:Bool}{h:Heap}{i l:Addr}{k:Nat}(x:gM t h i l k):∃o,h.get? i=some o/\∀v,o.data≠ .cell v:=by
 cases t with
 | true=>obtain⟨o,e,_,d⟩:=x;exact⟨o,e,fun v z=>by rw[d] at z;cases z⟩
 | false=>obtain⟨o,e,_,d⟩:=x;exact⟨o,e,fun v z=>by rw[d] at z;cases z⟩
theorem ke.lt{t:Bool}{h:Heap}{l:Addr}{xs:Array Value}(x:ke t h l xs):l < h.objs.size:=by
 cases t with
 | true=>obtain⟨o,e,_⟩:=x;exact Heap.lt_size e
 | false=>obtain⟨o,e,_⟩:=x;exact Heap.lt_size e
theorem gM.lt{t:Bool}{h:Heap}{i l:Addr}{k:Nat}(x:gM t h i l k):i < h.objs.size:=let⟨_,e,_⟩:=x.ob;Heap.lt_size e
section
variable {prog:Program} {w:World} {A:Around} {E:WI} {s:Shared}
theorem jX{t:Bool}{it l:Addr}{i:Nat}{items:Array Value}{x:Value}{Q:WI}(hit:gM t s.heap it l i)(hl:ke t s.heap l items)(hx:items[i]? =some x)
 (hQ:∀h',gM t h' it l (i+1)->Heap.SameBut it s.heap h'->Q x {s with heap:=h'}):wpAny (model prog w) A (Builtin.SmallTypes.nextOf (.ref it)) Q E s:=by
 cases t with
 | true=>exact mH hit hl hx hQ
 | false=>exact wpAny_nextOf_list_item hit hl hx hQ
theorem oG{t:Bool}{it l:Addr}{i:Nat}{items:Array Value}{Q:WI}(hh:A.handled=none)(hit:gM t s.heap it l i)(hl:ke t s.heap l items)(hx:items[i]? =none)
 (hE:∀h' e,Heap.ExtBut it s.heap h'->(∃o,h'.get? e=some o/\o.cls= .type "StopIteration")->E (.ref e) {s with heap:=h'}):wpAny (model prog w) A (Builtin.SmallTypes.nextOf (.ref it)) Q E s:=by
 cases t with
 | true=>exact jU hh hit hl hx hE
 | false=>exact wpAny_nextOf_list_end hh hit hl hx hE
theorem wq{t:Bool}{l:Addr}{items:Array Value}{Q:WI}(hl:ke t s.heap l items)
 (hQ:Q (.ref s.heap.objs.size) {s with heap:=s.heap.push {cls:= .type (tW t),data:= .fields #[.ref l, .int 0 0]}}):wpAny (model prog w) A (pyIter (.ref l)) Q E s:=by
 cases t with
 | true=>exact wpAny_pyIter_tuple hl hQ
 | false=>exact wpAny_pyIter_list hl hQ
theorem CZ{t u:Bool}{z TI TO i1 i2 l1 l2:Addr}{k1 k2:Nat}{xs ys:Array Value}{x y a b:Value}{Q:WI}(D:ZipApart z TI TO i1 i2 l1 l2)(hz:IsZip s.heap z TI TO .none)(Bh:IsPair s.heap TI (.ref i1) (.ref i2))
 (CN:IsPair s.heap TO a b) (h1:gM t s.heap i1 l1 k1) (h2:gM u s.heap i2 l2 k2) (yo:ke t s.heap l1 xs) (Bg:ke u s.heap l2 ys) (hx:xs[k1]? =some x) (hy:ys[k2]? =some y)
 (hQ:∀h',IsZip h' z TI TO (rawInt s.heap.objs.size)->IsPair h' TO x y->gM t h' i1 l1 (k1+1)->gM u h' i2 l2 (k2+1)->IsPair h' s.heap.objs.size x y->h'.objs.size=s.heap.objs.size+1->(∀c o,c≠z->c≠TO->c≠i1->c≠i2->s.heap.get? c=some o->h'.get? c=some o)->Q (.ref s.heap.objs.size) {s with heap:=h'}) :
 wpAny (model prog w) A (Builtin.«zip.__next__» ⟨[.ref z],[]⟩) (fun fin s'=>∃v,fin= .done (.ret v)/\Q v s') E s:=by
 show wpAny _ _ (field (.ref z) 2 >>=_) _ _ _;refine wpAny_bind (wpAny_field hz rfl (x:= .bool false) rfl ?_);show wpAny _ _ (field (.ref z) 3 >>=_) _ _ _;refine wpAny_bind (wpAny_field hz rfl (x:= .ref TI) rfl ?_);refine wpAny_bind (wpAny_seqItems Bh rfl ?_);show wpAny _ _ (Builtin.SmallTypes.ownedTupleIsFree (.ref z) >>=_) _ _ _;refine wpAny_bind ?_;unfold Builtin.SmallTypes.ownedTupleIsFree;refine wpAny_bind (wpAny_field hz rfl (x:= .none) rfl (wpAny_pure ?_));simp only[if_true];refine wpAny_bind (wpAny_rule ?_);refine wpAny_bind (wpAny_field hz rfl (x:= .ref TO) rfl ?_);refine wpAny_bind (wpAny_setField_rec hz (by simp) fun iq oU jc=>?_)
 replace oU:IsZip iq z TI TO .ellipsis:=oU;refine wpAny_bind ?_;simp only[List.zipIdx_cons,List.zipIdx_nil,List.forIn_cons,List.forIn_nil]
 refine wpAny_bind (wpAny_bind (wpAny_onRaise ?_));show wpAny _ _ (Builtin.SmallTypes.nextOf (.ref i1) >>=_) _ _ _;refine wpAny_bind (jX (h1.xb jc.extBut D.i1z) (yo.xb jc.extBut D.l1z) hx fun fV Kp cR=>wpAny_pure ?_)
 have hTO₂:IsPair fV TO a b:=cR.extBut _ _ D.TOi1 (jc.extBut _ _ D.TOz CN);refine wpAny_bind (wpAny_seqItems hTO₂ rfl ?_);refine wpAny_bind (wpAny_updateSeq_pair hTO₂ fun Ea yd ky=>?_)
 replace yd:IsPair Ea TO x b:=yd;refine wpAny_bind (wpAny_letGo (wpAny_pure ?_));refine wpAny_bind (wpAny_bind (wpAny_onRaise ?_));show wpAny _ _ (Builtin.SmallTypes.nextOf (.ref i2) >>=_) _ _ _
 refine wpAny_bind (jX (((h2.xb jc.extBut D.i2z).xb cR.extBut D.i12.symm).xb ky.extBut D.TOi2.symm) (((Bg.xb jc.extBut D.l2z).xb cR.extBut D.l2i1).xb ky.extBut D.l2TO) hy fun Ms OW sx=>wpAny_pure ?_)
 have hTO₄:IsPair Ms TO x b:=sx.extBut _ _ D.TOi2 yd;refine wpAny_bind (wpAny_seqItems hTO₄ rfl ?_);refine wpAny_bind (wpAny_updateSeq_pair hTO₄ fun oy yi su=>?_)
 replace yi:IsPair oy TO x y:=yi;refine wpAny_bind (wpAny_letGo (wpAny_pure (wpAny_pure ?_)));refine wpAny_bind (wpAny_seqItems yi rfl ?_);refine wpAny_bind (wpAny_newTuple ?_)
 have hsz:oy.objs.size=s.heap.objs.size:=(su.1.trans (sx.1.trans (ky.1.trans (cR.1.trans jc.1))));have hz₅:IsZip oy z TI TO .ellipsis:=su.extBut _ _ D.TOz.symm <| sx.extBut _ _ D.i2z.symm <| ky.extBut _ _ D.TOz.symm <| cR.extBut _ _ D.i1z.symm oU
 have hk₅:∀c o,c≠z->c≠TO->c≠i1->c≠i2->s.heap.get? c=some o->oy.get? c=some o:=fun c o c1 c2 c3 c4 e=>su.extBut _ _ c2 <| sx.extBut _ _ c4 <| ky.extBut _ _ c2 <| cR.extBut _ _ c3 <| jc.extBut _ _ c1 e
 have h1₅:gM t oy i1 l1 (k1+1):=((Kp.xb ky.extBut D.TOi1.symm).xb sx.extBut D.i12).xb su.extBut D.TOi1.symm;have h2₅:gM u oy i2 l2 (k2+1):=OW.xb su.extBut D.TOi2.symm;have hzlt:=Heap.lt_size hz₅;show wpAny _ _ (Builtin.SmallTypes.ownedTupleHandOut (.ref z) (.ref oy.objs.size) >>=_) _ _ _;refine wpAny_bind ?_;unfold Builtin.SmallTypes.ownedTupleHandOut;have hz₆:IsZip (oy.push {cls:= .type "tuple",data:= .seq #[x,y]}) z TI TO .ellipsis:=Heap.get?_push_of_some _ hz₅;refine wpAny_bind (wpAny_setField_rec hz₆ (by simp) fun RM Hf G5=>?_)
 replace Hf:IsZip RM z TI TO (rawInt oy.objs.size):=Hf;refine wpAny_setField_rec Hf (by simp) fun Ha CM Hc=>?_;replace CM:IsZip Ha z TI TO (rawInt oy.objs.size):=CM
 have up:∀c o,c≠z->oy.get? c=some o->Ha.get? c=some o:=fun c o c1 e=>Hc.extBut _ _ c1 <| G5.extBut _ _ c1 (Heap.get?_push_of_some _ e)
 have hT₈:IsPair Ha oy.objs.size x y:=Hc.extBut _ _ (Nat.ne_of_gt hzlt) <| G5.extBut _ _ (Nat.ne_of_gt hzlt) (Heap.get?_push_size _ rfl)
 have hz8:Ha.objs.size=oy.objs.size+1:=(Hc.1.trans G5.1).trans (Heap.size_push ..);rw[hsz] at CM hT₈ hz8;refine wpAny_pure ⟨_,rfl,?_⟩;show Q (.ref oy.objs.size) _;rw [hsz];exact hQ Ha CM (up _ _ D.TOz yi) (h1₅.at fun o e=>up _ o D.i1z e) (h2₅.at fun o e=>up _ o D.i2z e) hT₈ hz8 fun c o c1 c2 c3 c4 e=>up c o c1 (hk₅ c o c1 c2 c3 c4 e)
theorem F6{t u:Bool}{z TI TO i1 i2 l1 l2:Addr}{k1 k2:Nat}{xs ys:Array Value}{a b:Value}{Q:Fin->Shared->Prop}(hh:A.handled=none)(D:ZipApart z TI TO i1 i2 l1 l2)(hz:IsZip s.heap z TI TO .none)
 (Bh:IsPair s.heap TI (.ref i1) (.ref i2)) (CN:IsPair s.heap TO a b) (h1:gM t s.heap i1 l1 k1) (h2:gM u s.heap i2 l2 k2) (yo:ke t s.heap l1 xs) (Bg:ke u s.heap l2 ys) (Rm:xs[k1]? =none\/ys[k2]? =none)
 (hE:∀h' e,(∀c o,c≠z->c≠TO->c≠i1->c≠i2->s.heap.get? c=some o->h'.get? c=some o)->(∃o,h'.get? e=some o/\o.cls= .type "StopIteration")->E (.ref e) {s with heap:=h'}):wpAny (model prog w) A (Builtin.«zip.__next__» ⟨[.ref z],[]⟩) Q E s:=by
 show wpAny _ _ (field (.ref z) 2 >>=_) _ _ _;refine wpAny_bind (wpAny_field hz rfl (x:= .bool false) rfl ?_);show wpAny _ _ (field (.ref z) 3 >>=_) _ _ _;refine wpAny_bind (wpAny_field hz rfl (x:= .ref TI) rfl ?_);refine wpAny_bind (wpAny_seqItems Bh rfl ?_);show wpAny _ _ (Builtin.SmallTypes.ownedTupleIsFree (.ref z) >>=_) _ _ _;refine wpAny_bind ?_;unfold Builtin.SmallTypes.ownedTupleIsFree;refine wpAny_bind (wpAny_field hz rfl (x:= .none) rfl (wpAny_pure ?_));simp only[if_true];refine wpAny_bind (wpAny_rule ?_);refine wpAny_bind (wpAny_field hz rfl (x:= .ref TO) rfl ?_);refine wpAny_bind (wpAny_setField_rec hz (by simp) fun iq oU jc=>?_)
 replace oU:IsZip iq z TI TO .ellipsis:=oU;refine wpAny_bind ?_;simp only[List.zipIdx_cons,List.zipIdx_nil,List.forIn_cons,List.forIn_nil]
 refine wpAny_bind (wpAny_bind (wpAny_onRaise ?_));show wpAny _ _ (Builtin.SmallTypes.nextOf (.ref i1) >>=_) _ _ _;cases hx:xs[k1]? with
 | none=>
   refine wpAny_bind (oG hh (h1.xb jc.extBut D.i1z) (yo.xb jc.extBut D.l1z) hx fun fV e cR he=>?_)
   obtain⟨oe,hoe,hce⟩:=he;have CO:IsZip fV z TI TO .ellipsis:=cR _ _ D.i1z.symm oU;have hez:e≠z:=fun x=>by {subst x;rw [CO] at hoe;cases hoe;simp at hce}
   exact wpAny_setField_rec CO (by simp) fun Ea _ ky=>hE Ea e (fun c o c1 _ c3 _ x=>ky.extBut _ _ c1 <| cR _ _ c3 <| jc.extBut _ _ c1 x) ⟨oe,ky.extBut _ _ hez hoe,hce⟩
 | some x=>
   have hy:ys[k2]? =none:=Rm.resolve_left fun h=>by {rw [hx] at h;cases h}
   refine wpAny_bind (jX (h1.xb jc.extBut D.i1z) (yo.xb jc.extBut D.l1z) hx fun fV Kp cR=>wpAny_pure ?_)
   have hTO₂:IsPair fV TO a b:=cR.extBut _ _ D.TOi1 (jc.extBut _ _ D.TOz CN);refine wpAny_bind (wpAny_seqItems hTO₂ rfl ?_);refine wpAny_bind (wpAny_updateSeq_pair hTO₂ fun Ea yd ky=>?_)
   refine wpAny_bind (wpAny_letGo (wpAny_pure ?_));refine wpAny_bind (wpAny_bind (wpAny_onRaise ?_));show wpAny _ _ (Builtin.SmallTypes.nextOf (.ref i2) >>=_) _ _ _;refine wpAny_bind (oG hh (((h2.xb jc.extBut D.i2z).xb cR.extBut D.i12.symm).xb ky.extBut D.TOi2.symm) (((Bg.xb jc.extBut D.l2z).xb cR.extBut D.l2i1).xb ky.extBut D.l2TO) hy fun Ms e sx he=>?_)
   obtain⟨oe,hoe,hce⟩:=he;have hz₄:IsZip Ms z TI TO .ellipsis:=sx _ _ D.i2z.symm <| ky.extBut _ _ D.TOz.symm <| cR.extBut _ _ D.i1z.symm oU
   have hez:e≠z:=fun x=>by {subst x;rw [hz₄] at hoe;cases hoe;simp at hce}
   exact wpAny_setField_rec hz₄ (by simp) fun oy _ su=>hE oy e (fun c o c1 c2 c3 c4 x=>su.extBut _ _ c1 <| sx _ _ c4 <| ky.extBut _ _ c2 <| cR.extBut _ _ c3 <| jc.extBut _ _ c1 x) ⟨oe,su.extBut _ _ hez hoe,hce⟩
end
abbrev Pp(t:Bool)(h:Heap)(l1:Addr):Heap:=h.push {cls:= .type (tW t),data:= .fields #[.ref l1, .int 0 0]}
abbrev Ph(t u:Bool)(h:Heap)(l1 l2:Addr):Heap:=(Pp t h l1).push {cls:= .type (tW u),data:= .fields #[.ref l2, .int 0 0]}
abbrev Po(t u:Bool)(h:Heap)(l1 l2:Addr):Heap:=(Ph t u h l1 l2).push {cls:= .type "tuple",data:= .seq #[.ref h.objs.size, .ref (Pp t h l1).objs.size]}
abbrev Pk(t u:Bool)(h:Heap)(l1 l2:Addr):Heap:=(Po t u h l1 l2).push {cls:= .type "tuple",data:= .seq #[.none, .none]}
abbrev ME(t u:Bool)(h:Heap)(l1 l2:Addr):Heap:=(Pk t u h l1 l2).push {cls:= .type "zip",data:= .fields #[.none, .bool false, .bool false, .ref (Ph t u h l1 l2).objs.size, .ref (Po t u h l1 l2).objs.size]}
theorem Bc(t u:Bool)(l1 l2:Addr)(xs ys:Array Value):Meets (Builtin.«zip.__new__» ⟨[.type "zip", .ref l1, .ref l2],[]⟩) (fun _ R s=>ke t s.heap l1 xs/\ke u s.heap l2 ys/\R (.ok (.ret (.ref (Pk t u s.heap l1 l2).objs.size))) {s with heap:=ME t u s.heap l1 l2}):=
 .of_wp fun prog w A R s h=>by
   obtain⟨hp,g,d,tk,os⟩:=s;obtain⟨yo,Bg,h⟩:=h;have hsub:=sub_zip;have hL1:ke t (Shared.heap ⟨hp,g,d,tk,os⟩) l1 xs:=yo;have hL2:ke u (Shared.heap ⟨hp.push {cls:= .type (tW t),data:= .fields #[.ref l1, .int 0 0]},g,d,tk,os⟩) l2 ys:=Bg.at fun o e=>Heap.get?_push_of_some _ e
   wp_walk using wq hL1,wq hL2
   exact⟨_,rfl,h⟩
theorem gM.new{t:Bool}{h:Heap}{i l:Addr}(e:h.get? i=some {cls:= .type (tW t),data:= .fields #[.ref l, .int 0 0]}):gM t h i l 0:=by
 cases t with
 | true=>exact⟨_,e,rfl,rfl⟩
 | false=>exact⟨_,e,rfl,rfl⟩
theorem C6{prog:Program}{w:World}{A:Around}{E:WI}{s:Shared}{t u:Bool}{l1 l2:Addr}{xs ys:Array Value}{Q:WI}(yo:ke t s.heap l1 xs)(Bg:ke u s.heap l2 ys)
 (h:∀h',IsZip h' (s.heap.objs.size+4) (s.heap.objs.size+2) (s.heap.objs.size+3) .none->IsPair h' (s.heap.objs.size+2) (.ref s.heap.objs.size) (.ref (s.heap.objs.size+1))->IsPair h' (s.heap.objs.size+3) .none .none->
   gM t h' s.heap.objs.size l1 0->gM u h' (s.heap.objs.size+1) l2 0->(∀c o,s.heap.get? c=some o->h'.get? c=some o)->Q (.ref (s.heap.objs.size+4)) {s with heap:=h'}):wpAny (model prog w) A (call (.type "zip") [.ref l1, .ref l2]) Q E s:=by
 refine callType_new F.called_zip (by decide) (F.typeCall_zip_2 _ _) (F.newCall_zip_2 _ _) (fun obj=>F.args_object_init_3 obj _ _) F.entry_zip_new (Bc t u l1 l2 xs ys) ⟨yo,Bg,?_⟩
 have z1:(Pp t s.heap l1).objs.size=s.heap.objs.size+1:=Heap.size_push ..;have z2:(Ph t u s.heap l1 l2).objs.size=s.heap.objs.size+2:=(Heap.size_push ..).trans (congrArg (·+1) z1)
 have z3:(Po t u s.heap l1 l2).objs.size=s.heap.objs.size+3:=(Heap.size_push ..).trans (congrArg (·+1) z2)
 have z4:(Pk t u s.heap l1 l2).objs.size=s.heap.objs.size+4:=(Heap.size_push ..).trans (congrArg (·+1) z3)
 have g5:(ME t u s.heap l1 l2).get? (Pk t u s.heap l1 l2).objs.size=some _:=Heap.get?_push_size _ rfl;have g4:(ME t u s.heap l1 l2).get? (Po t u s.heap l1 l2).objs.size=some _:=Heap.get?_push_of_some _ (Heap.get?_push_size _ rfl);have g3:(ME t u s.heap l1 l2).get? (Ph t u s.heap l1 l2).objs.size=some _:=Heap.get?_push_of_some _ <| Heap.get?_push_of_some _ (Heap.get?_push_size _ rfl)
 have g2:(ME t u s.heap l1 l2).get? (Pp t s.heap l1).objs.size=some _:=Heap.get?_push_of_some _ <| Heap.get?_push_of_some _ <| Heap.get?_push_of_some _ (Heap.get?_push_size _ rfl)
 have g1:(ME t u s.heap l1 l2).get? s.heap.objs.size=some _:=Heap.get?_push_of_some _ <| Heap.get?_push_of_some _ <| Heap.get?_push_of_some _ <| Heap.get?_push_of_some _ (Heap.get?_push_size _ rfl)
 show _/\_;rw[z2,z3,z4] at g5;rw [z1,z2] at g3;rw [z3] at g4;rw [z1] at g2;rw [z4];exact⟨⟨_,g5,rfl⟩,h _ g5 g3 g4 (gM.new g1) (gM.new g2) fun c o x=>Heap.get?_push_of_some _ <| Heap.get?_push_of_some _ <| Heap.get?_push_of_some _ <| Heap.get?_push_of_some _ <| Heap.get?_push_of_some _ x⟩
end PySem
namespace L2
open PySem PySem.Spec PyProof.Rows
def Fd(t:Bool)(K:W.Frag)(H:Hp)(a:Addr)(xs:List V):Prop:=cond t (sT K H a xs) (o8 K H a xs)
theorem Inv.E4{X:Cx}{pins:WH}{σ:L2.St}{s:Shared}{t:Bool}{a:Addr}{xs:List V}(I:Inv X pins σ H s)(h:Fd t X.K H a xs):∃its:List Value,Vals xs its/\ke t s.heap a its.toArray:=by
 cases t with
 | true=>obtain⟨its,r,p,_⟩:=I.tuple h;exact⟨its,r,p⟩
 | false=>obtain⟨its,r,p,_⟩:=I.list h;exact⟨its,r,p.isList⟩
theorem Inv.Ct{X:Cx}{pins:WH}{σ:L2.St}{s:Shared}{t:Bool}{a:Addr}{xs ys:List V}(I:Inv X pins σ H s)(h:Fd t X.K H a xs)(h':Fd t X.K H a ys):xs=ys:=by
 cases t with
 | true=>exact I.qS h h'
 | false=>exact I.qb h h'
def T5(K:W.Frag)(t u:Bool)(a b:Addr):It:=
 ⟨fun i H=>∃xs ys x y,Fd t K H a xs/\Fd u K H b ys/\xs[i]? =some x/\ys[i]? =some y,
  fun i H v H'=>∃p x y,H p=none/\v= .ref p/\(∀xs,Fd t K H a xs->xs[i]? =some x)/\(∀ys,Fd u K H b ys->ys[i]? =some y)/\H'=upd H p (.tup [x,y]),
  fun i H=>∃xs ys,Fd t K H a xs/\Fd u K H b ys/\(xs.length<=i\/ys.length<=i)⟩
theorem EK{K:W.Frag}{k:Nat}{t u:Bool}{z TI TO i1 i2 a b:Addr}(D:ZipApart z TI TO i1 i2 a b):Turn P w K (.Tuple elts k pos) (T5 K t u a b) [z,TI,TO,i1,i2] z
 (fun i h=>IsZip h z TI TO .none/\IsPair h TI (.ref i1) (.ref i2)/\(∃x y,IsPair h TO x y)/\gM t h i1 a i/\gM u h i2 b i) where
 mem:=by simp
 obj:=fun i h st c hc=>by
  obtain⟨hz,Bh,⟨x,y,CN⟩,h1,h2⟩:=st;simp only[List.mem_cons,List.not_mem_nil,or_false] at hc;rcases hc with rfl | rfl | rfl | rfl | rfl
  .exact⟨_,hz,fun v z=>by cases z⟩
  .exact⟨_,Bh,fun v z=>by cases z⟩
  .exact⟨_,CN,fun v z=>by cases z⟩
  .exact h1.ob
  .exact h2.ob
 keep:=fun i h h' st k=>by
  obtain⟨hz,Bh,⟨x,y,CN⟩,h1,h2⟩:=st;exact⟨k z (by simp) _ hz,k TI (by simp) _ Bh,⟨x,y,k TO (by simp) _ CN⟩,h1.at fun o e=>k i1 (by simp) o e,h2.at fun o e=>k i2 (by simp) o e⟩
 item:=by
  intro X hP hw hK hc i pins s σ H E I hf st hg;subst hP hw hK;obtain⟨xs,ys,x,y,hq,hr,hx,hy⟩:=hg;obtain⟨its,rv,p⟩:=I.E4 hq;obtain⟨jts,zY,p'⟩:=I.E4 hr;obtain⟨ux,hu,ru⟩:=rv.get hx;obtain⟨uy,Vb,Ri⟩:=zY.get hy;obtain⟨hz,Bh,⟨a0,b0,CN⟩,h1,h2⟩:=st;have hT:s.TypeIs (.ref z) "zip":=⟨_,hz,rfl⟩;unfold pyNext;refine wpAny_bind (wpAny_attempt (wpAny_callSpecial?_slot (name:="__next__") hT F.slot_zip_next (wpAny_call_entry F.slot_zip_next hT F.entry_zip_next (CZ D hz Bh CN h1 h2 p p' (x:=ux) (y:=uy) (by simpa using hu) (by simpa using Vb) fun iq a1 a2 a3 a4 a5 a6 wO=>wpAny_pure ?_) (F.args_zip_next_1 _))))
  refine⟨_,rfl,wpAny_letOwnedTupleGo_zip a1 fun fV CO cR=>?_⟩
  replace cR:Heap.SameBut z iq fV:=cR
  have hzl:z < s.heap.objs.size:=Heap.lt_size hz;have zR:fV.get? s.heap.objs.size=some {cls:= .type "tuple",data:= .seq #[ux,uy]}:=(cR.2 _ (Nat.ne_of_gt hzl)).trans a5;have kk:∀b o,b≠z->b≠TO->b≠i1->b≠i2->s.heap.get? b=some o->fV.get? b=some o:=fun b o c1 c2 c3 c4 q=>(cR.2 b c1).trans (wO b o c1 c2 c3 c4 q)
  have hn:H s.heap.objs.size=none:=I.fresh;have sm:aT H (upd H s.heap.objs.size (.tup [x,y])):=aX hn;have f0:∀c∈[z,TI,TO,i1,i2],H c=none:=fun c hc=>(hf c hc).1
  have nit:∀b o,H b=some o->b≠z/\b≠TO/\b≠i1/\b≠i2:=fun b o q=>by
   refine⟨fun e=>?_,fun e=>?_,fun e=>?_,fun e=>?_⟩
   .rw [e,f0 z (by simp)] at q;cases q
   .rw [e,f0 TO (by simp)] at q;cases q
   .rw [e,f0 i1 (by simp)] at q;cases q
   .rw [e,f0 i2 (by simp)] at q;cases q
  have kH:∀b o q,H b=some q->s.heap.get? b=some o->fV.get? b=some o:=fun b o q hb e=>let⟨c1,c2,c3,c4⟩:=nit b q hb;kk b o c1 c2 c3 c4 e
  have hok:oq X.prog X.w (upd H s.heap.objs.size (.tup [x,y])) fV:=fun b ob q=>by
   by_cases hb:b=s.heap.objs.size
   .subst hb;rw[aY] at q;cases q;exact⟨by show 2<=sizeLine;decide,[ux,uy], .cons ru (.cons Ri .nil),⟨_,zR,rfl,_,rfl⟩⟩
   .rw [bg hb] at q;refine(I.hok b ob q).xJ (fun c v hc e=>?_) (fun c e=>sm c _ e) fun c ys e=>sm c _ e
    rcases hc with rfl | hc
    .exact kH c v _ q e
    .exact kH c v _ hc e
  have nch:∀b,b ∉ [z,TI,TO,i1,i2]->b≠z/\b≠TO/\b≠i1/\b≠i2:=fun b hb=>⟨fun e=>hb (by simp [e]),fun e=>hb (by simp [e]),fun e=>hb (by simp [e]),fun e=>hb (by simp [e])⟩
  have kc:∀b o,b ∉ [z,TI,TO,i1,i2]->s.heap.get? b=some o->fV.get? b=some o:=fun b o hb e=>let⟨c1,c2,c3,c4⟩:=nch b hb;kk b o c1 c2 c3 c4 e
  have I2:Inv X pins σ (upd H s.heap.objs.size (.tup [x,y])) {s with heap:=fV,toks:=s.toks}:=by
   refine I.step (g':=s.gens) (d':=s.drawn) (ch:=[z,TI,TO,i1,i2]) (fun b hb=>?_) (fun b o _ _ hb q _=>kc b o hb q) (fun b o _ _ hb q _=>⟨o.slots,kc b o hb q⟩)
    (fun b o hb q n=>by rw[bg (Nat.ne_of_lt (Heap.lt_size q))];exact n) (fun b o hb q=>⟨o,kc b o hb q⟩) (fun b ys e=>sm b _ e) (fun b o u e=>sm b _ e) (fun b ps e=>⟨#[],by rw[sm b _ e];simp⟩) (fun m hm=>?_) hok I.bare
   .obtain⟨g0,g1,g2,g3,g4,g5⟩:=hf b hb;exact⟨g3,g1,g4,g5⟩
   .obtain⟨o,es,ep,ho,r⟩:=hm;refine⟨o,es,ep,kc _ o (fun hb=>?_) ho,r⟩
    exact(hf _ hb).2.1 rfl
  have up:∀c,c≠z->∀o,iq.get? c=some o->fV.get? c=some o:=fun c hc o e=>(cR.2 c hc).trans e
  refine⟨.ref s.heap.objs.size,_,I2,rfl,⟨s.heap.objs.size,x,y,hn,rfl,fun zs RV=>(by rw[I.Ct RV hq];exact hx),fun zs RV=>(by rw[I.Ct RV hr];exact hy),rfl⟩,
   ⟨CO,up _ D.TIz _ (wO TI _ D.TIz D.TITO D.TIi1 D.TIi2 Bh),⟨_,_,up _ D.TOz _ a2⟩,a3.at fun o e=>up _ D.i1z o e,a4.at fun o e=>up _ D.i2z o e⟩,fun c hc=>?_⟩
  have hlt:c < s.heap.objs.size:=by
   simp only[List.mem_cons,List.not_mem_nil,or_false] at hc;rcases hc with rfl | rfl | rfl | rfl | rfl
   .exact hzl
   .exact Heap.lt_size Bh
   .exact Heap.lt_size CN
   .exact h1.lt
   .exact h2.lt
  rw[bg (Nat.ne_of_lt hlt)];exact f0 c hc
 done:=by
  intro X hP hw hK hc i pins s σ H E I hf st hg;subst hP hw hK;obtain⟨xs,ys,hq,hr,hl⟩:=hg;obtain⟨its,rv,p⟩:=I.E4 hq;obtain⟨jts,zY,p'⟩:=I.E4 hr;obtain⟨hz,Bh,⟨a0,b0,CN⟩,h1,h2⟩:=st;have hT:s.TypeIs (.ref z) "zip":=⟨_,hz,rfl⟩;have l1:=rv.length;have l2:=zY.length;unfold pyNext;refine wpAny_bind (wpAny_attempt (wpAny_callSpecial?_slot (name:="__next__") hT F.slot_zip_next (wpAny_call_entry F.slot_zip_next hT F.entry_zip_next (F6 (I.ok.hd hc) D hz Bh CN h1 h2 p p' ?_ fun h' e hk he=>?_) (F.args_zip_next_1 _))))
  .rcases hl with hl | hl
   .exact .inl (by simp;omega)
   .exact .inr (by simp;omega)
  obtain⟨o,ho,Hn⟩:=he;refine wpAny_bind (wpAny_isInstance (T:="StopIteration") (b:=true) ⟨o,ho,Hn⟩ isSubtype_stop ?_);have nch:∀b,b ∉ [z,TI,TO,i1,i2]->b≠z/\b≠TO/\b≠i1/\b≠i2:=fun b hb=>⟨fun e=>hb (by simp [e]),fun e=>hb (by simp [e]),fun e=>hb (by simp [e]),fun e=>hb (by simp [e])⟩
  have kc:∀b o,b ∉ [z,TI,TO,i1,i2]->s.heap.get? b=some o->h'.get? b=some o:=fun b o hb e=>let⟨c1,c2,c3,c4⟩:=nch b hb;hk b o c1 c2 c3 c4 e
  have f0:∀c∈[z,TI,TO,i1,i2],H c=none:=fun c hc=>(hf c hc).1
  have kH:∀b o q,H b=some q->s.heap.get? b=some o->h'.get? b=some o:=fun b o q hb e=>kc b o (fun z=>by rw[f0 b z] at hb;cases hb) e
  refine wpAny_pure ⟨rfl,?_⟩;refine I.step (h':=h') (H':=H) (g':=s.gens) (d':=s.drawn) (t':=s.toks) (ch:=[z,TI,TO,i1,i2]) (fun b hb=>?_) (fun b o _ _ hb q _=>kc b o hb q) (fun b o _ _ hb q _=>⟨o.slots,kc b o hb q⟩)
   (fun b o hb q n=>n) (fun b o hb q=>⟨o,kc b o hb q⟩) (fun b ys e=>e) (fun b o u e=>e) (fun b ps e=>⟨#[],by rw[e];simp⟩) (fun m hm=>?_) (fun b ob q=>?_) I.bare
  .obtain⟨g0,g1,g2,g3,g4,g5⟩:=hf b hb;exact⟨g3,g1,g4,g5⟩
  .obtain⟨o,es,ep,ho,r⟩:=hm;refine⟨o,es,ep,kc _ o (fun hb=>?_) ho,r⟩
   exact(hf _ hb).2.1 rfl
  .refine(I.hok b ob q).xJ (fun c v hc e=>?_) (fun c e=>e) fun c ys e=>e
   rcases hc with rfl | hc
   .exact kH c v _ q e
   .exact kH c v _ hc e
 self:=fun A i s Q E st h=>wpAny_pyIter_zip st.1 h
section
variable {X:Cx}
def ya(ds es:List D):List D:=(ds.zip es).map fun p=> .tup [p.1,p.2]
def seqD?:D->Option (List D)
 | .lst ds=>some ds
 | .tup ds=>some ds
 | _=>none
def J8(f g:FD):au->R (List D):=fun δ=>(f δ).bind fun d=>(g δ).bind fun e=>match seqD? d,seqD? e with | some ds,some es=> .ok (ya ds es) | _,_=> .no
theorem Rep.E4{K:W.Frag}{B:List Addr}{d:D}{v:V}{ds:List D}(r:Rep K B H d v)(h:seqD? d=some ds):∃t a xs,v= .ref a/\(∀B' H',dF B H B' H'->Fd t K H' a xs/\az K B' H' ds xs):=by
 cases d with
 | lst es=>
   cases h;obtain⟨a,xs,rfl,l,rs⟩:=Rep.lst.mp r;exact⟨false,a,xs,rfl,fun B' H' p=>⟨(l.br p).sq,rs.br p⟩⟩
 | tup es=>
   cases h;obtain⟨a,xs,rfl,l,rs⟩:=Rep.tup.mp r;refine⟨true,a,xs,rfl,fun B' H' p=>⟨?_,rs.br p⟩⟩
   have l':v8 K B' H' a xs:=l.elim (fun z=> .inl ⟨(p.rd z.2 z.1).2,(p.rd z.2 z.1).1⟩) .inr
   exact l'.sq
 | _=>cases h
theorem EF{elts:List Expr}{k:Nat}{vq:Pos}{p pos:Pos}(h:QD X a f)(h':QD X b g)(hg:Gl X "zip")(hm:X.mg "zip"=none)(hs:starEach [a,b] X.env=[(false,eval a X.env),(false,eval b X.env)]:=by rfl)(sv:starEach [b] X.env=[(false,eval b X.env)]:=by rfl) :
 wY X (.Tuple elts k vq) (.Call (.Name "zip" p) [a,b] [] pos) (J8 f g):=by
 refine⟨?_⟩;intro pins s σ H RR I ⟨Z,B,δ,ds,E,hf,q⟩;obtain⟨d,h1,h2⟩:=R.ai hf;obtain⟨e,h3,h4⟩:=R.ai h2;have hA:=c9 h.1 (c9 h'.1 fZ sv) (by rw[hs,sv]) pos pins s σ H (fun vs H1=>aT H H1/\∃v v',vs=[v,v']/\Rep X.K B H1 d v/\Rep X.K B H1 e v') I
  ⟨Z,B,δ,d,E,h1,fun v H1 s1 r1=>⟨Z,B,δ,e,E.same s1,h3,fun v' H2 s2 r2=>⟨s1.trans s2,v,v',rfl,r1.same s2,r2⟩⟩⟩
 refine Call_ (jk I hg hm boot_zip (PyProof.Rows.callWith_type1 (dH hA fun us s1 ⟨vs,H1,I1,r1,ss,v,v',ev,rr,O0⟩=>?_) (by rw[hs,sv]) (by rw[sv];rfl)))
 subst ev;obtain⟨u,u',rfl,ru,Ri⟩:=vals2 r1;cases e1:seqD? d with
 | none=>rw [e1] at h4;cases h4
 | some ls=>
   cases e2:seqD? e with
   | none=>rw [e1,e2] at h4;cases h4
   | some ms=>
     rw[e1,e2] at h4;cases h4;obtain⟨t,a,xs,rfl,k1⟩:=rr.E4 e1;obtain⟨w,b,ys,rfl,k2⟩:=O0.E4 e2;cases ru;cases Ri;obtain⟨its,rv,pp⟩:=I1.E4 (k1 B H1 (dF.refl B H1)).1;obtain⟨jts,zY,Tj⟩:=I1.E4 (k2 B H1 (dF.refl B H1)).1;have la:=pp.lt;have lb:=Tj.lt;refine C6 pp Tj fun fV hz Bh CN To Ti kk=>wpAny_pyIter_zip hz ?_
     have I2:Inv X pins σ H1 {s1 with heap:=fV}:=I1.kept (t':=s1.toks) kk
     refine⟨s1.heap.objs.size+4,[s1.heap.objs.size+4,s1.heap.objs.size+2,s1.heap.objs.size+3,s1.heap.objs.size,s1.heap.objs.size+1],_,_,H1,rfl,I2,EK (t:=t) (u:=w) (zipApart_new la lb),⟨hz,Bh,⟨_,_,CN⟩,To,Ti⟩,fun c hc=>?_,q _ H1 ss fun B' H' pr=>?_⟩
     .have hle:s1.heap.objs.size<=c:=by
       simp only[List.mem_cons,List.not_mem_nil,or_false] at hc;rcases hc with rfl | rfl | rfl | rfl | rfl <;> omega
      exact I1.x4 hle (I1.hok.fresh hle)
     .obtain⟨l1,Tt⟩:=k1 B' H' pr;obtain⟨l2,S_⟩:=k2 B' H' pr;refine⟨fun i d hd=>?_,⟨xs,ys,l1,l2,?_⟩⟩
      .unfold ya at hd;rw[List.getElem?_map] at hd;cases ez:(ls.zip ms)[i]? with
       | none=>rw [ez] at hd;cases hd
       | some pr'=>
         rw[ez] at hd;have hd:D.tup [pr'.1,pr'.2]=d:=Option.some.inj hd;obtain⟨ea,eb⟩:=List.getElem?_zip_eq_some.mp ez;obtain⟨x,hx,rx⟩:=Tt.get ea;obtain⟨y,hy,ry⟩:=S_.get eb;refine⟨⟨xs,ys,x,y,l1,l2,hx,hy⟩,fun v oV yl JN=>?_⟩
         obtain⟨p,x2,y2,hp,rfl,Px,Eb,rfl⟩:=yl;refine⟨aX hp,?_⟩;subst hd;have Px:=Px xs l1;have Eb:=Eb ys l2;rw[hx] at Px;cases Px;rw[hy] at Eb;cases Eb;refine Rep.tup.mpr ⟨p,_,rfl, .inl ⟨fun ha=>?_, .inl aY⟩,az.cons (rx.same (aX hp)) (az.cons (ry.same (aX hp)) az.nil)⟩
         obtain⟨o,ho⟩:=JN p ha;rw[hp] at ho;cases ho
      .rw [<-Tt.length,<-S_.length];unfold ya;rw[List.length_map,List.length_zip];omega
def Sr(T U:String)(f:FD):FD:=fun δ=>(f δ).bind fun d=>match d with | .dct _ _=> .no | _=> .ok (.bl (LY (tyName d) T || LY (tyName d) U))
def V9(lo:Int)(n:Nat):It:=⟨fun i _=>i < n,fun i H x H'=>H'=H/\x= .int (lo - i),fun i _=>n<=i⟩
def Qq(lo:Int)(n:Nat):List D:=(List.range n).map fun(i:Nat)=>D.int (lo - i)
def SQ(f g h:FD):au->R (List D):=fun δ=>(f δ).bind fun d=>(g δ).bind fun e=>(h δ).bind fun k=>match d,e,k with
 | .int i, .int j, .int m=>R.bz (decide (m= -1/\ -(2 ^ 60)<=i/\i < 2 ^ 60/\ -(2 ^ 60)<=j/\j < 2 ^ 60)) (.ok (Qq i (i - j).toNat)) | _,_,_=> .no
def bls?:List D->Option (List Bool)
 | []=>some []
 | .bl b ::ds=>(bls? ds).map (b ::·)
 | _ ::_=>none
theorem yV{K:W.Frag}{B:List Addr}:∀{ds:List D} {xs:List V} {bs:List Bool},az K B H ds xs->bls? ds=some bs->xs=bs.map V.bl
 | [],xs,bs,r,h=>by unfold az at r;subst r;cases h;rfl
 | d ::ds,xs,bs,r,h=>by
   obtain⟨x,q,rfl,r1,r2⟩:=r.cn;cases d with
   | bl b=>
     have h:(bls? ds).map (b ::·)=some bs:=h
     cases e:bls? ds with
     | none=>rw [e] at h;cases h
     | some cs=>
       rw[e] at h;cases h;rw[Rep.bl.mp r1,yV r2 e];rfl
   | _=>cases h
theorem Cu:∀bs:List Bool,bls? (bs.map D.bl)=some bs
 | []=>rfl
 | b ::bs=>by show(bls? (bs.map D.bl)).map (b ::·)=_;rw [Cu bs];rfl
theorem t7:∀{bs:List Bool} {us:List Value},Vals (bs.map V.bl) us->us=bs.map Value.bool
 | [],us,h=>by cases h;rfl
 | b ::bs,us,h=>by
   cases h with
   | cons r t=>rw [t7 t,show _=Value.bool b from r];rfl
theorem range_all(bs:List Bool):(List.range bs.length).all (fun i=>bs.getD i false)=bs.all id:=by
 rw[Bool.eq_iff_iff];simp only[List.all_eq_true,List.mem_range,id];constructor
 .intro h b hb;obtain⟨i,hi,rfl⟩:=List.getElem_of_mem hb;have:=h i hi;rw[List.getD_eq_getElem?_getD,List.getElem?_eq_getElem hi] at this;exact this
 .intro h i hi;rw[List.getD_eq_getElem?_getD,List.getElem?_eq_getElem hi];exact h _ (List.getElem_mem hi)
def Fx:List D->R D
 | [.lst ds]=>(match bls? ds with | some bs=> .ok (.bl (bs.all id)) | none=> .no)
 | _=> .no
def UW:List D->R D
 | [.lst ds]=>(match bls? ds with | some bs=> .ok (.bl (bs.any id)) | none=> .no)
 | _=> .no
theorem NP{bs:List Bool}{i:Nat}{v:Value}(h:((bs.map Value.bool).toArray)[i]? =some v):v= .bool (bs.getD i false):=by
 rw[List.getElem?_toArray,List.getElem?_map] at h;rw[List.getD_eq_getElem?_getD];cases e:bs[i]? with
 | none=>rw [e] at h;cases h
 | some b=>rw [e] at h;cases h;rfl
theorem Kh(hc:X.calm=true):h_ X (.builtin "all") Fx:=by
 intro pins s σ H B ds d xs us I hb rx rs hg;unfold Fx at hg;split at hg
 .split at hg
  .rename_i es bs e;cases hg;obtain⟨x,rfl,r⟩:=rs.one;obtain⟨a,ys,rfl,l,r⟩:=Rep.lst.mp r;obtain⟨u,rfl,ru⟩:=vals1 rx;cases ru;obtain⟨its,n,rv,e1,hz⟩:=I.MF l;rw[yV r e] at rv;obtain rfl:=t7 rv;have hl:s.heap.IsList a (bs.map Value.bool).toArray:=⟨_,e1,rfl,n,rfl⟩;have hlt:a < s.heap.objs.size:=Heap.lt_size e1;refine call_all_walk (wpAny_pyIter_list hl ?_);refine⟨_,_,_,_,_,_,fun i=>bs.getD i false,rfl,Walks.list (A:=X.A.in1) (I.ok.hd hc) _ a (Nat.ne_of_lt hlt) _,⟨⟨_,Heap.get?_push_size _ rfl,rfl,rfl⟩,hl.push _⟩,?_,fun h' tk hk=>?_⟩
   .intro i v s Q E hP hQ;rw[NP hP];exact wpAny_truthy_bool hQ
   .refine⟨.bl (bs.all id),H,I.kept (old_kept hk),?_,aT.refl H,Rep.bl.mpr rfl⟩;show Value.bool _=Value.bool _;rw[<-range_all];simp
  .cases hg
 .cases hg
end
end L2
end
section
namespace L2
open PySem PySem.Spec PyProof.Rows
section
variable {X:Cx}
def Qg:FS:=fun _=> .no
theorem CJ{st:Stmt}:DX X st Qg:=⟨fun pins s σ H D I ⟨Z,B,δ,o,E,hf,q⟩=>by cases hf⟩
def Sy(f:FD):FS:=fun δ=>(f δ).bind fun _=> .ok (.nx δ)
end
end L2
namespace L3
open PySem PySem.Spec PyProof.Rows L2
section
variable {X:Cx} {cl:WN}
def Pl:FZ:=fun _ _=> .no
theorem F9{st:Stmt}:PZ X cl st Pl:=⟨fun pins s σ H D I ⟨ρ,S,δ,o,S',E,hf,q⟩=>by cases hf⟩
theorem LF{K:W.Frag}{f:au->R (List D)}{σ:L2.St}{Q:V->Hp->Prop}(h:tX K cl (sQ f) σ H Q):tN K f σ H Q:=by
 obtain⟨ρ,S,δ,v,S',E,hf,q⟩:=h;obtain⟨ds,S1,h1,h2⟩:=R3.ai hf;obtain⟨h3,e3⟩:=R3.of_ok h1;cases h2;subst e3;refine⟨[],ρ.b,down δ,ds,E.down,h3,fun a xs H' s n e r=>?_⟩
 have r':az K (ρ.push a).b H' ds xs:=r.br fun b o e nb=>⟨e,fun hb=>nb (by
  rcases P3.mem_push hb with z | z
  .exact List.mem_cons_of_mem _ z
  .subst z;exact List.mem_cons_self)⟩
 obtain⟨w,p⟩:=E.sw.new (o:= .lst ds) s n ⟨xs,e,r'⟩;exact q _ _ H' p w (by unfold bo;exact⟨a,by show(ρ.r++[a])[_]? =_;rw [<-E.sw.len,List.getElem?_append_right (by omega),Nat.sub_self];rfl,rfl⟩)
def SR(f:au->R (List D)):FX:=fun δ S=>(R3.of (f (dq S δ)) S).bind fun ds S=>R3.bz (pZ ds) (.ok (.loc S.length) (S++[.lst ds]))
theorem rP{i:Nat}{x:Str}{pos' iz:Pos}{scope:Scope}{own:List Str}{kp:List Nat}{kn:List Str}{tg iter elt:Expr}{ifs:List Expr}{it:au->R (List D)}{t:FT}{c:au->R Bool}{f:FD}{pos:Pos}(hc:X.calm=true)
 (hN:X.N.Nodup) (hx:X.N[i]? =some x) (CL:X.env.scope.names.lookup x=some .local) (C:bt X scope own kp kn) (hi:wY X tg iter it)
 (hg:∀fp s H,J2 (bc X scope (own++kn) fp s H) tg t) (vU:∀fp s H,Dv (bc X scope (own++kn) fp s H) ifs c) (he:∀fp s H,QD (bc X scope (own++kn) fp s H) elt f)
 (rD:swapsWith (.ListComp elt [⟨tg,iter,ifs,0⟩] scope pos) (some (.Name x pos')) iz.line X.env=pure true:=by rfl)
 (hs:∀x,foldedSetIterable iter X.env x=pure x:=by intro _;rfl):PZ X cl (.Assign [.Name x pos'] (.ListComp elt [⟨tg,iter,ifs,0⟩] scope pos) iz) (cF i (sQ (ck it t c f own kp))):=
 ⟨(mf hc hN hx CL C hi.1 (fun fp s H=>(hg fp s H).1) (fun fp s H=>(vU fp s H).1) (fun fp s H=>(he fp s H).1) rD hs).imp fun D σ H h=>tf (LF (EZ h))⟩
def U2(i:Nat)(f:FX):FZ:=fun δ S=>match ko δ i with
 | none=> .no
 | some k=>match dn S k with
   | none=> .no
   | some _=>(f δ S).bind fun v S1=>match v with
     | .d (.lst es)=>(match dn S1 k with
       | some ds=>R3.bz (decide (ds.length+es.length<=sizeLine)) (.ok (.nx δ) (S1.set k (.lst (ds++es))))
       | none=> .no)
     | _=> .no
theorem xn{f:FX}{δ:DE}{S:bu}{QO:Ou->bu->Prop}(h:W3 (f δ S) fun _ S1=>QO (.nx δ) S1):W3 (wI f δ S) QO:=W3.bind (h.mono fun _ _ h=>W3.ok h)
end
end L3
end
section
namespace L2
open PySem PySem.Spec PyProof.Rows
section
variable {X:Cx}
theorem ET{prog:Program}{w:World}{A:Around}{E:WI}{s:Shared}{t b:Addr}{vs ws:List Value}{Q:WI}(ht:IsTup s.heap t vs.toArray)(hb:IsTup s.heap b ws.toArray)
 (h0:vs=[]->Q (.ref b) s) (h1:vs≠[]->ws=[]->Q (.ref t) s) (h2:vs≠[]->ws≠[]->Q (.ref s.heap.objs.size) {s with heap:=s.heap.push {cls:= .type "tuple",data:= .seq (vs++ws).toArray}})
 (hsz:vs.length+ws.length<=sizeLine):wpAny (model prog w) A (binaryOp .Add (.ref t) (.ref b)) Q E s:=by
 by_cases hv:vs=[]
 .obtain⟨⟨cls,dd,data,sl⟩,ho,hc,n,hd⟩:=id ht;obtain⟨⟨Rj,PF,data2,MX⟩,Mu,hc2,n2,hd2⟩:=id hb;simp only at hc hd hc2 hd2;subst hc hd hc2 hd2;exact concat_meets ⟨_,ho,rfl⟩ ⟨_,Mu,rfl⟩ noFill_tuple_add seq_tuple_add PySem.F.slot_tuple_add PySem.F.entry_tuple_add (PySem.F.args_tuple_add_2 _ _) (tuple_addW0 t b vs.toArray ws.toArray n n2 dd PF sl MX (by simp [hv])) ⟨ho,Mu,h0 hv⟩
 .exact HT.IF ht hb hv (h1 hv) (h2 hv) hsz
def rQ(d e:D):R D:=match d,e with
 | .tup a, .tup b=>R.bz (decide (a.length+b.length<=sizeLine)) (.ok (.tup (a++b)))
 | d,e=>cx d e
theorem v8.fresh{K:W.Frag}{B:List Addr}{H:Hp}{p:Addr}{xs:List V}(hb:∀a∈B,∃o,H a=some o)(hp:H p=none):v8 K B (upd H p (.tup xs)) p xs:= .inl ⟨fun ha=>(by obtain⟨o,ho⟩:=hb p ha;rw [hp] at ho;cases ho), .inl aY⟩
theorem xB:lQ X (binaryOp .Add) rQ:=by
 intro pins s σ H B da db d x y v u I hb rx ry ra rb hg;by_cases ht:∃a b,da= .tup a/\db= .tup b
 .obtain⟨a,b,rfl,rfl⟩:=ht;have hg:R.bz (decide (a.length+b.length<=sizeLine)) (.ok (.tup (a++b)))= .ok d:=hg;obtain⟨h1,h2⟩:=R.ba hg;cases h2;have h1:=of_decide_eq_true h1;have ra':=ra;have rb':=rb;obtain⟨a1,RG,rfl,l1,r1⟩:=Rep.tup.mp ra;obtain⟨a2,Rg,rfl,l2,r2⟩:=Rep.tup.mp rb;cases rx;cases ry;obtain⟨its,S7,p1,_⟩:=I.tuple l1.sq;obtain⟨nX,Tg,p2,_⟩:=I.tuple l2.sq;have e1:=S7.length;have e2:=Tg.length;have e3:=r1.length;have e4:=r2.length;refine ET p1 p2 (fun z=>⟨.ref a2,H,I,rfl,aT.refl H,?_⟩) (fun _ z=>⟨.ref a1,H,I,rfl,aT.refl H,?_⟩) (fun _ _=>?_) (by omega)
  .obtain rfl:a=[]:=List.eq_nil_of_length_eq_zero (by rw[e3,e1,z];rfl)
   exact rb'
  .obtain rfl:b=[]:=List.eq_nil_of_length_eq_zero (by rw[e4,e2,z];rfl)
   rw[List.append_nil];exact ra'
  .have hp:H s.heap.objs.size=none:=I.hok.fresh (Nat.le_refl _);refine⟨.ref s.heap.objs.size,_,I.laid (t':=s.toks) (o:= .tup (RG++Rg)) (fun b ob q=>Heap.get?_push_of_some _ q) (Nat.le_refl _) ⟨by rw[List.length_append];omega,_,S7.append Tg,IsTup.new _ _⟩,rfl,aX hp,Rep.tup.mpr ⟨_,_,rfl,v8.fresh hb hp,(r1.append r2).same (aX hp)⟩⟩
 .have hg:cx da db= .ok d:=by
   unfold rQ at hg;split at hg
   .exact absurd ⟨_,_,rfl,rfl⟩ ht
   .exact hg
  exact cD pins s σ H B da db d x y v u I hb rx ry ra rb hg
theorem wY.or{F F1 F2:au->R (List D)}(h1:wY X tg e F1)(h2:wY X tg e F2)(h:∀δ ds,F δ= .ok ds->F1 δ= .ok ds\/F2 δ= .ok ds):wY X tg e F:=
 ⟨fun pins s σ H R I ⟨Z,B,δ,ds,E,hf,q⟩=>(h δ ds hf).elim (fun z=>h1.1 pins s σ H R I ⟨Z,B,δ,ds,E,z,q⟩) fun z=>h2.1 pins s σ H R I ⟨Z,B,δ,ds,E,z,q⟩⟩
def Ci(f:FD):au->R (List D):=fun δ=>(f δ).bind fun d=>match d with | .lst ds=> .ok (dG ds) | .tup ds=> .ok (dG ds) | _=> .no
theorem AZ{elts:List Expr}{k:Nat}{vq:Pos}{p pos:Pos}(h:QD X a f)(hg:Gl X "enumerate")(hm:X.mg "enumerate"=none)(hs:starEach [a] X.env=[(false,eval a X.env)]:=by rfl):wY X (.Tuple elts k vq) (.Call (.Name "enumerate" p) [a] [] pos) (Ci f):=
 wY.or (F1:=jh f) (F2:=xo f) ⟨yO h.1 hg hm hs⟩ (z6 h hg hm hs) fun δ ds hf=>by
  obtain⟨d,h1,h2⟩:=R.ai hf;cases d with
  | lst es=>cases h2;exact .inl (by unfold jh;rw [h1];rfl)
  | tup es=>cases h2;exact .inr (by unfold xo;rw [h1];rfl)
  | _=>cases h2
def Tx(K:W.Frag)(a:Addr)(n:Nat):It:=
 ⟨fun i H=>∃xs x,o8 K H a xs/\xs.length=n/\i < n/\xs[n - 1 - i]? =some x,fun i H v H'=>H'=H/\∀xs,o8 K H a xs->xs[n - 1 - i]? =some v,fun i H=>(∃xs,o8 K H a xs)/\i=n⟩
theorem Fq{K:W.Frag}(a it:Addr)(n:Nat):Turn P w K tg (Tx K a n) [it] it (fun i h=>h.IsRevIter it a ((n:Int) - 1 - (i:Int))) where
 mem:=by simp
 obj:=fun i h st b hb=>by
  have e:b=it:=by simpa using hb
  subst e;obtain⟨o,e,c,d⟩:=st;exact⟨o,e,fun v z=>by rw[d] at z;cases z⟩
 keep:=fun i h h' st k=>st.at fun o e=>k it (by simp) o e
 item:=by
  intro X hP hw hK hc i pins s σ H E I hf st hg;subst hP hw hK;obtain⟨xs,x,hq,hn,hi,hx⟩:=hg;obtain⟨its,rv,p,hz⟩:=I.list hq;obtain⟨u,hu,ru⟩:=rv.get hx;obtain⟨f0,f1,f2,f3,f4,f5⟩:=hf it (by simp)
  have e0:(n:Int) - 1 - (i:Int)=((n - 1 - i:Nat):Int):=by omega
  rw[e0] at st;refine wpAny_pyNext_rev_item st p.isList (x:=u) (by simpa using hu) fun h' G9 sb=>?_
  have I1:Inv X pins σ H {s with heap:=h'}:=I.turned (t':=s.toks) (fun b o hb e=>(sb.2 b hb).trans e) f0 f1 f3 f4 f5
  have Hr:h'.IsRevIter it a ((n:Int) - 1 - ((i+1:Nat):Int)):=by
   rw[show((n - 1 - i:Nat):Int) - 1=(n:Int) - 1 - ((i+1:Nat):Int) by omega] at G9;exact G9
  obtain⟨o,e,c,d⟩:=id Hr;exact⟨u,rfl,BV (s:={s with heap:=h'}) e c d (by decide) ⟨x,H,I1,ru,⟨rfl,fun ys hy=>by rw[I.qb hy hq];exact hx⟩,Hr,fun b hb=>(hf b hb).1⟩⟩
 done:=by
  intro X hP hw hK hc i pins s σ H E I hf st hg;subst hP hw hK;obtain⟨_,rfl⟩:=hg;obtain⟨f0,f1,f2,f3,f4,f5⟩:=hf it (by simp)
  rw[show(i:Int) - 1 - (i:Int)= -1 by omega] at st
  exact wpAny_pyNext_rev_end (I.ok.hd hc) st fun h' eb=>⟨rfl,I.turned (t':=s.toks) (fun b o hb e=>eb b o hb e) f0 f1 f3 f4 f5⟩
 self:=fun _ _ _ _ _ st h=>wpAny_pyIter_revIter st h
def JZ(f:FD):au->R (List D):=fun δ=>(f δ).bind fun d=>match d with | .lst ds=> .ok ds.reverse | _=> .no
theorem Ew{tg a:Expr}{p pos:Pos}(h:QD X a f)(hg:Gl X "reversed")(hm:X.mg "reversed"=none)(hs:starEach [a] X.env=[(false,eval a X.env)]:=by rfl):wY X tg (.Call (.Name "reversed" p) [a] [] pos) (JZ f):=by
 refine⟨?_⟩;intro pins s σ H RR I ⟨Z,B,δ,ds,E,hf,q⟩;obtain⟨d,h1,h2⟩:=R.ai hf;have hA:=c9 h.1 fZ hs pos pins s σ H (fun vs H1=>aT H H1/\∃v,vs=[v]/\Rep X.K B H1 d v) I ⟨Z,B,δ,d,E,h1,fun v H1 s1 r1=>⟨s1,v,rfl,r1⟩⟩
 refine Call_ (jk I hg hm boot_reversed (PyProof.Rows.callWith_type1 (dH hA fun us s1 ⟨vs,H1,I1,r1,ss,v,ev,rr⟩=>?_) hs rfl))
 subst ev;obtain⟨u,rfl,ru⟩:=vals1 r1;cases d with
 | lst es=>
   cases h2;obtain⟨b,xs,rfl,l,rs⟩:=Rep.lst.mp rr;cases ru;obtain⟨its,rv,pl,hz⟩:=I1.list l.sq;have e1:=rv.length;have e2:=rs.length;refine call_reversed_list pl.isList (wpAny_pyIter_revIter (i:=(its.toArray.size:Int) - 1) ⟨_,Heap.get?_push_size _ rfl,rfl,rfl⟩ ?_);refine⟨s1.heap.objs.size,[s1.heap.objs.size],_,_,H1,rfl,I1.kept (t':=s1.toks) fun b o e=>Heap.get?_push_of_some _ e,Fq b _ es.length,?_,fun c hc=>?_,q _ H1 ss fun B' H' pr=>?_⟩
   .refine⟨_,Heap.get?_push_size _ rfl,rfl,?_⟩;show Data.fields #[.ref b,rawInt ((its.toArray.size:Int) - 1)]=Data.fields #[.ref b,rawInt ((es.length:Int) - 1 - ((0:Nat):Int))];rw[List.size_toArray,<-e1,<-e2,show((es.length:Nat):Int) - 1 - ((0:Nat):Int)=(es.length:Int) - 1 by omega]
   .have e:c=s1.heap.objs.size:=by simpa using hc
    subst e;exact I1.x4 (Nat.le_refl _) (I1.hok.fresh (Nat.le_refl _))
   .have l':xZ X.K B' H' b xs:=l.br pr;have rs':=rs.br pr;refine⟨fun i d hd=>?_,⟨xs,l'.sq⟩,by rw[List.length_reverse]⟩
    have hi:i < es.length:=by have:=(List.getElem?_eq_some_iff.mp hd).1;rwa [List.length_reverse] at this
    rw[List.getElem?_reverse hi] at hd;obtain⟨x,hx,rx⟩:=rs'.get hd;refine⟨⟨xs,x,l'.sq,e2.symm,hi,hx⟩,fun v oV yl JN=>?_⟩
    obtain⟨rfl,hy⟩:=yl;have Eb:=hy xs l'.sq;rw[hx] at Eb;cases Eb;exact⟨aT.refl _,rx⟩
 | _=>cases h2
def C1(K:W.Frag)(C:Addr)(m qual:Str)(st:Stmt):Prop:=∃f fd,Cm K m qual st f fd/\Meth K C m f
def LK(K:W.Frag)(C:Addr)(m qual:Str)(st:Stmt):Prop:=∃f fd,Cm K m qual st f fd/\Mk K C f
end
end L2
namespace L3
open PySem PySem.Spec PyProof.Rows L2
section
variable {X:Cx} {cl:WN}
theorem sk.p{K:W.Frag}{mg:WM}{cl:WN}{k c:Nat}{n:Nat}{N:List Str}(C:sk P w K mg base cl k c m n (sE N F)):sk P w K mg base cl k c m n (vv N F):=
 let⟨f,fd,ps,c1,c2,F,h⟩:=C;⟨f,fd,ps,c1,c2,F.imp fun _ _ _ _ h=>A8 h,h⟩
end
end L3
end
section
namespace L2
open PySem PySem.Spec PyProof.Rows
section
variable {X:Cx}
def HD(f:FD):au->R (List D):=fun δ=>(f δ).bind fun d=>match d with | .int j=>R.bz (decide (-(2 ^ 62)<=j/\j < 16777216)) (.ok (fG 0 j.toNat)) | _=> .no
theorem HA{a:Expr}{f:FD}{p p2 pos vn:Pos}(hc:X.calm=true)(h:QD X a f)(hg:Gl X "list")(hm:X.mg "list"=none)(Em:Gl X "range")(Hm:X.mg "range"=none)(hs:starEach [a] X.env=[(false,eval a X.env)]:=by rfl)
 (sv:starEach [.Call (.Name "range" p2) [a] [] vn] X.env=(false,eval (.Call (.Name "range" p2) [a] [] vn) X.env) ::starEach [] X.env:=by rfl) (my:(backTo pos (starEach [] X.env)).any (·.1)=false:=by rfl) :
 QN X (.Call (.Name "list" p) [.Call (.Name "range" p2) [a] [] vn] [] pos) (HD f):=by
 refine⟨?_⟩;intro pins s σ H Q I ⟨Z,B,δ,ds,E,hf,q⟩;obtain⟨d1,h1,h2⟩:=R.ai hf;have key:∃j:Int,d1= .int j/\ -(2 ^ 62)<=j/\j < 16777216/\ds=fG 0 j.toNat:=by
  split at h2
  .obtain⟨h3,h4⟩:=R.ba h2;cases h4;have h3:=of_decide_eq_true h3;exact⟨_,rfl,h3.1,h3.2,rfl⟩
  .cases h2
 obtain⟨j,rfl,Pz,RO,rfl⟩:=key;refine wpAny_Call_Name_kw (jk I hg hm boot_list ?_ (by decide) (by decide))
 refine PyProof.Rows.callWith_type1 ?_ sv my;rw[sv];show wpAny _ _ (spliced ((false,eval (.Call (.Name "range" p2) [a] [] vn) X.env) ::backTo pos (starEach [] X.env))) _ _ s;refine Calls.spliced_cons ?_;have hA:=c9 h.1 fZ hs vn pins s σ H (fun vs H1=>aT H H1/\vs=[.int j]) I ⟨Z,B,δ, .int j,E,h1,fun v H1 s1 r1=>⟨s1,by rw[Rep.int.mp r1]⟩⟩
 refine Call_ (jk I Em Hm boot_range (PyProof.Rows.callWith_type1 (dH hA fun us s1 ⟨vs,H1,I1,r1,ss,ev⟩=>?_) hs rfl))
 subst ev;obtain⟨u,rfl,ru⟩:=vals1 r1;obtain⟨t,rfl⟩:=ru;refine call_range_1 ?_;have I2:Inv X pins σ H1 {s1 with heap:=s1.heap.push {cls:= .type "range",data:= .fields #[.int 0 s1.toks, .int j t, .int 1 (s1.toks+1)]},toks:=s1.toks+1+1}:=I1.kept fun b o e=>Heap.get?_push_of_some _ e
 refine Calls.spliced_nil ?_;have hsz:Builtin.Range.rangeSize 0 j 1=(j.toNat:Nat):=by rw[rangeSize_one];split <;> omega
 have hz:sizeLine=16777216:=sizeLine_eq;refine call_list_range (n:=j.toNat) (I2.ok.hd hc) (IsRange.new ..) (small_one (by omega) (by omega) (by omega) (by omega)) hsz (by omega) fun h' tk acc c' hk MC vt=>?_
 have rv:=Ac vt;have hle:((List.range j.toNat).map fun(i:Nat)=>V.int (0+(i:Int))).length<=sizeLine:=by rw[List.length_map,List.length_range];omega
 have hf':H1 (s1.heap.push {cls:= .type "range",data:= .fields #[.int 0 s1.toks, .int j t, .int 1 (s1.toks+1)]}).objs.size=none:=I2.hok.fresh (Nat.le_refl _);have I4:=I2.laid (o:= .lst ((List.range j.toNat).map fun(i:Nat)=>V.int (0+(i:Int)))) (h':=h') (t':=tk) hk (Nat.le_refl _) (show eF X.prog X.w _ _ _ (.lst _) from⟨hle,acc.toList,c',rv,by simpa using MC⟩)
 exact⟨.ref _,_,I4,rfl,q _ _ _ (ss.trans (aX hf')) (ss.free hf') aY (zD _)⟩
def UP(f:FD):FD:=fun δ=>(f δ).bind fun d=>match d with | .lst ds=> .ok (.lst ds.reverse) | _=> .no
theorem az.rev{K:W.Frag}{B:List Addr}:∀{ds:List D} {xs:List V},az K B H ds xs->az K B H ds.reverse xs.reverse
 | [],xs,r=>by unfold az at r;subst r;exact az.nil
 | d ::ds,xs,r=>by
   obtain⟨x,q,rfl,r1,r2⟩:=r.cn;rw[List.reverse_cons,List.reverse_cons];exact r2.rev.append (az.cons r1 az.nil)
theorem Vals.rev:∀{xs:List V} {us:List Value},Vals xs us->Vals xs.reverse us.reverse
 | [],us,r=>by cases r;exact .nil
 | x ::xs,us,r=>by
   cases r with
   | cons r t=>
     rw[List.reverse_cons,List.reverse_cons];exact(Vals.rev t).append (.cons r .nil)
end
end L2
end
section
namespace L2
open PySem PySem.Spec PyProof.Rows
section
variable {X:Cx}
def UQ(K:W.Frag)(n:Nat)(t:EL):TG:=fun v σ H Q=>∃a xs,v= .ref a/\o8 K H a xs/\xs.length=n/\t xs σ H Q
end
end L2
namespace L3
open PySem PySem.Spec PyProof.Rows L2
section
variable {X:Cx} {cl:WN}
def Ws(n:Nat)(t:HU):FG:=fun d δ=>match d with
 | .d (.lst ds)=>if ds.length=n then t (ds.map .d) δ else none
 | .lst vs=>if vs.length=n then t vs δ else none
 | _=>none
def UL(f g:FX):FA:=fun δ S=>(bE f (bE g fw) δ S).bind fun vs S1=>match vs with
 | [.d d, .d e]=>(match seqD? d,seqD? e with | some ds,some es=> .ok ((ya ds es).map .d) S1 | _,_=> .no)
 | _=> .no
def Ab(S:bu):Prop:=∀o∈S,Ag S.length o=true
theorem Flat.Oz{S:bu}(h:Flat S):Ab S:=fun o ho=>h o ho _
theorem Na{N:List Str}{vs:List V3}{S:bu}{QV:V3->bu->Prop}(h:W3 (sE N F vs S) fun v S1=>(∀o∈S1.take S.length,Ag S.length o=true)/\jt S.length v=true/\∃d,res S1 v=some d/\QV (.d d) (S1.take S.length)):W3 (vv N F vs S) QV:=
 W3.bind (h.mono fun v S1 ⟨hl,hg,d,e,q⟩=>by
  rw[e];exact W3.wh (by rw[List.all_eq_true.mpr hl,hg];rfl) (W3.ok q))
theorem mJ{N:List Str}{vs:List V3}{S:bu}{QV:V3->bu->Prop}(hS:Ab S)(h:W3 (sE N F vs S) fun v S1=>jt S.length v=true/\(∃T,S1=S++T)/\∃d,res S1 v=some d/\QV (.d d) S):W3 (vv N F vs S) QV:=
 Na (h.mono fun v S1 ⟨hg,⟨T,e1⟩,d,e,q⟩=>by
  subst e1;rw[List.take_append_of_le_length (Nat.le_refl _),List.take_length];exact⟨hS,hg,d,e,q⟩)
end
end L3
end
section
namespace L2
open PySem PySem.Spec PyProof.Rows
section
variable {X:Cx}
def ois?:List D->Option (List (Option Int))
 | []=>some []
 | .int i ::ds=>(ois? ds).map (some i ::·)
 | .cX ::ds=>(ois? ds).map (none ::·)
 | _ ::_=>none
def Wc:Option Int->V | some i=> .int i | none=> .cX
def TX(d e:D):R Bool:=match d,e with
 | .cX, .lst ds=>(match ois? ds with | some ss=> .ok (ss.any (·.isNone)) | none=> .no)
 | _,_=> .no
def TC(d e:D):R D:=(TX d e).bind fun b=> .ok (.bl b)
end
end L2
end
section
namespace L2
open PySem PySem.Spec PyProof.Rows
section
variable {X:Cx}
def Qa(d:D)(ds:List D):R D:=match d,ds with
 | .lst es,[.int k]=>(match ints? es with | some ss=> .ok (.int (ss.count k:Nat)) | none=> .no)
 | _,_=> .no
end
end L2
end
section
namespace L2
open PySem PySem.Spec PyProof.Rows
section
variable {X:Cx}
abbrev TM:D->D->R D:=Hk (fun i j=>decide (0<=j/\j < 1000/\ -1000 < i/\i < 1000)) fun i j=>i*2 ^ j.toNat
def SK(d e:D):R D:=match d,e with | .bl a, .bl b=> .ok (.bl (a !=b)) | _,_=> .no
end
end L2
namespace L3
open PySem PySem.Spec PyProof.Rows L2
section
variable {X:Cx} {cl:WN}
def R0(fo f:FX):FZ:=fun δ S=>(fo δ S).bind fun o S0=>match o with
 | .loc k=>(match dn S0 k with
   | none=> .no
   | some _=>(f δ S0).bind fun v S1=>match v with
     | .d d=>(match dn S1 k with | some ds=>R3.bz (decide (ds.length < sizeLine)) (.ok (.nx δ) (S1.set k (.lst (ds++[d])))) | none=> .no)
     | _=> .no)
 | _=> .no
def SE(f:FX):FA:=fun δ S=>(bE f fw δ S).bind fun vs S1=>match vs with
 | [.d (.lst ds)]=> .ok ((dG ds).map .d) S1
 | _=> .no
end
end L3
end
section
namespace L2
open PySem PySem.Spec PyProof.Rows
section
variable {X:Cx}
end
end L2
end
section
namespace L3
open PySem PySem.Spec PyProof.Rows L2
section
variable {cl:WN}
def P5(it:FA)(t:FG)(c:FB)(f:FX)(own:List Str)(kp:List Nat):FX:=fun δ S=>(it δ S).bind fun vs S1=>R3.bz (decide (vs.length<=sizeLine)) ((nD t c f (oE own kp δ) vs S1).bind fun ys S2=>match sV ys with | some ds=> .ok (.loc S2.length) (S2++[.lst ds]) | none=> .no)
end
section
variable {X:Cx} {cl:WN}
end
end L3
end
section
namespace L3
open PySem PySem.Spec PyProof.Rows L2
section
variable {X:Cx} {cl:WN}
def PH(g:List D->R D)(fs:FA):FX:=fun δ S=>(fs δ S).bind fun vs S1=>match Ax S1 vs with
 | some ds=>(R3.of (g ds) S1).bind fun d S=>R3.bz (yA d) (.ok (.d d) S)
 | none=> .no
end
end L3
end
section
namespace L2
open PySem PySem.Spec PyProof.Rows
section
variable {X:Cx}
def US(f:FD):FD:=fun δ=>(f δ).bind fun d=>match d with | .int i=> .ok (.int (-i - 1)) | _=> .no
def Uc(d:D)(lo hi:Option Int):R D:=match d with
 | .tup ds=>R.bz (decide (¬(HT.tq ds.length 0 lo=0/\HT.tq ds.length ds.length hi=ds.length))) (.ok (.tup (cutD ds lo hi)))
 | _=> .no
def T9(f:FD)(fl fh:FO):FD:=fun δ=>(f δ).bind fun d=>(fl δ).bind fun lo=>(fh δ).bind fun hi=>Uc d lo hi
end
end L2
namespace L3
open PySem PySem.Spec PyProof.Rows L2
section
variable {X:Cx} {cl:WN}
structure Wr (X:Cx) (cl:WN) (st:List Stmt) (F:FZ):Prop where
 go:ym X st (fun D σ H=>D.ct=D.nx/\sX X.K cl F D σ H)
end
end L3
end
section
namespace L2
open PySem PySem.Spec PyProof.Rows
end L2
namespace L3
open PySem PySem.Spec PyProof.Rows L2
section
variable {X:Cx} {cl:WN}
def Uy(i:Nat)(f:FX):FX:=fun δ S=>match ko δ i with
 | none=> .no
 | some k=>match dn S k with
   | none=> .no
   | some _=>(f δ S).bind fun v S1=>match v with
     | .d (.int j)=>(match dn S1 k with
       | some ds=>(match BD ds.length j with
         | some p=>(match ds[p]? with | some d=>R3.bz (decide (-(2 ^ 63)<=j/\j < 2 ^ 63)) (.ok (.d d) (S1.set k (.lst (ds.eraseIdx p)))) | none=> .no)
         | none=> .no)
       | none=> .no)
     | _=> .no
end
end L3
end
section
namespace L3
open PySem PySem.Spec PyProof.Rows L2
section
variable {X:Cx} {cl:WN}
def Uo(f:FX)(fl fh:MH):FX:=fun δ S=>(f δ S).bind fun v S1=>(fl δ S1).bind fun lo S2=>(fh δ S2).bind fun hi S3=>match v with
 | .lst vs=> .ok (.lst (L2.cutD vs lo hi)) S3
 | _=> .no
end
end L3
end
section
namespace L2
open PySem PySem.Spec PyProof.Rows
section
variable {X:Cx}
def Q5:List V->Hp->VK->Prop:=fun xs H Q=>∃a aL ns,xs=[V.ref a]/\H a=some (.dK aL)/\aL.map (·.1)=ns.map Sum.inl/\ns.length < 64/\∀p,H p=none->Q (.ref p) (upd H p (.lst ((EB ns).map V.int)))
end
end L2
end
section
namespace L3
open PySem PySem.Spec PyProof.Rows L2
section
variable {X:Cx} {cl:WN}
def vH(aL:List (Key × D))(k:Key)(d:D):List (Key × D):=if(aL.any fun kv=>decide (kv.1=k))=true then aL.map (fun kv=>if kv.1=k then(kv.1,d) else kv) else aL++[(k,d)]
def qw(S:bu)(k:Nat):Option (List (Key × D)):=match S[k]? with | some (.dct aL)=>some aL | _=>none
theorem vd{S:bu}{k:Nat}{aL:List (Key × D)}(h:qw S k=some aL):S[k]? =some (.dct aL):=by
 unfold qw at h;split at h
 .rename_i e;cases h;exact e
 .cases h
theorem CA{α β:Type}(k:Key):∀{a:List (Key × α)} {b:List (Key × β)},a.map (·.1)=b.map (·.1)->(a.any fun kv=>decide (kv.1=k))=b.any fun kv=>decide (kv.1=k)
 | [],[],_=>rfl
 | [],_ ::_,h=>by simp at h
 | _ ::_,[],h=>by simp at h
 | x ::a,y ::b,h=>by
   rw[List.map_cons,List.map_cons] at h;obtain⟨h1,h2⟩:=List.cons.inj h;rw[List.any_cons,List.any_cons,CA k h2,h1]
theorem BL{K:W.Frag}{B:List Addr}{k:Key}{d:D}{v:V}(rv:Rep K B H d v):∀{aL:List (Key × D)} {ys:List (Key × V)},ys.map (·.1)=aL.map (·.1)->az K B H (aL.map (·.2)) (ys.map (·.2))->
 (ys.map fun kv=>if kv.1=k then(kv.1,v) else kv).map (·.1)=(aL.map fun kv=>if kv.1=k then(kv.1,d) else kv).map (·.1)/\az K B H ((aL.map fun kv=>if kv.1=k then(kv.1,d) else kv).map (·.2)) ((ys.map fun kv=>if kv.1=k then(kv.1,v) else kv).map (·.2))
 | [],[],_,_=>⟨rfl,az.nil⟩
 | [],_ ::_,h,_=>by simp at h
 | _ ::_,[],h,_=>by simp at h
 | (k1,d1) ::aL,(k2,v2) ::ys,h,r=>by
   obtain⟨h1,h2⟩:=List.cons.inj h;have h1:k2=k1:=h1;subst h1;obtain⟨x,r',e,q1,q2⟩:=az.cn r;cases e;obtain⟨i1,i2⟩:=BL rv h2 q2;simp only[List.map_cons];by_cases hk:k2=k
   .rw [if_pos hk,if_pos hk];exact⟨by rw[i1],az.cons rv i2⟩
   .rw [if_neg hk,if_neg hk];exact⟨by rw[i1],az.cons q1 i2⟩
theorem MZ{K:W.Frag}{B:List Addr}{k:Key}{d:D}{v:V}(rv:Rep K B H d v){aL:List (Key × D)}{ys:List (Key × V)}(h:ys.map (·.1)=aL.map (·.1))(r:az K B H (aL.map (·.2)) (ys.map (·.2))) :
 (putK ys k v).map (·.1)=(vH aL k d).map (·.1)/\az K B H ((vH aL k d).map (·.2)) ((putK ys k v).map (·.2)):=by
 unfold putK vH;rw[CA k h];split
 .exact BL rv h r
 .rw [List.map_append,List.map_append,List.map_append,List.map_append,h];exact⟨rfl,r.append (az.cons rv az.nil)⟩
def Bo:FX:=fun δ S=> .ok (.loc S.length) (S++[.dct []])
theorem B6:PX X cl (.Dict [] [] pos) Bo:=⟨GU.imp fun σ H Q ⟨ρ,S,δ,v,S',E,hf,q⟩=>by
 cases hf;intro p hp;obtain⟨w,pr⟩:=E.sw.new (a:=p) (o:= .dct []) (aX (o:= .dK []) hp) hp ⟨[],aY,rfl,az.nil⟩;exact q _ _ _ pr w (by unfold bo;exact⟨p,by show(ρ.r++[p])[_]? =_;rw [<-E.sw.len,List.getElem?_append_right (by omega),Nat.sub_self];rfl,rfl⟩)⟩
def SD(fo fi fe:FX):FZ:=fun δ S=>(fe δ S).bind fun v S1=>(fo δ S1).bind fun o S2=>(fi δ S2).bind fun j S3=>match v,o,j with
 | .d d, .loc k, .d (.int n)=>(match qw S3 k with | some aL=>R3.bz (decide (aL.length < sizeLine)) (.ok (.nx δ) (S3.set k (.dct (vH aL (Sum.inl n) d)))) | none=> .no)
 | _,_,_=> .no
def Ut(fa fo:FX):FX:=fun δ S=>(fa δ S).bind fun j S1=>(fo δ S1).bind fun o S2=>match j,o with
 | .d (.int n), .loc k=>(match qw S2 k with | some aL=> .ok (.d (.bl (aL.any fun kv=>decide (kv.1=Sum.inl n)))) S2 | none=> .no)
 | _,_=> .no
def intK?:List Key->Option (List Int)
 | []=>some []
 | .inl n ::ks=>(intK? ks).map (n ::·)
 | .inr _ ::_=>none
def QX(f:FX):FX:=fun δ S=>(f δ S).bind fun o S1=>match o with
 | .loc k=>(match qw S1 k with
   | some aL=>(match intK? (aL.map (·.1)) with | some ns=>R3.bz (decide (ns.length < 64)) (.ok (.d (.lst ((EB ns).map .int))) S1) | none=> .no)
   | none=> .no)
 | _=> .no
theorem EH{δ:DE}{S:bu}{QV:V3->bu->Prop}(h:QV (.loc S.length) (S++[.dct []])):W3 (Bo δ S) QV:=W3.ok h
end
end L3
end
section
namespace L2
open PySem PySem.Spec PyProof.Rows
section
variable {X:Cx}
def Pr:V->List V->Hp->VK->Prop:=fun x vs H Q=>∃(l:Addr) (xs:List V) (j:Int) (i:Nat) (y:V),x= .ref l/\vs=[.int j,y]/\H l=some (.lst xs)/\j=i/\i<=xs.length/\xs.length < sizeLine/\Q .cX (upd H l (.lst (xs.take i++y ::xs.drop i)))
end
end L2
namespace L3
open PySem PySem.Spec PyProof.Rows L2
section
variable {X:Cx} {cl:WN}
def T8(i:Nat)(f g:FX):FZ:=fun δ S=>match ko δ i with
 | none=> .no
 | some k=>match dn S k with
   | none=> .no
   | some _=>(f δ S).bind fun v S1=>match v with
     | .d (.int j)=>(g δ S1).bind fun w S2=>(match w with
       | .d d=>(match dn S2 k with
         | some ds=>R3.bz (decide (0<=j/\j.toNat<=ds.length/\ds.length < sizeLine)) (.ok (.nx δ) (S2.set k (.lst (ds.take j.toNat++d ::ds.drop j.toNat))))
         | none=> .no)
       | _=> .no)
     | _=> .no
end
end L3
end
section
namespace L3
open PySem PySem.Spec PyProof.Rows L2
section
variable {X:Cx} {cl:WN}
structure Wu (X:Cx) (pos:Pos) (keys:List (Option Expr)) (values:List Expr) (ks:List Str) (g:au->R (List D)):Prop where
 h:∃wQ,Ln X pos keys values wQ/\∀(σ:L2.St) (H:Hp) (Q:List (V × V)->Hp->Prop),(∃Z B δ ds,d_ X.K Z B H σ δ/\g δ= .ok ds/\∀vs H',aT H H'->az X.K B H' ds vs->Q ((ks.zip vs).map fun p=>(V.str p.1,p.2)) H')->qQ wQ σ H Q
def Ml(ks:List Str)(ns:List Int):List (Key × D):=(ks.zip ns).foldl (fun acc p=>vH acc (Sum.inr p.1) (.int p.2)) []
def Qx(ks:List Str)(g:au->R (List D)):FX:=fun δ S=>(R3.of (g (down δ)) S).bind fun ds S=>match ints? ds with
 | some ns=>R3.bz (decide (ns.length=ks.length/\ks.length<=15)) (.ok (.loc S.length) (S++[.dct (Ml ks ns)]))
 | none=> .no
def Qk(aL:List (Key × D))(k:Key):Option D:=(aL.find? fun kv=>decide (kv.1=k)).map (·.2)
def Sz(i:Nat)(f g:FD):FX:=fun δ S=>match ko δ i with
 | none=> .no
 | some k=>match qw S k with
   | none=> .no
   | some aL=>(R3.of (f (down δ)) S).bind fun kd S=>(R3.of (g (down δ)) S).bind fun d S=>match kd with
     | .str x=> .ok (.d ((Qk aL (Sum.inr x)).getD d)) S
     | _=> .no
end
end L3
end
section
namespace L2
open PySem PySem.Spec PyProof.Rows
section
variable {X:Cx}
def Fb:List D->R D
 | [.tup ds]=>(match ints? ds with | some ns=> .ok (.int ns.sum) | none=> .no)
 | ds=>Lh ds
theorem L8(hc:X.calm=true):h_ X (.builtin "sum") Fb:=by
 intro pins s σ H B ds d xs us I hb rx rs hg;unfold Fb at hg;split at hg
 .split at hg
  .rename_i es ns e;cases hg;obtain⟨x,rfl,r⟩:=rs.one;obtain⟨a,ys,rfl,l,r⟩:=Rep.tup.mp r;obtain⟨u,rfl,ru⟩:=vals1 rx;cases ru;obtain⟨its,rv,ht,hz⟩:=I.tuple l.sq;rw[gm r e] at rv;obtain⟨ps,rfl,rfl⟩:=iG rv;have hl:s.heap.IsTuple a (intItems ps.toArray):=by
    have ht:s.heap.IsTuple a (ps.map fun p=>Value.int p.1 p.2).toArray:=ht
    simpa [intItems] using ht
   refine PySem.W.ktm_sumG (I.ok.hd hc) hl fun h' tk t' k=>⟨.int _,H,I.kept k,⟨t',rfl⟩,aT.refl H,Rep.int.mpr ?_⟩
   rw[preSum_eq,List.take_of_length_le (by simp)]
  .cases hg
 .exact Oa hc pins s σ H B ds d xs us I hb rx rs hg
end
end L2
end
section
namespace L2
open PySem PySem.Spec PyProof.Rows
section
variable {X:Cx}
def Sa(d e:D):R D:=match d,e with
 | .tup a, .int k=>R.bz (decide (2<=k/\k < 1000/\a≠[]/\a.length*k.toNat<=sizeLine)) (.ok (.tup (List.replicate k.toNat a).flatten))
 | d,e=>gI d e
end
end L2
end
section
namespace HT
open PySem PySem.Spec PyProof.Rows
section
variable {prog:Program} {w:World} {A:Around} {E:WI} {s:Shared}
theorem AD(n:Nat):Builtin.Slice.slicePlaces ((n:Int) - 1) (-1) (-1)=n:=by
 unfold Builtin.Slice.slicePlaces;have h1:¬((-1:Int) > 0):=by decide
 have h2:(- -1:Int)=1:=by decide
 simp only[h1,if_false,h2,Int.ediv_one];split <;> omega
theorem Gw(xs:Array Value):((List.range xs.size).filterMap fun(m:Nat)=>xs[(((xs.size:Nat):Int) - 1+(m:Int)* -1).toNat]?).toArray=xs.toList.reverse.toArray:=by
 have e:∀m∈List.range xs.size,xs[(((xs.size:Nat):Int) - 1+(m:Int)* -1).toNat]? =(fun k=>xs[k]?) (xs.size - 1 - m):=by
  intro m hm;have:=List.mem_range.mp hm;have:(((xs.size:Nat):Int) - 1+(m:Int)* -1).toNat=xs.size - 1 - m:=by omega
  rw[this]
 have fc:∀(l:List Nat),(∀m∈l,m∈List.range xs.size)->l.filterMap (fun(m:Nat)=>xs[(((xs.size:Nat):Int) - 1+(m:Int)* -1).toNat]?)=l.filterMap ((fun k=>xs[k]?) ∘ fun m=>xs.size - 1 - m):=by
  intro l
  induction l with
  | nil=>intro _;rfl
  | cons m l ih=>
    intro hm;rw[List.filterMap_cons,List.filterMap_cons,e m (hm m (by simp)),ih fun k hk=>hm k (by simp [hk])];rfl
 rw[fc _ fun _ h=>h]
 have:=PySem.W.krv_range xs.size;have h2:(List.range xs.size).filterMap ((fun k=>xs[k]?) ∘ fun m=>xs.size - 1 - m)=((List.range xs.size).map fun m=>xs.size - 1 - m).filterMap fun k=>xs[k]?:=(List.filterMap_map ..).symm
 show((List.range xs.size).filterMap ((fun k=>xs[k]?) ∘ fun m=>xs.size - 1 - m)).toArray=_
 rw[h2,this,List.filterMap_reverse,PySem.W.krv_all]
theorem qg{t sl:Addr}{items:Array Value}{vk:Value}{Q:WI}(ht:IsTup s.heap t items)(hs:s.heap.IsSliceOf sl .none .none vk)(pk:IsPart vk (some (-1)))
 (h:Q (.ref s.heap.objs.size) {s with heap:=s.heap.push {cls:= .type "tuple",data:= .seq items.toList.reverse.toArray}})
 (hsz:items.size<=sizeLine):wpAny (model prog w) A (getItem (.ref t) (.ref sl)) Q E s:=by
 have htake:sizeOk (.seq items.toList.reverse.toArray):=by
  show items.toList.reverse.toArray.size<=sizeLine;rw[List.size_toArray,List.length_reverse,Array.length_toList];exact hsz
 obtain⟨os,D9,hcs,hds⟩:=id hs;have hTs:s.TypeIs (.ref sl) "slice":=⟨os,D9,hcs⟩;unfold getItem
 try with_reducible refine wpAny_holding ?_
 first | refine wpAny_bind (wpAny_pure ?_) | skip
 refine wpAny_bind (wpAny_sequenceKey ht.typeIs (by decide) ?_)
 refine wpAny_bind (wpAny_callSpecial?_slot (name:="__getitem__") ht.typeIs PyProof.Rows.slot_tuple_getitem
  (wpAny_call_entry PyProof.Rows.slot_tuple_getitem ht.typeIs entry_tuple_getitem ?_ (args_tuple_getitem _ _)))
 show wpAny _ _ (Builtin.Tuple.tupleItemsOf (.ref t) >>=_) _ _ s;refine wpAny_bind (tupleItemsOf_ ht ?_);refine wpAny_bind (wpAny_typeOf hTs ?_);rw[if_pos (by decide)]
 have ap:∀{A:Around} {Q:Int × Int × Nat->Shared->Prop},Q (((items.size:Nat):Int) - 1, -1,items.size) s->wpAny (model prog w) A (Builtin.Slice.sliceApplied (.ref sl) (pure ((items.size:Nat):Int))) Q E s:=by
  intro A Q h;unfold Builtin.Slice.sliceApplied Builtin.Slice.sliceFields;refine wpAny_bind (wpAny_bind (wpAny_field D9 hds (x:= .none) rfl (wpAny_bind (wpAny_field D9 hds (x:= .none) rfl (wpAny_bind (wpAny_field D9 hds (x:=vk) rfl (wpAny_pure ?_)))))));refine wpAny_bind (Ao pk ?_);show wpAny _ _ (if((-1:Int)==0)=true then _ else _) _ _ s
  rw[if_neg (by decide)]
  refine wpAny_bind (slicePart_none (wpAny_bind (slicePart_none (wpAny_bind (wpAny_pure ?_)))));show wpAny _ _ (pure (((items.size:Nat):Int) - 1,(-1:Int),Builtin.Slice.slicePlaces (((items.size:Nat):Int) - 1) (-1) (-1))) _ _ s;rw[AD];exact wpAny_pure h
 refine wpAny_bind (ap ?_);have hno:¬(((((items.size:Nat):Int) - 1)==0 && (-1:Int)==1 && items.size==items.size)=true):=by
  intro q;rw[Bool.and_eq_true,Bool.and_eq_true] at q;exact absurd (eq_of_beq q.1.2) (by decide)
 show wpAny _ _ (if((((items.size:Nat):Int) - 1)==0 && (-1:Int)==1 && items.size==items.size)=true then _ else _) _ _ s
 rw[if_neg hno,Gw]
 first
  | exact wpAny_bind (m:=Builtin.Tuple.tupleExact _) (wpAny_newObj_type (wpAny_pure ⟨_,rfl,wpAny_pure h⟩) htake)
  | exact wpAny_bind (m:=Builtin.Tuple.tupleExact _) (wpAny_newObj_type (wpAny_bind (wpAny_pure (wpAny_pure ⟨_,rfl,wpAny_pure h⟩))) htake)
  | exact wpAny_bind (wpAny_bind (m:=Builtin.Tuple.tupleExact _) (wpAny_newObj_type (wpAny_pure (wpAny_pure ⟨_,rfl,wpAny_pure h⟩)) htake))
  | exact wpAny_bind (wpAny_bind (m:=Builtin.Tuple.tupleExact _) (wpAny_newObj_type (wpAny_pure ⟨_,rfl,wpAny_pure h⟩) htake))
end
end HT
namespace L2
open PySem PySem.Spec PyProof.Rows
def DU:D->Option Key
 | .int n=>some (Sum.inl n)
 | .str x=>some (Sum.inr x)
 | _=>none
theorem pK{K:W.Frag}{B:List Addr}{d:D}{k:Key}{v:V}(h:DU d=some k)(r:Rep K B H d v):v=kV k:=by
 cases d with
 | int n=>cases h;exact Rep.int.mp r
 | str x=>cases h;exact Rep.str.mp r
 | cX=>cases h
 | bl b=>cases h
 | lst ds=>cases h
 | tup ds=>cases h
 | dct ks ds=>cases h
def oi(ks:List Key)(k:Key):Bool:=ks.any fun x=>decide (x=k)
def FF(ks:List Key)(ds:List D)(k:Key):Option D:=((ks.zip ds).find? fun p=>decide (p.1=k)).map (·.2)
theorem B8(aL:List (Key × V))(k:Key):(kB aL k).isSome=oi (aL.map (·.1)) k:=by
 unfold kB oi;rw[Option.isSome_map,Bool.eq_iff_iff,List.find?_isSome,List.any_eq_true];constructor
 .rintro⟨x,h1,h2⟩;exact⟨x.1,List.mem_map_of_mem h1,h2⟩
 .rintro⟨x,h1,h2⟩;obtain⟨y,y1,rfl⟩:=List.mem_map.mp h1;exact⟨y,y1,h2⟩
def AW(a b:D):R D:=match b with
 | .dct ks _=>(match DU a with | some k=> .ok (.bl (oi ks k)) | none=> .no)
 | _=> .no
def Io(a b:D):R D:=match b with
 | .dct ks _=>(match DU a with | some k=> .ok (.bl (!oi ks k)) | none=> .no)
 | _=> .no
def BF(d k:D):R D:=match d with
 | .dct ks ds=>(match DU k with | some k=>(match FF ks ds k with | some x=> .ok x | none=> .no) | none=> .no)
 | _=> .no
section
variable {X:Cx}
theorem Fj(hu:X.A.units+1 < cLine):lQ X (compareOp .In) AW:=by
 intro pins s σ H B da db d x y v u I hb rx ry ra rb hg;unfold AW at hg;split at hg
 .split at hg
  .rename_i ks ds k hk;cases hg;unfold Rep at rb;obtain⟨a,aL,rfl,⟨_,hH⟩,rfl,rs⟩:=rb;have:=pK hk ra;subst this;obtain rfl:u=Value.ref a:=ry;refine QG hu I (nv.k (k:=k) hH) rx fun s3 I3=>⟨.bl (oi (aL.map (·.1)) k),H,I3,?_,aT.refl H,Rep.bl.mpr rfl⟩
   rw[B8];rfl
  .cases hg
 .cases hg
theorem Nf(hu:X.A.units+1 < cLine):lQ X (compareOp .NotIn) Io:=by
 intro pins s σ H B da db d x y v u I hb rx ry ra rb hg;unfold Io at hg;split at hg
 .split at hg
  .rename_i ks ds k hk;cases hg;unfold Rep at rb;obtain⟨a,aL,rfl,⟨_,hH⟩,rfl,rs⟩:=rb;have:=pK hk ra;subst this;obtain rfl:u=Value.ref a:=ry;refine JD hu I (nv.k (k:=k) hH) rx fun s3 I3=>⟨.bl (!oi (aL.map (·.1)) k),H,I3,?_,aT.refl H,Rep.bl.mpr rfl⟩
   rw[B8];rfl
  .cases hg
 .cases hg
theorem Dp(hu:X.A.units+1 < cLine)(ho:QD X o f)(hi:QD X i g)(hs:K4 i):QD X (.Subscript o i pos) (e2 BF f g):=by
 refine⟨(IW hu ho.1 hi.1 hs).imp fun σ H Q ⟨Z,B,δ,d,E,hf,q⟩=>?_⟩
 obtain⟨d1,h1,h2⟩:=R.ai hf;obtain⟨d2,h3,h4⟩:=R.ai h2;refine⟨Z,B,δ,d1,E,h1,fun v1 H1 s1 r1=>⟨Z,B,δ,d2,E.same s1,h3,fun v2 H2 s2 r2=>?_⟩⟩
 unfold BF at h4;split at h4
 .split at h4
  .rename_i ks ds k hk;split at h4
   .rename_i x e;cases h4;have qz:=r1.same s2;unfold Rep at qz;obtain⟨a,aL,rfl,⟨_,hH⟩,rfl,rs⟩:=qz;unfold FF at e;obtain⟨p,e1,e2⟩:=L3.k9 e;obtain⟨y,ey,ry⟩:=rY rs e1;have ry:Rep X.K B H2 _ y:=e2▸ry;refine⟨a,y,rfl,?_,q _ H2 (s1.trans s2) ry⟩;rw[pK hk r2,<-ey];exact nv.k (k:=k) hH
   .cases h4
  .cases h4
 .cases h4
def Ke(f:FD):FD:=fun δ=>(f δ).bind fun d=>match d with | .tup ds=> .ok (.tup ds.reverse) | _=> .no
theorem Es{e step:Expr}(he:QD X e f)(D_:QP X (some step) (rT (OF (eC (.int 1))))):QD X (.Subscript e (.Slice none none (some step) p2) pos) (Ke f):=by
 refine⟨?_⟩;intro pins s σ H Q I ⟨Z,B,δ,d,E,hf,q⟩;obtain⟨d1,h1,h2⟩:=R.ai hf;cases d1 with
 | tup es=>
   cases h2;refine Subscript_ (dH (he.1 pins s σ H (fun x H1=>aT H H1/\Rep X.K B H1 (.tup es) x) I ⟨Z,B,δ, .tup es,E,h1,fun v H1 s1 r1=>⟨s1,r1⟩⟩) fun v s1 ⟨x,H1,I1,r1,RN,rr⟩=>?_)
   refine wpAny_Slice ?_;rw[evalPart_none];refine wpAny_pure ?_;refine wpAny_pure ?_;refine dH (D_.1 pins s1 σ H1 (fun o H2=>aT H1 H2/\o=some (-1)) I1 ⟨Z,B,δ,some (-1),E.same RN,rfl,fun H2 s2=>⟨s2,rfl⟩⟩) fun vk s2 ⟨o,H2,I2,pk,RX,eo⟩=>?_
   subst eo;obtain⟨a,xs,rfl,ls,rs⟩:=Rep.tup.mp (rr.same RX);cases r1;have I3:Inv X pins σ H2 {s2 with heap:=s2.heap.push {cls:= .type "slice",data:= .fields #[.none, .none,vk]}}:=I2.kept (t':=s2.toks) fun b ob q=>Heap.get?_push_of_some _ q
   obtain⟨its,r,ht,hz⟩:=I3.tuple ls.sq;show wpAny (model X.prog X.w) X.A (subscriptTail e (.Slice none none (some step) p2) (.ref a) (.ref s2.heap.objs.size)) (EP X pins σ Q) X.xe {s2 with heap:=s2.heap.push {cls:= .type "slice",data:= .fields #[.none, .none,vk]}}
   refine tail_any (ops:=[.ref a, .ref s2.heap.objs.size]) ht.typeIs slot_tuple_getitem.lookup ?_ (by with_unfolding_all rfl)
   have hlen:=r.length;refine HT.qg ht (Heap.IsSliceOf.new ..) pk ?_ (by rw[List.size_toArray] <;> omega)
   have hp:H2 (s2.heap.push {cls:= .type "slice",data:= .fields #[.none, .none,vk]}).objs.size=none:=I3.hok.fresh (Nat.le_refl _);refine⟨.ref _,_,I3.laid (t':=s2.toks) (o:= .tup xs.reverse) (fun b ob q=>Heap.get?_push_of_some _ q) (Nat.le_refl _) ?_,rfl,q _ _ ((RN.trans RX).trans (aX hp)) (Rep.tup.mpr ⟨_,_,rfl, .inl ⟨fun ha=>?_, .of aY⟩,(rs.rev).same (aX hp)⟩)⟩
   .exact⟨by rw[List.length_reverse];exact hz,_,r.rev,IsTup.new _ _⟩
   .obtain⟨o,ho⟩:=(E.same (RN.trans RX)).bs _ ha;rw[hp] at ho;cases ho
 | _=>cases h2
theorem xw(l:Addr)(items:Array Value)(n:Nat)(b:Addr)(j9:Array Value)(n2:Nat)(o:Obj)(Hn:o.cls= .type "tuple")(RL:o.data= .seq j9 n2)(Vo:¬(!items.isEmpty && Builtin.List.listTooLong (items.size+j9.size))=true)(MV:items.size<=sizeLine)(sv:items.size+j9.size<=sizeLine+1) :
 Meets (Builtin.«list.extend» ⟨[.ref l, .ref b],[]⟩) (fun _ R s=>s.heap.get? l=some {cls:= .type "list",dict:=none,data:= .seq items n,slots:=#[]}/\s.heap.get? b=some o/\R (.ok (.ret Value.none)) {s with heap:=s.heap.update l (Obj.mapSeq fun x=>x++j9),toks:=s.toks}):=
 .of_wp fun prog w A R s h=>by
   obtain⟨cls,dct,data,slots⟩:=o;subst Hn RL;obtain⟨hp,g,d,tk,os⟩:=s;obtain⟨hl,hb,h⟩:=h;have f1:=AutoSeq1.idx_int;have f2:=AutoSeq1.sub_tuple_tuple;have f3:=AutoSeq1.sub_list_list;have f4:=AutoSeq1.sub_tuple_list;have f5:=AutoSeq1.sub_list_tuple;have hz':(items++j9).size<=sizeLine+1:=by rw[Array.size_append];exact sv
   wp_walk using(wpAny_updateSeq hl rfl (hz:=MV) (_hz':=hz')),AutoSeq1.wpAny_loadPart' hl,AutoSeq1.wpAny_loadPart' hb;exact⟨_,rfl,h⟩
theorem extend_list(l:Addr)(items:Array Value)(n:Nat)(b:Addr)(j9:Array Value)(n2:Nat)(o:Obj)(Hn:o.cls= .type "list")(RL:o.data= .seq j9 n2)(Vo:¬(!items.isEmpty && Builtin.List.listTooLong (items.size+j9.size))=true)(MV:items.size<=sizeLine)(sv:items.size+j9.size<=sizeLine+1) :
 Meets (Builtin.«list.extend» ⟨[.ref l, .ref b],[]⟩) (fun _ R s=>s.heap.get? l=some {cls:= .type "list",dict:=none,data:= .seq items n,slots:=#[]}/\s.heap.get? b=some o/\R (.ok (.ret Value.none)) {s with heap:=s.heap.update l (Obj.mapSeq fun x=>x++j9),toks:=s.toks}):=
 .of_wp fun prog w A R s h=>by
   obtain⟨cls,dct,data,slots⟩:=o;subst Hn RL;obtain⟨hp,g,d,tk,os⟩:=s;obtain⟨hl,hb,h⟩:=h;have f1:=AutoSeq1.idx_int;have f2:=AutoSeq1.sub_tuple_tuple;have f3:=AutoSeq1.sub_list_list;have f4:=AutoSeq1.sub_tuple_list;have f5:=AutoSeq1.sub_list_tuple;have hz':(items++j9).size<=sizeLine+1:=by rw[Array.size_append];exact sv
   wp_walk using(wpAny_updateSeq hl rfl (hz:=MV) (_hz':=hz')),AutoSeq1.wpAny_loadPart' hl,AutoSeq1.wpAny_loadPart' hb;exact⟨_,rfl,h⟩
theorem AK:P1 X "list.extend" (fun x vs H Q=>∃l b xs zs,x= .ref l/\vs=[.ref b]/\H l=some (.lst xs)/\(∃t,Fd t X.K H b zs)/\xs.length+zs.length<=sizeLine/\Q .cX (upd H l (.lst (xs++zs)))):=by
 intro pins s σ H x vs v us Q I rx rv h;obtain⟨l,b,xs,zs,rfl,rfl,hH,⟨t,hB⟩,hz,q⟩:=h;cases rx;obtain⟨u,rfl,ru⟩:=rv.one;cases ru;obtain⟨z,its,n,r,hl,e⟩:=I.GO hH;obtain⟨nX,r2,e2⟩:=I.E4 hB;have Bg:=r2.length;have hsz:its.toArray.size+nX.toArray.size<=sizeLine:=by rw[List.size_toArray,List.size_toArray];omega
 have hlong:¬(!its.toArray.isEmpty && Builtin.List.listTooLong (its.toArray.size+nX.toArray.size))=true:=by
  rw[uW hsz,Bool.and_false];exact Bool.false_ne_true
 cases t with
 | true=>
   obtain⟨o,o1,o2,n2,o3⟩:=(show s.heap.IsTuple b nX.toArray from e2)
   refine call_meets F.slot_list_extend ⟨_,e,rfl⟩ F.entry_list_extend (F.args_list_extend_2 _ _)
    (xw l its.toArray n b nX.toArray n2 o o2 o3 hlong (by rw[List.size_toArray];omega) (by omega)) ⟨e,o1,?_⟩
   refine⟨.cX,_,I.JC (its':=its++nX) hH e (by simp) (r.append r2) ?_,rfl,q⟩
   rw[List.length_append];omega
 | false=>
   obtain⟨o,o1,o2,n2,o3⟩:=(show s.heap.IsList b nX.toArray from e2)
   refine call_meets F.slot_list_extend ⟨_,e,rfl⟩ F.entry_list_extend (F.args_list_extend_2 _ _)
    (extend_list l its.toArray n b nX.toArray n2 o o2 o3 hlong (by rw[List.size_toArray];omega) (by omega)) ⟨e,o1,?_⟩
   refine⟨.cX,_,I.JC (its':=its++nX) hH e (by simp) (r.append r2) ?_,rfl,q⟩
   rw[List.length_append];omega
def wJ(i:Nat)(f:FD):FS:=fun δ=>(f δ).bind fun d=>match seqD? d with
 | some es=>(oT δ i).bind fun ds=>R.bz (decide (ds.length+es.length<=sizeLine)) (.ok (.nx (δ.set i (.bld (ds++es)))))
 | none=> .no
theorem qL{i:Nat}{x:Str}{e:Expr}{f:FD}{eU apos cu pos:Pos}(hN:X.N[i]? =some x)(hv:GK X.env.scope x)(he:QD X e f)
 (hd:(x==("__debug__":Str))=false:=by decide) (rK:(x==("__classdict__":Str))=false:=by decide)
 (hs:starEach [e] X.env=(false,eval e X.env) ::starEach [] X.env:=by rfl) (lP:(apos.endLine==cu.line)=true:=by rfl)
 (rL:((backTo cu (starEach [e] X.env)).all (fun x=>!x.1) && (backToKw cu (keywordEach [] X.env)).all (fun x=>x.1.isSome)
   && decide (([e]:List Expr).length+([]:List Keyword).length+(if([]:List Keyword).isEmpty then 0 else 1) < 30))=true:=by rfl)
 (rD:swapsWith (.Call (.Attribute (.Name x eU) "extend" apos) [e] [] cu) none pos.line X.env=pure false:=by rfl)
 (lN:attributeBase (.Name x eU) "extend" X.env (eval (.Name x eU) X.env)=eval (.Name x eU) X.env:=by rfl) :
 DX X (.Expr (.Call (.Attribute (.Name x eU) "extend" apos) [e] [] cu) pos) (wJ i f):=by
 refine⟨(qf (Cb (X:=X) PySem.F.plainAttrs_list PySem.F.slot_list_extend PySem.F.type_list_extend AK (qJ hN hv hd rK) (c9 he.1 fZ hs) lN rL lP hs) rD).imp fun D σ H ⟨Z,B,δ,o,E,hf,q⟩=>?_⟩
 obtain⟨d,h1,h2⟩:=R.ai hf;split at h2
 .rename_i es he;obtain⟨ds,h3,h4⟩:=R.ai h2;obtain⟨hl,h5⟩:=R.ba h4;cases h5;have hb:=uI h3;obtain⟨a,xs,q1,q2,q3,q4,q5⟩:=E.bld i ds hb;refine⟨.ref a,q1, .inl ⟨rfl,xs,o8.of q4⟩,⟨Z,B,δ,d,E,h1,fun v H1 s1 r1=>?_⟩⟩
  have E1:=E.same s1;obtain⟨t,b,ys,rfl,k1⟩:=r1.E4 he;obtain⟨l,r'⟩:=k1 B H1 (dF.refl B H1);refine⟨a,b,xs,ys,rfl,rfl,s1 a _ q4,⟨_,l⟩,by rw[<-q5.length,<-r'.length];exact of_decide_eq_true hl,?_⟩
  obtain⟨E2,p2⟩:=E1.grow (es:=ds++es) (ys:=xs++ys) hb q1 q2 (s1 a _ q4) ((q5.same s1).append r');exact q σ B _ ((Ev.same E.zb s1).trans (Ev.grow E.zb q3 p2)) E2
 .cases h2
theorem yI{lo:Int}{n:Nat}{acc:Array Value}(h:ItemsOf (fun i v=>∃t,v=Value.int (lo+(i:Int)*1) t) acc n):Vals ((List.range n).map fun(i:Nat)=>V.int (lo+(i:Int))) acc.toList:=by
 obtain⟨hl,h⟩:=h;have gen:∀(l:List Value) (m:Nat),(∀j v,l[j]? =some v->∃t,v=Value.int (lo+((m+j:Nat):Int)) t)->Vals ((List.range' m l.length).map fun(i:Nat)=>V.int (lo+(i:Int))) l:=by
  intro l
  induction l with
  | nil=>intro m _;exact .nil
  | cons v l ih=>
    intro m hm;rw[List.length_cons,List.range'_succ,List.map_cons];obtain⟨t,ht⟩:=hm 0 v rfl;refine .cons ⟨t,by rw[ht];simp⟩ (ih (m+1) fun j w hw=>?_)
    obtain⟨t,ht⟩:=hm (j+1) w (by simpa using hw)
    exact⟨t,by rw[ht];congr 2;omega⟩
 have:=gen acc.toList 0 fun j v hv=>by
  obtain⟨t,ht⟩:=h j v (by simpa using hv)
  exact⟨t,by rw[ht];simp⟩
 rw[Array.length_toList,hl] at this;rw[List.range_eq_range'];exact this
theorem wC{K:W.Frag}{B:List Addr}{lo:Int}:∀l:List Nat,az K B H (l.map fun(i:Nat)=>D.int (lo+(i:Int))) (l.map fun(i:Nat)=>V.int (lo+(i:Int)))
 | []=>az.nil
 | i ::l=>az.cons (Rep.int.mpr rfl) (wC l)
def yt(f g:FD):au->R (List D):=fun δ=>(f δ).bind fun d=>(g δ).bind fun e=>match d,e with
 | .int i, .int j=>R.bz (decide (-(2 ^ 62)<=i/\i < 2 ^ 62/\ -(2 ^ 62)<=j/\j < 2 ^ 62/\j - i < 16777216)) (.ok (fG i (j - i).toNat))
 | _,_=> .no
theorem y0{a b:Expr}{f g:FD}{p p2 pos vn:Pos}(hc:X.calm=true)(h:QD X a f)(h':QD X b g)(hg:Gl X "list")(hm:X.mg "list"=none)(Em:Gl X "range")(Hm:X.mg "range"=none)(hs:starEach [a,b] X.env=(false,eval a X.env) ::starEach [b] X.env:=by rfl)(MV:starEach [b] X.env=[(false,eval b X.env)]:=by rfl)
 (sv:starEach [.Call (.Name "range" p2) [a,b] [] vn] X.env=(false,eval (.Call (.Name "range" p2) [a,b] [] vn) X.env) ::starEach [] X.env:=by rfl) (my:(backTo pos (starEach [] X.env)).any (·.1)=false:=by rfl) :
 QN X (.Call (.Name "list" p) [.Call (.Name "range" p2) [a,b] [] vn] [] pos) (yt f g):=by
 refine⟨?_⟩;intro pins s σ H Q I ⟨Z,B,δ,ds,E,hf,q⟩;obtain⟨d1,h1,h2⟩:=R.ai hf;obtain⟨d2,h3,h4⟩:=R.ai h2;have key:∃i j:Int,d1= .int i/\d2= .int j/\(-(2 ^ 62)<=i/\i < 2 ^ 62/\ -(2 ^ 62)<=j/\j < 2 ^ 62/\j - i < 16777216)/\ds=fG i (j - i).toNat:=by
  split at h4
  .obtain⟨h5,h6⟩:=R.ba h4;cases h6;exact⟨_,_,rfl,rfl,of_decide_eq_true h5,rfl⟩
  .cases h4
 obtain⟨i,j,rfl,rfl,⟨Pz,RO,Vg,VF,Ww⟩,rfl⟩:=key;refine wpAny_Call_Name_kw (jk I hg hm boot_list ?_ (by decide) (by decide))
 refine PyProof.Rows.callWith_type1 ?_ sv my;rw[sv];show wpAny _ _ (spliced ((false,eval (.Call (.Name "range" p2) [a,b] [] vn) X.env) ::backTo pos (starEach [] X.env))) _ _ s;refine Calls.spliced_cons ?_;have hA:=c9 h.1 (c9 h'.1 fZ MV) hs vn pins s σ H (fun vs H1=>aT H H1/\vs=[.int i, .int j]) I ⟨Z,B,δ, .int i,E,h1,fun v H1 s1 r1=>⟨Z,B,δ, .int j,E.same s1,h3,fun v2 H2 s2 r2=>⟨s1.trans s2,by rw[Rep.int.mp r1,Rep.int.mp r2]⟩⟩⟩
 refine Call_ (jk I Em Hm boot_range (PyProof.Rows.callWith_type1 (dH hA fun us s1 ⟨vs,H1,I1,r1,ss,ev⟩=>?_) (by rw[hs]) (by rw[MV];rfl)))
 subst ev;cases r1 with
 | cons r rr=>
 cases rr with
 | cons r' rr=>
 cases rr;obtain⟨t,rfl⟩:=r;obtain⟨t',rfl⟩:=r';refine call_range_2 ?_;have I2:Inv X pins σ H1 {s1 with heap:=s1.heap.push {cls:= .type "range",data:= .fields #[.int i t, .int j t', .int 1 s1.toks]},toks:=s1.toks+1}:=I1.kept fun b o e=>Heap.get?_push_of_some _ e
 refine Calls.spliced_nil ?_;have hsz:Builtin.Range.rangeSize i j 1=((j - i).toNat:Nat):=by rw[rangeSize_one];split <;> omega
 have hz:sizeLine=16777216:=sizeLine_eq;refine call_list_range (n:=(j - i).toNat) (I2.ok.hd hc) (IsRange.new ..) (small_one Pz RO Vg VF) hsz (by omega) fun h' tk acc c' hk MC vt=>?_
 have rv:=yI vt;have hle:((List.range (j - i).toNat).map fun(k:Nat)=>V.int (i+(k:Int))).length<=sizeLine:=by rw[List.length_map,List.length_range];omega
 have hf':H1 (s1.heap.push {cls:= .type "range",data:= .fields #[.int i t, .int j t', .int 1 s1.toks]}).objs.size=none:=I2.hok.fresh (Nat.le_refl _);have I4:=I2.laid (o:= .lst ((List.range (j - i).toNat).map fun(k:Nat)=>V.int (i+(k:Int)))) (h':=h') (t':=tk) hk (Nat.le_refl _) (show eF X.prog X.w _ _ _ (.lst _) from⟨hle,acc.toList,c',rv,by simpa using MC⟩)
 exact⟨.ref _,_,I4,rfl,q _ _ _ (ss.trans (aX hf')) (ss.free hf') aY (wC _)⟩
end
end L2
namespace L3
open PySem PySem.Spec PyProof.Rows L2
section
variable {X:Cx} {cl:WN}
def Sx(i:Nat)(f:FX):FZ:=fun δ S=>match ko δ i with
 | none=> .no
 | some k=>match dn S k with
   | none=> .no
   | some _=>(f δ S).bind fun v S1=>match v with
     | .d d=>(match seqD? d with
       | some es=>(match dn S1 k with
         | some ds=>R3.bz (decide (ds.length+es.length<=sizeLine)) (.ok (.nx δ) (S1.set k (.lst (ds++es))))
         | none=> .no)
       | none=> .no)
     | _=> .no
def wX(fo fi fe:FX):FZ:=fun δ S=>(fe δ S).bind fun v S1=>(fo δ S1).bind fun o S2=>(fi δ S2).bind fun j S3=>match v,o,j with
 | .d d, .loc k, .d n=>(match qw S3 k,DU n with | some aL,some key=>R3.bz (decide (aL.length < sizeLine)) (.ok (.nx δ) (S3.set k (.dct (vH aL key d)))) | _,_=> .no)
 | _,_,_=> .no
theorem zK{pos pos':Pos}(hu:X.A.units+1 < cLine)(hv:PX X cl value fe)(ho:PX X cl o fo)(hi:PX X cl i fi)(hs:swapsWith value (some (.Subscript o i pos')) pos.line X.env=pure false:=by rfl):PZ X cl (.Assign [.Subscript o i pos'] value pos) (wX fo fi fe):=
 ⟨(IG hu ho.1 hi.1 hv.1 hs).imp fun D σ H ⟨ρ,S,δ,ou,S',E,hf,q⟩=>by
   obtain⟨v,S1,h1,h2⟩:=R3.ai hf;obtain⟨o,S2,h3,h4⟩:=R3.ai h2;obtain⟨j,S3,h5,h6⟩:=R3.ai h4;refine⟨ρ,S,δ,v,S1,E,h1,fun u1 de H1 p1 w1 r1=>⟨de,S1,δ,o,S2,E.to p1 w1,h3,fun u2 vm H2 p2 w2 r2=>⟨vm,S2,δ,j,S3,(E.to p1 w1).to p2 w2,h5,fun u3 G7 H3 p3 w3 r3=>?_⟩⟩⟩
   split at h6
   .rename_i d k n;split at h6
    .rename_i aL key hd hn;obtain⟨hl,h7⟩:=R3.ba h6;cases h7;have r2':=r2.pre p3;unfold bo at r2';obtain⟨a,a1,rfl⟩:=r2';unfold bo at r3;have:=pK hn r3;subst this;obtain⟨ys,y1,y2,y3⟩:=w3.ob k a _ a1 (vd hd);have qz:=(r1.pre p2).pre p3;unfold bo at qz;obtain⟨e1,k4⟩:=MZ (k:=key) qz y2 y3;have hll:ys.length=aL.length:=by have:=congrArg List.length y2;simpa using this
     refine⟨a,_,rfl,Dx.k (k:=key) y1 (by rw[hll];exact of_decide_eq_true hl),?_⟩
     obtain⟨w4,p4⟩:=w3.put (o:= .dct (vH aL key d)) (u:= .dK (putK ys key u1)) a1 (w3.fz k a a1 (by rw[vd hd];intro h;cases h)) ⟨_,rfl,e1,k4⟩
     exact q σ G7 _ (p1.trans (p2.trans (p3.trans p4))) (E.to (p1.trans (p2.trans (p3.trans p4))) w4)
    .cases h6
   .cases h6⟩
theorem Bq{fo fi fe:FX}{δ:DE}{S:bu}{QO:Ou->bu->Prop}(h:W3 (fe δ S) fun v S1=>W3 (fo δ S1) fun o S2=>W3 (fi δ S2) fun j S3=>∃d k n key aL,v= .d d/\o= .loc k/\j= .d n/\DU n=some key/\S3[k]? =some (.dct aL)/\aL.length < sizeLine/\QO (.nx δ) (S3.set k (.dct (vH aL key d)))):W3 (wX fo fi fe δ S) QO:=
 W3.bind (h.mono fun _ _ h=>W3.bind (h.mono fun _ _ h=>W3.bind (h.mono fun _ S3 ⟨d,k,n,key,aL,e1,e2,e3,e6,e4,hl,q⟩=>by
  subst e1 e2 e3;have e5:qw S3 k=some aL:=by unfold qw;simp only[e4]
  simp only[e5,e6];exact W3.wh (decide_eq_true hl) (W3.ok q))))
end
end L3
end
section
namespace NT
def mx(f:Nat->Nat)(w:List Nat):Nat:=(w.map f).foldl max 0
structure BA (f:Nat->Nat) (M:Nat) (bs:List Int):Prop where
 a:∀(z:Nat) (v:Int),bs[z]? =some v->v= -1\/(0<=v/\v+f z<=M)
def BB(f:Nat->Nat)(M:Nat)(bs:List Int)(n:Nat):Prop:=∃(z:Nat) (v:Int),z < n/\bs[z]? =some v/\0<=v/\(M:Int)<=v+f z
def Up(bs S8:List Int):Prop:=S8.length=bs.length/\∀(z:Nat) (v:Int),bs[z]? =some v->∃v',S8[z]? =some v'/\v<=v'
end NT
namespace NT
open PySem PySem.Spec PyProof.Rows L2 L3
structure Gt where
 k:Str
 w:List Nat
 s:Bool
def nN(z:Nat):D:= .int z
def wN(w:List Nat):D:= .tup (w.map nN)
def gN(g:Gt):D:= .tup [.str g.k,wN g.w, .bl g.s]
def iN(x:Str × Nat):D:= .tup [.str x.1, .int x.2]
def oN(x:Str × List Nat):D:= .tup [.str x.1,wN x.2]
structure Net where
 i:WJ
 g:List Gt
 o:WK
def Net.d(n:Net):D:= .tup [.lst (n.i.map iN), .lst (n.g.map gN), .lst (n.o.map oN)]
def Net.first(n:Net):Nat:=(n.i.map (·.2)).sum
structure R8 (n:Nat) (w:List Nat):Prop where
 ne:w≠[]
 le:w.length<=3
 lt:∀z∈w,z < n
structure Net.Ok (n:Net):Prop where
 i1:1<=n.i.length
 i6:n.i.length<=6
 iw:∀x∈n.i,1<=x.2/\x.2<=3
 is:∀x∈n.i,pz 0 (.str x.1)
 g60:n.g.length<=60
 gw:∀(p:Nat) (g:Gt),n.g[p]? =some g->R8 (n.first+p) g.w
 gs:∀g∈n.g,pz 0 (.str g.k)
 o1:1<=n.o.length
 o6:n.o.length<=6
 ow:∀x∈n.o,R8 (n.first+n.g.length) x.2
 os:∀x∈n.o,pz 0 (.str x.1)
inductive Sm:Nat->D->Prop where
 | int (n:Nat) (i:Int):Sm n (.int i)
 | bl (n:Nat) (b:Bool):Sm n (.bl b)
 | str (n:Nat) (s:Str):Sm n (.str s)
 | lst {n:Nat} {ds:List D} (h:∀d∈ds,Sm n d) (hl:ds.length<=1000000):Sm (n+1) (.lst ds)
 | tup {n:Nat} {ds:List D} (h:∀d∈ds,Sm n d) (hl:ds.length<=1000000):Sm (n+1) (.tup ds)
theorem lR{F G:FS}{δ:au}{d:D}(h:F δ= .ok (.rt d)):dW F G δ= .ok (.rt d):=by unfold dW;rw [h];rfl
theorem KS{m i:Nat}{v:V3}(h:((fG 0 m).map V3.d)[i]? =some v):i < m/\v= .d (.int i):=by
 rw[List.getElem?_map,fG,List.getElem?_map] at h;cases q:(List.range m)[i]? with
 | none=>rw [q] at h;cases h
 | some j=>
   rw[q] at h;cases h;obtain⟨q1,q2⟩:=List.getElem?_eq_some_iff.mp q;rw[List.getElem_range] at q2;rw[List.length_range] at q1;subst q2;exact⟨q1,by simp⟩
theorem j6{α:Type}{l:List α}{f:α->D}{i:Nat}{v:V3}(h:((l.map f).map V3.d)[i]? =some v):∃x,l[i]? =some x/\v= .d (f x):=by
 rw[List.getElem?_map,List.getElem?_map] at h;cases q:l[i]? with
 | none=>rw [q] at h;cases h
 | some x=>rw [q] at h;cases h;exact⟨x,rfl,rfl⟩
theorem qd{α:Type}{l:List α}{f:α->D}{i:Nat}{v:D}(h:(l.map f)[i]? =some v):∃x,l[i]? =some x/\v=f x:=by
 rw[List.getElem?_map] at h;cases q:l[i]? with
 | none=>rw [q] at h;cases h
 | some x=>rw [q] at h;cases h;exact⟨x,rfl,rfl⟩
theorem bj{α:Type}{t:FT}{c:au->R Bool}{f:FD}{δ:au}(a b:α->D):∀{xs:List α},(∀x∈xs,∃δ1,t (a x) δ= .ok δ1/\c δ1= .ok true/\f δ1= .ok (b x))->oC t c f δ (xs.map a)= .ok (xs.map b)
 | [],_=>rfl
 | x ::xs,h=>by
   obtain⟨δ1,h1,h2,h3⟩:=h x List.mem_cons_self;have ih:=bj (t:=t) (c:=c) (f:=f) (δ:=δ) a b (xs:=xs) fun y hy=>h y (List.mem_cons_of_mem _ hy)
   rw[List.map_cons];unfold oC;rw[h1,R.aO,h2,R.aO,if_pos rfl,h3,R.aO,ih];rfl
theorem u0{α:Type}{t:FT}{c:au->R Bool}{f:FD}{δ:au}(p:α->Bool)(a b:α->D):∀{xs:List α},(∀x∈xs,∃δ1,t (a x) δ= .ok δ1/\c δ1= .ok (p x)/\(p x=true->f δ1= .ok (b x)))->oC t c f δ (xs.map a)= .ok ((xs.filter p).map b)
 | [],_=>rfl
 | x ::xs,h=>by
   obtain⟨δ1,h1,h2,h3⟩:=h x List.mem_cons_self;have ih:=u0 (t:=t) (c:=c) (f:=f) (δ:=δ) p a b (xs:=xs) fun y hy=>h y (List.mem_cons_of_mem _ hy)
   rw[List.map_cons];unfold oC;rw[h1,R.aO,h2,R.aO];cases e:p x with
   | true=>rw [if_pos rfl,h3 e,R.aO,ih,List.filter_cons,if_pos e];rfl
   | false=>rw [if_neg (by decide),ih,List.filter_cons,if_neg (by rw[e];decide)]
theorem Cq{n z:Nat}(h:z < n):BD n (z:Int)=some z:=by
 unfold BD;rw[if_pos (by omega),if_pos (by omega)]
 simp
theorem zh{α:Type}{xs:List α}{z:Nat}{x:α}(h:xs[z]? =some x):u_ xs (z:Int)=some x:=by
 have hl:=(List.getElem?_eq_some_iff.mp h).1;unfold u_;rw[Cq hl];exact h
theorem iU{ds:List D}{z:Nat}{x:D}(h:ds[z]? =some x):cm (.lst ds) (.int z)= .ok x:=rp (zh h)
theorem HM{ds:List D}{z:Nat}{x:D}(h:ds[z]? =some x):cm (.tup ds) (.int z)= .ok x:=u9 (zh h)
end NT
end
section
namespace MT
open PySem PySem.Spec PyProof.Rows L2 L3
abbrev M:=Nat->Bool
theorem NS{N:List Str}{F:FZ}{vs:List V3}{δ:DE}{S:bu}{QV:V3->bu->Prop}(e:dC N vs=δ)(h:W3 (F δ S) fun o S1=>∃eh,o= .nx eh/\QV (.d .cX) S1):W3 (sE N F vs S) QV:=by
 subst e;exact W3.bind (h.mono fun _ _ ⟨_,e,q⟩=>by subst e;exact W3.ok q)
def jZ:Nat->M->Nat
 | 0,_=>0
 | N+1,f=>(if f 0 then 1 else 0)+2*jZ N (fun i=>f (i+1))
theorem iV:∀(N:Nat) (f:M) (i:Nat),(jZ N f).testBit i=(decide (i < N) && f i)
 | 0,f,i=>by unfold jZ;simp
 | N+1,f,0=>by
   unfold jZ;rw[Nat.testBit_zero];cases f 0 <;> simp <;> omega
 | N+1,f,i+1=>by
   unfold jZ;rw[Nat.testBit_succ];have:((if f 0=true then 1 else 0)+2*jZ N fun i=>f (i+1)) / 2=jZ N fun i=>f (i+1):=by split <;> omega
   rw[this,iV N _ i];simp
theorem n8:∀{N:Nat} {f g:M},(∀i,i < N->f i=g i)->jZ N f=jZ N g
 | 0,_,_,_=>rfl
 | N+1,f,g,h=>by
   unfold jZ;rw[h 0 (by omega),n8 (N:=N) fun i hi=>h (i+1) (by omega)]
theorem Cv(N:Nat)(f g:M):jZ N f &&& jZ N g=jZ N fun i=>f i && g i:=by
 refine Nat.eq_of_testBit_eq fun i=>?_
 rw[Nat.testBit_and,iV,iV,iV];cases decide (i < N) <;> simp
theorem FE(N:Nat)(f g:M):jZ N f ||| jZ N g=jZ N fun i=>f i || g i:=by
 refine Nat.eq_of_testBit_eq fun i=>?_
 rw[Nat.testBit_or,iV,iV,iV];cases decide (i < N) <;> simp
theorem Cc:∀(N:Nat) (f g:M),((jZ N fun i=>f i || g i:Nat):Int) - (jZ N fun i=>f i && g i:Nat)=(jZ N fun i=>f i !=g i:Nat)
 | 0,f,g=>rfl
 | N+1,f,g=>by
   have ih:=Cc N (fun i=>f (i+1)) (fun i=>g (i+1))
   have e:∀h:M,jZ (N+1) h=(if h 0 then 1 else 0)+2*jZ N (fun i=>h (i+1)):=fun _=>rfl
   rw[e,e,e];generalize jZ N (fun i=>f (i+1) || g (i+1))=a at ih ⊢
   generalize jZ N (fun i=>f (i+1) && g (i+1))=b at ih ⊢
   generalize jZ N (fun i=>f (i+1) !=g (i+1))=c at ih ⊢
   show(((if(f 0 || g 0) then 1 else 0)+2*a:Nat):Int) - ((if(f 0 && g 0) then 1 else 0)+2*b:Nat)=((if(f 0 !=g 0) then 1 else 0)+2*c:Nat)
   cases f 0 <;> cases g 0 <;> simp <;> omega
theorem uw(x y:Nat):Builtin.bitAnd (x:Int) (y:Int)=((x &&& y:Nat):Int):=by
 unfold Builtin.bitAnd;rw[decide_eq_true (by omega:(0:Int)<=x),decide_eq_true (by omega:(0:Int)<=y)]
 simp
theorem B7(x y:Nat):Builtin.bitOr (x:Int) (y:Int)=((x ||| y:Nat):Int):=by
 unfold Builtin.bitOr Builtin.bitAnd Builtin.bitNot;rw[decide_eq_false (by omega:¬(0:Int)<= -(x:Int) - 1),decide_eq_false (by omega:¬(0:Int)<= -(y:Int) - 1)]
 show -(-(((-(-(x:Int) - 1) - 1).toNat ||| (-(-(y:Int) - 1) - 1).toNat:Nat):Int) - 1) - 1=_
 rw[show(-(-(x:Int) - 1) - 1).toNat=x by omega,show(-(-(y:Int) - 1) - 1).toNat=y by omega]
 omega
def mI(N:Nat)(f:M):D:= .int (jZ N f:Nat)
theorem qt{N:Nat}{f g:M}(h:∀i,i < N->f i=g i):mI N f=mI N g:=by unfold mI;rw [n8 h]
theorem tQ(N:Nat)(f g:M):Iq (mI N f) (mI N g)= .ok (mI N fun i=>f i && g i):=by
 show R.ok (D.int (Builtin.bitAnd (jZ N f:Int) (jZ N g:Int)))=_;rw[uw,Cv];rfl
theorem yF(N:Nat)(f g:M):J7 (mI N f) (mI N g)= .ok (mI N fun i=>f i || g i):=by
 show R.ok (D.int (Builtin.bitOr (jZ N f:Int) (jZ N g:Int)))=_;rw[B7,FE];rfl
theorem uO(N:Nat)(f g:M):CW (mI N f) (mI N g)= .ok (mI N fun i=>f i !=g i):=by
 show R.ok (D.int (Builtin.bitOr (jZ N f:Int) (jZ N g:Int) - Builtin.bitAnd (jZ N f:Int) (jZ N g:Int)))=_;rw[B7,uw,FE,Cv,Cc];rfl
def one:M:=fun _=>true
theorem JR(N:Nat)(f:M):CW (mI N one) (mI N f)= .ok (mI N fun i=>!f i):=by
 rw[uO];have:(fun i=>one i !=f i)=fun i=>!f i:=by funext i;unfold one;simp
 rw[this]
theorem GD(N:Nat)(f:M)(c:Bool):(if c then CW (mI N one) (mI N f) else .ok (mI N f))= .ok (mI N fun i=>f i !=c):=by
 cases c with
 | true=>
   rw[if_pos rfl,JR];have:(fun i=>!f i)=fun i=>f i !=true:=by funext i;cases f i <;> rfl
   rw[this]
 | false=>
   rw[if_neg (by decide)]
   have:f=fun i=>f i !=false:=by funext i;cases f i <;> rfl
   rw[<-this]
theorem zy{N:Nat}{f:M}:jZ N f=0↔∀i,i < N->f i=false:=by
 constructor
 .intro h i hi;have:=iV N f i;rw[h,Nat.zero_testBit,decide_eq_true hi,Bool.true_and] at this;exact this.symm
 .intro h;refine Nat.eq_of_testBit_eq fun i=>?_
  rw[iV,Nat.zero_testBit];by_cases q:i < N
  .rw [h i q];simp
  .rw [decide_eq_false q];rfl
theorem M7(N:Nat)(f:M)(n:Nat):(DT (mI N f) (.int n)).bind (fun d=>Iq d (.int 1))= .ok (.int (if decide (n < N) && f n then 1 else 0)):=by
 have h1:DT (mI N f) (.int n)= .ok (.int ((jZ N f / 2 ^ n:Nat):Int)):=by
  show R.bz (decide ((0:Int)<=n)) (.ok (D.int ((jZ N f:Int) / 2 ^ ((n:Int)).toNat)))=_;rw[bN _ (by omega),Int.toNat_natCast]
  congr 2
 rw[h1,R.aO];show R.ok (D.int (Builtin.bitAnd ((jZ N f / 2 ^ n:Nat):Int) ((1:Nat):Int)))=_;rw[uw,Nat.and_one_is_mod,<-iV];congr 2;unfold Nat.testBit;rw[Nat.shiftRight_eq_div_pow,Nat.one_and_eq_mod_two];have:jZ N f / 2 ^ n % 2=0\/jZ N f / 2 ^ n % 2=1:=by omega
 rcases this with q | q <;> rw[q] <;> rfl
def bI(b:Bool):D:= .int (if b then 1 else 0)
def Hg:List Bool->Nat
 | []=>0
 | b ::bs=>(if b then 1 else 0)+2*Hg bs
theorem GP:∀bs:List Bool,Hg bs=jZ bs.length fun i=>bs.getD i false
 | []=>rfl
 | b ::bs=>by
   unfold Hg;rw[GP bs];rfl
def nI(n:Nat):D:= .int (n:Int)
def kS:Nat->Str | 0=>"not" | 1=>"and" | 2=>"or" | 3=>"xor" | _=>"vote"
def ar:Nat->Nat | 0=>1 | 4=>3 | _=>2
theorem Cy(k:Nat):ar k<=3:=by unfold ar;split <;> omega
def gv:Nat->List Bool->Bool
 | 0,[a]=>!a
 | 1,[a,b]=>a && b
 | 2,[a,b]=>a || b
 | 3,[a,b]=>a !=b
 | 4,[a,b,c]=>(a && b) || (a && c) || (b && c)
 | _,_=>false
def j7(ws:List M)(n:Nat):M:=ws.getD n fun _=>false
abbrev Gt:=Nat × List Nat × Bool
def fB(g:Gt):D:= .tup [.str (kS g.1), .tup (g.2.1.map nI), .bl g.2.2]
def sG(n:Nat)(g:Gt):Prop:=g.1<=4/\g.2.1.length=ar g.1/\∀w∈g.2.1,w < n
def inD(x:Str × Nat):D:= .tup [.str x.1,nI x.2]
def jA(x:Str × List Nat):D:= .tup [.str x.1, .tup (x.2.map nI)]
def a_(ins:WJ)(gs:List Gt)(os:WK):D:= .tup [.lst (ins.map inD), .lst (gs.map fB), .lst (os.map jA)]
def cN(ins:WJ):Nat:=(ins.map (·.2)).sum
def gF(g:Gt)(ws:List M):M:=fun p=>gv g.1 (g.2.1.map fun n=>j7 ws n p)
def k_(bad:List Int)(b:M):Nat->List M->List M
 | 0,ws=>ws
 | n+1,ws=>k_ bad b n ws++[fun p=>b p !=bad.contains ((k_ bad b n ws).length:Int)]
theorem lg(bad:List Int)(b:M):∀n ws,(k_ bad b n ws).length=ws.length+n
 | 0,ws=>rfl
 | n+1,ws=>by unfold k_;rw [List.length_append,lg bad b n ws];rfl
def jy(ins:WJ)(bits:List M)(bad:List Int):Nat->List M
 | 0=>[]
 | i+1=>match ins[i]?,bits[i]? with | some x,some b=>k_ bad b x.2 (jy ins bits bad i) | _,_=>jy ins bits bad i
theorem ql{ins:WJ}{bits:List M}{bad:List Int}(hb:bits.length=ins.length):∀i,i<=ins.length->(jy ins bits bad i).length=cN (ins.take i)
 | 0,_=>rfl
 | i+1,hi=>by
   have h1:ins[i]? =some ins[i]:=List.getElem?_eq_getElem (by omega)
   have h2:bits[i]? =some bits[i]:=List.getElem?_eq_getElem (by omega)
   unfold jy;rw[h1,h2];show(k_ bad bits[i] ins[i].2 (jy ins bits bad i)).length=_;rw[lg,ql hb i (by omega),List.take_add_one,h1]
   unfold cN;simp only[Option.toList_some,List.map_append,List.sum_append,List.map_cons,List.map_nil,List.sum_cons,List.sum_nil];omega
def zt(gs:List Gt)(turned:List Int)(w0:List M):Nat->List M
 | 0=>w0
 | i+1=>match gs[i]? with | some g=>zt gs turned w0 i++[fun p=>gF g (zt gs turned w0 i) p !=turned.contains (i:Int)] | none=>zt gs turned w0 i
theorem w9{gs:List Gt}{turned:List Int}{w0:List M}:∀i,i<=gs.length->(zt gs turned w0 i).length=w0.length+i
 | 0,_=>rfl
 | i+1,hi=>by
   have h1:gs[i]? =some gs[i]:=List.getElem?_eq_getElem (by omega)
   unfold zt;rw[h1];show(zt gs turned w0 i++[_]).length=_;rw[List.length_append,w9 i (by omega)]
   rfl
structure mM (ins:WJ) (gs:List Gt) (os:WK):Prop where
 hi:ins.length < 100
 hw:∀x∈ins,x.2 < 100
 hg:gs.length < 1000
 g:∀(i:Nat) (x:Gt),gs[i]? =some x->sG (cN ins+i) x
 ho:os.length < 1000
 o:∀x∈os,x.2.length < 1000/\∀w∈x.2,w < cN ins+gs.length
def C_(ins:WJ)(gs:List Gt)(bits:List M)(turned bad:List Int):List M:=zt gs turned (jy ins bits bad ins.length) gs.length
theorem qI:∀{l:WJ},(∀x∈l,x.2 < 100)->cN l<=100*l.length
 | [],_=>by simp [cN]
 | x ::l,h=>by
   have ih:=qI (l:=l) fun y hy=>h y (List.mem_cons_of_mem _ hy)
   have:=h x List.mem_cons_self;unfold cN at ih ⊢;rw[List.map_cons,List.sum_cons,List.length_cons];omega
theorem Fi{ins:WJ}{gs:List Gt}{bits:List M}{turned bad:List Int}(hb:bits.length=ins.length):(C_ ins gs bits turned bad).length=cN ins+gs.length:=by unfold C_;rw [w9 _ (Nat.le_refl _),ql hb _ (Nat.le_refl _),List.take_length]
def tell(ws:List M)(x:Str × List Nat):List M:=x.2.map (j7 ws)
def Wa:List Bool->Bool × Bool
 | [a]=>(!a,a)
 | [a,b]=>(!(a || b),a && b)
 | [a,b,c]=>let v:=(a && b) || (a && c) || (b && c);(!v,v)
 | _=>(false,false)
def brk(safe:Bool)(x y:Bool × Bool):Bool:=if safe then(x.1 && y.2) || (x.2 && y.1) else(x.1 !=y.1) || (x.2 !=y.2)
theorem BK(i:Int)(ps:List Int):Pn (.int i) (.tup (ps.map .int))= .ok (.bl (ps.contains i)):=by
 show((match ints? (ps.map D.int) with | some ss=>R.ok (ss.contains i) | none=> .no)).bind (fun b=>R.ok (D.bl b))=_
 rw[L2.ints_map];rfl
theorem xE{ds:List D}{i:Nat}{v:V3}(h:((dG ds).map V3.d)[i]? =some v):∃d,ds[i]? =some d/\v= .d (.tup [.int i,d]):=by
 rw[List.getElem?_map,dG,List.getElem?_map,List.getElem?_zipIdx] at h;cases q:ds[i]? with
 | none=>rw [q] at h;cases h
 | some d=>
   rw[q] at h;simp at h;exact⟨d,rfl,h.symm⟩
theorem Fy{c:au->R Bool}{δ:au}{b:Bool}{r:R D}(h:c δ= .ok b)(h2:(if b then f δ else g δ)=r):MM c f g δ=r:=by unfold MM;rw [h,R.aO];exact h2
theorem c5(S:bu)(x y:SO):(S++[x]).set S.length y=S++[y]:=by
 rw[List.set_append_right _ _ (Nat.le_refl _),Nat.sub_self];rfl
theorem bq(S:bu)(x:SO):(S++[x])[S.length]? =some x:=by rw[List.getElem?_append_right (Nat.le_refl _),Nat.sub_self];rfl
theorem LB{N:Nat}{ws:List M}{n:Nat}(h:n < ws.length):cm (.lst (ws.map (mI N))) (nI n)= .ok (mI N (j7 ws n)):=by
 refine NT.iU ?_;rw[List.getElem?_map,List.getElem?_eq_getElem h];unfold j7;rw[List.getD_eq_getElem?_getD,List.getElem?_eq_getElem h];rfl
theorem uT{α:Type}{t:FG}{body:FZ}{S:bu}(g:α->V3)(f:α->Option V3)(E:DE->Prop):∀{xs:List α} {δ:DE},E δ->
 (∀x∈xs,∀δ,E δ->∃δ1,t (g x) δ=some δ1/\W3 (body δ1 S) fun o S1=>S1=S/\(match f x with | some v=>o= .rt v | none=>∃fU,o= .nx fU/\E fU))->
 W3 (nM t body (xs.map g) δ S) fun o S1=>S1=S/\(match xs.findSome? f with | some v=>o= .rt v | none=>∃fU,o= .nx fU/\E fU)
 | [],δ,h0,_=>W3.ok ⟨rfl,δ,rfl,h0⟩
 | x ::xs,δ,h0,hs=>by
   obtain⟨δ1,e1,o,S1,e2,rfl,h2⟩:=hs x List.mem_cons_self δ h0;rw[List.map_cons];unfold nM;rw[e1];refine W3.bind ⟨_,_,e2,?_⟩;rw[List.findSome?_cons];cases hf:f x with
   | some v=>rw [hf] at h2;subst h2;exact W3.ok ⟨rfl,rfl⟩
   | none=>
     rw[hf] at h2;obtain⟨fU,rfl,h2⟩:=h2;exact uT g f E h2 fun y hy=>hs y (List.mem_cons_of_mem _ hy)
def Ue:List Nat->Nat->WL
 | _,0=>[[]]
 | ps,s+1=>(List.range ps.length).flatMap fun a=>(Ue (ps.drop (a+1)) s).map (ps.getD a 0 ::·)
theorem xI:∀{l:List Nat} {m:Nat},(∀x∈l,x<=m)->l.sum<=l.length*m
 | [],_,_=>by simp
 | x ::l,m,h=>by
   have:=xI (l:=l) (m:=m) fun y hy=>h y (List.mem_cons_of_mem _ hy)
   have h0:=h x List.mem_cons_self;rw[List.sum_cons,List.length_cons,Nat.add_mul];omega
theorem LN{F G:FZ}{δ:DE}{S:bu}{QO:Ou->bu->Prop}(h:W3 (F δ S) fun o S1=>match o with | .nx δ1=>W3 (G δ1 S1) QO | .rt v=>QO (.rt v) S1):W3 (bH F G δ S) QO:=
 W3.bind (h.mono fun o S1 q=>by cases o with | nx δ1=>exact q | rt v=>exact W3.ok q)
end MT
end
section
set_option maxHeartbeats 1000000
namespace JT
open PySem PySem.Spec PyProof.Rows L2 L3 MT
def gB(g:Gt)(ws:List Bool):Bool:=gv g.1 (g.2.1.map fun n=>ws.getD n false)
def bV:List Gt->(Nat->Bool)->List Bool->List Bool
 | [],_,ws=>ws
 | g ::gs,T,ws=>bV gs (fun i=>T (i+1)) (ws++[gB g ws !=T 0])
theorem og(g:Gt)(gs:List Gt)(T:Nat->Bool)(ws:List Bool):bV (g ::gs) T ws=bV gs (fun i=>T (i+1)) (ws++[gB g ws !=T 0]):=rfl
theorem lu:∀(gs:List Gt) (T:Nat->Bool) (ws:List Bool),(bV gs T ws).length=ws.length+gs.length
 | [],_,_=>rfl
 | g ::gs,T,ws=>by
   unfold bV;rw[lu gs,List.length_append];simp only[List.length_cons,List.length_nil];omega
theorem vg:∀(a b:List Gt) (T:Nat->Bool) (ws:List Bool),bV (a++b) T ws=bV b (fun i=>T (a.length+i)) (bV a T ws)
 | [],b,T,ws=>by simp [bV]
 | g ::a,b,T,ws=>by
   rw[List.cons_append,og,og,vg a b];have:(fun i=>T (a.length+i+1))=fun i=>T ((g ::a).length+i):=by
    funext i;rw[List.length_cons];congr 1;omega
   rw[this]
theorem lT:∀(gs:List Gt) {T U:Nat->Bool} (ws:List Bool),(∀i,i < gs.length->T i=U i)->bV gs T ws=bV gs U ws
 | [],_,_,_,_=>rfl
 | g ::gs,T,U,ws,h=>by
   unfold bV;rw[h 0 (by simp)]
   exact lT gs _ fun i hi=>h (i+1) (by simpa using hi)
theorem l_{l r:List Bool}{n:Nat}(h:n < l.length):(l++r).getD n false=l.getD n false:=by
 rw[List.getD_eq_getElem?_getD,List.getElem?_append_left h,List.getD_eq_getElem?_getD]
theorem pq{l r:List Bool}{n:Nat}:(l++r).getD (l.length+n) false=r.getD n false:=by
 rw[List.getD_eq_getElem?_getD,List.getElem?_append_right (by omega),Nat.add_sub_cancel_left,List.getD_eq_getElem?_getD]
theorem rh:∀(gs:List Gt) (T:Nat->Bool) (ws:List Bool) {n:Nat},n < ws.length->(bV gs T ws).getD n false=ws.getD n false
 | [],_,_,_,_=>rfl
 | g ::gs,T,ws,n,h=>by
   unfold bV;rw[rh gs _ _ (by rw[List.length_append];omega),l_ h]
def jM(f:Nat->Nat)(g:Gt):Gt:=(g.1,g.2.1.map f,g.2.2)
def lD(f:Nat->Nat)(x:Str × List Nat):Str × List Nat:=(x.1,x.2.map f)
def Sh(f:Nat->Nat)(v ws:List Bool):Prop:=∀w,w < v.length->f w < ws.length/\ws.getD (f w) false=v.getD w false
theorem Kx{f:Nat->Nat}{v ws:List Bool}{g:Gt}(h:Sh f v ws)(hg:∀w∈g.2.1,w < v.length):gB (jM f g) ws=gB g v:=by
 unfold gB jM;simp only[List.map_map];congr 1;refine List.map_congr_left fun w hw=>?_
 exact(h w (hg w hw)).2
theorem xG:∀(gs:List Gt) (T:Nat->Bool) (f:Nat->Nat) (v ws:List Bool),Sh f v ws->(∀i,i < gs.length->f (v.length+i)=ws.length+i)->(∀i g,gs[i]? =some g->∀w∈g.2.1,w < v.length+i)->
 Sh f (bV gs T v) (bV (gs.map (jM f)) T ws)
 | [],_,_,_,_,h,_,_=>h
 | g ::gs,T,f,v,ws,h,hf,hg=>by
   rw[List.map_cons];unfold bV;rw[Kx h fun w hw=>by have:=hg 0 g rfl w hw;omega]
   refine xG gs _ f _ _ (fun w hw=>?_) (fun i hi=>?_) (fun i x hx w hw=>?_)
   .rw [List.length_append];by_cases q:w < v.length
    .obtain⟨h1,h2⟩:=h w q;exact⟨by omega,by rw[l_ h1,l_ q,h2]⟩
    .rw [List.length_append,List.length_cons,List.length_nil] at hw;have e:w=v.length+0:=by omega
     subst e;rw[hf 0 (by simp)]
     exact⟨by simp,by rw[pq,pq]⟩
   .rw [List.length_append,List.length_append,List.length_cons,List.length_nil];have:=hf (i+1) (by simpa using hi)
    rw[show v.length+(0+1)+i=v.length+(i+1) by omega,this]
    omega
   .have:=hg (i+1) x (by simpa using hx) w hw
    rw[List.length_append,List.length_cons,List.length_nil];omega
def jC(p:Nat)(ws:List M):List Bool:=ws.map (· p)
theorem tu{p:Nat}{ws:List M}{n:Nat}:(jC p ws).getD n false=j7 ws n p:=by
 unfold jC j7;rw[List.getD_eq_getElem?_getD,List.getElem?_map,List.getD_eq_getElem?_getD];cases ws[n]? <;> rfl
theorem NA{p:Nat}{g:Gt}{ws:List M}:gF g ws p=gB g (jC p ws):=by
 unfold gF gB;congr 1;exact List.map_congr_left fun n _=>tu.symm
theorem EM{p:Nat}{gs:List Gt}{turned:List Int}{w0:List M}:∀i,i<=gs.length->jC p (zt gs turned w0 i)=bV (gs.take i) (fun j=>turned.contains (j:Int)) (jC p w0)
 | 0,_=>by simp [zt,bV]
 | i+1,h=>by
   have h1:gs[i]? =some gs[i]:=List.getElem?_eq_getElem (by omega)
   unfold zt;rw[h1];show jC p (zt gs turned w0 i++[_])=_;rw[List.take_add_one,h1,vg,<-EM i (by omega),List.length_take,Nat.min_eq_left (by omega)]
   unfold jC;rw[List.map_append];show _++[gF gs[i] (zt gs turned w0 i) p !=turned.contains (i:Int)]=_;rw[NA];rfl
def zX:List (Str × Nat)->List Bool->List Bool
 | x ::ins,b ::bits=>List.replicate x.2 b++zX ins bits
 | _,_=>[]
theorem uc(i:Str × Nat)(b:Bool)(a:WJ)(x:List Bool):zX (i ::a) (b ::x)=List.replicate i.2 b++zX a x:=rfl
def df(k:Nat)(bad:Nat->Bool):List Bool->List Bool
 | []=>[]
 | b ::bs=>(b !=bad k) ::df (k+1) bad bs
theorem jH(bad:Nat->Bool)(k:Nat)(b:Bool)(bs:List Bool):df k bad (b ::bs)=(b !=bad k) ::df (k+1) bad bs:=rfl
theorem rj(bad:Nat->Bool):∀(k:Nat) (a b:List Bool),df k bad (a++b)=df k bad a++df (k+a.length) bad b
 | k,[],b=>by simp [df]
 | k,x ::a,b=>by
   rw[List.cons_append,jH,jH,rj bad (k+1) a b,List.length_cons,List.cons_append,show k+1+a.length=k+(a.length+1) by omega]
theorem uz{bad:Nat->Bool}:∀(k:Nat) (bs:List Bool),(∀n,n < bs.length->bad (k+n)=false)->df k bad bs=bs
 | _,[],_=>rfl
 | k,b ::bs,h=>by
   unfold df;rw[uz (k+1) bs fun n hn=>by have:=h (n+1) (by simpa using hn);rw [show k+1+n=k+(n+1) by omega];exact this]
   have:=h 0 (by simp)
   rw[Nat.add_zero] at this;rw[this];cases b <;> rfl
theorem nG{bad OR:Nat->Bool}:∀(k k':Nat) (bs:List Bool),(∀n,n < bs.length->bad (k+n)=OR (k'+n))->df k bad bs=df k' OR bs
 | _,_,[],_=>rfl
 | k,k',b ::bs,h=>by
   unfold df;have h0:=h 0 (by simp)
   rw[Nat.add_zero,Nat.add_zero] at h0;rw[h0,nG (k+1) (k'+1) bs fun n hn=>by
    have:=h (n+1) (by simpa using hn)
    rw[show k+1+n=k+(n+1) by omega,show k'+1+n=k'+(n+1) by omega];exact this]
theorem Bz:∀{a:WJ} {x:List Bool} (b:WJ) (y:List Bool),a.length=x.length->zX (a++b) (x++y)=zX a x++zX b y
 | [],[],b,y,_=>rfl
 | [],_ ::_,_,_,h=>by simp at h
 | _ ::_,[],_,_,h=>by simp at h
 | i ::a,b0 ::x,b,y,h=>by
   rw[List.cons_append,List.cons_append,uc,uc,Bz b y (by simpa using h),List.append_assoc]
theorem BQ:∀{a:WJ} {x:List Bool},a.length=x.length->(zX a x).length=cN a
 | [],[],_=>rfl
 | [],_ ::_,h=>by simp at h
 | _ ::_,[],h=>by simp at h
 | i ::a,b ::x,h=>by
   unfold zX;rw[List.length_append,List.length_replicate,BQ (by simpa using h)]
   unfold cN;rw[List.map_cons,List.sum_cons]
theorem zo{p:Nat}{bad:List Int}{b:M}:∀(n:Nat) (ws:List M),jC p (k_ bad b n ws)=jC p ws++df ws.length (fun k=>bad.contains (k:Int)) (List.replicate n (b p))
 | 0,ws=>by simp [k_,df]
 | n+1,ws=>by
   unfold k_ jC;rw[List.map_append];have ih:=zo (p:=p) (bad:=bad) (b:=b) n ws;unfold jC at ih;rw[ih,List.append_assoc,List.replicate_succ',rj,List.length_replicate,lg];rfl
theorem BY{p:Nat}{ins:WJ}{bits:List M}{bad:List Int}(hb:bits.length=ins.length):∀i,i<=ins.length->jC p (jy ins bits bad i)=df 0 (fun k=>bad.contains (k:Int)) (zX (ins.take i) ((jC p bits).take i))
 | 0,_=>by simp [jy,zX,df,jC]
 | i+1,h=>by
   have h1:ins[i]? =some ins[i]:=List.getElem?_eq_getElem (by omega)
   have h2:bits[i]? =some bits[i]:=List.getElem?_eq_getElem (by omega)
   unfold jy;rw[h1,h2];show jC p (k_ bad bits[i] ins[i].2 (jy ins bits bad i))=_;have h3:(jC p bits)[i]? =some (bits[i] p):=by unfold jC;rw [List.getElem?_map,h2];rfl
   have hl:(ins.take i).length=((jC p bits).take i).length:=by unfold jC;rw [List.length_take,List.length_take,List.length_map,hb]
   rw[zo,BY hb i (by omega),List.take_add_one,List.take_add_one,h1,h3,ql hb i (by omega)]
   show _=df 0 _ (zX (ins.take i++[ins[i]]) ((jC p bits).take i++[bits[i] p]));rw[Bz _ _ hl,rj,BQ hl,Nat.zero_add];congr 2;show _=zX [ins[i]] [bits[i] p];unfold zX;simp [zX]
def A0(ins:WJ)(gs:List Gt)(bits:List Bool)(T bad:Nat->Bool):List Bool:=bV gs T (df 0 bad (zX ins bits))
theorem Ic{p:Nat}{ins:WJ}{gs:List Gt}{bits:List M}{turned bad:List Int}(hb:bits.length=ins.length):jC p (C_ ins gs bits turned bad)=A0 ins gs (jC p bits) (fun i=>turned.contains (i:Int)) (fun i=>bad.contains (i:Int)):=by
 unfold C_ A0;rw[EM _ (Nat.le_refl _),List.take_length,BY hb _ (Nat.le_refl _),List.take_length];congr 3;unfold jC;rw[List.take_of_length_le (by rw[List.length_map];omega)]
end JT
end
section
namespace JT
open PySem PySem.Spec PyProof.Rows L2 L3 MT
def bW(ws:List Bool)(ns:List Nat):List Bool:=ns.map fun n=>ws.getD n false
def dh(f:Nat->List Bool):List (Option Nat × Nat)->List Bool->List Bool
 | [],_=>[]
 | (some o,_) ::r,l=>f o++dh f r l
 | (none,w) ::r,l=>l.take w++dh f r (l.drop w)
def c0(f1:Nat->Nat)(os:Nat->List Nat):List (Option Nat × Nat)->Nat->List Nat
 | [],_=>[]
 | (some o,_) ::r,free=>(os o).map f1++c0 f1 os r free
 | (none,w) ::r,free=>List.range' free w++c0 f1 os r (free+w)
def aS:List (Option Nat × Nat)->Nat
 | []=>0
 | (some _,_) ::r=>aS r
 | (none,w) ::r=>w+aS r
theorem tT{f1:Nat->Nat}{os:Nat->List Nat}{W V:List Bool}:∀(φ:List (Option Nat × Nat)) (free:Nat) (l:List Bool),(∀o w,(some o,w)∈φ->∀n∈os o,f1 n < W.length/\W.getD (f1 n) false=V.getD n false)->(∀j,j < l.length->free+j < W.length/\W.getD (free+j) false=l.getD j false)->aS φ<=l.length->
 (∀n∈c0 f1 os φ free,n < W.length)/\bW W (c0 f1 os φ free)=dh (fun o=>bW V (os o)) φ l
 | [],_,_,_,_,_=>⟨by simp [c0],rfl⟩
 | (some o,w) ::r,free,l,h1,h2,h3=>by
   obtain⟨i1,i2⟩:=tT r free l (fun o w h=>h1 o w (List.mem_cons_of_mem _ h)) h2 h3
   have h0:=h1 o w List.mem_cons_self;unfold c0 dh;refine⟨fun n hn=>?_,?_⟩
   .rcases List.mem_append.mp hn with z | z
    .obtain⟨m,hm,rfl⟩:=List.mem_map.mp z;exact(h0 m hm).1
    .exact i1 n z
   .unfold bW at i2 ⊢;rw[List.map_append,i2,List.map_map];congr 1;exact List.map_congr_left fun n hn=>(h0 n hn).2
 | (none,w) ::r,free,l,h1,h2,h3=>by
   unfold aS at h3;obtain⟨i1,i2⟩:=tT r (free+w) (l.drop w) (fun o w h=>h1 o w (List.mem_cons_of_mem _ h)) (fun j hj=>by
    rw[List.length_drop] at hj;have:=h2 (w+j) (by omega)
    rw[show free+w+j=free+(w+j) by omega]
    refine⟨this.1,this.2.trans ?_⟩;rw[List.getD_eq_getElem?_getD,List.getD_eq_getElem?_getD,List.getElem?_drop]) (by rw[List.length_drop];omega)
   unfold c0 dh;refine⟨fun n hn=>?_,?_⟩
   .rcases List.mem_append.mp hn with z | z
    .obtain⟨j,hj,rfl⟩:=List.mem_range'.mp z;rw[Nat.one_mul];exact(h2 j (by omega)).1
    .exact i1 n z
   .unfold bW at i2 ⊢;rw[List.map_append,i2];congr 1;refine List.ext_getElem (by rw[List.length_map,List.length_range',List.length_take];omega) fun j Pz RO=>?_
    rw[List.length_map,List.length_range'] at Pz;rw[List.getElem_map,List.getElem_range',Nat.one_mul,(h2 j (by omega)).2,List.getElem_take,List.getD_eq_getElem?_getD,List.getElem?_eq_getElem (by omega)]
    rfl
theorem lB{f1:Nat->Nat}{os:Nat->List Nat}:∀(φ:List (Option Nat × Nat)) (free:Nat),(∀o w,(some o,w)∈φ->(os o).length=w)->(c0 f1 os φ free).length=(φ.map (·.2)).sum
 | [],_,_=>rfl
 | (some o,w) ::r,free,h=>by
   unfold c0;rw[List.length_append,List.length_map,h o w List.mem_cons_self,lB r free fun o w hh=>h o w (List.mem_cons_of_mem _ hh),List.map_cons,List.sum_cons]
 | (none,w) ::r,free,h=>by
   unfold c0;rw[List.length_append,List.length_range',lB r (free+w) fun o w hh=>h o w (List.mem_cons_of_mem _ hh),List.map_cons,List.sum_cons]
def q_(n1 l w:Nat):Nat:=if w < n1 then w else w+l
def B4(L:List Nat)(top w:Nat):Nat:=if w < L.length then L.getD w 0 else top+(w - L.length)
section
variable {gs1 gs2:List Gt} {φ:List (Option Nat × Nat)} {os:Nat->List Nat} {n1:Nat} {r1 rl:List Bool} {T:Nat->Bool}
def gJ(gs1 gs2:List Gt)(φ:List (Option Nat × Nat))(os:Nat->List Nat)(n1:Nat):List Gt:=
 gs1.map (jM (q_ n1 (aS φ)))++gs2.map (jM (B4 (c0 (q_ n1 (aS φ)) os φ n1) (n1+aS φ+gs1.length)))
theorem Ar(h1:r1.length=n1)(hl:rl.length=aS φ)(Kl:∀i g,gs1[i]? =some g->∀w∈g.2.1,w < n1+i)(ho:∀o w,(some o,w)∈φ->(os o).length=w/\∀n∈os o,n < n1+gs1.length)
 (Em:∀i g,gs2[i]? =some g->∀w∈g.2.1,w < (φ.map (·.2)).sum+i) :
 let W:=bV (gJ gs1 gs2 φ os n1) T (r1++rl)
 let W1:=bV gs1 T r1
 Sh (q_ n1 (aS φ)) W1 W/\Sh (B4 (c0 (q_ n1 (aS φ)) os φ n1) (n1+aS φ+gs1.length)) (bV gs2 (fun i=>T (gs1.length+i)) (dh (fun o=>bW W1 (os o)) φ rl)) W:=by
 intro W W1;have e:W=bV (gs2.map (jM (B4 (c0 (q_ n1 (aS φ)) os φ n1) (n1+aS φ+gs1.length)))) (fun i=>T (gs1.length+i)) (bV (gs1.map (jM (q_ n1 (aS φ)))) T (r1++rl)):=by
  show bV (gs1.map _++gs2.map _) T (r1++rl)=_;rw[vg,List.length_map]
 have s1:Sh (q_ n1 (aS φ)) W1 (bV (gs1.map (jM (q_ n1 (aS φ)))) T (r1++rl)):=by
  refine xG gs1 T _ r1 (r1++rl) (fun w hw=>?_) (fun i hi=>?_) fun i g hx w hw=>by rw[h1];exact Kl i g hx w hw
  .unfold q_;rw[if_pos (by omega)]
   exact⟨by rw[List.length_append];omega,l_ hw⟩
  .unfold q_;rw[if_neg (by omega),List.length_append]
   omega
 have hW1:W1.length=n1+gs1.length:=by rw[lu,h1]
 generalize hV:bV (gs1.map (jM (q_ n1 (aS φ)))) T (r1++rl)=V at s1 e;have hVl:V.length=n1+aS φ+gs1.length:=by rw[<-hV,lu,List.length_append,List.length_map,h1,hl]
 obtain⟨a1,a2⟩:=tT (f1:=q_ n1 (aS φ)) (os:=os) (W:=V) (V:=W1) φ n1 rl (fun o w h n hn=>s1 n (by rw[hW1];exact(ho o w h).2 n hn)) (fun j hj=>by
  refine⟨by rw[hVl];omega,?_⟩
  rw[<-hV,rh _ _ _ (by rw[List.length_append];omega),<-h1,pq]) (by omega)
 have hL:=lB (f1:=q_ n1 (aS φ)) (os:=os) φ n1 fun o w h=>(ho o w h).1
 generalize c0 (q_ n1 (aS φ)) os φ n1=L at a1 a2 hL e ⊢;have hm:(dh (fun o=>bW W1 (os o)) φ rl).length=L.length:=by rw[<-a2];unfold bW;rw [List.length_map]
 have s2:Sh (B4 L (n1+aS φ+gs1.length)) (dh (fun o=>bW W1 (os o)) φ rl) V:=fun w hw=>by
  rw[hm] at hw;unfold B4;rw[if_pos hw];have e1:L.getD w 0=L[w]:=by rw[List.getD_eq_getElem?_getD,List.getElem?_eq_getElem hw];rfl
  refine⟨by rw[e1];exact a1 _ (List.getElem_mem hw),?_⟩
  rw[<-a2,e1];unfold bW;rw[List.getD_eq_getElem?_getD (l:=L.map _),List.getElem?_map,List.getElem?_eq_getElem hw];rfl
 have s3:=xG gs2 (fun i=>T (gs1.length+i)) _ _ V s2 (fun i hi=>by
  unfold B4;rw[hm,if_neg (by omega),hVl]
  omega) fun i g hx w hw=>by rw[hm,hL];exact Em i g hx w hw
 rw[<-e] at s3;refine⟨fun w hw=>?_,s3⟩
 obtain⟨q1,q2⟩:=s1 w hw;rw[e];exact⟨by rw[lu];omega,by rw[rh _ _ _ q1,q2]⟩
theorem zc{f:Nat->Nat}{v ws:List Bool}{ns:List Nat}(h:Sh f v ws)(hn:∀n∈ns,n < v.length):bW ws (ns.map f)=bW v ns:=by
 unfold bW;rw[List.map_map];exact List.map_congr_left fun n MB=>(h n (hn n MB)).2
end
def ia(bits:List Bool):List Bool:=bits.flatMap (List.replicate 3)
def P8:List Bool->Bool
 | [a,b,c]=>(a && b) || (a && c) || (b && c)
 | _=>false
def Hi:List Bool->Bool
 | [a,b,c]=>(a !=b) || (a !=c)
 | _=>false
def Sd(xs ys:List Bool):List Bool:=List.zipWith (· !=·) xs ys
def lst(xs ys:List Bool):Bool:=P8 (Sd xs ys)
def lX:List Bool->List Bool->Prop
 | [],r=>r=[]
 | b ::bs,r=>∃x y z r',r=x ::y ::z ::r'/\P8 [b !=x,b !=y,b !=z]=false/\lX bs r'
def no:Nat->Bool:=fun _=>false
structure mS (c:Nat) (gs:List Gt) (os:WK):Prop where
 a:∀bits:List Bool,bits.length=c->∀x∈os,Hi (bW (bV gs no (ia bits)) x.2)=false
 b:∀bits:List Bool,bits.length=c->∀i g,gs[i]? =some g->g.2.2=false->∀x∈os,lst (bW (bV gs no (ia bits)) x.2) (bW (bV gs (fun j=>j==i) (ia bits)) x.2)=false
 c:∀bits row:List Bool,bits.length=c->lX bits row->∀x∈os,lst (bW (bV gs no (ia bits)) x.2) (bW (bV gs no row) x.2)=false
theorem gP:∀bits:List Bool,lX bits (ia bits)
 | []=>rfl
 | b ::bs=>⟨b,b,b,ia bs,rfl,by cases b <;> rfl,gP bs⟩
theorem j4:∀{bits row:List Bool},lX bits row->row.length=3*bits.length
 | [],r,h=>by rw[show r=[] from h];rfl
 | b ::bs,r,⟨x,y,z,r',e,_,h⟩=>by rw[e];simp only[List.length_cons];rw [j4 h];omega
theorem qu:∀{a b r s:List Bool},lX a r->lX b s->lX (a++b) (r++s)
 | [],b,r,s,h,h2=>by rw[show r=[] from h];exact h2
 | x0 ::a,b,r,s,⟨x,y,z,r',e,m,h⟩,h2=>⟨x,y,z,r'++s,by rw[e];rfl,m,qu h h2⟩
theorem kj(a b:List Bool):ia (a++b)=ia a++ia b:=by unfold ia;rw [List.flatMap_append]
theorem cz(a:List Bool):(ia a).length=3*a.length:=j4 (gP a)
theorem C3{xs:List Bool}(hl:xs.length=3)(h:Hi xs=false):∃v,xs=[v,v,v]:=by
 match xs,hl with
 | [a,b,c],_=>
   unfold Hi at h;refine⟨a,?_⟩
   revert h
   cases a <;> cases b <;> cases c <;> simp
theorem yU{xs:List Bool}(hl:xs.length=3):lst xs xs=false:=by
 match xs,hl with
 | [a,b,c],_=>cases a <;> cases b <;> cases c <;> rfl
def dZ(v:Nat->Bool):List (Option Nat × Nat)->List Bool->List Bool
 | [],_=>[]
 | (some o,_) ::r,l=>v o ::dZ v r l
 | (none,_) ::r,l=>l.headD false ::dZ v r l.tail
def many:List (Option Nat × Nat)->Nat
 | []=>0
 | (some _,_) ::r=>many r
 | (none,_) ::r=>many r+1
theorem nc{v:Nat->Bool}{f:Nat->List Bool}:∀(φ:List (Option Nat × Nat)) {l r:List Bool},(∀x∈φ,x.2=3)->l.length=many φ->lX l r->(∀o w,(some o,w)∈φ->lX [v o] (f o))->lX (dZ v φ l) (dh f φ r)/\(dZ v φ l).length=φ.length
 | [],l,r,_,_,_,_=>⟨rfl,rfl⟩
 | (some o,w) ::φ,l,r,h3,hl,hn,hf=>by
   obtain⟨a,b⟩:=nc φ (fun x hx=>h3 x (List.mem_cons_of_mem _ hx)) hl hn fun o w h=>hf o w (List.mem_cons_of_mem _ h)
   unfold dZ dh;exact⟨qu (hf o w List.mem_cons_self) a,by rw[List.length_cons,b,List.length_cons]⟩
 | (none,w) ::φ,l,r,h3,hl,hn,hf=>by
   have hw:w=3:=h3 (none,w) List.mem_cons_self;subst hw;cases l with
   | nil=>unfold many at hl;simp at hl
   | cons b0 l=>
     obtain⟨x,y,z,r',rfl,m,MB⟩:=hn;unfold many at hl;obtain⟨a,b⟩:=nc (v:=v) (f:=f) φ (l:=l) (r:=r') (fun x hx=>h3 x (List.mem_cons_of_mem _ hx)) (by simpa using hl) MB fun o w h=>hf o w (List.mem_cons_of_mem _ h)
     unfold dZ dh;exact⟨⟨x,y,z,_,rfl,m,a⟩,by rw[List.length_cons,List.length_cons];exact congrArg (·+1) b⟩
theorem tF{v:Nat->Bool}{f:Nat->List Bool}:∀(φ:List (Option Nat × Nat)) {l:List Bool},(∀x∈φ,x.2=3)->l.length=many φ->(∀o w,(some o,w)∈φ->f o=[v o,v o,v o])->dh f φ (ia l)=ia (dZ v φ l)
 | [],l,_,_,_=>rfl
 | (some o,w) ::φ,l,h3,hl,hf=>by
   unfold dZ dh;rw[tF φ (fun x hx=>h3 x (List.mem_cons_of_mem _ hx)) hl fun o w h=>hf o w (List.mem_cons_of_mem _ h),hf o w List.mem_cons_self]
   rfl
 | (none,w) ::φ,l,h3,hl,hf=>by
   have hw:w=3:=h3 (none,w) List.mem_cons_self;subst hw;cases l with
   | nil=>unfold many at hl;simp at hl
   | cons b0 l=>
     unfold many at hl;unfold dZ dh;have:=tF (v:=v) (f:=f) φ (l:=l) (fun x hx=>h3 x (List.mem_cons_of_mem _ hx)) (by simpa using hl) fun o w h=>hf o w (List.mem_cons_of_mem _ h)
     show [b0,b0,b0]++dh f φ (ia l)=ia (b0 ::dZ v φ l);rw[this];rfl
end JT
end
section
namespace JT
open PySem PySem.Spec PyProof.Rows L2 L3 MT
theorem ug:∀{a b r:List Bool},lX (a++b) r->∃r1 rl,r=r1++rl/\lX a r1/\lX b rl
 | [],b,r,h=>⟨[],r,rfl,rfl,h⟩
 | x0 ::a,b,r,⟨x,y,z,r',e,m,h⟩=>by
   obtain⟨r1,rl,e2,h1,h2⟩:=ug h;exact⟨x ::y ::z ::r1,rl,by rw[e,e2];rfl,⟨x,y,z,r1,rfl,m,h1⟩,h2⟩
theorem Fm{v:Bool}{ys:List Bool}(hl:ys.length=3)(h:lst [v,v,v] ys=false):lX [v] ys:=by
 match ys,hl with
 | [a,b,c],_=>exact⟨a,b,c,[],rfl,h,rfl⟩
theorem m_:∀{φ:List (Option Nat × Nat)},(∀x∈φ,x.2=3)->aS φ=3*many φ
 | [],_=>rfl
 | (some o,w) ::φ,h=>by unfold aS many;exact m_ fun x hx=>h x (List.mem_cons_of_mem _ hx)
 | (none,w) ::φ,h=>by
   unfold aS many;rw[m_ fun x hx=>h x (List.mem_cons_of_mem _ hx),show w=3 from h (none,w) List.mem_cons_self]
   omega
theorem wk:∀{φ:List (Option Nat × Nat)},(∀x∈φ,x.2=3)->(φ.map (·.2)).sum=3*φ.length
 | [],_=>rfl
 | (o,w) ::φ,h=>by
   rw[List.map_cons,List.sum_cons,wk fun x hx=>h x (List.mem_cons_of_mem _ hx),show w=3 from h (o,w) List.mem_cons_self,List.length_cons]
   omega
structure NW (c1:Nat) (gs1 gs2:List Gt) (bx dw:WK) (φ:List (Option Nat × Nat)) (os:Nat->List Nat):Prop where
 h3:∀x∈φ,x.2=3
 g1:∀i g,gs1[i]? =some g->∀w∈g.2.1,w < 3*c1+i
 g2:∀i g,gs2[i]? =some g->∀w∈g.2.1,w < 3*φ.length+i
 o1:∀x∈bx,x.2.length=3/\∀n∈x.2,n < 3*c1+gs1.length
 o2:∀x∈dw,x.2.length=3/\∀n∈x.2,n < 3*φ.length+gs2.length
 ho:∀o w,(some o,w)∈φ->∃x∈bx,x.2=os o
section
variable {c1:Nat} {gs1 gs2:List Gt} {bx dw osJ:WK} {φ:List (Option Nat × Nat)} {os:Nat->List Nat}
abbrev MQ(c1:Nat)(φ:List (Option Nat × Nat)):Nat->Nat:=q_ (3*c1) (aS φ)
abbrev MN(c1:Nat)(gs1:List Gt)(φ:List (Option Nat × Nat))(os:Nat->List Nat):Nat->Nat:=B4 (c0 (MQ c1 φ) os φ (3*c1)) (3*c1+aS φ+gs1.length)
theorem NW.run(J:NW c1 gs1 gs2 bx dw φ os){r1 rl:List Bool}{T:Nat->Bool}(h1:r1.length=3*c1)(hl:rl.length=3*many φ) :
 (∀y∈bx,bW (bV (gJ gs1 gs2 φ os (3*c1)) T (r1++rl)) (y.2.map (MQ c1 φ))=bW (bV gs1 T r1) y.2)/\
 (∀y∈dw,bW (bV (gJ gs1 gs2 φ os (3*c1)) T (r1++rl)) (y.2.map (MN c1 gs1 φ os))=bW (bV gs2 (fun i=>T (gs1.length+i)) (dh (fun o=>bW (bV gs1 T r1) (os o)) φ rl)) y.2):=by
 have hm:∀{f:Nat->List Bool} {r:List Bool},(∀o w,(some o,w)∈φ->(f o).length=3)->r.length=3*many φ->(dh f φ r).length=3*φ.length:=by
  have h3:=J.h3;intro f
  clear hl J
  induction φ with
  | nil=>intro r _ _;rfl
  | cons x φ ih=>
    intro r hf hr;obtain⟨o,w⟩:=x;have hw:w=3:=h3 (o,w) List.mem_cons_self;subst hw;cases o with
    | none=>
      unfold many at hr;unfold dh;rw[List.length_append,ih (fun x hx=>h3 x (List.mem_cons_of_mem _ hx)) (fun o w h=>hf o w (List.mem_cons_of_mem _ h)) (by rw[List.length_drop];omega),List.length_take,List.length_cons]
      omega
    | some o=>
      unfold many at hr;unfold dh;rw[List.length_append,ih (fun x hx=>h3 x (List.mem_cons_of_mem _ hx)) (fun o w h=>hf o w (List.mem_cons_of_mem _ h)) hr,hf o 3 List.mem_cons_self,List.length_cons]
      omega
 have hlen:∀o w,(some o,w)∈φ->(os o).length=w/\∀n∈os o,n < 3*c1+gs1.length:=fun o w h=>by
  obtain⟨x,hx,e⟩:=J.ho o w h;rw[<-e,show w=3 from J.h3 _ h]
  exact J.o1 x hx
 obtain⟨s1,s2⟩:=Ar (gs1:=gs1) (gs2:=gs2) (φ:=φ) (os:=os) (n1:=3*c1) (r1:=r1) (rl:=rl) (T:=T) h1 (by rw[hl,m_ J.h3]) J.g1 hlen fun i g hx w hw=>by rw[wk J.h3];exact J.g2 i g hx w hw
 refine⟨fun y hy=>zc s1 fun n hn=>?_,fun y hy=>zc s2 fun n hn=>?_⟩
 .rw [lu,h1];exact(J.o1 y hy).2 n hn
 .rw [lu,hm (fun o w h=>by unfold bW;rw [List.length_map,(hlen o w h).1];exact J.h3 _ h) hl]
  exact(J.o2 y hy).2 n hn
def N3(c1:Nat)(gs1:List Gt)(bx dw osJ:WK)(φ:List (Option Nat × Nat))(os:Nat->List Nat):Prop:=
 ∀x∈osJ,(∃y∈bx,x.2=y.2.map (MQ c1 φ))\/∃y∈dw,x.2=y.2.map (MN c1 gs1 φ os)
theorem m7(ws:List Bool)(ns:List Nat):(bW ws ns).length=ns.length:=by unfold bW;rw [List.length_map]
theorem CY(J:NW c1 gs1 gs2 bx dw φ os)(K1:mS c1 gs1 bx)(K2:mS φ.length gs2 dw)(hO:N3 c1 gs1 bx dw osJ φ os):mS (c1+many φ) (gJ gs1 gs2 φ os (3*c1)) osJ:=by
 have split:∀bits:List Bool,bits.length=c1+many φ->∃b1 bl,bits=b1++bl/\b1.length=c1/\bl.length=many φ:=fun bits h=>⟨bits.take c1,bits.drop c1,(List.take_append_drop c1 bits).symm,by rw[List.length_take];omega,by rw[List.length_drop];omega⟩
 have os3:∀o w,(some o,w)∈φ->(os o).length=3:=fun o w h=>by
  obtain⟨x,hx,e⟩:=J.ho o w h;rw[<-e];exact(J.o1 x hx).1
 have val:∀b1:List Bool,b1.length=c1->∃v:Nat->Bool,∀o w,(some o,w)∈φ->bW (bV gs1 no (ia b1)) (os o)=[v o,v o,v o]:=fun b1 h=>by
  refine⟨fun o=>(bW (bV gs1 no (ia b1)) (os o)).headD false,fun o w ho=>?_⟩
  obtain⟨x,hx,e⟩:=J.ho o w ho;obtain⟨v,hv⟩:=C3 (xs:=bW (bV gs1 no (ia b1)) (os o)) ((m7 _ _).trans (os3 o w ho)) (by rw[<-e];exact K1.a b1 h x hx)
  show bW (bV gs1 no (ia b1)) (os o)=[(bW (bV gs1 no (ia b1)) (os o)).headD false,(bW (bV gs1 no (ia b1)) (os o)).headD false,(bW (bV gs1 no (ia b1)) (os o)).headD false];rw[hv];rfl
 have noS:(fun i=>no (gs1.length+i))=no:=rfl
 have clean:∀b1 bl:List Bool,b1.length=c1->bl.length=many φ->∀v:Nat->Bool,(∀o w,(some o,w)∈φ->bW (bV gs1 no (ia b1)) (os o)=[v o,v o,v o])->
  (∀y∈bx,bW (bV (gJ gs1 gs2 φ os (3*c1)) no (ia (b1++bl))) (y.2.map (MQ c1 φ))=bW (bV gs1 no (ia b1)) y.2)/\
  (∀y∈dw,bW (bV (gJ gs1 gs2 φ os (3*c1)) no (ia (b1++bl))) (y.2.map (MN c1 gs1 φ os))=bW (bV gs2 no (ia (dZ v φ bl))) y.2):=fun b1 bl h1 hl v hv=>by
  obtain⟨a1,a2⟩:=J.run (r1:=ia b1) (rl:=ia bl) (T:=no) (by rw[cz,h1]) (by rw[cz,hl])
  rw[kj];refine⟨a1,fun y hy=>?_⟩
  rw[a2 y hy,noS,tF φ J.h3 hl hv]
 have far:∀b1 bl r1 rl:List Bool,∀T:Nat->Bool,b1.length=c1->bl.length=many φ->r1.length=3*c1->lX bl rl->∀v:Nat->Bool,(∀o w,(some o,w)∈φ->bW (bV gs1 no (ia b1)) (os o)=[v o,v o,v o])->
  (∀y∈bx,lst (bW (bV gs1 no (ia b1)) y.2) (bW (bV gs1 T r1) y.2)=false)->lX (dZ v φ bl) (dh (fun o=>bW (bV gs1 T r1) (os o)) φ rl)/\(dZ v φ bl).length=φ.length:=fun b1 bl r1 rl T h1 hl hr hn v hv hk=>by
  refine nc φ J.h3 hl hn fun o w ho=>?_
  obtain⟨x,hx,e⟩:=J.ho o w ho;have:=hk x hx;rw[e,hv o w ho] at this;exact Fm (by rw[m7,os3 o w ho]) this
 refine⟨fun bits hb x hx=>?_,fun bits hb i g hg hs x hx=>?_,fun bits row hb hn x hx=>?_⟩
 .obtain⟨b1,bl,rfl,h1,hl⟩:=split bits hb;obtain⟨v,hv⟩:=val b1 h1;obtain⟨q1,q2⟩:=clean b1 bl h1 hl v hv;have hbl:(dZ v φ bl).length=φ.length:=(nc (f:=fun o=>[v o,v o,v o]) φ J.h3 hl (gP bl) fun o w _=>gP [v o]).2
  rcases hO x hx with⟨y,hy,e⟩ | ⟨y,hy,e⟩
  .rw [e,q1 y hy];exact K1.a b1 h1 y hy
  .rw [e,q2 y hy];exact K2.a _ hbl y hy
 .obtain⟨b1,bl,rfl,h1,hl⟩:=split bits hb;obtain⟨v,hv⟩:=val b1 h1;obtain⟨q1,q2⟩:=clean b1 bl h1 hl v hv;have hbl:(dZ v φ bl).length=φ.length:=(nc (f:=fun o=>[v o,v o,v o]) φ J.h3 hl (gP bl) fun o w _=>gP [v o]).2
  obtain⟨a1,a2⟩:=J.run (r1:=ia b1) (rl:=ia bl) (T:=fun j=>j==i) (by rw[cz,h1]) (by rw[cz,hl])
  rw[<-kj] at a1 a2;unfold gJ at hg;by_cases hi:i < gs1.length
  .rw [List.getElem?_append_left (by rw[List.length_map];exact hi),List.getElem?_map] at hg
   cases Kl:gs1[i]? with
   | none=>rw [Kl] at hg;cases hg
   | some g1=>
     rw[Kl] at hg;cases hg;have k1:=K1.b b1 h1 i g1 Kl hs;rcases hO x hx with⟨y,hy,e⟩ | ⟨y,hy,e⟩
     .rw [e,q1 y hy,a1 y hy];exact k1 y hy
     .rw [e,q2 y hy,a2 y hy];have eT:bV gs2 (fun j=>gs1.length+j==i)=bV gs2 no:=by
       funext ws;exact lT gs2 ws fun j _=>by show(gs1.length+j==i)=false;exact beq_eq_false_iff_ne.mpr (by omega)
      rw[eT];obtain⟨n1,n2⟩:=far b1 bl (ia b1) (ia bl) (fun j=>j==i) h1 hl (by rw[cz,h1]) (gP bl) v hv k1
      exact K2.c _ _ n2 n1 y hy
  .rw [List.getElem?_append_right (by rw[List.length_map];omega),List.length_map,List.getElem?_map] at hg
   cases Em:gs2[i - gs1.length]? with
   | none=>rw [Em] at hg;cases hg
   | some g2=>
     rw[Em] at hg;cases hg;have eT1:bV gs1 (fun j=>j==i) (ia b1)=bV gs1 no (ia b1):=lT gs1 _ fun j hj=>by show(j==i)=false;exact beq_eq_false_iff_ne.mpr (by omega)
     rcases hO x hx with⟨y,hy,e⟩ | ⟨y,hy,e⟩
     .rw [e,q1 y hy,a1 y hy,eT1];exact yU (by rw[m7,(J.o1 y hy).1])
     .rw [e,q2 y hy,a2 y hy,eT1,tF φ J.h3 hl hv];have eT:bV gs2 (fun j=>gs1.length+j==i)=bV gs2 fun j=>j==i - gs1.length:=by
       funext ws;exact lT gs2 ws fun j _=>by
        show(gs1.length+j==i)=(j==i - gs1.length);by_cases z:j=i - gs1.length
        .rw [beq_iff_eq.mpr z,beq_iff_eq.mpr (by omega)]
        .rw [beq_eq_false_iff_ne.mpr z,beq_eq_false_iff_ne.mpr (by omega)]
      rw[eT];exact K2.b _ hbl _ g2 Em hs y hy
 .obtain⟨b1,bl,rfl,h1,hl⟩:=split bits hb;obtain⟨v,hv⟩:=val b1 h1;obtain⟨q1,q2⟩:=clean b1 bl h1 hl v hv;obtain⟨r1,rl,rfl,n1,nl⟩:=ug hn;obtain⟨a1,a2⟩:=J.run (r1:=r1) (rl:=rl) (T:=no) (by rw[j4 n1,h1]) (by rw[j4 nl,hl])
  have k1:=K1.c b1 r1 h1 n1;rcases hO x hx with⟨y,hy,e⟩ | ⟨y,hy,e⟩
  .rw [e,q1 y hy,a1 y hy];exact k1 y hy
  .rw [e,q2 y hy,a2 y hy,noS];obtain⟨m1,m2⟩:=far b1 bl r1 rl no h1 hl (by rw[j4 n1,h1]) nl v hv k1
   exact K2.c _ _ m2 m1 y hy
theorem t4{f:Nat->List Bool}:∀(φ:List (Option Nat × Nat)) {r:List Bool},(∀x∈φ,x=(none,3))->r.length=3*φ.length->dh f φ r=r/\many φ=φ.length
 | [],r,_,h=>by
   have:r=[]:=List.length_eq_zero_iff.mp (by simpa using h)
   subst this;exact⟨rfl,rfl⟩
 | x ::φ,r,h,hr=>by
   have e:x=(none,3):=h x List.mem_cons_self;subst e;rw[List.length_cons] at hr;obtain⟨a,b⟩:=t4 (f:=f) φ (r:=r.drop 3) (fun x hx=>h x (List.mem_cons_of_mem _ hx)) (by rw[List.length_drop];omega)
   unfold dh many;rw[a,b];exact⟨List.take_append_drop 3 r,rfl⟩
theorem zx(J:NW c1 gs1 gs2 bx dw φ os)(Tq:∀x∈φ,x=(none,3))(Rf:∀y∈bx,∃x∈osJ,x.2=y.2.map (MQ c1 φ))(Ro:∀y∈dw,∃x∈osJ,x.2=y.2.map (MN c1 gs1 φ os))(K:mS (c1+φ.length) (gJ gs1 gs2 φ os (3*c1)) osJ) :
 mS c1 gs1 bx/\mS φ.length gs2 dw:=by
 have hmany:many φ=φ.length:=(t4 (f:=fun _=>[]) φ (r:=List.replicate (3*φ.length) false) Tq (by simp)).2
 have run:∀{r1 rl:List Bool} {T:Nat->Bool},r1.length=3*c1->rl.length=3*φ.length->
  (∀y∈bx,bW (bV (gJ gs1 gs2 φ os (3*c1)) T (r1++rl)) (y.2.map (MQ c1 φ))=bW (bV gs1 T r1) y.2)/\
  (∀y∈dw,bW (bV (gJ gs1 gs2 φ os (3*c1)) T (r1++rl)) (y.2.map (MN c1 gs1 φ os))=bW (bV gs2 (fun i=>T (gs1.length+i)) rl) y.2):=fun {r1 rl T} h1 hl=>by
  obtain⟨a1,a2⟩:=J.run (r1:=r1) (rl:=rl) (T:=T) h1 (by rw[hmany];exact hl)
  refine⟨a1,fun y hy=>?_⟩
  rw[a2 y hy,(t4 φ Tq hl).1]
 have noS:(fun i=>no (gs1.length+i))=no:=rfl
 let z1:List Bool:=List.replicate c1 false
 let z2:List Bool:=List.replicate φ.length false
 have hz1:z1.length=c1:=List.length_replicate;have hz2:z2.length=φ.length:=List.length_replicate;constructor
 .refine⟨fun bits hb y hy=>?_,fun bits hb i g hg hs y hy=>?_,fun bits row hb hn y hy=>?_⟩
  .obtain⟨x,hx,e⟩:=Rf y hy;have:=K.a (bits++z2) (by rw[List.length_append,hb,hz2]) x hx
   rwa [kj,e,(run (by rw[cz,hb]) (by rw[cz,hz2])).1 y hy] at this
  .obtain⟨x,hx,e⟩:=Rf y hy;have hi:i < gs1.length:=(List.getElem?_eq_some_iff.mp hg).1;have:=K.b (bits++z2) (by rw[List.length_append,hb,hz2]) i (jM (q_ (3*c1) (aS φ)) g) (by unfold gJ;rw [List.getElem?_append_left (by rw[List.length_map];exact hi),List.getElem?_map,hg];rfl) hs x hx
   rwa [kj,e,(run (by rw[cz,hb]) (by rw[cz,hz2])).1 y hy,(run (by rw[cz,hb]) (by rw[cz,hz2])).1 y hy] at this
  .obtain⟨x,hx,e⟩:=Rf y hy;have:=K.c (bits++z2) (row++ia z2) (by rw[List.length_append,hb,hz2]) (qu hn (gP z2)) x hx
   rwa [kj,e,(run (by rw[cz,hb]) (by rw[cz,hz2])).1 y hy,(run (by rw[j4 hn,hb]) (by rw[cz,hz2])).1 y hy] at this
 .refine⟨fun bits hb y hy=>?_,fun bits hb i g hg hs y hy=>?_,fun bits row hb hn y hy=>?_⟩
  .obtain⟨x,hx,e⟩:=Ro y hy;have:=K.a (z1++bits) (by rw[List.length_append,hb,hz1]) x hx
   rwa [kj,e,(run (by rw[cz,hz1]) (by rw[cz,hb])).2 y hy,noS] at this
  .obtain⟨x,hx,e⟩:=Ro y hy;have:=K.b (z1++bits) (by rw[List.length_append,hb,hz1]) (gs1.length+i) (jM (MN c1 gs1 φ os) g) (by unfold gJ;rw [List.getElem?_append_right (by rw[List.length_map];omega),List.length_map,Nat.add_sub_cancel_left,List.getElem?_map,hg];rfl) hs x hx
   rw[kj,e,(run (by rw[cz,hz1]) (by rw[cz,hb])).2 y hy,(run (by rw[cz,hz1]) (by rw[cz,hb])).2 y hy,noS] at this
   have eT:(fun j=>gs1.length+j==gs1.length+i)=fun j=>j==i:=by
    funext j;by_cases z:j=i
    .rw [beq_iff_eq.mpr z,beq_iff_eq.mpr (by omega)]
    .rw [beq_eq_false_iff_ne.mpr z,beq_eq_false_iff_ne.mpr (by omega)]
   rwa [eT] at this
  .obtain⟨x,hx,e⟩:=Ro y hy;have:=K.c (z1++bits) (ia z1++row) (by rw[List.length_append,hb,hz1]) (qu (gP z1) hn) x hx
   rwa [kj,e,(run (by rw[cz,hz1]) (by rw[cz,hb])).2 y hy,noS,(run (by rw[cz,hz1]) (by rw[j4 hn,hb])).2 y hy,noS] at this
end
end JT
end
section
namespace JT
open PySem PySem.Spec PyProof.Rows L2 L3 MT
def cC:Nat->List (List Bool)
 | 0=>[[]]
 | c+1=>(cC c).flatMap fun b=>[b++[false],b++[true]]
theorem cB:∀c,(cC c).length=2 ^ c
 | 0=>rfl
 | c+1=>by
   unfold cC;rw[List.length_flatMap];have:(cC c).map (fun b=>[b++[false],b++[true]].length)=(cC c).map fun _=>2:=rfl
   rw[this,List.map_const',List.sum_replicate_nat,cB c];omega
theorem ie:∀c,∀b∈cC c,b.length=c
 | 0,b,h=>by unfold cC at h;rw [List.mem_singleton.mp h];rfl
 | c+1,b,h=>by
   unfold cC at h;obtain⟨a,ha,hb⟩:=List.mem_flatMap.mp h;have:=ie c a ha;simp only[List.mem_cons,List.not_mem_nil,or_false] at hb;rcases hb with rfl | rfl <;> simp [this]
theorem vW:∀c (b:List Bool),b.length=c->b∈cC c
 | 0,b,h=>by rw[List.length_eq_zero_iff.mp h];unfold cC;simp
 | c+1,b,h=>by
   have vV:b≠[]:=fun e=>by rw[e] at h;cases h
   unfold cC;refine List.mem_flatMap.mpr ⟨b.dropLast,vW c _ (by rw[List.length_dropLast];omega),?_⟩
   have e:=List.dropLast_concat_getLast vV;cases q:b.getLast vV with
   | false=>rw [q] at e;rw [e];simp
   | true=>rw [q] at e;rw [e];simp
def MR(c j:Nat):M:=fun p=>((cC c).getD p []).getD j false
def qN(c:Nat):List M:=(List.range c).map (MR c)
theorem m8{c:Nat}:(qN c).length=c:=by unfold qN;simp
def lh(c p:Nat):List Bool:=(cC c).getD p []
theorem jB{c p:Nat}(h:p < 2 ^ c):(lh c p).length=c:=by
 unfold lh;rw[List.getD_eq_getElem?_getD,List.getElem?_eq_getElem (by rw[cB];exact h)]
 exact ie c _ (List.getElem_mem _)
theorem FH{c p:Nat}(h:p < 2 ^ c):jC p (qN c)=lh c p:=by
 unfold jC qN;rw[List.map_map];refine List.ext_getElem (by rw[List.length_map,List.length_range,jB h]) fun j h1 h2=>?_
 rw[List.getElem_map,List.getElem_range];show(lh c p).getD j false=_;rw[List.getD_eq_getElem?_getD,List.getElem?_eq_getElem h2];rfl
theorem qT{c:Nat}{b:List Bool}(h:b.length=c):∃p,p < 2 ^ c/\lh c p=b:=by
 obtain⟨p,hp,e⟩:=List.getElem_of_mem (vW c b h);refine⟨p,by rw[<-cB];exact hp,?_⟩
 unfold lh;rw[List.getD_eq_getElem?_getD,List.getElem?_eq_getElem hp,e];rfl
def qA(f e:Nat):Nat->WL
 | 0=>[[]]
 | m+1=>(List.range' f (e - f)).flatMap fun w=>(qA ((w / 3+1)*3) e m).map (w ::·)
def DB(f e:Nat):List Nat->Prop
 | []=>True
 | w ::B=>f<=w/\w < e/\DB ((w / 3+1)*3) e B
theorem p9{e:Nat}:∀{m f:Nat} {B:List Nat},B∈qA f e m↔B.length=m/\DB f e B
 | 0,f,B=>by
   unfold qA;rw[List.mem_singleton];constructor
   .rintro rfl;exact⟨rfl,trivial⟩
   .rintro⟨h,_⟩;exact List.length_eq_zero_iff.mp h
 | m+1,f,B=>by
   unfold qA;rw[List.mem_flatMap];constructor
   .rintro⟨w,hw,h⟩;obtain⟨B',hB,rfl⟩:=List.mem_map.mp h;obtain⟨h1,h2⟩:=p9.mp hB;obtain⟨i,hi,rfl⟩:=List.mem_range'.mp hw;exact⟨by rw[List.length_cons,h1],by omega,by omega,h2⟩
   .rintro⟨h,hk⟩;cases B with
    | nil=>simp at h
    | cons w B=>
      obtain⟨h1,h2,h3⟩:=hk;exact⟨w,List.mem_range'.mpr ⟨w - f,by omega,by omega⟩,List.mem_map.mpr ⟨B,p9.mpr ⟨by simpa using h,h3⟩,rfl⟩⟩
theorem DB.mono{e f f':Nat}(h:f<=f'):∀{B:List Nat},DB f' e B->DB f e B
 | [],_=>trivial
 | w ::B,⟨h1,h2,h3⟩=>⟨by omega,h2,h3⟩
theorem DB.ge{e:Nat}:∀{B:List Nat} {f:Nat},DB f e B->∀w∈B,f<=w/\w < e
 | [],_,_,w,h=>by cases h
 | v ::B,f,⟨h1,h2,h3⟩,w,h=>by
   rcases List.mem_cons.mp h with rfl | h
   .exact⟨h1,h2⟩
   .have:=DB.ge h3 w h;omega
theorem jx{B:List Nat}{n:Nat}(h:∀w∈B,w≠n):B.contains n=false:=by
 cases q:B.contains n with
 | false=>rfl
 | true=>exact absurd rfl (h n (by simpa using q))
theorem gp{B:List Nat}{w n:Nat}:(w ::B).contains n=(decide (w=n) || B.contains n):=by
 rw[List.contains_cons];congr 1;by_cases h:w=n
 .rw [decide_eq_true h,beq_iff_eq.mpr h.symm]
 .rw [decide_eq_false h,beq_eq_false_iff_ne.mpr fun z=>h z.symm]
theorem Qt{k:Nat}{b:Bool}{bad:Nat->Bool}{bs:List Bool}:df (3*k) bad (ia (b ::bs))=(b !=bad (3*k)) ::(b !=bad (3*k+1)) ::(b !=bad (3*k+2)) ::df (3*(k+1)) bad (ia bs):=by
 show df (3*k) bad (b ::b ::b ::ia bs)=_;rw[jH,jH,jH,show 3*k+1+1+1=3*(k+1) by omega]
theorem zp:∀{bits row:List Bool} (k:Nat),lX bits row->∃B:List Nat,B.length<=bits.length/\DB (3*k) (3*(k+bits.length)) B/\df (3*k) (fun n=>B.contains n) (ia bits)=row
 | [],row,k,h=>⟨[],Nat.le_refl _,trivial,by rw[show row=[] from h];rfl⟩
 | b ::bs,row,k,⟨x,y,z,r',e,m,h⟩=>by
   obtain⟨B,h1,h2,h3⟩:=zp (k+1) h;have he:3*(k+1+bs.length)=3*(k+(b ::bs).length):=by rw[List.length_cons];omega
   rw[he] at h2;have ge:=h2.ge;have n0:B.contains (3*k)=false:=jx fun w hw z=>by have:=ge w hw;omega
   have n1:B.contains (3*k+1)=false:=jx fun w hw z=>by have:=ge w hw;omega
   have n2:B.contains (3*k+2)=false:=jx fun w hw z=>by have:=ge w hw;omega
   have put:∀j,j < 3->DB (3*k) (3*(k+(b ::bs).length)) ((3*k+j) ::B)/\df (3*(k+1)) (fun n=>((3*k+j) ::B).contains n) (ia bs)=r':=fun j hj=>by
    refine⟨⟨by omega,by rw[List.length_cons];omega,?_⟩,?_⟩
    .rw [show(3*k+j) / 3+1=k+1 by omega,Nat.mul_comm];exact h2
    .rw [<-h3];refine nG _ _ _ fun n _=>?_
     show((3*k+j) ::B).contains (3*(k+1)+n)=B.contains (3*(k+1)+n);rw[gp,decide_eq_false (by omega),Bool.false_or]
   have fin:∀j,j < 3->[b !=decide (j=0),b !=decide (j=1),b !=decide (j=2)]=[x,y,z]->∃B:List Nat,B.length<=(b ::bs).length/\DB (3*k) (3*(k+(b ::bs).length)) B/\df (3*k) (fun n=>B.contains n) (ia (b ::bs))=row:=fun j hj RA=>by
    obtain⟨p1,p2⟩:=put j hj;refine⟨(3*k+j) ::B,by simp only[List.length_cons];omega,p1,?_⟩
    rw[Qt,p2,e];show(b !=((3*k+j) ::B).contains (3*k)) ::(b !=((3*k+j) ::B).contains (3*k+1)) ::(b !=((3*k+j) ::B).contains (3*k+2)) ::r'=_;rw[gp,gp,gp,n0,n1,n2,Bool.or_false,Bool.or_false,Bool.or_false];have d0:decide (3*k+j=3*k)=decide (j=0):=by congr 1;exact propext ⟨fun _=>by omega,fun _=>by omega⟩
    have d1:decide (3*k+j=3*k+1)=decide (j=1):=by congr 1;exact propext ⟨fun _=>by omega,fun _=>by omega⟩
    have d2:decide (3*k+j=3*k+2)=decide (j=2):=by congr 1;exact propext ⟨fun _=>by omega,fun _=>by omega⟩
    rw[d0,d1,d2];injection RA with q0 q
    injection q with q1 q
    injection q with q2 q
    rw[q0,q1,q2]
   by_cases hn:x=b/\y=b/\z=b
   .obtain⟨rfl,rfl,rfl⟩:=hn;refine⟨B,by rw[List.length_cons];omega,h2.mono (by omega),?_⟩
    rw[Qt,h3,e];show(z !=B.contains (3*k)) ::(z !=B.contains (3*k+1)) ::(z !=B.contains (3*k+2)) ::r'=_;rw[n0,n1,n2];cases z <;> rfl
   .have:∃j,j < 3/\[b !=decide (j=0),b !=decide (j=1),b !=decide (j=2)]=[x,y,z]:=by
     clear fin put n0 n1 n2 ge h3 h2 he h1 h e
     revert m hn
     cases b <;> cases x <;> cases y <;> cases z <;> intro m hn <;> first | (exact absurd ⟨rfl,rfl,rfl⟩ hn) | (exact⟨0,by decide,rfl⟩) | (exact⟨1,by decide,rfl⟩) | (exact⟨2,by decide,rfl⟩) | (exact absurd m (by decide))
    obtain⟨j,hj,hx⟩:=this;exact fin j hj hx
theorem uE:∀{bits:List Bool} {B:List Nat} (k:Nat),DB (3*k) (3*(k+bits.length)) B->lX bits (df (3*k) (fun n=>B.contains n) (ia bits))
 | [],B,k,h=>rfl
 | b ::bs,B,k,h=>by
   have he:3*(k+(b ::bs).length)=3*(k+1+bs.length):=by rw[List.length_cons];omega
   rw[he] at h;rw[Qt];have far:DB (3*(k+1)) (3*(k+1+bs.length)) B->lX (b ::bs) ((b !=B.contains (3*k)) ::(b !=B.contains (3*k+1)) ::(b !=B.contains (3*k+2)) ::df (3*(k+1)) (fun n=>B.contains n) (ia bs)):=fun h=>by
    have ge:=h.ge;have n0:B.contains (3*k)=false:=jx fun w hw z=>by have:=ge w hw;omega
    have n1:B.contains (3*k+1)=false:=jx fun w hw z=>by have:=ge w hw;omega
    have n2:B.contains (3*k+2)=false:=jx fun w hw z=>by have:=ge w hw;omega
    refine⟨_,_,_,_,rfl,?_,uE (k+1) h⟩;rw[n0,n1,n2];cases b <;> rfl
   cases B with
   | nil=>exact far trivial
   | cons w B=>
     by_cases hw:3*(k+1)<=w
     .exact far ⟨hw,h.2.1,h.2.2⟩
     .obtain⟨w1,w2,w3⟩:=h;have e1:(w / 3+1)*3=3*(k+1):=by omega
      rw[e1] at w3;have ge:=w3.ge;have n0:B.contains (3*k)=false:=jx fun w hw z=>by have:=ge w hw;omega
      have n1:B.contains (3*k+1)=false:=jx fun w hw z=>by have:=ge w hw;omega
      have n2:B.contains (3*k+2)=false:=jx fun w hw z=>by have:=ge w hw;omega
      have et:df (3*(k+1)) (fun n=>(w ::B).contains n) (ia bs)=df (3*(k+1)) (fun n=>B.contains n) (ia bs):=nG _ _ _ fun n _=>by
       show(w ::B).contains (3*(k+1)+n)=B.contains (3*(k+1)+n);rw[gp,decide_eq_false (by omega),Bool.false_or]
      refine⟨_,_,_,_,rfl,?_,?_⟩
      .rw [gp,gp,gp,n0,n1,n2,Bool.or_false,Bool.or_false,Bool.or_false];have:w=3*k\/w=3*k+1\/w=3*k+2:=by omega
       rcases this with rfl | rfl | rfl
       .rw [decide_eq_true rfl,decide_eq_false (by omega),decide_eq_false (by omega)];cases b <;> rfl
       .rw [decide_eq_false (by omega),decide_eq_true rfl,decide_eq_false (by omega)];cases b <;> rfl
       .rw [decide_eq_false (by omega),decide_eq_false (by omega),decide_eq_true rfl];cases b <;> rfl
      .rw [et];exact uE (k+1) w3
def pP(c:Nat)(gs:List Gt):List (List Nat × List Nat):=
 (gs.zipIdx.filter (fun x=>!x.1.2.2)).map (fun x=>(([]:List Nat),[x.2]))++(List.range' 1 c).flatMap fun m=>(qA 0 (3*c) m).map fun B=>(B,([]:List Nat))
def xt(c:Nat)(gs:List Gt)(p:Nat):List Bool:=bV gs no (ia (lh c p))
def nH(c:Nat)(gs:List Gt)(f:List Nat × List Nat)(p:Nat):List Bool:=bV gs (fun i=>f.2.contains i) (df 0 (fun n=>f.1.contains n) (ia (lh c p)))
def xq(c:Nat)(gs:List Gt)(os:WK)(p:Nat):Bool:=os.any fun x=>Hi (bW (xt c gs p) x.2)
def pO(c:Nat)(gs:List Gt)(os:WK)(f:List Nat × List Nat)(p:Nat):Bool:=os.any fun x=>lst (bW (xt c gs p) x.2) (bW (nH c gs f p) x.2)
def gf(c:Nat)(gs:List Gt)(os:WK):Option (List Nat × List Nat × Nat):=
 match (List.range (2 ^ c)).find? (xq c gs os) with
 | some p=>some ([],[],p)
 | none=>(pP c gs).findSome? fun f=>((List.range (2 ^ c)).find? (pO c gs os f)).map fun p=>(f.1,f.2,p)
theorem find_none{c:Nat}{f:Nat->Bool}:(List.range (2 ^ c)).find? f=none↔∀p,p < 2 ^ c->f p=false:=by
 rw[List.find?_eq_none];constructor
 .intro h p hp;exact Bool.eq_false_iff.mpr (h p (List.mem_range.mpr hp))
 .intro h p hp;rw[h p (List.mem_range.mp hp)];exact Bool.false_ne_true
theorem uV{α:Type}{l:List α}{f:α->Bool}:l.any f=false↔∀x∈l,f x=false:=by
 rw[List.any_eq_false];exact⟨fun h x hx=>Bool.eq_false_iff.mpr (h x hx),fun h x hx=>by rw[h x hx];exact Bool.false_ne_true⟩
theorem xm{c:Nat}{gs:List Gt}{os:WK}:gf c gs os=none↔mS c gs os:=by
 have noT:∀{B:List Nat} {ws:List Bool},df 0 (fun n=>([]:List Nat).contains n) ws=ws:=fun {B ws}=>uz _ _ fun _ _=>rfl
 have none1:gf c gs os=none↔(∀p,p < 2 ^ c->xq c gs os p=false)/\∀f∈pP c gs,∀p,p < 2 ^ c->pO c gs os f p=false:=by
  unfold gf;constructor
  .intro h;split at h
   .cases h
   .rename_i e;refine⟨find_none.mp e,fun f hf=>?_⟩
    have:=List.findSome?_eq_none_iff.mp h f hf;exact find_none.mp (Option.map_eq_none_iff.mp this)
  .rintro⟨h1,h2⟩;rw[find_none.mpr h1];exact List.findSome?_eq_none_iff.mpr fun f hf=>Option.map_eq_none_iff.mpr (find_none.mpr (h2 f hf))
 rw[none1];constructor
 .rintro⟨h1,h2⟩;refine⟨fun bits hb x hx=>?_,fun bits hb i g hg hs x hx=>?_,fun bits row hb hn x hx=>?_⟩
  .obtain⟨p,hp,rfl⟩:=qT hb;exact uV.mp (h1 p hp) x hx
  .obtain⟨p,hp,rfl⟩:=qT hb;have hm:(([]:List Nat),[i])∈pP c gs:=by
    unfold pP;refine List.mem_append_left _ (List.mem_map.mpr ⟨(g,i),List.mem_filter.mpr ⟨List.mem_zipIdx_iff_getElem?.mpr hg,by rw[hs];rfl⟩,rfl⟩)
   have:=uV.mp (h2 _ hm p hp) x hx;unfold nH at this;rw[noT (B:=[])] at this;have eT:(fun j=>[i].contains j)=fun j=>j==i:=by
    funext j;rw[List.contains_cons,List.contains_nil,Bool.or_false]
   rw[eT] at this;exact this
  .obtain⟨p,hp,rfl⟩:=qT hb;obtain⟨B,b1,b2,b3⟩:=zp 0 hn;rw[hb] at b1;rw[Nat.mul_zero,Nat.zero_add,hb] at b2;rw[Nat.mul_zero] at b3;cases B with
   | nil=>
     rw[noT (B:=[])] at b3;rw[<-b3];by_cases hx3:x.2.length=3
     .exact yU (by rw[m7,hx3])
     .unfold lst Sd;have:(List.zipWith (fun a b=>a !=b) (bW (bV gs no (ia (lh c p))) x.2) (bW (bV gs no (ia (lh c p))) x.2)).length≠3:=by rw[List.length_zipWith,m7,Nat.min_self];exact hx3
      generalize List.zipWith (fun a b=>a !=b) (bW (bV gs no (ia (lh c p))) x.2) (bW (bV gs no (ia (lh c p))) x.2)=l at this
      unfold P8;split
      .exact absurd rfl this
      .rfl
   | cons w B=>
     have hm:((w ::B,[]):List Nat × List Nat)∈pP c gs:=by
      unfold pP;refine List.mem_append_right _ (List.mem_flatMap.mpr ⟨(w ::B).length,List.mem_range'.mpr ⟨B.length,by rw[List.length_cons] at b1;omega,by rw[List.length_cons];omega⟩,List.mem_map.mpr ⟨w ::B,p9.mpr ⟨rfl,b2⟩,rfl⟩⟩)
     have:=uV.mp (h2 _ hm p hp) x hx;unfold nH at this;rw[<-b3];exact this
 .intro K;refine⟨fun p hp=>uV.mpr fun x hx=>K.a _ (jB hp) x hx,fun f hf p hp=>uV.mpr fun x hx=>?_⟩
  unfold pP at hf;rcases List.mem_append.mp hf with z | z
  .obtain⟨⟨g,i⟩,hg,rfl⟩:=List.mem_map.mp z;obtain⟨Kl,Em⟩:=List.mem_filter.mp hg;have:=K.b _ (jB hp) i g (List.mem_zipIdx_iff_getElem?.mp Kl) (by simpa using Em) x hx
   unfold nH;rw[noT (B:=[])];have eT:(fun j=>[i].contains j)=fun j=>j==i:=by
    funext j;rw[List.contains_cons,List.contains_nil,Bool.or_false]
   show lst _ (bW (bV gs (fun j=>[i].contains j) _) x.2)=false
   rw[eT];exact this
  .obtain⟨m,hm,z⟩:=List.mem_flatMap.mp z;obtain⟨B,hB,rfl⟩:=List.mem_map.mp z;obtain⟨q1,q2⟩:=p9.mp hB;have hn:=uE (bits:=lh c p) (B:=B) 0 (by rw[Nat.mul_zero,Nat.zero_add,jB hp];exact q2)
   rw[Nat.mul_zero] at hn;exact K.c _ _ (jB hp) hn x hx
end JT
end
section
namespace JT
open PySem PySem.Spec PyProof.Rows L2 L3 MT
theorem ll{a b:Nat}(h:0 < b):je (nI a) (nI b)= .ok (nI (a % b)):=by
 show je (.int a) (.int b)=_;rw[uS (by omega)];rfl
theorem BZ{a b:Nat}(h:0 < b)(h2:b < 1073741824):lK (nI a) (nI b)= .ok (nI (a / b)):=by
 show lK (.int a) (.int b)=_;rw[xN (by omega) (by omega)];rfl
theorem kq(a b:Nat):cx (nI a) (nI b)= .ok (nI (a+b)):=rfl
theorem F7{a b:Nat}(h:b<=a):Am (nI a) (nI b)= .ok (nI (a - b)):=by
 show R.ok (D.int ((a:Int) - b))=R.ok (D.int ((a - b:Nat):Int));rw[Int.ofNat_sub h]
theorem OE{a b:Nat}(h:b < 1000000\/a < 1000000):gI (nI a) (nI b)= .ok (nI (a*b)):=by
 show R.bz (decide _) (R.ok (D.int ((a:Int)*b)))=_;have hc:(-(2 ^ 64) < (a:Int)/\(a:Int) < 2 ^ 64)\/(-(2 ^ 64) < (b:Int)/\(b:Int) < 2 ^ 64):=by
  rcases h with h | h
  .exact .inr ⟨by omega,by omega⟩
  .exact .inl ⟨by omega,by omega⟩
 rw[bN _ hc];rfl
theorem JI(a b:Nat):qB (nI a) (nI b)= .ok (.bl (decide (a=b))):=by
 show R.ok (D.bl ((a:Int)==(b:Int)))=_;congr 2;by_cases h:a=b
 .rw [decide_eq_true h];exact beq_iff_eq.mpr (by omega)
 .rw [decide_eq_false h];exact beq_eq_false_iff_ne.mpr (by omega)
theorem LJ(a b:Nat):Eg (nI a) (nI b)= .ok (.bl (decide (b < a))):=by
 show R.ok (D.bl (decide ((a:Int) > (b:Int))))=_;congr 2;by_cases h:b < a
 .rw [decide_eq_true h,decide_eq_true (by omega)]
 .rw [decide_eq_false h,decide_eq_false (by omega)]
theorem NG(a b:Nat):P6 (nI a) (nI b)= .ok (.bl (decide (a < b))):=by
 show R.ok (D.bl (decide ((a:Int) < (b:Int))))=_;congr 2;by_cases h:a < b
 .rw [decide_eq_true h,decide_eq_true (by omega)]
 .rw [decide_eq_false h,decide_eq_false (by omega)]
theorem N4{a b:Nat}:Cs [nI a,nI b]= .ok (nI (min a b)):=by
 show Ft [.int a, .int b]=_;unfold Ft;show R.ok (D.int (if(b:Int) < a then b else a))=_
 unfold nI;congr 2;split <;> omega
theorem tJ{ds:List D}:fA [.lst ds]= .ok (nI ds.length):=rfl
theorem r9{f:FD}{δ:au}{n:Nat}(h:f δ= .ok (nI n))(hn:n < 1000000):dE f δ= .ok ((List.range n).map nI):=by
 rw[pQ h hn];unfold fG;congr 1;refine List.map_congr_left fun i _=>?_
 show D.int (0+(i:Int))=D.int (i:Int);rw[Int.zero_add]
def ef(T:List Nat):D:= .tup (T.map nI)
theorem Kd{f:FD}{own:List Str}{kp:List Nat}{δ:au}{a:Nat}(h:∀j,j < 3->∃δ1,aD 0 (nI j) (sM own kp δ)= .ok δ1/\f δ1= .ok (nI (a+j))) :
 aM ip (ah (eNew (ck (dE (eC (.int 3))) (aD 0) fI f own kp)) aI) δ= .ok (ef [a,a+1,a+2]):=by
 have hz:sizeLine=16777216:=sizeLine_eq;refine aw (ds:=[.lst ((List.range 3).map fun j=>nI (a+j))]) (ao (cK (bR (ds:=(List.range 3).map nI) (r9 (n:=3) rfl (by omega)) (by simp;omega) ?_)) rfl) rfl
 exact NT.bj nI _ fun j hj=>by
  obtain⟨δ1,h1,h2⟩:=h j (List.mem_range.mp hj);exact⟨δ1,h1,rfl,h2⟩
def Mi(r:Nat):Nat:=[1,2,3,4,0].getD (r % 5) 0
theorem Lr(r:Nat):Mi r<=4:=by
 have:r % 5 < 5:=Nat.mod_lt _ (by omega)
 unfold Mi;generalize r % 5=m at this
 match m,this with
 | 0,_=>decide
 | 1,_=>decide
 | 2,_=>decide
 | 3,_=>decide
 | 4,_=>decide
theorem Ov{f:FD}{δ:au}{r:Nat}(h:f δ= .ok (nI r)):e2 cm (eNew (kC (ah (eC (.str "and")) (ah (eC (.str "or")) (ah (eC (.str "xor")) (ah (eC (.str "vote")) (ah (eC (.str "not")) aI))))))) (e2 je f (eC (.int 5))) δ= .ok (.str (kS (Mi r))):=by
 have hz:sizeLine=16777216:=sizeLine_eq;have h5:r % 5 < 5:=Nat.mod_lt _ (by omega)
 refine aj (a:= .lst [.str (kS 1), .str (kS 2), .str (kS 3), .str (kS 4), .str (kS 0)]) (b:=nI (r % 5)) rfl (aj (a:=nI r) (b:=nI 5) h rfl (ll (by omega))) (NT.iU ?_)
 unfold Mi;generalize r % 5=m at h5
 match m,h5 with
 | 0,_=>rfl
 | 1,_=>rfl
 | 2,_=>rfl
 | 3,_=>rfl
 | 4,_=>rfl
theorem NJ{f:FD}{δ:au}{k:Nat}(hk:k<=4)(h:f δ= .ok (.str (kS k))):EA [((Sum.inr "not":Key),V.int 1),((Sum.inr "vote":Key),V.int 3)] f (eC (.int 2)) δ= .ok (nI (ar k)):=by
 unfold EA;rw[h,R.aO]
 match k,hk with
 | 0,_=>rfl
 | 1,_=>rfl
 | 2,_=>rfl
 | 3,_=>rfl
 | 4,_=>rfl
end JT
end
section
set_option maxHeartbeats 4000000
namespace K37
open PySem PySem.Spec PyProof.Rows L2 L3
variable {P:Program} {w:World} {K:W.Frag} {mg:WM} {base:Heap} {cl:WN}
def top(i:Nat):Stmt:=PySem.Challenge.pw_bearfaults_k37_whole_keeping_nets_joined.main.body.getD i (.Pass ⟨0,0,0,0⟩)
def ig:D:=(.int 6)
def e8:D:=(.int 60)
def gn:D:=(.int 6)
structure Tp (K:W.Frag) (mg:WM) (cl:WN):Prop where
 z_all:mg "all"=none
 z_len:mg "len"=none
 z_enumerate:mg "enumerate"=none
 z_range:mg "range"=none
 z_tuple:mg "tuple"=none
 z_reversed:mg "reversed"=none
 z_zip:mg "zip"=none
 z_sum:mg "sum"=none
 z_list:mg "list"=none
 z_min:mg "min"=none
 ig:Glob K mg "MOST_INS" ig
 e8:Glob K mg "MOST_GATES" e8
 gn:Glob K mg "MOST_OUTS" gn
 C_Bench:zW K (cl 0)
 N_Bench_net:eD K (cl 0) "net"
 N_Bench_many_inputs:eD K (cl 0) "many_inputs"
 N_Bench_full:eD K (cl 0) "full"
 N_Bench_in_masks:eD K (cl 0) "in_masks"
 M_Bench:mg "Bench"=some (.ref (cl 0))
abbrev gr:Stmt:=top 11
noncomputable abbrev gC:List Str:=["net","width","ins_fit"]
noncomputable def vR:{b:List Stmt // aP gr=b}:=⟨_,by conv=>lhs;whnf⟩
noncomputable def iH:{b:Scope // aC gr=b}:=⟨_,by conv=>lhs;whnf⟩
theorem qq:aW gC ["net","width"] iH.1:=⟨rfl,rfl,rfl,by decide+kernel,rfl,by decide+kernel,by decide+kernel⟩
def p7:FS:=(dW (jN 2 (aM Fx (ah (eNew (ck (cP (e2 cm (af 0) (eC (.int 0)))) (aD 0) fI (e2 qB (e2 cm (af 0) (eC (.int 1))) (af 1)) ["told"] [1])) aI))) (fF (Ik (af 2) (aM Fx (ah (eNew (ck (cP (e2 cm (af 0) (eC (.int 2)))) (eJ 2 (bw (aD 0) (bw (aD 1) eR))) fI (e2 qB (aM fA (ah (af 1) aI)) (af 2)) ["name","wires"] [1])) aI)))))
def eX:List D->R D:=oQ gC p7
theorem xc(T:Tp K mg cl)(h:Def K mg "has_widths" gr):Callee P w K mg base 1 "has_widths" 2 eX:=by
 obtain⟨f,fd,F,hm⟩:=h;exact⟨f,fd,_,bG (k:=0) vR.2 iH.2 F qq (fun dI A outer s H E hr=>(aV (c8 qq.nd rfl (Or.inl rfl) (bA (Kh rfl) rfl T.z_all PyProof.Rows.boot_all (ab (bX (cb rfl (bt.of (own:=["told"]) (kp:=[1]) (kn:=["width"]) (sc:=iH.1) (N:=gC) rfl rfl (by decide+kernel)) (bJ (aF (aa 0) ae (fun _ _=>rfl))) (fun _ _ _=>(aA (show List.Nodup [(Str.ofString "told"),"width"] from by decide+kernel) rfl (Or.inl rfl))) (fun _ _ _=>bB) (fun _ _ _=>(pU (ng hr.units) (aF (aa 0) ae (fun _ _=>rfl)) (aa 1) (cq _))))) ag))) (aQ (bF (Jq (aa 2) (Jf (bA (Kh rfl) rfl T.z_all PyProof.Rows.boot_all (ab (bX (cb rfl (bt.of (own:=["name","wires"]) (kp:=[1]) (kn:=["width"]) (sc:=iH.1) (N:=gC) rfl rfl (by decide+kernel)) (bJ (aF (aa 0) ae (fun _ _=>rfl))) (fun _ _ _=>(dP rfl (aU (aA (show List.Nodup [(Str.ofString "name"),"wires","width"] from by decide+kernel) rfl (Or.inl rfl)) (aU (aA (show List.Nodup [(Str.ofString "name"),"wires","width"] from by decide+kernel) rfl (Or.inl rfl)) cW)))) (fun _ _ _=>bB) (fun _ _ _=>(pU (ng hr.units) (bA fP rfl T.z_len PySem.boot_len (ab (aa 1) ag)) (aa 2) (cq _))))) ag)))))))),hm,F.kp,F.binds fun _ _ _ _ _ _ us hl=>match us,hl with | [_,_],_=>rfl⟩
abbrev lC:Stmt:=top 13
noncomputable abbrev wy:List Str:=["masks"]
noncomputable def Ay:{b:List Stmt // aP lC=b}:=⟨_,by conv=>lhs;whnf⟩
noncomputable def ua:{b:Scope // aC lC=b}:=⟨_,by conv=>lhs;whnf⟩
theorem D7:aW wy ["masks"] ua.1:=⟨rfl,rfl,rfl,by decide+kernel,rfl,by decide+kernel,by decide+kernel⟩
def qR:FS:=(fF (e2 J7 (e2 J7 (e2 Iq (e2 cm (af 0) (eC (.int 0))) (e2 cm (af 0) (eC (.int 1)))) (e2 Iq (e2 cm (af 0) (eC (.int 0))) (e2 cm (af 0) (eC (.int 2))))) (e2 Iq (e2 cm (af 0) (eC (.int 1))) (e2 cm (af 0) (eC (.int 2))))))
def eY:List D->R D:=oQ wy qR
theorem DM(T:Tp K mg cl)(h:Def K mg "vote_of" lC):Callee P w K mg base 1 "vote_of" 1 eY:=by
 obtain⟨f,fd,F,hm⟩:=h;exact⟨f,fd,_,bG (k:=0) Ay.2 ua.2 F D7 (fun dI A outer s H E hr=>(aQ (bF (ax De (ax De (ax Gn (aF (aa 0) ae (fun _ _=>rfl)) (aF (aa 0) ae (fun _ _=>rfl))) (ax Gn (aF (aa 0) ae (fun _ _=>rfl)) (aF (aa 0) ae (fun _ _=>rfl)))) (ax Gn (aF (aa 0) ae (fun _ _=>rfl)) (aF (aa 0) ae (fun _ _=>rfl))))))),hm,F.kp,F.binds fun _ _ _ _ _ _ us hl=>match us,hl with | [_],_=>rfl⟩
abbrev i9:Stmt:=top 14
noncomputable abbrev m3:List Str:=["kind","masks","full"]
noncomputable def xx:{b:List Stmt // aP i9=b}:=⟨_,by conv=>lhs;whnf⟩
noncomputable def qo:{b:Scope // aC i9=b}:=⟨_,by conv=>lhs;whnf⟩
theorem zC:aW m3 ["kind","masks","full"] qo.1:=⟨rfl,rfl,rfl,by decide+kernel,rfl,by decide+kernel,by decide+kernel⟩
def rR:FS:=(dW (zV (b2 qB (af 0) (eC (.str "not"))) (fF (e2 CW (af 2) (e2 cm (af 1) (eC (.int 0))))) uq) (dW (zV (b2 qB (af 0) (eC (.str "and"))) (fF (e2 Iq (e2 cm (af 1) (eC (.int 0))) (e2 cm (af 1) (eC (.int 1))))) uq) (dW (zV (b2 qB (af 0) (eC (.str "or"))) (fF (e2 J7 (e2 cm (af 1) (eC (.int 0))) (e2 cm (af 1) (eC (.int 1))))) uq) (dW (zV (b2 qB (af 0) (eC (.str "xor"))) (fF (e2 CW (e2 cm (af 1) (eC (.int 0))) (e2 cm (af 1) (eC (.int 1))))) uq) (fF (aM eY (ah (af 1) aI)))))))
def ja:List D->R D:=oQ m3 rR
theorem zE(T:Tp K mg cl)(h:Def K mg "gate_mask" i9)(jE:Callee P w K mg base 1 "vote_of" 1 eY):Callee P w K mg base 2 "gate_mask" 3 ja:=by
 obtain⟨f,fd,F,hm⟩:=h;exact⟨f,fd,_,bG (k:=1) xx.2 qo.2 F zC (fun dI A outer s H E hr=>(aV (iM (bO (ng hr.units) (aa 0) cw (cq _)) (aQ (bF (ax AU (aa 2) (aF (aa 1) ae (fun _ _=>rfl))))) gu) (aV (iM (bO (ng hr.units) (aa 0) cw (cq _)) (aQ (bF (ax Gn (aF (aa 1) ae (fun _ _=>rfl)) (aF (aa 1) ae (fun _ _=>rfl))))) gu) (aV (iM (bO (ng hr.units) (aa 0) cw (cq _)) (aQ (bF (ax De (aF (aa 1) ae (fun _ _=>rfl)) (aF (aa 1) ae (fun _ _=>rfl))))) gu) (aV (iM (bO (ng hr.units) (aa 0) cw (cq _)) (aQ (bF (ax AU (aF (aa 1) ae (fun _ _=>rfl)) (aF (aa 1) ae (fun _ _=>rfl))))) gu) (aQ (bF (aK jE hr (by decide) rfl (ab (aa 1) ag) (ak aR))))))))),hm,F.kp,F.binds fun _ _ _ _ _ _ us hl=>match us,hl with | [_,_,_],_=>rfl⟩
abbrev ee:Stmt:=top 15
noncomputable abbrev fX:List Str:=["ins","in_masks","full","bad","wires","place","mask","figure"]
noncomputable def qW:{b:List Stmt // aP ee=b}:=⟨_,by conv=>lhs;whnf⟩
noncomputable def lE:{b:Scope // aC ee=b}:=⟨_,by conv=>lhs;whnf⟩
theorem d7:aW fX ["ins","in_masks","full","bad"] lE.1:=⟨rfl,rfl,rfl,by decide+kernel,rfl,by decide+kernel,by decide+kernel⟩
def gL:FZ:=(pd 4 (xT (MM (b2 Pn (aM fA (ah (af 4) aI)) (af 3)) (e2 CW (af 2) (af 6)) (af 6))))
def kf:FZ:=(p_ (iP (dE (e2 cm (e2 cm (af 0) (af 5)) (eC (.int 1))))) (sr 7) gL)
def ji:FZ:=(bH (cF 4 (sQ (kC aI))) (bH (p_ (iP (Ci (af 1))) (Ih 2 (A1 (sr 5) (A1 (sr 6) J9))) kf) (lJ (hJ 4))))
def dN:List V3->bu->R3 V3:=sE fX ji
def Dt:List V3->bu->R3 V3:=vv fX ji
theorem sO(T:Tp K mg cl)(h:Def K mg "in_wire_masks" ee):cJ P w K mg base cl 1 "in_wire_masks" 4 dN:=by
 obtain⟨f,fd,F,hm⟩:=h;exact⟨f,fd,_,du (k:=0) qW.2 lE.2 F d7 (fun dI A outer s H E hr=>(av (bC d7.nd rfl (Or.inl rfl) (qM (er ag))) (av (jg PassesOwn.never rfl (cQ (AZ (aa 1) rfl T.z_enumerate)) (lV rfl (cM (bS d7.nd rfl (Or.inl rfl)) (cM (bS d7.nd rfl (Or.inl rfl)) jK))) (bf (jg PassesOwn.never rfl (cQ (cf (aF (aF (aa 0) (aa 5) (fun _ _=>rfl)) ae (fun _ _=>rfl)) rfl T.z_range)) (bS d7.nd rfl (Or.inl rfl)) (bf (o4 rfl (Or.inl rfl) (pW (Gf (bO OL (bA fP rfl T.z_len PySem.boot_len (ab (aa 4) ag)) (aa 3) (by with_unfolding_all rfl)) (ax AU (aa 2) (aa 6)) (aa 6)))))))) (bf (eM (c7 4)))))),hm,F.kp,F.binds fun _ _ _ _ _ _ us hl=>match us,hl with | [_,_,_,_],_=>rfl⟩
abbrev j2:Stmt:=top 16
noncomputable abbrev o9:List Str:=["wires","numbers"]
noncomputable def y4:{b:List Stmt // aP j2=b}:=⟨_,by conv=>lhs;whnf⟩
noncomputable def mX:{b:Scope // aC j2=b}:=⟨_,by conv=>lhs;whnf⟩
theorem z_:aW o9 ["wires","numbers"] mX.1:=⟨rfl,rfl,rfl,by decide+kernel,rfl,by decide+kernel,by decide+kernel⟩
def ui:FS:=(fF (aM ip (ah (eNew (ck (cP (af 1)) (aD 0) fI (e2 cm (af 1) (af 0)) ["number"] [0])) aI)))
def f6:List D->R D:=oQ o9 ui
theorem An(T:Tp K mg cl)(h:Def K mg "masks_at" j2):Callee P w K mg base 1 "masks_at" 2 f6:=by
 obtain⟨f,fd,F,hm⟩:=h;exact⟨f,fd,_,bG (k:=0) y4.2 mX.2 F z_ (fun dI A outer s H E hr=>(aQ (bF (eP ki rfl T.z_tuple PyProof.Rows.boot_tuple (ab (bX (cb rfl (bt.of (own:=["number"]) (kp:=[0]) (kn:=["wires"]) (sc:=mX.1) (N:=o9) rfl rfl (by decide+kernel)) (bJ (aa 1)) (fun _ _ _=>(aA (show List.Nodup [(Str.ofString "number"),"wires"] from by decide+kernel) rfl (Or.inl rfl))) (fun _ _ _=>bB) (fun _ _ _=>(aF (aa 1) (aa 0) (fun _ _=>rfl))))) ag))))),hm,F.kp,F.binds fun _ _ _ _ _ _ us hl=>match us,hl with | [_,_],_=>rfl⟩
abbrev gU:Stmt:=top 17
noncomputable abbrev jw:List Str:=["net","in_masks","full","turned","bad","wires","place","gate","mask"]
noncomputable def vK:{b:List Stmt // aP gU=b}:=⟨_,by conv=>lhs;whnf⟩
noncomputable def oA:{b:Scope // aC gU=b}:=⟨_,by conv=>lhs;whnf⟩
theorem gE:aW jw ["net","in_masks","full","turned","bad"] oA.1:=⟨rfl,rfl,rfl,by decide+kernel,rfl,by decide+kernel,by decide+kernel⟩
def jR:FZ:=(bH (cF 8 (xT (aM ja (ah (e2 cm (af 7) (eC (.int 0))) (ah (aM f6 (ah (af 5) (ah (e2 cm (af 7) (eC (.int 1))) aI))) (ah (af 2) aI)))))) (pd 5 (xP (MM (b2 Pn (af 6) (af 3)) (e2 CW (af 2) (af 8)) (af 8)))))
def l0:FZ:=(bH (cF 5 (gA dN (bE (xP (e2 cm (af 0) (eC (.int 0)))) (bE (xP (af 1)) (bE (xP (af 2)) (bE (xP (af 4)) fw)))))) (bH (p_ (iP (jh (e2 cm (af 0) (eC (.int 1))))) (Ih 2 (A1 (sr 6) (A1 (sr 7) J9))) jR) (lJ (hJ 5))))
def vG:List V3->bu->R3 V3:=sE jw l0
def iS:List V3->bu->R3 V3:=vv jw l0
theorem w_(T:Tp K mg cl)(h:Def K mg "wire_masks" gU)(iE:Callee P w K mg base 1 "masks_at" 2 f6)(nW:Callee P w K mg base 2 "gate_mask" 3 ja)(fq:cJ P w K mg base cl 1 "in_wire_masks" 4 dN):cJ P w K mg base cl 3 "wire_masks" 5 vG:=by
 obtain⟨f,fd,F,hm⟩:=h;exact⟨f,fd,_,du (k:=2) vK.2 oA.2 F gE (fun dI A outer s H E hr=>(av (bC gE.nd rfl (Or.inl rfl) (dt fq hr (by decide) rfl (aH (aq (aF (aa 0) ae (fun _ _=>rfl))) (aH (aq (aa 1)) (aH (aq (aa 2)) (aH (aq (aa 4)) b8)))) (aJ (aJ (aJ (aJ bL)))))) (av (jg PassesOwn.never rfl (cQ (k6 (aF (aa 0) ae (fun _ _=>rfl)) rfl T.z_enumerate)) (lV rfl (cM (bS gE.nd rfl (Or.inl rfl)) (cM (bS gE.nd rfl (Or.inl rfl)) jK))) (av (bC gE.nd rfl (Or.inl rfl) (pW (aK nW hr (by decide) rfl (ab (aF (aa 7) ae (fun _ _=>rfl)) (ab (aK iE hr (by decide) rfl (ab (aa 5) (ab (aF (aa 7) ae (fun _ _=>rfl)) ag)) (ak (ak aR))) (ab (aa 2) ag))) (ak (ak (ak aR)))))) (bf (o4 rfl (Or.inl rfl) (aq (Gf (bO OL (aa 6) (aa 3) (by with_unfolding_all rfl)) (ax AU (aa 2) (aa 8)) (aa 8))))))) (bf (eM (c7 5)))))),hm,F.kp,F.binds fun _ _ _ _ _ _ us hl=>match us,hl with | [_,_,_,_,_],_=>rfl⟩
abbrev i4:Stmt:=top 18
noncomputable abbrev iY:List Str:=["net","wires"]
noncomputable def wZ:{b:List Stmt // aP i4=b}:=⟨_,by conv=>lhs;whnf⟩
noncomputable def l7:{b:Scope // aC i4=b}:=⟨_,by conv=>lhs;whnf⟩
theorem yM:aW iY ["net","wires"] l7.1:=⟨rfl,rfl,rfl,by decide+kernel,rfl,by decide+kernel,by decide+kernel⟩
def nk:FZ:=(lJ (sQ (ck (cP (e2 cm (af 0) (eC (.int 2)))) (eJ 2 (bw (aD 0) (bw (aD 1) eR))) fI (aM f6 (ah (af 2) (ah (af 1) aI))) ["name","numbers"] [1])))
def xF:List V3->bu->R3 V3:=sE iY nk
def jz:List V3->bu->R3 V3:=vv iY nk
theorem yx(T:Tp K mg cl)(h:Def K mg "out_masks" i4)(iE:Callee P w K mg base 1 "masks_at" 2 f6):cJ P w K mg base cl 2 "out_masks" 2 xF:=by
 obtain⟨f,fd,F,hm⟩:=h;exact⟨f,fd,_,du (k:=1) wZ.2 l7.2 F yM (fun dI A outer s H E hr=>(bf (eM (qM (cb rfl (bt.of (own:=["name","numbers"]) (kp:=[1]) (kn:=["wires"]) (sc:=l7.1) (N:=iY) rfl rfl (by decide+kernel)) (bJ (aF (aa 0) ae (fun _ _=>rfl))) (fun _ _ _=>(dP rfl (aU (aA (show List.Nodup [(Str.ofString "name"),"numbers","wires"] from by decide+kernel) rfl (Or.inl rfl)) (aU (aA (show List.Nodup [(Str.ofString "name"),"numbers","wires"] from by decide+kernel) rfl (Or.inl rfl)) cW)))) (fun _ _ _=>bB) (fun _ _ _=>(aK iE hr (by decide) rfl (ab (aa 2) (ab (aa 1) ag)) (ak (ak aR))))))))),hm,F.kp,F.binds fun _ _ _ _ _ _ us hl=>match us,hl with | [_,_],_=>rfl⟩
abbrev nO:Stmt:=top 19
noncomputable abbrev zF:List Str:=["mask","number"]
noncomputable def Dc:{b:List Stmt // aP nO=b}:=⟨_,by conv=>lhs;whnf⟩
noncomputable def wH:{b:Scope // aC nO=b}:=⟨_,by conv=>lhs;whnf⟩
theorem F4:aW zF ["mask","number"] wH.1:=⟨rfl,rfl,rfl,by decide+kernel,rfl,by decide+kernel,by decide+kernel⟩
def yJ:FS:=(fF (e2 Iq (e2 DT (af 0) (af 1)) (eC (.int 1))))
def nq:List D->R D:=oQ zF yJ
theorem Ep(T:Tp K mg cl)(h:Def K mg "bit_at" nO):Callee P w K mg base 1 "bit_at" 2 nq:=by
 obtain⟨f,fd,F,hm⟩:=h;exact⟨f,fd,_,bG (k:=0) Dc.2 wH.2 F F4 (fun dI A outer s H E hr=>(aQ (bF (ax Gn (ax J4 (aa 0) (aa 1)) ae)))),hm,F.kp,F.binds fun _ _ _ _ _ _ us hl=>match us,hl with | [_,_],_=>rfl⟩
abbrev gR:Stmt:=top 20
noncomputable abbrev ju:List Str:=["count","inputs","place","longer","bits"]
noncomputable def vT:{b:List Stmt // aP gR=b}:=⟨_,by conv=>lhs;whnf⟩
noncomputable def oO:{b:Scope // aC gR=b}:=⟨_,by conv=>lhs;whnf⟩
theorem eZ:aW ju ["count"] oO.1:=⟨rfl,rfl,rfl,by decide+kernel,rfl,by decide+kernel,by decide+kernel⟩
def nS:FZ:=(bH (pd 3 (xP (e2 rQ (af 4) (cG (ah (eC (.int 0)) aI))))) (pd 3 (xP (e2 rQ (af 4) (cG (ah (eC (.int 1)) aI))))))
def nB:FZ:=(xj 1 (bH (cF 3 (sQ (kC aI))) (bH (p_ (iP (cP (af 1))) (sr 4) nS) (cF 1 (hJ 3)))))
def me:FZ:=(bH (cF 1 (sQ (kC (ah (cG aI) aI)))) (bH (p_ (iP (dE (af 0))) (sr 2) nB) (lJ (hJ 1))))
def vC:List V3->bu->R3 V3:=sE ju me
def iL:List V3->bu->R3 V3:=vv ju me
theorem xR(T:Tp K mg cl)(h:Def K mg "all_inputs" gR):cJ P w K mg base cl 1 "all_inputs" 1 vC:=by
 obtain⟨f,fd,F,hm⟩:=h;exact⟨f,fd,_,du (k:=0) vT.2 oO.2 F eZ (fun dI A outer s H E hr=>(av (bC eZ.nd rfl (Or.inl rfl) (qM (er (ab (bh ag) ag)))) (av (jg PassesOwn.never rfl (cQ (cf (aa 0) rfl T.z_range)) (bS eZ.nd rfl (Or.inl rfl)) (s_ 1 (av (bC eZ.nd rfl (Or.inl rfl) (qM (er ag))) (av (jg PassesOwn.never rfl (cQ (bJ (aa 1))) (bS eZ.nd rfl (Or.inl rfl)) (av (o4 rfl (Or.inl rfl) (aq (ax xB (aa 4) (bh (ab ae ag))))) (bf (o4 rfl (Or.inl rfl) (aq (ax xB (aa 4) (bh (ab ae ag)))))))) (bf (bC eZ.nd rfl (Or.inl rfl) (c7 3))))))) (bf (eM (c7 1)))))),hm,F.kp,F.binds fun _ _ _ _ _ _ us hl=>match us,hl with | [_],_=>rfl⟩
abbrev k5:Stmt:=top 21
noncomputable abbrev qE:List Str:=["bits","mask","bit"]
noncomputable def Af:{b:List Stmt // aP k5=b}:=⟨_,by conv=>lhs;whnf⟩
noncomputable def uY:{b:Scope // aC k5=b}:=⟨_,by conv=>lhs;whnf⟩
theorem n6:aW qE ["bits"] uY.1:=⟨rfl,rfl,rfl,by decide+kernel,rfl,by decide+kernel,by decide+kernel⟩
def ny:FS:=(jN 1 (e2 cx (e2 gI (af 1) (eC (.int 2))) (af 2)))
def wc:FS:=(dW (jN 1 (eC (.int 0))) (dW (sR (JZ (af 0)) (aD 2) ny) (fF (af 1))))
def ij:List D->R D:=oQ qE wc
theorem Dn(T:Tp K mg cl)(h:Def K mg "mask_of" k5):Callee P w K mg base 1 "mask_of" 1 ij:=by
 obtain⟨f,fd,F,hm⟩:=h;exact⟨f,fd,_,bG (k:=0) Af.2 uY.2 F n6 (fun dI A outer s H E hr=>(aV (c8 n6.nd rfl (Or.inl rfl) ae) (aV (i7 PassesOwn.never rfl (Ew (aa 0) rfl T.z_reversed) (aA n6.nd rfl (Or.inl rfl)) (aQ (c8 n6.nd rfl (Or.inl rfl) (ax cD (ax jq (aa 1) ae) (aa 2))))) (aQ (bF (aa 1)))))),hm,F.kp,F.binds fun _ _ _ _ _ _ us hl=>match us,hl with | [_],_=>rfl⟩
abbrev lq:Stmt:=top 22
noncomputable abbrev qK:List Str:=["inputs","place"]
noncomputable def A5:{b:List Stmt // aP lq=b}:=⟨_,by conv=>lhs;whnf⟩
noncomputable def px:{b:Scope // aC lq=b}:=⟨_,by conv=>lhs;whnf⟩
theorem DV:aW qK ["inputs","place"] px.1:=⟨rfl,rfl,rfl,by decide+kernel,rfl,by decide+kernel,by decide+kernel⟩
def wL:FS:=(fF (aM ij (ah (eNew (ck (cP (af 0)) (aD 0) fI (e2 cm (af 0) (af 1)) ["bits"] [1])) aI)))
def lr:List D->R D:=oQ qK wL
theorem D0(T:Tp K mg cl)(h:Def K mg "in_mask" lq)(jF:Callee P w K mg base 1 "mask_of" 1 ij):Callee P w K mg base 2 "in_mask" 2 lr:=by
 obtain⟨f,fd,F,hm⟩:=h;exact⟨f,fd,_,bG (k:=1) A5.2 px.2 F DV (fun dI A outer s H E hr=>(aQ (bF (aK jF hr (by decide) rfl (ab (bX (cb rfl (bt.of (own:=["bits"]) (kp:=[1]) (kn:=["place"]) (sc:=px.1) (N:=qK) rfl rfl (by decide+kernel)) (bJ (aa 0)) (fun _ _ _=>(aA (show List.Nodup [(Str.ofString "bits"),"place"] from by decide+kernel) rfl (Or.inl rfl))) (fun _ _ _=>bB) (fun _ _ _=>(aF (aa 0) (aa 1) (fun _ _=>rfl))))) ag) (ak aR))))),hm,F.kp,F.binds fun _ _ _ _ _ _ us hl=>match us,hl with | [_,_],_=>rfl⟩
abbrev iZ:Stmt:=top 25
noncomputable abbrev m5:List Str:=["outs","mask","masks"]
noncomputable def xC:{b:List Stmt // aP iZ=b}:=⟨_,by conv=>lhs;whnf⟩
noncomputable def qj:{b:Scope // aC iZ=b}:=⟨_,by conv=>lhs;whnf⟩
theorem km:aW m5 ["outs"] qj.1:=⟨rfl,rfl,rfl,by decide+kernel,rfl,by decide+kernel,by decide+kernel⟩
def kz:FS:=(jN 1 (e2 J7 (e2 J7 (af 1) (e2 CW (e2 cm (af 2) (eC (.int 0))) (e2 cm (af 2) (eC (.int 1))))) (e2 CW (e2 cm (af 2) (eC (.int 0))) (e2 cm (af 2) (eC (.int 2))))))
def rS:FS:=(dW (jN 1 (eC (.int 0))) (dW (sR (cP (af 0)) (aD 2) kz) (fF (af 1))))
def i5:List D->R D:=oQ m5 rS
theorem yP(T:Tp K mg cl)(h:Def K mg "unlike_at" iZ):Callee P w K mg base 1 "unlike_at" 1 i5:=by
 obtain⟨f,fd,F,hm⟩:=h;exact⟨f,fd,_,bG (k:=0) xC.2 qj.2 F km (fun dI A outer s H E hr=>(aV (c8 km.nd rfl (Or.inl rfl) ae) (aV (i7 PassesOwn.never rfl (bJ (aa 0)) (aA km.nd rfl (Or.inl rfl)) (aQ (c8 km.nd rfl (Or.inl rfl) (ax De (ax De (aa 1) (ax AU (aF (aa 2) ae (fun _ _=>rfl)) (aF (aa 2) ae (fun _ _=>rfl)))) (ax AU (aF (aa 2) ae (fun _ _=>rfl)) (aF (aa 2) ae (fun _ _=>rfl))))))) (aQ (bF (aa 1)))))),hm,F.kp,F.binds fun _ _ _ _ _ _ us hl=>match us,hl with | [_],_=>rfl⟩
abbrev lM:Stmt:=top 26
noncomputable abbrev oa:List Str:=["before","after","mask","masks","others"]
noncomputable def AF:{b:List Stmt // aP lM=b}:=⟨_,by conv=>lhs;whnf⟩
noncomputable def pC:{b:Scope // aC lM=b}:=⟨_,by conv=>lhs;whnf⟩
theorem lH:aW oa ["before","after"] pC.1:=⟨rfl,rfl,rfl,by decide+kernel,rfl,by decide+kernel,by decide+kernel⟩
def nh:FS:=(jN 2 (e2 J7 (af 2) (aM eY (ah (eNew (ck (dE (eC (.int 3))) (aD 0) fI (e2 CW (e2 cm (af 1) (af 0)) (e2 cm (af 2) (af 0))) ["place"] [3,4])) aI))))
def wb:FS:=(dW (jN 2 (eC (.int 0))) (dW (sR (J8 (af 0) (af 1)) (eJ 2 (bw (aD 3) (bw (aD 4) eR))) nh) (fF (af 2))))
def lI:List D->R D:=oQ oa wb
theorem C9(T:Tp K mg cl)(h:Def K mg "lost_at" lM)(jE:Callee P w K mg base 1 "vote_of" 1 eY):Callee P w K mg base 2 "lost_at" 2 lI:=by
 obtain⟨f,fd,F,hm⟩:=h;exact⟨f,fd,_,bG (k:=1) AF.2 pC.2 F lH (fun dI A outer s H E hr=>(aV (c8 lH.nd rfl (Or.inl rfl) ae) (aV (i7 PassesOwn.never rfl (EF (aa 0) (aa 1) rfl T.z_zip) (dP rfl (aU (aA lH.nd rfl (Or.inr rfl)) (aU (aA lH.nd rfl (Or.inr rfl)) cW))) (aQ (c8 lH.nd rfl (Or.inl rfl) (ax De (aa 2) (aK jE hr (by decide) rfl (ab (bX (cb rfl (bt.of (own:=["place"]) (kp:=[3,4]) (kn:=["masks","others"]) (sc:=pC.1) (N:=oa) rfl rfl (by decide+kernel)) (cf ae rfl T.z_range) (fun _ _ _=>(aA (show List.Nodup [(Str.ofString "place"),"masks","others"] from by decide+kernel) rfl (Or.inl rfl))) (fun _ _ _=>bB) (fun _ _ _=>(ax AU (aF (aa 1) (aa 0) (fun _ _=>rfl)) (aF (aa 2) (aa 0) (fun _ _=>rfl)))))) ag) (ak aR)))))) (aQ (bF (aa 2)))))),hm,F.kp,F.binds fun _ _ _ _ _ _ us hl=>match us,hl with | [_,_],_=>rfl⟩
abbrev j0:Stmt:=top 27
noncomputable abbrev j3:List Str:=["first","end","many","found","wire","next_three","rest"]
noncomputable def yG:{b:List Stmt // aP j0=b}:=⟨_,by conv=>lhs;whnf⟩
noncomputable def rZ:{b:Scope // aC j0=b}:=⟨_,by conv=>lhs;whnf⟩
theorem j5:aW j3 ["first","end","many"] rZ.1:=⟨rfl,rfl,rfl,by decide+kernel,rfl,by decide+kernel,by decide+kernel⟩
def lS(self:List D->R D):FS:=(Fz 3 (e2 rQ (cG (ah (af 4) aI)) (af 6)))
def lY(self:List D->R D):FS:=(dW (jN 5 (e2 gI (e2 rQ (e2 lK (af 4) (eC (.int 3))) (eC (.int 1))) (eC (.int 3)))) (sR (cP (aM self (ah (af 5) (ah (af 1) (ah (e2 Am (af 2) (eC (.int 1))) aI))))) (aD 6) (lS self)))
def j1(self:List D->R D):FS:=(dW (zV (b2 qB (af 2) (eC (.int 0))) (fF (eNew (kC (ah (cG aI) aI)))) uq) (dW (ue 3 (kC aI)) (dW (sR (rA (af 0) (af 1)) (aD 4) (lY self)) (AE 3 (fF (af 3))))))
def dD:Nat->List D->R D
 | 0=>fun _=> .no
 | n+1=>oQ j3 (j1 (dD n))
theorem tP(T:Tp K mg cl)(h:Def K mg "bad_sets" j0):∀n,Callee P w K mg base (1+n) "bad_sets" 3 (dD n)
 | 0=>by
   obtain⟨f,fd,F,hm⟩:=h;exact⟨f,fd,["first","end","many"],Ni,hm,F.kp,F.binds fun _ _ _ _ _ _ us hl=>match us,hl with | [_,_,_],_=>rfl⟩
 | n+1=>by
   have Mz:=tP T h n;obtain⟨f,fd,F,hm⟩:=h;exact⟨f,fd,_,bG (k:=1+n) yG.2 rZ.2 F j5 (fun dI A outer s H E hr=>(aV (iM (bO (ng hr.units) (aa 2) ae (cq _)) (aQ (bF (bX (er (ab (bh ag) ag))))) gu) (aV (uh j5.nd rfl (Or.inl rfl) (er ag)) (aV (i7 PassesOwn.never rfl (rX (aa 0) (aa 1) rfl T.z_range) (aA j5.nd rfl (Or.inl rfl)) (aV (c8 j5.nd rfl (Or.inl rfl) (ax jq (ax xB (ax qP (aa 4) ae) ae) ae)) (aQ (i7 PassesOwn.never rfl (bJ (aK Mz hr (by omega) rfl (ab (aa 5) (ab (aa 1) (ab (ax yD (aa 2) ae) ag))) (ak (ak (ak aR))))) (aA j5.nd rfl (Or.inl rfl)) (aQ (GG rfl (Or.inl rfl) (ax xB (bh (ab (aa 4) ag)) (aa 6)))))))) (qy 3 (aQ (bF (aa 3)))))))),hm,F.kp,F.binds fun _ _ _ _ _ _ us hl=>match us,hl with | [_,_,_],_=>rfl⟩
abbrev dM:Stmt:=top 28
noncomputable abbrev cU:List Str:=["net","faults","many_ins","many"]
noncomputable def pV:{b:List Stmt // aP dM=b}:=⟨_,by conv=>lhs;whnf⟩
noncomputable def el:{b:Scope // aC dM=b}:=⟨_,by conv=>lhs;whnf⟩
theorem fg:aW cU ["net"] el.1:=⟨rfl,rfl,rfl,by decide+kernel,rfl,by decide+kernel,by decide+kernel⟩
def f_:FS:=(C5 1 (ck (cP (aM (dD 7) (ah (eC (.int 0)) (ah (e2 gI (af 2) (eC (.int 3))) (ah (af 3) aI))))) (aD 0) fI (cG (ah (af 0) (ah (cG aI) aI))) ["bad"] []))
def k7:FS:=(dW (ue 1 (ck (jh (e2 cm (af 0) (eC (.int 1)))) (eJ 2 (bw (aD 0) (bw (aD 1) eR))) (Au (Aw (e2 cm (af 1) (eC (.int 2))))) (cG (ah (cG aI) (ah (cG (ah (af 0) aI)) aI))) ["place","gate"] [])) (dW (jN 2 (aM fA (ah (e2 cm (af 0) (eC (.int 0))) aI))) (dW (sR (rA (eC (.int 1)) (e2 cx (af 2) (eC (.int 1)))) (aD 3) f_) (AE 1 (fF (af 1))))))
def dS:List D->R D:=oQ cU k7
theorem qC(T:Tp K mg cl)(h:Def K mg "keeping_faults" dM)(pG:Callee P w K mg base 8 "bad_sets" 3 (dD 7)):Callee P w K mg base 9 "keeping_faults" 1 dS:=by
 obtain⟨f,fd,F,hm⟩:=h;exact⟨f,fd,_,bG (k:=8) pV.2 el.2 F fg (fun dI A outer s H E hr=>(aV (xX rfl fg.nd rfl rfl (bt.of (own:=["place","gate"]) (kp:=[]) (kn:=[]) (sc:=el.1) (N:=cU) rfl rfl (by decide+kernel)) (k6 (aF (aa 0) ae (fun _ _=>rfl)) rfl T.z_enumerate) (fun _ _ _=>(dP rfl (aU (aA (show List.Nodup [(Str.ofString "place"),"gate"] from by decide+kernel) rfl (Or.inl rfl)) (aU (aA (show List.Nodup [(Str.ofString "place"),"gate"] from by decide+kernel) rfl (Or.inl rfl)) cW)))) (fun _ _ _=>(Gv (Ca (Bx (aF (aa 1) ae (fun _ _=>rfl)))))) (fun _ _ _=>(bh (ab (bh ag) (ab (bh (ab (aa 0) ag)) ag))))) (aV (c8 fg.nd rfl (Or.inl rfl) (bA fP rfl T.z_len PySem.boot_len (ab (aF (aa 0) ae (fun _ _=>rfl)) ag))) (aV (i7 PassesOwn.never rfl (rX ae (ax cD (aa 2) ae) rfl T.z_range) (aA fg.nd rfl (Or.inl rfl)) (aQ (zg rfl (Or.inl rfl) (cb rfl (bt.of (own:=["bad"]) (kp:=[]) (kn:=[]) (sc:=el.1) (N:=cU) rfl rfl (by decide+kernel)) (bJ (aK pG hr (by decide) rfl (ab ae (ab (ax jq (aa 2) ae) (ab (aa 3) ag))) (ak (ak (ak aR))))) (fun _ _ _=>(aA (show List.Nodup [(Str.ofString "bad")] from by decide+kernel) rfl (Or.inl rfl))) (fun _ _ _=>bB) (fun _ _ _=>(bh (ab (aa 0) (ab (bh ag) ag)))))))) (qy 1 (aQ (bF (aa 1)))))))),hm,F.kp,F.binds fun _ _ _ _ _ _ us hl=>match us,hl with | [_],_=>rfl⟩
abbrev bY:Stmt:=inClass (top 23) 0
noncomputable abbrev cV:List Str:=["self","net","inputs"]
noncomputable def pJ:{b:List Stmt // aP bY=b}:=⟨_,by conv=>lhs;whnf⟩
noncomputable def ei:{b:Scope // aC bY=b}:=⟨_,by conv=>lhs;whnf⟩
theorem lG:aW cV ["self","net"] ei.1:=⟨rfl,rfl,rfl,by decide+kernel,rfl,by decide+kernel,by decide+kernel⟩
def il:FZ:=(bH (cF 2 (gA iL (bE (xP (aM fA (ah (e2 cm (af 1) (eC (.int 0))) aI))) fw))) (bH (DA 0 "net" (hJ 0) (xP (af 1))) (bH (DA 0 "many_inputs" (hJ 0) (xP (aM fA (ah (af 2) aI)))) (bH (DA 0 "full" (hJ 0) (xP (aM ij (ah (eNew (ck (cP (af 2)) (aD 0) fI (eC (.int 1)) ["bits"] [])) aI)))) (DA 0 "in_masks" (hJ 0) (xP (eNew (ck (dE (aM fA (ah (e2 cm (af 1) (eC (.int 0))) aI))) (aD 0) fI (aM lr (ah (af 1) (ah (af 0) aI))) ["place"] [2]))))))))
def dk:List V3->bu->R3 V3:=sE cV il
def BX:List V3->bu->R3 V3:=vv cV il
theorem dO(T:Tp K mg cl)(h:LK K (cl 0) "__init__" "Bench.__init__" bY)(jF:Callee P w K mg base 1 "mask_of" 1 ij)(rM:Callee P w K mg base 2 "in_mask" 2 lr)(kZ:cJ P w K mg base cl 1 "all_inputs" 1 iL):GA P w K mg base cl 3 0 "Bench" 1 dk:=by
 obtain⟨f,fd,F,hm⟩:=h;exact⟨f,fd,_,hm,du (k:=2) pJ.2 ei.2 F lG (fun dI A outer s H E hr=>(av (bC lG.nd rfl (Or.inr rfl) (dt kZ hr (by decide) rfl (aH (aq (bA fP rfl T.z_len PySem.boot_len (ab (aF (aa 1) ae (fun _ _=>rfl)) ag))) b8) (aJ bL))) (av (xk T.C_Bench T.N_Bench_net (c7 0) (aq (aa 1))) (av (xk T.C_Bench T.N_Bench_many_inputs (c7 0) (aq (bA fP rfl T.z_len PySem.boot_len (ab (aa 2) ag)))) (av (xk T.C_Bench T.N_Bench_full (c7 0) (aq (aK jF hr (by decide) rfl (ab (bX (cb rfl (bt.of (own:=["bits"]) (kp:=[]) (kn:=[]) (sc:=ei.1) (N:=cV) rfl rfl (by decide+kernel)) (bJ (aa 2)) (fun _ _ _=>(aA (show List.Nodup [(Str.ofString "bits")] from by decide+kernel) rfl (Or.inl rfl))) (fun _ _ _=>bB) (fun _ _ _=>ae))) ag) (ak aR)))) (bf (xk T.C_Bench T.N_Bench_in_masks (c7 0) (aq (bX (cb rfl (bt.of (own:=["place"]) (kp:=[2]) (kn:=["inputs"]) (sc:=ei.1) (N:=cV) rfl rfl (by decide+kernel)) (cf (bA fP rfl T.z_len PySem.boot_len (ab (aF (aa 1) ae (fun _ _=>rfl)) ag)) rfl T.z_range) (fun _ _ _=>(aA (show List.Nodup [(Str.ofString "place"),"inputs"] from by decide+kernel) rfl (Or.inl rfl))) (fun _ _ _=>bB) (fun _ _ _=>(aK rM hr (by decide) rfl (ab (aa 1) (ab (aa 0) ag)) (ak (ak aR)))))))))))))),T.M_Bench,F.binds fun _ _ _ _ _ _ us hl=>match us,hl with | [_,_],_=>rfl⟩
abbrev cL:Stmt:=inClass (top 23) 1
noncomputable abbrev iT:List Str:=["self","turned","bad"]
noncomputable def tK:{b:List Stmt // aP cL=b}:=⟨_,by conv=>lhs;whnf⟩
noncomputable def nR:{b:Scope // aC cL=b}:=⟨_,by conv=>lhs;whnf⟩
theorem vw:aW iT ["self","turned","bad"] nR.1:=⟨rfl,rfl,rfl,by decide+kernel,rfl,by decide+kernel,by decide+kernel⟩
def kF:FZ:=(lJ (gA jz (bE (Ae 0 "net" (hJ 0)) (bE (gA iS (bE (Ae 0 "net" (hJ 0)) (bE (Ae 0 "in_masks" (hJ 0)) (bE (Ae 0 "full" (hJ 0)) (bE (xP (af 1)) (bE (xP (af 2)) fw)))))) fw))))
def tO:List V3->bu->R3 V3:=sE iT kF
def eG:List V3->bu->R3 V3:=vv iT kF
theorem fE(T:Tp K mg cl)(h:C1 K (cl 0) "tells" "Bench.tells" cL)(kN:cJ P w K mg base cl 3 "wire_masks" 5 iS)(mz:cJ P w K mg base cl 2 "out_masks" 2 jz):sk P w K mg base cl 4 0 "tells" 2 tO:=by
 obtain⟨f,fd,F,hm⟩:=h;exact⟨f,fd,_,T.C_Bench,hm,du (k:=3) tK.2 nR.2 F vw (fun dI A outer s H E hr=>(bf (eM (dt mz hr (by decide) rfl (aH (uJ T.C_Bench T.N_Bench_net (c7 0)) (aH (dt kN hr (by decide) rfl (aH (uJ T.C_Bench T.N_Bench_net (c7 0)) (aH (uJ T.C_Bench T.N_Bench_in_masks (c7 0)) (aH (uJ T.C_Bench T.N_Bench_full (c7 0)) (aH (aq (aa 1)) (aH (aq (aa 2)) b8))))) (aJ (aJ (aJ (aJ (aJ bL)))))) b8)) (aJ (aJ bL)))))),F.binds fun _ _ _ _ _ _ us hl=>match us,hl with | [_,_,_],_=>rfl⟩
abbrev bU:Stmt:=inClass (top 23) 4
noncomputable abbrev dm:List Str:=["self","mask"]
noncomputable def o7:{b:List Stmt // aP bU=b}:=⟨_,by conv=>lhs;whnf⟩
noncomputable def f7:{b:Scope // aC bU=b}:=⟨_,by conv=>lhs;whnf⟩
theorem pY:aW dm ["self","mask"] f7.1:=⟨rfl,rfl,rfl,by decide+kernel,rfl,by decide+kernel,by decide+kernel⟩
def gx:FZ:=(lJ (oH (yY (Ae 0 "many_inputs" (hJ 0))) (sr 0) (bP (b2 qB (aM nq (ah (af 1) (ah (af 0) aI))) (eC (.int 1)))) (xP (af 0)) ["number"] [1]))
def oZ:List V3->bu->R3 V3:=sE dm gx
def cE:List V3->bu->R3 V3:=vv dm gx
theorem dv(T:Tp K mg cl)(h:C1 K (cl 0) "inputs_in" "Bench.inputs_in" bU)(vp:Callee P w K mg base 1 "bit_at" 2 nq):sk P w K mg base cl 2 0 "inputs_in" 1 oZ:=by
 obtain⟨f,fd,F,hm⟩:=h;exact⟨f,fd,_,T.C_Bench,hm,du (k:=1) o7.2 f7.2 F pY (fun dI A outer s H E hr=>(bf (eM (Cd rfl (bt.of (own:=["number"]) (kp:=[1]) (kn:=["mask"]) (sc:=f7.1) (N:=dm) rfl rfl (by decide+kernel)) (Az (uJ T.C_Bench T.N_Bench_many_inputs (c7 0)) rfl T.z_range) (fun _ _ _=>(bS (show List.Nodup [(Str.ofString "number"),"mask"] from by decide+kernel) rfl (Or.inl rfl))) (fun _ _ _=>(t6 (dr (bO (ng hr.units) (aK vp hr (by decide) rfl (ab (aa 1) (ab (aa 0) ag)) (ak (ak aR))) ae (cq _))))) (fun _ _ _=>(aq (aa 0))))))),F.binds fun _ _ _ _ _ _ us hl=>match us,hl with | [_,_],_=>rfl⟩
abbrev pR:Stmt:=top 29
noncomputable abbrev sY:List Str:=["net","bench","plain","mask","bad","turned"]
noncomputable def GZ:{b:List Stmt // aP pR=b}:=⟨_,by conv=>lhs;whnf⟩
noncomputable def zr:{b:Scope // aC pR=b}:=⟨_,by conv=>lhs;whnf⟩
theorem l9:aW sY ["net"] zr.1:=⟨rfl,rfl,rfl,by decide+kernel,rfl,by decide+kernel,by decide+kernel⟩
def qV:FZ:=(bH (cF 3 (xg lI (bE (xP (af 2)) (bE (uG 0 "tells" eG (hJ 1) (bE (xP (af 5)) (bE (xP (af 4)) fw))) fw)))) (zH (bP (b2 BN (af 3) (eC (.int 0)))) (lJ (HK (bE (xP (eC (.str "loses"))) (bE (xP (af 4)) (bE (xP (af 5)) (bE (M5 (uG 0 "inputs_in" cE (hJ 1) (bE (xP (af 3)) fw)) (xP (eC (.int 0)))) fw)))))) nJ))
def xf:FZ:=(bH (zH (bP (Au (Aw (aM eX (ah (af 0) (ah (eC (.int 3)) aI)))))) Pl nJ) (bH (cF 1 (Fu 0 dk (bE (xP (af 0)) fw))) (bH (cF 2 (uG 0 "tells" eG (hJ 1) (bE (xP (cG aI)) (bE (xP (cG aI)) fw)))) (bH (cF 3 (xP (aM i5 (ah (af 2) aI)))) (bH (zH (bP (b2 BN (af 3) (eC (.int 0)))) (lJ (HK (bE (xP (eC (.str "loses"))) (bE (xP (cG aI)) (bE (xP (cG aI)) (bE (M5 (uG 0 "inputs_in" cE (hJ 1) (bE (xP (af 3)) fw)) (xP (eC (.int 0)))) fw)))))) nJ) (bH (p_ (iP (cP (aM dS (ah (af 0) aI)))) (Ih 2 (A1 (sr 4) (A1 (sr 5) J9))) qV) (lJ (xP (cG (ah (eC (.str "keeps")) aI))))))))))
def Gx:List V3->bu->R3 V3:=sE sY xf
def jW:List V3->bu->R3 V3:=vv sY xf
theorem Ip(T:Tp K mg cl)(h:Def K mg "keeps" pR)(mm:Callee P w K mg base 1 "has_widths" 2 eX)(nU:Callee P w K mg base 1 "unlike_at" 1 i5)(ix:Callee P w K mg base 9 "keeping_faults" 1 dS)(rJ:Callee P w K mg base 2 "lost_at" 2 lI)(g6:GA P w K mg base cl 3 0 "Bench" 1 dk)(g8:sk P w K mg base cl 4 0 "tells" 2 eG)(d4:sk P w K mg base cl 2 0 "inputs_in" 1 cE):cJ P w K mg base cl 10 "keeps" 1 Gx:=by
 obtain⟨f,fd,F,hm⟩:=h;exact⟨f,fd,_,du (k:=9) GZ.2 zr.2 F l9 (fun dI A outer s H E hr=>(av (kh (dr (Ca (Bx (aK mm hr (by decide) rfl (ab (aa 0) (ab ae ag)) (ak (ak aR)))))) (bf F9) eu) (av (bC l9.nd rfl (Or.inl rfl) (HB g6 hr (by decide) rfl (aH (aq (aa 0)) b8) (aJ bL))) (av (bC l9.nd rfl (Or.inl rfl) (tw g8 hr (by decide) (c7 1) (aH (aq (bh ag)) (aH (aq (bh ag)) b8)) (aJ (aJ bL)))) (av (bC l9.nd rfl (Or.inl rfl) (aq (aK nU hr (by decide) rfl (ab (aa 2) ag) (ak aR)))) (av (kh (dr (bO (D1 hr.units) (aa 3) ae (cq _))) (bf (eM (FN (aH (aq cw) (aH (aq (bh ag)) (aH (aq (bh ag)) (aH (Kk (tw d4 hr (by decide) (c7 1) (aH (aq (aa 3)) b8) (aJ bL)) (aq ae) (fun _ _=>rfl)) b8))))))) eu) (av (jg PassesOwn.never rfl (cQ (bJ (aK ix hr (by decide) rfl (ab (aa 0) ag) (ak aR)))) (lV rfl (cM (bS l9.nd rfl (Or.inl rfl)) (cM (bS l9.nd rfl (Or.inl rfl)) jK))) (av (bC l9.nd rfl (Or.inl rfl) (zG rJ hr (by decide) rfl (aH (aq (aa 2)) (aH (tw g8 hr (by decide) (c7 1) (aH (aq (aa 5)) (aH (aq (aa 4)) b8)) (aJ (aJ bL))) b8)) (aJ (aJ bL)))) (bf (kh (dr (bO (D1 hr.units) (aa 3) ae (cq _))) (bf (eM (FN (aH (aq cw) (aH (aq (aa 4)) (aH (aq (aa 5)) (aH (Kk (tw d4 hr (by decide) (c7 1) (aH (aq (aa 3)) b8) (aJ bL)) (aq ae) (fun _ _=>rfl)) b8))))))) eu)))) (bf (eM (aq (bh (ab cw ag)))))))))))),hm,F.kp,F.binds fun _ _ _ _ _ _ us hl=>match us,hl with | [_],_=>rfl⟩
abbrev gz:Stmt:=top 30
noncomputable abbrev qc:List Str:=["one","other","pairs","out_place","in_place"]
noncomputable def vE:{b:List Stmt // aP gz=b}:=⟨_,by conv=>lhs;whnf⟩
noncomputable def oz:{b:Scope // aC gz=b}:=⟨_,by conv=>lhs;whnf⟩
theorem l5:aW qc ["one","other","pairs"] oz.1:=⟨rfl,rfl,rfl,by decide+kernel,rfl,by decide+kernel,by decide+kernel⟩
def jQ:FS:=(zV (b2 BN (aM fA (ah (e2 cm (e2 cm (e2 cm (af 0) (eC (.int 2))) (af 3)) (eC (.int 1))) aI)) (e2 cm (e2 cm (e2 cm (af 1) (eC (.int 0))) (af 4)) (eC (.int 1)))) Qg uq)
def qk:FS:=(sR (cP (af 2)) (eJ 2 (bw (aD 3) (bw (aD 4) eR))) jQ)
def gS:List D->R D:=oQ qc qk
theorem x9(T:Tp K mg cl)(h:Def K mg "check_fits" gz):Callee P w K mg base 1 "check_fits" 3 gS:=by
 obtain⟨f,fd,F,hm⟩:=h;exact⟨f,fd,_,bG (k:=0) vE.2 oz.2 F l5 (fun dI A outer s H E hr=>(aQ (i7 PassesOwn.never rfl (bJ (aa 2)) (dP rfl (aU (aA l5.nd rfl (Or.inl rfl)) (aU (aA l5.nd rfl (Or.inl rfl)) cW))) (aQ (iM (bO (D1 hr.units) (bA fP rfl T.z_len PySem.boot_len (ab (aF (aF (aF (aa 0) ae (fun _ _=>rfl)) (aa 3) (fun _ _=>rfl)) ae (fun _ _=>rfl)) ag)) (aF (aF (aF (aa 1) ae (fun _ _=>rfl)) (aa 4) (fun _ _=>rfl)) ae (fun _ _=>rfl)) (cq _)) (aQ CJ) gu))))),hm,F.kp,F.binds fun _ _ _ _ _ _ us hl=>match us,hl with | [_,_,_],_=>rfl⟩
abbrev fM:Stmt:=top 31
noncomputable abbrev iK:List Str:=["pairs","found","out_place","in_place"]
noncomputable def t5:{b:List Stmt // aP fM=b}:=⟨_,by conv=>lhs;whnf⟩
noncomputable def mZ:{b:Scope // aC fM=b}:=⟨_,by conv=>lhs;whnf⟩
theorem iQ:aW iK ["pairs"] mZ.1:=⟨rfl,rfl,rfl,by decide+kernel,rfl,by decide+kernel,by decide+kernel⟩
def mG:FZ:=(bH (zH (bT (b2 AW (af 3) (af 1))) Pl nJ) (wX (hJ 1) (xP (af 3)) (xP (af 2))))
def kA:FZ:=(bH (cF 1 Bo) (bH (p_ (iP (cP (af 0))) (Ih 2 (A1 (sr 2) (A1 (sr 3) J9))) mG) (lJ (hJ 1))))
def uF:List V3->bu->R3 V3:=sE iK kA
def gq:List V3->bu->R3 V3:=vv iK kA
theorem vB(T:Tp K mg cl)(h:Def K mg "outs_of_ins" fM):cJ P w K mg base cl 1 "outs_of_ins" 1 uF:=by
 obtain⟨f,fd,F,hm⟩:=h;exact⟨f,fd,_,du (k:=0) t5.2 mZ.2 F iQ (fun dI A outer s H E hr=>(av (bC iQ.nd rfl (Or.inl rfl) B6) (av (jg PassesOwn.never rfl (cQ (bJ (aa 0))) (lV rfl (cM (bS iQ.nd rfl (Or.inl rfl)) (cM (bS iQ.nd rfl (Or.inl rfl)) jK))) (av (kh (yE (bO (Fj (so hr)) (aa 3) (aa 1) (by with_unfolding_all rfl))) (bf F9) eu) (bf (zK (so hr) (aq (aa 2)) (c7 1) (aq (aa 3)))))) (bf (eM (c7 1)))))),hm,F.kp,F.binds fun _ _ _ _ _ _ us hl=>match us,hl with | [_],_=>rfl⟩
abbrev fO:Stmt:=top 32
noncomputable abbrev iI:List Str:=["told","names","name","rest"]
noncomputable def um:{b:List Stmt // aP fO=b}:=⟨_,by conv=>lhs;whnf⟩
noncomputable def mW:{b:Scope // aC fO=b}:=⟨_,by conv=>lhs;whnf⟩
theorem iO:aW iI ["told"] mW.1:=⟨rfl,rfl,rfl,by decide+kernel,rfl,by decide+kernel,by decide+kernel⟩
def mE:FZ:=(bH (zH (bT (b2 AW (af 2) (af 1))) Pl nJ) (wX (hJ 1) (xP (af 2)) (xP (eC (.bl true)))))
def kI:FZ:=(bH (cF 1 Bo) (p_ (iP (cP (af 0))) (Ih 2 (A1 (sr 2) (A1 (sr 3) J9))) mE))
def uf:List V3->bu->R3 V3:=sE iI kI
def eK:List V3->bu->R3 V3:=vv iI kI
theorem vA(T:Tp K mg cl)(h:Def K mg "check_names" fO):cJ P w K mg base cl 1 "check_names" 1 uf:=by
 obtain⟨f,fd,F,hm⟩:=h;exact⟨f,fd,_,du (k:=0) um.2 mW.2 F iO (fun dI A outer s H E hr=>(av (bC iO.nd rfl (Or.inl rfl) B6) (bf (jg PassesOwn.never rfl (cQ (bJ (aa 0))) (lV rfl (cM (bS iO.nd rfl (Or.inl rfl)) (cM (bS iO.nd rfl (Or.inl rfl)) jK))) (av (kh (yE (bO (Fj (so hr)) (aa 2) (aa 1) (by with_unfolding_all rfl))) (bf F9) eu) (bf (zK (so hr) (aq kK) (c7 1) (aq (aa 2))))))))),hm,F.kp,F.binds fun _ _ _ _ _ _ us hl=>match us,hl with | [_],_=>rfl⟩
abbrev gW:Stmt:=top 33
noncomputable abbrev fm:List Str:=["net"]
noncomputable def vP:{b:List Stmt // aP gW=b}:=⟨_,by conv=>lhs;whnf⟩
noncomputable def oK:{b:Scope // aC gW=b}:=⟨_,by conv=>lhs;whnf⟩
theorem xA:aW fm ["net"] oK.1:=⟨rfl,rfl,rfl,by decide+kernel,rfl,by decide+kernel,by decide+kernel⟩
def pN:FS:=(zV (M3 (b2 Eg (aM fA (ah (e2 cm (af 0) (eC (.int 0))) aI)) (eC ig)) (M3 (b2 Eg (aM fA (ah (e2 cm (af 0) (eC (.int 1))) aI)) (eC e8)) (b2 Eg (aM fA (ah (e2 cm (af 0) (eC (.int 2))) aI)) (eC gn)))) Qg uq)
def gQ:List D->R D:=oQ fm pN
theorem x5(T:Tp K mg cl)(h:Def K mg "check_room" gW):Callee P w K mg base 1 "check_room" 1 gQ:=by
 obtain⟨f,fd,F,hm⟩:=h;exact⟨f,fd,_,bG (k:=0) vP.2 oK.2 F xA (fun dI A outer s H E hr=>(aQ (iM (HN (Ce (bO CV (bA fP rfl T.z_len PySem.boot_len (ab (aF (aa 0) ae (fun _ _=>rfl)) ag)) (uu T.ig rfl) (cq _)) (Ce (bO CV (bA fP rfl T.z_len PySem.boot_len (ab (aF (aa 0) ae (fun _ _=>rfl)) ag)) (uu T.e8 rfl) (cq _)) (GW (bO CV (bA fP rfl T.z_len PySem.boot_len (ab (aF (aa 0) ae (fun _ _=>rfl)) ag)) (uu T.gn rfl) (cq _)))))) (aQ CJ) gu))),hm,F.kp,F.binds fun _ _ _ _ _ _ us hl=>match us,hl with | [_],_=>rfl⟩
abbrev gK:Stmt:=top 34
noncomputable abbrev lZ:List Str:=["ins"]
noncomputable def vx:{b:List Stmt // aP gK=b}:=⟨_,by conv=>lhs;whnf⟩
noncomputable def kG:{b:Scope // aC gK=b}:=⟨_,by conv=>lhs;whnf⟩
theorem xV:aW lZ ["ins"] kG.1:=⟨rfl,rfl,rfl,by decide+kernel,rfl,by decide+kernel,by decide+kernel⟩
def qr:FS:=(fF (aM Fb (ah (eNew (ck (cP (af 0)) (eJ 2 (bw (aD 0) (bw (aD 1) eR))) fI (af 1) ["name","width"] [])) aI)))
def cS:List D->R D:=oQ lZ qr
theorem xO(T:Tp K mg cl)(h:Def K mg "many_wires" gK):Callee P w K mg base 1 "many_wires" 1 cS:=by
 obtain⟨f,fd,F,hm⟩:=h;exact⟨f,fd,_,bG (k:=0) vx.2 kG.2 F xV (fun dI A outer s H E hr=>(aQ (bF (bA (L8 rfl) rfl T.z_sum PyProof.Rows.boot_sum (ab (bX (cb rfl (bt.of (own:=["name","width"]) (kp:=[]) (kn:=[]) (sc:=kG.1) (N:=lZ) rfl rfl (by decide+kernel)) (bJ (aa 0)) (fun _ _ _=>(dP rfl (aU (aA (show List.Nodup [(Str.ofString "name"),"width"] from by decide+kernel) rfl (Or.inl rfl)) (aU (aA (show List.Nodup [(Str.ofString "name"),"width"] from by decide+kernel) rfl (Or.inl rfl)) cW)))) (fun _ _ _=>bB) (fun _ _ _=>(aa 1)))) ag))))),hm,F.kp,F.binds fun _ _ _ _ _ _ us hl=>match us,hl with | [_],_=>rfl⟩
abbrev lz:Stmt:=top 35
noncomputable abbrev rm:List Str:=["told","numbers"]
noncomputable def A_:{b:List Stmt // aP lz=b}:=⟨_,by conv=>lhs;whnf⟩
noncomputable def oX:{b:Scope // aC lz=b}:=⟨_,by conv=>lhs;whnf⟩
theorem Dl:aW rm ["told","numbers"] oX.1:=⟨rfl,rfl,rfl,by decide+kernel,rfl,by decide+kernel,by decide+kernel⟩
def wK:FS:=(fF (aM ip (ah (eNew (ck (cP (af 0)) (aD 0) fI (e2 cm (af 1) (af 0)) ["wire"] [1])) aI)))
def eW:List D->R D:=oQ rm wK
theorem Dw(T:Tp K mg cl)(h:Def K mg "rewired" lz):Callee P w K mg base 1 "rewired" 2 eW:=by
 obtain⟨f,fd,F,hm⟩:=h;exact⟨f,fd,_,bG (k:=0) A_.2 oX.2 F Dl (fun dI A outer s H E hr=>(aQ (bF (eP ki rfl T.z_tuple PyProof.Rows.boot_tuple (ab (bX (cb rfl (bt.of (own:=["wire"]) (kp:=[1]) (kn:=["numbers"]) (sc:=oX.1) (N:=rm) rfl rfl (by decide+kernel)) (bJ (aa 0)) (fun _ _ _=>(aA (show List.Nodup [(Str.ofString "wire"),"numbers"] from by decide+kernel) rfl (Or.inl rfl))) (fun _ _ _=>bB) (fun _ _ _=>(aF (aa 1) (aa 0) (fun _ _=>rfl))))) ag))))),hm,F.kp,F.binds fun _ _ _ _ _ _ us hl=>match us,hl with | [_,_],_=>rfl⟩
abbrev d6:Stmt:=top 36
noncomputable abbrev jd:List Str:=["gates","numbers"]
noncomputable def qZ:{b:List Stmt // aP d6=b}:=⟨_,by conv=>lhs;whnf⟩
noncomputable def ic:{b:Scope // aC d6=b}:=⟨_,by conv=>lhs;whnf⟩
theorem sH:aW jd ["gates","numbers"] ic.1:=⟨rfl,rfl,rfl,by decide+kernel,rfl,by decide+kernel,by decide+kernel⟩
def mL:FS:=(fF (eNew (ck (cP (af 0)) (eJ 3 (bw (aD 0) (bw (aD 1) (bw (aD 2) eR)))) fI (cG (ah (af 0) (ah (aM eW (ah (af 1) (ah (af 3) aI))) (ah (af 2) aI)))) ["kind","wires","sure"] [1])))
def di:List D->R D:=oQ jd mL
theorem sJ(T:Tp K mg cl)(h:Def K mg "rewired_gates" d6)(fu:Callee P w K mg base 1 "rewired" 2 eW):Callee P w K mg base 2 "rewired_gates" 2 di:=by
 obtain⟨f,fd,F,hm⟩:=h;exact⟨f,fd,_,bG (k:=1) qZ.2 ic.2 F sH (fun dI A outer s H E hr=>(aQ (bF (bX (cb rfl (bt.of (own:=["kind","wires","sure"]) (kp:=[1]) (kn:=["numbers"]) (sc:=ic.1) (N:=jd) rfl rfl (by decide+kernel)) (bJ (aa 0)) (fun _ _ _=>(dP rfl (aU (aA (show List.Nodup [(Str.ofString "kind"),"wires","sure","numbers"] from by decide+kernel) rfl (Or.inl rfl)) (aU (aA (show List.Nodup [(Str.ofString "kind"),"wires","sure","numbers"] from by decide+kernel) rfl (Or.inl rfl)) (aU (aA (show List.Nodup [(Str.ofString "kind"),"wires","sure","numbers"] from by decide+kernel) rfl (Or.inl rfl)) cW))))) (fun _ _ _=>bB) (fun _ _ _=>(bh (ab (aa 0) (ab (aK fu hr (by decide) rfl (ab (aa 1) (ab (aa 3) ag)) (ak (ak aR))) (ab (aa 2) ag)))))))))),hm,F.kp,F.binds fun _ _ _ _ _ _ us hl=>match us,hl with | [_,_],_=>rfl⟩
abbrev eE:Stmt:=top 37
noncomputable abbrev jY:List Str:=["outs","numbers"]
noncomputable def sC:{b:List Stmt // aP eE=b}:=⟨_,by conv=>lhs;whnf⟩
noncomputable def jj:{b:Scope // aC eE=b}:=⟨_,by conv=>lhs;whnf⟩
theorem uQ:aW jY ["outs","numbers"] jj.1:=⟨rfl,rfl,rfl,by decide+kernel,rfl,by decide+kernel,by decide+kernel⟩
def nQ:FS:=(fF (eNew (ck (cP (af 0)) (eJ 2 (bw (aD 0) (bw (aD 1) eR))) fI (cG (ah (af 0) (ah (aM eW (ah (af 1) (ah (af 2) aI))) aI))) ["name","wires"] [1])))
def dR:List D->R D:=oQ jY nQ
theorem u6(T:Tp K mg cl)(h:Def K mg "rewired_outs" eE)(fu:Callee P w K mg base 1 "rewired" 2 eW):Callee P w K mg base 2 "rewired_outs" 2 dR:=by
 obtain⟨f,fd,F,hm⟩:=h;exact⟨f,fd,_,bG (k:=1) sC.2 jj.2 F uQ (fun dI A outer s H E hr=>(aQ (bF (bX (cb rfl (bt.of (own:=["name","wires"]) (kp:=[1]) (kn:=["numbers"]) (sc:=jj.1) (N:=jY) rfl rfl (by decide+kernel)) (bJ (aa 0)) (fun _ _ _=>(dP rfl (aU (aA (show List.Nodup [(Str.ofString "name"),"wires","numbers"] from by decide+kernel) rfl (Or.inl rfl)) (aU (aA (show List.Nodup [(Str.ofString "name"),"wires","numbers"] from by decide+kernel) rfl (Or.inl rfl)) cW)))) (fun _ _ _=>bB) (fun _ _ _=>(bh (ab (aa 0) (ab (aK fu hr (by decide) rfl (ab (aa 1) (ab (aa 2) ag)) (ak (ak aR))) ag))))))))),hm,F.kp,F.binds fun _ _ _ _ _ _ us hl=>match us,hl with | [_,_],_=>rfl⟩
abbrev fD:Stmt:=top 38
noncomputable abbrev fK:List Str:=["one","left_wires","many","numbers"]
noncomputable def uL:{b:List Stmt // aP fD=b}:=⟨_,by conv=>lhs;whnf⟩
noncomputable def jS:{b:Scope // aC fD=b}:=⟨_,by conv=>lhs;whnf⟩
theorem kJ:aW fK ["one","left_wires"] jS.1:=⟨rfl,rfl,rfl,by decide+kernel,rfl,by decide+kernel,by decide+kernel⟩
def oR:FS:=(dW (jN 2 (aM cS (ah (e2 cm (af 0) (eC (.int 0))) aI))) (dW (ue 3 (HD (af 2))) (dW (C5 3 (ck (dE (aM fA (ah (e2 cm (af 0) (eC (.int 1))) aI))) (aD 0) fI (e2 cx (e2 cx (af 2) (af 1)) (af 0)) ["place"] [1,2])) (AE 3 (fF (af 3))))))
def fN:List D->R D:=oQ fK oR
theorem vF(T:Tp K mg cl)(h:Def K mg "one_numbers" fD)(cT:Callee P w K mg base 1 "many_wires" 1 cS):Callee P w K mg base 2 "one_numbers" 2 fN:=by
 obtain⟨f,fd,F,hm⟩:=h;exact⟨f,fd,_,bG (k:=1) uL.2 jS.2 F kJ (fun dI A outer s H E hr=>(aV (c8 kJ.nd rfl (Or.inr rfl) (aK cT hr (by decide) rfl (ab (aF (aa 0) ae (fun _ _=>rfl)) ag) (ak aR))) (aV (uh kJ.nd rfl (Or.inl rfl) (HA rfl (aa 2) rfl T.z_list rfl T.z_range)) (aV (zg rfl (Or.inl rfl) (cb rfl (bt.of (own:=["place"]) (kp:=[1,2]) (kn:=["left_wires","many"]) (sc:=jS.1) (N:=fK) rfl rfl (by decide+kernel)) (cf (bA fP rfl T.z_len PySem.boot_len (ab (aF (aa 0) ae (fun _ _=>rfl)) ag)) rfl T.z_range) (fun _ _ _=>(aA (show List.Nodup [(Str.ofString "place"),"left_wires","many"] from by decide+kernel) rfl (Or.inl rfl))) (fun _ _ _=>bB) (fun _ _ _=>(ax cD (ax cD (aa 2) (aa 1)) (aa 0))))) (qy 3 (aQ (bF (aa 3)))))))),hm,F.kp,F.binds fun _ _ _ _ _ _ us hl=>match us,hl with | [_,_],_=>rfl⟩
abbrev d9:Stmt:=top 39
noncomputable abbrev fW:List Str:=["other","one","numbers","named","found","free","place","told","top"]
noncomputable def qY:{b:List Stmt // aP d9=b}:=⟨_,by conv=>lhs;whnf⟩
noncomputable def k8:{b:Scope // aC d9=b}:=⟨_,by conv=>lhs;whnf⟩
theorem cO:aW fW ["other","one","numbers","named"] k8.1:=⟨rfl,rfl,rfl,by decide+kernel,rfl,by decide+kernel,by decide+kernel⟩
def gO:FS:=(zV (b2 AW (af 6) (af 3)) (wJ 4 (aM eW (ah (e2 cm (e2 cm (e2 cm (af 1) (eC (.int 2))) (e2 BF (af 3) (af 6))) (eC (.int 1))) (ah (af 2) aI)))) (dW (wJ 4 (eNew (yt (af 5) (e2 cx (af 5) (e2 cm (af 7) (eC (.int 1))))))) (jN 5 (e2 cx (af 5) (e2 cm (af 7) (eC (.int 1)))))))
def mF:FS:=(dW (ue 4 (kC aI)) (dW (jN 5 (aM cS (ah (e2 cm (af 1) (eC (.int 0))) aI))) (dW (sR (jh (e2 cm (af 0) (eC (.int 0)))) (eJ 2 (bw (aD 6) (bw (aD 7) eR))) gO) (dW (jN 8 (e2 cx (af 5) (aM fA (ah (e2 cm (af 1) (eC (.int 1))) aI)))) (dW (wJ 4 (eNew (yt (af 8) (e2 cx (af 8) (aM fA (ah (e2 cm (af 0) (eC (.int 1))) aI)))))) (AE 4 (fF (af 4))))))))
def d8:List D->R D:=oQ fW mF
theorem sP(T:Tp K mg cl)(h:Def K mg "other_numbers" d9)(cT:Callee P w K mg base 1 "many_wires" 1 cS)(fu:Callee P w K mg base 1 "rewired" 2 eW):Callee P w K mg base 2 "other_numbers" 4 d8:=by
 obtain⟨f,fd,F,hm⟩:=h;exact⟨f,fd,_,bG (k:=1) qY.2 k8.2 F cO (fun dI A outer s H E hr=>(aV (uh cO.nd rfl (Or.inl rfl) (er ag)) (aV (c8 cO.nd rfl (Or.inl rfl) (aK cT hr (by decide) rfl (ab (aF (aa 1) ae (fun _ _=>rfl)) ag) (ak aR))) (aV (i7 PassesOwn.never rfl (k6 (aF (aa 0) ae (fun _ _=>rfl)) rfl T.z_enumerate) (dP rfl (aU (aA cO.nd rfl (Or.inl rfl)) (aU (aA cO.nd rfl (Or.inl rfl)) cW))) (aQ (iM (bO (Fj (so hr)) (aa 6) (aa 3) (by with_unfolding_all rfl)) (aQ (qL rfl (Or.inl rfl) (aK fu hr (by decide) rfl (ab (aF (aF (aF (aa 1) ae (fun _ _=>rfl)) (Dp (so hr) (aa 3) (aa 6) (fun _ _=>rfl)) (fun _ _=>rfl)) ae (fun _ _=>rfl)) (ab (aa 2) ag)) (ak (ak aR))))) (aV (qL rfl (Or.inl rfl) (bX (y0 rfl (aa 5) (ax cD (aa 5) (aF (aa 7) ae (fun _ _=>rfl))) rfl T.z_list rfl T.z_range))) (aQ (c8 cO.nd rfl (Or.inl rfl) (ax cD (aa 5) (aF (aa 7) ae (fun _ _=>rfl))))))))) (aV (c8 cO.nd rfl (Or.inl rfl) (ax cD (aa 5) (bA fP rfl T.z_len PySem.boot_len (ab (aF (aa 1) ae (fun _ _=>rfl)) ag)))) (aV (qL rfl (Or.inl rfl) (bX (y0 rfl (aa 8) (ax cD (aa 8) (bA fP rfl T.z_len PySem.boot_len (ab (aF (aa 0) ae (fun _ _=>rfl)) ag))) rfl T.z_list rfl T.z_range))) (qy 4 (aQ (bF (aa 4)))))))))),hm,F.kp,F.binds fun _ _ _ _ _ _ us hl=>match us,hl with | [_,_,_,_],_=>rfl⟩
abbrev m6:Stmt:=top 40
noncomputable abbrev jT:List Str:=["one","other","pairs","named","fed_by","left_ins","left_outs","numbers","others","ins","gates","outs"]
noncomputable def DC:{b:List Stmt // aP m6=b}:=⟨_,by conv=>lhs;whnf⟩
noncomputable def lj:{b:Scope // aC m6=b}:=⟨_,by conv=>lhs;whnf⟩
theorem fH:aW jT ["one","other","pairs"] lj.1:=⟨rfl,rfl,rfl,by decide+kernel,rfl,by decide+kernel,by decide+kernel⟩
def tV:FZ:=(bH (wI (xP (aM gS (ah (af 0) (ah (af 1) (ah (af 2) aI)))))) (bH (cF 3 (gA gq (bE (xP (af 2)) fw))) (bH (cF 4 (xP (eNew (ck (cP (af 2)) (eJ 2 (bw (aD 0) (bw (aD 1) eR))) fI (af 0) ["out_place","in_place"] [])))) (bH (cF 5 (oH (iP (jh (e2 cm (af 1) (eC (.int 0))))) (Ih 2 (A1 (sr 0) (A1 (sr 1) J9))) (bP (b2 Io (af 0) (af 2))) (xP (af 1)) ["place","told"] [3])) (bH (cF 6 (oH (iP (jh (e2 cm (af 0) (eC (.int 2))))) (Ih 2 (A1 (sr 0) (A1 (sr 1) J9))) (bP (b2 Ad (af 0) (af 2))) (xP (af 1)) ["place","told"] [4])) (bH (cF 7 (xP (aM fN (ah (af 0) (ah (aM cS (ah (af 5) aI)) aI))))) (bH (cF 8 (xP (aM d8 (ah (af 1) (ah (af 0) (ah (af 7) (ah (af 3) aI))))))) (bH (cF 9 (xP (e2 cx (e2 cm (af 0) (eC (.int 0))) (af 5)))) (bH (cF 10 (xP (e2 cx (aM di (ah (e2 cm (af 0) (eC (.int 1))) (ah (af 7) aI))) (aM di (ah (e2 cm (af 1) (eC (.int 1))) (ah (af 8) aI)))))) (bH (cF 11 (xP (e2 cx (aM dR (ah (af 6) (ah (af 7) aI))) (aM dR (ah (e2 cm (af 1) (eC (.int 2))) (ah (af 8) aI)))))) (bH (wI (gA eK (bE (xP (af 9)) fw))) (bH (wI (gA eK (bE (xP (af 11)) fw))) (bH (wI (xP (aM gQ (ah (cG (ah (af 9) (ah (af 10) (ah (af 11) aI)))) aI)))) (lJ (xP (cG (ah (af 9) (ah (af 10) (ah (af 11) aI)))))))))))))))))))
def DJ:List V3->bu->R3 V3:=sE jT tV
def oh:List V3->bu->R3 V3:=vv jT tV
theorem EC(T:Tp K mg cl)(h:Def K mg "joined" m6)(mw:Callee P w K mg base 1 "check_fits" 3 gS)(cT:Callee P w K mg base 1 "many_wires" 1 cS)(kP:Callee P w K mg base 2 "one_numbers" 2 fN)(jo:Callee P w K mg base 2 "other_numbers" 4 d8)(fY:Callee P w K mg base 2 "rewired_gates" 2 di)(gZ:Callee P w K mg base 2 "rewired_outs" 2 dR)(mB:Callee P w K mg base 1 "check_room" 1 gQ)(j8:cJ P w K mg base cl 1 "outs_of_ins" 1 gq)(g7:cJ P w K mg base cl 1 "check_names" 1 eK):cJ P w K mg base cl 3 "joined" 3 DJ:=by
 obtain⟨f,fd,F,hm⟩:=h;exact⟨f,fd,_,du (k:=2) DC.2 lj.2 F fH (fun dI A outer s H E hr=>(av (sZ (aq (aK mw hr (by decide) rfl (ab (aa 0) (ab (aa 1) (ab (aa 2) ag))) (ak (ak (ak aR)))))) (av (bC fH.nd rfl (Or.inr rfl) (dt j8 hr (by decide) rfl (aH (aq (aa 2)) b8) (aJ bL))) (av (bC fH.nd rfl (Or.inr rfl) (aq (bX (cb rfl (bt.of (own:=["out_place","in_place"]) (kp:=[]) (kn:=[]) (sc:=lj.1) (N:=jT) rfl rfl (by decide+kernel)) (bJ (aa 2)) (fun _ _ _=>(dP rfl (aU (aA (show List.Nodup [(Str.ofString "out_place"),"in_place"] from by decide+kernel) rfl (Or.inl rfl)) (aU (aA (show List.Nodup [(Str.ofString "out_place"),"in_place"] from by decide+kernel) rfl (Or.inl rfl)) cW)))) (fun _ _ _=>bB) (fun _ _ _=>(aa 0)))))) (av (pE rfl fH.nd rfl rfl (bt.of (own:=["place","told"]) (kp:=[3]) (kn:=["named"]) (sc:=lj.1) (N:=jT) rfl rfl (by decide+kernel)) (cQ (k6 (aF (aa 1) ae (fun _ _=>rfl)) rfl T.z_enumerate)) (fun _ _ _=>(lV rfl (cM (bS (show List.Nodup [(Str.ofString "place"),"told","named"] from by decide+kernel) rfl (Or.inl rfl)) (cM (bS (show List.Nodup [(Str.ofString "place"),"told","named"] from by decide+kernel) rfl (Or.inl rfl)) jK)))) (fun _ _ _=>(t6 (dr (bO (Nf (so hr)) (aa 0) (aa 2) (by with_unfolding_all rfl))))) (fun _ _ _=>(aq (aa 1)))) (av (pE rfl fH.nd rfl rfl (bt.of (own:=["place","told"]) (kp:=[4]) (kn:=["fed_by"]) (sc:=lj.1) (N:=jT) rfl rfl (by decide+kernel)) (cQ (k6 (aF (aa 0) ae (fun _ _=>rfl)) rfl T.z_enumerate)) (fun _ _ _=>(lV rfl (cM (bS (show List.Nodup [(Str.ofString "place"),"told","fed_by"] from by decide+kernel) rfl (Or.inl rfl)) (cM (bS (show List.Nodup [(Str.ofString "place"),"told","fed_by"] from by decide+kernel) rfl (Or.inl rfl)) jK)))) (fun _ _ _=>(t6 (dr (bO JH (aa 0) (aa 2) (by with_unfolding_all rfl))))) (fun _ _ _=>(aq (aa 1)))) (av (bC fH.nd rfl (Or.inl rfl) (aq (aK kP hr (by decide) rfl (ab (aa 0) (ab (aK cT hr (by decide) rfl (ab (aa 5) ag) (ak aR)) ag)) (ak (ak aR))))) (av (bC fH.nd rfl (Or.inl rfl) (aq (aK jo hr (by decide) rfl (ab (aa 1) (ab (aa 0) (ab (aa 7) (ab (aa 3) ag)))) (ak (ak (ak (ak aR))))))) (av (bC fH.nd rfl (Or.inl rfl) (aq (ax cD (aF (aa 0) ae (fun _ _=>rfl)) (aa 5)))) (av (bC fH.nd rfl (Or.inl rfl) (aq (ax cD (aK fY hr (by decide) rfl (ab (aF (aa 0) ae (fun _ _=>rfl)) (ab (aa 7) ag)) (ak (ak aR))) (aK fY hr (by decide) rfl (ab (aF (aa 1) ae (fun _ _=>rfl)) (ab (aa 8) ag)) (ak (ak aR)))))) (av (bC fH.nd rfl (Or.inl rfl) (aq (ax cD (aK gZ hr (by decide) rfl (ab (aa 6) (ab (aa 7) ag)) (ak (ak aR))) (aK gZ hr (by decide) rfl (ab (aF (aa 1) ae (fun _ _=>rfl)) (ab (aa 8) ag)) (ak (ak aR)))))) (av (sZ (dt g7 hr (by decide) rfl (aH (aq (aa 9)) b8) (aJ bL))) (av (sZ (dt g7 hr (by decide) rfl (aH (aq (aa 11)) b8) (aJ bL))) (av (sZ (aq (aK mB hr (by decide) rfl (ab (bh (ab (aa 9) (ab (aa 10) (ab (aa 11) ag)))) ag) (ak aR)))) (bf (eM (aq (bh (ab (aa 9) (ab (aa 10) (ab (aa 11) ag))))))))))))))))))))),hm,F.kp,F.binds fun _ _ _ _ _ _ us hl=>match us,hl with | [_,_,_],_=>rfl⟩
abbrev fR:Stmt:=top 42
noncomputable abbrev oM:List Str:=["script","k"]
noncomputable def tU:{b:List Stmt // aP fR=b}:=⟨_,by conv=>lhs;whnf⟩
noncomputable def mY:{b:Scope // aC fR=b}:=⟨_,by conv=>lhs;whnf⟩
theorem vQ:aW oM ["script","k"] mY.1:=⟨rfl,rfl,rfl,by decide+kernel,rfl,by decide+kernel,by decide+kernel⟩
def oI:FS:=(dW (zV (b2 P6 (af 1) (aM fA (ah (af 0) aI))) (fF (e2 cm (af 0) (af 1))) uq) (fF (eC (.int 0))))
def eg:List D->R D:=oQ oM oI
theorem vM(T:Tp K mg cl)(h:Def K mg "_law_cell_at" fR):Callee P w K mg base 1 "_law_cell_at" 2 eg:=by
 obtain⟨f,fd,F,hm⟩:=h;exact⟨f,fd,_,bG (k:=0) tU.2 mY.2 F vQ (fun dI A outer s H E hr=>(aV (iM (bO Qp (aa 1) (bA fP rfl T.z_len PySem.boot_len (ab (aa 0) ag)) (cq _)) (aQ (bF (aF (aa 0) (aa 1) (fun _ _=>rfl)))) gu) (aQ (bF ae)))),hm,F.kp,F.binds fun _ _ _ _ _ _ us hl=>match us,hl with | [_,_],_=>rfl⟩
abbrev jV:Stmt:=top 43
noncomputable abbrev l3:List Str:=["cell","k","number"]
noncomputable def zj:{b:List Stmt // aP jV=b}:=⟨_,by conv=>lhs;whnf⟩
noncomputable def sd:{b:Scope // aC jV=b}:=⟨_,by conv=>lhs;whnf⟩
theorem oW:aW l3 ["cell","k"] sd.1:=⟨rfl,rfl,rfl,by decide+kernel,rfl,by decide+kernel,by decide+kernel⟩
def uv:FS:=(dW (zV (b2 Q6 (af 0) (e2 C2 (eC (.int 10)) (eC (.int 18)))) (fF (e2 je (e2 DT (e2 Am (af 0) (e2 C2 (eC (.int 10)) (eC (.int 18)))) (e2 gI (eC (.int 28)) (af 1))) (e2 C2 (eC (.int 2)) (eC (.int 28))))) uq) (dW (jN 2 (e2 je (e2 gI (e2 cx (e2 cx (af 0) (e2 gI (eC (.int 1013)) (af 1))) (eC (.int 1))) (eC (.int 16807))) (eC (.int 2147483647)))) (dW (jN 2 (e2 je (e2 gI (af 2) (af 2)) (eC (.int 2147483629)))) (fF (e2 lK (e2 je (e2 gI (af 2) (eC (.int 39373))) (eC (.int 2147483587))) (eC (.int 8)))))))
def cc:List D->R D:=oQ l3 uv
theorem AL(T:Tp K mg cl)(h:Def K mg "_law_stir" jV):Callee P w K mg base 1 "_law_stir" 2 cc:=by
 obtain⟨f,fd,F,hm⟩:=h;exact⟨f,fd,_,bG (k:=0) zj.2 sd.2 F oW (fun dI A outer s H E hr=>(aV (iM (bO P_ (aa 0) (ax FU ae ae) (cq _)) (aQ (bF (ax jb (ax J4 (ax yD (aa 0) (ax FU ae ae)) (ax jq ae (aa 1))) (ax FU ae ae)))) gu) (aV (c8 oW.nd rfl (Or.inl rfl) (ax jb (ax jq (ax cD (ax cD (aa 0) (ax jq ae (aa 1))) ae) ae) ae)) (aV (c8 oW.nd rfl (Or.inl rfl) (ax jb (ax jq (aa 2) (aa 2)) ae)) (aQ (bF (ax qP (ax jb (ax jq (aa 2) ae) ae) ae))))))),hm,F.kp,F.binds fun _ _ _ _ _ _ us hl=>match us,hl with | [_,_],_=>rfl⟩
abbrev i_:Stmt:=top 44
noncomputable abbrev nF:List Str:=["wires"]
noncomputable def xW:{b:List Stmt // aP i_=b}:=⟨_,by conv=>lhs;whnf⟩
noncomputable def pX:{b:Scope // aC i_=b}:=⟨_,by conv=>lhs;whnf⟩
theorem y_:aW nF ["wires"] pX.1:=⟨rfl,rfl,rfl,by decide+kernel,rfl,by decide+kernel,by decide+kernel⟩
def si:FS:=(fF (eNew (KO (kC (ah (cG (ah (eC (.str "vote")) (ah (aM ip (ah (af 0) aI)) (ah (eC (.bl false)) aI)))) aI)) (eC (.int 3)))))
def gh:List D->R D:=oQ nF si
theorem yH(T:Tp K mg cl)(h:Def K mg "_law_votes" i_):Callee P w K mg base 1 "_law_votes" 1 gh:=by
 obtain⟨f,fd,F,hm⟩:=h;exact⟨f,fd,_,bG (k:=0) xW.2 pX.2 F y_ (fun dI A outer s H E hr=>(aQ (bF (bX (Jc (er (ab (bh (ab cw (ab (eP ki rfl T.z_tuple PyProof.Rows.boot_tuple (ab (aa 0) ag)) (ab kK ag)))) ag)) ae))))),hm,F.kp,F.binds fun _ _ _ _ _ _ us hl=>match us,hl with | [_],_=>rfl⟩
abbrev gT:Stmt:=top 45
noncomputable abbrev d3:List Str:=["cell","threes","number","kind","some","found"]
noncomputable def vD:{b:List Stmt // aP gT=b}:=⟨_,by conv=>lhs;whnf⟩
noncomputable def fQ:{b:Scope // aC gT=b}:=⟨_,by conv=>lhs;whnf⟩
theorem gH:aW d3 ["cell","threes"] fQ.1:=⟨rfl,rfl,rfl,by decide+kernel,rfl,by decide+kernel,by decide+kernel⟩
def md:FZ:=(bH (cF 2 (xP (aM cc (ah (af 0) (ah (eC (.int 0)) aI))))) (bH (cF 3 (xP (e2 cm (eNew (kC (ah (eC (.str "and")) (ah (eC (.str "or")) (ah (eC (.str "xor")) (ah (eC (.str "vote")) (ah (eC (.str "not")) aI))))))) (e2 je (af 2) (eC (.int 5)))))) (bH (cF 4 (oH (iP (dE (EA [((Sum.inr "not":Key),V.int 1),((Sum.inr "vote":Key),V.int 3)] (af 3) (eC (.int 2))))) (sr 0) I_ (xT (e2 cm (af 2) (e2 je (aM cc (ah (af 1) (ah (e2 cx (eC (.int 1)) (af 0)) aI))) (aM fA (ah (af 2) aI))))) ["k"] [0,1])) (bH (cF 5 (sQ (ck (dE (eC (.int 3))) (aD 0) fI (cG (ah (af 2) (ah (aM ip (ah (eNew (ck (cP (af 3)) (aD 0) fI (e2 cm (af 0) (af 1)) ["own"] [0])) aI)) (ah (e2 qB (e2 je (e2 lK (af 1) (eC (.int 5))) (eC (.int 7))) (eC (.int 0))) aI)))) ["k"] [2,3,4]))) (bH (zH (bP (b2 qB (e2 je (e2 lK (af 2) (eC (.int 35))) (eC (.int 12))) (eC (.int 0)))) (IA (hJ 5) (xP (eC (.int 2))) (xT (cG (ah (af 3) (ah (aM ip (ah (eNew (ck (cP (af 4)) (aD 0) fI (e2 cm (af 0) (eC (.int 0))) ["own"] [])) aI)) (ah (e2 cm (e2 cm (af 5) (eC (.int 2))) (eC (.int 2))) aI)))))) nJ) (xj 5 (lJ (xP (af 5)))))))))
def vy:List V3->bu->R3 V3:=sE d3 md
def iF:List V3->bu->R3 V3:=vv d3 md
theorem x6(T:Tp K mg cl)(h:Def K mg "_law_copies" gT)(cI:Callee P w K mg base 1 "_law_stir" 2 cc):cJ P w K mg base cl 2 "_law_copies" 2 vy:=by
 obtain⟨f,fd,F,hm⟩:=h;exact⟨f,fd,_,du (k:=1) vD.2 fQ.2 F gH (fun dI A outer s H E hr=>(av (bC gH.nd rfl (Or.inr rfl) (aq (aK cI hr (by decide) rfl (ab (aa 0) (ab ae ag)) (ak (ak aR))))) (av (bC gH.nd rfl (Or.inr rfl) (aq (aF (bX (er (ab cw (ab cw (ab cw (ab cw (ab cw ag))))))) (ax jb (aa 2) ae) (fun _ _=>rfl)))) (av (bC gH.nd rfl (Or.inr rfl) (Cd rfl (bt.of (own:=["k"]) (kp:=[0,1]) (kn:=["cell","threes"]) (sc:=fQ.1) (N:=d3) rfl rfl (by decide+kernel)) (cQ (cf (IL (so hr) (qm uN tR (qm uN tR B9)) rfl rfl (by simp) (fun _ _ _ h=>h) (by decide) (aa 3) ae ⟨rfl,rfl,rfl,rfl⟩ (IY (qm uN tR (qm uN tR B9)) rfl rfl (by simp) (by decide))) rfl T.z_range)) (fun _ _ _=>(bS (show List.Nodup [(Str.ofString "k"),"cell","threes"] from by decide+kernel) rfl (Or.inl rfl))) (fun _ _ _=>wd) (fun _ _ _=>(pW (aF (aa 2) (ax jb (aK cI hr (by decide) rfl (ab (aa 1) (ab (ax cD ae (aa 0)) ag)) (ak (ak aR))) (bA fP rfl T.z_len PySem.boot_len (ab (aa 2) ag))) (fun _ _=>rfl)))))) (av (rP rfl gH.nd rfl rfl (bt.of (own:=["k"]) (kp:=[2,3,4]) (kn:=["number","kind","some"]) (sc:=fQ.1) (N:=d3) rfl rfl (by decide+kernel)) (cf ae rfl T.z_range) (fun _ _ _=>(aA (show List.Nodup [(Str.ofString "k"),"number","kind","some"] from by decide+kernel) rfl (Or.inr rfl))) (fun _ _ _=>bB) (fun _ _ _=>(bh (ab (aa 2) (ab (eP ki rfl T.z_tuple PyProof.Rows.boot_tuple (ab (bX (cb rfl (bt.of (own:=["own"]) (kp:=[0]) (kn:=["k"]) rfl rfl rfl) (bJ (aa 3)) (fun _ _ _=>(aA (show List.Nodup [(Str.ofString "own"),"k"] from by decide+kernel) rfl (Or.inl rfl))) (fun _ _ _=>bB) (fun _ _ _=>(aF (aa 0) (aa 1) (fun _ _=>rfl))))) ag)) (ab (pU (ng hr.units) (ax jb (ax qP (aa 1) ae) ae) ae (cq _)) ag)))))) (av (kh (dr (bO (ng hr.units) (ax jb (ax qP (aa 2) ae) ae) ae (cq _))) (bf (EW (pW (bh (ab (aa 3) (ab (eP ki rfl T.z_tuple PyProof.Rows.boot_tuple (ab (bX (cb rfl (bt.of (own:=["own"]) (kp:=[]) (kn:=[]) (sc:=fQ.1) (N:=d3) rfl rfl (by decide+kernel)) (bJ (aa 4)) (fun _ _ _=>(aA (show List.Nodup [(Str.ofString "own")] from by decide+kernel) rfl (Or.inl rfl))) (fun _ _ _=>bB) (fun _ _ _=>(aF (aa 0) ae (fun _ _=>rfl))))) ag)) (ab (aF (aF (aa 5) ae (fun _ _=>rfl)) ae (fun _ _=>rfl)) ag))))) (Ey (PX.go (c7 5)) (PX.go (aq ae)) set_list))) eu) (s_ 5 (bf (eM (aq (aa 5))))))))))),hm,F.kp,F.binds fun _ _ _ _ _ _ us hl=>match us,hl with | [_,_],_=>rfl⟩
abbrev lp:Stmt:=top 46
noncomputable abbrev fj:List Str:=["script","most","head","many","ins","threes","gates","k","cell","last","outs","number","some"]
noncomputable def AQ:{b:List Stmt // aP lp=b}:=⟨_,by conv=>lhs;whnf⟩
noncomputable def f9:{b:Scope // aC lp=b}:=⟨_,by conv=>lhs;whnf⟩
theorem bZ:aW fj ["script","most"] f9.1:=⟨rfl,rfl,rfl,by decide+kernel,rfl,by decide+kernel,by decide+kernel⟩
def nT:FZ:=(zH (bP (b2 Eg (e2 je (aM cc (ah (af 2) (ah (e2 cx (eC (.int 1)) (af 7)) aI))) (eC (.int 4))) (eC (.int 0)))) (bH (IA (hJ 5) (xP (af 7)) (xP (aM ip (ah (eNew (ck (dE (eC (.int 3))) (aD 0) fI (e2 cx (e2 cx (e2 gI (eC (.int 3)) (af 1)) (aM fA (ah (af 2) aI))) (af 0)) ["j"] [3,6])) aI)))) (cF 6 (xP (e2 cx (af 6) (aM gh (ah (cG (ah (e2 gI (eC (.int 3)) (af 7)) (ah (e2 cx (e2 gI (eC (.int 3)) (af 7)) (eC (.int 1))) (ah (e2 cx (e2 gI (eC (.int 3)) (af 7)) (eC (.int 2))) aI)))) aI)))))) nJ)
def nC:FZ:=(bH (cF 6 (x2 cx (xP (af 6)) (gA iF (bE (xP (af 8)) (bE (hJ 5) fw))))) (bH (cF 9 (xP (aM ip (ah (eNew (ck (dE (eC (.int 3))) (aD 0) fI (e2 cx (e2 Am (e2 cx (e2 gI (eC (.int 3)) (af 1)) (aM fA (ah (af 2) aI))) (eC (.int 3))) (af 0)) ["j"] [3,6])) aI)))) (bH (zH (bP (b2 Eg (e2 je (aM cc (ah (af 8) (ah (eC (.int 9)) aI))) (eC (.int 3))) (eC (.int 0)))) (bH (cF 6 (xP (e2 cx (af 6) (aM gh (ah (af 9) aI))))) (cF 9 (xP (aM ip (ah (eNew (ck (cP (af 9)) (aD 0) fI (e2 cx (af 0) (eC (.int 3))) ["one"] [])) aI))))) nJ) (pd 5 (xP (af 9))))))
def nK:FZ:=(bH (cF 11 (xP (aM cc (ah (af 2) (ah (e2 cx (eC (.int 21)) (af 7)) aI))))) (bH (cF 12 (xT (e2 cm (af 5) (e2 Am (e2 Am (aM fA (ah (af 5) aI)) (eC (.int 1))) (e2 je (af 11) (aM Cs (ah (aM fA (ah (af 5) aI)) (ah (eC (.int 3)) aI)))))))) (bH (zH (bP (b2 qB (e2 je (e2 lK (af 11) (eC (.int 8))) (eC (.int 6))) (eC (.int 0)))) (cF 12 (xP (Ke (af 12)))) nJ) (bH (zH (bP (b2 qB (e2 je (e2 lK (af 11) (eC (.int 48))) (eC (.int 9))) (eC (.int 0)))) (cF 12 (xP (cG (ah (e2 cm (af 12) (eC (.int 0))) (ah (e2 cm (af 12) (eC (.int 0))) (ah (e2 cm (af 12) (eC (.int 1))) aI)))))) nJ) (pd 10 (xP (cG (ah (e2 cx (e2 cm (eC (.str "uvw")) (af 7)) (eC (.str "out"))) (ah (af 12) aI)))))))))
def qD:FZ:=(bH (cF 2 (xP (aM eg (ah (af 0) (ah (eC (.int 0)) aI))))) (bH (cF 3 (xP (e2 cx (eC (.int 1)) (e2 je (aM cc (ah (af 2) (ah (eC (.int 0)) aI))) (af 1))))) (bH (cF 4 (oH (iP (dE (af 3))) (sr 0) I_ (xP (cG (ah (e2 cx (e2 cm (eC (.str "abcdef")) (af 0)) (eC (.str "in"))) (ah (eC (.int 3)) aI)))) ["k"] [])) (bH (cF 5 (sQ (ck (dE (af 3)) (aD 0) fI (cG (ah (e2 gI (eC (.int 3)) (af 0)) (ah (e2 cx (e2 gI (eC (.int 3)) (af 0)) (eC (.int 1))) (ah (e2 cx (e2 gI (eC (.int 3)) (af 0)) (eC (.int 2))) aI)))) ["k"] []))) (bH (cF 6 (xP (eNew (kC aI)))) (bH (p_ (iP (dE (af 3))) (sr 7) nT) (bH (p_ (iP (cP (MO (af 0) (rT (eC (.int 1))) (rT (eC (.int 5)))))) (sr 8) nC) (bH (cF 10 (sQ (kC aI))) (bH (p_ (iP (dE (e2 cx (eC (.int 1)) (e2 je (aM cc (ah (af 2) (ah (eC (.int 20)) aI))) (eC (.int 3)))))) (sr 7) nK) (xj 10 (lJ (xP (cG (ah (af 4) (ah (af 6) (ah (af 10) aI))))))))))))))))
def AS:List V3->bu->R3 V3:=sE fj qD
def l6:List V3->bu->R3 V3:=vv fj qD
theorem Di(T:Tp K mg cl)(h:Def K mg "_law_net" lp)(iW:Callee P w K mg base 1 "_law_cell_at" 2 eg)(cI:Callee P w K mg base 1 "_law_stir" 2 cc)(kx:Callee P w K mg base 1 "_law_votes" 1 gh)(k3:cJ P w K mg base cl 2 "_law_copies" 2 iF):cJ P w K mg base cl 3 "_law_net" 2 AS:=by
 obtain⟨f,fd,F,hm⟩:=h;exact⟨f,fd,_,du (k:=2) AQ.2 f9.2 F bZ (fun dI A outer s H E hr=>(av (bC bZ.nd rfl (Or.inl rfl) (aq (aK iW hr (by decide) rfl (ab (aa 0) (ab ae ag)) (ak (ak aR))))) (av (bC bZ.nd rfl (Or.inr rfl) (aq (ax cD ae (ax jb (aK cI hr (by decide) rfl (ab (aa 2) (ab ae ag)) (ak (ak aR))) (aa 1))))) (av (pE rfl bZ.nd rfl rfl (bt.of (own:=["k"]) (kp:=[]) (kn:=[]) (sc:=f9.1) (N:=fj) rfl rfl (by decide+kernel)) (cQ (cf (aa 3) rfl T.z_range)) (fun _ _ _=>(bS (show List.Nodup [(Str.ofString "k")] from by decide+kernel) rfl (Or.inl rfl))) (fun _ _ _=>wd) (fun _ _ _=>(aq (bh (ab (ax cD (aF cw (aa 0) (fun _ _=>rfl)) cw) (ab ae ag)))))) (av (rP rfl bZ.nd rfl rfl (bt.of (own:=["k"]) (kp:=[]) (kn:=[]) (sc:=f9.1) (N:=fj) rfl rfl (by decide+kernel)) (cf (aa 3) rfl T.z_range) (fun _ _ _=>(aA (show List.Nodup [(Str.ofString "k")] from by decide+kernel) rfl (Or.inl rfl))) (fun _ _ _=>bB) (fun _ _ _=>(bh (ab (ax jq ae (aa 0)) (ab (ax cD (ax jq ae (aa 0)) ae) (ab (ax cD (ax jq ae (aa 0)) ae) ag)))))) (av (bC bZ.nd rfl (Or.inr rfl) (aq (bX (er ag)))) (av (jg PassesOwn.never rfl (cQ (cf (aa 3) rfl T.z_range)) (bS bZ.nd rfl (Or.inl rfl)) (bf (kh (dr (bO CV (ax jb (aK cI hr (by decide) rfl (ab (aa 2) (ab (ax cD ae (aa 7)) ag)) (ak (ak aR))) ae) ae (cq _))) (av (EW (aq (eP ki rfl T.z_tuple PyProof.Rows.boot_tuple (ab (bX (cb rfl (bt.of (own:=["j"]) (kp:=[3,6]) (kn:=["many","gates"]) (sc:=f9.1) (N:=fj) rfl rfl (by decide+kernel)) (cf ae rfl T.z_range) (fun _ _ _=>(aA (show List.Nodup [(Str.ofString "j"),"many","gates"] from by decide+kernel) rfl (Or.inl rfl))) (fun _ _ _=>bB) (fun _ _ _=>(ax cD (ax cD (ax jq ae (aa 1)) (bA fP rfl T.z_len PySem.boot_len (ab (aa 2) ag))) (aa 0))))) ag))) (Ey (PX.go (c7 5)) (PX.go (aq (aa 7))) set_list)) (bf (bC bZ.nd rfl (Or.inr rfl) (aq (ax cD (aa 6) (aK kx hr (by decide) rfl (ab (bh (ab (ax jq ae (aa 7)) (ab (ax cD (ax jq ae (aa 7)) ae) (ab (ax cD (ax jq ae (aa 7)) ae) ag)))) ag) (ak aR))))))) eu))) (av (jg PassesOwn.never rfl (cQ (bJ (Gi (aa 0) (qi ae) (qi ae)))) (bS bZ.nd rfl (Or.inl rfl)) (av (bC bZ.nd rfl (Or.inr rfl) (NV cD (aq (aa 6)) (dt k3 hr (by decide) rfl (aH (aq (aa 8)) (aH (c7 5) b8)) (aJ (aJ bL))))) (av (bC bZ.nd rfl (Or.inl rfl) (aq (eP ki rfl T.z_tuple PyProof.Rows.boot_tuple (ab (bX (cb rfl (bt.of (own:=["j"]) (kp:=[3,6]) (kn:=["many","gates"]) (sc:=f9.1) (N:=fj) rfl rfl (by decide+kernel)) (cf ae rfl T.z_range) (fun _ _ _=>(aA (show List.Nodup [(Str.ofString "j"),"many","gates"] from by decide+kernel) rfl (Or.inl rfl))) (fun _ _ _=>bB) (fun _ _ _=>(ax cD (ax yD (ax cD (ax jq ae (aa 1)) (bA fP rfl T.z_len PySem.boot_len (ab (aa 2) ag))) ae) (aa 0))))) ag)))) (av (kh (dr (bO CV (ax jb (aK cI hr (by decide) rfl (ab (aa 8) (ab ae ag)) (ak (ak aR))) ae) ae (cq _))) (av (bC bZ.nd rfl (Or.inr rfl) (aq (ax cD (aa 6) (aK kx hr (by decide) rfl (ab (aa 9) ag) (ak aR))))) (bf (bC bZ.nd rfl (Or.inl rfl) (aq (eP ki rfl T.z_tuple PyProof.Rows.boot_tuple (ab (bX (cb rfl (bt.of (own:=["one"]) (kp:=[]) (kn:=[]) (sc:=f9.1) (N:=fj) rfl rfl (by decide+kernel)) (bJ (aa 9)) (fun _ _ _=>(aA (show List.Nodup [(Str.ofString "one")] from by decide+kernel) rfl (Or.inl rfl))) (fun _ _ _=>bB) (fun _ _ _=>(ax cD (aa 0) ae)))) ag)))))) eu) (bf (o4 rfl (Or.inl rfl) (aq (aa 9)))))))) (av (bC bZ.nd rfl (Or.inl rfl) (qM (er ag))) (av (jg PassesOwn.never rfl (cQ (cf (ax cD ae (ax jb (aK cI hr (by decide) rfl (ab (aa 2) (ab ae ag)) (ak (ak aR))) ae)) rfl T.z_range)) (bS bZ.nd rfl (Or.inl rfl)) (av (bC bZ.nd rfl (Or.inl rfl) (aq (aK cI hr (by decide) rfl (ab (aa 2) (ab (ax cD ae (aa 7)) ag)) (ak (ak aR))))) (av (bC bZ.nd rfl (Or.inl rfl) (pW (aF (aa 5) (ax yD (ax yD (bA fP rfl T.z_len PySem.boot_len (ab (aa 5) ag)) ae) (ax jb (aa 11) (bA (LA rfl) rfl T.z_min PyProof.Rows.boot_min (ab (bA fP rfl T.z_len PySem.boot_len (ab (aa 5) ag)) (ab ae ag))))) (fun _ _=>rfl)))) (av (kh (dr (bO (ng hr.units) (ax jb (ax qP (aa 11) ae) ae) ae (cq _))) (bf (bC bZ.nd rfl (Or.inl rfl) (aq (Es (aa 12) (qi (HH ae)))))) eu) (av (kh (dr (bO (ng hr.units) (ax jb (ax qP (aa 11) ae) ae) ae (cq _))) (bf (bC bZ.nd rfl (Or.inl rfl) (aq (bh (ab (aF (aa 12) ae (fun _ _=>rfl)) (ab (aF (aa 12) ae (fun _ _=>rfl)) (ab (aF (aa 12) ae (fun _ _=>rfl)) ag))))))) eu) (bf (o4 rfl (Or.inl rfl) (aq (bh (ab (ax cD (aF cw (aa 7) (fun _ _=>rfl)) cw) (ab (aa 12) ag))))))))))) (s_ 10 (bf (eM (aq (bh (ab (aa 4) (ab (aa 6) (ab (aa 10) ag)))))))))))))))))),hm,F.kp,F.binds fun _ _ _ _ _ _ us hl=>match us,hl with | [_,_],_=>rfl⟩
abbrev fJ:Stmt:=top 47
noncomputable abbrev fL:List Str:=["net","ins"]
noncomputable def tI:{b:List Stmt // aP fJ=b}:=⟨_,by conv=>lhs;whnf⟩
noncomputable def gy:{b:Scope // aC fJ=b}:=⟨_,by conv=>lhs;whnf⟩
theorem oB:aW fL ["net"] gy.1:=⟨rfl,rfl,rfl,by decide+kernel,rfl,by decide+kernel,by decide+kernel⟩
def oF:FS:=(dW (jN 1 (eNew (ck (cP (e2 cm (af 0) (eC (.int 0)))) (eJ 2 (bw (aD 0) (bw (aD 1) eR))) fI (cG (ah (e2 cx (eC (.str "n")) (af 0)) (ah (af 1) aI))) ["name","width"] []))) (fF (cG (ah (af 1) (ah (e2 cm (af 0) (eC (.int 1))) (ah (eNew (ck (cP (e2 cm (af 0) (eC (.int 2)))) (eJ 2 (bw (aD 0) (bw (aD 1) eR))) fI (cG (ah (e2 cx (eC (.str "n")) (af 0)) (ah (af 1) aI))) ["name","wires"] [])) aI))))))
def iR:List D->R D:=oQ fL oF
theorem vJ(T:Tp K mg cl)(h:Def K mg "_law_renamed" fJ):Callee P w K mg base 1 "_law_renamed" 1 iR:=by
 obtain⟨f,fd,F,hm⟩:=h;exact⟨f,fd,_,bG (k:=0) tI.2 gy.2 F oB (fun dI A outer s H E hr=>(aV (xu rfl oB.nd rfl rfl (bt.of (own:=["name","width"]) (kp:=[]) (kn:=[]) (sc:=gy.1) (N:=fL) rfl rfl (by decide+kernel)) (bJ (aF (aa 0) ae (fun _ _=>rfl))) (fun _ _ _=>(dP rfl (aU (aA (show List.Nodup [(Str.ofString "name"),"width"] from by decide+kernel) rfl (Or.inl rfl)) (aU (aA (show List.Nodup [(Str.ofString "name"),"width"] from by decide+kernel) rfl (Or.inl rfl)) cW)))) (fun _ _ _=>bB) (fun _ _ _=>(bh (ab (ax cD cw (aa 0)) (ab (aa 1) ag))))) (aQ (bF (bh (ab (aa 1) (ab (aF (aa 0) ae (fun _ _=>rfl)) (ab (bX (cb rfl (bt.of (own:=["name","wires"]) (kp:=[]) (kn:=[]) (sc:=gy.1) (N:=fL) rfl rfl (by decide+kernel)) (bJ (aF (aa 0) ae (fun _ _=>rfl))) (fun _ _ _=>(dP rfl (aU (aA (show List.Nodup [(Str.ofString "name"),"wires"] from by decide+kernel) rfl (Or.inl rfl)) (aU (aA (show List.Nodup [(Str.ofString "name"),"wires"] from by decide+kernel) rfl (Or.inl rfl)) cW)))) (fun _ _ _=>bB) (fun _ _ _=>(bh (ab (ax cD cw (aa 0)) (ab (aa 1) ag)))))) ag)))))))),hm,F.kp,F.binds fun _ _ _ _ _ _ us hl=>match us,hl with | [_],_=>rfl⟩
abbrev CG:Stmt:=top 48
noncomputable abbrev pT:List Str:=["script","one","other","head","pairs","place","both","beside","whole","sure"]
noncomputable def KW:{b:List Stmt // aP CG=b}:=⟨_,by conv=>lhs;whnf⟩
noncomputable def A9:{b:Scope // aC CG=b}:=⟨_,by conv=>lhs;whnf⟩
theorem oS:aW pT ["script"] A9.1:=⟨rfl,rfl,rfl,by decide+kernel,rfl,by decide+kernel,by decide+kernel⟩
def By:FZ:=(zH (bP (b2 Eg (e2 je (aM cc (ah (af 3) (ah (e2 cx (eC (.int 200)) (af 5)) aI))) (eC (.int 4))) (eC (.int 0)))) (pd 4 (xP (cG (ah (e2 je (aM cc (ah (af 3) (ah (e2 cx (eC (.int 210)) (af 5)) aI))) (aM fA (ah (e2 cm (af 1) (eC (.int 2))) aI))) (ah (af 5) aI))))) nJ)
def uP:FZ:=(bH (cF 1 (gA l6 (bE (xP (af 0)) (bE (xP (eC (.int 2))) fw)))) (bH (cF 2 (xg iR (bE (gA l6 (bE (xP (MO (af 0) (rT (eC (.int 5))) Fg)) (bE (xP (eC (.int 2))) fw))) fw))) (bH (cF 3 (xP (aM eg (ah (af 0) (ah (eC (.int 10)) aI))))) (bH (cF 4 (sQ (kC aI))) (bH (p_ (iP (dE (aM fA (ah (e2 cm (af 2) (eC (.int 0))) aI)))) (sr 5) By) (xj 4 (bH (cF 6 (K9 (bE (x2 qB (gA jW (bE (xP (af 1)) fw)) (xP (cG (ah (eC (.str "keeps")) aI)))) (bE (x2 qB (gA jW (bE (xP (af 2)) fw)) (xP (cG (ah (eC (.str "keeps")) aI)))) fw)))) (bH (cF 7 (gA jW (bE (gA oh (bE (xP (af 1)) (bE (xP (af 2)) (bE (xP (eNew (kC aI))) fw)))) fw))) (bH (zH (bP (b2 BN (e2 qB (af 7) (cG (ah (eC (.str "keeps")) aI))) (e2 qB (af 6) (eNew (kC (ah (eC (.bl true)) (ah (eC (.bl true)) aI))))))) (lJ (xP (eC (.bl false)))) nJ) (bH (zH (bP (b2 BN (af 6) (eNew (kC (ah (eC (.bl true)) (ah (eC (.bl true)) aI)))))) (lJ (xP (eC (.bl true)))) nJ) (bH (cF 8 (gA oh (bE (xP (af 1)) (bE (xP (af 2)) (bE (xP (af 4)) fw))))) (bH (zH (P7 BN (gA jW (bE (xP (af 8)) fw)) (xP (cG (ah (eC (.str "keeps")) aI)))) (lJ (xP (eC (.bl false)))) nJ) (bH (cF 9 (xP (cG (ah (e2 cm (af 8) (eC (.int 0))) (ah (eNew (ck (cP (e2 cm (af 8) (eC (.int 1)))) (eJ 3 (bw (aD 0) (bw (aD 1) (bw (aD 2) eR)))) fI (cG (ah (af 0) (ah (af 1) (ah (eC (.bl true)) aI)))) ["kind","wires","own"] [])) (ah (e2 cm (af 8) (eC (.int 2))) aI)))))) (lJ (x2 qB (gA jW (bE (xP (af 9)) fw)) (xP (cG (ah (eC (.str "keeps")) aI))))))))))))))))))
def Qr:List V3->bu->R3 V3:=sE pT uP
def Qd:List V3->bu->R3 V3:=vv pT uP
def Br:List D->R D:=Pm pT uP
structure Cf (K:W.Frag) (mg:WM) (cl:WN):Prop where
 C_Bench:zW K (cl 0)
 N_Bench_net:eD K (cl 0) "net"
 N_Bench_many_inputs:eD K (cl 0) "many_inputs"
 N_Bench_full:eD K (cl 0) "full"
 N_Bench_in_masks:eD K (cl 0) "in_masks"
 M_Bench:mg "Bench"=some (.ref (cl 0))
 dU:LK K (cl 0) "__init__" "Bench.__init__" bY
 fS:C1 K (cl 0) "tells" "Bench.tells" cL
 dz:C1 K (cl 0) "inputs_in" "Bench.inputs_in" bU
theorem N0{K:W.Frag}{h:Heap}{mg:WM}(X:K.In h)(G:h.Ns mainGlobals mg){C0:Addr}{f0:Addr}{Vp U9:Option Addr}{V0:Array (Option Value)}{Vs U_ VN VG Tc Vr:Value}{f1:Addr}{VD Vm:Option Addr}{Vd:Array (Option Value)}{VI VY Vq VA Td VB:Value}{f2:Addr}{U8 VE:Option Addr}{MX:Array (Option Value)}{Vx Vh VS VZ Tb Vj:Value}(Rh:PySem.W.nsIn K mainGlobals "Bench"=some (some (.ref C0)))(RQ:PySem.W.plainGet K C0 Str.empty=true)(O6:PySem.W.hasDictIn K C0=true)(Ry:PySem.W.plainOver K C0=true)(Ra:PySem.W.findIn K (.ref C0) "__setattr__"=some (some (.builtin "object.__setattr__")))(Rc:PySem.W.makesIn K C0=true)(Rl:PySem.W.keepIn K (.ref C0)=true)(Bj:PySem.W.findIn K (.ref C0) "net"=some none)(j_:PySem.W.findIn K (.ref C0) "many_inputs"=some none)(ye:PySem.W.findIn K (.ref C0) "full"=some none)(n3:PySem.W.findIn K (.ref C0) "in_masks"=some none)(iy:PySem.W.findIn K (.ref C0) "__init__"=some (some (.ref f0)))(iu:PySem.W.isFn K (.ref f0)=true)(iC:K.lookup f0=some ⟨Vs,Vp, .func (PySem.W.fnOf "__init__" "Bench.__init__" (kr bY) (aP bY) (aC bY) .none U_ VN VG U9 Tc Vr),V0⟩)(dO:PySem.W.codeIn K Tc "Bench.__init__"=true)(iB:PySem.W.keepIn K (.ref f0)=true)(kO:PySem.W.findIn K (.ref C0) "tells"=some (some (.ref f1)))(kM:PySem.W.isFn K (.ref f1)=true)(kW:K.lookup f1=some ⟨VI,VD, .func (PySem.W.fnOf "tells" "Bench.tells" (kr cL) (aP cL) (aC cL) .none VY Vq VA Vm Td VB),Vd⟩)(fE:PySem.W.codeIn K Td "Bench.tells"=true)(iX:PySem.W.keepIn K (.ref f1)=true)(g9:PySem.W.findIn K (.ref C0) "inputs_in"=some (some (.ref f2)))(gY:PySem.W.isFn K (.ref f2)=true)(g_:K.lookup f2=some ⟨Vx,U8, .func (PySem.W.fnOf "inputs_in" "Bench.inputs_in" (kr bU) (aP bU) (aC bU) .none Vh VS VZ VE Tb Vj),MX⟩)(dv:PySem.W.codeIn K Tb "Bench.inputs_in"=true)(eA:PySem.W.keepIn K (.ref f2)=true):∃cl,Cf K mg cl:=by
 exact⟨fun n=>C0,⟨RQ,O6,Ry,Ra⟩,Bj,j_,ye,n3,PySem.W.mg_of X G Rh,⟨_,_,xQ (st:=bY) iC dO iB,⟨Rc,iy,iu,Rl⟩⟩,⟨_,_,xQ (st:=cL) kW fE iX,⟨kO,kM,iX⟩⟩,⟨_,_,xQ (st:=bU) g_ dv eA,⟨g9,gY,eA⟩⟩⟩
theorem Ly{K:W.Frag}{mg:WM}{f:Addr}{fd:FuncData}{cl:WN}(T:Tp K mg cl)(mq:Def K mg "has_widths" gr)(rN:Def K mg "vote_of" lC)(nV:Def K mg "gate_mask" i9)(jl:Def K mg "in_wire_masks" ee)(pI:Def K mg "masks_at" j2)(mr:Def K mg "wire_masks" gU)(n4:Def K mg "out_masks" i4)(vj:Def K mg "bit_at" nO)(mj:Def K mg "all_inputs" gR)(rE:Def K mg "mask_of" k5)(rF:Def K mg "in_mask" lq)(nY:Def K mg "unlike_at" iZ)(rC:Def K mg "lost_at" lM)(pF:Def K mg "bad_sets" j0)(iA:Def K mg "keeping_faults" dM)(dU:LK K (cl 0) "__init__" "Bench.__init__" bY)(fS:C1 K (cl 0) "tells" "Bench.tells" cL)(dz:C1 K (cl 0) "inputs_in" "Bench.inputs_in" bU)(yk:Def K mg "keeps" pR)(mC:Def K mg "check_fits" gz)(kR:Def K mg "outs_of_ins" fM)(kY:Def K mg "check_names" fO)(ml:Def K mg "check_room" gW)(mn:Def K mg "many_wires" gK)(rG:Def K mg "rewired" lz)(jn:Def K mg "rewired_gates" d6)(ka:Def K mg "rewired_outs" eE)(kT:Def K mg "one_numbers" fD)(jm:Def K mg "other_numbers" d9)(vh:Def K mg "joined" m6)(kU:Def K mg "_law_cell_at" fR)(pH:Def K mg "_law_stir" jV)(n5:Def K mg "_law_votes" i_)(mi:Def K mg "_law_copies" gT)(rH:Def K mg "_law_net" lp)(kQ:Def K mg "_law_renamed" fJ)(F:Cm K "law" "law" CG f fd):js P w K mg base vI 11 f fd ["script"] (Gy K 1 Br):=by
 have mm:=xc (P:=P) (w:=w) (base:=base) T mq;have jE:=DM (P:=P) (w:=w) (base:=base) T rN;have nW:=zE (P:=P) (w:=w) (base:=base) T nV jE;have fq:=sO (P:=P) (w:=w) (base:=base) T jl;have XP_in_wire_masks:=fq.p;have iE:=An (P:=P) (w:=w) (base:=base) T pI;have XK_wire_masks:=w_ (P:=P) (w:=w) (base:=base) T mr iE nW fq;have kN:=XK_wire_masks.p;have XK_out_masks:=yx (P:=P) (w:=w) (base:=base) T n4 iE;have mz:=XK_out_masks.p;have vp:=Ep (P:=P) (w:=w) (base:=base) T vj;have XK_all_inputs:=xR (P:=P) (w:=w) (base:=base) T mj;have kZ:=XK_all_inputs.p;have jF:=Dn (P:=P) (w:=w) (base:=base) T rE;have rM:=D0 (P:=P) (w:=w) (base:=base) T rF jF;have nU:=yP (P:=P) (w:=w) (base:=base) T nY;have rJ:=C9 (P:=P) (w:=w) (base:=base) T rC jE;have pG:=tP (P:=P) (w:=w) (base:=base) T pF 7;have ix:=qC (P:=P) (w:=w) (base:=base) T iA pG;have g6:=dO (P:=P) (w:=w) (base:=base) T dU jF rM kZ;have XK_Bench_tells:=fE (P:=P) (w:=w) (base:=base) T fS kN mz;have g8:=XK_Bench_tells.p;have XK_Bench_inputs_in:=dv (P:=P) (w:=w) (base:=base) T dz vp;have d4:=XK_Bench_inputs_in.p;have XK_keeps:=Ip (P:=P) (w:=w) (base:=base) T yk mm nU ix rJ g6 g8 d4;have XP_keeps:=XK_keeps.p;have mw:=x9 (P:=P) (w:=w) (base:=base) T mC;have XK_outs_of_ins:=vB (P:=P) (w:=w) (base:=base) T kR;have j8:=XK_outs_of_ins.p;have XK_check_names:=vA (P:=P) (w:=w) (base:=base) T kY;have g7:=XK_check_names.p;have mB:=x5 (P:=P) (w:=w) (base:=base) T ml;have cT:=xO (P:=P) (w:=w) (base:=base) T mn;have fu:=Dw (P:=P) (w:=w) (base:=base) T rG;have fY:=sJ (P:=P) (w:=w) (base:=base) T jn fu;have gZ:=u6 (P:=P) (w:=w) (base:=base) T ka fu;have kP:=vF (P:=P) (w:=w) (base:=base) T kT cT;have jo:=sP (P:=P) (w:=w) (base:=base) T jm cT fu;have XK_joined:=EC (P:=P) (w:=w) (base:=base) T vh mw cT kP jo fY gZ mB j8 g7;have XP_joined:=XK_joined.p;have iW:=vM (P:=P) (w:=w) (base:=base) T kU;have cI:=AL (P:=P) (w:=w) (base:=base) T pH;have kx:=yH (P:=P) (w:=w) (base:=base) T n5;have XK_law_copies:=x6 (P:=P) (w:=w) (base:=base) T mi cI;have k3:=XK_law_copies.p;have XK_law_net:=Di (P:=P) (w:=w) (base:=base) T rH iW cI kx k3;have XP_law_net:=XK_law_net.p;have C_law_renamed:=vJ (P:=P) (w:=w) (base:=base) T kQ;exact(du (cl:=cl) (N:=pT) (F:=uP) (k:=10) KW.2 A9.2 F oS (fun dI A outer s H E hr=>(av (bC oS.nd rfl (Or.inl rfl) (dt XP_law_net hr (by decide) rfl (aH (aq (aa 0)) (aH (aq ae) b8)) (aJ (aJ bL)))) (av (bC oS.nd rfl (Or.inl rfl) (zG C_law_renamed hr (by decide) rfl (aH (dt XP_law_net hr (by decide) rfl (aH (aq (Gi (aa 0) (qi ae) Gz)) (aH (aq ae) b8)) (aJ (aJ bL))) b8) (aJ bL))) (av (bC oS.nd rfl (Or.inl rfl) (aq (aK iW hr (by decide) rfl (ab (aa 0) (ab ae ag)) (ak (ak aR))))) (av (bC oS.nd rfl (Or.inl rfl) (qM (er ag))) (av (jg PassesOwn.never rfl (cQ (cf (bA fP rfl T.z_len PySem.boot_len (ab (aF (aa 2) ae (fun _ _=>rfl)) ag)) rfl T.z_range)) (bS oS.nd rfl (Or.inl rfl)) (bf (kh (dr (bO CV (ax jb (aK cI hr (by decide) rfl (ab (aa 3) (ab (ax cD ae (aa 5)) ag)) (ak (ak aR))) ae) ae (cq _))) (bf (o4 rfl (Or.inl rfl) (aq (bh (ab (ax jb (aK cI hr (by decide) rfl (ab (aa 3) (ab (ax cD ae (aa 5)) ag)) (ak (ak aR))) (bA fP rfl T.z_len PySem.boot_len (ab (aF (aa 1) ae (fun _ _=>rfl)) ag))) (ab (aa 5) ag)))))) eu))) (s_ 4 (av (bC oS.nd rfl (Or.inl rfl) (LI (aH (AB (ng hr.units) (dt XP_keeps hr (by decide) rfl (aH (aq (aa 1)) b8) (aJ bL)) (aq (bh (ab cw ag))) (cq _)) (aH (AB (ng hr.units) (dt XP_keeps hr (by decide) rfl (aH (aq (aa 2)) b8) (aJ bL)) (aq (bh (ab cw ag))) (cq _)) b8)))) (av (bC oS.nd rfl (Or.inl rfl) (dt XP_keeps hr (by decide) rfl (aH (dt XP_joined hr (by decide) rfl (aH (aq (aa 1)) (aH (aq (aa 2)) (aH (aq (bX (er ag))) b8))) (aJ (aJ (aJ bL)))) b8) (aJ bL))) (av (kh (dr (bO (D1 hr.units) (pU (ng hr.units) (aa 7) (bh (ab cw ag)) (cq _)) (pU (ng hr.units) (aa 6) (bX (er (ab kK (ab kK ag)))) (cq _)) (cq _))) (bf (eM (aq kK))) eu) (av (kh (dr (bO (D1 hr.units) (aa 6) (bX (er (ab kK (ab kK ag)))) (cq _))) (bf (eM (aq kK))) eu) (av (bC oS.nd rfl (Or.inl rfl) (dt XP_joined hr (by decide) rfl (aH (aq (aa 1)) (aH (aq (aa 2)) (aH (aq (aa 4)) b8))) (aJ (aJ (aJ bL))))) (av (kh (Iw (D1 hr.units) (dt XP_keeps hr (by decide) rfl (aH (aq (aa 8)) b8) (aJ bL)) (aq (bh (ab cw ag))) (cq _)) (bf (eM (aq kK))) eu) (av (bC oS.nd rfl (Or.inl rfl) (aq (bh (ab (aF (aa 8) ae (fun _ _=>rfl)) (ab (bX (cb rfl (bt.of (own:=["kind","wires","own"]) (kp:=[]) (kn:=[]) (sc:=A9.1) (N:=pT) rfl rfl (by decide+kernel)) (bJ (aF (aa 8) ae (fun _ _=>rfl))) (fun _ _ _=>(dP rfl (aU (aA (show List.Nodup [(Str.ofString "kind"),"wires","own"] from by decide+kernel) rfl (Or.inl rfl)) (aU (aA (show List.Nodup [(Str.ofString "kind"),"wires","own"] from by decide+kernel) rfl (Or.inl rfl)) (aU (aA (show List.Nodup [(Str.ofString "kind"),"wires","own"] from by decide+kernel) rfl (Or.inl rfl)) cW))))) (fun _ _ _=>bB) (fun _ _ _=>(bh (ab (aa 0) (ab (aa 1) (ab kK ag))))))) (ab (aF (aa 8) ae (fun _ _=>rfl)) ag)))))) (bf (eM (AB (ng hr.units) (dt XP_keeps hr (by decide) rfl (aH (aq (aa 9)) b8) (aJ bL)) (aq (bh (ab cw ag))) (cq _))))))))))))))))))).imp fun _ _ _ _ h=>KZ h
end K37
end
section
namespace K37
open PySem PySem.Spec PyProof.Rows L2 L3 MT
theorem Hh{a:D}{r:List D}:cm (.tup (a ::r)) (.int 0)= .ok a:=u9 (by rw[ma (by omega) (by simp)];rfl)
theorem J_{a b:D}{r:List D}:cm (.tup (a ::b ::r)) (.int 1)= .ok b:=u9 (by rw[ma (by omega) (by simp)];rfl)
theorem OC{a b c:D}{r:List D}:cm (.tup (a ::b ::c ::r)) (.int 2)= .ok c:=u9 (by rw[ma (by omega) (by simp)];rfl)
theorem IE{N:Nat}{a b c:M}:eY [.tup [mI N a,mI N b,mI N c]]= .ok (mI N fun p=>(a p && b p) || (a p && c p) || (b p && c p)):=by
 unfold eY qR;refine cy (bM ?_);exact aj (aj (aj (aj rfl rfl Hh) (aj rfl rfl J_) (tQ N a b)) (aj (aj rfl rfl Hh) (aj rfl rfl OC) (tQ N a c)) (yF N _ _)) (aj (aj rfl rfl J_) (aj rfl rfl OC) (tQ N b c)) (yF N _ _)
theorem OK(k j:Nat)(hk:k<=4)(hj:j<=4):qB (.str (kS k)) (.str (kS j))= .ok (.bl (decide (k=j))):=by
 show R.ok (D.bl (kS k==kS j))=_;congr 2
 revert hk hj
 have:∀a∈List.range 5,∀b∈List.range 5,(kS a==kS b)=decide (a=b):=by decide+kernel
 intro hk hj;exact this k (by rw[List.mem_range];omega) j (by rw[List.mem_range];omega)
theorem Ji{N kd:Nat}{xs:List M}(hk:kd<=4)(hx:xs.length=ar kd):ja [.str (kS kd), .tup (xs.map (mI N)),mI N one]= .ok (mI N fun p=>gv kd (xs.map (· p))):=by
 unfold ja rR;have q:∀j,j<=4->b2 qB (af 0) (eC (.str (kS j))) (cA m3 [.str (kS kd), .tup (xs.map (mI N)),mI N one])= .ok (decide (kd=j)):=fun j hj=>cZ (a:= .str (kS kd)) (b:= .str (kS j)) rfl rfl (OK kd j hk hj)
 have q0:=q 0 (by omega)
 have q1:=q 1 (by omega)
 have q2:=q 2 (by omega)
 have q3:=q 3 (by omega)
 match kd,hk,xs,hx with
 | 0,_,[a],_=>
   refine cy (NT.lR (rW q0 (bM (aj (a:=mI N one) (b:=mI N a) rfl (aj rfl rfl Hh) (JR N a)))))
 | 1,_,[a,b],_=>
   refine cy (bp (jr q0 rfl) (NT.lR (rW q1 (bM (aj (aj rfl rfl Hh) (aj rfl rfl J_) (tQ N a b))))))
 | 2,_,[a,b],_=>
   refine cy (bp (jr q0 rfl) (bp (jr q1 rfl) (NT.lR (rW q2 (bM (aj (aj rfl rfl Hh) (aj rfl rfl J_) (yF N a b)))))))
 | 3,_,[a,b],_=>
   refine cy (bp (jr q0 rfl) (bp (jr q1 rfl) (bp (jr q2 rfl) (NT.lR (rW q3 (bM (aj (aj rfl rfl Hh) (aj rfl rfl J_) (uO N a b))))))))
 | 4,_,[a,b,c],_=>
   refine cy (bp (jr q0 rfl) (bp (jr q1 rfl) (bp (jr q2 rfl) (bp (jr q3 rfl) (bM (aw (ds:=[.tup [mI N a,mI N b,mI N c]]) rfl IE))))))
theorem Kg{N:Nat}{ws:List M}{ns:List Nat}(hn:∀n∈ns,n < ws.length)(hl:ns.length < 1000):f6 [.lst (ws.map (mI N)), .tup (ns.map nI)]= .ok (.tup ((ns.map (j7 ws)).map (mI N))):=by
 have hz:sizeLine=16777216:=sizeLine_eq;unfold f6 ui;refine cy (bM (aw (ds:=[.lst ((ns.map (j7 ws)).map (mI N))]) (ao (cK (bR (ds:=ns.map nI) (Aj rfl) (by rw[List.length_map];omega) ?_)) rfl) rfl))
 rw[List.map_map];exact NT.bj nI _ fun n MB=>⟨[.val (nI n), .val (.lst (ws.map (mI N)))],rfl,rfl,aj (a:= .lst (ws.map (mI N))) (b:=nI n) rfl rfl (LB (hn n MB))⟩
def AY(N:Nat)(S:bu)(Hb mP Rw:D)(a5 a6 a7:Option V3):DE:=[some (.d Hb),some (.d mP),some (.d (mI N one)),some (.d Rw),some (.loc S.length),a5,a6,a7]
theorem GB{N:Nat}{S:bu}{Hb mP:D}{bad:List Int}{a5 a7:Option V3}{b:M}{ws:List M}(hl:ws.length < 10000) :
 W3 (gL (AY N S Hb mP (.tup (bad.map .int)) a5 (some (.d (mI N b))) a7) (S++[.lst (ws.map (mI N))])) fun o S1=>o= .nx (AY N S Hb mP (.tup (bad.map .int)) a5 (some (.d (mI N b))) a7)/\S1=S++[SO.lst ((ws++[fun p=>b p !=bad.contains (ws.length:Int)]).map (mI N))]:=by
 have hz:sizeLine=16777216:=sizeLine_eq;unfold gL;refine uZ (k:=S.length) rfl ⟨_,bq _ _⟩ (Oc (d:=mI N fun p=>b p !=bad.contains (ws.length:Int)) ?_ rfl ⟨_,_,rfl,bq _ _,by rw[List.length_map];omega,rfl,?_⟩)
 .have h4:(dq (S++[.lst (ws.map (mI N))]) (AY N S Hb mP (.tup (bad.map .int)) a5 (some (.d (mI N b))) a7))[4]? =some (.val (.lst (ws.map (mI N)))):=by
   unfold dq AY;show some (match res (S++[.lst (ws.map (mI N))]) (.loc S.length) with | some d=>Sl.val d | none=> .un)=_
   unfold res;rw[bq]
  refine Fy (b:=bad.contains (ws.length:Int)) (cZ (a:= .int ws.length) (b:= .tup (bad.map .int)) (aw (ds:=[.lst (ws.map (mI N))]) (ao (by unfold af;rw [h4]) rfl) (by rw[q9,List.length_map])) rfl (BK _ _)) ?_
  rw[<-GD];rfl
 .rw [c5,List.map_append];rfl
theorem yR{N:Nat}{S:bu}{ins:WJ}{bits:List M}{bad:List Int}(hb:bits.length=ins.length)(hi:ins.length < 100)(hw:∀x∈ins,x.2 < 100){Q:V3->bu->Prop}
 (h:Q (.loc S.length) (S++[.lst ((jy ins bits bad ins.length).map (mI N))])) :
 W3 (dN [.d (.lst (ins.map inD)), .d (.lst (bits.map (mI N))), .d (mI N one), .d (.tup (bad.map .int))] S) Q:=by
 have hz:sizeLine=16777216:=sizeLine_eq;unfold dN;refine Ei rfl ?_;simp only[dC,fX,List.map,List.length,List.replicate,List.cons_append,List.nil_append,Nat.reduceAdd,Nat.reduceSub];unfold ji;refine aZ (bQ (by simp) (rV (ds:=[]) rfl ⟨_,rfl,?_⟩))
 simp only[List.set];refine aZ (mK (om (ds:=dG (bits.map (mI N))) rfl ?_));have big:∀i,i<=ins.length->(jy ins bits bad i).length<=100*i:=by
  intro i hi'
  induction i with
  | zero=>simp [jy]
  | succ i ih=>
    have ih:=ih (by omega)
    have h1:ins[i]? =some ins[i]:=List.getElem?_eq_getElem (by omega)
    have h2:bits[i]? =some bits[i]:=List.getElem?_eq_getElem (by omega)
    unfold jy;rw[h1,h2];show(k_ bad bits[i] ins[i].2 (jy ins bits bad i)).length<=_;rw[lg];have:=hw ins[i] (List.getElem_mem _);omega
 refine(dQ (fun i δ S2=>(∃a b c,δ=AY N S (.lst (ins.map inD)) (.lst (bits.map (mI N))) (.tup (bad.map .int)) a b c)/\S2=S++[SO.lst ((jy ins bits bad i).map (mI N))])
  ⟨⟨_,_,_,rfl⟩,rfl⟩ ?_).mono fun o S2 ⟨fU,k4,⟨a,b,c,yq⟩,hS⟩=>⟨fU,k4,?_⟩
 .rintro i v δ S2 hv ⟨⟨a,b,c,rfl⟩,rfl⟩;obtain⟨d,hd,rfl⟩:=xE hv;rw[List.getElem?_map] at hd;have hib:i < bits.length:=by
   have:=(List.getElem?_eq_some_iff.mp hv).1;simpa [dG] using this
  have h1:ins[i]? =some ins[i]:=List.getElem?_eq_getElem (by omega)
  have h2:bits[i]? =some bits[i]:=List.getElem?_eq_getElem hib;rw[h2] at hd;cases hd;refine⟨AY N S (.lst (ins.map inD)) (.lst (bits.map (mI N))) (.tup (bad.map .int)) (some (.d (.int i))) (some (.d (mI N bits[i]))) c,rfl,?_⟩;unfold kf;have hwi:=hw ins[i] (List.getElem_mem _);refine mK (om (pQ (n:=ins[i].2) ?_ (by omega)) ?_)
  .refine aj (a:=inD ins[i]) (b:= .int 1) (aj (a:= .lst (ins.map inD)) (b:= .int i) rfl rfl (rp ?_)) rfl rfl;rw[ma (by omega) (by rw[List.length_map,Int.toNat_natCast];omega)]
   simp
  refine(dQ (fun j δ S3=>(∃c,δ=AY N S (.lst (ins.map inD)) (.lst (bits.map (mI N))) (.tup (bad.map .int)) (some (.d (.int i))) (some (.d (mI N bits[i]))) c)/\S3=S++[SO.lst ((k_ bad bits[i] j (jy ins bits bad i)).map (mI N))])
   ⟨⟨_,rfl⟩,rfl⟩ ?_).mono fun o S3 ⟨Rt,e3,⟨c3,Mv⟩,hS3⟩=>⟨Rt,e3,⟨_,_,c3,Mv⟩,?_⟩
  .rintro j v δ S3 hv ⟨⟨c3,rfl⟩,rfl⟩;refine⟨_,rfl,?_⟩;have hj:j < ins[i].2:=by
    have:=(List.getElem?_eq_some_iff.mp hv).1
    rwa [List.length_map,fG,List.length_map,List.length_range] at this
   refine(GB ?_).mono fun o S4 ⟨e4,e5⟩=>⟨_,e4,⟨_,rfl⟩,e5⟩
   rw[lg];have:=big i (by omega)
   omega
  .rw [hS3,List.length_map,fG,List.length_map,List.length_range];show _=S++[SO.lst ((match ins[i]?,bits[i]? with | some x,some b=>k_ bad b x.2 (jy ins bits bad i) | _,_=>jy ins bits bad i).map (mI N))]
   rw[h1,h2]
 have hlen:((dG (bits.map (mI N))).map V3.d).length=ins.length:=by simp [dG,hb]
 rw[hlen] at hS;subst yq hS;exact jJ (w_var rfl ⟨_,rfl,h⟩)
section
variable {N:Nat} {ins:WJ} {gs:List Gt} {os:WK} {bits:List M} {turned bad:List Int}
def yy(N:Nat)(S:bu)(nt mP tD bD:D)(a6 a7 a8:Option V3):DE:=[some (.d nt),some (.d mP),some (.d (mI N one)),some (.d tD),some (.d bD),some (.loc S.length),a6,a7,a8]
theorem DK{S:bu}{nt mP bD:D}{a8:Option V3}{g:Gt}{i:Nat}{ws:List M}(hg:sG ws.length g)(hl:ws.length < 20000) :
 W3 (jR (yy N S nt mP (.tup (turned.map .int)) bD (some (.d (.int i))) (some (.d (fB g))) a8) (S++[.lst (ws.map (mI N))])) fun o S1=>(∃c,o= .nx (yy N S nt mP (.tup (turned.map .int)) bD (some (.d (.int i))) (some (.d (fB g))) c))/\S1=S++[SO.lst ((ws++[fun p=>gF g ws p !=turned.contains (i:Int)]).map (mI N))]:=by
 have hz:sizeLine=16777216:=sizeLine_eq;have ha:=Cy g.1;unfold jR;refine aZ (bQ (by unfold yy;simp only[List.length_cons,List.length_nil];omega) (Oc (d:=mI N (gF g ws)) ?_ rfl ⟨_,rfl,?_⟩))
 .have h5:(dq (S++[.lst (ws.map (mI N))]) (yy N S nt mP (.tup (turned.map .int)) bD (some (.d (.int i))) (some (.d (fB g))) a8))[5]? =some (.val (.lst (ws.map (mI N)))):=by
   unfold dq yy;show some (match res (S++[.lst (ws.map (mI N))]) (.loc S.length) with | some d=>Sl.val d | none=> .un)=_
   unfold res;rw[bq]
  refine(aw (ds:=[.str (kS g.1), .tup ((g.2.1.map (j7 ws)).map (mI N)),mI N one]) (ao (aj (a:=fB g) (b:= .int 0) rfl rfl rfl) (ao ?_ (ao rfl rfl))) (Ji hg.1 (by rw[List.length_map];exact hg.2.1))).trans ?_
  .exact aw (ds:=[.lst (ws.map (mI N)), .tup (g.2.1.map nI)]) (ao (by unfold af;rw [h5]) (ao (aj (a:=fB g) (b:= .int 1) rfl rfl rfl) rfl)) (Kg hg.2.2 (by rw[hg.2.1];omega))
  .have:(fun p=>gv g.1 ((g.2.1.map (j7 ws)).map (· p)))=gF g ws:=by funext p;unfold gF;rw [List.map_map];rfl
   rw[this]
 .show W3 (pd 5 _ (yy N S nt mP (.tup (turned.map .int)) bD (some (.d (.int i))) (some (.d (fB g))) (some (.d (mI N (gF g ws))))) _) _;refine uZ (k:=S.length) rfl ⟨_,bq _ _⟩ (dc (d:=mI N fun p=>gF g ws p !=turned.contains (i:Int)) ?_ ⟨_,_,rfl,bq _ _,by rw[List.length_map];omega,⟨_,rfl⟩,?_⟩)
  .refine Fy (b:=turned.contains (i:Int)) (cZ (a:= .int i) (b:= .tup (turned.map .int)) rfl rfl (BK _ _)) ?_;rw[<-GD];rfl
  .rw [c5,List.map_append];rfl
theorem Fv{S:bu}(NO:mM ins gs os)(hb:bits.length=ins.length)(hS:Ab S){Q:V3->bu->Prop}(h:Q (.d (.lst ((C_ ins gs bits turned bad).map (mI N)))) S) :
 W3 (iS [.d (a_ ins gs os), .d (.lst (bits.map (mI N))), .d (mI N one), .d (.tup (turned.map .int)), .d (.tup (bad.map .int))] S) Q:=by
 have hz:sizeLine=16777216:=sizeLine_eq;unfold iS;refine mJ hS (Ei rfl ?_);simp only[dC,jw,List.map,List.length,List.replicate,List.cons_append,List.nil_append,Nat.reduceAdd,Nat.reduceSub];unfold l0;refine aZ <| bQ (by simp) <| eQ <| bb <| dc (d:= .lst (ins.map inD)) rfl <| bb <| dc (d:= .lst (bits.map (mI N))) rfl <| bb <| dc (d:=mI N one) rfl <| bb <| dc (d:= .tup (bad.map .int)) rfl <| dX <| yR hb NO.hi NO.hw ⟨_,rfl,?_⟩
 simp only[List.set];have hwd:=qI NO.hw;have hN:=NO.hi;have hG:=NO.hg;refine aZ (mK (om (ds:=dG (gs.map fB)) rfl ?_));refine(dQ (fun i δ S2=>(∃a b c,δ=yy N S (a_ ins gs os) (.lst (bits.map (mI N))) (.tup (turned.map .int)) (.tup (bad.map .int)) a b c)/\S2=S++[SO.lst ((zt gs turned (jy ins bits bad ins.length) i).map (mI N))])
  ⟨⟨_,_,_,rfl⟩,rfl⟩ ?_).mono fun o S2 ⟨fU,k4,⟨a,b,c,yq⟩,yp⟩=>⟨fU,k4,?_⟩
 .rintro i v δ S2 hv ⟨⟨a,b,c,rfl⟩,rfl⟩;obtain⟨d,hd,rfl⟩:=xE hv;rw[List.getElem?_map] at hd;cases q:gs[i]? with
  | none=>rw [q] at hd;cases hd
  | some g=>
    rw[q] at hd;cases hd;have hi:i < gs.length:=(List.getElem?_eq_some_iff.mp q).1;have hl:(zt gs turned (jy ins bits bad ins.length) i).length=cN ins+i:=by rw[w9 _ (by omega),ql hb _ (Nat.le_refl _),List.take_length]
    refine⟨yy N S (a_ ins gs os) (.lst (bits.map (mI N))) (.tup (turned.map .int)) (.tup (bad.map .int)) (some (.d (.int i))) (some (.d (fB g))) c,rfl,?_⟩;refine(DK (by rw[hl];exact NO.g i g q) (by rw[hl];omega)).mono fun o S4 ⟨⟨c4,e4⟩,e5⟩=>⟨_,e4,⟨_,_,_,rfl⟩,?_⟩
    rw[e5];show _=S++[SO.lst ((match gs[i]? with | some g=>zt gs turned (jy ins bits bad ins.length) i++[fun p=>gF g (zt gs turned (jy ins bits bad ins.length) i) p !=turned.contains (i:Int)] | none=>zt gs turned (jy ins bits bad ins.length) i).map (mI N))]
    rw[q]
 have hlen:((dG (gs.map fB)).map V3.d).length=gs.length:=by simp [dG]
 rw[hlen] at yp;subst yq yp;exact jJ (w_var rfl ⟨_,rfl,by unfold jt;exact decide_eq_true (Nat.le_refl _),⟨_,rfl⟩,_,by unfold res;rw [bq];rfl,h⟩)
def bK(N:Nat)(os:WK)(ws:List M):List D:=os.map fun x=> .tup ((tell ws x).map (mI N))
theorem IZ{S:bu}{ws:List M}(hO:os.length < 1000)(ho:∀x∈os,x.2.length < 1000/\∀w∈x.2,w < ws.length)(hS:Ab S){Q:V3->bu->Prop}(h:Q (.d (.lst (bK N os ws))) S) :
 W3 (jz [.d (a_ ins gs os), .d (.lst (ws.map (mI N)))] S) Q:=by
 have hz:sizeLine=16777216:=sizeLine_eq;unfold jz;refine mJ hS (Ei rfl ?_);simp only[dC,iY,List.map,List.length,List.replicate,List.cons_append,List.nil_append,Nat.reduceAdd,Nat.reduceSub];unfold nk;refine jJ (rV (ds:=bK N os ws) ?_ ⟨_,rfl,by unfold jt;exact decide_eq_true (Nat.le_refl _),⟨_,rfl⟩,_,by unfold res;rw [bq],h⟩)
 refine bR (ds:=os.map jA) (jf (aj (a:=a_ ins gs os) (b:= .int 2) rfl rfl rfl)) (by rw[List.length_map];omega) ?_
 unfold bK;refine NT.bj jA _ fun(x:Str × List Nat) hx=>⟨[.val (.str x.1), .val (.tup (x.2.map nI)), .val (.lst (ws.map (mI N)))],rfl,rfl,?_⟩
 exact aw (ds:=[.lst (ws.map (mI N)), .tup (x.2.map nI)]) rfl (Kg (ho x hx).2 (ho x hx).1)
end
end K37
end
section
namespace K37
open PySem PySem.Spec PyProof.Rows L2 L3 MT
open JT (cC cB ie MR qN m8)
theorem KL{N n:Nat}{f:M}:nq [mI N f, .int n]= .ok (.int (if decide (n < N) && f n then 1 else 0)):=by
 unfold nq yJ;refine cy (bM ?_);have h:=M7 N f n;show(R.bind (R.bind (R.ok (mI N f)) fun d=>R.bind (R.ok (D.int n)) fun e=>DT d e) fun d=>R.bind (R.ok (D.int 1)) fun e=>Iq d e)=_
 exact h
theorem t_{bs:List Bool}(hl:bs.length < 100000):ij [.lst (bs.map bI)]= .ok (.int (Hg bs)):=by
 unfold ij wc;refine cy (bp (dJ (d:= .int 0) rfl (by simp [cA,qE])) ?_)
 obtain⟨δ1,e1,a2,mv⟩:=gg (t:=aD 2) (body:=ny) (ds:=(bs.map bI).reverse)
  (fun i δ=>∃a2,δ=[.val (.lst (bs.map bI)), .val (.int (Hg (bs.drop (bs.length - i)))),a2]) (δ:=[.val (.lst (bs.map bI)), .val (.int 0), .un]) ⟨.un,by simp [Hg]⟩ (by
    rintro i d δ hd ⟨a2,rfl⟩;have hi:i < bs.length:=by
     have:=(List.getElem?_eq_some_iff.mp hd).1
     rwa [List.length_reverse,List.length_map] at this
    rw[List.getElem?_reverse (by rw[List.length_map];exact hi),List.length_map,List.getElem?_map,List.getElem?_eq_getElem (by omega:bs.length - 1 - i < bs.length)] at hd
    cases hd;have hdr:bs.drop (bs.length - (i+1))=bs[bs.length - 1 - i] ::bs.drop (bs.length - i):=by
     rw[show bs.length - (i+1)=bs.length - 1 - i by omega,List.drop_eq_getElem_cons (by omega:bs.length - 1 - i < bs.length),show bs.length - 1 - i+1=bs.length - i by omega]
    refine⟨_,?_,⟨.val (bI bs[bs.length - 1 - i]),rfl⟩⟩;have hm:(Hg (bs.drop (bs.length - (i+1))):Int)=(Hg (bs.drop (bs.length - i)):Int)*2+(if bs[bs.length - 1 - i] then 1 else 0):=by
     rw[hdr];show(((if bs[bs.length - 1 - i] then 1 else 0)+2*Hg (bs.drop (bs.length - i)):Nat):Int)=_
     cases bs[bs.length - 1 - i] <;> simp <;> omega
    rw[hm];generalize (Hg (bs.drop (bs.length - i)):Int)=m;generalize bs[bs.length - 1 - i]=x;generalize D.lst (bs.map bI)=y;rw[show aD 2 (bI x) [.val y, .val (.int m),a2]= .ok [.val y, .val (.int m), .val (bI x)] from rfl,R.aO]
    unfold ny;exact dJ (aj (a:= .int (m*2)) (b:=bI x) (aj (a:= .int m) (b:= .int 2) rfl rfl (bN _ (.inr ⟨by omega,by omega⟩))) rfl rfl) (by simp))
 refine bp (kg (ds:=(bs.map bI).reverse) rfl e1) ?_;rw[List.length_reverse,List.length_map,Nat.sub_self,List.drop_zero] at mv;subst mv;exact bM rfl
def hX(b:List Bool):D:= .tup (b.map bI)
def aE(c:Nat)(Vc:Option V3)(a2 a3 a4:Option V3):DE:=[some (.d (nI c)),Vc,a2,a3,a4]
theorem vN{c:Nat}{S:bu}(hc:c<=10)(hS:Ab S){Q:V3->bu->Prop}(h:Q (.d (.lst ((cC c).map hX))) S):W3 (iL [.d (nI c)] S) Q:=by
 have hz:sizeLine=16777216:=sizeLine_eq;unfold iL;refine mJ hS (Ei rfl ?_);simp only[dC,ju,List.map,List.length,List.replicate,List.cons_append,List.nil_append,Nat.reduceAdd,Nat.reduceSub];unfold me;refine aZ <| bQ (by simp) <| rV (ds:=(cC 0).map hX) rfl ⟨_,rfl,?_⟩
 simp only[List.set];refine aZ <| mK <| om (pQ (n:=c) rfl (by omega)) ?_
 refine(dQ (fun i δ S2=>∃(T:bu) (a2 a3 a4:Option V3),S2=S++T++[.lst ((cC i).map hX)]/\δ=aE c (some (.loc (S++T).length)) a2 a3 a4)
  ⟨[],none,none,none,by simp,by simp [aE]⟩ ?_).mono fun o S2 ⟨fU,k4,T,a2,a3,a4,yp,yq⟩=>⟨fU,k4,?_⟩
 .rintro i v δ S2 hv ⟨T,a2,a3,a4,rfl,rfl⟩;have hi:i < c:=by
   have:=(List.getElem?_eq_some_iff.mp hv).1
   rwa [List.length_map,fG,List.length_map,List.length_range] at this
  have hpow:(cC i).length<=1024:=by
   rw[cB];exact Nat.pow_le_pow_right (by omega) (by omega:i<=10)
  refine⟨aE c (some (.loc (S++T).length)) (some v) a3 a4,rfl,?_⟩;unfold nB aE;refine CI (i:=1) rfl (bq _ _) ?_;rw[c5];simp only[List.set];refine aZ <| bQ (by simp) <| rV (ds:=[]) rfl ⟨_,rfl,?_⟩
  simp only[List.set];generalize hU:S++T++[SO.kL]=U;refine aZ <| mK <| om (ds:=(cC i).map hX) rfl ?_
  refine(dQ (fun j δ S3=>(∃b4,δ=[some (.d (nI c)),some (.d (.lst ((cC i).map hX))),some v,some (.loc U.length),b4])/\S3=U++[.lst ((((cC i).take j).flatMap fun b=>[b++[false],b++[true]]).map hX)])
   ⟨⟨_,rfl⟩,by simp⟩ ?_).mono fun o S3 ⟨Rt,e3,⟨b4,Mv⟩,hS3⟩=>⟨Rt,e3,?_⟩
  .rintro j v3 δ S3 hv3 ⟨⟨b4,rfl⟩,rfl⟩;obtain⟨b,hb,rfl⟩:=NT.j6 hv3;have hj:=(List.getElem?_eq_some_iff.mp hb).1;have hbl:=ie i b (List.mem_of_getElem? hb);refine⟨[some (.d (nI c)),some (.d (.lst ((cC i).map hX))),some v,some (.loc U.length),some (.d (hX b))],rfl,?_⟩;unfold nS;generalize hL:((((cC i).take j).flatMap fun b=>[b++[false],b++[true]]).map hX)=L
   have hLl:L.length<=2048:=by
    rw[<-hL,List.length_map,List.length_flatMap];have:((cC i).take j).map (fun b=>[b++[false],b++[true]].length)=((cC i).take j).map fun _=>2:=rfl
    rw[this,List.map_const',List.sum_replicate_nat,List.length_take];omega
   have add:∀(x:Bool) (δ:au),af 4 δ= .ok (hX b)->e2 rQ (af 4) (cG (ah (eC (bI x)) aI)) δ= .ok (hX (b++[x])):=fun x δ h4=>by
    refine aj (a:=hX b) (b:= .tup [bI x]) h4 (cv rfl (by simp;omega)) ?_
    show R.bz (decide ((b.map bI).length+[bI x].length<=sizeLine)) _=_;rw[bN _ (by rw[List.length_map];simp;omega)]
    unfold hX;rw[List.map_append];rfl
   refine aZ <| uZ (k:=U.length) rfl ⟨_,bq _ _⟩ <| dc (d:=hX (b++[false])) (add false _ rfl) ⟨_,_,rfl,bq _ _,by omega,_,rfl,?_⟩
   rw[c5];refine uZ (k:=U.length) rfl ⟨_,bq _ _⟩ <| dc (d:=hX (b++[true])) (add true _ rfl) ⟨_,_,rfl,bq _ _,by rw[List.length_append];simp;omega,_,rfl,⟨_,rfl⟩,?_⟩
   rw[c5,List.take_add_one,hb,List.flatMap_append,List.map_append,hL];simp
  rw[List.length_map,List.length_map,List.take_length] at hS3;subst Mv hS3;refine bQ (by simp) <| w_var (v:= .loc U.length) rfl ⟨_,rfl,T++[SO.kL],some v,some (.loc U.length),b4,?_,?_⟩
  .rw [<-hU,List.append_assoc S];rfl
  .rw [<-hU,List.append_assoc S];rfl
 have hlen:((fG 0 c).map V3.d).length=c:=by simp [fG]
 rw[hlen] at yp;subst yq yp;unfold aE;refine jJ (w_var rfl ⟨_,rfl,by unfold jt;exact decide_eq_true (by rw[List.length_append];omega),⟨T++[.lst ((cC c).map hX)],by rw[List.append_assoc]⟩,_,by unfold res;rw [bq],h⟩)
end K37
end
section
namespace K37
open PySem PySem.Spec PyProof.Rows L2 L3 MT
open JT (cC cB ie MR qN m8)
theorem Kr{b:List Bool}{j:Nat}(h:j < b.length):cm (hX b) (.int j)= .ok (bI (b.getD j false)):=by
 refine u9 ?_;rw[ma (by omega) (by rw[List.length_map,Int.toNat_natCast];exact h)]
 rw[List.getD_eq_getElem?_getD,List.getElem?_eq_getElem h];simp
theorem Al{c j:Nat}(hc:c<=10)(hj:j < c):lr [.lst ((cC c).map hX), .int j]= .ok (mI (2 ^ c) (MR c j)):=by
 have hz:sizeLine=16777216:=sizeLine_eq;have hp:2 ^ c<=1024:=Nat.pow_le_pow_right (by omega) hc
 unfold lr wL;refine cy (bM (aw (ds:=[.lst (((cC c).map fun b=>b.getD j false).map bI)]) (ao (cK (bR (ds:=(cC c).map hX) rfl (by rw[List.length_map,cB];omega) ?_)) rfl) ?_))
 .rw [List.map_map];exact NT.bj hX _ fun b hb=>⟨[.val (hX b), .val (.int j)],rfl,rfl,aj (a:=hX b) (b:= .int j) rfl rfl (Kr (by rw[ie c b hb];exact hj))⟩
 .rw [t_ (by rw[List.length_map,cB];omega),GP,List.length_map,cB]
  unfold mI;congr 3;refine n8 fun p RP=>?_
  unfold MR;rw[List.getD_eq_getElem?_getD,List.getElem?_map,List.getD_eq_getElem?_getD (l:=cC c),List.getElem?_eq_getElem (by rw[cB];exact RP)]
  rfl
section
variable {c:Nat} {ins:WJ} {gs:List Gt} {os:WK}
abbrev DY:=Str.ofString "net"
abbrev vZ:=Str.ofString "many_inputs"
abbrev wG:=Str.ofString "full"
abbrev rq:=Str.ofString "in_masks"
def gc(c:Nat)(nt:D):List (Str × V3):=[(DY, .d nt),(vZ, .d (nI (2 ^ c))),(wG, .d (mI (2 ^ c) one)),(rq, .d (.lst ((qN c).map (mI (2 ^ c)))))]
theorem Im{S:bu}(hc:ins.length=c)(Mr:c<=10)(hS:Ab (S++[.ins 0 []])){Q:V3->bu->Prop}(h:Q (.d .cX) (S++[.ins 0 (gc c (a_ ins gs os))])) :
 W3 (dk [.loc S.length, .d (a_ ins gs os)] (S++[.ins 0 []])) Q:=by
 have hz:sizeLine=16777216:=sizeLine_eq;have hp:2 ^ c<=1024:=Nat.pow_le_pow_right (by omega) Mr
 unfold dk;refine NS rfl ?_;simp only[dC,cV,List.map,List.length,List.replicate,List.cons_append,List.nil_append,Nat.reduceAdd,Nat.reduceSub];unfold il;refine aZ <| bQ (by simp) <| eQ <| bb <| dc (d:=nI c) (aw (ds:=[.lst (ins.map inD)]) rfl (by rw[q9,List.length_map,hc];rfl)) <| dX <| vN Mr hS ⟨_,rfl,?_⟩
 simp only[List.set];refine aZ <| qe (k:=S.length) <| dc (d:=a_ ins gs os) rfl <| w_var (v:= .loc S.length) rfl ⟨_,rfl,bq _ _,by simp,_,rfl,?_⟩
 rw[c5];refine aZ <| qe (k:=S.length) <| dc (d:=nI (2 ^ c)) (aw (ds:=[.lst ((cC c).map hX)]) rfl (by rw[q9,List.length_map,cB];rfl)) <| w_var (v:= .loc S.length) rfl ⟨_,rfl,bq _ _,by unfold zl;simp,_,rfl,?_⟩
 rw[c5];refine aZ <| qe (k:=S.length) <| dc (d:=mI (2 ^ c) one) (aw (ds:=[.lst (((cC c).map fun _=>true).map bI)]) (ao (cK (bR (ds:=(cC c).map hX) rfl (by rw[List.length_map,cB];omega) ?_)) rfl) ?_) <| w_var (v:= .loc S.length) rfl ⟨_,rfl,bq _ _,?_,_,rfl,?_⟩
 .rw [List.map_map];exact NT.bj hX _ fun b hb=>⟨[.val (hX b)],rfl,rfl,rfl⟩
 .rw [t_ (by rw[List.length_map,cB];omega),GP,List.length_map,cB]
  unfold mI;congr 3;refine n8 fun p RP=>?_
  rw[List.getD_eq_getElem?_getD,List.getElem?_map,List.getElem?_eq_getElem (by rw[cB];exact RP)]
  rfl
 .exact(by decide:2 < 1000)
 rw[c5];refine qe (k:=S.length) <| dc (d:= .lst ((qN c).map (mI (2 ^ c)))) (cK (bR (ds:=fG 0 c) (pQ (n:=c) (aw (ds:=[.lst (ins.map inD)]) rfl (by rw[q9,List.length_map,hc])) (by omega)) (by simp [fG];omega) ?_)) <| w_var (v:= .loc S.length) rfl ⟨_,rfl,bq _ _,?_,_,rfl,?_⟩
 .unfold qN;rw[List.map_map];unfold fG;refine NT.bj (fun i:Nat=>D.int (0+(i:Int))) _ fun j hj=>⟨[.val (.int (0+(j:Int))), .val (.lst ((cC c).map hX))],rfl,rfl,aw (ds:=[.lst ((cC c).map hX), .int j]) ?_ (Al Mr (List.mem_range.mp hj))⟩
  rw[Int.zero_add];rfl
 .exact(by decide:3 < 1000)
 rw[c5];exact h
end
end K37
end
section
namespace K37
open PySem PySem.Spec PyProof.Rows L2 L3 MT
open JT (cC cB ie MR qN m8)
section
variable {c:Nat} {ins:WJ} {gs:List Gt} {os:WK} {S:bu} {k:Nat} {turned bad:List Int}
theorem Tz:(vZ==DY)=false:=by decide+kernel
theorem UC:(wG==DY)=false:=by decide+kernel
theorem U3:(wG==vZ)=false:=by decide+kernel
theorem U4:(rq==DY)=false:=by decide+kernel
theorem UA:(rq==vZ)=false:=by decide+kernel
theorem TV:(rq==wG)=false:=by decide+kernel
theorem FJ{nt:D}:(gc c nt).lookup DY=some (.d nt):=by unfold gc;rw [List.lookup_cons,beq_self_eq_true]
theorem Jy{nt:D}:(gc c nt).lookup vZ=some (.d (nI (2 ^ c))):=by unfold gc;rw [List.lookup_cons,Tz,List.lookup_cons,beq_self_eq_true]
theorem IM{nt:D}:(gc c nt).lookup wG=some (.d (mI (2 ^ c) one)):=by unfold gc;rw [List.lookup_cons,UC,List.lookup_cons,U3,List.lookup_cons,beq_self_eq_true]
theorem Ex{nt:D}:(gc c nt).lookup rq=some (.d (.lst ((qN c).map (mI (2 ^ c))))):=by unfold gc;rw [List.lookup_cons,U4,List.lookup_cons,UA,List.lookup_cons,TV,List.lookup_cons,beq_self_eq_true]
abbrev Wd(c:Nat)(ins:WJ)(gs:List Gt)(turned bad:List Int):List M:=C_ ins gs (qN c) turned bad
theorem Ku(m:Str)(nt:D)(h1:(m==DY)=false)(h2:(m==vZ)=false)(h3:(m==wG)=false)(h4:(m==rq)=false):(gc c nt).lookup m=none:=by unfold gc;rw [List.lookup_cons,h1,List.lookup_cons,h2,List.lookup_cons,h3,List.lookup_cons,h4];rfl
theorem yT(NO:mM ins gs os)(hc:ins.length=c)(hS:Ab S)(hb:S[k]? =some (.ins 0 (gc c (a_ ins gs os)))){Q:V3->bu->Prop}(h:Q (.d (.lst (bK (2 ^ c) os (Wd c ins gs turned bad)))) S) :
 W3 (eG [.loc k, .d (.tup (turned.map .int)), .d (.tup (bad.map .int))] S) Q:=by
 have hz:sizeLine=16777216:=sizeLine_eq;unfold eG;refine mJ hS (Ei rfl ?_);simp only[dC,iT,List.map,List.length,List.replicate,List.cons_append,List.nil_append,Nat.reduceAdd,Nat.reduceSub];unfold kF;have hl:(qN c).length=ins.length:=by rw[m8,hc]
 refine jJ <| eQ <| bb <| w_fld (k:=k) <| w_var (v:= .loc k) rfl ⟨_,_,rfl,hb,FJ,?_⟩
 refine bb <| eQ <| bb <| w_fld (k:=k) <| w_var (v:= .loc k) rfl ⟨_,_,rfl,hb,FJ,?_⟩
 refine bb <| w_fld (k:=k) <| w_var (v:= .loc k) rfl ⟨_,_,rfl,hb,Ex,?_⟩
 refine bb <| w_fld (k:=k) <| w_var (v:= .loc k) rfl ⟨_,_,rfl,hb,IM,?_⟩
 refine bb <| dc (d:= .tup (turned.map .int)) rfl <| bb <| dc (d:= .tup (bad.map .int)) rfl <| dX ?_
 refine Fv NO hl hS (dX ?_);refine IZ NO.ho (fun x hx=>⟨(NO.o x hx).1,fun w hw=>by rw[Fi hl];exact(NO.o x hx).2 w hw⟩) hS ?_
 exact⟨_,rfl,by unfold jt;rfl,⟨[],by simp⟩,_,by unfold res;rfl,h⟩
theorem wU{nt:D}{f:M}(hc:c<=10)(hS:Ab S)(hb:S[k]? =some (.ins 0 (gc c nt))){Q:V3->bu->Prop}(h:Q (.d (.lst (((List.range (2 ^ c)).filter f).map nI))) S) :
 W3 (cE [.loc k, .d (mI (2 ^ c) f)] S) Q:=by
 have hz:sizeLine=16777216:=sizeLine_eq;have hp:2 ^ c<=1024:=Nat.pow_le_pow_right (by omega) hc
 unfold cE;refine mJ hS (Ei rfl ?_);simp only[dC,dm,List.map,List.length,List.replicate,List.cons_append,List.nil_append,Nat.reduceAdd,Nat.reduceSub];unfold gx;refine jJ <| qv (fun j ds S2=>S2=S/\ds=((List.range j).filter f).map nI) ?_
 refine K_ <| w_fld (k:=k) <| w_var (v:= .loc k) rfl ⟨_,_,rfl,hb,Jy,2 ^ c,rfl,by omega,?_⟩
 have hlen:((fG 0 (2 ^ c)).map V3.d).length=2 ^ c:=by simp [fG]
 rw[hlen];refine⟨by omega,⟨rfl,rfl⟩,?_,?_⟩
 .rintro j v ds S2 hv ⟨rfl,rfl⟩;obtain⟨hj,rfl⟩:=NT.KS hv;refine⟨[some (.d (.int j)),some (.d (mI (2 ^ c) f))],rfl,ot (b:=f j) ?_ ?_⟩
  .refine cZ (a:= .int (if decide (j < 2 ^ c) && f j then 1 else 0)) (b:= .int 1) (aw (ds:=[mI (2 ^ c) f, .int j]) rfl KL) rfl ?_
   rw[decide_eq_true hj,Bool.true_and];cases f j <;> rfl
  .rw [List.range_succ,List.filter_append,List.map_append];cases hf:f j with
   | true=>rw [if_pos rfl];exact dc (d:=nI j) rfl ⟨_,rfl,rfl,by simp [hf]⟩
   | false=>rw [if_neg (by decide)];exact⟨rfl,by simp [hf]⟩
 .rintro ds S2 ⟨rfl,rfl⟩;exact⟨_,rfl,by unfold jt;rfl,⟨[],by simp⟩,_,by unfold res;rfl,h⟩
end
end K37
end
section
set_option maxHeartbeats 1000000
namespace K37
open PySem PySem.Spec PyProof.Rows L2 L3 MT JT
theorem SS{a:D}{r:List D}:cm (.lst (a ::r)) (.int 0)= .ok a:=rp (by rw[ma (by omega) (by simp)];rfl)
theorem R4{a b:D}{r:List D}:cm (.lst (a ::b ::r)) (.int 1)= .ok b:=rp (by rw[ma (by omega) (by simp)];rfl)
theorem Sk{a b c:D}{r:List D}:cm (.lst (a ::b ::c ::r)) (.int 2)= .ok c:=rp (by rw[ma (by omega) (by simp)];rfl)
theorem FK{N:Nat}{a b c:M}:eY [.lst [mI N a,mI N b,mI N c]]= .ok (mI N fun p=>(a p && b p) || (a p && c p) || (b p && c p)):=by
 unfold eY qR;refine cy (bM ?_);exact aj (aj (aj (aj rfl rfl SS) (aj rfl rfl R4) (tQ N a b)) (aj (aj rfl rfl SS) (aj rfl rfl Sk) (tQ N a c)) (yF N _ _)) (aj (aj rfl rfl R4) (aj rfl rfl Sk) (tQ N b c)) (yF N _ _)
theorem F8(bs:List Bool):Fx [.lst (bs.map D.bl)]= .ok (.bl (bs.all id)):=by
 show(match bls? (bs.map D.bl) with | some bs=>R.ok (D.bl (bs.all id)) | none=> .no)=_
 rw[Cu]
section
variable {ins:WJ} {gs:List Gt} {os:WK}
theorem GH(a b:Nat):qB (.int a) (.int b)= .ok (.bl (decide (a=b))):=by
 show R.ok (D.bl ((a:Int)==(b:Int)))=_;congr 2;by_cases h:a=b
 .rw [decide_eq_true h];exact beq_iff_eq.mpr (by omega)
 .rw [decide_eq_false h];exact beq_eq_false_iff_ne.mpr (by omega)
theorem DS(w:Nat)(hi:ins.length < 1000)(ho:os.length < 1000):eX [a_ ins gs os, .int w]= .ok (.bl ((ins.all fun x=>decide (x.2=w)) && os.all fun x=>decide (x.2.length=w))):=by
 have hz:sizeLine=16777216:=sizeLine_eq;unfold eX p7;refine cy (bp (dJ (d:= .bl (ins.all fun x=>decide (x.2=w))) (aw (ds:=[.lst ((ins.map fun x=>decide (x.2=w)).map D.bl)]) (ao (cK (bR (ds:=ins.map inD) (jf (aj (a:=a_ ins gs os) (b:= .int 0) rfl rfl rfl)) (by rw[List.length_map];omega) ?_)) rfl) ?_) (by simp [cA,gC])) (bM ?_))
 .rw [List.map_map];exact NT.bj inD _ fun x hx=>⟨[.val (inD x), .val (.int w)],rfl,rfl,aj (a:= .int x.2) (b:= .int w) (aj (a:=inD x) (b:= .int 1) rfl rfl rfl) rfl (GH _ _)⟩
 .rw [F8,List.all_map];rfl
 .unfold Ik;have e1:J5 (af 2) [.val (a_ ins gs os), .val (.int w), .val (.bl (ins.all fun x=>decide (x.2=w)))]= .ok (ins.all fun x=>decide (x.2=w)):=K3 rfl
  show((J5 (af 2) [.val (a_ ins gs os), .val (.int w), .val (.bl (ins.all fun x=>decide (x.2=w)))]).bind _)=_
  rw[e1,R.aO];cases hA:ins.all fun x=>decide (x.2=w) with
  | false=>rw [if_neg (by decide),Bool.false_and]
  | true=>
    rw[if_pos rfl,Bool.true_and];refine aw (ds:=[.lst ((os.map fun x=>decide (x.2.length=w)).map D.bl)]) (ao (cK (bR (ds:=os.map jA) (jf (aj (a:=a_ ins gs os) (b:= .int 2) rfl rfl rfl)) (by rw[List.length_map];omega) ?_)) rfl) ?_
    .rw [List.map_map];exact NT.bj jA _ fun x hx=>⟨[.val (.str x.1), .val (.tup (x.2.map nI)), .val (.int w)],rfl,rfl,aj (a:= .int x.2.length) (b:= .int w) (aw (ds:=[.tup (x.2.map nI)]) rfl (by show R.ok (D.int ((x.2.map nI).length:Nat))=_;rw [List.length_map])) rfl (GH _ _)⟩
    .rw [F8,List.all_map];rfl
theorem Bn(N:Nat):D.int 0=mI N fun _=>false:=by
 unfold mI;rw[zy.mpr fun _ _=>rfl];rfl
theorem three{α:Type}{l:List α}(h:l.length=3):∃a b c,l=[a,b,c]:=match l,h with | [a,b,c],_=>⟨a,b,c,rfl⟩
theorem L4{ws:List M}{p a b c:Nat}:bW (jC p ws) [a,b,c]=[j7 ws a p,j7 ws b p,j7 ws c p]:=by
 show [(jC p ws).getD a false,(jC p ws).getD b false,(jC p ws).getD c false]=_;rw[tu,tu,tu]
theorem Dm{N:Nat}{ws:List M}(h3:∀x∈os,x.2.length=3):i5 [.lst (bK N os ws)]= .ok (mI N fun p=>os.any fun x=>Hi (bW (jC p ws) x.2)):=by
 have hz:sizeLine=16777216:=sizeLine_eq;unfold i5 rS;refine cy (bp (dJ (d:= .int 0) rfl (by simp [cA,m5])) ?_)
 obtain⟨δ1,e1,a2,mv⟩:=gg (t:=aD 2) (body:=kz) (ds:=bK N os ws)
  (fun i δ=>∃a2,δ=[.val (.lst (bK N os ws)), .val (mI N fun p=>(os.take i).any fun x=>Hi (bW (jC p ws) x.2)),a2]) (δ:=[.val (.lst (bK N os ws)), .val (.int 0), .un]) ⟨.un,by rw[Bn N];simp⟩ (by
    rintro i d δ hd ⟨a2,rfl⟩;unfold bK at hd;rw[List.getElem?_map] at hd;cases hx:os[i]? with
    | none=>rw [hx] at hd;cases hd
    | some x=>
      rw[hx] at hd;cases hd;obtain⟨n0,n1,n2,ex⟩:=three (h3 x (List.mem_of_getElem? hx));have et:tell ws x=[j7 ws n0,j7 ws n1,j7 ws n2]:=by unfold tell;rw [ex];rfl
      obtain⟨acc,vt⟩:∃acc:M,acc=fun p=>(os.take i).any fun x=>Hi (bW (jC p ws) x.2):=⟨_,rfl⟩
      have em:(mI N fun p=>(os.take (i+1)).any fun x=>Hi (bW (jC p ws) x.2))=mI N fun p=>(acc p || (j7 ws n0 p !=j7 ws n1 p)) || (j7 ws n0 p !=j7 ws n2 p):=qt fun p _=>by
       rw[List.take_add_one,hx,List.any_append,vt];show(_ || (Hi (bW (jC p ws) x.2) || false))=_
       rw[ex,L4,Bool.or_false,Bool.or_assoc];rfl
      refine⟨_,?_,⟨.val (.tup ((tell ws x).map (mI N))),rfl⟩⟩;show(aD 2 (.tup ((tell ws x).map (mI N))) _).bind _=_;rw[em,et,<-vt]
      clear vt em
      generalize D.lst (bK N os ws)=y;generalize j7 ws n0=a;generalize j7 ws n1=b;generalize j7 ws n2=c;rw[show aD 2 (.tup ([a,b,c].map (mI N))) [.val y, .val (mI N acc),a2]= .ok [.val y, .val (mI N acc), .val (.tup [mI N a,mI N b,mI N c])] from rfl,R.aO]
      unfold kz;exact dJ (aj (aj (a:=mI N acc) rfl (aj (aj rfl rfl Hh) (aj rfl rfl J_) (uO N a b)) (yF N _ _)) (aj (aj rfl rfl Hh) (aj rfl rfl OC) (uO N a c)) (yF N _ _)) (by simp))
 refine bp (kg (ds:=bK N os ws) rfl e1) ?_;have hlen:(bK N os ws).length=os.length:=by unfold bK;rw [List.length_map]
 rw[hlen,List.take_length] at mv;subst mv;exact bM rfl
theorem wj{N:Nat}{ws vs:List M}:ya (bK N os ws) (bK N os vs)=os.map fun x=>D.tup [.tup ((tell ws x).map (mI N)), .tup ((tell vs x).map (mI N))]:=by
 unfold ya bK;rw[List.zip_map',List.map_map];rfl
theorem HX{N:Nat}{ws vs:List M}(h3:∀x∈os,x.2.length=3):lI [.lst (bK N os ws), .lst (bK N os vs)]= .ok (mI N fun p=>os.any fun x=>lst (bW (jC p ws) x.2) (bW (jC p vs) x.2)):=by
 have hz:sizeLine=16777216:=sizeLine_eq;unfold lI wb;refine cy (bp (dJ (d:= .int 0) rfl (by simp [cA,oa])) ?_)
 obtain⟨δ1,e1,a3,a4,mv⟩:=gg (t:=eJ 2 (bw (aD 3) (bw (aD 4) eR))) (body:=nh) (ds:=ya (bK N os ws) (bK N os vs))
  (fun i δ=>∃a3 a4,δ=[.val (.lst (bK N os ws)), .val (.lst (bK N os vs)), .val (mI N fun p=>(os.take i).any fun x=>lst (bW (jC p ws) x.2) (bW (jC p vs) x.2)),a3,a4]) (δ:=[.val (.lst (bK N os ws)), .val (.lst (bK N os vs)), .val (.int 0), .un, .un]) ⟨.un, .un,by rw[Bn N];simp⟩ (by
    rintro i d δ hd ⟨a3,a4,rfl⟩;rw[wj,List.getElem?_map] at hd;cases hx:os[i]? with
    | none=>rw [hx] at hd;cases hd
    | some x=>
      rw[hx] at hd;cases hd;obtain⟨n0,n1,n2,ex⟩:=three (h3 x (List.mem_of_getElem? hx));have et:tell ws x=[j7 ws n0,j7 ws n1,j7 ws n2]:=by unfold tell;rw [ex];rfl
      have ev:tell vs x=[j7 vs n0,j7 vs n1,j7 vs n2]:=by unfold tell;rw [ex];rfl
      obtain⟨acc,vt⟩:∃acc:M,acc=fun p=>(os.take i).any fun x=>lst (bW (jC p ws) x.2) (bW (jC p vs) x.2):=⟨_,rfl⟩
      have em:(mI N fun p=>(os.take (i+1)).any fun x=>lst (bW (jC p ws) x.2) (bW (jC p vs) x.2))=mI N fun p=>acc p || (((j7 ws n0 p !=j7 vs n0 p) && (j7 ws n1 p !=j7 vs n1 p)) || ((j7 ws n0 p !=j7 vs n0 p) && (j7 ws n2 p !=j7 vs n2 p)) || ((j7 ws n1 p !=j7 vs n1 p) && (j7 ws n2 p !=j7 vs n2 p))):=qt fun p _=>by
       rw[List.take_add_one,hx,List.any_append,vt];show(_ || (lst (bW (jC p ws) x.2) (bW (jC p vs) x.2) || false))=_
       rw[ex,L4,L4,Bool.or_false];rfl
      refine⟨_,?_,⟨.val (.tup ((tell ws x).map (mI N))), .val (.tup ((tell vs x).map (mI N))),rfl⟩⟩;show(eJ 2 (bw (aD 3) (bw (aD 4) eR)) (.tup [.tup ((tell ws x).map (mI N)), .tup ((tell vs x).map (mI N))]) _).bind _=_;rw[em,et,ev,<-vt]
      clear vt em
      generalize D.lst (bK N os ws)=y;generalize D.lst (bK N os vs)=z;generalize j7 ws n0=a;generalize j7 ws n1=b;generalize j7 ws n2=c;generalize j7 vs n0=a';generalize j7 vs n1=b';generalize j7 vs n2=c';rw[show eJ 2 (bw (aD 3) (bw (aD 4) eR)) (.tup [.tup ([a,b,c].map (mI N)), .tup ([a',b',c'].map (mI N))]) [.val y, .val z, .val (mI N acc),a3,a4]= .ok [.val y, .val z, .val (mI N acc), .val (.tup [mI N a,mI N b,mI N c]), .val (.tup [mI N a',mI N b',mI N c'])] from rfl,R.aO]
      unfold nh;refine dJ (aj (a:=mI N acc) rfl (aw (ds:=[.lst [mI N fun p=>a p !=a' p,mI N fun p=>b p !=b' p,mI N fun p=>c p !=c' p]]) (ao (cK (bR (ds:=[.int 0, .int 1, .int 2]) rfl (by simp;omega) ?_)) rfl) FK) (yF N _ _)) (by simp)
      have go:∀(l:List (D × D)),(∀q∈l,e2 CW (e2 cm (af 1) (af 0)) (e2 cm (af 2) (af 0)) [.val q.1, .val (.tup [mI N a,mI N b,mI N c]), .val (.tup [mI N a',mI N b',mI N c'])]= .ok q.2)->
       oC (aD 0) fI (e2 CW (e2 cm (af 1) (af 0)) (e2 cm (af 2) (af 0))) [.un, .val (.tup [mI N a,mI N b,mI N c]), .val (.tup [mI N a',mI N b',mI N c'])] (l.map (·.1))= .ok (l.map (·.2)):=fun l hl=>
       NT.bj (fun q:D × D=>q.1) (fun q:D × D=>q.2) fun q hq=>⟨[.val q.1, .val (.tup [mI N a,mI N b,mI N c]), .val (.tup [mI N a',mI N b',mI N c'])],rfl,rfl,hl q hq⟩
      refine go [(.int 0,mI N fun p=>a p !=a' p),(.int 1,mI N fun p=>b p !=b' p),(.int 2,mI N fun p=>c p !=c' p)] fun q hq=>?_
      simp only[List.mem_cons,List.not_mem_nil,or_false] at hq;rcases hq with rfl | rfl | rfl
      .exact aj (aj rfl rfl Hh) (aj rfl rfl Hh) (uO N a a')
      .exact aj (aj rfl rfl J_) (aj rfl rfl J_) (uO N b b')
      .exact aj (aj rfl rfl OC) (aj rfl rfl OC) (uO N c c'))
 have hlen:(ya (bK N os ws) (bK N os vs)).length=os.length:=by rw[wj,List.length_map]
 refine bp (kg (ds:=ya (bK N os ws) (bK N os vs)) rfl e1) ?_;rw[hlen,List.take_length] at mv;subst mv;exact bM rfl
end
end K37
end
section
namespace K37
open PySem PySem.Spec PyProof.Rows L2 L3 MT JT
def e_(T:List Nat):D:= .tup (T.map nI)
theorem LD{ds es:List D}(h:ds.length+es.length<=sizeLine):rQ (.tup ds) (.tup es)= .ok (.tup (ds++es)):=bN _ h
theorem BH{f g:FD}{δ:au}{a b:Nat}(h:f δ= .ok (.int a))(h2:g δ= .ok (.int b))(ha:a < 1000000)(hb:b < 1000000):rA f g δ= .ok ((List.range' a (b - a)).map nI):=by
 unfold rA;rw[h,R.aO,h2,R.aO];show R.bz (decide (-(2 ^ 62)<=(a:Int)/\(a:Int) < 2 ^ 62/\ -(2 ^ 62)<=(b:Int)/\(b:Int) < 2 ^ 62)) _=_;rw[bN _ ⟨by omega,by omega,by omega,by omega⟩,show((b:Int) - a).toNat=b - a by omega,List.range'_eq_map_range,List.map_map]
 congr 1
theorem pS{e:Nat}:∀(m f:Nat),(qA f e m).length<=e ^ m
 | 0,f=>by unfold qA;simp
 | m+1,f=>by
   unfold qA;rw[List.length_flatMap,Nat.pow_succ];refine Nat.le_trans (xI (m:=e ^ m) fun x hx=>?_) ?_
   .obtain⟨a,_,rfl⟩:=List.mem_map.mp hx;rw[List.length_map];exact pS m _
   .rw [List.length_map,List.length_range',Nat.mul_comm];exact Nat.mul_le_mul_left _ (Nat.sub_le _ _)
theorem LZ{e m f:Nat}{B:List Nat}(h:B∈qA f e m):B.length=m:=(p9.mp h).1
theorem B5(e m:Nat)(he:e<=12)(hm:m<=4):e ^ m<=20736:=Nat.le_trans (Nat.pow_le_pow_left he m) (Nat.pow_le_pow_right (by omega) hm)
theorem rO{e:Nat}(he:e<=12):∀(n m f:Nat),m<=n->n<=6->m<=4->f<=100->dD (n+1) [.int f, .int e, .int m]= .ok (.lst ((qA f e m).map e_))
 | n,0,f,_,_,_,_=>by
   show oQ j3 (j1 (dD n)) _=_;unfold j1;exact cy (NT.lR (rW (cZ (a:= .int 0) (b:= .int 0) rfl rfl rfl) (bM rfl)))
 | 0,m+1,f,h,_,_,_=>by omega
 | n+1,m+1,f,h,hn,hm4,hf=>by
   have hz:sizeLine=16777216:=sizeLine_eq;show oQ j3 (j1 (dD (n+1))) _=_;unfold j1;refine cy (bp (jr (cZ (a:= .int (m+1:Nat)) (b:= .int 0) (k:=false) rfl rfl ?_) rfl) ?_)
   .show R.ok (D.bl (((m+1:Nat):Int)==0))=_;congr 2
   refine bp (tj (ds:=[]) rfl (by simp [cA,j3])) ?_
   let F:Nat->WL:=fun i=>((List.range' f (e - f)).take i).flatMap fun w=>(qA ((w / 3+1)*3) e m).map (w ::·)
   have hFl:∀i,(F i).length<=12*20736:=fun i=>by
    show(((List.range' f (e - f)).take i).flatMap fun w=>(qA ((w / 3+1)*3) e m).map (w ::·)).length<=_
    rw[List.length_flatMap];refine Nat.le_trans (xI (m:=20736) fun x hx=>?_) (by rw[List.length_map,List.length_take,List.length_range'];exact Nat.mul_le_mul_right _ (by omega))
    obtain⟨a,_,rfl⟩:=List.mem_map.mp hx;rw[List.length_map];exact Nat.le_trans (pS m _) (B5 e m he (by omega))
   obtain⟨δ1,e1,a4,a5,a6,mv⟩:=gg (t:=aD 4) (body:=lY (dD (n+1))) (ds:=(List.range' f (e - f)).map nI)
    (fun i δ=>∃a4 a5 a6,δ=[.val (.int f), .val (.int e), .val (.int (m+1:Nat)), .bld ((F i).map e_),a4,a5,a6]) (δ:=[.val (.int f), .val (.int e), .val (.int (m+1:Nat)), .bld [], .un, .un, .un]) ⟨.un, .un, .un,by simp [F]⟩ (by
      rintro i d δ hd ⟨a4,a5,a6,rfl⟩;obtain⟨w,hw,rfl⟩:=NT.qd hd;have hwm:=List.mem_of_getElem? hw;obtain⟨j,hj,ej⟩:=List.mem_range'.mp hwm;rw[show aD 4 (nI w) [.val (.int f), .val (.int e), .val (.int (m+1:Nat)), .bld ((F i).map e_),a4,a5,a6]= .ok [.val (.int f), .val (.int e), .val (.int (m+1:Nat)), .bld ((F i).map e_), .val (nI w),a5,a6] from rfl,R.aO]
      unfold lY;have ihc:=rO he n m ((w / 3+1)*3) (by omega) (by omega) (by omega) (by omega)
      have hFs:F (i+1)=F i++(qA ((w / 3+1)*3) e m).map (w ::·):=by
       show((List.range' f (e - f)).take (i+1)).flatMap _=_;rw[List.take_add_one,hw,List.flatMap_append];simp [F]
      have hFi:=hFl i;have hdl:(qA ((w / 3+1)*3) e m).length<=20736:=Nat.le_trans (pS m _) (B5 e m he (by omega))
      obtain⟨fU,k4,c6,OY⟩:=gg (t:=aD 6) (body:=lS (dD (n+1))) (ds:=(qA ((w / 3+1)*3) e m).map e_)
       (fun j δ=>∃c6,δ=[.val (.int f), .val (.int e), .val (.int (m+1:Nat)), .bld ((F i++((qA ((w / 3+1)*3) e m).take j).map (w ::·)).map e_), .val (nI w), .val (nI ((w / 3+1)*3)),c6]) (δ:=[.val (.int f), .val (.int e), .val (.int (m+1:Nat)), .bld ((F i).map e_), .val (nI w), .val (nI ((w / 3+1)*3)),a6]) ⟨a6,by simp⟩ (by
         rintro j d δ hd ⟨c6,rfl⟩;obtain⟨T,hT,rfl⟩:=NT.qd hd;have hTl:=LZ (List.mem_of_getElem? hT);refine⟨[.val (.int f), .val (.int e), .val (.int (m+1:Nat)), .bld ((F i++((qA ((w / 3+1)*3) e m).take (j+1)).map (w ::·)).map e_), .val (nI w), .val (nI ((w / 3+1)*3)), .val (e_ T)],?_,⟨_,rfl⟩⟩
         generalize hL:(F i++((qA ((w / 3+1)*3) e m).take j).map (w ::·)).map e_=L
         have hLl:L.length < sizeLine:=by
          rw[<-hL,List.length_map,List.length_append,List.length_map,List.length_take];omega
         rw[show aD 6 (e_ T) [.val (.int f), .val (.int e), .val (.int (m+1:Nat)), .bld L, .val (nI w), .val (nI ((w / 3+1)*3)),c6]= .ok [.val (.int f), .val (.int e), .val (.int (m+1:Nat)), .bld L, .val (nI w), .val (nI ((w / 3+1)*3)), .val (e_ T)] from rfl,R.aO]
         unfold lS;rw[Hz (d:=e_ (w ::T)) (ds:=L) (aj (a:= .tup [nI w]) (b:=e_ T) (cv rfl (by simp;omega)) rfl (LD (by rw[List.length_map];simp;omega))) rfl hLl,<-hL,List.take_add_one,hT]
         simp [e_])
      refine⟨_,bp (dJ (d:=nI ((w / 3+1)*3)) (aj (a:=nI (w / 3+1)) (b:= .int 3) (aj (a:=nI (w / 3)) (b:= .int 1) (aj (a:=nI w) (b:= .int 3) rfl rfl ?_) rfl rfl) rfl ?_) (by simp)) (kg (ds:=(qA ((w / 3+1)*3) e m).map e_) (jf (aw (ds:=[.int ((w / 3+1)*3:Nat), .int e, .int m]) (ao rfl (ao rfl (ao (aj (a:= .int (m+1:Nat)) (b:= .int 1) rfl rfl ?_) rfl))) ihc)) k4),?_⟩
      .exact xN (by omega) (by omega)
      .show R.bz (decide _) (R.ok (D.int (((w / 3+1:Nat):Int)*3)))=_;rw[bN _ (.inr ⟨by omega,by omega⟩)]
       unfold nI;congr 2
      .show R.ok (D.int (((m+1:Nat):Int) - 1))=_;congr 2;omega
      .rw [List.length_map,List.take_length] at OY;refine⟨.val (nI w), .val (nI ((w / 3+1)*3)),c6,?_⟩;rw[OY,hFs])
   refine bp (kg (ds:=(List.range' f (e - f)).map nI) (BH (a:=f) (b:=e) rfl rfl (by omega) (by omega)) e1) ?_
   rw[List.length_map,List.length_range'] at mv;have hFe:F (e - f)=qA f e (m+1):=by
    show((List.range' f (e - f)).take (e - f)).flatMap _=_;rw[List.take_of_length_le (by rw[List.length_range'];exact Nat.le_refl _)];rfl
   rw[hFe] at mv;subst mv;exact bM rfl
def mQ(f:List Nat × List Nat):D:= .tup [e_ f.1,e_ f.2]
section
variable {c:Nat} {ins:WJ} {gs:List Gt} {os:WK}
theorem C4(hg:gs.length < 1000)(δ:au)(yq:δ[0]? =some (.val (a_ ins gs os))):ck (jh (e2 cm (af 0) (eC (.int 1)))) (eJ 2 (bw (aD 0) (bw (aD 1) eR))) (Au (Aw (e2 cm (af 1) (eC (.int 2))))) (cG (ah (cG aI) (ah (cG (ah (af 0) aI)) aI))) ["place","gate"] [] δ=
 .ok (((gs.zipIdx.filter (fun x=>!x.1.2.2)).map (fun x=>(([]:List Nat),[x.2]))).map mQ):=by
 have hz:sizeLine=16777216:=sizeLine_eq;have en:dG (gs.map fB)=gs.zipIdx.map fun x=>D.tup [.int x.2,fB x.1]:=by
  unfold dG;rw[List.zipIdx_map,List.map_map];rfl
 refine bR (ds:=gs.zipIdx.map fun x=>D.tup [.int x.2,fB x.1]) (by rw[<-en];exact w6 (aj (a:=a_ ins gs os) (b:= .int 1) (by unfold af;rw [yq]) rfl rfl)) (by rw[List.length_map,List.length_zipIdx];omega) ?_
 rw[List.map_map];refine NT.u0 (fun x:Gt × Nat=>!x.1.2.2) (fun x:Gt × Nat=>D.tup [.int x.2,fB x.1]) _ fun x hx=>⟨[.val (.int x.2), .val (fB x.1)],rfl,?_,fun _=>?_⟩
 .unfold Au Aw;rw[show e2 cm (af 1) (eC (.int 2)) [.val (.int x.2), .val (fB x.1)]= .ok (.bl x.1.2.2) from aj (a:=fB x.1) (b:= .int 2) rfl rfl rfl]
  rfl
 .exact cv (ao rfl (ao (cv rfl (by simp;omega)) rfl)) (by simp;omega)
theorem DI(hc:ins.length=c)(Ts:c<=4)(hg:gs.length < 1000):dS [a_ ins gs os]= .ok (.lst ((pP c gs).map mQ)):=by
 have hz:sizeLine=16777216:=sizeLine_eq;unfold dS k7
 let G:List (List Nat × List Nat):=(gs.zipIdx.filter (fun x=>!x.1.2.2)).map (fun x=>(([]:List Nat),[x.2]))
 have hGl:G.length < 1000:=by
  show((gs.zipIdx.filter _).map _).length < 1000;rw[List.length_map];have:=List.length_filter_le (fun x:Gt × Nat=>!x.1.2.2) gs.zipIdx
  rw[List.length_zipIdx] at this;omega
 let F:Nat->List (List Nat × List Nat):=fun i=>G++((List.range' 1 c).take i).flatMap fun m=>(qA 0 (3*c) m).map fun B=>(B,([]:List Nat))
 refine cy (bp (tj (ds:=G.map mQ) (C4 hg _ rfl) (by simp [cA,cU])) (bp (dJ (d:=nI c) (aw (ds:=[.lst (ins.map inD)]) rfl (by rw[q9,List.length_map,hc];rfl)) (by simp [cA,cU])) ?_))
 have hFl:∀i,(F i).length<=1000+4*20736:=fun i=>by
  show(G++_).length<=_;rw[List.length_append,List.length_flatMap];have:(((List.range' 1 c).take i).map fun m=>((qA 0 (3*c) m).map fun B=>(B,([]:List Nat))).length).sum<=4*20736:=by
   refine Nat.le_trans (xI (m:=20736) fun x hx=>?_) (by rw[List.length_map,List.length_take,List.length_range'];exact Nat.mul_le_mul_right _ (by omega))
   obtain⟨a,ha,rfl⟩:=List.mem_map.mp hx;obtain⟨j,hj,ej⟩:=List.mem_range'.mp (List.mem_of_mem_take ha);rw[List.length_map];exact Nat.le_trans (pS a _) (B5 _ a (by omega) (by omega))
  omega
 obtain⟨δ1,e1,a3,mv⟩:=gg (t:=aD 3) (body:=f_) (ds:=(List.range' 1 (c+1 - 1)).map nI)
  (fun i δ=>∃a3,δ=[.val (a_ ins gs os), .bld ((F i).map mQ), .val (nI c),a3]) (δ:=[.val (a_ ins gs os), .bld (G.map mQ), .val (nI c), .un]) ⟨.un,by simp [F]⟩ (by
    rintro i d δ hd ⟨a3,rfl⟩;obtain⟨m,hm,rfl⟩:=NT.qd hd;obtain⟨j,hj,ej⟩:=List.mem_range'.mp (List.mem_of_getElem? hm);have hFs:F (i+1)=F i++(qA 0 (3*c) m).map fun B=>(B,([]:List Nat)):=by
     show G++((List.range' 1 c).take (i+1)).flatMap _=_;rw[Nat.add_sub_cancel] at hm;rw[List.take_add_one,hm,List.flatMap_append,<-List.append_assoc];simp [F]
    have hb:(qA 0 (3*c) m).length<=20736:=Nat.le_trans (pS m _) (B5 _ m (by omega) (by omega))
    refine⟨[.val (a_ ins gs os), .bld ((F (i+1)).map mQ), .val (nI c), .val (nI m)],?_,⟨_,rfl⟩⟩;rw[show aD 3 (nI m) [.val (a_ ins gs os), .bld ((F i).map mQ), .val (nI c),a3]= .ok [.val (a_ ins gs os), .bld ((F i).map mQ), .val (nI c), .val (nI m)] from rfl,R.aO]
    unfold f_;have hFi:=hFl i;have key:ck (cP (aM (dD 7) (ah (eC (.int 0)) (ah (e2 gI (af 2) (eC (.int 3))) (ah (af 3) aI))))) (aD 0) fI (cG (ah (af 0) (ah (cG aI) aI))) ["bad"] [] [.val (a_ ins gs os), .bld ((F i).map mQ), .val (nI c), .val (nI m)]= .ok (((qA 0 (3*c) m).map fun B=>(B,([]:List Nat))).map mQ):=by
     refine bR (ds:=(qA 0 (3*c) m).map e_) (jf (aw (ds:=[.int (0:Nat), .int (3*c:Nat), .int m]) (ao rfl (ao (aj (a:=nI c) (b:= .int 3) rfl rfl ?_) rfl)) (rO (by omega) 6 m 0 (by omega) (by omega) (by omega) (by omega)))) (by rw[List.length_map];omega) ?_
     .show R.bz (decide _) (R.ok (D.int ((c:Int)*3)))=_;rw[bN _ (.inr ⟨by omega,by omega⟩)]
      congr 2;omega
     .rw [List.map_map];exact NT.bj e_ _ fun B hB=>⟨[.val (e_ B)],rfl,rfl,cv (ao rfl (ao rfl rfl)) (by simp;omega)⟩
    unfold C5;rw[key,R.aO];show(oT [.val (a_ ins gs os), .bld ((F i).map mQ), .val (nI c), .val (nI m)] 1).bind _=_;rw[show oT [.val (a_ ins gs os), .bld ((F i).map mQ), .val (nI c), .val (nI m)] 1= .ok ((F i).map mQ) from rfl,R.aO,bN _ (by rw[List.length_map,List.length_map,List.length_map];omega),hFs,show((F i++(qA 0 (3*c) m).map fun B=>(B,([]:List Nat))).map mQ)=(F i).map mQ++((qA 0 (3*c) m).map fun B=>(B,([]:List Nat))).map mQ from List.map_append]
    rfl)
 refine bp (kg (ds:=(List.range' 1 (c+1 - 1)).map nI) (BH (a:=1) (b:=c+1) rfl (aj (a:=nI c) (b:= .int 1) rfl rfl rfl) (by omega) (by omega)) e1) ?_
 have hFe:F (c+1 - 1)=pP c gs:=by
  show G++((List.range' 1 c).take (c+1 - 1)).flatMap _=_;rw[List.take_of_length_le (by rw[List.length_range'];omega)];rfl
 rw[List.length_map,List.length_range',hFe] at mv;subst mv;exact bM rfl
end
end K37
end
section
namespace K37
open PySem PySem.Spec PyProof.Rows L2 L3 MT JT
def nZ(ps:List Nat):List Int:=ps.map fun(n:Nat)=>(n:Int)
theorem M4(ps:List Nat):(nZ ps).map D.int=ps.map nI:=by unfold nZ;rw [List.map_map];rfl
theorem GR(ps:List Nat)(i:Nat):(nZ ps).contains (i:Int)=ps.contains i:=by
 rw[Bool.eq_iff_iff];unfold nZ;simp only[List.contains_iff_mem,List.mem_map];exact⟨fun⟨a,ha,e⟩=>(by rw[<-Int.ofNat_inj.mp e];exact ha),fun h=>⟨i,h,rfl⟩⟩
theorem Cz:∀{ins:WJ} {bits:List Bool},(∀x∈ins,x.2=3)->ins.length=bits.length->zX ins bits=ia bits
 | [],[],_,_=>rfl
 | [],_ ::_,_,h=>by simp at h
 | _ ::_,[],_,h=>by simp at h
 | x ::ins,b ::bits,h3,h=>by
   rw[uc,Cz (fun y hy=>h3 y (List.mem_cons_of_mem _ hy)) (by simpa using h),h3 x List.mem_cons_self]
   rfl
section
variable {c:Nat} {ins:WJ} {gs:List Gt} {os:WK} {S:bu}
theorem tL(hc:ins.length=c)(h3:∀x∈ins,x.2=3){p:Nat}(hp:p < 2 ^ c)(f:List Nat × List Nat):jC p (Wd c ins gs (nZ f.2) (nZ f.1))=nH c gs f p:=by
 unfold Wd;rw[Ic (by rw[m8,hc]),FH hp]
 unfold A0 nH;rw[Cz h3 (by rw[jB hp,hc])]
 have e1:(fun i:Nat=>(nZ f.2).contains (i:Int))=fun i=>f.2.contains i:=funext fun i=>GR _ _
 have e2:(fun i:Nat=>(nZ f.1).contains (i:Int))=fun i=>f.1.contains i:=funext fun i=>GR _ _
 rw[e1,e2]
theorem yw{p:Nat}:nH c gs ([],[]) p=xt c gs p:=by
 unfold nH xt;rw[uz _ _ fun _ _=>rfl]
 rfl
def JE:Option (List Nat × List Nat × Nat)->D
 | none=> .tup [.str "keeps"]
 | some (B,T,p)=> .tup [.str "loses",e_ B,e_ T,nI p]
theorem CC(hS:Flat S){x:SO}(hx:Ag (S.length+1) x=true):Ab (S++[x]):=fun o ho=>by
 rw[show(S++[x]).length=S.length+1 by simp]
 rcases List.mem_append.mp ho with q | q
 .exact hS o q _
 .rw [List.mem_singleton.mp q];exact hx
theorem xv{N:Nat}{f:M}:BN (mI N f) (.int 0)= .ok (.bl (!(decide (jZ N f=0)))):=by
 show R.ok (D.bl (!((jZ N f:Int)==0)))=_;congr 3;by_cases q:jZ N f=0
 .rw [q];rfl
 .rw [decide_eq_false q];exact beq_eq_false_iff_ne.mpr (by omega)
theorem n_{f:M}{N:Nat}:jZ N f=0↔(List.range N).find? f=none:=by
 rw[zy,List.find?_eq_none];exact⟨fun h i hi=>by rw[h i (List.mem_range.mp hi)];decide,fun h i hi=>by have:=h i (List.mem_range.mpr hi);cases hf:f i with | false=>rfl | true=>exact absurd hf this⟩
abbrev BS(S:bu)(c:Nat)(ins:WJ)(gs:List Gt)(os:WK):bu:=S++[.ins 0 (gc c (a_ ins gs os))]
theorem wt:(BS S c ins gs os)[S.length]? =some (.ins 0 (gc c (a_ ins gs os))):=bq _ _
theorem zm{f:M}{p:Nat}{δ:DE}{g:FX}{i:Nat}(hS:Flat S)(Mr:c<=10)(hv:δ[i]? =some (some (.loc S.length)))(hg:∀{Q:V3->bu->Prop},Q (.d (mI (2 ^ c) f)) (BS S c ins gs os)->W3 (g δ (BS S c ins gs os)) Q)(hp:(List.range (2 ^ c)).find? f=some p){Q:V3->bu->Prop}(h:Q (.d (nI p)) (BS S c ins gs os)) :
 W3 (M5 (uG 0 "inputs_in" cE (hJ i) (bE g fw)) (xP (eC (.int 0))) δ (BS S c ins gs os)) Q:=by
 refine Qb <| Ak (k:=S.length) <| w_var (v:= .loc S.length) hv ⟨_,rfl,wt,Ku _ _ (by decide+kernel) (by decide+kernel) (by decide+kernel) (by decide+kernel),?_⟩
 refine bb <| hg <| dX <| wU Mr (CC hS rfl) wt <| dc (d:= .int 0) rfl ⟨_,_,nI p,rfl,rfl,rp ?_,h⟩
 rw[<-List.head?_filter] at hp;obtain⟨r,hr⟩:∃r,(List.range (2 ^ c)).filter f=p ::r:=by
  cases q:(List.range (2 ^ c)).filter f with
  | nil=>rw [q] at hp;cases hp
  | cons a r=>rw [q] at hp;cases hp;exact⟨r,rfl⟩
 rw[hr,ma (by omega) (by simp)]
 rfl
abbrev kE(S:bu)(ins:WJ)(gs:List Gt)(os:WK)(plain:D)(a3 a4 a5:Option V3):DE:=[some (.d (a_ ins gs os)),some (.loc S.length),some (.d plain),a3,a4,a5]
def AO(c:Nat)(gs:List Gt)(os:WK)(f:List Nat × List Nat):Option (List Nat × List Nat × Nat):=((List.range (2 ^ c)).find? (pO c gs os f)).map fun p=>(f.1,f.2,p)
theorem A6{a3:Option V3}{f:List Nat × List Nat}(NO:mM ins gs os)(hc:ins.length=c)(Mr:c<=10)(h3:∀x∈ins,x.2=3)(ho:∀x∈os,x.2.length=3)(hS:Flat S) :
 W3 (qV (kE S ins gs os (.lst (bK (2 ^ c) os (Wd c ins gs (nZ []) (nZ [])))) a3 (some (.d (e_ f.1))) (some (.d (e_ f.2)))) (BS S c ins gs os)) fun o S1=>S1=BS S c ins gs os/\
  (match (AO c gs os f).map fun r=>V3.d (JE (some r)) with | some v=>o= .rt v | none=>∃fU,o= .nx fU/\∃b3 b4 b5,fU=kE S ins gs os (.lst (bK (2 ^ c) os (Wd c ins gs (nZ []) (nZ [])))) b3 b4 b5):=by
 have hz:sizeLine=16777216:=sizeLine_eq;unfold qV;have em:(mI (2 ^ c) fun p=>os.any fun x=>lst (bW (jC p (Wd c ins gs (nZ []) (nZ []))) x.2) (bW (jC p (Wd c ins gs (nZ f.2) (nZ f.1))) x.2))=mI (2 ^ c) (pO c gs os f):=qt fun p hp=>by
  unfold pO;rw[tL hc h3 hp f,tL hc h3 hp ([],[]),yw]
 refine aZ <| bQ (by simp) <| Cr <| bb <| dc (d:= .lst (bK (2 ^ c) os (Wd c ins gs (nZ []) (nZ [])))) rfl <| bb <| Ak (k:=S.length) <| w_var (v:= .loc S.length) rfl ⟨_,rfl,wt,Ku _ _ (by decide+kernel) (by decide+kernel) (by decide+kernel) (by decide+kernel),?_⟩
 refine bb <| dc (d:= .tup ((nZ f.2).map .int)) (by rw[M4];rfl) <| bb <| dc (d:= .tup ((nZ f.1).map .int)) (by rw[M4];rfl) <| dX <| yT NO hc (CC hS rfl) wt <| dX ⟨[.lst (bK (2 ^ c) os (Wd c ins gs (nZ []) (nZ []))), .lst (bK (2 ^ c) os (Wd c ins gs (nZ f.2) (nZ f.1)))],_,rfl,HX ho,_,rfl,?_⟩
 rw[em];generalize bK (2 ^ c) os (Wd c ins gs (nZ []) (nZ []))=pl;simp only[List.set];refine oj <| ot (b:=!(decide (jZ (2 ^ c) (pO c gs os f)=0))) (cZ (a:=mI (2 ^ c) (pO c gs os f)) (b:= .int 0) rfl rfl xv) ?_
 unfold AO;cases hh:(List.range (2 ^ c)).find? (pO c gs os f) with
 | none=>
   rw[decide_eq_true (n_.mpr hh),if_neg (by decide)]
   exact gG ⟨rfl,_,rfl,_,_,_,rfl⟩
 | some p=>
   have vV:¬jZ (2 ^ c) (pO c gs os f)=0:=fun q=>by rw[n_.mp q] at hh;cases hh
   rw[decide_eq_false vV,if_pos (by decide)]
   refine jJ <| Kb <| bb <| dc (d:= .str "loses") rfl <| bb <| dc (d:=e_ f.1) rfl <| bb <| dc (d:=e_ f.2) rfl <| bb <| zm hS Mr rfl (fun h=>dc rfl h) hh <| dX ⟨by simp;omega,rfl,rfl⟩
theorem nu(NO:mM ins gs os)(hc:ins.length=c)(Ts:c<=4)(h3:∀x∈ins,x.2=3)(ho:∀x∈os,x.2.length=3)(hS:Flat S){Q:V3->bu->Prop}(h:Q (.d (JE (gf c gs os))) S) :
 W3 (jW [.d (a_ ins gs os)] S) Q:=by
 have hz:sizeLine=16777216:=sizeLine_eq;unfold jW;refine mJ hS.Oz (Ei rfl ?_);simp only[dC,sY,List.map,List.length,List.replicate,List.cons_append,List.nil_append,Nat.reduceAdd,Nat.reduceSub];unfold xf;have hw:((ins.all fun x=>decide (x.2=3)) && os.all fun x=>decide (x.2.length=3))=true:=by
  rw[Bool.and_eq_true,List.all_eq_true,List.all_eq_true];exact⟨fun x hx=>decide_eq_true (h3 x hx),fun x hx=>decide_eq_true (ho x hx)⟩
 refine aZ <| oj <| ot (b:=false) ?_ ?_
 .unfold Au Aw;rw[show aM eX (ah (af 0) (ah (eC (.int 3)) aI)) (down [some (.d (a_ ins gs os)),none,none,none,none,none])= .ok (.bl true) from(aw (ds:=[a_ ins gs os, .int (3:Nat)]) rfl (DS 3 (by have:=NO.hi;omega) NO.ho)).trans (by rw[hw])]
  rfl
 rw[if_neg (by decide)]
 refine gG ⟨_,rfl,?_⟩;refine aZ <| bQ (by simp) <| Le <| bb <| dc (d:=a_ ins gs os) rfl <| dX <| Im hc (by omega) (CC hS rfl) ⟨rfl,_,rfl,?_⟩
 simp only[List.set];refine aZ <| bQ (by simp) <| Ak (k:=S.length) <| w_var (v:= .loc S.length) rfl ⟨_,rfl,wt,Ku _ _ (by decide+kernel) (by decide+kernel) (by decide+kernel) (by decide+kernel),?_⟩
 refine bb <| dc (d:= .tup ((nZ []).map .int)) rfl <| bb <| dc (d:= .tup ((nZ []).map .int)) rfl <| dX <| yT NO hc (CC hS rfl) wt ⟨_,rfl,?_⟩
 simp only[List.set];have em:(mI (2 ^ c) fun p=>os.any fun x=>Hi (bW (jC p (Wd c ins gs (nZ []) (nZ []))) x.2))=mI (2 ^ c) (xq c gs os):=qt fun p hp=>by
  unfold xq;rw[tL hc h3 hp ([],[]),yw]
 refine aZ <| bQ (by simp) <| dc (d:=mI (2 ^ c) (xq c gs os)) ((aw (ds:=[.lst (bK (2 ^ c) os (Wd c ins gs (nZ []) (nZ [])))]) rfl (Dm ho)).trans (by rw[em])) ⟨_,rfl,?_⟩
 simp only[List.set];cases hu:(List.range (2 ^ c)).find? (xq c gs os) with
 | some p=>
   have vV:¬jZ (2 ^ c) (xq c gs os)=0:=fun q=>by rw[n_.mp q] at hu;cases hu
   refine Gr <| oj <| ot (b:=true) ((cZ (a:=mI (2 ^ c) (xq c gs os)) (b:= .int 0) rfl rfl xv).trans (by rw[decide_eq_false vV];rfl)) ?_
   rw[if_pos rfl];have hk:gf c gs os=some ([],[],p):=by unfold gf;rw [hu]
   rw[hk] at h;refine jJ <| Kb <| bb <| dc (d:= .str "loses") rfl <| bb <| dc (d:= .tup []) rfl <| bb <| dc (d:= .tup []) rfl <| bb <| zm hS (by omega) rfl (fun h=>dc rfl h) hu <| dX ⟨by simp;omega,_,rfl,_,rfl,rfl,⟨_,rfl⟩,_,rfl,h⟩
 | none=>
   refine aZ <| oj <| ot (b:=false) ((cZ (a:=mI (2 ^ c) (xq c gs os)) (b:= .int 0) rfl rfl xv).trans (by rw[decide_eq_true (n_.mpr hu)];rfl)) ?_
   rw[if_neg (by decide)]
   refine gG ⟨_,rfl,?_⟩;refine LN <| mK <| om (ds:=(pP c gs).map mQ) (jf (aw (ds:=[a_ ins gs os]) rfl (DI hc Ts NO.hg))) ?_
   rw[List.map_map];refine(uT (S:=BS S c ins gs os) (V3.d ∘ mQ) (fun f=>(AO c gs os f).map fun r=>V3.d (JE (some r))) (fun δ=>∃a3 a4 a5,δ=kE S ins gs os (.lst (bK (2 ^ c) os (Wd c ins gs (nZ []) (nZ [])))) a3 a4 a5)
    ⟨_,_,_,rfl⟩ ?_).mono fun o S1 ⟨e1,h1⟩=>?_
   .rintro f hf δ ⟨a3,a4,a5,rfl⟩;refine⟨kE S ins gs os (.lst (bK (2 ^ c) os (Wd c ins gs (nZ []) (nZ [])))) a3 (some (.d (e_ f.1))) (some (.d (e_ f.2))),rfl,?_⟩;exact A6 NO hc (by omega) h3 ho hS
   .subst e1;have hk:gf c gs os=(pP c gs).findSome? (AO c gs os):=by unfold gf;rw [hu];rfl
    rw[hk] at h;have hfs:(pP c gs).findSome? (fun f=>(AO c gs os f).map fun r=>V3.d (JE (some r)))=((pP c gs).findSome? (AO c gs os)).map fun r=>V3.d (JE (some r)):=by
     rw[List.map_findSome?];rfl
    rw[hfs] at h1;cases htt:(pP c gs).findSome? (AO c gs os) with
    | none=>
      rw[htt] at h1 h;obtain⟨fU,rfl,b3,b4,b5,rfl⟩:=h1;exact jJ <| dc (d:=JE none) rfl ⟨_,rfl,by unfold jt;rfl,⟨_,rfl⟩,_,by unfold res;rfl,h⟩
    | some d=>
      rw[htt] at h1 h;subst h1;exact⟨_,rfl,by unfold jt;rfl,⟨_,rfl⟩,_,by unfold res;rfl,h⟩
end
end K37
end
section
namespace K37
open PySem PySem.Spec PyProof.Rows L2 L3 MT JT
theorem xh{i:Nat}{f:FD}{δ:au}{d:D}{ds es:List D}(h:f δ= .ok d)(hs:seqD? d=some es)(hb:δ[i]? =some (.bld ds))(hl:ds.length+es.length<=sizeLine):wJ i f δ= .ok (.nx (δ.set i (.bld (ds++es)))):=by
 unfold wJ oT;rw [h,R.aO,hb];show(match seqD? d with | some es=>_ | none=>_)=_
 rw[hs];show R.bz _ _=_;rw [bN _ hl]
section
variable {ins:WJ} {gs:List Gt} {os:WK}
theorem xi(hi:ins.length < 1000):cS [.lst (ins.map inD)]= .ok (nI (cN ins)):=by
 have hz:sizeLine=16777216:=sizeLine_eq;unfold cS qr;refine cy (bM (aw (ds:=[.lst (ins.map fun x=>nI x.2)]) (ao (cK (bR (ds:=ins.map inD) rfl (by rw[List.length_map];omega) ?_)) rfl) ?_))
 .exact NT.bj inD _ fun x hx=>⟨[.val (.str x.1), .val (nI x.2)],rfl,rfl,rfl⟩
 .have e:(ins.map fun x=>nI x.2)=(ins.map fun x=>((x.2:Nat):Int)).map D.int:=by rw[List.map_map];rfl
  rw[e];show(match ints? ((ins.map fun x=>((x.2:Nat):Int)).map D.int) with | some ns=>R.ok (D.int ns.sum) | none=> .no)=_
  rw[L2.ints_map];show R.ok (D.int (ins.map fun x=>((x.2:Nat):Int)).sum)=_
  unfold nI cN;congr 2
  induction ins with
  | nil=>rfl
  | cons x l ih=>
    rw[List.map_cons,List.map_cons,List.sum_cons,List.sum_cons,ih (by simp only[List.length_cons] at hi;omega) (by rw[List.map_map];rfl)]
    omega
theorem AN{nums ns:List Nat}(h:∀n∈ns,n < nums.length)(hl:ns.length < 1000):eW [.tup (ns.map nI), .lst (nums.map nI)]= .ok (.tup ((ns.map fun n=>nums.getD n 0).map nI)):=by
 have hz:sizeLine=16777216:=sizeLine_eq;unfold eW wK;refine cy (bM (aw (ds:=[.lst ((ns.map fun n=>nums.getD n 0).map nI)]) (ao (cK (bR (ds:=ns.map nI) (Aj rfl) (by rw[List.length_map];omega) ?_)) rfl) rfl))
 rw[List.map_map];refine NT.bj nI _ fun n hn=>⟨[.val (nI n), .val (.lst (nums.map nI))],rfl,rfl,aj (a:= .lst (nums.map nI)) (b:=nI n) rfl rfl ?_⟩
 refine NT.iU ?_;rw[List.getElem?_map,List.getElem?_eq_getElem (h n hn)];show _=some (nI (nums.getD n 0));rw[List.getD_eq_getElem?_getD,List.getElem?_eq_getElem (h n hn)];rfl
abbrev gd(nums:List Nat):Nat->Nat:=fun n=>nums.getD n 0
theorem zu{nums:List Nat}(h:∀g∈gs,(∀n∈g.2.1,n < nums.length)/\g.2.1.length < 1000)(hl:gs.length < 1000):di [.lst (gs.map fB), .lst (nums.map nI)]= .ok (.lst ((gs.map (jM (gd nums))).map fB)):=by
 have hz:sizeLine=16777216:=sizeLine_eq;unfold di mL;refine cy (bM (cK (bR (ds:=gs.map fB) rfl (by rw[List.length_map];omega) ?_)))
 rw[List.map_map];exact NT.bj fB _ fun g hg=>⟨[.val (.str (kS g.1)), .val (.tup (g.2.1.map nI)), .val (.bl g.2.2), .val (.lst (nums.map nI))],rfl,rfl,cv (ao rfl (ao (aw (ds:=[.tup (g.2.1.map nI), .lst (nums.map nI)]) rfl (AN (h g hg).1 (h g hg).2)) (ao rfl rfl))) (by simp;omega)⟩
theorem zL{nums:List Nat}(h:∀x∈os,(∀n∈x.2,n < nums.length)/\x.2.length < 1000)(hl:os.length < 1000):dR [.lst (os.map jA), .lst (nums.map nI)]= .ok (.lst ((os.map (lD (gd nums))).map jA)):=by
 have hz:sizeLine=16777216:=sizeLine_eq;unfold dR nQ;refine cy (bM (cK (bR (ds:=os.map jA) rfl (by rw[List.length_map];omega) ?_)))
 rw[List.map_map];exact NT.bj jA _ fun x hx=>⟨[.val (.str x.1), .val (.tup (x.2.map nI)), .val (.lst (nums.map nI))],rfl,rfl,cv (ao rfl (ao (aw (ds:=[.tup (x.2.map nI), .lst (nums.map nI)]) rfl (AN (h x hx).1 (h x hx).2)) rfl)) (by simp;omega)⟩
theorem LO(n:Nat):fG 0 n=(List.range n).map nI:=by
 unfold fG;refine List.map_congr_left fun i _=>?_
 show D.int (0+(i:Int))=D.int (i:Int);rw[Int.zero_add]
theorem H0{f:FD}{δ:au}{n:Nat}(h:f δ= .ok (nI n))(hn:n < 1000000):HD f δ= .ok ((List.range n).map nI):=by
 unfold HD;rw [h,R.aO];show R.bz _ _=_;rw [bN _ ⟨by omega,by omega⟩,Int.toNat_natCast,LO]
theorem yC{f g:FD}{δ:au}{a b:Nat}(h:f δ= .ok (nI a))(h2:g δ= .ok (nI b))(ha:a < 1000000)(hb:b < 1000000):yt f g δ= .ok ((List.range' a (b - a)).map nI):=by
 unfold yt;rw [h,R.aO,h2,R.aO];show R.bz _ _=_;rw[bN _ ⟨by omega,by omega,by omega,by omega,by omega⟩,show((b:Int) - a).toNat=b - a by omega,List.range'_eq_map_range,List.map_map];rfl
def rf(c l n:Nat):List Nat:=List.range c++(List.range n).map fun i=>c+l+i
theorem E7(c l n:Nat):(rf c l n).length=c+n:=by unfold rf;simp
theorem Ij{c l n w:Nat}(h:w < c+n):gd (rf c l n) w=q_ c l w:=by
 show(rf c l n).getD w 0=_;unfold rf q_;rw[List.getD_eq_getElem?_getD];by_cases q:w < c
 .rw [List.getElem?_append_left (by simpa using q),if_pos q,List.getElem?_range q];rfl
 .rw [List.getElem?_append_right (by simpa using q),if_neg q,List.getElem?_map,List.length_range,List.getElem?_range (by omega)]
  show c+l+(w - c)=w+l;omega
theorem L6{l:Nat}(hi:ins.length < 100)(hw:∀x∈ins,x.2 < 100)(hg:gs.length < 1000)(hl:l < 100000):fN [a_ ins gs os,nI l]= .ok (.lst ((rf (cN ins) l gs.length).map nI)):=by
 have hz:sizeLine=16777216:=sizeLine_eq;have hwd:=qI hw;have hwd2:cN ins < 10000:=by omega
 unfold fN oR;refine cy (bp (dJ (d:=nI (cN ins)) (aw (ds:=[.lst (ins.map inD)]) rfl (xi (by omega))) (by simp [cA,fK])) (bp (tj (ds:=(List.range (cN ins)).map nI) (H0 (n:=cN ins) rfl (by omega)) (by simp [cA,fK])) ?_))
 have r2:ck (dE (aM fA (ah (e2 cm (af 0) (eC (.int 1))) aI))) (aD 0) fI (e2 cx (e2 cx (af 2) (af 1)) (af 0)) ["place"] [1,2] [.val (a_ ins gs os), .val (nI l), .val (nI (cN ins)), .bld ((List.range (cN ins)).map nI)]= .ok (((List.range gs.length).map fun i=>cN ins+l+i).map nI):=by
  refine bR (ds:=fG 0 gs.length) (pQ (n:=gs.length) (aw (ds:=[.lst (gs.map fB)]) rfl (by rw[q9,List.length_map])) (by omega)) (by unfold fG;rw [List.length_map,List.length_range];omega) ?_
  rw[List.map_map];unfold fG;refine NT.bj (fun i:Nat=>D.int (0+(i:Int))) _ fun i hi=>⟨[.val (.int (0+(i:Int))), .val (nI l), .val (nI (cN ins))],rfl,rfl,aj (a:= .int ((cN ins:Int)+l)) (b:= .int (0+(i:Int))) (aj (a:=nI (cN ins)) (b:=nI l) rfl rfl rfl) rfl ?_⟩
  exact congrArg (fun z=>R.ok (D.int z)) (by omega:(cN ins:Int)+l+(0+(i:Int))=((cN ins+l+i:Nat):Int))
 refine bp (δ1:=[.val (a_ ins gs os), .val (nI l), .val (nI (cN ins)), .bld ((rf (cN ins) l gs.length).map nI)]) ?_ (bM rfl);unfold C5;show(ck _ _ _ _ _ _ [.val (a_ ins gs os), .val (nI l), .val (nI (cN ins)), .bld ((List.range (cN ins)).map nI)]).bind _=_;rw[r2,R.aO];show R.bz (decide (((List.range (cN ins)).map nI).length+(((List.range gs.length).map fun i=>cN ins+l+i).map nI).length<=sizeLine)) _=_
 rw[bN _ (by rw[List.length_map,List.length_range,List.length_map,List.length_map,List.length_range];omega)]
 unfold rf;rw[List.map_append];rfl
end
def dg(pairs:List (Nat × Nat))(k:Nat):Option Nat:=(pairs.find? fun q=>decide (q.2=k)).map (·.1)
def dctP(pairs:List (Nat × Nat)):D:= .dct (pairs.map fun q=>Sum.inl ((q.2:Nat):Int)) (pairs.map fun q=>nI q.1)
theorem ES(a b:Nat):decide ((Sum.inl ((a:Nat):Int):Key)=Sum.inl ((b:Nat):Int))=decide (a=b):=by
 by_cases h:a=b
 .subst h;simp
 .rw [decide_eq_false h];refine decide_eq_false fun z=>h ?_
  injection z with z
  omega
theorem BE(k:Nat):∀pairs:List (Nat × Nat),FF (pairs.map fun q=>Sum.inl ((q.2:Nat):Int)) (pairs.map fun q=>nI q.1) (Sum.inl ((k:Nat):Int))=(dg pairs k).map nI
 | []=>rfl
 | q ::pairs=>by
   have ih:=BE k pairs;unfold FF dg at ih ⊢;rw[List.map_cons,List.map_cons,List.zip_cons_cons,List.find?_cons,List.find?_cons];show Option.map _ (match decide ((Sum.inl ((q.2:Nat):Int):Key)=Sum.inl ((k:Nat):Int)) with | true=>some (Sum.inl ((q.2:Nat):Int),nI q.1) | false=>_)=_
   rw[ES];cases decide (q.2=k) with
   | true=>rfl
   | false=>exact ih
theorem tm(k:Nat):∀pairs:List (Nat × Nat),oi (pairs.map fun q=>Sum.inl ((q.2:Nat):Int)) (Sum.inl ((k:Nat):Int))=(dg pairs k).isSome
 | []=>rfl
 | q ::pairs=>by
   have ih:=tm k pairs;unfold oi dg at ih ⊢;rw[List.map_cons,List.any_cons,List.find?_cons,ES,ih];cases decide (q.2=k) <;> rfl
theorem wR{k:Nat}{pairs:List (Nat × Nat)}:AW (.int k) (dctP pairs)= .ok (.bl (dg pairs k).isSome):=by
 show R.ok (D.bl (oi _ _))=_;rw[tm]
theorem H_{k:Nat}{pairs:List (Nat × Nat)}:Io (.int k) (dctP pairs)= .ok (.bl (dg pairs k).isNone):=by
 show R.ok (D.bl (!oi _ _))=_;rw[tm,Option.not_isSome]
theorem FC{k o:Nat}{pairs:List (Nat × Nat)}(h:dg pairs k=some o):BF (dctP pairs) (.int k)= .ok (nI o):=by
 show(match FF (pairs.map fun q=>Sum.inl ((q.2:Nat):Int)) (pairs.map fun q=>nI q.1) (Sum.inl ((k:Nat):Int)) with | some x=>R.ok x | none=> .no)=_
 rw[BE,h];rfl
theorem t9{f:Nat->Nat}{os:Nat->List Nat}:∀(a b:List (Option Nat × Nat)) (free:Nat),c0 f os (a++b) free=c0 f os a free++c0 f os b (free+aS a)
 | [],b,free=>rfl
 | (some o,w) ::a,b,free=>by
   rw[List.cons_append];show _++c0 f os (a++b) free=(_++c0 f os a free)++c0 f os b (free+aS a);rw[t9 a b free,List.append_assoc]
 | (none,w) ::a,b,free=>by
   rw[List.cons_append];show _++c0 f os (a++b) (free+w)=(_++c0 f os a (free+w))++c0 f os b (free+(w+aS a));rw[t9 a b (free+w),List.append_assoc,show free+w+aS a=free+(w+aS a) by omega]
theorem qG:∀(a b:List (Option Nat × Nat)),aS (a++b)=aS a+aS b
 | [],b=>by show aS b=0+_;omega
 | (some o,w) ::a,b=>qG a b
 | (none,w) ::a,b=>by
   show w+aS (a++b)=(w+aS a)+aS b;rw[qG a b];omega
def eV(pairs:List (Nat × Nat))(ins:WJ):List (Option Nat × Nat):=ins.zipIdx.map fun x=>(dg pairs x.2,x.1.2)
def zO(os:WK)(o:Nat):List Nat:=(os.getD o (Str.empty,[])).2
theorem F5{pairs:List (Nat × Nat)}{ins:WJ}{i:Nat}{x:Str × Nat}(h:ins[i]? =some x):(eV pairs ins).take (i+1)=(eV pairs ins).take i++[(dg pairs i,x.2)]:=by
 unfold eV;rw[List.take_add_one,List.getElem?_map,List.getElem?_zipIdx,h];simp
theorem jv{pairs:List (Nat × Nat)}{ins:WJ}:(eV pairs ins).length=ins.length:=by unfold eV;simp
theorem Jd{pairs:List (Nat × Nat)}{ins:WJ}{o w:Nat}(h:(some o,w)∈eV pairs ins):∃k x,ins[k]? =some x/\x.2=w/\dg pairs k=some o:=by
 unfold eV at h;obtain⟨⟨x,k⟩,hx,e⟩:=List.mem_map.mp h;rw[List.mem_zipIdx_iff_getElem?] at hx;injection e with e1 e2
 exact⟨k,x,hx,e2,e1⟩
theorem DP{pairs:List (Nat × Nat)}{k o:Nat}(h:dg pairs k=some o):(o,k)∈pairs:=by
 unfold dg at h;obtain⟨⟨a,b⟩,h1,e⟩:=L3.k9 h;have:=List.find?_some h1;have hb:b=k:=of_decide_eq_true this;have ha:a=o:=e;subst ha hb;exact List.mem_of_find?_eq_some h1
theorem pL:∀{φ:List (Option Nat × Nat)},(∀x∈φ,x.2 < 100)->aS φ<=100*φ.length
 | [],_=>Nat.le_refl _
 | (some o,w) ::φ,h=>by
   have:=pL (φ:=φ) fun x hx=>h x (List.mem_cons_of_mem _ hx)
   show aS φ<=100*(φ.length+1);omega
 | (none,w) ::φ,h=>by
   have:=pL (φ:=φ) fun x hx=>h x (List.mem_cons_of_mem _ hx)
   have:=h (none,w) List.mem_cons_self;show w+aS φ<=100*(φ.length+1);omega
theorem CD:∀{φ:List (Option Nat × Nat)},(∀x∈φ,x.2 < 100)->(φ.map (·.2)).sum<=100*φ.length
 | [],_=>Nat.le_refl _
 | x ::φ,h=>by
   have:=CD (φ:=φ) fun x hx=>h x (List.mem_cons_of_mem _ hx)
   have:=h x List.mem_cons_self;rw[List.map_cons,List.sum_cons,List.length_cons];omega
section
variable {aG ay:WJ} {gs1 gs2:List Gt} {bx dw:WK} {pairs:List (Nat × Nat)} {nums:List Nat}
def Fits(bx:WK)(ay:WJ)(pairs:List (Nat × Nat)):Prop:=∀q∈pairs,∃x y,bx[q.1]? =some x/\ay[q.2]? =some y/\x.2.length=y.2
theorem Fits.at(F:Fits bx ay pairs){o w:Nat}(h:(some o,w)∈eV pairs ay):∃x,bx[o]? =some x/\zO bx o=x.2/\x.2.length=w:=by
 obtain⟨k,y,h1,h2,h3⟩:=Jd h;obtain⟨x,y',a,b,c⟩:=F _ (DP h3);rw[h1] at b;cases b;refine⟨x,a,?_,by rw[c,h2]⟩
 unfold zO;rw[List.getD_eq_getElem?_getD,a];rfl
theorem E5(F:Fits bx ay pairs)(To:aG.length < 100)(Tr:∀x∈aG,x.2 < 100)(Ti:ay.length < 100)(RY:∀x∈ay,x.2 < 100)(Kl:gs1.length < 1000)(Em:gs2.length < 1000)(ho:∀x∈bx,x.2.length < 1000/\∀n∈x.2,n < nums.length) :
 d8 [a_ ay gs2 dw,a_ aG gs1 bx, .lst (nums.map nI),dctP pairs]= .ok (.lst ((c0 (gd nums) (zO bx) (eV pairs ay) (cN aG)++List.range' (cN aG+aS (eV pairs ay)+gs1.length) gs2.length).map nI)):=by
 have hz:sizeLine=16777216:=sizeLine_eq;have hwd:=qI Tr;have hph:∀x∈eV pairs ay,x.2 < 100:=fun x hx=>by
  unfold eV at hx;obtain⟨⟨y,k⟩,hy,rfl⟩:=List.mem_map.mp hx;rw[List.mem_zipIdx_iff_getElem?] at hy;exact RY y (List.mem_of_getElem? hy)
 have hpt:∀i,∀x∈(eV pairs ay).take i,x.2 < 100:=fun i x hx=>hph x (List.mem_of_mem_take hx)
 have hlw:∀i,aS ((eV pairs ay).take i)<=10000:=fun i=>by
  have:=pL (hpt i);rw[List.length_take,jv] at this;omega
 have hol:∀i,(c0 (gd nums) (zO bx) ((eV pairs ay).take i) (cN aG)).length<=10000:=fun i=>by
  rw[lB _ _ fun o w h=>by obtain⟨x,_,e,e2⟩:=F.at (List.mem_of_mem_take h);rw [e,e2]]
  have:=CD (hpt i);rw[List.length_take,jv] at this;omega
 unfold d8 mF;refine cy (bp (tj (ds:=[]) rfl (by simp [cA,fW])) (bp (dJ (d:=nI (cN aG)) (aw (ds:=[.lst (aG.map inD)]) rfl (xi (by omega))) (by simp [cA,fW])) ?_))
 let E (i:Nat) (a6 a7:Sl):au:=[.val (a_ ay gs2 dw), .val (a_ aG gs1 bx), .val (.lst (nums.map nI)), .val (dctP pairs), .bld ((c0 (gd nums) (zO bx) ((eV pairs ay).take i) (cN aG)).map nI), .val (nI (cN aG+aS ((eV pairs ay).take i))),a6,a7, .un]
 obtain⟨δ1,e1,a6,a7,mv⟩:=gg (t:=eJ 2 (bw (aD 6) (bw (aD 7) eR))) (body:=gO) (ds:=dG (ay.map inD))
  (fun i δ=>∃a6 a7,δ=E i a6 a7) (δ:=E 0 .un .un) ⟨.un, .un,rfl⟩ (by
    rintro i d δ hd ⟨a6,a7,rfl⟩;have hv:((dG (ay.map inD)).map V3.d)[i]? =some (.d d):=by rw[List.getElem?_map,hd];rfl
    obtain⟨d0,O6,ed⟩:=xE hv;cases ed;obtain⟨x,hx,rfl⟩:=NT.qd O6;have hxw:=RY x (List.mem_of_getElem? hx);refine⟨E (i+1) (.val (.int i)) (.val (inD x)),?_,⟨_,_,rfl⟩⟩;have hE:E (i+1) (.val (.int i)) (.val (inD x))=[.val (a_ ay gs2 dw), .val (a_ aG gs1 bx), .val (.lst (nums.map nI)), .val (dctP pairs), .bld ((c0 (gd nums) (zO bx) ((eV pairs ay).take i) (cN aG)).map nI++(c0 (gd nums) (zO bx) [(dg pairs i,x.2)] (cN aG+aS ((eV pairs ay).take i))).map nI), .val (nI (cN aG+aS ((eV pairs ay).take i)+aS [(dg pairs i,x.2)])), .val (.int i), .val (inD x), .un]:=by
     show [_,_,_,_,Sl.bld ((c0 (gd nums) (zO bx) ((eV pairs ay).take (i+1)) (cN aG)).map nI),Sl.val (nI (cN aG+aS ((eV pairs ay).take (i+1)))),_,_,_]=_;rw[F5 hx,t9,qG,List.map_append,Nat.add_assoc]
    rw[hE];have yo:=hol i;have Bg:=hlw i;rw[show eJ 2 (bw (aD 6) (bw (aD 7) eR)) (.tup [.int i,inD x]) (E i a6 a7)= .ok ([.val (a_ ay gs2 dw), .val (a_ aG gs1 bx), .val (.lst (nums.map nI)), .val (dctP pairs), .bld ((c0 (gd nums) (zO bx) ((eV pairs ay).take i) (cN aG)).map nI), .val (nI (cN aG+aS ((eV pairs ay).take i))), .val (.int i), .val (inD x), .un]:au) from rfl,R.aO]
    generalize hfr:cN aG+aS ((eV pairs ay).take i)=fr;have hfrl:fr < 30000:=by omega
    generalize c0 (gd nums) (zO bx) ((eV pairs ay).take i) (cN aG)=L at yo;unfold gO;cases hf:dg pairs i with
    | some o=>
      have hm:(some o,x.2)∈eV pairs ay:=by
       unfold eV;exact List.mem_map.mpr ⟨(x,i),List.mem_zipIdx_iff_getElem?.mpr hx,by rw[hf]⟩
      obtain⟨y,y1,y2,y3⟩:=F.at hm;have hyo:=ho y (List.mem_of_getElem? y1);refine rW (cZ (a:= .int i) (b:=dctP pairs) rfl rfl (by rw[wR,hf];rfl)) ?_
      refine(xh (ds:=L.map nI) (es:=((y.2.map (gd nums)).map nI)) (aw (ds:=[.tup (y.2.map nI), .lst (nums.map nI)]) (ao (aj (a:=jA y) (b:= .int 1) (aj (a:= .lst (bx.map jA)) (b:=nI o) (aj (a:=a_ aG gs1 bx) (b:= .int 2) rfl rfl rfl) (aj (a:=dctP pairs) (b:= .int i) rfl rfl (FC hf)) (NT.iU (by rw[List.getElem?_map,y1];rfl))) rfl rfl) rfl) (AN hyo.2 hyo.1)) rfl rfl ?_).trans ?_
      .rw [List.length_map,List.length_map,List.length_map];omega
      .show R.ok (Out.nx [_,_,_,_,Sl.bld (L.map nI++(y.2.map (gd nums)).map nI),Sl.val (nI fr),_,_,_])=R.ok (Out.nx [_,_,_,_,Sl.bld (L.map nI++(((zO bx o).map (gd nums))++[]).map nI),Sl.val (nI (fr+0)),_,_,_]);rw[y2,List.append_nil,Nat.add_zero]
    | none=>
      refine jr (cZ (a:= .int i) (b:=dctP pairs) rfl rfl (by rw[wR,hf];rfl)) ?_
      have ev:∀b,e2 cx (af 5) (e2 cm (af 7) (eC (.int 1))) [.val (a_ ay gs2 dw), .val (a_ aG gs1 bx), .val (.lst (nums.map nI)), .val (dctP pairs), .bld b, .val (nI fr), .val (.int i), .val (inD x), .un]= .ok (nI (fr+x.2)):=fun b=>aj (a:=nI fr) (b:=nI x.2) rfl (aj (a:=inD x) (b:= .int 1) rfl rfl rfl) rfl
      refine(bp (xh (d:= .lst ((List.range' fr x.2).map nI)) (ds:=L.map nI) (es:=(List.range' fr x.2).map nI) (cK ((yC (a:=fr) (b:=fr+x.2) rfl (ev (L.map nI)) (by omega) (by omega)).trans (by rw[Nat.add_sub_cancel_left]))) rfl rfl (by rw[List.length_map,List.length_map,List.length_range'];omega)) (dJ (ev (L.map nI++(List.range' fr x.2).map nI)) (by simp))).trans ?_
      show R.ok (Out.nx [_,_,_,_,Sl.bld (L.map nI++(List.range' fr x.2).map nI),Sl.val (nI (fr+x.2)),_,_,_])=R.ok (Out.nx [_,_,_,_,Sl.bld (L.map nI++(List.range' fr x.2++[]).map nI),Sl.val (nI (fr+(x.2+0))),_,_,_]);rw[List.append_nil,Nat.add_zero])
 have hlen:(dG (ay.map inD)).length=ay.length:=by simp [dG]
 rw[hlen] at mv;have hta:(eV pairs ay).take ay.length=eV pairs ay:=List.take_of_length_le (by rw[jv];exact Nat.le_refl _)
 have yo:=hol ay.length;have Bg:=hlw ay.length;subst mv;refine bp (kg (ds:=dG (ay.map inD)) (w6 rfl) e1) ?_;show dW _ _ [.val (a_ ay gs2 dw), .val (a_ aG gs1 bx), .val (.lst (nums.map nI)), .val (dctP pairs), .bld ((c0 (gd nums) (zO bx) ((eV pairs ay).take ay.length) (cN aG)).map nI), .val (nI (cN aG+aS ((eV pairs ay).take ay.length))),a6,a7, .un]=_;rw[hta] at yo Bg ⊢;generalize c0 (gd nums) (zO bx) (eV pairs ay) (cN aG)=L at yo;generalize hfr:cN aG+aS (eV pairs ay)=fr;refine bp (dJ (d:=nI (fr+gs1.length)) (aj (a:=nI fr) (b:=nI gs1.length) rfl (aw (ds:=[.lst (gs1.map fB)]) rfl (by rw[q9,List.length_map];rfl)) rfl) (by simp)) ?_
 have ev:∀b,e2 cx (af 8) (aM fA (ah (e2 cm (af 0) (eC (.int 1))) aI)) [.val (a_ ay gs2 dw), .val (a_ aG gs1 bx), .val (.lst (nums.map nI)), .val (dctP pairs), .bld b, .val (nI fr),a6,a7, .val (nI (fr+gs1.length))]= .ok (nI (fr+gs1.length+gs2.length)):=fun b=>aj (a:=nI (fr+gs1.length)) (b:=nI gs2.length) rfl (aw (ds:=[.lst (gs2.map fB)]) rfl (by rw[q9,List.length_map];rfl)) rfl
 refine bp (xh (d:= .lst ((List.range' (fr+gs1.length) gs2.length).map nI)) (ds:=L.map nI) (es:=(List.range' (fr+gs1.length) gs2.length).map nI) (cK ?_) rfl rfl (by rw[List.length_map,List.length_map,List.length_range'];omega)) (bM ?_)
 .exact(yC (a:=fr+gs1.length) (b:=fr+gs1.length+gs2.length) rfl (ev (L.map nI)) (by omega) (by omega)).trans (by rw[Nat.add_sub_cancel_left])
 .show R.ok (D.lst (L.map nI++(List.range' (fr+gs1.length) gs2.length).map nI))=_;rw[List.map_append]
end
end K37
end
section
namespace K37
open PySem PySem.Spec PyProof.Rows L2 L3 MT JT
def sL(q:Nat × Nat):D:= .tup [nI q.1,nI q.2]
def CK(pairs:List (Nat × Nat)):List (Key × D):=pairs.map fun q=>(Sum.inl ((q.2:Nat):Int),nI q.1)
theorem JV(pairs:List (Nat × Nat)):D.dct ((CK pairs).map (·.1)) ((CK pairs).map (·.2))=dctP pairs:=by
 unfold CK dctP;rw[List.map_map,List.map_map];rfl
theorem CB{aL:List (Key × D)}{k:Key}{d:D}(h:oi (aL.map (·.1)) k=false):vH aL k d=aL++[(k,d)]:=by
 unfold vH;have e:(aL.any fun kv=>decide (kv.1=k))=oi (aL.map (·.1)) k:=by unfold oi;rw [List.any_map];rfl
 rw[e,h,if_neg (by decide)]
section
variable {S:bu} {pairs:List (Nat × Nat)}
theorem E6{k:Nat}(h:∀q∈pairs,q.2≠k):dg pairs k=none:=by
 unfold dg;rw[List.find?_eq_none.mpr fun q hq=>by rw[decide_eq_false (h q hq)];decide]
 rfl
theorem va{α β:Type}{f:α->β}{l:List α}{i:Nat}{x:α}(hn:(l.map f).Nodup)(hx:l[i]? =some x):∀y∈l.take i,f y≠f x:=fun y hy e=>by
 obtain⟨j,hj⟩:=List.getElem?_of_mem hy;rw[List.getElem?_take] at hj;split at hj
 .rename_i hji;have h1:(l.map f)[j]? =some (f y):=by rw[List.getElem?_map,hj];rfl
  have h2:(l.map f)[i]? =some (f x):=by rw[List.getElem?_map,hx];rfl
  obtain⟨a1,a2⟩:=List.getElem?_eq_some_iff.mp h1;obtain⟨b1,b2⟩:=List.getElem?_eq_some_iff.mp h2;have:=(List.nodup_iff_pairwise_ne.mp hn);have:=List.pairwise_iff_getElem.mp this j i a1 b1 hji;exact this (by rw[a2,b2,e])
 .cases hj
theorem Lc(hn:(pairs.map (·.2)).Nodup)(hl:pairs.length < 1000)(hS:Ab S){Q:V3->bu->Prop}(h:Q (.d (dctP pairs)) S):W3 (gq [.d (.lst (pairs.map sL))] S) Q:=by
 have hz:sizeLine=16777216:=sizeLine_eq;unfold gq;refine mJ hS (Ei rfl ?_);simp only[dC,iK,List.map,List.length,List.replicate,List.cons_append,List.nil_append,Nat.reduceAdd,Nat.reduceSub];unfold kA;refine aZ <| bQ (by simp) <| EH ⟨_,rfl,?_⟩
 simp only[List.set];refine aZ <| mK <| om (ds:=pairs.map sL) rfl ?_
 refine(dQ (fun i δ S2=>(∃a b,δ=[some (.d (.lst (pairs.map sL))),some (.loc S.length),a,b])/\S2=S++[SO.dct (CK (pairs.take i))])
  ⟨⟨_,_,rfl⟩,rfl⟩ ?_).mono fun o S2 ⟨fU,k4,⟨a,b,yq⟩,yp⟩=>⟨fU,k4,?_⟩
 .rintro i v δ S2 hv ⟨⟨a,b,rfl⟩,rfl⟩;obtain⟨q,hq,rfl⟩:=NT.j6 hv;refine⟨[some (.d (.lst (pairs.map sL))),some (.loc S.length),some (.d (nI q.1)),some (.d (nI q.2))],rfl,?_⟩;unfold mG;have hno:dg (pairs.take i) q.2=none:=E6 (va hn hq);have h1:(dq (S++[.dct (CK (pairs.take i))]) [some (.d (.lst (pairs.map sL))),some (.loc S.length),some (.d (nI q.1)),some (.d (nI q.2))])[1]? =some (.val (dctP (pairs.take i))):=by
   unfold dq;show some (match res (S++[.dct (CK (pairs.take i))]) (.loc S.length) with | some d=>Sl.val d | none=> .un)=_
   unfold res;rw[bq];show some (Sl.val (.dct ((CK (pairs.take i)).map (·.1)) ((CK (pairs.take i)).map (·.2))))=_
   rw[JV]
  refine aZ <| oj <| Np (b:=false) (cZ (a:=nI q.2) (b:=dctP (pairs.take i)) rfl (by unfold af;rw [h1]) (by show AW (.int (q.2:Nat)) _=_;rw [wR,hno];rfl)) ?_
  rw[if_neg (by decide)]
  refine gG ⟨_,rfl,?_⟩;refine Bq <| dc (d:=nI q.1) rfl <| w_var (v:= .loc S.length) rfl <| dc (d:=nI q.2) rfl ⟨_,S.length,_,Sum.inl ((q.2:Nat):Int),CK (pairs.take i),rfl,rfl,rfl,rfl,bq _ _,?_,?_⟩
  .unfold CK;rw [List.length_map,List.length_take];omega
  .refine⟨_,rfl,⟨_,_,rfl⟩,?_⟩;rw[c5,CB (by
    have:=tm q.2 (pairs.take i);rw[hno] at this;unfold CK;rw[List.map_map];exact this),List.take_add_one,hq]
   unfold CK;rw[List.map_append];rfl
 rw[List.length_map,List.length_map,List.take_length] at yp;subst yq yp;refine jJ (w_var rfl ⟨_,rfl,by unfold jt;exact decide_eq_true (Nat.le_refl _),⟨_,rfl⟩,dctP pairs,?_,h⟩)
 unfold res;rw[bq];show some (D.dct ((CK pairs).map (·.1)) ((CK pairs).map (·.2)))=_
 rw[JV]
def Jo(x:Str × D):D:= .tup [.str x.1,x.2]
def Ej(xs:List (Str × D)):List (Key × D):=xs.map fun x=>(Sum.inr x.1,D.bl true)
theorem EV{xs:List (Str × D)}(h:∀x∈xs,x.1≠n):oi ((Ej xs).map (·.1)) (Sum.inr n)=false:=by
 unfold oi Ej;rw[List.map_map,List.any_map];refine List.any_eq_false.mpr fun x hx=>?_
 show ¬decide ((Sum.inr x.1:Key)=Sum.inr n)=true;rw[decide_eq_false fun z=>h x hx (by injection z)]
 decide
theorem yX{xs:List (Str × D)}(hn:(xs.map (·.1)).Nodup)(hl:xs.length < 1000)(hS:Ab S){Q:V3->bu->Prop}(h:Q (.d .cX) S):W3 (eK [.d (.lst (xs.map Jo))] S) Q:=by
 have hz:sizeLine=16777216:=sizeLine_eq;unfold eK;refine mJ hS (NS rfl ?_);simp only[dC,iI,List.map,List.length,List.replicate,List.cons_append,List.nil_append,Nat.reduceAdd,Nat.reduceSub];unfold kI;refine aZ <| bQ (by simp) <| EH ⟨_,rfl,?_⟩
 simp only[List.set];refine mK <| om (ds:=xs.map Jo) rfl ?_
 refine(dQ (fun i δ S2=>(∃a b,δ=[some (.d (.lst (xs.map Jo))),some (.loc S.length),a,b])/\S2=S++[SO.dct (Ej (xs.take i))])
  ⟨⟨_,_,rfl⟩,rfl⟩ ?_).mono fun o S2 ⟨fU,k4,⟨a,b,yq⟩,yp⟩=>⟨fU,k4,by unfold jt;rfl,⟨_,yp⟩, .cX,by unfold res;rfl,h⟩
 rintro i v δ S2 hv ⟨⟨a,b,rfl⟩,rfl⟩;obtain⟨x,hx,rfl⟩:=NT.j6 hv;refine⟨[some (.d (.lst (xs.map Jo))),some (.loc S.length),some (.d (.str x.1)),some (.d x.2)],rfl,?_⟩;unfold mE;have hno:=EV (n:=x.1) (xs:=xs.take i) (va hn hx);have h1:(dq (S++[.dct (Ej (xs.take i))]) [some (.d (.lst (xs.map Jo))),some (.loc S.length),some (.d (.str x.1)),some (.d x.2)])[1]? =some (.val (.dct ((Ej (xs.take i)).map (·.1)) ((Ej (xs.take i)).map (·.2)))):=by
  unfold dq;show some (match res (S++[.dct (Ej (xs.take i))]) (.loc S.length) with | some d=>Sl.val d | none=> .un)=_
  unfold res;rw[bq]
 refine aZ <| oj <| Np (b:=false) (cZ (a:= .str x.1) (b:= .dct ((Ej (xs.take i)).map (·.1)) ((Ej (xs.take i)).map (·.2))) rfl (by unfold af;rw [h1]) (by show R.ok (D.bl (oi _ _))=_;rw [hno])) ?_
 rw[if_neg (by decide)]
 refine gG ⟨_,rfl,?_⟩;refine Bq <| dc (d:= .bl true) rfl <| w_var (v:= .loc S.length) rfl <| dc (d:= .str x.1) rfl ⟨_,S.length,_,Sum.inr x.1,Ej (xs.take i),rfl,rfl,rfl,rfl,bq _ _,?_,?_⟩
 .unfold Ej;rw [List.length_map,List.length_take];omega
 .refine⟨_,rfl,⟨_,_,rfl⟩,?_⟩;rw[c5,CB hno,List.take_add_one,hx];unfold Ej;rw[List.map_append];rfl
end
section
variable {aG ay:WJ} {gs1 gs2:List Gt} {bx dw:WK} {pairs:List (Nat × Nat)}
theorem LL(a b:Nat):BN (.int a) (.int b)= .ok (.bl (!decide (a=b))):=by
 show R.ok (D.bl (!((a:Int)==(b:Int))))=_;congr 3;by_cases h:a=b
 .rw [decide_eq_true h];exact beq_iff_eq.mpr (by omega)
 .rw [decide_eq_false h];exact beq_eq_false_iff_ne.mpr (by omega)
theorem EY{N:List Str}{F:FS}{ds:List D}{δ:au}(h:F (cA N ds)= .ok (.nx δ)):oQ N F ds= .ok .cX:=by unfold oQ;rw [h];rfl
theorem Ib(F:Fits bx ay pairs):gS [a_ aG gs1 bx,a_ ay gs2 dw, .lst (pairs.map sL)]= .ok .cX:=by
 unfold gS qk;obtain⟨δ1,e1,a,b,mv⟩:=gg (t:=eJ 2 (bw (aD 3) (bw (aD 4) eR))) (body:=jQ) (ds:=pairs.map sL)
  (fun i δ=>∃a b,δ=[.val (a_ aG gs1 bx), .val (a_ ay gs2 dw), .val (.lst (pairs.map sL)),a,b]) (δ:=[.val (a_ aG gs1 bx), .val (a_ ay gs2 dw), .val (.lst (pairs.map sL)), .un, .un]) ⟨.un, .un,rfl⟩ (by
    rintro i d δ hd ⟨a,b,rfl⟩;obtain⟨q,hq,rfl⟩:=NT.qd hd;obtain⟨x,y,h1,h2,h3⟩:=F q (List.mem_of_getElem? hq);refine⟨[.val (a_ aG gs1 bx), .val (a_ ay gs2 dw), .val (.lst (pairs.map sL)), .val (nI q.1), .val (nI q.2)],?_,⟨_,_,rfl⟩⟩;rw[show eJ 2 (bw (aD 3) (bw (aD 4) eR)) (sL q) [.val (a_ aG gs1 bx), .val (a_ ay gs2 dw), .val (.lst (pairs.map sL)),a,b]= .ok [.val (a_ aG gs1 bx), .val (a_ ay gs2 dw), .val (.lst (pairs.map sL)), .val (nI q.1), .val (nI q.2)] from rfl,R.aO]
    unfold jQ;refine jr (cZ (a:= .int x.2.length) (b:= .int y.2) (k:=false) (aw (ds:=[.tup (x.2.map nI)]) (ao (aj (a:=jA x) (b:= .int 1) (aj (a:= .lst (bx.map jA)) (b:=nI q.1) (aj (a:=a_ aG gs1 bx) (b:= .int 2) rfl rfl rfl) rfl (NT.iU (by rw[List.getElem?_map,h1];rfl))) rfl rfl) rfl) (by show R.ok (D.int ((x.2.map nI).length:Nat))=_;rw [List.length_map])) (aj (a:=inD y) (b:= .int 1) (aj (a:= .lst (ay.map inD)) (b:=nI q.2) (aj (a:=a_ ay gs2 dw) (b:= .int 0) rfl rfl rfl) rfl (NT.iU (by rw[List.getElem?_map,h2];rfl))) rfl rfl) ?_) rfl
    rw[LL,h3,decide_eq_true rfl];rfl)
 exact EY (kg (ds:=pairs.map sL) rfl e1)
theorem Gb{n m:Nat}(h:n<=m):Eg (.int n) (.int m)= .ok (.bl false):=by
 show R.ok (D.bl (decide ((n:Int) > (m:Int))))=_;rw[decide_eq_false (by omega)]
theorem Ii{ins:WJ}{gs:List Gt}{os:WK}(h1:ins.length<=6)(h2:gs.length<=60)(h3:os.length<=6):gQ [a_ ins gs os]= .ok .cX:=by
 unfold gQ pN;have q1:b2 Eg (aM fA (ah (e2 cm (af 0) (eC (.int 0))) aI)) (eC ig) (cA fm [a_ ins gs os])= .ok false:=cZ (a:= .int ins.length) (b:= .int (6:Nat)) (aw (ds:=[.lst (ins.map inD)]) rfl (by rw[q9,List.length_map])) rfl (Gb h1)
 have q2:b2 Eg (aM fA (ah (e2 cm (af 0) (eC (.int 1))) aI)) (eC e8) (cA fm [a_ ins gs os])= .ok false:=cZ (a:= .int gs.length) (b:= .int (60:Nat)) (aw (ds:=[.lst (gs.map fB)]) rfl (by rw[q9,List.length_map])) rfl (Gb h2)
 have q3:b2 Eg (aM fA (ah (e2 cm (af 0) (eC (.int 2))) aI)) (eC gn) (cA fm [a_ ins gs os])= .ok false:=cZ (a:= .int os.length) (b:= .int (6:Nat)) (aw (ds:=[.lst (os.map jA)]) rfl (by rw[q9,List.length_map])) rfl (Gb h3)
 refine EY (δ:=cA fm [a_ ins gs os]) (jr ?_ rfl);unfold M3;rw[q1,R.aO,if_neg (by decide),q2,R.aO,if_neg (by decide)]
 exact q3
end
end K37
end
section
namespace K37
open PySem PySem.Spec PyProof.Rows L2 L3 MT JT
def i0(pairs:List (Nat × Nat))(ins:WJ):WJ:=(ins.zipIdx.filter fun x=>(dg pairs x.2).isNone).map (·.1)
def i8(pairs:List (Nat × Nat))(os:WK):WK:=(os.zipIdx.filter fun x=>!(pairs.map (·.1)).contains x.2).map (·.1)
theorem zw{pairs:List (Nat × Nat)}{ins:WJ}:cN (i0 pairs ins)=aS (eV pairs ins):=by
 unfold i0 eV;generalize ins.zipIdx=l
 induction l with
 | nil=>rfl
 | cons x l ih=>
   rw[List.filter_cons,List.map_cons];cases hf:dg pairs x.2 with
   | none=>
     rw[Option.isNone_none,if_pos rfl,List.map_cons];show cN (x.1 ::_)=x.1.2+aS _;rw[<-ih];unfold cN;rw[List.map_cons,List.sum_cons]
   | some o=>
     rw[Option.isNone_some,if_neg (by decide)]
     exact ih
theorem y9{pairs:List (Nat × Nat)}{ins:WJ}{x:Str × Nat}(h:x∈i0 pairs ins):x∈ins:=by
 unfold i0 at h;obtain⟨⟨y,k⟩,hy,rfl⟩:=List.mem_map.mp h;exact List.mem_of_getElem? (List.mem_zipIdx_iff_getElem?.mp (List.mem_filter.mp hy).1)
theorem jD{pairs:List (Nat × Nat)}{os:WK}{x:Str × List Nat}(h:x∈i8 pairs os):x∈os:=by
 unfold i8 at h;obtain⟨⟨y,k⟩,hy,rfl⟩:=List.mem_map.mp h;exact List.mem_of_getElem? (List.mem_zipIdx_iff_getElem?.mp (List.mem_filter.mp hy).1)
section
variable {aG ay:WJ} {gs1 gs2:List Gt} {bx dw:WK} {pairs:List (Nat × Nat)} {S:bu}
abbrev jL(aG ay:WJ)(bx:WK)(pairs:List (Nat × Nat)):List Nat:=c0 (q_ (cN aG) (aS (eV pairs ay))) (zO bx) (eV pairs ay) (cN aG)
abbrev Iv(aG ay:WJ)(pairs:List (Nat × Nat)):Nat->Nat:=q_ (cN aG) (aS (eV pairs ay))
abbrev FR(aG ay:WJ)(gs1:List Gt)(bx:WK)(pairs:List (Nat × Nat)):Nat->Nat:=B4 (jL aG ay bx pairs) (cN aG+aS (eV pairs ay)+gs1.length)
def jI(aG ay:WJ)(pairs:List (Nat × Nat)):WJ:=aG++i0 pairs ay
def jG(aG ay:WJ)(gs1 gs2:List Gt)(bx:WK)(pairs:List (Nat × Nat)):List Gt:=gJ gs1 gs2 (eV pairs ay) (zO bx) (cN aG)
def jO(aG ay:WJ)(gs1:List Gt)(bx dw:WK)(pairs:List (Nat × Nat)):WK:=(i8 pairs bx).map (lD (Iv aG ay pairs))++dw.map (lD (FR aG ay gs1 bx pairs))
theorem Gp{α:Type}(f:α->D)(l:List α):dG (l.map f)=l.zipIdx.map fun x=>D.tup [.int x.2,f x.1]:=by
 unfold dG;rw[List.zipIdx_map,List.map_map];rfl
theorem Ks{ins:WJ}:ins.map MT.inD=(ins.map fun x=>(x.1,nI x.2)).map Jo:=by rw[List.map_map];rfl
theorem HG{os:WK}:os.map jA=(os.map fun x=>(x.1,D.tup (x.2.map nI))).map Jo:=by rw[List.map_map];rfl
theorem B0{ins:WJ}:((eV pairs ins).map (·.2)).sum=cN ins:=by
 unfold eV cN;rw[List.map_map];congr 1;refine List.ext_getElem? fun i=>?_
 rw[List.getElem?_map,List.getElem?_map,List.getElem?_zipIdx];cases ins[i]? <;> rfl
theorem pB{f g:Nat->Nat}{os:Nat->List Nat}:∀{φ:List (Option Nat × Nat)} {free:Nat},(∀o w,(some o,w)∈φ->∀n∈os o,f n=g n)->c0 f os φ free=c0 g os φ free
 | [],_,_=>rfl
 | (some o,w) ::φ,free,h=>by
   show(os o).map f++c0 f os φ free=(os o).map g++c0 g os φ free;rw[pB fun o w hh=>h o w (List.mem_cons_of_mem _ hh),List.map_congr_left (h o w List.mem_cons_self)]
 | (none,w) ::φ,free,h=>by
   show _++c0 f os φ (free+w)=_++c0 g os φ (free+w);rw[pB fun o w hh=>h o w (List.mem_cons_of_mem _ hh)]
theorem Mg{L:List Nat}{top n w:Nat}(h:w < L.length+n):gd (L++List.range' top n) w=B4 L top w:=by
 show(L++List.range' top n).getD w 0=_;unfold B4;rw[List.getD_eq_getElem?_getD];by_cases q:w < L.length
 .rw [List.getElem?_append_left q,if_pos q,List.getD_eq_getElem?_getD]
 .rw [List.getElem?_append_right (by omega),if_neg q,List.getElem?_range' (by omega)]
  show top+1*(w - L.length)=_;omega
theorem ud{f g:Nat->Nat}{x:Gt}(h:∀n∈x.2.1,f n=g n):jM f x=jM g x:=by unfold jM;rw [List.map_congr_left h]
theorem ub{f g:Nat->Nat}{x:Str × List Nat}(h:∀n∈x.2,f n=g n):lD f x=lD g x:=by unfold lD;rw [List.map_congr_left h]
theorem Ck{a b:List D}(h:a.length+b.length<=sizeLine):cx (.lst a) (.lst b)= .ok (.lst (a++b)):=IT h
theorem HJ(k:Nat)(l:List Nat):Ad (.int k) (.lst (l.map nI))= .ok (.bl (!l.contains k)):=by
 have e:l.map nI=(l.map fun(n:Nat)=>(n:Int)).map D.int:=(List.map_map (g:=D.int) (f:=fun(n:Nat)=>(n:Int)) (l:=l)).symm
 rw[e];show((match ints? ((l.map fun(n:Nat)=>(n:Int)).map D.int) with | some ss=>R.ok (ss.contains (k:Int)) | none=> .no)).bind (fun b=>R.ok (D.bl (!b)))=_
 rw[L2.ints_map];show R.ok (D.bl (!((l.map fun(n:Nat)=>(n:Int)).contains (k:Int))))=_
 congr 3;rw[Bool.eq_iff_iff];simp only[List.contains_iff_mem,List.mem_map];constructor
 .rintro⟨a,ha,e⟩;rw[<-Int.ofNat_inj.mp e];exact ha
 .exact fun h=>⟨k,h,rfl⟩
structure MI (aG ay:WJ) (gs1 gs2:List Gt) (bx dw:WK) (pairs:List (Nat × Nat)):Prop where
 F:Fits bx ay pairs
 nd:(pairs.map (·.2)).Nodup
 ni:((jI aG ay pairs).map (·.1)).Nodup
 no:((jO aG ay gs1 bx dw pairs).map (·.1)).Nodup
 ri:(jI aG ay pairs).length<=6
 rg:gs1.length+gs2.length<=60
 ro:(jO aG ay gs1 bx dw pairs).length<=6
theorem u7:∀{n:Nat} {l:List Nat},l.Nodup->(∀x∈l,x < n)->l.length<=n
 | 0,l,_,hn=>by
   cases l with
   | nil=>exact Nat.le_refl _
   | cons x l=>exact absurd (hn x List.mem_cons_self) (by omega)
 | n+1,l,h,hn=>by
   have h1:=u7 (n:=n) (l:=l.erase n) (h.erase n) fun x hx=>by
    have h2:=hn x (List.mem_of_mem_erase hx);have h3:x≠n:=fun e=>(List.Nodup.mem_erase_iff h).mp hx |>.1 e
    omega
   have h2:=List.length_erase (a:=n) (l:=l);split at h2 <;> omega
theorem wF(N1:mM aG gs1 bx)(N2:mM ay gs2 dw)(J:MI aG ay gs1 gs2 bx dw pairs)(hS:Ab S){Q:V3->bu->Prop}(h:Q (.d (a_ (jI aG ay pairs) (jG aG ay gs1 gs2 bx pairs) (jO aG ay gs1 bx dw pairs))) S) :
 W3 (oh [.d (a_ aG gs1 bx), .d (a_ ay gs2 dw), .d (.lst (pairs.map sL))] S) Q:=by
 have hz:sizeLine=16777216:=sizeLine_eq;have Tr:=qI N1.hw;have RY:=qI N2.hw;have MU:=N1.hi;have O8:=N1.hg;have h13:=N1.ho;have h21:=N2.hi;have h22:=N2.hg;have h23:=N2.ho;have my:pairs.length < 1000:=by
  have:=u7 (n:=ay.length) J.nd fun x hx=>by
   obtain⟨q,hq,rfl⟩:=List.mem_map.mp hx;obtain⟨_,y,_,hy,_⟩:=J.F q hq;exact(List.getElem?_eq_some_iff.mp hy).1
  rw[List.length_map] at this;omega
 have hpw:∀x∈eV pairs ay,x.2 < 100:=fun x hx=>by
  unfold eV at hx;obtain⟨⟨y,k⟩,hy,rfl⟩:=List.mem_map.mp hx;rw[List.mem_zipIdx_iff_getElem?] at hy;exact N2.hw y (List.mem_of_getElem? hy)
 have hlw:aS (eV pairs ay) < 10000:=by
  have:=pL hpw;rw[jv] at this;omega
 have hll:(i0 pairs ay).length<=ay.length:=by
  unfold i0;rw[List.length_map];have:=List.length_filter_le (fun x:(Str × Nat) × Nat=>(dg pairs x.2).isNone) ay.zipIdx
  rwa [List.length_zipIdx] at this
 have hlo:(i8 pairs bx).length<=bx.length:=by
  unfold i8;rw[List.length_map];have:=List.length_filter_le (fun x:(Str × List Nat) × Nat=>!(pairs.map (·.1)).contains x.2) bx.zipIdx
  rwa [List.length_zipIdx] at this
 unfold oh;refine mJ hS (Ei rfl ?_);simp only[dC,jT,List.map,List.length,List.replicate,List.cons_append,List.nil_append,Nat.reduceAdd,Nat.reduceSub];unfold tV;refine aZ <| xn <| dc (d:= .cX) (aw (ds:=[a_ aG gs1 bx,a_ ay gs2 dw, .lst (pairs.map sL)]) rfl (Ib J.F)) ⟨_,rfl,?_⟩
 refine aZ <| bQ (by simp) <| eQ <| bb <| dc (d:= .lst (pairs.map sL)) rfl <| dX <| Lc J.nd my hS ⟨_,rfl,?_⟩
 simp only[List.set];refine aZ <| bQ (by simp) <| dc (d:= .lst ((pairs.map (·.1)).map nI)) (cK (bR (ds:=pairs.map sL) rfl (by rw[List.length_map];omega) ?_)) ⟨_,rfl,?_⟩
 .rw [List.map_map];exact NT.bj sL _ fun q hq=>⟨[.val (nI q.1), .val (nI q.2)],rfl,rfl,rfl⟩
 simp only[List.set];refine aZ <| bQ (by simp) <| qv (fun j ds S2=>S2=S/\ds=(((ay.zipIdx.take j).filter fun x=>(dg pairs x.2).isNone).map (·.1)).map MT.inD) <| om (ds:=ay.zipIdx.map fun x=>D.tup [.int x.2,MT.inD x.1]) (by rw[<-Gp MT.inD];exact w6 rfl) ⟨by rw[List.length_map,List.length_map,List.length_zipIdx];omega,⟨rfl,rfl⟩,?_,?_⟩
 .rintro j v ds S2 hv ⟨rfl,rfl⟩;obtain⟨⟨x,k⟩,hx,rfl⟩:=NT.j6 hv;refine⟨[some (.d (.int k)),some (.d (inD x)),some (.d (dctP pairs))],rfl,ot (b:=(dg pairs k).isNone) (cZ (a:= .int k) (b:=dctP pairs) rfl rfl H_) ?_⟩;rw[List.take_add_one,hx,List.filter_append];cases hf:(dg pairs k).isNone with
  | true=>rw [if_pos rfl];exact dc (d:=inD x) rfl ⟨_,rfl,rfl,by simp [hf]⟩
  | false=>rw [if_neg (by decide)];exact⟨rfl,by simp [hf]⟩
 rintro ds S2 ⟨e1,rfl⟩;subst S2;rw[List.length_map,List.length_map,List.take_length];refine⟨_,rfl,?_⟩;simp only[List.set];refine aZ <| bQ (by simp) <| qv (fun j ds S2=>S2=S/\ds=(((bx.zipIdx.take j).filter fun x=>!(pairs.map (·.1)).contains x.2).map (·.1)).map jA) <| om (ds:=bx.zipIdx.map fun x=>D.tup [.int x.2,jA x.1]) (by rw[<-Gp jA];exact w6 rfl) ⟨by rw[List.length_map,List.length_map,List.length_zipIdx];omega,⟨rfl,rfl⟩,?_,?_⟩
 .rintro j v ds S2 hv ⟨rfl,rfl⟩;obtain⟨⟨x,k⟩,hx,rfl⟩:=NT.j6 hv;refine⟨[some (.d (.int k)),some (.d (jA x)),some (.d (.lst ((pairs.map (·.1)).map nI)))],rfl,ot (b:=!(pairs.map (·.1)).contains k) (cZ (a:= .int k) (b:= .lst ((pairs.map (·.1)).map nI)) rfl rfl ?_) ?_⟩
  .exact HJ k _
  rw[List.take_add_one,hx,List.filter_append];cases hf:!(pairs.map (·.1)).contains k with
  | true=>rw [if_pos rfl];exact dc (d:=jA x) rfl ⟨_,rfl,rfl,by rw[List.map_append,List.map_append];congr 1;simp only[Option.toList_some,List.filter_cons,hf,if_true,List.filter_nil,List.map_cons,List.map_nil]⟩
  | false=>rw [if_neg (by decide)];exact⟨rfl,by congr 1;simp only[Option.toList_some,List.filter_cons,hf,List.filter_nil];simp⟩
 rintro ds S2 ⟨e1,rfl⟩;subst S2;rw[List.length_map,List.length_map,List.take_length];refine⟨_,rfl,?_⟩;simp only[List.set];have eI:((ay.zipIdx.filter fun x=>(dg pairs x.2).isNone).map (·.1)).map MT.inD=(i0 pairs ay).map MT.inD:=rfl
 have eO:((bx.zipIdx.filter fun x=>!(pairs.map (·.1)).contains x.2).map (·.1)).map jA=(i8 pairs bx).map jA:=rfl
 rw[eI,eO];refine aZ <| bQ (by simp) <| dc (d:= .lst ((rf (cN aG) (aS (eV pairs ay)) gs1.length).map nI)) (aw (ds:=[a_ aG gs1 bx,nI (aS (eV pairs ay))]) (ao rfl (ao (aw (ds:=[.lst ((i0 pairs ay).map inD)]) rfl (by rw[xi (by omega),zw])) rfl)) (L6 MU N1.hw O8 (by omega))) ⟨_,rfl,?_⟩
 simp only[List.set];have hnl:=E7 (cN aG) (aS (eV pairs ay)) gs1.length;have hna:∀w,w < cN aG+gs1.length->gd (rf (cN aG) (aS (eV pairs ay)) gs1.length) w=Iv aG ay pairs w:=fun w hw=>Ij hw
 have hL:c0 (gd (rf (cN aG) (aS (eV pairs ay)) gs1.length)) (zO bx) (eV pairs ay) (cN aG)=jL aG ay bx pairs:=pB fun o w ho n hn=>by
  obtain⟨x,x1,x2,x3⟩:=J.F.at ho;rw[x2] at hn;exact hna n ((N1.o x (List.mem_of_getElem? x1)).2 n hn)
 have hLl:(jL aG ay bx pairs).length=cN ay:=by
  rw[lB _ _ fun o w ho=>by obtain⟨x,_,e,e2⟩:=J.F.at ho;rw [e,e2],B0]
 refine aZ <| bQ (by simp) <| dc (d:= .lst ((jL aG ay bx pairs++List.range' (cN aG+aS (eV pairs ay)+gs1.length) gs2.length).map nI)) ((aw (ds:=[a_ ay gs2 dw,a_ aG gs1 bx, .lst ((rf (cN aG) (aS (eV pairs ay)) gs1.length).map nI),dctP pairs]) rfl (E5 J.F MU N1.hw h21 N2.hw O8 h22 (fun x hx=>⟨(N1.o x hx).1,fun n hn=>by rw[hnl];exact(N1.o x hx).2 n hn⟩))).trans (by rw[hL])) ⟨_,rfl,?_⟩
 simp only[List.set];generalize hnu:rf (cN aG) (aS (eV pairs ay)) gs1.length=nums at hnl hna;have hnb:∀w,w < cN ay+gs2.length->gd (jL aG ay bx pairs++List.range' (cN aG+aS (eV pairs ay)+gs1.length) gs2.length) w=FR aG ay gs1 bx pairs w:=fun w hw=>Mg (by rw[hLl];exact hw)
 have hol:(jL aG ay bx pairs++List.range' (cN aG+aS (eV pairs ay)+gs1.length) gs2.length).length=cN ay+gs2.length:=by rw[List.length_append,hLl,List.length_range']
 generalize jL aG ay bx pairs++List.range' (cN aG+aS (eV pairs ay)+gs1.length) gs2.length=oths at hnb hol;refine aZ <| bQ (by simp) <| dc (d:= .lst ((jI aG ay pairs).map inD)) (aj (a:= .lst (aG.map inD)) (b:= .lst ((i0 pairs ay).map inD)) rfl rfl ((Ck (by rw[List.length_map,List.length_map];omega)).trans (by unfold jI;rw [List.map_append]))) ⟨_,rfl,?_⟩
 simp only[List.set];have g1:∀g∈gs1,(∀n∈g.2.1,n < cN aG+gs1.length)/\g.2.1.length < 1000:=fun g hg=>by
  obtain⟨i,hi⟩:=List.getElem?_of_mem hg;have hil:=(List.getElem?_eq_some_iff.mp hi).1;obtain⟨a,b,c⟩:=N1.g i g hi;have:=Cy g.1;exact⟨fun n hn=>by have:=c n hn;omega,by omega⟩
 have g2:∀g∈gs2,(∀n∈g.2.1,n < cN ay+gs2.length)/\g.2.1.length < 1000:=fun g hg=>by
  obtain⟨i,hi⟩:=List.getElem?_of_mem hg;have hil:=(List.getElem?_eq_some_iff.mp hi).1;obtain⟨a,b,c⟩:=N2.g i g hi;have:=Cy g.1;exact⟨fun n hn=>by have:=c n hn;omega,by omega⟩
 have eG1:gs1.map (jM (gd nums))=gs1.map (jM (Iv aG ay pairs)):=List.map_congr_left fun g hg=>ud fun n hn=>hna n ((g1 g hg).1 n hn)
 have eG2:gs2.map (jM (gd oths))=gs2.map (jM (FR aG ay gs1 bx pairs)):=List.map_congr_left fun g hg=>ud fun n hn=>hnb n ((g2 g hg).1 n hn)
 have eO1:(i8 pairs bx).map (lD (gd nums))=(i8 pairs bx).map (lD (Iv aG ay pairs)):=List.map_congr_left fun x hx=>ub fun n hn=>hna n ((N1.o x (jD hx)).2 n hn)
 have eO2:dw.map (lD (gd oths))=dw.map (lD (FR aG ay gs1 bx pairs)):=List.map_congr_left fun x hx=>ub fun n hn=>hnb n ((N2.o x hx).2 n hn)
 refine aZ <| bQ (by simp) <| dc (d:= .lst ((jG aG ay gs1 gs2 bx pairs).map fB)) (aj (a:= .lst ((gs1.map (jM (Iv aG ay pairs))).map fB)) (b:= .lst ((gs2.map (jM (FR aG ay gs1 bx pairs))).map fB)) ((aw (ds:=[.lst (gs1.map fB), .lst (nums.map nI)]) rfl (zu (fun g hg=>by rw[hnl];exact g1 g hg) O8)).trans (by rw[eG1])) ((aw (ds:=[.lst (gs2.map fB), .lst (oths.map nI)]) rfl (zu (fun g hg=>by rw[hol];exact g2 g hg) h22)).trans (by rw[eG2])) ((Ck (by rw[List.length_map,List.length_map,List.length_map,List.length_map];omega)).trans (by unfold jG gJ;rw [List.map_append]))) ⟨_,rfl,?_⟩
 simp only[List.set];refine aZ <| bQ (by simp) <| dc (d:= .lst ((jO aG ay gs1 bx dw pairs).map jA)) (aj (a:= .lst (((i8 pairs bx).map (lD (Iv aG ay pairs))).map jA)) (b:= .lst ((dw.map (lD (FR aG ay gs1 bx pairs))).map jA)) ((aw (ds:=[.lst ((i8 pairs bx).map jA), .lst (nums.map nI)]) rfl (zL (fun x hx=>by rw[hnl];exact⟨(N1.o x (jD hx)).2,(N1.o x (jD hx)).1⟩) (by omega))).trans (by rw[eO1])) ((aw (ds:=[.lst (dw.map jA), .lst (oths.map nI)]) rfl (zL (fun x hx=>by rw[hol];exact⟨(N2.o x hx).2,(N2.o x hx).1⟩) h23)).trans (by rw[eO2])) ((Ck (by rw[List.length_map,List.length_map,List.length_map,List.length_map];omega)).trans (by unfold jO;rw [List.map_append]))) ⟨_,rfl,?_⟩
 simp only[List.set];have jgl:(jG aG ay gs1 gs2 bx pairs).length=gs1.length+gs2.length:=by unfold jG gJ;rw [List.length_append,List.length_map,List.length_map]
 refine aZ <| xn <| eQ <| bb <| dc (d:= .lst (((jI aG ay pairs).map fun x=>(x.1,nI x.2)).map Jo)) (by rw[<-Ks];rfl) <| dX <| yX (by rw[List.map_map];exact J.ni) (by rw[List.length_map];have:=J.ri;omega) hS ⟨_,rfl,?_⟩
 refine aZ <| xn <| eQ <| bb <| dc (d:= .lst (((jO aG ay gs1 bx dw pairs).map fun x=>(x.1,D.tup (x.2.map nI))).map Jo)) (by rw[<-HG];rfl) <| dX <| yX (by rw[List.map_map];exact J.no) (by rw[List.length_map];have:=J.ro;omega) hS ⟨_,rfl,?_⟩
 refine aZ <| xn <| dc (d:= .cX) (aw (ds:=[a_ (jI aG ay pairs) (jG aG ay gs1 gs2 bx pairs) (jO aG ay gs1 bx dw pairs)]) (ao (cv rfl (by simp;omega)) rfl) (Ii J.ri (by rw[jgl];exact J.rg) J.ro)) ⟨_,rfl,?_⟩
 exact jJ <| dc (d:=a_ (jI aG ay pairs) (jG aG ay gs1 gs2 bx pairs) (jO aG ay gs1 bx dw pairs)) (cv rfl (by simp;omega)) ⟨_,rfl,rfl,⟨[],by simp⟩,_,rfl,h⟩
end
end K37
end
section
namespace K37
open PySem PySem.Spec PyProof.Rows L2 L3 MT JT
section
variable {aG ay:WJ} {gs1 gs2:List Gt} {bx dw:WK} {pairs:List (Nat × Nat)}
theorem Jl(a b:WJ):cN (a++b)=cN a+cN b:=by unfold cN;rw [List.map_append,List.sum_append]
theorem Eo:cN (jI aG ay pairs)=cN aG+aS (eV pairs ay):=by unfold jI;rw [Jl,zw]
theorem GI{n l w m:Nat}(h:w < n+m):q_ n l w < n+l+m:=by unfold q_;split <;> omega
theorem yb{f:Nat->Nat}{os:Nat->List Nat}{B:Nat}:∀{φ:List (Option Nat × Nat)} {free:Nat},(∀o w,(some o,w)∈φ->∀n∈os o,f n < B)->free+aS φ<=B->∀x∈c0 f os φ free,x < B
 | [],_,_,_,x,hx=>by cases hx
 | (some o,w) ::φ,free,h,hb,x,hx=>by
   rcases List.mem_append.mp (show x∈(os o).map f++c0 f os φ free from hx) with z | z
   .obtain⟨n,hn,rfl⟩:=List.mem_map.mp z;exact h o w List.mem_cons_self n hn
   .exact yb (fun o w hh=>h o w (List.mem_cons_of_mem _ hh)) hb x z
 | (none,w) ::φ,free,h,hb,x,hx=>by
   have hb:free+(w+aS φ)<=B:=hb;rcases List.mem_append.mp (show x∈List.range' free w++c0 f os φ (free+w) from hx) with z | z
   .obtain⟨j,hj,rfl⟩:=List.mem_range'.mp z;omega
   .exact yb (fun o w hh=>h o w (List.mem_cons_of_mem _ hh)) (by omega) x z
theorem x_(F:Fits bx ay pairs):(jL aG ay bx pairs).length=cN ay:=by
 rw[lB _ _ fun o w ho=>by obtain⟨x,_,e,e2⟩:=F.at ho;rw [e,e2],B0]
theorem Nh(N1:mM aG gs1 bx)(F:Fits bx ay pairs):∀x∈jL aG ay bx pairs,x < cN aG+aS (eV pairs ay)+gs1.length:=by
 refine yb (fun o w ho n hn=>?_) (by omega)
 obtain⟨x,x1,x2,x3⟩:=F.at ho;rw[x2] at hn;exact GI ((N1.o x (List.mem_of_getElem? x1)).2 n hn)
theorem JS(N1:mM aG gs1 bx)(F:Fits bx ay pairs){w m:Nat}(h:w < cN ay+m):FR aG ay gs1 bx pairs w < cN aG+aS (eV pairs ay)+gs1.length+m:=by
 show B4 _ _ w < _;unfold B4;rw[x_ F];split
 .rename_i q;have e:(jL aG ay bx pairs).getD w 0=(jL aG ay bx pairs)[w]'(by rw[x_ F];exact q):=by rw[List.getD_eq_getElem?_getD,List.getElem?_eq_getElem (by rw[x_ F];exact q)];rfl
  rw[e];have:=Nh N1 F _ (List.getElem_mem (by rw[x_ F];exact q:w < (jL aG ay bx pairs).length))
  omega
 .omega
theorem A2(N1:mM aG gs1 bx)(N2:mM ay gs2 dw)(J:MI aG ay gs1 gs2 bx dw pairs):mM (jI aG ay pairs) (jG aG ay gs1 gs2 bx pairs) (jO aG ay gs1 bx dw pairs):=by
 have jgl:(jG aG ay gs1 gs2 bx pairs).length=gs1.length+gs2.length:=by unfold jG gJ;rw [List.length_append,List.length_map,List.length_map]
 refine⟨by have:=J.ri;omega,fun x hx=>?_,by have:=J.rg;omega,fun i x hx=>?_,by have:=J.ro;omega,fun x hx=>?_⟩
 .rcases List.mem_append.mp hx with z | z
  .exact N1.hw x z
  .exact N2.hw x (y9 z)
 .rw [Eo];unfold jG gJ at hx;by_cases hi:i < gs1.length
  .rw [List.getElem?_append_left (by rw[List.length_map];exact hi),List.getElem?_map] at hx
   cases hg:gs1[i]? with
   | none=>rw [hg] at hx;cases hx
   | some g=>
     rw[hg] at hx;cases hx;obtain⟨a,b,c⟩:=N1.g i g hg;refine⟨a,by unfold jM;rw [List.length_map];exact b,fun w hw=>?_⟩
     obtain⟨n,hn,rfl⟩:=List.mem_map.mp (show w∈g.2.1.map _ from hw)
     exact GI (c n hn)
  .rw [List.getElem?_append_right (by rw[List.length_map];omega),List.length_map,List.getElem?_map] at hx
   cases hg:gs2[i - gs1.length]? with
   | none=>rw [hg] at hx;cases hx
   | some g=>
     rw[hg] at hx;cases hx;obtain⟨a,b,c⟩:=N2.g _ g hg;refine⟨a,by unfold jM;rw [List.length_map];exact b,fun w hw=>?_⟩
     obtain⟨n,hn,rfl⟩:=List.mem_map.mp (show w∈g.2.1.map _ from hw)
     have:=JS (gs1:=gs1) N1 J.F (c n hn);have e:cN aG+aS (eV pairs ay)+gs1.length+(i - gs1.length)=cN aG+aS (eV pairs ay)+i:=by omega
     rw[e] at this;exact this
 .rw [Eo,jgl];unfold jO at hx;rcases List.mem_append.mp hx with z | z
  .obtain⟨y,hy,rfl⟩:=List.mem_map.mp z;obtain⟨a,b⟩:=N1.o y (jD hy);refine⟨by unfold lD;rw [List.length_map];exact a,fun w hw=>?_⟩
   obtain⟨n,hn,rfl⟩:=List.mem_map.mp (show w∈y.2.map _ from hw)
   have:=GI (l:=aS (eV pairs ay)) (b n hn);show q_ _ _ n < _;omega
  .obtain⟨y,hy,rfl⟩:=List.mem_map.mp z;obtain⟨a,b⟩:=N2.o y hy;refine⟨by unfold lD;rw [List.length_map];exact a,fun w hw=>?_⟩
   obtain⟨n,hn,rfl⟩:=List.mem_map.mp (show w∈y.2.map _ from hw)
   have:=JS (gs1:=gs1) N1 J.F (b n hn);show FR aG ay gs1 bx pairs n < _;omega
structure pA (ins:WJ) (gs:List Gt) (os:WK):Prop where
 N:mM ins gs os
 i3:∀x∈ins,x.2=3
 o3:∀x∈os,x.2.length=3
theorem DQ:∀{ins:WJ},(∀x∈ins,x.2=3)->cN ins=3*ins.length
 | [],_=>rfl
 | x ::l,h=>by
   have:=DQ (ins:=l) fun y hy=>h y (List.mem_cons_of_mem _ hy)
   unfold cN at this ⊢;rw[List.map_cons,List.sum_cons,this,h x List.mem_cons_self,List.length_cons];omega
theorem qp(T1:pA aG gs1 bx)(T2:pA ay gs2 dw)(J:MI aG ay gs1 gs2 bx dw pairs):pA (jI aG ay pairs) (jG aG ay gs1 gs2 bx pairs) (jO aG ay gs1 bx dw pairs):=by
 refine⟨A2 T1.N T2.N J,fun x hx=>?_,fun x hx=>?_⟩
 .rcases List.mem_append.mp hx with z | z
  .exact T1.i3 x z
  .exact T2.i3 x (y9 z)
 .rcases List.mem_append.mp hx with z | z
  .obtain⟨y,hy,rfl⟩:=List.mem_map.mp z;show(y.2.map _).length=3;rw[List.length_map];exact T1.o3 y (jD hy)
  .obtain⟨y,hy,rfl⟩:=List.mem_map.mp z;show(y.2.map _).length=3;rw[List.length_map];exact T2.o3 y hy
theorem Nb(T2:pA ay gs2 dw):∀x∈eV pairs ay,x.2=3:=fun x hx=>by
 unfold eV at hx;obtain⟨⟨y,k⟩,hy,rfl⟩:=List.mem_map.mp hx;rw[List.mem_zipIdx_iff_getElem?] at hy;exact T2.i3 y (List.mem_of_getElem? hy)
theorem Ds:many (eV pairs ay)=(i0 pairs ay).length:=by
 unfold i0 eV;generalize ay.zipIdx=l
 induction l with
 | nil=>rfl
 | cons x l ih=>
   rw[List.filter_cons,List.map_cons];cases hf:dg pairs x.2 with
   | none=>
     rw[Option.isNone_none,if_pos rfl,List.map_cons,List.length_cons,<-ih];rfl
   | some o=>
     rw[Option.isNone_some,if_neg (by decide)]
     exact ih
theorem R6(T1:pA aG gs1 bx)(T2:pA ay gs2 dw)(F:Fits bx ay pairs):NW aG.length gs1 gs2 bx dw (eV pairs ay) (zO bx):=by
 have w1:=DQ T1.i3;have w2:=DQ T2.i3;refine⟨Nb T2,fun i g hg w hw=>?_,fun i g hg w hw=>?_,fun x hx=>⟨T1.o3 x hx,fun n hn=>?_⟩,fun x hx=>⟨T2.o3 x hx,fun n hn=>?_⟩,fun o w ho=>?_⟩
 .rw [<-w1];exact(T1.N.g i g hg).2.2 w hw
 .rw [jv,<-w2];exact(T2.N.g i g hg).2.2 w hw
 .rw [<-w1];exact(T1.N.o x hx).2 n hn
 .rw [jv,<-w2];exact(T2.N.o x hx).2 n hn
 .obtain⟨x,x1,x2,x3⟩:=F.at ho;exact⟨x,List.mem_of_getElem? x1,x2.symm⟩
theorem xp:(jI aG ay pairs).length=aG.length+(i0 pairs ay).length:=by unfold jI;rw [List.length_append]
theorem r6(T1:pA aG gs1 bx)(T2:pA ay gs2 dw)(F:Fits bx ay pairs)(K1:mS aG.length gs1 bx)(K2:mS ay.length gs2 dw):mS (jI aG ay pairs).length (jG aG ay gs1 gs2 bx pairs) (jO aG ay gs1 bx dw pairs):=by
 have w1:=DQ T1.i3;have:=CY (osJ:=jO aG ay gs1 bx dw pairs) (R6 T1 T2 F) K1 (by rw[jv];exact K2) (fun x hx=>by
  unfold jO at hx;rcases List.mem_append.mp hx with z | z
  .obtain⟨y,hy,rfl⟩:=List.mem_map.mp z;refine .inl ⟨y,jD hy,?_⟩;show y.2.map (q_ (cN aG) _)=_;rw[w1]
  .obtain⟨y,hy,rfl⟩:=List.mem_map.mp z;refine .inr ⟨y,hy,?_⟩;show y.2.map (B4 (c0 (q_ (cN aG) _) _ _ (cN aG)) (cN aG+_+_))=_;rw[w1])
 rw[Ds] at this;rw[xp];unfold jG;rw[w1];exact this
theorem HL(k:Nat):dg [] k=none:=rfl
theorem DO:i8 [] bx=bx:=by
 unfold i8;have:(bx.zipIdx.filter fun x=>!(([]:List (Nat × Nat)).map (·.1)).contains x.2)=bx.zipIdx:=List.filter_eq_self.mpr fun _ _=>rfl
 rw[this];exact List.ext_getElem? fun i=>by
  rw[List.getElem?_map,List.getElem?_zipIdx];cases bx[i]? <;> rfl
theorem Dy:i0 [] ay=ay:=by
 unfold i0;have:(ay.zipIdx.filter fun x=>(dg [] x.2).isNone)=ay.zipIdx:=List.filter_eq_self.mpr fun _ _=>rfl
 rw[this];exact List.ext_getElem? fun i=>by
  rw[List.getElem?_map,List.getElem?_zipIdx];cases ay[i]? <;> rfl
theorem LQ(T1:pA aG gs1 bx)(T2:pA ay gs2 dw)(K:mS (jI aG ay []).length (jG aG ay gs1 gs2 bx []) (jO aG ay gs1 bx dw [])):mS aG.length gs1 bx/\mS ay.length gs2 dw:=by
 have w1:=DQ T1.i3;have F:Fits bx ay []:=fun q hq=>by cases hq
 rw[xp,Dy] at K;unfold jG at K;rw[w1] at K;have:=zx (osJ:=jO aG ay gs1 bx dw []) (R6 T1 T2 F) (fun x hx=>by
  have h3:=Nb T2 x hx;unfold eV at hx;obtain⟨⟨y,k⟩,hy,rfl⟩:=List.mem_map.mp hx;show(dg [] k,y.2)=_;rw[HL,show y.2=3 from h3]) (fun y hy=>⟨lD (Iv aG ay []) y,by unfold jO;rw [DO];exact List.mem_append_left _ (List.mem_map_of_mem hy),by
   show y.2.map (q_ (cN aG) _)=_;rw[w1]⟩) (fun y hy=>⟨lD (FR aG ay gs1 bx []) y,by unfold jO;exact List.mem_append_right _ (List.mem_map_of_mem hy),by
   show y.2.map (B4 (c0 (q_ (cN aG) _) _ _ (cN aG)) (cN aG+_+_))=_;rw[w1]⟩) (by rw[jv];exact K)
 rw[jv] at this;exact this
def r_(g:Gt):Gt:=(g.1,g.2.1,true)
theorem n9:∀(gs:List Gt) (T:Nat->Bool) (ws:List Bool),bV (gs.map r_) T ws=bV gs T ws
 | [],_,_=>rfl
 | g ::gs,T,ws=>by rw[List.map_cons,og,og,n9 gs];rfl
theorem Dj{c:Nat}{gs:List Gt}{os:WK}(K:mS c gs os):mS c (gs.map r_) os:=by
 refine⟨fun bits hb x hx=>?_,fun bits hb i g hg hs x hx=>?_,fun bits row hb hn x hx=>?_⟩
 .rw [n9];exact K.a bits hb x hx
 .rw [List.getElem?_map] at hg;cases q:gs[i]? with
  | none=>rw [q] at hg;cases hg
  | some y=>rw [q] at hg;cases hg;cases hs
 .rw [n9,n9];exact K.c bits row hb hn x hx
theorem As{ins:WJ}{gs:List Gt}{os:WK}(T:pA ins gs os):pA ins (gs.map r_) os:=by
 refine⟨⟨T.N.hi,T.N.hw,by rw[List.length_map];exact T.N.hg,fun i x hx=>?_,T.N.ho,fun x hx=>by rw[List.length_map];exact T.N.o x hx⟩,T.i3,T.o3⟩
 rw[List.getElem?_map] at hx;cases q:gs[i]? with
 | none=>rw [q] at hx;cases hx
 | some y=>rw [q] at hx;cases hx;exact T.N.g i y q
end
end K37
end
section
set_option maxHeartbeats 4000000
namespace K37
open PySem PySem.Spec PyProof.Rows L2 L3 MT JT
def stir(cell k:Int):Int:=if 10 ^ 18<=cell then(cell - 10 ^ 18) / 2 ^ (28*k).toNat % 2 ^ 28
 else((cell+1013*k+1)*16807 % 2147483647)*((cell+1013*k+1)*16807 % 2147483647) % 2147483629*39373 % 2147483587 / 8
theorem Jr(cell k:Int)(hk:0<=k):cc [.int cell, .int k]= .ok (.int (stir cell k)):=by
 have p1:∀δ,e2 C2 (eC (.int 10)) (eC (.int 18)) δ= .ok (.int (10 ^ 18)):=fun δ=>rfl
 have p2:∀δ,e2 C2 (eC (.int 2)) (eC (.int 28)) δ= .ok (.int (2 ^ 28)):=fun δ=>rfl
 have ge:∀a b:Int,Q6 (.int a) (.int b)= .ok (.bl (decide (a>=b))):=fun a b=>rfl
 have mulc:∀(a b:Int),(-(2 ^ 64) < b/\b < 2 ^ 64)->gI (.int a) (.int b)= .ok (.int (a*b)):=fun a b h=>by
  show R.bz (decide _) (R.ok (D.int (a*b)))=_;exact bN _ (.inr h)
 have mulc':∀(a b:Int),(-(2 ^ 64) < a/\a < 2 ^ 64)->gI (.int a) (.int b)= .ok (.int (a*b)):=fun a b h=>by
  show R.bz (decide _) (R.ok (D.int (a*b)))=_;exact bN _ (.inl h)
 unfold cc uv stir;by_cases h:(10:Int) ^ 18<=cell
 .rw [if_pos h];refine cy (NT.lR (rW (cZ (a:= .int cell) (b:= .int (10 ^ 18)) rfl (p1 _) ((ge _ _).trans (by rw[decide_eq_true h]))) (bM (aj (a:= .int ((cell - 10 ^ 18) / 2 ^ (28*k).toNat)) (b:= .int (2 ^ 28)) (aj (a:= .int (cell - 10 ^ 18)) (b:= .int (28*k)) (aj (a:= .int cell) (b:= .int (10 ^ 18)) rfl (p1 _) rfl) (aj (a:= .int 28) (b:= .int k) rfl rfl (mulc' _ _ ⟨by omega,by omega⟩)) ?_) (p2 _) (uS (by omega))))))
  show R.bz (decide ((0:Int)<=28*k)) (R.ok (D.int ((cell - 10 ^ 18) / 2 ^ (28*k).toNat)))=_;exact bN _ (by omega)
 .rw [if_neg h];refine cy (bp (jr (cZ (a:= .int cell) (b:= .int (10 ^ 18)) rfl (p1 _) ((ge _ _).trans (by rw[decide_eq_false h]))) rfl) (bp (dJ (d:= .int ((cell+1013*k+1)*16807 % 2147483647)) (aj (a:= .int ((cell+1013*k+1)*16807)) (b:= .int 2147483647) (aj (a:= .int (cell+1013*k+1)) (b:= .int 16807) (aj (a:= .int (cell+1013*k)) (b:= .int 1) (aj (a:= .int cell) (b:= .int (1013*k)) rfl (aj (a:= .int 1013) (b:= .int k) rfl rfl (mulc' _ _ ⟨by omega,by omega⟩)) rfl) rfl rfl) rfl (mulc _ _ ⟨by omega,by omega⟩)) rfl (uS (by omega))) (by simp [cA,l3])) ?_))
  have b1:0<=(cell+1013*k+1)*16807 % 2147483647:=Int.emod_nonneg _ (by omega)
  have b2':(cell+1013*k+1)*16807 % 2147483647 < 2147483647:=Int.emod_lt_of_pos _ (by omega)
  generalize (cell+1013*k+1)*16807 % 2147483647=x at b1 b2';refine bp (dJ (d:= .int (x*x % 2147483629)) (aj (a:= .int (x*x)) (b:= .int 2147483629) (aj (a:= .int x) (b:= .int x) rfl rfl (mulc _ _ ⟨by omega,by omega⟩)) rfl (uS (by omega))) (by simp [cA,l3])) (bM ?_)
  exact aj (a:= .int (x*x % 2147483629*39373 % 2147483587)) (b:= .int 8) (aj (a:= .int (x*x % 2147483629*39373)) (b:= .int 2147483587) (aj (a:= .int (x*x % 2147483629)) (b:= .int 39373) rfl rfl (mulc _ _ ⟨by omega,by omega⟩)) rfl (uS (by omega))) rfl (xN (by omega) (by omega))
theorem IC(cell k:Int):0<=stir cell k:=by
 unfold stir;split <;> omega
def stN(cell:Int)(k:Nat):Nat:=(stir cell k).toNat
theorem qx(cell:Int)(k:Nat):cc [.int cell,nI k]= .ok (nI (stN cell k)):=by
 show cc [.int cell, .int k]=_;rw[Jr cell k (by omega)]
 unfold nI stN;rw[Int.toNat_of_nonneg (IC _ _)]
end K37
end
section
set_option maxHeartbeats 1000000
namespace K37
open PySem PySem.Spec PyProof.Rows L2 L3 MT JT
theorem Bs(ns:List Int)(k:Nat):eg [.lst (ns.map .int),nI k]= .ok (.int (ns.getD k 0)):=by
 unfold eg oI;by_cases h:k < ns.length
 .refine cy (NT.lR (rW (cZ (a:=nI k) (b:=nI ns.length) rfl (aw (ds:=[.lst (ns.map .int)]) rfl (by rw[q9,List.length_map];rfl)) (by rw[NG,decide_eq_true h])) (bM (aj (a:= .lst (ns.map .int)) (b:=nI k) rfl rfl (NT.iU ?_)))))
  rw[List.getElem?_map,List.getD_eq_getElem?_getD,List.getElem?_eq_getElem h];rfl
 .refine cy (bp (jr (cZ (a:=nI k) (b:=nI ns.length) rfl (aw (ds:=[.lst (ns.map .int)]) rfl (by rw[q9,List.length_map];rfl)) (by rw[NG,decide_eq_false h])) rfl) (bM ?_))
  rw[List.getD_eq_getElem?_getD,List.getElem?_eq_none (by omega)]
  rfl
end K37
end
section
namespace K37
open PySem PySem.Spec PyProof.Rows L2 L3 MT JT
theorem zP(ws:List Nat):gh [ef ws]= .ok (.lst ((List.replicate 3 ((4,ws,false):Gt)).map fB)):=by
 have hz:sizeLine=16777216:=sizeLine_eq;unfold gh si;refine cy (bM (cK ?_));unfold KO;rw[show kC (ah (cG (ah (eC (.str "vote")) (ah (aM ip (ah (af 0) aI)) (ah (eC (.bl false)) aI)))) aI) (cA nF [ef ws])= .ok [fB (4,ws,false)] from Ia (ao (cv (ao rfl (ao (aw (ds:=[ef ws]) rfl rfl) (ao rfl rfl))) (by simp;omega)) rfl) (by simp;omega),R.aO]
 show R.bz (decide _) (R.ok _)=_;rw[bN _ ⟨by omega,by omega,by simp;omega⟩]
 rfl
def Pc(n:Nat)(th:WL):Prop:=∀T∈th,T.length=3/\∀w∈T,w < n
theorem zN{T:List Nat}{j:Nat}(h:j < T.length):cm (ef T) (nI j)= .ok (nI (T.getD j 0)):=by
 refine NT.HM ?_;rw[List.getElem?_map,List.getElem?_eq_getElem h];show _=some (nI (T.getD j 0));rw[List.getD_eq_getElem?_getD,List.getElem?_eq_getElem h];rfl
theorem getD_in{T:List Nat}{j:Nat}(h:j < T.length):T.getD j 0∈T:=by
 rw[List.getD_eq_getElem?_getD,List.getElem?_eq_getElem h];exact List.getElem_mem h
theorem yS{fT:WL}{n:Nat}(hW:Pc n fT)(hl:fT.length<=3){it:au->R (List D)}{f:FD}{kp:List Nat}{δ:au}{j:Nat}(hj:j < 3)(hit:it δ= .ok (fT.map ef))
 (hf:∀T∈fT,∃δ1,aD 0 (ef T) (sM ["own"] kp δ)= .ok δ1/\f δ1= .ok (nI (T.getD j 0))) :
 aM ip (ah (eNew (ck it (aD 0) fI f ["own"] kp)) aI) δ= .ok (ef (fT.map fun T=>T.getD j 0)):=by
 have hz:sizeLine=16777216:=sizeLine_eq;refine aw (ds:=[.lst (fT.map fun T=>nI (T.getD j 0))]) (ao (cK (bR (ds:=fT.map ef) hit (by rw[List.length_map];omega) ?_)) rfl) ?_
 .exact NT.bj ef _ fun T hT=>by
   obtain⟨δ1,h1,h2⟩:=hf T hT;exact⟨δ1,h1,rfl,h2⟩
 .show R.ok (D.tup _)=_;unfold ef;rw[List.map_map];rfl
theorem Dg{S:bu}{k:Nat}{cell:Int}{th:WL}{n:Nat}(hk:S[k]? =some (.lst (th.map ef)))(vV:0 < th.length)(hW:Pc n th)(hS:Ab S){Q:V3->bu->Prop}(h:∀G:List Gt,G.length=3->(∀g∈G,sG n g)->Q (.d (.lst (G.map fB))) S) :
 W3 (iF [.d (.int cell), .loc k] S) Q:=by
 have hz:sizeLine=16777216:=sizeLine_eq;unfold iF;refine mJ hS (Ei rfl ?_);simp only[dC,d3,List.map,List.length,List.replicate,List.cons_append,List.nil_append,Nat.reduceAdd,Nat.reduceSub];unfold md;obtain⟨r,hr⟩:∃r,stN cell 0=r:=⟨_,rfl⟩;refine aZ <| bQ (by simp) <| dc (d:=nI r) ((aw (ds:=[.int cell,nI 0]) rfl (qx cell 0)).trans (by rw[hr])) ⟨_,rfl,?_⟩
 simp only[List.set];have hkd:=Lr r;have hal:=Cy (Mi r);refine aZ <| bQ (by simp) <| dc (d:= .str (kS (Mi r))) (Ov rfl) ⟨_,rfl,?_⟩
 simp only[List.set];generalize Mi r=kd at hkd hal
 let pick:Nat->List Nat:=fun j=>th.getD (stN cell (1+j) % th.length) []
 have hpick:∀j,pick j∈th:=fun j=>by
  have hm:stN cell (1+j) % th.length < th.length:=Nat.mod_lt _ vV;show th.getD _ []∈th;rw[List.getD_eq_getElem?_getD,List.getElem?_eq_getElem hm];exact List.getElem_mem hm
 let fT:WL:=(List.range (ar kd)).map pick
 have hsl:fT.length=ar kd:=by show((List.range (ar kd)).map pick).length=_;rw [List.length_map,List.length_range]
 have hsW:Pc n fT:=fun T hT=>by
  obtain⟨j,_,rfl⟩:=List.mem_map.mp hT;exact hW _ (hpick j)
 refine aZ <| bQ (by simp) <| qv (fun j ds S2=>S2=S/\ds=((List.range j).map pick).map ef) <| om (r9 (n:=ar kd) (NJ hkd rfl) (by omega)) ⟨by rw[List.length_map,List.length_map,List.length_range];omega,⟨rfl,rfl⟩,?_,?_⟩
 .rintro j v ds S2 hv ⟨rfl,rfl⟩;obtain⟨j',Hq,rfl⟩:=NT.j6 hv;obtain⟨hjl,ej⟩:=List.getElem?_eq_some_iff.mp Hq;rw[List.getElem_range] at ej;subst ej;refine⟨[some (.d (nI j)),some (.d (.int cell)),some (.loc k)],rfl,J3 ?_⟩;rw[if_pos rfl];have h2:(dq S2 [some (.d (nI j)),some (.d (.int cell)),some (.loc k)])[2]? =some (.val (.lst (th.map ef))):=by
   unfold dq;show some (match res S2 (.loc k) with | some d=>Sl.val d | none=> .un)=_
   unfold res;rw[hk]
  have hm:stN cell (1+j) % th.length < th.length:=Nat.mod_lt _ vV;refine Oc (d:=ef (pick j)) (aj (a:= .lst (th.map ef)) (b:=nI (stN cell (1+j) % th.length)) (by unfold af;rw [h2]) (aj (a:=nI (stN cell (1+j))) (b:=nI th.length) (aw (ds:=[.int cell,nI (1+j)]) (ao rfl (ao (aj (a:=nI 1) (b:=nI j) rfl rfl (kq 1 j)) rfl)) (qx cell (1+j))) (aw (ds:=[.lst (th.map ef)]) (ao (by unfold af;rw [h2]) rfl) (by rw[tJ,List.length_map])) (ll vV)) (NT.iU ?_)) (by
   unfold ef;generalize pick j=l;show pZ (l.map nI)=true
   induction l with
   | nil=>rfl
   | cons a l ih=>exact ih) ⟨_,rfl,rfl,?_⟩
  .rw [List.getElem?_map,List.getElem?_eq_getElem hm];show _=some (ef (th.getD (stN cell (1+j) % th.length) []));rw[List.getD_eq_getElem?_getD,List.getElem?_eq_getElem hm];rfl
  .rw [List.range_succ,List.map_append,List.map_append];rfl
 rintro ds S2 ⟨e1,rfl⟩;subst S2;rw[List.length_map,List.length_map,List.length_range];refine⟨_,rfl,?_⟩;simp only[List.set];show W3 (bH _ _ [_,_,_,_,some (V3.d (.lst (fT.map ef))),_] S) _
 let sb:Bool:=decide (r / 5 % 7=0)
 let gt:Nat->Gt:=fun j=>(kd,fT.map (fun T=>T.getD j 0),sb)
 have hgt:∀j,j < 3->sG n (gt j):=fun j hj=>by
  refine⟨hkd,by show(fT.map _).length=_;rw [List.length_map,hsl],fun w hw=>?_⟩
  obtain⟨T,hT,rfl⟩:=List.mem_map.mp (show w∈fT.map _ from hw)
  obtain⟨t1,t2⟩:=hsW T hT;exact t2 _ (getD_in (by omega))
 have esb:∀δ:au,af 1 δ= .ok (nI r)->e2 qB (e2 je (e2 lK (af 1) (eC (.int 5))) (eC (.int 7))) (eC (.int 0)) δ= .ok (.bl sb):=fun δ h1=>aj (a:=nI (r / 5 % 7)) (b:=nI 0) (aj (a:=nI (r / 5)) (b:=nI 7) (aj (a:=nI r) (b:=nI 5) h1 rfl (BZ (by omega) (by omega))) rfl (ll (by omega))) rfl (JI _ _)
 refine aZ <| bQ (by simp) <| rV (ds:=((List.range 3).map gt).map fB) (bR (ds:=(List.range 3).map nI) (r9 (n:=3) rfl (by omega)) (by simp;omega) ?_) ⟨_,rfl,?_⟩
 .rw [show((List.range 3).map gt).map fB=(List.range 3).map fun j=>fB (gt j) from List.map_map]
  refine NT.bj nI _ fun j hj=>⟨[.val (nI j), .val (nI r), .val (.str (kS kd)), .val (.lst (fT.map ef))],rfl,rfl,?_⟩
  have hj:=List.mem_range.mp hj;refine cv (ao rfl (ao (yS hsW (by omega) hj (jf rfl) fun T hT=>⟨[.val (ef T), .val (nI j)],rfl,aj (a:=ef T) (b:=nI j) rfl rfl (zN (by rw[(hsW T hT).1];exact hj))⟩) (ao (esb _ rfl) rfl))) (by simp;omega)
 simp only[List.set];generalize hG:(List.range 3).map gt=G0;have Rp:G0.length=3:=by rw[<-hG];simp
 have hGok:∀g∈G0,sG n g:=fun g hg=>by
  rw[<-hG] at hg;obtain⟨j,hj,rfl⟩:=List.mem_map.mp hg;exact hgt j (List.mem_range.mp hj)
 have RE:G0[2]? =some (gt 2):=by rw[<-hG];rfl
 have fin:∀G:List Gt,G.length=3->(∀g∈G,sG n g)->W3 (xj 5 (lJ (xP (af 5))) [some (.d (.int cell)),some (.loc k),some (.d (nI r)),some (.d (.str (kS kd))),some (.d (.lst (fT.map ef))),some (.loc S.length)] (S++[.lst (G.map fB)])) fun o S1=>∃v,o= .rt v/\jt S.length v=true/\(∃T,S1=S++T)/\∃d,res S1 v=some d/\Q (.d d) S:=fun G g1 g2=>by
  refine CI (i:=5) rfl (bq _ _) ?_;rw[c5];simp only[List.set];exact jJ <| dc (d:= .lst (G.map fB)) rfl ⟨_,rfl,rfl,⟨_,rfl⟩,_,rfl,h G g1 g2⟩
 refine aZ <| oj <| ot (b:=decide (r / 35 % 12=0)) (cZ (a:=nI (r / 35 % 12)) (b:=nI 0) (aj (a:=nI (r / 35)) (b:=nI 12) (aj (a:=nI r) (b:=nI 35) rfl rfl (BZ (by omega) (by omega))) rfl (ll (by omega))) rfl (JI _ _)) ?_
 by_cases hc:r / 35 % 12=0
 .rw [decide_eq_true hc,if_pos rfl];have h5:(dq (S++[.lst (G0.map fB)]) [some (.d (.int cell)),some (.loc k),some (.d (nI r)),some (.d (.str (kS kd))),some (.d (.lst (fT.map ef))),some (.loc S.length)])[5]? =some (.val (.lst (G0.map fB))):=by
   unfold dq;show some (match res (S++[.lst (G0.map fB)]) (.loc S.length) with | some d=>Sl.val d | none=> .un)=_
   unfold res;rw[bq]
  refine J1 <| Oc (d:=fB (kd,fT.map (fun T=>T.getD 0 0),sb)) (cv (ao rfl (ao (yS hsW (by omega) (by omega:0 < 3) (jf rfl) fun T hT=>⟨[.val (ef T)],rfl,aj (a:=ef T) (b:=nI 0) rfl rfl (zN (by rw[(hsW T hT).1];omega))⟩) (ao (aj (a:=fB (gt 2)) (b:= .int 2) (aj (a:= .lst (G0.map fB)) (b:=nI 2) (by unfold af;rw [h5]) rfl (NT.iU (by rw[List.getElem?_map,RE];rfl))) rfl rfl) rfl))) (by simp;omega)) ?_ <| w_var (v:= .loc S.length) rfl <| dc (d:= .int 2) rfl ⟨_,S.length,2,G0.map fB,2,rfl,rfl,rfl,bq _ _,by rw[List.length_map,Rp];rfl,?_⟩
  .show(true && (pZ ((fT.map fun T=>T.getD 0 0).map nI) && (true && true)))=true
   generalize (fT.map fun T=>T.getD 0 0)=l
   have:pZ (l.map nI)=true:=by
    induction l with
    | nil=>rfl
    | cons a l ih=>exact ih
   rw[this];rfl
  .refine⟨_,rfl,?_⟩;rw[c5,<-List.map_set];refine fin (G0.set 2 (kd,fT.map (fun T=>T.getD 0 0),sb)) (by rw[List.length_set,Rp]) fun g hg=>?_
   rcases List.mem_or_eq_of_mem_set hg with z | z
   .exact hGok g z
   .rw [z];exact hgt 0 (by omega)
 .rw [decide_eq_false hc,if_neg (by decide)]
  exact gG ⟨_,rfl,fin G0 Rp hGok⟩
end K37
end
section
set_option maxHeartbeats 2000000
namespace K37
open PySem PySem.Spec PyProof.Rows L2 L3 MT JT
def sF:WJ:=[("ain",3),("bin",3)]
def cg(m:Nat):WJ:=sF.take m
def lF:List Str:=["uout","vout","wout"]
theorem nA{m:Nat}(h:m<=2):(cg m).length=m:=by unfold cg;rw [List.length_take];exact Nat.min_eq_left h
theorem pj{m:Nat}:∀x∈cg m,x.2=3:=fun x hx=>by
 have:=List.mem_of_mem_take hx;unfold sF at this;simp only[List.mem_cons,List.not_mem_nil,or_false] at this;rcases this with rfl | rfl <;> rfl
theorem Mf{δ:au}{k:Nat}(hk:k < 3)(h:af 7 δ= .ok (nI k)):e2 cx (e2 cm (eC (.str "uvw")) (af 7)) (eC (.str "out")) δ= .ok (.str (lF.getD k Str.empty)):=by
 have hz:sizeLine=16777216:=sizeLine_eq
 match k,hk with
 | 0,_=>exact aj (a:= .str "u") (b:= .str "out") (aj (a:= .str "uvw") (b:= .int 0) rfl h (tG (by rw[hz];decide) rfl)) rfl (lU (by rw[hz];decide))
 | 1,_=>exact aj (a:= .str "v") (b:= .str "out") (aj (a:= .str "uvw") (b:= .int 1) rfl h (tG (by rw[hz];decide) rfl)) rfl (lU (by rw[hz];decide))
 | 2,_=>exact aj (a:= .str "w") (b:= .str "out") (aj (a:= .str "uvw") (b:= .int 2) rfl h (tG (by rw[hz];decide) rfl)) rfl (lU (by rw[hz];decide))
theorem OB{δ:au}{k:Nat}(hk:k < 2)(h:af 0 δ= .ok (nI k)):cG (ah (e2 cx (e2 cm (eC (.str "abcdef")) (af 0)) (eC (.str "in"))) (ah (eC (.int 3)) aI)) δ= .ok (MT.inD (sF.getD k (Str.empty,0))):=by
 have hz:sizeLine=16777216:=sizeLine_eq
 match k,hk with
 | 0,_=>exact cv (ao (aj (a:= .str "a") (b:= .str "in") (aj (a:= .str "abcdef") (b:= .int 0) rfl h (tG (by rw[hz];decide) rfl)) rfl (lU (by rw[hz];decide))) (ao rfl rfl)) (by rw[hz];decide)
 | 1,_=>exact cv (ao (aj (a:= .str "b") (b:= .str "in") (aj (a:= .str "abcdef") (b:= .int 1) rfl h (tG (by rw[hz];decide) rfl)) rfl (lU (by rw[hz];decide))) (ao rfl rfl)) (by rw[hz];decide)
structure TI (m:Nat) (th:WL) (G:List Gt):Prop where
 w:Pc (3*m+G.length) th
 g:∀i x,G[i]? =some x->sG (3*m+i) x
theorem sG.mono{n n':Nat}{g:Gt}(h:sG n g)(hn:n<=n'):sG n' g:=⟨h.1,h.2.1,fun w hw=>Nat.lt_of_lt_of_le (h.2.2 w hw) hn⟩
theorem TI.app{m:Nat}{th:WL}{G C:List Gt}(t:TI m th G)(h:∀g∈C,sG (3*m+G.length) g):TI m th (G++C):=by
 refine⟨fun T hT=>⟨(t.w T hT).1,fun w hw=>by have:=(t.w T hT).2 w hw;rw [List.length_append];omega⟩,fun i x hx=>?_⟩
 by_cases hi:i < G.length
 .rw [List.getElem?_append_left hi] at hx;exact t.g i x hx
 .rw [List.getElem?_append_right (by omega)] at hx
  exact sG.mono (h x (List.mem_of_getElem? hx)) (by omega)
theorem TI.three{m:Nat}{th:WL}{G:List Gt}(t:TI m th G){T:List Nat}(h3:T.length=3)(hw:∀w∈T,w < 3*m+G.length):TI m th (G++List.replicate 3 ((4,T,false):Gt)):=t.app fun g hg=>by
 rw[(List.mem_replicate.mp hg).2];exact⟨Nat.le_refl _,h3,hw⟩
theorem TI.put{m:Nat}{th:WL}{G:List Gt}(t:TI m th G){T:List Nat}(k:Nat)(h3:T.length=3)(hw:∀w∈T,w < 3*m+G.length):TI m (th.set k T) G:=⟨fun U hU=>by
 rcases List.mem_or_eq_of_mem_set hU with z | z
 .exact t.w U z
 .rw [z];exact⟨h3,hw⟩,t.g⟩
theorem TI.push{m:Nat}{th:WL}{G:List Gt}(t:TI m th G){T:List Nat}(h3:T.length=3)(hw:∀w∈T,w < 3*m+G.length):TI m (th++[T]) G:=⟨fun U hU=>by
 rcases List.mem_append.mp hU with z | z
 .exact t.w U z
 .rw [List.mem_singleton.mp z];exact⟨h3,hw⟩,t.g⟩
theorem Fp(k:Nat):gI (nI 3) (nI k)= .ok (nI (3*k)):=OE (.inr (by omega))
theorem Md{G C:List Gt}(h:G.length+C.length<=1000):cx (.lst (G.map fB)) (.lst (C.map fB))= .ok (.lst ((G++C).map fB)):=by
 have hz:sizeLine=16777216:=sizeLine_eq;rw[Ck (by rw[List.length_map,List.length_map];omega),List.map_append]
section
variable {S:bu} {ns:List Int} {hd:Int} {m:Nat}
abbrev nE(S:bu)(ns:List Int)(hd:Int)(m:Nat)(G:List Gt)(a7 a8 a9 Vf Rk O7:Option V3):DE:=[some (.d (.lst (ns.map .int))),some (.d (.int 2)),some (.d (.int hd)),some (.d (nI m)),some (.d (.lst ((cg m).map MT.inD))),some (.loc S.length),some (.d (.lst (G.map fB))),a7,a8,a9,Vf,Rk,O7]
theorem Nc{G:List Gt}:fA [.lst (G.map fB)]= .ok (nI G.length):=by rw[tJ,List.length_map]
theorem M6(k:Nat)(δ:au){i:Nat}(h:af i δ= .ok (nI k)):cG (ah (e2 gI (eC (.int 3)) (af i)) (ah (e2 cx (e2 gI (eC (.int 3)) (af i)) (eC (.int 1))) (ah (e2 cx (e2 gI (eC (.int 3)) (af i)) (eC (.int 2))) aI))) δ= .ok (ef [3*k,3*k+1,3*k+2]):=by
 have hz:sizeLine=16777216:=sizeLine_eq;have e:e2 gI (eC (.int 3)) (af i) δ= .ok (nI (3*k)):=aj (a:=nI 3) (b:=nI k) rfl h (Fp k);exact cv (ao e (ao (aj (a:=nI (3*k)) (b:=nI 1) e rfl (kq _ _)) (ao (aj (a:=nI (3*k)) (b:=nI 2) e rfl (kq _ _)) rfl))) (by simp;omega)
theorem NK{G:List Gt}{th:WL}{k:Nat}(hm:m<=2)(hk:k < m)(ht:th.length=m)(T:TI m th G)(hG:G.length<=3*k) :
 W3 (nT (nE S ns hd m G (some (.d (nI k))) none none none none none) (S++[.lst (th.map ef)])) fun o S2=>∃G' Bl,o= .nx (nE S ns hd m G' (some (.d (nI k))) none none none none none)/\S2=S++[SO.lst (Bl.map ef)]/\Bl.length=m/\TI m Bl G'/\G'.length<=3*(k+1):=by
 have hz:sizeLine=16777216:=sizeLine_eq;unfold nT;refine oj <| ot (b:=decide (0 < stN hd (1+k) % 4)) (cZ (a:=nI (stN hd (1+k) % 4)) (b:=nI 0) (aj (a:=nI (stN hd (1+k))) (b:=nI 4) (aw (ds:=[.int hd,nI (1+k)]) (ao rfl (ao (aj (a:=nI 1) (b:=nI k) rfl rfl (kq _ _)) rfl)) (qx hd (1+k))) rfl (ll (by omega))) rfl (LJ _ _)) ?_
 by_cases hc:0 < stN hd (1+k) % 4
 .rw [decide_eq_true hc,if_pos rfl];have hx:=Kd (f:=e2 cx (e2 cx (e2 gI (eC (.int 3)) (af 1)) (aM fA (ah (af 2) aI))) (af 0)) (own:=["j"]) (kp:=[3,6]) (δ:=down (nE S ns hd m G (some (.d (nI k))) none none none none none)) (a:=3*m+G.length) fun j hj=>⟨[.val (nI j), .val (nI m), .val (.lst (G.map fB))],rfl,aj (a:=nI (3*m+G.length)) (b:=nI j) (aj (a:=nI (3*m)) (b:=nI G.length) (aj (a:=nI 3) (b:=nI m) rfl rfl (Fp m)) (aw (ds:=[.lst (G.map fB)]) rfl Nc) (kq _ _)) rfl (kq _ _)⟩
  refine aZ <| J1 <| dc (d:=ef [3*m+G.length,3*m+G.length+1,3*m+G.length+2]) hx <| w_var (v:= .loc S.length) rfl <| dc (d:=nI k) rfl ⟨_,S.length,(k:Int),th.map ef,k,rfl,rfl,rfl,bq _ _,NT.Cq (by rw[List.length_map];omega),_,rfl,?_⟩
  rw[c5,<-List.map_set];refine bQ (by simp) <| dc (d:= .lst ((G++List.replicate 3 ((4,[3*k,3*k+1,3*k+2],false):Gt)).map fB)) (aj (a:= .lst (G.map fB)) (b:= .lst ((List.replicate 3 ((4,[3*k,3*k+1,3*k+2],false):Gt)).map fB)) rfl (aw (ds:=[ef [3*k,3*k+1,3*k+2]]) (ao (M6 k _ rfl) rfl) (zP _)) (Md (by rw[List.length_replicate];omega))) ⟨_,_,rfl,rfl,?_,?_,?_⟩
  .rw [List.length_set];exact ht
  .refine(T.three rfl fun w hw=>?_).put k rfl fun w hw=>?_
   .simp only[List.mem_cons,List.not_mem_nil,or_false] at hw;omega
   .rw [List.length_append,List.length_replicate];simp only[List.mem_cons,List.not_mem_nil,or_false] at hw;omega
  .rw [List.length_append,List.length_replicate];omega
 .rw [decide_eq_false hc,if_neg (by decide)]
  exact gG ⟨G,th,rfl,rfl,ht,T,by omega⟩
theorem Nv{G:List Gt}{th:WL}{c:Int}{a7 a9:Option V3}(hS:Ab (S++[.lst (th.map ef)]))(vV:0 < th.length)(WA:th.length<=100)(hm:m<=2)(T:TI m th G)(hG:G.length<=100) :
 W3 (nC (nE S ns hd m G a7 (some (.d (.int c))) a9 none none none) (S++[.lst (th.map ef)])) fun o S2=>∃G' Bl b9,o= .nx (nE S ns hd m G' a7 (some (.d (.int c))) b9 none none none)/\S2=S++[SO.lst (Bl.map ef)]/\Bl.length=th.length+1/\TI m Bl G'/\G'.length<=G.length+6:=by
 have hz:sizeLine=16777216:=sizeLine_eq;unfold nC;refine aZ <| bQ (by simp) <| Nw <| dc (d:= .lst (G.map fB)) rfl <| eQ <| bb <| dc (d:= .int c) rfl <| bb <| w_var (v:= .loc S.length) rfl <| dX <| Dg (bq _ _) vV T.w hS fun C VT Vi=>⟨_,_,_,rfl,rfl,Md (by omega),_,rfl,?_⟩
 simp only[List.set];have T1:=T.app Vi;have yo:(G++C).length=G.length+3:=by rw[List.length_append,VT]
 generalize G++C=G1 at T1 yo;have ea:3*m+G1.length - 3=3*m+G.length:=by omega
 refine aZ <| bQ (by simp) <| dc (d:=ef [3*m+G.length,3*m+G.length+1,3*m+G.length+2]) (Kd fun j hj=>⟨[.val (nI j), .val (nI m), .val (.lst (G1.map fB))],rfl,aj (a:=nI (3*m+G1.length - 3)) (b:=nI j) (aj (a:=nI (3*m+G1.length)) (b:=nI 3) (aj (a:=nI (3*m)) (b:=nI G1.length) (aj (a:=nI 3) (b:=nI m) rfl rfl (Fp m)) (aw (ds:=[.lst (G1.map fB)]) rfl Nc) (kq _ _)) rfl (F7 (by omega))) rfl (by rw[kq,ea])⟩) ⟨_,rfl,?_⟩
 simp only[List.set];have fin:∀(G':List Gt) (U:List Nat),TI m th G'->U.length=3->(∀w∈U,w < 3*m+G'.length)->G'.length<=G.length+6->W3 (pd 5 (xP (af 9)) (nE S ns hd m G' a7 (some (.d (.int c))) (some (.d (ef U))) none none none) (S++[.lst (th.map ef)])) fun o S2=>∃G' Bl b9,o= .nx (nE S ns hd m G' a7 (some (.d (.int c))) b9 none none none)/\S2=S++[SO.lst (Bl.map ef)]/\Bl.length=th.length+1/\TI m Bl G'/\G'.length<=G.length+6:=fun G' U t u1 u2 gl=>by
  refine uZ (k:=S.length) rfl ⟨_,bq _ _⟩ (dc (d:=ef U) rfl ⟨_,_,rfl,bq _ _,by rw[List.length_map];omega,G',th++[U],_,rfl,?_,by simp,t.push u1 u2,gl⟩)
  rw[c5,List.map_append];rfl
 refine aZ <| oj <| ot (b:=decide (0 < stN c 9 % 3)) (cZ (a:=nI (stN c 9 % 3)) (b:=nI 0) (aj (a:=nI (stN c 9)) (b:=nI 3) (aw (ds:=[.int c,nI 9]) rfl (qx c 9)) rfl (ll (by omega))) rfl (LJ _ _)) ?_
 have hlw:∀w∈[3*m+G.length,3*m+G.length+1,3*m+G.length+2],w < 3*m+G1.length:=fun w hw=>by simp only[List.mem_cons,List.not_mem_nil,or_false] at hw;omega
 by_cases hc:0 < stN c 9 % 3
 .rw [decide_eq_true hc,if_pos rfl];refine aZ <| bQ (by simp) <| dc (d:= .lst ((G1++List.replicate 3 ((4,[3*m+G.length,3*m+G.length+1,3*m+G.length+2],false):Gt)).map fB)) (aj (a:= .lst (G1.map fB)) (b:= .lst ((List.replicate 3 ((4,[3*m+G.length,3*m+G.length+1,3*m+G.length+2],false):Gt)).map fB)) rfl (aw (ds:=[ef [3*m+G.length,3*m+G.length+1,3*m+G.length+2]]) rfl (zP _)) (Md (by rw[List.length_replicate];omega))) ⟨_,rfl,?_⟩
  simp only[List.set];refine bQ (by simp) <| dc (d:=ef [3*m+G.length+3,3*m+G.length+1+3,3*m+G.length+2+3]) (aw (ds:=[.lst [nI (3*m+G.length+3),nI (3*m+G.length+1+3),nI (3*m+G.length+2+3)]]) (ao (cK (bR (ds:=[3*m+G.length,3*m+G.length+1,3*m+G.length+2].map nI) (Aj rfl) (by simp;omega) (NT.bj nI (fun w=>nI (w+3)) fun w hw=>⟨[.val (nI w)],rfl,rfl,aj (a:=nI w) (b:=nI 3) rfl rfl (kq _ _)⟩))) rfl) rfl) ⟨_,rfl,?_⟩
  refine fin _ _ (T1.three rfl hlw) rfl (fun w hw=>?_) (by rw[List.length_append,List.length_replicate];omega)
  rw[List.length_append,List.length_replicate];simp only[List.mem_cons,List.not_mem_nil,or_false] at hw;omega
 .rw [decide_eq_false hc,if_neg (by decide)]
  exact gG ⟨_,rfl,fin _ _ T1 rfl hlw (by omega)⟩
theorem Og{G:List Gt}{th:WL}{k:Nat}{os:WK}{a8 a9 Rk O7:Option V3}(vV:0 < th.length)(hk:k < 3)(T:TI m th G)(D9:os.map (·.1)=lF.take k)(Bf:∀x∈os,x.2.length=3/\∀w∈x.2,w < 3*m+G.length) :
 W3 (nK (nE S ns hd m G (some (.d (nI k))) a8 a9 (some (.loc (S.length+1))) Rk O7) (S++[.lst (th.map ef), .lst (os.map jA)])) fun o S2=>∃(Bk:WK) (El Ek:Option V3),o= .nx (nE S ns hd m G (some (.d (nI k))) a8 a9 (some (.loc (S.length+1))) El Ek)/\S2=S++[SO.lst (th.map ef),SO.lst (Bk.map jA)]/\Bk.map (·.1)=lF.take (k+1)/\∀x∈Bk,x.2.length=3/\∀w∈x.2,w < 3*m+G.length:=by
 have hz:sizeLine=16777216:=sizeLine_eq;have g0:∀x y:SO,(S++[x,y])[S.length]? =some x:=fun x y=>by rw[List.getElem?_append_right (Nat.le_refl _),Nat.sub_self];rfl
 have g1:∀x y:SO,(S++[x,y])[S.length+1]? =some y:=fun x y=>by rw[List.getElem?_append_right (by omega),show S.length+1 - S.length=1 by omega];rfl
 have p1:∀x y z:SO,(S++[x,y]).set (S.length+1) z=S++[x,z]:=fun x y z=>by rw[List.set_append_right _ _ (by omega),show S.length+1 - S.length=1 by omega];rfl
 have hol:os.length=k:=by
  have:=congrArg List.length D9;rw[List.length_map,List.length_take] at this;have:lF.length=3:=rfl;omega
 unfold nK;obtain⟨r,hr⟩:∃r,stN hd (21+k)=r:=⟨_,rfl⟩;refine aZ <| bQ (by simp) <| dc (d:=nI r) ((aw (ds:=[.int hd,nI (21+k)]) (ao rfl (ao (aj (a:=nI 21) (b:=nI k) rfl rfl (kq _ _)) rfl)) (qx hd (21+k))).trans (by rw[hr])) ⟨_,rfl,?_⟩
 simp only[List.set];have hmn:0 < min th.length 3:=by omega
 have hlt:r % min th.length 3 < min th.length 3:=Nat.mod_lt _ hmn;have hix:th.length - 1 - r % min th.length 3 < th.length:=by omega
 obtain⟨U,hU⟩:∃U,th[th.length - 1 - r % min th.length 3]? =some U:=⟨_,List.getElem?_eq_getElem hix⟩;have hUm:=T.w U (List.mem_of_getElem? hU);have h5:(dq (S++[.lst (th.map ef), .lst (os.map jA)]) (nE S ns hd m G (some (.d (nI k))) a8 a9 (some (.loc (S.length+1))) (some (.d (nI r))) O7))[5]? =some (.val (.lst (th.map ef))):=by
  unfold dq;show some (match res (S++[.lst (th.map ef), .lst (os.map jA)]) (.loc S.length) with | some d=>Sl.val d | none=> .un)=_
  unfold res;rw[g0]
 have hlen5:aM fA (ah (af 5) aI) (dq (S++[.lst (th.map ef), .lst (os.map jA)]) (nE S ns hd m G (some (.d (nI k))) a8 a9 (some (.loc (S.length+1))) (some (.d (nI r))) O7))= .ok (nI th.length):=aw (ds:=[.lst (th.map ef)]) (ao (by unfold af;rw [h5]) rfl) (by rw[tJ,List.length_map])
 have tup:∀l:List Nat,pZ (l.map nI)=true:=fun l=>by
  induction l with
  | nil=>rfl
  | cons a l ih=>exact ih
 refine aZ <| bQ (by simp) <| Oc (d:=ef U) (aj (a:= .lst (th.map ef)) (b:=nI (th.length - 1 - r % min th.length 3)) (by unfold af;rw [h5]) (aj (a:=nI (th.length - 1)) (b:=nI (r % min th.length 3)) (aj (a:=nI th.length) (b:=nI 1) hlen5 rfl (F7 (by omega))) (aj (a:=nI r) (b:=nI (min th.length 3)) rfl (aw (ds:=[nI th.length,nI 3]) (ao hlen5 rfl) N4) (ll hmn)) (F7 (by omega))) (NT.iU (by rw[List.getElem?_map,hU];rfl))) (tup U) ⟨_,rfl,?_⟩
 simp only[List.set];have fin:∀V:List Nat,V.length=3->(∀w∈V,w < 3*m+G.length)->W3 (pd 10 (xP (cG (ah (e2 cx (e2 cm (eC (.str "uvw")) (af 7)) (eC (.str "out"))) (ah (af 12) aI)))) (nE S ns hd m G (some (.d (nI k))) a8 a9 (some (.loc (S.length+1))) (some (.d (nI r))) (some (.d (ef V)))) (S++[.lst (th.map ef), .lst (os.map jA)])) fun o S2=>∃(Bk:WK) (El Ek:Option V3),o= .nx (nE S ns hd m G (some (.d (nI k))) a8 a9 (some (.loc (S.length+1))) El Ek)/\S2=S++[SO.lst (th.map ef),SO.lst (Bk.map jA)]/\Bk.map (·.1)=lF.take (k+1)/\∀x∈Bk,x.2.length=3/\∀w∈x.2,w < 3*m+G.length:=fun V v1 v2=>by
  refine uZ (k:=S.length+1) rfl ⟨_,g1 _ _⟩ (dc (d:=jA (lF.getD k Str.empty,V)) (cv (ao (Mf hk rfl) rfl) (by simp;omega)) ⟨_,_,rfl,g1 _ _,by rw[List.length_map];omega,os++[(lF.getD k Str.empty,V)],_,_,rfl,?_,?_,fun x hx=>?_⟩)
  .rw [p1,List.map_append];rfl
  .rw [List.map_append,D9,List.take_add_one];congr 1
   match k,hk with
   | 0,_=>rfl
   | 1,_=>rfl
   | 2,_=>rfl
  .rcases List.mem_append.mp hx with z | z
   .exact Bf x z
   .rw [List.mem_singleton.mp z];exact⟨v1,v2⟩
 have sec:∀V:List Nat,V.length=3->(∀w∈V,w < 3*m+G.length)->W3 (bH (zH (bP (b2 qB (e2 je (e2 lK (af 11) (eC (.int 48))) (eC (.int 9))) (eC (.int 0)))) (cF 12 (xP (cG (ah (e2 cm (af 12) (eC (.int 0))) (ah (e2 cm (af 12) (eC (.int 0))) (ah (e2 cm (af 12) (eC (.int 1))) aI)))))) nJ) (pd 10 (xP (cG (ah (e2 cx (e2 cm (eC (.str "uvw")) (af 7)) (eC (.str "out"))) (ah (af 12) aI))))) (nE S ns hd m G (some (.d (nI k))) a8 a9 (some (.loc (S.length+1))) (some (.d (nI r))) (some (.d (ef V)))) (S++[.lst (th.map ef), .lst (os.map jA)])) fun o S2=>∃(Bk:WK) (El Ek:Option V3),o= .nx (nE S ns hd m G (some (.d (nI k))) a8 a9 (some (.loc (S.length+1))) El Ek)/\S2=S++[SO.lst (th.map ef),SO.lst (Bk.map jA)]/\Bk.map (·.1)=lF.take (k+1)/\∀x∈Bk,x.2.length=3/\∀w∈x.2,w < 3*m+G.length:=fun V v1 v2=>by
  refine aZ <| oj <| ot (b:=decide (r / 48 % 9=0)) (cZ (a:=nI (r / 48 % 9)) (b:=nI 0) (aj (a:=nI (r / 48)) (b:=nI 9) (aj (a:=nI r) (b:=nI 48) rfl rfl (BZ (by omega) (by omega))) rfl (ll (by omega))) rfl (JI _ _)) ?_
  by_cases hc:r / 48 % 9=0
  .rw [decide_eq_true hc,if_pos rfl];refine bQ (by simp) <| dc (d:=ef [V.getD 0 0,V.getD 0 0,V.getD 1 0]) (cv (ao (aj (a:=ef V) (b:=nI 0) rfl rfl (zN (by omega))) (ao (aj (a:=ef V) (b:=nI 0) rfl rfl (zN (by omega))) (ao (aj (a:=ef V) (b:=nI 1) rfl rfl (zN (by omega))) rfl))) (by simp;omega)) ⟨_,rfl,?_⟩
   refine fin _ rfl fun w hw=>?_
   simp only[List.mem_cons,List.not_mem_nil,or_false] at hw;rcases hw with rfl | rfl | rfl
   .exact v2 _ (getD_in (by omega))
   .exact v2 _ (getD_in (by omega))
   .exact v2 _ (getD_in (by omega))
  .rw [decide_eq_false hc,if_neg (by decide)]
   exact gG ⟨_,rfl,fin V v1 v2⟩
 refine aZ <| oj <| ot (b:=decide (r / 8 % 6=0)) (cZ (a:=nI (r / 8 % 6)) (b:=nI 0) (aj (a:=nI (r / 8)) (b:=nI 6) (aj (a:=nI r) (b:=nI 8) rfl rfl (BZ (by omega) (by omega))) rfl (ll (by omega))) rfl (JI _ _)) ?_
 by_cases hc:r / 8 % 6=0
 .rw [decide_eq_true hc,if_pos rfl];refine bQ (by simp) <| dc (d:=ef U.reverse) ?_ ⟨_,rfl,?_⟩
  .show R.ok (D.tup (U.map nI).reverse)=_;unfold ef;rw[List.map_reverse]
  .exact sec U.reverse (by rw[List.length_reverse];exact hUm.1) fun w hw=>hUm.2 w (List.mem_reverse.mp hw)
 .rw [decide_eq_false hc,if_neg (by decide)]
  exact gG ⟨_,rfl,sec U hUm.1 hUm.2⟩
end
end K37
end
section
namespace K37
open PySem PySem.Spec PyProof.Rows L2 L3 MT JT
theorem Iz{S:bu}(hS:Flat S){l:List SO}(h:Flat l):Ab (S++l):=fun o ho=>by
 rcases List.mem_append.mp ho with q | q
 .exact hS o q _
 .exact h o q _
theorem K8(ds:List D):Flat [SO.lst ds]:=fun o ho n=>by rw[List.mem_singleton.mp ho];rfl
theorem EX{S:bu}{ns:List Int}(hS:Flat S){Q:V3->bu->Prop}(h:∀(m:Nat) (gs:List Gt) (os:WK),1<=m->m<=2->pA (cg m) gs os->gs.length<=30->1<=os.length->os.length<=3->os.map (·.1)=lF.take os.length->Q (.d (a_ (cg m) gs os)) S) :
 W3 (l6 [.d (.lst (ns.map .int)), .d (.int 2)] S) Q:=by
 have hz:sizeLine=16777216:=sizeLine_eq;unfold l6;refine mJ hS.Oz (Ei rfl ?_);simp only[dC,fj,List.map,List.length,List.replicate,List.cons_append,List.nil_append,Nat.reduceAdd,Nat.reduceSub];unfold qD;obtain⟨hd,hhd⟩:∃hd,ns.getD 0 0=hd:=⟨_,rfl⟩;refine aZ <| bQ (by simp) <| dc (d:= .int hd) ((aw (ds:=[.lst (ns.map .int),nI 0]) rfl (Bs ns 0)).trans (by rw[hhd])) ⟨_,rfl,?_⟩
 simp only[List.set];obtain⟨m,hm⟩:∃m,1+stN hd 0 % 2=m:=⟨_,rfl⟩;have S9:1<=m:=by omega
 have Hm:m<=2:=by omega
 refine aZ <| bQ (by simp) <| dc (d:=nI m) ((aj (a:=nI 1) (b:=nI (stN hd 0 % 2)) rfl (aj (a:=nI (stN hd 0)) (b:=nI 2) (aw (ds:=[.int hd,nI 0]) rfl (qx hd 0)) rfl (ll (by omega))) (kq _ _)).trans (by rw[hm])) ⟨_,rfl,?_⟩
 simp only[List.set];refine aZ <| bQ (by simp) <| qv (fun j ds S2=>S2=S/\ds=((cg m).take j).map MT.inD) <| om (r9 (n:=m) rfl (by omega)) ⟨by rw[List.length_map,List.length_map,List.length_range];omega,⟨rfl,rfl⟩,?_,?_⟩
 .rintro j v ds S2 hv ⟨rfl,rfl⟩;obtain⟨j',Hq,rfl⟩:=NT.j6 hv;obtain⟨hjl,ej⟩:=List.getElem?_eq_some_iff.mp Hq;rw[List.getElem_range] at ej;subst ej;rw[List.length_range] at hjl;refine⟨[some (.d (nI j))],rfl,J3 ?_⟩;rw[if_pos rfl];refine dc (d:=MT.inD (sF.getD j (Str.empty,0))) (OB (by omega) rfl) ⟨_,rfl,rfl,?_⟩
  have hjA:j < sF.length:=by show j < 2;omega
  have e:(cg m)[j]? =some (sF.getD j (Str.empty,0)):=by
   unfold cg;rw[List.getElem?_take,if_pos hjl,List.getD_eq_getElem?_getD,List.getElem?_eq_getElem hjA];rfl
  rw[List.take_add_one,e,List.map_append];rfl
 rintro ds S2 ⟨e1,rfl⟩;subst S2;rw[List.length_map,List.length_map,List.length_range,List.take_of_length_le (by rw[nA Hm];exact Nat.le_refl _)]
 refine⟨_,rfl,?_⟩;simp only[List.set]
 let O2:WL:=(List.range m).map fun k=>[3*k,3*k+1,3*k+2]
 have Rq:O2.length=m:=by show((List.range m).map _).length=m;rw [List.length_map,List.length_range]
 refine aZ <| bQ (by simp) <| rV (ds:=O2.map ef) (bR (ds:=(List.range m).map nI) (r9 (n:=m) rfl (by omega)) (by rw[List.length_map,List.length_range];omega) ?_) ⟨_,rfl,?_⟩
 .rw [show O2.map ef=(List.range m).map fun k=>ef [3*k,3*k+1,3*k+2] from List.map_map]
  exact NT.bj nI _ fun k hk=>⟨[.val (nI k)],rfl,rfl,M6 k _ rfl⟩
 simp only[List.set];refine aZ <| bQ (by simp) <| dc (d:= .lst (([]:List Gt).map fB)) rfl ⟨_,rfl,?_⟩
 simp only[List.set];have T0:TI m O2 []:=⟨fun T hT=>by
  obtain⟨k,hk,rfl⟩:=List.mem_map.mp hT;have:=List.mem_range.mp hk;refine⟨rfl,fun w hw=>?_⟩
  simp only[List.mem_cons,List.not_mem_nil,or_false] at hw;simp only[List.length_nil];omega,fun i x hx=>by cases hx⟩
 refine aZ <| mK <| om (r9 (n:=m) rfl (by omega)) ?_
 refine(dQ (fun i δ S2=>∃G th a7,δ=nE S ns hd m G a7 none none none none none/\S2=S++[SO.lst (th.map ef)]/\th.length=m/\TI m th G/\G.length<=3*i)
  ⟨[],O2,none,rfl,rfl,Rq,T0,by simp⟩ ?_).mono fun o S2 ⟨fU,k4,G1,Vv,a7,yq,yp,Vn,T1,U7⟩=>⟨fU,k4,?_⟩
 .rintro i v δ S2 hv ⟨G,th,a7,rfl,rfl,ht,T,hG⟩;obtain⟨j',Hq,rfl⟩:=NT.j6 hv;obtain⟨hjl,ej⟩:=List.getElem?_eq_some_iff.mp Hq;rw[List.getElem_range] at ej;subst ej;rw[List.length_range] at hjl;refine⟨nE S ns hd m G (some (.d (nI i))) none none none none none,rfl,?_⟩;exact(NK Hm hjl ht T hG).mono fun o S2 ⟨G',Bl,e1,e2,e3,e4,e5⟩=>⟨_,e1,G',Bl,_,rfl,e2,e3,e4,e5⟩
 subst yq yp;rw[List.length_map,List.length_map,List.length_range] at U7
 let cs:List Int:=(ns.drop 1).take 4
 have hcs:MK (.lst (ns.map .int)) (some 1) (some 5)= .ok (.lst (cs.map .int)):=by
  show R.ok (D.lst (L2.cutD (ns.map .int) (some ((1:Nat):Int)) (some ((5:Nat):Int))))=_;unfold L2.cutD;rw[List.length_map,HT.wV,HT.wV];show _=R.ok (D.lst (((ns.drop 1).take 4).map .int));rw[List.map_take,List.map_drop];congr 2;by_cases hn:5<=ns.length
  .rw [Nat.min_eq_left (by omega:1<=ns.length),Nat.min_eq_left hn]
  .have e1:min 5 ns.length=ns.length:=by omega
   rw[e1];by_cases h1:1<=ns.length
   .rw [Nat.min_eq_left h1,List.take_of_length_le (by rw[List.length_drop,List.length_map];omega),List.take_of_length_le (by rw[List.length_drop,List.length_map];omega)]
   .have:ns=[]:=List.length_eq_zero_iff.mp (by omega)
    subst this;rfl
 have Hn:cs.length<=4:=by show((ns.drop 1).take 4).length<=4;rw [List.length_take];omega
 refine aZ <| mK <| om (ds:=cs.map .int) (jf (Gq (d:= .lst (ns.map .int)) (lo:=some 1) (hi:=some 5) rfl (tS rfl) (tS rfl) hcs)) ?_
 refine(dQ (fun i δ S2=>∃G th a8 a9,δ=nE S ns hd m G a7 a8 a9 none none none/\S2=S++[SO.lst (th.map ef)]/\th.length=m+i/\TI m th G/\G.length<=6+6*i)
  ⟨G1,Vv,none,none,rfl,rfl,Vn,T1,by omega⟩ ?_).mono fun o S2 ⟨fU,k4,G2,Mx,a8,a9,yq,yp,VO,T2,RE⟩=>⟨fU,k4,?_⟩
 .rintro i v δ S2 hv ⟨G,th,a8,a9,rfl,rfl,ht,T,hG⟩;obtain⟨c,hc,rfl⟩:=NT.j6 hv;have hi:=(List.getElem?_eq_some_iff.mp hc).1;refine⟨nE S ns hd m G a7 (some (.d (.int c))) a9 none none none,rfl,?_⟩;exact(Nv (Iz hS (K8 _)) (by omega) (by omega) Hm T (by omega)).mono fun o S2 ⟨G',Bl,b9,e1,e2,e3,e4,e5⟩=>⟨_,e1,G',Bl,_,b9,rfl,e2,by omega,e4,by omega⟩
 subst yq yp;rw[List.length_map,List.length_map] at RE VO;refine aZ <| bQ (by simp) <| rV (ds:=([]:WK).map jA) rfl ⟨_,rfl,?_⟩
 simp only[List.set];obtain⟨q,hq⟩:∃q,1+stN hd 20 % 3=q:=⟨_,rfl⟩;have eS:(S++[SO.lst (Mx.map ef)])++[SO.lst (([]:WK).map jA)]=S++[SO.lst (Mx.map ef),SO.lst (([]:WK).map jA)]:=by rw[List.append_assoc];rfl
 have eL:(S++[SO.lst (Mx.map ef)]).length=S.length+1:=by simp
 rw[eS,eL];refine aZ <| mK <| om (r9 (n:=q) ((aj (a:=nI 1) (b:=nI (stN hd 20 % 3)) rfl (aj (a:=nI (stN hd 20)) (b:=nI 3) (aw (ds:=[.int hd,nI 20]) rfl (qx hd 20)) rfl (ll (by omega))) (kq _ _)).trans (by rw[hq])) (by omega)) ?_
 refine(dQ (fun i δ S2=>∃(os:WK) (b7 El Ek:Option V3),δ=nE S ns hd m G2 b7 a8 a9 (some (.loc (S.length+1))) El Ek/\S2=S++[SO.lst (Mx.map ef),SO.lst (os.map jA)]/\os.map (·.1)=lF.take i/\∀x∈os,x.2.length=3/\∀w∈x.2,w < 3*m+G2.length)
  ⟨[],_,_,_,rfl,rfl,rfl,fun x hx=>by cases hx⟩ ?_).mono fun o S2 ⟨fU,k4,os,b7,El,Ek,yq,yp,D9,Bf⟩=>⟨fU,k4,?_⟩
 .rintro i v δ S2 hv ⟨os,b7,El,Ek,rfl,rfl,D9,Bf⟩;obtain⟨j',Hq,rfl⟩:=NT.j6 hv;obtain⟨hjl,ej⟩:=List.getElem?_eq_some_iff.mp Hq;rw[List.getElem_range] at ej;subst ej;rw[List.length_range] at hjl;refine⟨nE S ns hd m G2 (some (.d (nI i))) a8 a9 (some (.loc (S.length+1))) El Ek,rfl,?_⟩;exact(Og (by omega) (by omega) T2 D9 Bf).mono fun o S2 ⟨Bk,El,Ek,e1,e2,e3,e4⟩=>⟨_,e1,Bk,_,El,Ek,rfl,e2,e3,e4⟩
 subst yq yp;rw[List.length_map,List.length_map,List.length_range] at D9;have hol:os.length=q:=by
  have:=congrArg List.length D9;rw[List.length_map,List.length_take] at this;have:lF.length=3:=rfl;omega
 have g1:(S++[SO.lst (Mx.map ef),SO.lst (os.map jA)])[S.length+1]? =some (.lst (os.map jA)):=by rw[List.getElem?_append_right (by omega),show S.length+1 - S.length=1 by omega];rfl
 refine CI (i:=10) rfl g1 ?_;have p1:(S++[SO.lst (Mx.map ef),SO.lst (os.map jA)]).set (S.length+1) .kL=S++[SO.lst (Mx.map ef), .kL]:=by rw[List.set_append_right _ _ (by omega),show S.length+1 - S.length=1 by omega];rfl
 rw[p1];simp only[List.set];have hw:cN (cg m)=3*m:=by rw[DQ pj,nA Hm]
 refine jJ <| dc (d:=a_ (cg m) G2 os) (cv rfl (by simp;omega)) ⟨_,rfl,rfl,⟨_,rfl⟩,_,rfl,h m G2 os S9 Hm ⟨⟨by rw[nA Hm];omega,fun x hx=>by rw[pj x hx];omega,by omega,fun i x hx=>by rw[hw];exact T2.g i x hx,by omega,fun x hx=>⟨by rw[(Bf x hx).1];omega,fun w Vt=>by rw[hw];exact(Bf x hx).2 w Vt⟩⟩,pj,fun x hx=>(Bf x hx).1⟩ (by omega) (by omega) (by omega) (by rw[hol];exact D9)⟩
end K37
end
section
namespace K37
open PySem PySem.Spec PyProof.Rows L2 L3 MT JT
def rn(x:Str):Str:=Str.ofString "n"++x
def mU(x:Str × Nat):Str × Nat:=(rn x.1,x.2)
def yn(x:Str × List Nat):Str × List Nat:=(rn x.1,x.2)
theorem z8{ins:WJ}{gs:List Gt}{os:WK}(hi:ins.length < 1000)(ho:os.length < 1000)(ni:∀x∈ins,x.1.length < 1000)(no:∀x∈os,x.1.length < 1000):iR [a_ ins gs os]= .ok (a_ (ins.map mU) gs (os.map yn)):=by
 have hz:sizeLine=16777216:=sizeLine_eq;have h1:Str.length "n"=1:=by decide+kernel
 unfold iR oF;refine cy (bp (dJ (d:= .lst ((ins.map mU).map MT.inD)) (cK (bR (ds:=ins.map MT.inD) (jf (aj (a:=a_ ins gs os) (b:= .int 0) rfl rfl rfl)) (by rw[List.length_map];omega) ?_)) (by simp [cA,fL])) (bM ?_))
 .rw [List.map_map];exact NT.bj MT.inD _ fun x hx=>⟨[.val (.str x.1), .val (nI x.2)],rfl,rfl,cv (ao (aj (a:= .str "n") (b:= .str x.1) rfl rfl (lU (by have:=ni x hx;omega))) (ao (d:=nI x.2) (ds:=[]) rfl rfl)) (by simp only[List.length_cons,List.length_nil];omega)⟩
 .refine cv (ao rfl (ao (aj (a:=a_ ins gs os) (b:= .int 1) rfl rfl rfl) (ao (cK (bR (ds:=os.map jA) (jf (aj (a:=a_ ins gs os) (b:= .int 2) rfl rfl rfl)) (by rw[List.length_map];omega) ?_)) rfl))) (by simp;omega)
  rw[show(os.map yn).map jA=os.map fun x=>jA (yn x) from List.map_map]
  exact NT.bj jA _ fun x hx=>⟨[.val (.str x.1), .val (.tup (x.2.map nI))],rfl,rfl,cv (ao (aj (a:= .str "n") (b:= .str x.1) rfl rfl (lU (by have:=no x hx;omega))) (ao (d:= .tup (x.2.map nI)) (ds:=[]) rfl rfl)) (by simp only[List.length_cons,List.length_nil];omega)⟩
theorem GC{ins:WJ}{gs:List Gt}{os:WK}(T:pA ins gs os):pA (ins.map mU) gs (os.map yn):=by
 have hw:cN (ins.map mU)=cN ins:=by unfold cN;rw [List.map_map];rfl
 refine⟨⟨by rw[List.length_map];exact T.N.hi,fun x hx=>?_,T.N.hg,fun i x hx=>by rw[hw];exact T.N.g i x hx,by rw[List.length_map];exact T.N.ho,fun x hx=>?_⟩,fun x hx=>?_,fun x hx=>?_⟩
 .obtain⟨y,hy,rfl⟩:=List.mem_map.mp hx;exact T.N.hw y hy
 .obtain⟨y,hy,rfl⟩:=List.mem_map.mp hx;rw [hw];exact T.N.o y hy
 .obtain⟨y,hy,rfl⟩:=List.mem_map.mp hx;exact T.i3 y hy
 .obtain⟨y,hy,rfl⟩:=List.mem_map.mp hx;exact T.o3 y hy
theorem ur{pairs:List (Nat × Nat)}{ins:WJ}:(i0 pairs ins).Sublist ins:=by
 unfold i0;have h:((ins.zipIdx.filter fun x=>(dg pairs x.2).isNone).map (·.1)).Sublist (ins.zipIdx.map (·.1)):=List.Sublist.map _ List.filter_sublist
 have e:ins.zipIdx.map (·.1)=ins:=List.ext_getElem? fun i=>by
  rw[List.getElem?_map,List.getElem?_zipIdx];cases ins[i]? <;> rfl
 rw[e] at h;exact h
theorem yL{pairs:List (Nat × Nat)}{os:WK}:(i8 pairs os).Sublist os:=by
 unfold i8;have h:((os.zipIdx.filter fun x=>!(pairs.map (·.1)).contains x.2).map (·.1)).Sublist (os.zipIdx.map (·.1)):=List.Sublist.map _ List.filter_sublist
 have e:os.zipIdx.map (·.1)=os:=List.ext_getElem? fun i=>by
  rw[List.getElem?_map,List.getElem?_zipIdx];cases os[i]? <;> rfl
 rw[e] at h;exact h
theorem QZ:(sF.map (·.1)++sF.map fun x=>rn x.1).Nodup:=by decide+kernel
theorem Qi:(lF++lF.map rn).Nodup:=by decide+kernel
theorem So{m1 m2:Nat}{gs1 gs2:List Gt}{bx dw:WK}{pairs:List (Nat × Nat)}(F:Fits bx ((cg m2).map mU) pairs)(nd:(pairs.map (·.2)).Nodup)(h1:gs1.length<=30)(h2:gs2.length<=30)(o1:bx.map (·.1)=lF.take bx.length)(o2:dw.map (·.1)=lF.take dw.length)(l1:bx.length<=3)(l2:dw.length<=3) :
 MI (cg m1) ((cg m2).map mU) gs1 gs2 bx (dw.map yn) pairs:=by
 have s1:(cg m1).Sublist sF:=List.take_sublist _ _;have s2:((cg m2).map mU).Sublist (sF.map mU):=(List.take_sublist _ _).map _;refine⟨F,nd,?_,?_,?_,by omega,?_⟩
 .unfold jI;rw[List.map_append];refine List.Nodup.sublist (List.Sublist.append (s1.map _) ((ur.trans s2).map _)) ?_;rw[List.map_map];exact QZ
 .unfold jO;rw[List.map_append,List.map_map,List.map_map,List.map_map];have e1:((i8 pairs bx).map ((fun x=>x.1) ∘ lD (Iv (cg m1) ((cg m2).map mU) pairs))).Sublist lF:=by
   have:(i8 pairs bx).map ((fun x=>x.1) ∘ lD (Iv (cg m1) ((cg m2).map mU) pairs))=(i8 pairs bx).map (·.1):=rfl
   rw[this];refine(yL.map _).trans ?_;rw[o1];exact List.take_sublist _ _
  have e2:(dw.map ((fun x=>x.1) ∘ lD (FR (cg m1) ((cg m2).map mU) gs1 bx pairs) ∘ yn)).Sublist (lF.map rn):=by
   have:dw.map ((fun x=>x.1) ∘ lD (FR (cg m1) ((cg m2).map mU) gs1 bx pairs) ∘ yn)=(dw.map (·.1)).map rn:=by rw[List.map_map];rfl
   rw[this,o2];exact(List.take_sublist _ _).map _
  exact List.Nodup.sublist (List.Sublist.append e1 e2) Qi
 .rw [xp];have a:=s1.length_le;have b:=(ur (pairs:=pairs) (ins:=(cg m2).map mU)).length_le;have c:=s2.length_le;have d:sF.length=2:=rfl;rw[List.length_map,List.length_map] at c;rw[List.length_map] at b;omega
 .unfold jO;rw[List.length_append,List.length_map,List.length_map,List.length_map];have:=(yL (pairs:=pairs) (os:=bx)).length_le;omega
theorem zB(r:Option (List Nat × List Nat × Nat)):qB (JE r) (.tup [.str "keeps"])= .ok (.bl r.isNone):=by
 have fk:pz 1 (.tup [.str "keeps"]):=pz.tup fun d hd=>by rw[List.mem_singleton.mp hd];exact pz.str (by decide+kernel)
 cases r with
 | none=>
   show(Ki (.tup [.str "keeps"]) (.tup [.str "keeps"])).bind _=_;rw[fk.eqT (by omega)];rfl
 | some q=>
   obtain⟨B,T,p⟩:=q;have ft:∀l:List Nat,pz 1 (e_ l):=fun l=>pz.tup fun d hd=>by obtain⟨n,_,rfl⟩:=List.mem_map.mp hd;exact pz.int _
   have fl:pz 2 (.tup [.str "loses",e_ B,e_ T,nI p]):=pz.tup fun d hd=>by
    simp only[List.mem_cons,List.not_mem_nil,or_false] at hd;rcases hd with rfl | rfl | rfl | rfl
    .exact(pz.str (by decide+kernel)).mono (by omega)
    .exact ft B
    .exact ft T
    .exact(pz.int _).mono (by omega)
   show(Ki (.tup [.str "loses",e_ B,e_ T,nI p]) (.tup [.str "keeps"])).bind _=_;rw[Gs,fl.pl,fk.pl,fl.sh (by omega),fk.sh (by omega)]
   rfl
theorem Jv(a b:Bool):qB (.lst [.bl a, .bl b]) (.lst [.bl true, .bl true])= .ok (.bl (a && b)):=by cases a <;> cases b <;> rfl
theorem HZ(a b:Bool):BN (.lst [.bl a, .bl b]) (.lst [.bl true, .bl true])= .ok (.bl (!(a && b))):=by cases a <;> cases b <;> rfl
theorem NF(a b:Bool):BN (.bl a) (.bl b)= .ok (.bl (a !=b)):=by cases a <;> cases b <;> rfl
theorem Oi(r:Option (List Nat × List Nat × Nat)):BN (JE r) (.tup [.str "keeps"])= .ok (.bl (!r.isNone)):=by
 have h:=zB r;unfold qB at h;obtain⟨b,h1,h2⟩:=R.ai h;unfold BN;rw[h1,R.aO];cases h2;rfl
end K37
end
section
namespace K37
open PySem PySem.Spec PyProof.Rows L2 L3 MT JT
theorem Jz{m:Nat}:∀x∈cg m,x.1.length < 1000:=fun x hx=>by
 have:=List.mem_of_mem_take hx;unfold sF at this;simp only[List.mem_cons,List.not_mem_nil,or_false] at this;rcases this with rfl | rfl <;> decide+kernel
theorem ID{os:WK}(h:os.map (·.1)=lF.take os.length):∀x∈os,x.1.length < 1000:=fun x hx=>by
 have:x.1∈lF.take os.length:=by rw[<-h];exact List.mem_map_of_mem hx
 have:=List.mem_of_mem_take this;unfold lF at this;simp only[List.mem_cons,List.not_mem_nil,or_false] at this;rcases this with e | e | e <;> rw[e] <;> decide+kernel
theorem OJ(ns:List Int):MK (.lst (ns.map .int)) (some 5) none= .ok (.lst ((ns.drop 5).map .int)):=by
 show R.ok (D.lst (L2.cutD (ns.map .int) (some ((5:Nat):Int)) none))=_;unfold L2.cutD;rw[List.length_map,HT.wV,HT.Gm,List.map_drop];congr 2;by_cases h:5<=ns.length
 .rw [Nat.min_eq_left h,List.take_of_length_le (by rw[List.length_drop,List.length_map];omega)]
 .rw [Nat.min_eq_right (by omega),List.take_of_length_le (by rw[List.length_drop,List.length_map];omega),List.drop_eq_nil_of_le (by rw[List.length_map];omega),List.drop_eq_nil_of_le (by rw[List.length_map];omega)]
theorem Oh:Flat [SO.kL]:=fun o ho n=>by rw[List.mem_singleton.mp ho];rfl
theorem qh{ins:WJ}{gs:List Gt}{os:WK}:(gf ins.length gs os).isNone=true↔mS ins.length gs os:=by
 rw[<-xm];cases gf ins.length gs os <;> simp
theorem G4(ns:List Int)(hn:ns.length<=63):Br [.lst (ns.map D.int)]= .ok (.bl true):=by
 have hz:sizeLine=16777216:=sizeLine_eq;have f0:Flat ([]:bu):=Flat.nil;have key:W3 (vv pT uP [.d (.lst (ns.map .int))] []) fun v S1=>v= .d (.bl true)/\S1=[]:=by
  refine mJ f0.Oz (Ei rfl ?_);simp only[dC,pT,List.map,List.length,List.replicate,List.cons_append,List.nil_append,Nat.reduceAdd,Nat.reduceSub];unfold uP;refine aZ <| bQ (by simp) <| eQ <| bb <| dc (d:= .lst (ns.map .int)) rfl <| bb <| dc (d:= .int 2) rfl <| dX <| EX f0 fun m1 gs1 bx a1 a2 T1 a3 a4 a5 a6=>⟨_,rfl,?_⟩
  simp only[List.set];refine aZ <| bQ (by simp) <| Cr <| bb <| eQ <| bb <| dc (d:= .lst ((ns.drop 5).map .int)) (Gq (d:= .lst (ns.map .int)) (lo:=some 5) (hi:=none) rfl (tS rfl) rfl (OJ ns)) <| bb <| dc (d:= .int 2) rfl <| dX <| EX f0 fun m2 gs2 dw c1 c2 Tf b3 b4 b5 b6=>dX ⟨[a_ (cg m2) gs2 dw],_,rfl,z8 (by have:=Tf.N.hi;omega) (by omega) Jz (ID b6),_,rfl,?_⟩
  simp only[List.set];have T2:=GC Tf;have yo:=nA a2;have Bg:((cg m2).map mU).length=m2:=by rw[List.length_map,nA c2]
  obtain⟨hd,hhd⟩:∃hd,ns.getD 10 0=hd:=⟨_,rfl⟩;refine aZ <| bQ (by simp) <| dc (d:= .int hd) ((aw (ds:=[.lst (ns.map .int),nI 10]) rfl (Bs ns 10)).trans (by rw[hhd])) ⟨_,rfl,?_⟩
  simp only[List.set];refine aZ <| bQ (by simp) <| rV (ds:=([]:List (Nat × Nat)).map sL) rfl ⟨_,rfl,?_⟩
  simp only[List.set];refine aZ <| mK <| om (r9 (n:=m2) (aw (ds:=[.lst (((cg m2).map mU).map MT.inD)]) rfl (by rw[tJ,List.length_map,Bg])) (by omega)) ?_
  refine(dQ (fun i δ S2=>∃(pairs:List (Nat × Nat)) (a5:Option V3),δ=[some (.d (.lst (ns.map .int))),some (.d (a_ (cg m1) gs1 bx)),some (.d (a_ ((cg m2).map mU) gs2 (dw.map yn))),some (.d (.int hd)),some (.loc 0),a5,none,none,none,none]/\S2=[SO.lst (pairs.map sL)]/\(pairs.map (·.2)).Nodup/\∀q∈pairs,q.1 < bx.length/\q.2 < i)
   ⟨[],_,rfl,rfl,List.nodup_nil,fun q hq=>by cases hq⟩ ?_).mono fun o S2 ⟨fU,k4,pairs,VQ,yq,yp,nd,hp⟩=>⟨fU,k4,?_⟩
  .rintro i v δ S2 hv ⟨pairs,VQ,rfl,rfl,nd,hp⟩;obtain⟨j',Hq,rfl⟩:=NT.j6 hv;obtain⟨hjl,ej⟩:=List.getElem?_eq_some_iff.mp Hq;rw[List.getElem_range] at ej;subst ej;rw[List.length_range] at hjl;refine⟨[some (.d (.lst (ns.map .int))),some (.d (a_ (cg m1) gs1 bx)),some (.d (a_ ((cg m2).map mU) gs2 (dw.map yn))),some (.d (.int hd)),some (.loc 0),some (.d (nI i)),none,none,none,none],rfl,?_⟩;unfold By;refine oj <| ot (b:=decide (0 < stN hd (200+i) % 4)) (cZ (a:=nI (stN hd (200+i) % 4)) (b:=nI 0) (aj (a:=nI (stN hd (200+i))) (b:=nI 4) (aw (ds:=[.int hd,nI (200+i)]) (ao rfl (ao (aj (a:=nI 200) (b:=nI i) rfl rfl (kq _ _)) rfl)) (qx hd (200+i))) rfl (ll (by omega))) rfl (LJ _ _)) ?_
   have my:pairs.length<=i:=by
    have:=u7 (n:=i) nd fun x hx=>by obtain⟨q,hq,rfl⟩:=List.mem_map.mp hx;exact(hp q hq).2
    rwa [List.length_map] at this
   by_cases hc:0 < stN hd (200+i) % 4
   .rw [decide_eq_true hc,if_pos rfl];have hm:stN hd (210+i) % bx.length < bx.length:=Nat.mod_lt _ (by omega)
    refine uZ (k:=0) rfl ⟨_,rfl⟩ (dc (d:=sL (stN hd (210+i) % bx.length,i)) (cv (ao (aj (a:=nI (stN hd (210+i))) (b:=nI bx.length) (aw (ds:=[.int hd,nI (210+i)]) (ao rfl (ao (aj (a:=nI 210) (b:=nI i) rfl rfl (kq _ _)) rfl)) (qx hd (210+i))) (aw (ds:=[.lst (bx.map jA)]) rfl (by rw[tJ,List.length_map])) (ll (by omega))) rfl) (by simp;omega)) ⟨_,_,rfl,rfl,by rw[List.length_map];omega,_,rfl,pairs++[(stN hd (210+i) % bx.length,i)],_,rfl,?_,?_,fun q hq=>?_⟩)
    .show [SO.lst (pairs.map sL++_)]=_;rw[List.map_append];rfl
    .rw [List.map_append];refine List.nodup_append.mpr ⟨nd,by simp,fun x hx y hy=>?_⟩
     obtain⟨q,hq,rfl⟩:=List.mem_map.mp hx;have:=(hp q hq).2;simp only[List.map_cons,List.map_nil,List.mem_singleton] at hy;omega
    .rcases List.mem_append.mp hq with z | z
     .have:=hp q z;omega
     .rw [List.mem_singleton.mp z];exact⟨hm,by simp⟩
   .rw [decide_eq_false hc,if_neg (by decide)]
    exact gG ⟨_,rfl,pairs,_,rfl,rfl,nd,fun q hq=>by have:=hp q hq;omega⟩
  subst yq yp;rw[List.length_map,List.length_map,List.length_range] at hp;have F:Fits bx ((cg m2).map mU) pairs:=fun q hq=>by
   obtain⟨h1,h2⟩:=hp q hq;refine⟨bx[q.1],((cg m2).map mU)[q.2]'(by rw[Bg];exact h2),List.getElem?_eq_getElem h1,List.getElem?_eq_getElem _,?_⟩
   rw[T1.o3 _ (List.getElem_mem h1),T2.i3 _ (List.getElem_mem _)]
  have F0:Fits bx ((cg m2).map mU) []:=fun q hq=>by cases hq
  have J:MI (cg m1) ((cg m2).map mU) gs1 gs2 bx (dw.map yn) pairs:=So F nd a3 b3 a6 b6 a5 b5;have J0:MI (cg m1) ((cg m2).map mU) gs1 gs2 bx (dw.map yn) []:=So F0 List.nodup_nil a3 b3 a6 b6 a5 b5;refine CI (i:=4) rfl rfl ?_;simp only[List.set];show W3 (bH _ _ _ [SO.kL]) _;have fr:=Oh;obtain⟨k1,RH⟩:∃k,gf (cg m1).length gs1 bx=k:=⟨_,rfl⟩;obtain⟨k2,RK⟩:∃k,gf ((cg m2).map mU).length gs2 (dw.map yn)=k:=⟨_,rfl⟩;refine aZ <| bQ (by simp) <| Nx <| bb <| Nw <| eQ <| bb <| dc (d:=a_ (cg m1) gs1 bx) rfl <| dX <| nu T1.N rfl (by omega) T1.i3 T1.o3 fr <| dc (d:= .tup [.str "keeps"]) rfl ⟨_,_, .bl k1.isNone,rfl,rfl,by rw[RH];exact zB k1,?_⟩
  refine bb <| Nw <| eQ <| bb <| dc (d:=a_ ((cg m2).map mU) gs2 (dw.map yn)) rfl <| dX <| nu T2.N rfl (by omega) T2.i3 T2.o3 fr <| dc (d:= .tup [.str "keeps"]) rfl ⟨_,_, .bl k2.isNone,rfl,rfl,by rw[RK];exact zB k2,?_⟩
  refine dX ⟨by simp;omega,_,rfl,?_⟩
  simp only[List.set];have TB:=qp T1 T2 J0;obtain⟨kb,hkb⟩:∃k,gf (jI (cg m1) ((cg m2).map mU) []).length (jG (cg m1) ((cg m2).map mU) gs1 gs2 bx []) (jO (cg m1) ((cg m2).map mU) gs1 bx (dw.map yn) [])=k:=⟨_,rfl⟩;have c4:∀pairs,(jI (cg m1) ((cg m2).map mU) pairs).length<=4:=fun pairs=>by
   rw[xp];have:=(ur (pairs:=pairs) (ins:=(cg m2).map mU)).length_le;omega
  refine aZ <| bQ (by simp) <| eQ <| bb <| eQ <| bb <| dc (d:=a_ (cg m1) gs1 bx) rfl <| bb <| dc (d:=a_ ((cg m2).map mU) gs2 (dw.map yn)) rfl <| bb <| dc (d:= .lst (([]:List (Nat × Nat)).map sL)) rfl <| dX <| wF T1.N T2.N J0 fr.Oz <| dX <| nu TB.N rfl (c4 _) TB.i3 TB.o3 fr ⟨_,rfl,?_⟩
  simp only[List.set];rw[hkb];have eb:kb.isNone=(k1.isNone && k2.isNone):=by
   rw[Bool.eq_iff_iff,Bool.and_eq_true,<-hkb,<-RH,<-RK,qh,qh,qh];exact⟨fun K=>LQ T1 T2 K,fun K=>r6 T1 T2 F0 K.1 K.2⟩
  refine aZ <| oj <| ot (b:=false) (cZ (a:= .bl kb.isNone) (b:= .bl (k1.isNone && k2.isNone)) (aj (a:=JE kb) (b:= .tup [.str "keeps"]) rfl rfl (zB kb)) (aj (a:= .lst [.bl k1.isNone, .bl k2.isNone]) (b:= .lst [.bl true, .bl true]) rfl rfl (Jv _ _)) (by rw[NF,eb];cases(k1.isNone && k2.isNone) <;> rfl)) ?_
  rw[if_neg (by decide)]
  refine gG ⟨_,rfl,?_⟩;have bne:∀δ:au,af 6 δ= .ok (.lst [.bl k1.isNone, .bl k2.isNone])->b2 BN (af 6) (eNew (kC (ah (eC (.bl true)) (ah (eC (.bl true)) aI)))) δ= .ok (!(k1.isNone && k2.isNone)):=fun δ h6=>cZ (a:= .lst [.bl k1.isNone, .bl k2.isNone]) (b:= .lst [.bl true, .bl true]) h6 rfl (HZ _ _)
  cases hb:k1.isNone && k2.isNone with
  | false=>
    refine Gr <| oj <| ot (b:=true) ((bne _ rfl).trans (by rw[hb];rfl)) ?_
    rw[if_pos rfl];exact jJ <| dc (d:= .bl true) rfl ⟨_,rfl,_,rfl,rfl,⟨_,rfl⟩,_,rfl,rfl,trivial⟩
  | true=>
    refine aZ <| oj <| ot (b:=false) ((bne _ rfl).trans (by rw[hb];rfl)) ?_
    rw[if_neg (by decide)]
    refine gG ⟨_,rfl,?_⟩;obtain⟨Vz,Vl⟩:=Bool.and_eq_true_iff.mp hb;have K1:mS (cg m1).length gs1 bx:=qh.mp (by rw[RH];exact Vz)
    have K2:mS ((cg m2).map mU).length gs2 (dw.map yn):=qh.mp (by rw[RK];exact Vl)
    have KJ:=r6 T1 T2 F K1 K2;have TJ:=qp T1 T2 J;refine aZ <| bQ (by simp) <| eQ <| bb <| dc (d:=a_ (cg m1) gs1 bx) rfl <| bb <| dc (d:=a_ ((cg m2).map mU) gs2 (dw.map yn)) rfl <| bb <| dc (d:= .lst (pairs.map sL)) rfl <| dX <| wF T1.N T2.N J fr.Oz ⟨_,rfl,?_⟩
    simp only[List.set];have c4:=c4 pairs;generalize jI (cg m1) ((cg m2).map mU) pairs=iJ at KJ TJ c4;generalize jG (cg m1) ((cg m2).map mU) gs1 gs2 bx pairs=gJ' at KJ TJ;generalize jO (cg m1) ((cg m2).map mU) gs1 bx (dw.map yn) pairs=oJ at KJ TJ;have kn:gf iJ.length gJ' oJ=none:=xm.mpr KJ;have ks:gf iJ.length (gJ'.map r_) oJ=none:=xm.mpr (Dj KJ);have TS:=As TJ;refine aZ <| oj <| Qj <| eQ <| bb <| dc (d:=a_ iJ gJ' oJ) rfl <| dX <| nu TJ.N rfl c4 TJ.i3 TJ.o3 fr <| dc (d:= .tup [.str "keeps"]) rfl ⟨_,_,false,rfl,rfl,by rw[kn];exact Oi none,?_⟩
    rw[if_neg (by decide)]
    refine gG ⟨_,rfl,?_⟩;refine aZ <| bQ (by simp) <| dc (d:=a_ iJ (gJ'.map r_) oJ) (cv (ao (aj (a:=a_ iJ gJ' oJ) (b:= .int 0) rfl rfl rfl) (ao (cK (bR (ds:=gJ'.map fB) (jf (aj (a:=a_ iJ gJ' oJ) (b:= .int 1) rfl rfl rfl)) (by rw[List.length_map];have:=TJ.N.hg;omega) ?_)) (ao (aj (a:=a_ iJ gJ' oJ) (b:= .int 2) rfl rfl rfl) rfl))) (by simp;omega)) ⟨_,rfl,?_⟩
    .rw [show(gJ'.map r_).map fB=gJ'.map fun g=>fB (r_ g) from List.map_map]
     exact NT.bj fB _ fun g hg=>⟨[.val (.str (kS g.1)), .val (.tup (g.2.1.map nI)), .val (.bl g.2.2)],rfl,rfl,cv rfl (by simp;omega)⟩
    simp only[List.set];exact jJ <| Nw <| eQ <| bb <| dc (d:=a_ iJ (gJ'.map r_) oJ) rfl <| dX <| nu TS.N rfl c4 TS.i3 TS.o3 fr <| dc (d:= .tup [.str "keeps"]) rfl ⟨_,_, .bl true,rfl,rfl,by rw[ks];exact zB none,_,rfl,rfl,⟨_,rfl⟩,_,rfl,rfl,trivial⟩
 obtain⟨v,S1,e1,k4,e3⟩:=key;unfold Br Pm;show(match vv pT uP ([D.lst (ns.map D.int)].map V3.d) [] with | .ok (.d d) []=>R.bz d.atom (R.ok d) | _=> .no)=_
 rw[show [D.lst (ns.map D.int)].map V3.d=[V3.d (.lst (ns.map .int))] from rfl,e1,k4,e3]
 rfl
end K37
end
open PySem PySem.W PyProof.Rows
set_option maxRecDepth 100000 in
set_option maxHeartbeats 0 in
theorem PySem.Challenge.cw_bearfaults_k37_whole_keeping_nets_joined_holds : PySem.Challenge.rw_bearfaults_k37_whole_keeping_nets_joined.Holds := by
 w_on;o_law;k_head;(case hw=>w_witness2)
 k_fill
 refine L2.Nq (l:=PySem.Challenge.rw_bearfaults_k37_whole_keeping_nets_joined) (n:=63) (k:=11) (x:="script") (g:=K37.Br) rfl (by decide) rfl ⟨rfl,by decide,by decide⟩ (fun w h Y=>PySem.W.kIn_of Y) ?F K37.G4
 case F=>
  intro w mg fa h KX G OS
  have mq:L2.Def (L2.d5 KX) mg "has_widths" K37.gr:=by
   dsimp only[L2.d5]
   refine' L2.b_ KX G ?a ?l ?c ?k
   (case a=>k_is);(case l=>k_is);(case c=>k_is);(case k=>k_is)
  have rN:L2.Def (L2.d5 KX) mg "vote_of" K37.lC:=by
   dsimp only[L2.d5]
   refine' L2.b_ KX G ?a ?l ?c ?k
   (case a=>k_is);(case l=>k_is);(case c=>k_is);(case k=>k_is)
  have nV:L2.Def (L2.d5 KX) mg "gate_mask" K37.i9:=by
   dsimp only[L2.d5]
   refine' L2.b_ KX G ?a ?l ?c ?k
   (case a=>k_is);(case l=>k_is);(case c=>k_is);(case k=>k_is)
  have jl:L2.Def (L2.d5 KX) mg "in_wire_masks" K37.ee:=by
   dsimp only[L2.d5]
   refine' L2.b_ KX G ?a ?l ?c ?k
   (case a=>k_is);(case l=>k_is);(case c=>k_is);(case k=>k_is)
  have pI:L2.Def (L2.d5 KX) mg "masks_at" K37.j2:=by
   dsimp only[L2.d5]
   refine' L2.b_ KX G ?a ?l ?c ?k
   (case a=>k_is);(case l=>k_is);(case c=>k_is);(case k=>k_is)
  have mr:L2.Def (L2.d5 KX) mg "wire_masks" K37.gU:=by
   dsimp only[L2.d5]
   refine' L2.b_ KX G ?a ?l ?c ?k
   (case a=>k_is);(case l=>k_is);(case c=>k_is);(case k=>k_is)
  have n4:L2.Def (L2.d5 KX) mg "out_masks" K37.i4:=by
   dsimp only[L2.d5]
   refine' L2.b_ KX G ?a ?l ?c ?k
   (case a=>k_is);(case l=>k_is);(case c=>k_is);(case k=>k_is)
  have vj:L2.Def (L2.d5 KX) mg "bit_at" K37.nO:=by
   dsimp only[L2.d5]
   refine' L2.b_ KX G ?a ?l ?c ?k
   (case a=>k_is);(case l=>k_is);(case c=>k_is);(case k=>k_is)
  have mj:L2.Def (L2.d5 KX) mg "all_inputs" K37.gR:=by
   dsimp only[L2.d5]
   refine' L2.b_ KX G ?a ?l ?c ?k
   (case a=>k_is);(case l=>k_is);(case c=>k_is);(case k=>k_is)
  have rE:L2.Def (L2.d5 KX) mg "mask_of" K37.k5:=by
   dsimp only[L2.d5]
   refine' L2.b_ KX G ?a ?l ?c ?k
   (case a=>k_is);(case l=>k_is);(case c=>k_is);(case k=>k_is)
  have rF:L2.Def (L2.d5 KX) mg "in_mask" K37.lq:=by
   dsimp only[L2.d5]
   refine' L2.b_ KX G ?a ?l ?c ?k
   (case a=>k_is);(case l=>k_is);(case c=>k_is);(case k=>k_is)
  have nY:L2.Def (L2.d5 KX) mg "unlike_at" K37.iZ:=by
   dsimp only[L2.d5]
   refine' L2.b_ KX G ?a ?l ?c ?k
   (case a=>k_is);(case l=>k_is);(case c=>k_is);(case k=>k_is)
  have rC:L2.Def (L2.d5 KX) mg "lost_at" K37.lM:=by
   dsimp only[L2.d5]
   refine' L2.b_ KX G ?a ?l ?c ?k
   (case a=>k_is);(case l=>k_is);(case c=>k_is);(case k=>k_is)
  have pF:L2.Def (L2.d5 KX) mg "bad_sets" K37.j0:=by
   dsimp only[L2.d5]
   refine' L2.b_ KX G ?a ?l ?c ?k
   (case a=>k_is);(case l=>k_is);(case c=>k_is);(case k=>k_is)
  have iA:L2.Def (L2.d5 KX) mg "keeping_faults" K37.dM:=by
   dsimp only[L2.d5]
   refine' L2.b_ KX G ?a ?l ?c ?k
   (case a=>k_is);(case l=>k_is);(case c=>k_is);(case k=>k_is)
  have yk:L2.Def (L2.d5 KX) mg "keeps" K37.pR:=by
   dsimp only[L2.d5]
   refine' L2.b_ KX G ?a ?l ?c ?k
   (case a=>k_is);(case l=>k_is);(case c=>k_is);(case k=>k_is)
  have mC:L2.Def (L2.d5 KX) mg "check_fits" K37.gz:=by
   dsimp only[L2.d5]
   refine' L2.b_ KX G ?a ?l ?c ?k
   (case a=>k_is);(case l=>k_is);(case c=>k_is);(case k=>k_is)
  have kR:L2.Def (L2.d5 KX) mg "outs_of_ins" K37.fM:=by
   dsimp only[L2.d5]
   refine' L2.b_ KX G ?a ?l ?c ?k
   (case a=>k_is);(case l=>k_is);(case c=>k_is);(case k=>k_is)
  have kY:L2.Def (L2.d5 KX) mg "check_names" K37.fO:=by
   dsimp only[L2.d5]
   refine' L2.b_ KX G ?a ?l ?c ?k
   (case a=>k_is);(case l=>k_is);(case c=>k_is);(case k=>k_is)
  have ml:L2.Def (L2.d5 KX) mg "check_room" K37.gW:=by
   dsimp only[L2.d5]
   refine' L2.b_ KX G ?a ?l ?c ?k
   (case a=>k_is);(case l=>k_is);(case c=>k_is);(case k=>k_is)
  have mn:L2.Def (L2.d5 KX) mg "many_wires" K37.gK:=by
   dsimp only[L2.d5]
   refine' L2.b_ KX G ?a ?l ?c ?k
   (case a=>k_is);(case l=>k_is);(case c=>k_is);(case k=>k_is)
  have rG:L2.Def (L2.d5 KX) mg "rewired" K37.lz:=by
   dsimp only[L2.d5]
   refine' L2.b_ KX G ?a ?l ?c ?k
   (case a=>k_is);(case l=>k_is);(case c=>k_is);(case k=>k_is)
  have jn:L2.Def (L2.d5 KX) mg "rewired_gates" K37.d6:=by
   dsimp only[L2.d5]
   refine' L2.b_ KX G ?a ?l ?c ?k
   (case a=>k_is);(case l=>k_is);(case c=>k_is);(case k=>k_is)
  have ka:L2.Def (L2.d5 KX) mg "rewired_outs" K37.eE:=by
   dsimp only[L2.d5]
   refine' L2.b_ KX G ?a ?l ?c ?k
   (case a=>k_is);(case l=>k_is);(case c=>k_is);(case k=>k_is)
  have kT:L2.Def (L2.d5 KX) mg "one_numbers" K37.fD:=by
   dsimp only[L2.d5]
   refine' L2.b_ KX G ?a ?l ?c ?k
   (case a=>k_is);(case l=>k_is);(case c=>k_is);(case k=>k_is)
  have jm:L2.Def (L2.d5 KX) mg "other_numbers" K37.d9:=by
   dsimp only[L2.d5]
   refine' L2.b_ KX G ?a ?l ?c ?k
   (case a=>k_is);(case l=>k_is);(case c=>k_is);(case k=>k_is)
  have vh:L2.Def (L2.d5 KX) mg "joined" K37.m6:=by
   dsimp only[L2.d5]
   refine' L2.b_ KX G ?a ?l ?c ?k
   (case a=>k_is);(case l=>k_is);(case c=>k_is);(case k=>k_is)
  have kU:L2.Def (L2.d5 KX) mg "_law_cell_at" K37.fR:=by
   dsimp only[L2.d5]
   refine' L2.b_ KX G ?a ?l ?c ?k
   (case a=>k_is);(case l=>k_is);(case c=>k_is);(case k=>k_is)
  have pH:L2.Def (L2.d5 KX) mg "_law_stir" K37.jV:=by
   dsimp only[L2.d5]
   refine' L2.b_ KX G ?a ?l ?c ?k
   (case a=>k_is);(case l=>k_is);(case c=>k_is);(case k=>k_is)
  have n5:L2.Def (L2.d5 KX) mg "_law_votes" K37.i_:=by
   dsimp only[L2.d5]
   refine' L2.b_ KX G ?a ?l ?c ?k
   (case a=>k_is);(case l=>k_is);(case c=>k_is);(case k=>k_is)
  have mi:L2.Def (L2.d5 KX) mg "_law_copies" K37.gT:=by
   dsimp only[L2.d5]
   refine' L2.b_ KX G ?a ?l ?c ?k
   (case a=>k_is);(case l=>k_is);(case c=>k_is);(case k=>k_is)
  have rH:L2.Def (L2.d5 KX) mg "_law_net" K37.lp:=by
   dsimp only[L2.d5]
   refine' L2.b_ KX G ?a ?l ?c ?k
   (case a=>k_is);(case l=>k_is);(case c=>k_is);(case k=>k_is)
  have kQ:L2.Def (L2.d5 KX) mg "_law_renamed" K37.fJ:=by
   dsimp only[L2.d5]
   refine' L2.b_ KX G ?a ?l ?c ?k
   (case a=>k_is);(case l=>k_is);(case c=>k_is);(case k=>k_is)
  have D_law:L2.Def (L2.d5 KX) mg "law" K37.CG:=by
   dsimp only[L2.d5]
   refine' L2.b_ KX G ?a ?l ?c ?k
   (case a=>k_is);(case l=>k_is);(case c=>k_is);(case k=>k_is)
  have Be:L2.Glob (L2.d5 KX) mg "MOST_INS" K37.ig:=by
   dsimp only[L2.d5]
   refine' L2.tY KX G ?a
   (case a=>k_is)
  have yj:L2.Glob (L2.d5 KX) mg "MOST_GATES" K37.e8:=by
   dsimp only[L2.d5]
   refine' L2.tY KX G ?a
   (case a=>k_is)
  have zS:L2.Glob (L2.d5 KX) mg "MOST_OUTS" K37.gn:=by
   dsimp only[L2.d5]
   refine' L2.tY KX G ?a
   (case a=>k_is)
  obtain⟨cl,CF⟩:∃cl,K37.Cf (L2.d5 KX) mg cl:=by
   dsimp only[L2.d5]
   refine' K37.N0 KX G ?Rh ?RQ ?O6 ?Ry ?Ra ?Rc ?Rl ?Bj ?j_ ?ye ?n3 ?iy ?iu ?iC ?dO ?iB ?kO ?kM ?kW ?fE ?iX ?g9 ?gY ?g_ ?dv ?eA
   (case Rh=>k_is)
   (case RQ=>k_is)
   (case O6=>k_is)
   (case Ry=>k_is)
   (case Ra=>k_is)
   (case Rc=>k_is)
   (case Rl=>k_is)
   (case Bj=>k_is)
   (case j_=>k_is)
   (case ye=>k_is)
   (case n3=>k_is)
   (case iy=>k_is)
   (case iu=>k_is)
   (case iC=>k_is)
   (case dO=>k_is)
   (case iB=>k_is)
   (case kO=>k_is)
   (case kM=>k_is)
   (case kW=>k_is)
   (case fE=>k_is)
   (case iX=>k_is)
   (case g9=>k_is)
   (case gY=>k_is)
   (case g_=>k_is)
   (case dv=>k_is)
   (case eA=>k_is)
  have dU:=CF.dU
  have fS:=CF.fS
  have dz:=CF.dz
  have T:K37.Tp (L2.d5 KX) mg cl:=by
   dsimp only[L2.d5]
   refine' ⟨PySem.W.mg_none_of KX G ?z_all,PySem.W.mg_none_of KX G ?z_len,PySem.W.mg_none_of KX G ?z_enumerate,PySem.W.mg_none_of KX G ?z_range,PySem.W.mg_none_of KX G ?z_tuple,PySem.W.mg_none_of KX G ?z_reversed,PySem.W.mg_none_of KX G ?z_zip,PySem.W.mg_none_of KX G ?z_sum,PySem.W.mg_none_of KX G ?z_list,PySem.W.mg_none_of KX G ?z_min,Be,yj,zS,CF.C_Bench,CF.N_Bench_net,CF.N_Bench_many_inputs,CF.N_Bench_full,CF.N_Bench_in_masks,CF.M_Bench⟩
   (case z_all=>k_is);(case z_len=>k_is);(case z_enumerate=>k_is);(case z_range=>k_is);(case z_tuple=>k_is);(case z_reversed=>k_is);(case z_zip=>k_is);(case z_sum=>k_is);(case z_list=>k_is);(case z_min=>k_is)
  obtain⟨fl,fd,Fl,hl⟩:=D_law
  have e0:=OS.symm.trans hl
  cases e0
  refine' ⟨fd,?b,fun base kb nb=>K37.Ly T mq rN nV jl pI mr n4 vj mj rE rF nY rC pF iA dU fS dz yk mC kR kY ml mn rG jn ka kT jm vh kU pH n5 mi rH kQ Fl⟩
  obtain⟨_,_,_,_,_,_,_,_,_,e,_,_⟩:=Fl.ex
  subst e
  exact fun s u=> .of_eq rfl
