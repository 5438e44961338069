import PyProof.Rows.All
import Wide.All
import OpenK.AllK
import Wide.FinOn
import Lean
import PyProof.EqAt
import PyProof.EqKinds
import PyProof.TupleCall
import PyProof.Rows.StrJoin2
import PyProof.TupleOfGen
import PyProof.ListRange
import PyProof.Draws
import PyProof.Rows.StrClose3
import KE.KSortedM
import PyProof.Rows.SortWalk
import PyProof.WalkInts
import PyProof.Rows.Range3
import PyProof.ZipIter
import PyProof.ConsumeWalk
import PyProof.Rows.SeqMore
import KE.KRevIter
import KE.KRevSl
import KE.KUnpack
import KE.KDictSum
import KE.KTupSum
import PySem.Challenge.RW_bearfaults_k31_whole_made_nets_bear
noncomputable section
set_option bootstrap.genMatcherCode false
section
open PySem
abbrev XX:=List (Addr×Obj)
abbrev XY:=Value->Shared->Prop
abbrev XZ:=List (Str×Nat)
abbrev X0:=List (Str×List Nat)
abbrev X1:=List (List Nat)
abbrev X2:=Str->Option Value
abbrev X3:=Nat->Addr
end
def PySem.W.Fast.tw3426072657147723504:=0
def PySem.W.Fast.tw8562928352172111940:=0
def PySem.W.Fast.tw3073871593090050453:=0
def PySem.W.Fast.tw3664641425374330253:=0
def PySem.W.Fast.tw13970429233686559127:=0
def PySem.W.Fast.tw849373230763615259:=0
def PySem.W.Fast.tw12312919923355589340:=0
def PySem.W.Fast.tw1328827246756957135:=0
def PySem.W.Fast.tw1045668487846757953:=0
def PySem.W.Fast.tw7816371598748353294:=0
def PySem.W.Fast.tw16229748487482244400:=0
def PySem.W.Fast.tw14045514797278637675:=0
def PySem.W.Fast.tw17776993780055847955:=0
def PySem.W.Fast.tw11657362122834700430:=0
def PySem.W.Fast.tw14780806237244317187:=0
def PySem.W.Fast.tw6492319946244347163:=0
def PySem.W.Fast.tw8697933060388767276:=0
def PySem.W.Fast.tw13912315417515797930:=0
def PySem.W.Fast.tw17501184617183693184:=0
def PySem.W.Fast.tw1425879981110216959:=0
def PySem.W.Fast.tw3012802909454549305:=0
def PySem.W.Fast.tw14069226122922282820:=0
def PySem.W.Fast.tw7004149518170593187:=0
def PySem.W.Fast.tw2121258752178476933:=0
def PySem.W.Fast.tw9335417263779592887:=0
def PySem.W.Fast.tw16123848030525531853:=0
def PySem.W.Fast.tw14438082460670242492:=0
def PySem.W.Fast.tw11156340278502316453:=0
def PySem.W.Fast.tw11072716063515503717:=0
def PySem.W.Fast.tw12977093732264675821:=0
def PySem.W.Fast.tw17515001271712519092:=0
def PySem.W.Fast.tw8689381812550387813:=0
def PySem.W.Fast.tw3804425072943533461:=0
def PySem.W.Fast.tw15914931644911993639:=0
def PySem.W.Fast.tw7019467320671915226:=0
def PySem.W.Fast.tw13294235975967564514:=0
def PySem.W.Fast.tw5454595254645551001:=0
def PySem.W.Fast.tw15091156157809773621:=0
def PySem.W.Fast.tw13504243276490598233:=0
def PySem.W.Fast.tw6432012405103524669:=0
set_option Elab.async false
set_option linter.all false
set_option maxRecDepth 100000
set_option maxHeartbeats 4000000
section
namespace L2
open PySem PySem.Spec PyProof.Rows
abbrev Key:=Sum Int Str
def wK:Key->Value->Bool
 | .inl k,v=>Value.isInt k v
 | .inr x,v=>Value.isStrOf x v
def QX(w:World):Key->Int
 | .inl k=>hashInt k
 | .inr x=>hashStr w x
theorem dJ:∀{k:Key} {v:Value},wK k v=true->(∃i t,k=Sum.inl i/\v=Value.int i t)\/(∃x t,k=Sum.inr x/\v=Value.str x t)
 | .inl i,v,h=>by
   obtain⟨t,e⟩:=Value.isInt_shape (k:=i) (v:=v) h;exact .inl ⟨i,t,rfl,e⟩
 | .inr x,v,h=>by
   obtain⟨t,e⟩:=Value.isStrOf_shape (x:=x) (v:=v) h;exact .inr ⟨x,t,rfl,e⟩
theorem DW(i:Int)(t:Tok):wK (.inl i) (.int i t)=true:=by simp [wK,Value.isInt]
theorem EG(x:Str)(t:Tok):wK (.inr x) (.str x t)=true:=by simp [wK,Value.isStrOf]
theorem MK(a b:Int):decide ((Sum.inl a:Key)=Sum.inl b)=(a==b):=by
 by_cases e:a=b
 .subst e;simp
 .have h:¬(Sum.inl a:Key)=Sum.inl b:=fun q=>e (Sum.inl.inj q)
  rw[decide_eq_false h];exact(beq_eq_false_iff_ne.mpr e).symm
theorem LM(a b:Str):decide ((Sum.inr a:Key)=Sum.inr b)=decide (a=b):=by
 by_cases e:a=b
 .subst e;simp
 .have h:¬(Sum.inr a:Key)=Sum.inr b:=fun q=>e (Sum.inr.inj q)
  rw[decide_eq_false h,decide_eq_false e]
theorem Mm(a:Int)(b:Str):decide ((Sum.inl a:Key)=Sum.inr b)=false:=decide_eq_false (fun q=>nomatch q)
theorem LF(a:Str)(b:Int):decide ((Sum.inr a:Key)=Sum.inl b)=false:=decide_eq_false (fun q=>nomatch q)
def dE(prog:Program)(w:World):PySem.KeyKind prog w Key where
 is:=wK
 hash:=QX w
 inj:=fun v a b ha hb=>by
  rcases dJ ha with⟨i,t,rfl,rfl⟩ | ⟨x,t,rfl,rfl⟩
  .rcases dJ hb with⟨j,u,rfl,e⟩ | ⟨y,u,rfl,e⟩
   .injection e with e1 _;rw [e1]
   .exact nomatch e
  .rcases dJ hb with⟨j,u,rfl,e⟩ | ⟨y,u,rfl,e⟩
   .exact nomatch e
   .injection e with e1 _;rw [e1]
 byValue:=fun k v h=>by
  rcases dJ h with⟨i,t,rfl,rfl⟩ | ⟨x,t,rfl,rfl⟩ <;> rfl
 pyHash:=fun hv h=>by
  rcases dJ hv with⟨i,t,rfl,rfl⟩ | ⟨x,t,rfl,rfl⟩
  .exact wpAny_pyHash_int h
  .exact wpAny_pyHash_str h
 eqBool:=fun hu hv h=>by
  rcases dJ hu with⟨i,t,rfl,rfl⟩ | ⟨x,t,rfl,rfl⟩
  .rcases dJ hv with⟨j,u,rfl,rfl⟩ | ⟨y,u,rfl,rfl⟩
   .rw [MK] at h;exact wpAny_eqBool_int h
   .rw [Mm] at h;exact SeqAt.EqAt.int_str i t y u _ _ _ _ h
  .rcases dJ hv with⟨j,u,rfl,rfl⟩ | ⟨y,u,rfl,rfl⟩
   .rw [LF] at h;exact SeqAt.EqAt.str_int x t j u _ _ _ _ h
   .rw [LM] at h;exact wpAny_eqBool_str h
 «strs»:=fun k x t v h=>by
  rcases dJ h with⟨i,u,rfl,e⟩ | ⟨y,u,rfl,e⟩
  .exact nomatch e
  .injection e with e1 _
   subst e1;cases v <;> rfl
theorem zU(prog:Program)(w:World)(i:Int)(t:Tok):(dE prog w).is (.inl i) (.int i t)=true:=DW i t
theorem zw(prog:Program)(w:World)(x:Str)(t:Tok):(dE prog w).is (.inr x) (.str x t)=true:=EG x t
inductive V where
 | de | bl (b:Bool) | int (i:Int) | str (x:Str) | byt (b:Array UInt8) | flt (b:UInt64) | ref (a:Addr) | ty (n:String)
 deriving DecidableEq
def RelV:V->Value->Prop
 | .de,u=>u=Value.none
 | .bl b,u=>u=Value.bool b
 | .int i,u=>∃t,u=Value.int i t
 | .str x,u=>∃t,u=Value.str x t
 | .byt b,u=>∃t,u=Value.bytes b t
 | .flt b,u=>∃t,u=Value.float b t
 | .ref a,u=>u=Value.ref a
 | .ty n,u=>u=Value.type n
abbrev Vals:List V->List Value->Prop:=Paired RelV
theorem Vals.length{xs:List V}{us:List Value}(r:Vals xs us):xs.length=us.length:=Paired.length r
theorem Vals.get:∀{xs:List V} {us:List Value} {i:Nat} {x:V},Vals xs us->xs[i]? =some x->∃u,us[i]? =some u/\RelV x u
 | _,_,_,_, .nil,e=>by simp at e
 | _,_,0,_, .cons r _,e=>by simp at e;subst e;exact⟨_,rfl,r⟩
 | _,_,i+1,x, .cons _ t,e=>by
   obtain⟨u,h1,h2⟩:=Vals.get (i:=i) (x:=x) t (by simpa using e)
   exact⟨u,by simpa using h1,h2⟩
theorem Vals.set{x:V}{u:Value}(r:RelV x u):∀{xs:List V} {us:List Value} (i:Nat),Vals xs us->Vals (xs.set i x) (us.set i u)
 | _,_,_, .nil=> .nil
 | _,_,0, .cons _ t=> .cons r t
 | _,_,i+1, .cons q t=> .cons q (Vals.set r i t)
theorem Vals.append:∀{xs ys:List V} {us ws:List Value},Vals xs us->Vals ys ws->Vals (xs++ys) (us++ws)
 | _,_,_,_, .nil,s=>s
 | _,_,_,_, .cons r t,s=> .cons r (Vals.append t s)
theorem Vals.take:∀{xs:List V} {us:List Value} (n:Nat),Vals xs us->Vals (xs.take n) (us.take n)
 | _,_,0,_=> .nil
 | _,_,_+1, .nil=> .nil
 | _,_,n+1, .cons r t=> .cons r (Vals.take n t)
theorem Vals.drop:∀{xs:List V} {us:List Value} (n:Nat),Vals xs us->Vals (xs.drop n) (us.drop n)
 | _,_,0,r=>r
 | _,_,_+1, .nil=> .nil
 | _,_,n+1, .cons _ t=>Vals.drop n t
def qI:Option V->Option Value->Prop
 | some v,some u=>RelV v u
 | none,none=>True
 | _,_=>False
def KV{κ:Type}:List (κ × V)->List (κ × Value)->Prop:=Paired fun(p:κ × V) (q:κ × Value)=>p.1=q.1/\RelV p.2 q.2
def kV:Key->V
 | .inl i=> .int i
 | .inr x=> .str x
inductive HO where
 | lst (xs:List V)
 | tup (xs:List V)
 | dK (ba:List (Key × V)) | dT (ba:List (List Key × V))
 | set (S:Int->Bool) (n:Nat)
 | ins (C dx:Addr) (fs:List (Str × V))
 | own (x:Addr)
 | xd (fs:List (Str × V))
 | met (f x:Addr)
 | rng (lo hi:Int)
 | mf (o:Obj) (u:HO)
 | tbl (ps:Array Value)
 | ext (φ:Heap->Prop)
abbrev Hp:=Addr->Option HO
def upd(H:Hp)(a:Addr)(o:HO):Hp:=fun b=>if b=a then some o else H b
theorem bq{a:Addr}{o:HO}:upd H a o a=some o:=by unfold upd;rw [if_pos rfl]
theorem bg{H:Hp}{a b:Addr}{o:HO}(h:b≠a):upd H a o b=H b:=by unfold upd;rw [if_neg h]
theorem Ji{a:Addr}{o u:HO}:upd (upd H a o) a u=upd H a u:=by
 funext b;unfold upd;split <;> rfl
theorem cV{H:Hp}{a b:Addr}{o:HO}(h:H a=some o)(h':H b=none):a≠b:=by
 intro e;subst e;rw [h] at h';cases h'
section
variable (P:Program) (w:World)
def fL(H:Hp)(h:Heap)(a:Addr):HO->Prop
 | .lst xs=>xs.length<=sizeLine/\∃(its:List Value) (n:Nat),Vals xs its/\h.get? a=some {cls:= .type "list",data:= .seq its.toArray n}
 | .tup xs=>xs.length<=sizeLine/\∃its:List Value,Vals xs its/\IsTup h a its.toArray
 | .dK ba=>ba.length<=sizeLine/\(a==sysModules)=false/\∃vs,KV ba vs/\h.DictOf (dE P w) a vs
 | .dT ba=>ba.length<=sizeLine/\(a==sysModules)=false/\∃xs:List (List Key × Addr × Value),
    Paired (fun(p:List Key × V) (q:List Key × Addr × Value)=>p.1=q.1/\H q.2.1=some (.tup (p.1.map kV))/\RelV p.2 q.2.2) ba xs/\
    ∃o es ep,h.get? a=some o/\o.ExactDict/\o.data= .dict es ep/\es.toList=xs.map (entryOfKey (tupleKind (dE P w)))/\(xs.map (·.1)).Nodup
 | .set S n=>h.SetOf (intKind P w) a S n
 | .ins C dx fs=>H dx=some (.own a)/\fs.length<=1000/\dx≠a/\h.get? a=some (PySem.W.instObj C dx)/\
    ∃mA,h.Ns1 dx mA/\(∀f,qI (fs.lookup f) (mA f))/\PySem.Within mA (fs.map (·.1))
 | .own _=>∃o,h.get? a=some o
 | .xd fs=>∃mA,h.Ns1 a mA/\∀f,qI (fs.lookup f) (mA f)
 | .rng lo hi=>∃t u v,h.get? a=some {cls:= .type "range",data:= .fields #[.int lo t, .int hi u, .int 1 v]}
 | .mf o u=>h.get? a=some o/\fL H h a u
 | .tbl ps=>h.get? a=some {cls:= .none,data:= .fields ps}
 | .met f x=>h.get? a=some (PySem.W.methodObj (.ref f) (.ref x))
 | .ext φ=>φ h/\(∃o,h.get? a=some o)/\∀h1 h2:Heap,φ h1->(∀o,h1.get? a=some o->h2.get? a=some o)->φ h2
def oV(H:Hp)(h:Heap):Prop:=∀a o,H a=some o->fL P w H h a o
end
section
variable {P:Program} {w:World} {H H':Hp} {h h':Heap} {a:Addr} {o:HO}
theorem fL.lt(x:fL P w H h a o):a < h.objs.size:=by
 cases o with
 | lst xs=>obtain⟨_,_,_,_,e⟩:=x;exact Heap.lt_size e
 | tup xs=>obtain⟨_,_,_,p⟩:=x;exact p.lt
 | dK ba=>obtain⟨_,_,_,_,o,_,_,e,_⟩:=x;exact Heap.lt_size e
 | dT ba=>obtain⟨_,_,_,_,o,_,_,e,_⟩:=x;exact Heap.lt_size e
 | set S n=>obtain⟨o,_,_,_,e,_⟩:=x;exact Heap.lt_size e
 | ins C dx fs=>obtain⟨_,_,_,e,_⟩:=x;exact Heap.lt_size e
 | own y=>obtain⟨_,e⟩:=x;exact Heap.lt_size e
 | xd fs=>obtain⟨_,⟨_,_,_,e,_⟩,_⟩:=x;exact Heap.lt_size e
 | rng lo hi=>obtain⟨_,_,_,e⟩:=x;exact Heap.lt_size e
 | mf ob u=>obtain⟨e,_⟩:=x;exact Heap.lt_size e
 | tbl ps=>exact Heap.lt_size (show h.get? a=some _ from x)
 | met f y=>exact Heap.lt_size (show h.get? a=some _ from x)
 | ext φ=>obtain⟨_,⟨_,e⟩,_⟩:=x;exact Heap.lt_size e
theorem Paired.OC{α β:Type}{F G:α->β->Prop}:∀{Pm:List α} {PH:List β},Paired F Pm PH->(∀a b,F a b->G a b)->Paired G Pm PH
 | _,_, .nil,_=> .nil
 | _,_, .cons r t,f=> .cons (f _ _ r) (Paired.OC t f)
theorem fL.xU(x:fL P w H h a o)(k:∀b u,(b=a\/H b=some (.own a))->h.get? b=some u->h'.get? b=some u)
 (ho:∀b,H b=some (.own a)->H' b=some (.own a)) (ht:∀b xs,H b=some (.tup xs)->H' b=some (.tup xs)):fL P w H' h' a o:=by
 induction o with
 | lst xs=>obtain⟨z,its,n,r,e⟩:=x;exact⟨z,its,n,r,k _ _ (.inl rfl) e⟩
 | tup xs=>obtain⟨z,its,r,ob,e,c⟩:=x;exact⟨z,its,r,ob,k _ _ (.inl rfl) e,c⟩
 | dK ba=>obtain⟨z,y,vs,r,ob,es,ep,e,c⟩:=x;exact⟨z,y,vs,r,ob,es,ep,k _ _ (.inl rfl) e,c⟩
 | dT ba=>
   obtain⟨z,y,xs,r,ob,es,ep,e,c⟩:=x;exact⟨z,y,xs,Paired.OC r fun p q z=>⟨z.1,ht _ _ z.2.1,z.2.2⟩,ob,es,ep,k _ _ (.inl rfl) e,c⟩
 | set S n=>obtain⟨ob,es,ep,t,e,c⟩:=x;exact⟨ob,es,ep,t,k _ _ (.inl rfl) e,c⟩
 | ins C dx fs=>
   obtain⟨d,z,ne,e,mA,⟨od,es,ep,e2,c⟩,r⟩:=x;exact⟨ho _ d,z,ne,k _ _ (.inl rfl) e,mA,⟨od,es,ep,k _ _ (.inr d) e2,c⟩,r⟩
 | own y=>obtain⟨ob,e⟩:=x;exact⟨ob,k _ _ (.inl rfl) e⟩
 | xd fs=>obtain⟨mA,⟨od,es,ep,e,c⟩,r⟩:=x;exact⟨mA,⟨od,es,ep,k _ _ (.inl rfl) e,c⟩,r⟩
 | rng lo hi=>obtain⟨t,u,v,e⟩:=x;exact⟨t,u,v,k _ _ (.inl rfl) e⟩
 | mf ob u ih=>obtain⟨e,q⟩:=x;exact⟨k _ _ (.inl rfl) e,ih q⟩
 | tbl ps=>
   have e:h.get? a=some {cls:= .none,data:= .fields ps}:=x;show h'.get? a=some {cls:= .none,data:= .fields ps};exact k a _ (.inl rfl) e
 | met f y=>
   have e:h.get? a=some (PySem.W.methodObj (.ref f) (.ref y)):=x;show h'.get? a=some (PySem.W.methodObj (.ref f) (.ref y));exact k a _ (.inl rfl) e
 | ext φ=>obtain⟨p,⟨o,e⟩,st⟩:=x;exact⟨st _ _ p fun o q=>k _ _ (.inl rfl) q,⟨o,k _ _ (.inl rfl) e⟩,st⟩
theorem oV.lt(x:oV P w H h)(e:H a=some o):a < h.objs.size:=(x a o e).lt
theorem oV.fresh(x:oV P w H h)(e:h.objs.size<=a):H a=none:=by
 cases q:H a with
 | none=>rfl
 | some u=>exact absurd (Nat.lt_of_lt_of_le (x.lt q) e) (Nat.lt_irrefl _)
theorem oV.kept(x:oV P w H h)(k:∀b u,h.get? b=some u->h'.get? b=some u):oV P w H h':=fun a o e=>
 (x a o e).xU (fun b u _ q=>k b u q) (fun _ q=>q) fun _ _ q=>q
theorem oV.laid(x:oV P w H h)(k:∀b u,h.get? b=some u->h'.get? b=some u)(hp:h.objs.size<=a)(new:fL P w (upd H a o) h' a o):oV P w (upd H a o) h':=fun b u e=>by
 have hn:=x.fresh hp;by_cases hb:b=a
 .subst hb;rw [bq] at e;cases e;exact new
 .rw [bg hb] at e;exact(x b u e).xU (fun c v _ q=>k c v q) (fun c q=>by rw[bg (cV q hn)];exact q) fun c xs q=>by rw[bg (cV q hn)];exact q
end
def Rd(H:Hp)(a:Addr)(u:HO):Prop:=H a=some u\/∃o,H a=some (.mf o u)
theorem Rd.ok{a:Addr}{u:HO}(r:Rd H a u)(x:oV P w H h):fL P w H h a u:=by
 rcases r with r | ⟨o,r⟩
 .exact x a u r
 .obtain⟨_,q⟩:=x a _ r;exact q
def Pj:Option HO->Prop
 | some (.lst _)=>True
 | some (.dK _)=>True
 | some (.dT _)=>True
 | some (.set _ _)=>True
 | some (.ins _ _ _)=>True
 | some (.ext _)=>True
 | _=>False
section
variable {P:Program} {w:World} {H:Hp} {h h':Heap} {x e:Addr} {o':HO}
theorem oV.write(ok:oV P w H h)(mu:Pj (H x))(he:e=x\/H e=some (.own x))(k:∀b u,b≠e->h.get? b=some u->h'.get? b=some u)(Iw:∃u,h'.get? e=some u)
 (new:fL P w (upd H x o') h' x o'):oV P w (upd H x o') h':=fun b u q=>by
 have nown:∀c y,H c=some (.own y)->c≠x:=fun c y r z=>by subst z;rw [r] at mu;exact mu
 have ntup:∀c xs,H c=some (.tup xs)->c≠x:=fun c xs r z=>by subst z;rw [r] at mu;exact mu
 by_cases hb:b=x
 .subst hb;rw [bq] at q;cases q;exact new
 .rw [bg hb] at q;by_cases hbe:b=e
  .have q':H b=some (.own x):=by
    rcases he with z | z
    .exact absurd (hbe.trans z) hb
    .rw [hbe];exact z
   rw[q] at q';cases q';obtain⟨v,hv⟩:=Iw;exact⟨v,by rw[hbe];exact hv⟩
  .refine(ok b u q).xU (fun c v hc r=>k c v ?_ r) (fun c r=>by rw[bg (nown c b r)];exact r) fun c xs r=>by rw[bg (ntup c xs r)];exact r
   rcases hc with rfl | hc
   .exact hbe
   .rintro rfl;rcases he with z | z
    .exact nown c b hc z
    .rw [hc] at z;cases z;exact hb rfl
end
structure Un (fs ex:List Addr) (H H':Hp) (h h':Heap):Prop where
 keep:∀b o,h.get? b=some o->H b=none->b ∉ fs->b ∉ ex->h'.get? b=some o
 slot:∀b o,h.get? b=some o->H b=none->b∈fs->b ∉ ex->∃sl,h'.get? b=some {o with slots:=sl}
 free:∀b o,h.get? b=some o->H b=none->b ∉ ex->H' b=none
 there:∀b o,h.get? b=some o->b ∉ ex->∃o',h'.get? b=some o'
 tups:∀b xs,H b=some (.tup xs)->H' b=some (.tup xs)
 frzs:∀b o u,H b=some (.mf o u)->H' b=some (.mf o u)
 tbls:∀b ps,H b=some (.tbl ps)->∃more,H' b=some (.tbl (ps++more))
section
variable {fs NN ex XM:List Addr} {H H1 H2:Hp} {h h1 h2 h':Heap} {a x e:Addr} {o:HO}
theorem Un.any(u:Un fs ex H H1 h h1){b:Addr}{ob:Obj}(q:h.get? b=some ob)(n:H b=none)(hx:b ∉ ex):∃sl,h1.get? b=some {ob with slots:=sl}:=by
 by_cases hb:b∈fs
 .exact u.slot b ob q n hb hx
 .exact⟨ob.slots,u.keep b ob q n hb hx⟩
theorem Un.kept(k:∀b u,h.get? b=some u->h'.get? b=some u):Un fs ex H H h h':=
 ⟨fun b ob q _ _ _=>k b ob q,fun b ob q _ _ _=>⟨ob.slots,k b ob q⟩,fun _ _ _ n _=>n,fun b ob q _=>⟨ob,k b ob q⟩,fun _ _ q=>q,fun _ _ _ q=>q,fun _ ps q=>⟨#[],by rw[q];simp⟩⟩
theorem Un.refl:Un fs ex H H h h:=Un.kept fun _ _ q=>q
theorem Un.laid(k:∀b u,h.get? b=some u->h'.get? b=some u)(hp:h.objs.size<=a)(hn:H a=none):Un fs ex H (upd H a o) h h' where
 keep:=fun b u q _ _ _=>k b u q
 slot:=fun b u q _ _ _=>⟨u.slots,k b u q⟩
 free:=fun b u q n _=>by rw[bg (Nat.ne_of_lt (Nat.lt_of_lt_of_le (Heap.lt_size q) hp))];exact n
 there:=fun b u q _=>⟨u,k b u q⟩
 tups:=fun b xs q=>by rw[bg (cV q hn)];exact q
 frzs:=fun b u xs q=>by rw[bg (cV q hn)];exact q
 tbls:=fun b ps q=>⟨#[],by rw[bg (cV q hn),q];simp⟩
theorem Un.write(mu:Pj (H x))(he:e=x\/H e=some (.own x))(k:∀b u,b≠e->h.get? b=some u->h'.get? b=some u)(Iw:∃u,h'.get? e=some u):Un fs ex H (upd H x o) h h':=by
 have hx:∀b,H b=none->b≠x:=fun b n z=>by subst z;rw [n] at mu;exact mu
 have hb:∀b,H b=none->b≠e:=fun b n z=>by
  subst z;rcases he with r | r
  .exact hx b n r
  .rw [n] at r;cases r
 have hm:∀b u,H b=some u->¬Pj (some u)->b≠x:=fun b u q nm z=>by subst z;rw [q] at mu;exact nm mu
 refine⟨fun b u q n _ _=>k b u (hb b n) q,fun b u q n _ _=>⟨u.slots,k b u (hb b n) q⟩,fun b u q n _=>by rw[bg (hx b n)];exact n,fun b u q _=>?_,
  fun b xs q=>by rw[bg (hm b _ q fun z=>z)];exact q,fun b u xs q=>by rw[bg (hm b _ q fun z=>z)];exact q,fun b ps q=>⟨#[],by rw[bg (hm b _ q fun z=>z),q];simp⟩⟩
 by_cases hbe:b=e
 .subst hbe;exact Iw
 .exact⟨u,k b u hbe q⟩
end
def Qe(h:Heap)(H:Hp):List Addr:=(List.range h.objs.size).filter fun a=>(H a).isSome
def xH(h:Heap)(H:Hp):Heap:=PySem.W.hideAll h (Qe h H)
theorem DO(h:Heap)(H:Hp):(xH h H).objs.size=h.objs.size:=PySem.W.hideAll_size _ _
theorem FK{h:Heap}{H:Hp}{b:Addr}{o:Obj}(e:h.get? b=some o)(n:H b=none):(xH h H).get? b=some o:=
 PySem.W.hideAll_get _ e fun hm=>by
  have q:(H b).isSome=true:=(List.mem_filter.mp hm).2;rw[n] at q;simp at q
theorem Ko{h:Heap}{H:Hp}{b:Addr}{o:Obj}(e:(xH h H).get? b=some o):h.get? b=some o/\H b=none:=by
 have e':h.get? b=some o:=PySem.W.of_hideAll (Qe h H) e;refine⟨e',?_⟩;cases q:H b with
 | none=>rfl
 | some x=>
   have hm:b∈Qe h H:=List.mem_filter.mpr ⟨List.mem_range.mpr (Heap.lt_size e'),by simp [q]⟩
   have z:(xH h H).get? b=none:=PySem.W.hideAll_none (Qe h H) hm;rw[z] at e;cases e
def Kd(g h:Heap)(L:Addr):XX:=(List.range h.objs.size).filterMap fun a=>if a=L\/(g.get? a).isSome=true then none else(h.get? a).map fun o=>(a,o)
def rest(g h:Heap)(L d:Addr):XX:=(Kd g h L).filter fun p=>decide (p.1≠d)
structure Mod (K:W.Frag) (mg:X2) (base:Heap):Prop where
 kin:K.In base
 glob:base.Ns mainGlobals mg
 blt:∃mb,base.Ns builtinsNs mb/\∀x:Str,x≠"__name__"->mb x=bootBuiltins x
 nolimit:base.NoLimit
structure Cx where
 prog:Program
 w:World
 K:W.Frag
 mg:X2
 base:Heap
 A:Around
 N:List Str
 s₀:Shared
 H₀:Hp
 env:Env
 outer:List Env
 stack:List Env
 ex:List Addr
 fn:Str->Bool
 calm:Bool
 pn:XX
 xe:XY
def EU(l:List Env):List Addr:=l.filterMap (·.frame)
abbrev Cx.fs(X:Cx):List Addr:=EU X.outer
def F9(sc:Scope)(x:Str):Prop:=sc.names.lookup x=some .local\/sc.names.lookup x=some .cell\/sc.names.lookup x=some .free
def Loc(sc:Scope)(x:Str):Prop:=sc.names.lookup x=some .local\/sc.names.lookup x=some .cell
def Look(env:Env)(h:Heap)(m:X2)(x:Str)(u:Value):Prop:=
 (env.kindOf x=some .local/\m x=some u)\/((env.kindOf x=some .cell\/env.kindOf x=some .free)/\∃c,env.cells.lookup x=some c/\h.IsCell c (some u))
structure Cx.Ok (X:Cx):Prop where
 mod:Mod X.K X.mg X.base
 kind:X.env.scope.kind= .function
 glob:X.env.globals=mainGlobals
 blt:X.env.builtins=builtinsNs
 above:X.s₀.heap.objs.size<=X.env.locals
 inj:∀x y c,X.env.cells.lookup x=some c->X.env.cells.lookup y=some c->x=y
 has:∀x,(X.env.kindOf x=some .cell\/X.env.kindOf x=some .free)->∃c,X.env.cells.lookup x=some c
 cab:∀x c,X.fn x=true->X.env.cells.lookup x=some c->X.s₀.heap.objs.size<=c
 hd:X.calm=true->X.A.handled=none
 frames:X.A.frames=some X.stack
 stk:X.stack=X.outer\/(X.stack=X.env ::X.outer/\X.env.frame=some X.env.locals)
 exf:∀b∈X.ex,b≠X.env.locals/\∀x c,X.env.cells.lookup x=some c->c≠b
 bs:∀b o,X.base.get? b=some o->X.s₀.heap.get? b=some o/\X.H₀ b=none
 bsz:X.base.objs.size<=X.s₀.heap.objs.size
 noex:∀b o,X.base.get? b=some o->b ∉ X.ex
 exfs:∀b∈X.ex,b ∉ X.fs
 tm:X.s₀.heap.FunFrames X.base X.outer
 frf:∀b∈X.fs,X.H₀ b=none
structure Inv (X:Cx) (pins:XX) (σ:List (Option V)) (H:Hp) (s:Shared):Prop where
 ok:X.Ok
 os:s.os=X.s₀.os
 bare:AllBare s.gens
 base:Un X.fs X.ex X.H₀ H X.s₀.heap s.heap
 loc:∃m,s.heap.Ns X.env.locals m/\∀(i:Nat) (x:Str) (v:V),X.N[i]? =some x->σ[i]? =some (some v)->F9 X.env.scope x->∃u,RelV v u/\Look X.env s.heap m x u
 cell:∀x c,X.env.cells.lookup x=some c->∃v,s.heap.IsCell c v
 free:H X.env.locals=none
 freeC:∀x c,X.env.cells.lookup x=some c->H c=none
 pin:∀p∈X.pn++pins,s.heap.get? p.1=some p.2/\H p.1=none/\p.1≠X.env.locals/\p.1 ∉ X.fs/\∀v,p.2.data≠ .cell v
 hok:oV X.prog X.w H s.heap
 len:σ.length=X.N.length
section
variable {X:Cx} {pins:XX} {σ:List (Option V)} {H H':Hp} {s:Shared} {h':Heap}
theorem Cx.Ok.Q8(ok:X.Ok){b:Addr}{o:Obj}(e:X.base.get? b=some o):b ∉ X.fs:=fun hb=>by
 have:=(ok.tm.mem hb).1;rw[e] at this;cases this
theorem Inv.bs(I:Inv X pins σ H s):∀b o,X.base.get? b=some o->s.heap.get? b=some o/\H b=none:=fun b o e=>
 ⟨I.base.keep b o (I.ok.bs b o e).1 (I.ok.bs b o e).2 (I.ok.Q8 e) (I.ok.noex b o e),I.base.free b o (I.ok.bs b o e).1 (I.ok.bs b o e).2 (I.ok.noex b o e)⟩
theorem Inv.bk(I:Inv X pins σ H s):∀b o,X.base.get? b=some o->s.heap.get? b=some o:=fun b o e=>(I.bs b o e).1
theorem Inv.mod(I:Inv X pins σ H s):Mod X.K X.mg X.base:=I.ok.mod
theorem Inv.CP(I:Inv X pins σ H s):X.K.In s.heap:=I.ok.mod.kin.keeps I.bk
theorem Inv.lt(I:Inv X pins σ H s):X.env.locals < s.heap.objs.size:=let⟨_,hn,_⟩:=I.loc;hn.lt
theorem Inv.sz(I:Inv X pins σ H s):X.s₀.heap.objs.size<=s.heap.objs.size:=Nat.le_trans I.ok.above (Nat.le_of_lt I.lt)
theorem Inv.Rr(I:Inv X pins σ H s){a:Addr}(h:s.heap.objs.size<=a):a ∉ X.fs:=fun hb=>by
 obtain⟨_,o,ho,_⟩:=I.ok.tm.mem hb;exact absurd (Nat.lt_of_lt_of_le (Heap.lt_size ho) (Nat.le_trans I.sz h)) (Nat.lt_irrefl _)
theorem Inv.LS(I:Inv X pins σ H s):∀x c,X.env.cells.lookup x=some c->c≠X.env.locals:=fun x c e z=>by
 obtain⟨v,o,ho,hd⟩:=I.cell x c e;obtain⟨m,⟨o',es,ep,HZ,Sn,_⟩,_⟩:=I.loc;rw[z,HZ] at ho;cases ho;rw [Sn] at hd;cases hd
theorem Inv.tm(I:Inv X pins σ H s):s.heap.FunFrames X.base X.outer:=by
 have all:∀(l:List Env),(∀b∈EU l,b∈X.fs)->X.s₀.heap.FunFrames X.base l->s.heap.FunFrames X.base l:=by
  intro l
  induction l with
  | nil=>intro _ _;trivial
  | cons env r ih=>
    intro hs hl;obtain⟨hk,⟨L,o,hf,hn,ho,hd⟩,hr⟩:=hl;have hL:L∈X.fs:=hs L (by unfold EU;rw [List.filterMap_cons,hf];exact List.mem_cons_self)
    obtain⟨sl,e⟩:=I.base.slot L o ho (I.ok.frf L hL) hL fun z=>I.ok.exfs L z hL
    exact⟨hk,⟨L,_,hf,hn,e,hd⟩,ih (fun b hb=>hs b (by unfold EU;rw [List.filterMap_cons,hf];exact List.mem_cons_of_mem _ hb)) hr⟩
 exact all X.outer (fun _ hb=>hb) I.ok.tm
theorem Inv.stack(I:Inv X pins σ H s):s.heap.FunFrames X.base X.stack:=by
 rcases I.ok.stk with e | ⟨e,hf⟩
 .rw [e];exact I.tm
 .rw [e];obtain⟨m,hn,_⟩:=I.loc;refine .cons (by rw[I.ok.kind];decide) hf hn ?_ I.tm
  exact Heap.get?_none_of_le (Nat.le_trans I.ok.bsz I.ok.above)
theorem Inv.Ba(I:Inv X pins σ H s):∀b∈EU X.stack,b∈X.env.locals ::X.fs:=fun b hb=>by
 rcases I.ok.stk with e | ⟨e,hf⟩
 .rw [e] at hb;exact List.mem_cons_of_mem _ hb
 .rw [e] at hb;unfold EU at hb;rw[List.filterMap_cons,hf] at hb;exact hb
theorem Inv.CN(I:Inv X pins σ H s):∀b∈EU X.stack,H b=none:=fun b hb=>by
 rcases List.mem_cons.mp (I.Ba b hb) with e | hb
 .rw [e];exact I.free
 .obtain⟨_,o,ho,_⟩:=I.ok.tm.mem hb;exact I.base.free b o ho (I.ok.frf b hb) fun z=>I.ok.exfs b z hb
theorem Inv.step{g':Array GenState}{t':Nat}{d':Drawn}{ch:List Addr}(I:Inv X pins σ H s)
 (Iy:∀b∈ch,(b∈X.ex\/X.s₀.heap.objs.size<=b)/\b≠X.env.locals/\(∀x c,X.env.cells.lookup x=some c->c≠b)/\∀p∈X.pn++pins,p.1≠b)
 (keep:∀b o,b≠X.env.locals->b ∉ X.fs->b ∉ ch->s.heap.get? b=some o->H b=none->h'.get? b=some o)
 (slot:∀b o,b≠X.env.locals->b∈X.fs->b ∉ ch->s.heap.get? b=some o->H b=none->∃sl,h'.get? b=some {o with slots:=sl}) (free:∀b o,b ∉ ch->s.heap.get? b=some o->H b=none->H' b=none)
 (there:∀b o,b ∉ ch->s.heap.get? b=some o->∃o',h'.get? b=some o')
 (tups:∀b xs,H b=some (.tup xs)->H' b=some (.tup xs)) (frzs:∀b o u,H b=some (.mf o u)->H' b=some (.mf o u)) (tbls:∀b ps,H b=some (.tbl ps)->∃more,H' b=some (.tbl (ps++more)))
 (ns:∀m,s.heap.Ns X.env.locals m->h'.Ns X.env.locals m) (hok:oV X.prog X.w H' h') (hg:AllBare g') :
 Inv X pins σ H' {s with heap:=h',gens:=g',drawn:=d',toks:=t'}:=by
 have neL:∀b o,X.s₀.heap.get? b=some o->b≠X.env.locals:=fun b o e=>Nat.ne_of_lt (Nat.lt_of_lt_of_le (Heap.lt_size e) I.ok.above)
 have neC:∀b o,X.s₀.heap.get? b=some o->b ∉ X.ex->b ∉ ch:=fun b o e hx hb=>by
  rcases(Iy b hb).1 with z | z
  .exact hx z
  .exact absurd (Nat.lt_of_lt_of_le (Heap.lt_size e) z) (Nat.lt_irrefl _)
 have cellK:∀x c,X.env.cells.lookup x=some c->∀v,s.heap.IsCell c v->h'.IsCell c v:=fun x c e v ⟨o,ho,hd⟩=>by
  have nch:c ∉ ch:=fun z=>(Iy c z).2.2.1 x c e rfl
  by_cases hc:c∈X.fs
  .obtain⟨sl,q⟩:=slot c o (I.LS x c e) hc nch ho (I.freeC x c e);exact⟨_,q,hd⟩
  .exact⟨o,keep c o (I.LS x c e) hc nch ho (I.freeC x c e),hd⟩
 refine⟨I.ok,I.os,hg,⟨fun b o e n hb hx=>?_,fun b o e n hb hx=>?_,fun b o e n hx=>?_,fun b o e hx=>?_,fun b xs e=>tups b xs (I.base.tups b xs e),fun b o xs e=>frzs b o xs (I.base.frzs b o xs e),fun b ps e=>?_⟩,?_,fun x c e=>?_,?_,fun x c e=>?_,fun p hp=>?_,hok,I.len⟩
 .exact keep b o (neL b o e) hb (neC b o e hx) (I.base.keep b o e n hb hx) (I.base.free b o e n hx)
 .obtain⟨sl,e1⟩:=I.base.slot b o e n hb hx;obtain⟨V_,e2⟩:=slot b _ (neL b o e) hb (neC b o e hx) e1 (I.base.free b o e n hx);exact⟨V_,e2⟩
 .obtain⟨o',e1⟩:=I.base.there b o e hx;exact free b o' (neC b o e hx) e1 (I.base.free b o e n hx)
 .obtain⟨o',e1⟩:=I.base.there b o e hx;exact there b o' (neC b o e hx) e1
 .obtain⟨m1,e1⟩:=I.base.tbls b ps e;obtain⟨m2,e2⟩:=tbls b _ e1;exact⟨m1++m2,by rw[e2,Array.append_assoc]⟩
 .obtain⟨m,hn,hl⟩:=I.loc;refine⟨m,ns m hn,fun i x v e1 e2 e3=>?_⟩
  obtain⟨u,r,l⟩:=hl i x v e1 e2 e3;refine⟨u,r,?_⟩;rcases l with l | ⟨k,c,e,z⟩
  .exact .inl l
  .exact .inr ⟨k,c,e,cellK x c e _ z⟩
 .obtain⟨v,z⟩:=I.cell x c e;exact⟨v,cellK x c e v z⟩
 .obtain⟨m,⟨o,_,_,ho,_⟩,_⟩:=I.loc;exact free _ o (fun z=>(Iy _ z).2.1 rfl) ho I.free
 .obtain⟨v,o,ho,hd⟩:=I.cell x c e;exact free c o (fun z=>(Iy c z).2.2.1 x c e rfl) ho (I.freeC x c e)
 .obtain⟨e,n,ne,nf,d⟩:=I.pin p hp;have nch:p.1 ∉ ch:=fun z=>(Iy p.1 z).2.2.2 p hp rfl
  exact⟨keep p.1 p.2 ne nf nch e n,free p.1 p.2 nch e n,ne,nf,d⟩
theorem Inv.un{t':Nat}(I:Inv X pins σ H s)(u:Un X.fs [] H H' s.heap h')(hok:oV X.prog X.w H' h'):Inv X pins σ H' {s with heap:=h',toks:=t'}:=by
 obtain⟨m,⟨o,es,ep,ho,r⟩,_⟩:=id I.loc;obtain⟨sl,hL⟩:=u.any ho I.free (by simp)
 exact I.step (g':=s.gens) (d':=s.drawn) (ch:=[]) (fun _ z=>nomatch z) (fun b o _ hb _ e n=>u.keep b o e n hb (by simp)) (fun b o _ hb _ e n=>u.slot b o e n hb (by simp)) (fun b o _ e n=>u.free b o e n (by simp)) (fun b o _ e=>u.there b o e (by simp)) u.tups u.frzs u.tbls (fun m' hm=>by
  obtain⟨o',R6,Sd,HZ,r'⟩:=hm;rw[ho] at HZ;cases HZ;exact⟨_,R6,Sd,hL,r'⟩) hok I.bare
theorem Inv.call{g':Array GenState}{t':Nat}{d':Drawn}{ch:List Addr}(I:Inv X pins σ H s)(u:Un (EU X.stack) ch H H' s.heap h')(hok:oV X.prog X.w H' h')(hg:AllBare g')
 (Iy:∀b∈ch,(b∈X.ex\/X.s₀.heap.objs.size<=b)/\b≠X.env.locals/\(∀x c,X.env.cells.lookup x=some c->c≠b)/\∀p∈X.pn++pins,p.1≠b) :
 Inv X pins σ H' {s with heap:=h',gens:=g',drawn:=d',toks:=t'}:=by
 obtain⟨m,⟨o,es,ep,ho,r⟩,_⟩:=id I.loc;obtain⟨sl,hL⟩:=u.any ho I.free fun z=>(Iy _ z).2.1 rfl
 exact I.step (ch:=ch) Iy (fun b o hL hb hc e n=>u.keep b o e n (fun z=>(List.mem_cons.mp (I.Ba b z)).elim hL hb) hc) (fun b o _ _ hc e n=>u.any e n hc) (fun b o hc e n=>u.free b o e n hc) (fun b o hc e=>u.there b o e hc) u.tups u.frzs u.tbls (fun m' hm=>by
  obtain⟨o',R6,Sd,HZ,r'⟩:=hm;rw[ho] at HZ;cases HZ;exact⟨_,R6,Sd,hL,r'⟩) hok hg
theorem Inv.turned{t':Nat}{it:Addr}(I:Inv X pins σ H s)(k:∀b o,b≠it->s.heap.get? b=some o->h'.get? b=some o)(hn:H it=none)(hL:it≠X.env.locals)
 (h1:it∈X.ex\/X.s₀.heap.objs.size<=it) (h2:∀x c,X.env.cells.lookup x=some c->c≠it) (h3:∀p∈X.pn++pins,p.1≠it):Inv X pins σ H {s with heap:=h',toks:=t'}:=by
 have nit:∀b u,H b=some u->b≠it:=fun b u e z=>by rw[z,hn] at e;cases e
 refine I.step (g':=s.gens) (d':=s.drawn) (ch:=[it]) (fun b hb=>?_) (fun b o _ _ hc e _=>k b o (fun z=>hc (by simp [z])) e) (fun b o _ _ hc e _=>⟨o.slots,k b o (fun z=>hc (by simp [z])) e⟩) (fun _ _ _ _ n=>n)
  (fun b o hc e=>⟨o,k b o (fun z=>hc (by simp [z])) e⟩) (fun _ _ e=>e) (fun _ _ _ e=>e) (fun b ps e=>⟨#[],by rw[e];simp⟩) (fun m hm=>?_) (fun b u e=>?_) I.bare
 .have e:b=it:=by simpa using hb
  subst e;exact⟨h1,hL,h2,h3⟩
 .obtain⟨o,es,ep,ho,r⟩:=hm;exact⟨o,es,ep,k _ o (Ne.symm hL) ho,r⟩
 .refine(I.hok b u e).xU (fun c v hc q=>k c v ?_ q) (fun _ q=>q) fun _ _ q=>q
  rcases hc with z | z
  .rw [z];exact nit b u e
  .exact nit c _ z
theorem Inv.tok(I:Inv X pins σ H s)(t:Nat):Inv X pins σ H {s with toks:=t}:=I.un (h':=s.heap) (t':=t) Un.refl I.hok
theorem Inv.kept{t':Nat}(I:Inv X pins σ H s)(k:∀b u,s.heap.get? b=some u->h'.get? b=some u):Inv X pins σ H {s with heap:=h',toks:=t'}:=I.un (Un.kept k) (I.hok.kept k)
theorem Inv.laid{a:Addr}{o:HO}{t':Nat}(I:Inv X pins σ H s)(k:∀b u,s.heap.get? b=some u->h'.get? b=some u)(hp:s.heap.objs.size<=a)(new:fL X.prog X.w (upd H a o) h' a o) :
 Inv X pins σ (upd H a o) {s with heap:=h',toks:=t'}:=I.un (Un.laid k hp (I.hok.fresh hp)) (I.hok.laid k hp new)
theorem Inv.write{x e:Addr}{o:HO}{t':Nat}(I:Inv X pins σ H s)(mu:Pj (H x))(he:e=x\/H e=some (.own x))(k:∀b u,b≠e->s.heap.get? b=some u->h'.get? b=some u)(Iw:∃u,h'.get? e=some u)
 (new:fL X.prog X.w (upd H x o) h' x o):Inv X pins σ (upd H x o) {s with heap:=h',toks:=t'}:=I.un (Un.write mu he k Iw) (I.hok.write mu he k Iw new)
theorem Inv.Dj{Li:XX}(I:Inv X pins σ H s)(h:∀p∈Li,s.heap.get? p.1=some p.2/\H p.1=none/\p.1≠X.env.locals/\p.1 ∉ X.fs/\∀v,p.2.data≠ .cell v):Inv X Li σ H s:=
 ⟨I.ok,I.os,I.bare,I.base,I.loc,I.cell,I.free,I.freeC,fun p hp=>(List.mem_append.mp hp).elim (fun z=>I.pin p (List.mem_append_left _ z)) (h p),I.hok,I.len⟩
theorem zE{N:List Str}(hN:N.Nodup){i j:Nat}(a:N[i]? =some x)(b:N[j]? =some x):i=j:=by
 obtain⟨h1,e1⟩:=List.getElem?_eq_some_iff.mp a;obtain⟨h2,e2⟩:=List.getElem?_eq_some_iff.mp b;exact(List.getElem_inj hN).mp (e1.trans e2.symm)
theorem wC{M:Model}{A:Around}{E:XY}{i:Nat}{x:Str}{v:V}{u:Value}{Q:Unit->Shared->Prop}(I:Inv X pins σ H s)(hN:X.N.Nodup)(hi:X.N[i]? =some x)(hx:Loc X.env.scope x)(r:RelV v u)
 (h:∀s',Inv X pins (σ.set i (some v)) H s'->(∃a,Heap.SameBut a s.heap s'.heap/\(a=X.env.locals\/X.env.cells.lookup x=some a))->Q () s') (hf:X.fn x=true\/X.env.scope.names.lookup x=some .local:=by first | exact .inl rfl | exact .inr rfl | assumption):wpAny M A (storeName X.env x u) Q E s:=by
 obtain⟨m,hn,hl⟩:=id I.loc;have hcls:(X.env.scope.kind== .class || (X.env.scope.kind== .module && X.env.locals !=X.env.globals))=false:=by rw[I.ok.kind];rfl
 have hiσ:i < σ.length:=by rw[I.len];exact(List.getElem?_eq_some_iff.mp hi).1
 have LS:=I.LS;have tracked:∀{a:Addr} {h':Heap},(∃o,s.heap.get? a=some o/\H a=none)->Heap.SameBut a s.heap h'->oV X.prog X.w H h':=fun {a h'} ha hs b ob e=>by
  obtain⟨_,_,hfree⟩:=ha;refine(I.hok b ob e).xU (fun c w' hc q=>(hs.2 c ?_).trans q) (fun _ q=>q) fun _ _ q=>q
  rintro rfl;rcases hc with rfl | hc
  .rw [hfree] at e;cases e
  .rw [hfree] at hc;cases hc
 rcases hx with hk | hk
 .refine wpAny_storeName_local hk hn (fun h' RZ hs=>?_) hcls
  obtain⟨oL,_,_,hoL,_⟩:=id hn;refine h _ ⟨I.ok,I.os,I.bare,⟨fun b o e n hb hx=>?_,fun b o e n hb hx=>?_,I.base.free,fun b o e hx=>?_,I.base.tups,I.base.frzs,I.base.tbls⟩,⟨_,RZ,fun j y v' e1 e2 e3=>?_⟩,fun y c e=>?_,I.free,I.freeC,fun p hp=>?_,tracked ⟨oL,hoL,I.free⟩ hs,by simpa using I.len⟩ ⟨_,hs, .inl rfl⟩
  .exact(hs.2 b (Nat.ne_of_lt (Nat.lt_of_lt_of_le (Heap.lt_size e) I.ok.above))).trans (I.base.keep b o e n hb hx)
  .obtain⟨sl,e1⟩:=I.base.slot b o e n hb hx;exact⟨sl,(hs.2 b (Nat.ne_of_lt (Nat.lt_of_lt_of_le (Heap.lt_size e) I.ok.above))).trans e1⟩
  .obtain⟨o',e1⟩:=I.base.there b o e hx;exact⟨o',(hs.2 b (Nat.ne_of_lt (Nat.lt_of_lt_of_le (Heap.lt_size e) I.ok.above))).trans e1⟩
  .by_cases hj:j=i
   .subst hj;rw[hi] at e1;cases e1;rw[List.getElem?_set_self hiσ] at e2;cases e2;exact⟨u,r, .inl ⟨hk,by simp⟩⟩
   .rw [List.getElem?_set_ne (Ne.symm hj)] at e2;obtain⟨u',r',q⟩:=hl j y v' e1 e2 e3;refine⟨u',r',?_⟩;rcases q with⟨k,e⟩ | ⟨k,c,e,z⟩
    .refine .inl ⟨k,?_⟩;have:y≠x:=fun e=>hj (zE hN e1 (e▸hi))
     simp [this,e]
    .exact .inr ⟨k,c,e,z.sameBut hs (LS y c e)⟩
  .obtain⟨w',z⟩:=I.cell y c e;exact⟨w',z.sameBut hs (LS y c e)⟩
  .obtain⟨e,n,ne,nf,d⟩:=I.pin p hp;exact⟨(hs.2 p.1 ne).trans e,n,ne,nf,d⟩
 .have hfn:X.fn x=true:=by
   rcases hf with z | z
   .exact z
   .rw [z] at hk;cases hk
  obtain⟨c,hc⟩:=I.ok.has x (.inl hk);obtain⟨w',z⟩:=I.cell x c hc;refine wpAny_storeName_cell I.ok.kind hk hc z (fun h' EW hs=>?_)
  obtain⟨oc,hoc,hocd⟩:=id z;refine h {s with heap:=h'} ⟨I.ok,I.os,I.bare,⟨fun b o e n hb hx=>?_,fun b o e n hb hx=>?_,I.base.free,fun b o e hx=>?_,I.base.tups,I.base.frzs,I.base.tbls⟩,⟨m,hn.sameBut hs (Ne.symm (LS x c hc)),fun j y v' e1 e2 e3=>?_⟩,fun y c' e=>?_,I.free,I.freeC,fun p hp=>?_,tracked ⟨oc,hoc,I.freeC x c hc⟩ hs,by simpa using I.len⟩ ⟨c,hs, .inr hc⟩
  .exact(hs.2 b (Nat.ne_of_lt (Nat.lt_of_lt_of_le (Heap.lt_size e) (I.ok.cab x c hfn hc)))).trans (I.base.keep b o e n hb hx)
  .obtain⟨sl,e1⟩:=I.base.slot b o e n hb hx;exact⟨sl,(hs.2 b (Nat.ne_of_lt (Nat.lt_of_lt_of_le (Heap.lt_size e) (I.ok.cab x c hfn hc)))).trans e1⟩
  .obtain⟨o',e1⟩:=I.base.there b o e hx;exact⟨o',(hs.2 b (Nat.ne_of_lt (Nat.lt_of_lt_of_le (Heap.lt_size e) (I.ok.cab x c hfn hc)))).trans e1⟩
  .by_cases hj:j=i
   .subst hj;rw[hi] at e1;cases e1;rw[List.getElem?_set_self hiσ] at e2;cases e2;exact⟨u,r, .inr ⟨.inl hk,c,hc,EW⟩⟩
   .rw [List.getElem?_set_ne (Ne.symm hj)] at e2;obtain⟨u',r',q⟩:=hl j y v' e1 e2 e3;refine⟨u',r',?_⟩;rcases q with q | ⟨k,c',e,z'⟩
    .exact .inl q
    .refine .inr ⟨k,c',e,z'.sameBut hs ?_⟩;rintro rfl;exact hj (zE hN e1 (I.ok.inj _ _ _ e hc▸hi))
  .by_cases hcc:c'=c
   .subst hcc;exact⟨_,EW⟩
   .obtain⟨w2,z2⟩:=I.cell y c' e;exact⟨w2,z2.sameBut hs hcc⟩
  .obtain⟨e,n,ne,nf,d⟩:=I.pin p hp;refine⟨(hs.2 p.1 ?_).trans e,n,ne,nf,d⟩;intro q;rw[q,hoc] at e;have q':oc=p.2:=Option.some.inj e;exact d w' (by rw[<-q'];exact hocd)
theorem zT{M:Model}{A:Around}{E:XY}{i:Nat}{x:Str}{v:V}{u:Value}{Q:Unit->Shared->Prop}(I:Inv X pins σ H s)(hN:X.N.Nodup)(hi:X.N[i]? =some x)(hx:Loc X.env.scope x)(r:RelV v u)
 (h:∀s',Inv X pins (σ.set i (some v)) H s'->Q () s') (hf:X.fn x=true\/X.env.scope.names.lookup x=some .local:=by first | exact .inl rfl | exact .inr rfl | assumption):wpAny M A (storeName X.env x u) Q E s:=
 wC I hN hi hx r (fun s' I' _=>h s' I') hf
theorem Inv.OI{s':Shared}{ch:List Addr}(I:Inv X pins σ H s)(ho:s'.os=s.os)(u:Un (EU X.stack) ch H H' s.heap s'.heap)(hok:oV X.prog X.w H' s'.heap)(hg:AllBare s'.gens)
 (Iy:∀b∈ch,(b∈X.ex\/X.s₀.heap.objs.size<=b)/\b≠X.env.locals/\(∀x c,X.env.cells.lookup x=some c->c≠b)/\∀p∈X.pn++pins,p.1≠b):Inv X pins σ H' s':=by
 obtain⟨h',g',d',t',o'⟩:=s';have e:o'=s.os:=ho;subst e;exact I.call (g':=g') (t':=t') (d':=d') u hok hg Iy
end
abbrev XK:=Value->Option Addr->Hp->Prop
abbrev St:=List (Option V)
abbrev VK:=V->Hp->Prop
abbrev TE:=St->Hp->VK->Prop
abbrev TT:=St->Hp->(Bool->Hp->Prop)->Prop
abbrev TA:=St->Hp->(List V->Hp->Prop)->Prop
structure Ends where
 nx:St->Hp->Prop
 rt:VK
 bk:St->Hp->Prop:=fun _ _=>False
 ct:St->Hp->Prop:=fun _ _=>False
abbrev TS:=Ends->St->Hp->Prop
def EP(X:Cx)(pins:XX)(σ:St)(Q:VK)(u:Value)(s':Shared):Prop:=∃v H',Inv X pins σ H' s'/\RelV v u/\Q v H'
def TP(X:Cx)(pins:XX)(σ:St)(Q:Bool->Hp->Prop)(b:Bool)(s':Shared):Prop:=∃H',Inv X pins σ H' s'/\Q b H'
def AP(X:Cx)(pins:XX)(σ:St)(Q:List V->Hp->Prop)(us:List Value)(s':Shared):Prop:=∃vs H',Inv X pins σ H' s'/\Vals vs us/\Q vs H'
def SP(X:Cx)(pins:XX)(D:Ends)(f:Flow)(s':Shared):Prop:=
 match f with
 | .next=>∃dC H',Inv X pins dC H' s'/\D.nx dC H'
 | .brk=>∃dC H',Inv X pins dC H' s'/\D.bk dC H'
 | .cont=>∃dC H',Inv X pins dC H' s'/\D.ct dC H'
 | .ret u=>∃v dC H',Inv X pins dC H' s'/\RelV v u/\D.rt v H'
def PE(X:Cx)(e:Expr)(t:TE):Prop:=
 ∀(pins:XX) (s:Shared) (σ:St) (H:Hp) (Q:VK),Inv X pins σ H s->t σ H Q->wpAny (model X.prog X.w) X.A (eval e X.env) (EP X pins σ Q) X.xe s
def PT(X:Cx)(e:Expr)(t:TT):Prop:=
 ∀(pins:XX) (s:Shared) (σ:St) (H:Hp) (Q:Bool->Hp->Prop),Inv X pins σ H s->t σ H Q->wpAny (model X.prog X.w) X.A (isTrue e X.env (eval e X.env)) (TP X pins σ Q) X.xe s
def PW(X:Cx)(e:Expr)(t:TT):Prop:=
 ∀(whole:Sem Value) (pins:XX) (s:Shared) (σ:St) (H:Hp) (Q:Bool->Hp->Prop),Inv X pins σ H s->t σ H Q->wpAny (model X.prog X.w) X.A (isTrue e X.env whole) (TP X pins σ Q) X.xe s
theorem PW.pt{X:Cx}{t:TT}(h:PW X e t):PT X e t:=h _
def PA(X:Cx)(es:List Expr)(t:TA):Prop:=
 ∀(pos:Pos) (pins:XX) (s:Shared) (σ:St) (H:Hp) (Q:List V->Hp->Prop),Inv X pins σ H s->t σ H Q->wpAny (model X.prog X.w) X.A (spliced (backTo pos (starEach es X.env))) (AP X pins σ Q) X.xe s
def PS(X:Cx)(st:Stmt)(t:TS):Prop:=
 ∀(pins:XX) (s:Shared) (σ:St) (H:Hp) (D:Ends),Inv X pins σ H s->t D σ H->wpAny (model X.prog X.w) X.A (exec st X.env) (SP X pins D) X.xe s
def yV(X:Cx)(st:List Stmt)(t:TS):Prop:=
 ∀(pins:XX) (s:Shared) (σ:St) (H:Hp) (D:Ends),Inv X pins σ H s->t D σ H->wpAny (model X.prog X.w) X.A (execs st X.env) (SP X pins D) X.xe s
theorem eN{α:Type}{t:Sem α}{Q Q':α->Shared->Prop}{M:Model}{E:XY}{s:Shared}(h:wpAny M A t Q E s)(hQ:∀a s,Q a s->Q' a s):wpAny M A t Q' E s:=wpAny_mono h hQ fun _ _ x=>x
section
variable {X:Cx}
def QK(i:Nat):TE:=fun σ H Q=>∃v,σ[i]? =some (some v)/\Q v H
def tC(v:V):TE:=fun _ H Q=>Q v H
theorem rG{i:Nat}{pos:Pos}(hN:X.N[i]? =some x)(hv:F9 X.env.scope x)(hd:(x==("__debug__":Str))=false:=by decide)(r6:(x==("__classdict__":Str))=false:=by decide):PE X (.Name x pos) (QK i):=by
 intro pins s σ H Q I h;obtain⟨v,e,h⟩:=h;obtain⟨m,hn,hl⟩:=I.loc;obtain⟨u,r,l⟩:=hl i x v hN e hv;have fin:EP X pins σ Q u s:=⟨v,H,I,r,h⟩;rcases l with⟨hk,hm⟩ | ⟨hk,c,hc,hcell⟩
 .exact wpAny_Name (wpAny_loadName_local I.ok.kind hk hn hm fin) hd
 .rcases hk with hk | hk
  .exact wpAny_Name (wpAny_loadName_cell I.ok.kind hk hc hcell fin) hd
  .exact wpAny_Name (wpAny_loadName_free I.ok.kind hk hc hcell fin r6) hd
theorem uB{i j pos}:PE X (.Constant (.int i) j pos) (tC (.int i)):=fun _ _ _ H _ I h=>wpAny_Constant_int ⟨.int i,H,I.tok _,⟨_,rfl⟩,h⟩
theorem N8{b j pos}:PE X (.Constant (.bool b) j pos) (tC (.bl b)):=fun _ _ _ H _ I h=>Constant_bool ⟨.bl b,H,I,rfl,h⟩
theorem Mv{j pos}:PE X (.Constant .none j pos) (tC .de):=fun _ _ _ H _ I h=>Constant_none ⟨.de,H,I,rfl,h⟩
theorem uW{x j pos}:PE X (.Constant (.str x) j pos) (tC (.str x)):=fun _ _ _ H _ I h=>Calls.Constant_str ⟨.str x,H,I.tok _,⟨_,rfl⟩,h⟩
def Gl(X:Cx)(x:Str):Prop:=X.env.kindOf x=some .globalImplicit
theorem yJ{E:XY}{pins:XX}{s:Shared}{σ:St}{H:Hp}{x:Str}{u:Value}{pos:Pos}{Q:XY}(I:Inv X pins σ H s)(hg:Gl X x)(hm:X.mg x=some u)(h:Q u s)
 (hd:(x==("__debug__":Str))=false:=by decide):wpAny (model X.prog X.w) X.A (eval (.Name x pos) X.env) Q E s:=
 Calls.Name_function_global I.ok.kind hg (Calls.loadGlobal_global (by rw[I.ok.glob];exact I.mod.glob.keeps I.bk) hm h) hd
theorem pP{E:XY}{pins:XX}{s:Shared}{σ:St}{H:Hp}{x:Str}{u:Value}{pos:Pos}{Q:XY}(I:Inv X pins σ H s)(hg:Gl X x)(hm:X.mg x=none)(hv:bootBuiltins x=some u)(h:Q u s)
 (hn:x≠"__name__":=by decide) (hd:(x==("__debug__":Str))=false:=by decide):wpAny (model X.prog X.w) X.A (eval (.Name x pos) X.env) Q E s:=by
 obtain⟨mb,h1,h2⟩:=I.mod.blt;exact Calls.Name_function_global I.ok.kind hg (Calls.loadGlobal_builtin (by rw[I.ok.glob];exact I.mod.glob.keeps I.bk) hm (by rw[I.ok.blt];exact h1.keeps I.bk) ((h2 x hn).trans hv) h) hd
theorem II{v:V}{u:Value}{pos:Pos}(hg:Gl X x)(hm:X.mg x=some u)(r:RelV v u)(hd:(x==("__debug__":Str))=false:=by decide):PE X (.Name x pos) (tC v):=
 fun _ _ _ H _ I h=>yJ I hg hm ⟨v,H,I,r,h⟩ hd
def P2(ta tb:TE)(k:Int->Int->Hp->Prop):St->Hp->Prop:=fun σ H=>ta σ H fun x H1=>tb σ H1 fun y H2=>∃i j,x= .int i/\y= .int j/\k i j H2
def U9(ta tb:TE):TE:=fun σ H Q=>P2 ta tb (fun i j H2=>Q (.int (i+j)) H2) σ H
def Vi(ta tb:TE):TE:=fun σ H Q=>P2 ta tb (fun i j H2=>Q (.int (i - j)) H2) σ H
def UQ(ta tb:TE):TE:=fun σ H Q=>P2 ta tb (fun i j H2=>(-(2 ^ 64) < i/\i < 2 ^ 64)/\Q (.int (i*j)) H2) σ H
variable {a b:Expr} {ta tb:TE} {pos:Pos}
def PC(X:Cx)(op:CmpOp)(a b:Expr)(t:TE):Prop:=
 ∀(pins:XX) (s:Shared) (σ:St) (H:Hp) (Q:VK),Inv X pins σ H s->t σ H Q->
  wpAny (model X.prog X.w) X.A (eval a X.env) (fun v s₁=>wpAny (model X.prog X.w) X.A (eval b X.env) (fun u Nt=>wpAny (model X.prog X.w) X.A (compareOp op v u) (EP X pins σ Q) X.xe Nt) X.xe s₁) X.xe s
def EK(p:Int->Int->Bool)(ta tb:TE):TE:=fun σ H Q=>P2 ta tb (fun i j H2=>Q (.bl (p i j)) H2) σ H
abbrev Xb:TE->TE->TE:=EK fun i j=>decide (i < j)
abbrev Xq:TE->TE->TE:=EK fun i j=>decide (i<=j)
abbrev Xs:TE->TE->TE:=EK fun i j=>decide (j < i)
abbrev Xv:TE->TE->TE:=EK fun i j=>decide (j<=i)
abbrev Uz:TE->TE->TE:=EK fun i j=>decide (i=j)
abbrev UI:TE->TE->TE:=EK fun i j=>!decide (i=j)
def Uj(ta:TE):TE:=fun σ H Q=>ta σ H fun x H1=>Q (.bl (decide (x= .de))) H1
def TJ(ta:TE):TE:=fun σ H Q=>ta σ H fun x H1=>Q (.bl (!decide (x= .de))) H1
def tB(t:TE):TT:=fun σ H Q=>t σ H fun x H1=>∃c,x= .bl c/\Q c H1
variable {tA TY:TT} {rest:List Expr}
def Vw(t u:TT):TT:=fun σ H Q=>t σ H fun c H1=>if c=true then u σ H1 Q else Q false H1
def U8(t u:TT):TT:=fun σ H Q=>t σ H fun c H1=>if c=true then Q true H1 else u σ H1 Q
def QG(t:TT):TT:=fun σ H Q=>t σ H fun c H1=>Q (!c) H1
theorem FR(ha:PT X a tA):PW X (.BoolOp .Or [a] pos) tA:=by
 intro wh pins s σ H Q I h;refine isTrue_or (eN (ha pins s σ H Q I h) fun c s1 e=>?_)
 cases c with
 | false=>exact isTrue_or_nil e
 | true=>exact e
theorem KY(ha:PT X a tA)(hb:PW X (.BoolOp .Or (b ::rest) pos) TY):PW X (.BoolOp .Or (a ::b ::rest) pos) (U8 tA TY):=by
 intro wh pins s σ H Q I h;refine isTrue_or (eN (ha pins s σ H _ I h) fun c s1 ⟨H1,I1,q1⟩=>?_)
 cases c with
 | true=>exact⟨H1,I1,q1⟩
 | false=>exact hb wh pins s1 σ H1 Q I1 q1
theorem HS(ha:PT X a tA):PT X (.UnaryOp .Not a pos) (QG tA):=by
 intro pins s σ H Q I h;exact isTrue_not (ha pins s σ H (fun c H1=>Q (!c) H1) I h)
def Pf(ta tb:TE):TE:=fun σ H Q=>ta σ H fun x H1=>∃c,x= .bl c/\if c=true then tb σ H1 Q else Q (.bl false) H1
def UJ(ta tb:TE):TE:=fun σ H Q=>ta σ H fun x H1=>∃c,x= .bl c/\if c=true then Q (.bl true) H1 else tb σ H1 Q
def TK(ta:TE):TE:=fun σ H Q=>ta σ H fun x H1=>∃c,x= .bl c/\Q (.bl (!c)) H1
theorem L_{op}{t:TE}(h:PE X a t):PE X (.BoolOp op [a] pos) t:=fun pins s σ H Q I hw=>BoolOp_one (h pins s σ H Q I hw)
theorem MB(ha:PE X a ta)(hb:PE X (.BoolOp .And (b ::rest) pos) tb):PE X (.BoolOp .And (a ::b ::rest) pos) (Pf ta tb):=by
 intro pins s σ H Q I h;refine BoolOp_and (eN (ha pins s σ H _ I h) fun v s1 ⟨x,H1,I1,r1,q1⟩=>?_)
 obtain⟨c,rfl,q1⟩:=q1;cases r1;refine wpAny_truthy_bool ?_;cases c with
 | true=>exact hb pins s1 σ H1 Q I1 q1
 | false=>exact⟨.bl false,H1,I1,rfl,q1⟩
def Vz(t:TT)(ta tb:TE):TE:=fun σ H Q=>t σ H fun c H1=>if c=true then ta σ H1 Q else tb σ H1 Q
theorem G8(hc:PT X c tA)(ha:PE X a ta)(hb:PE X b tb):PE X (.IfExp c a b pos) (Vz tA ta tb):=by
 intro pins s σ H Q I h;refine wpAny_IfExp (eN (hc pins s σ H _ I h) fun d s1 ⟨H1,I1,q1⟩=>?_)
 cases d with
 | true=>exact ha pins s1 σ H1 Q I1 q1
 | false=>exact hb pins s1 σ H1 Q I1 q1
end
def pH(K:W.Frag)(H:Hp)(a:Addr)(xs:List V):Prop:=
 Rd H a (.lst xs)\/
  ∃(o:Obj) (its:Array Value) (n:Nat),K.lookup a=some o/\o.cls= .type "list"/\o.dict=none/\o.data= .seq its n/\its.size<=sizeLine/\Vals xs its.toList
def tF(K:W.Frag)(H:Hp)(a:Addr)(xs:List V):Prop:=
 Rd H a (.tup xs)\/
  ∃(o:Obj) (its:Array Value) (n:Nat),K.lookup a=some o/\o.cls= .type "tuple"/\o.data= .seq its n/\its.size<=sizeLine/\Vals xs its.toList
def QY:Value->Option V
 | .none=>some .de
 | .bool b=>some (.bl b)
 | .int i _=>some (.int i)
 | .str x _=>some (.str x)
 | .bytes b _=>some (.byt b)
 | .float b _=>some (.flt b)
 | .ref a=>some (.ref a)
 | .type n=>some (.ty n)
 | _=>none
theorem RelV.abs{x:V}{u:Value}(r:RelV x u):QY u=some x:=by
 cases x with
 | de=>cases r;rfl
 | bl _=>cases r;rfl
 | int _=>obtain⟨t,rfl⟩:=r;rfl
 | str _=>obtain⟨t,rfl⟩:=r;rfl
 | byt _=>obtain⟨t,rfl⟩:=r;rfl
 | flt _=>obtain⟨t,rfl⟩:=r;rfl
 | ref _=>cases r;rfl
 | ty _=>cases r;rfl
theorem RelV.inj{x y:V}{u:Value}(r:RelV x u)(q:RelV y u):x=y:=Option.some.inj (r.abs.symm.trans q.abs)
theorem Vals.inj:∀{xs ys:List V} {us:List Value},Vals xs us->Vals ys us->xs=ys
 | _,_,_, .nil, .nil=>rfl
 | _,_,_, .cons r t, .cons r' t'=>by rw[r.inj r',Vals.inj t t']
section
variable {X:Cx} {pins:XX} {σ:St} {H:Hp} {s:Shared} {a:Addr} {xs ys:List V}
theorem pH.of{K:W.Frag}(h:H a=some (.lst xs)):pH K H a xs:= .inl (.inl h)
theorem Inv.list(I:Inv X pins σ H s)(h:pH X.K H a xs):∃its:List Value,Vals xs its/\PlainL s.heap a its.toArray/\xs.length<=sizeLine:=by
 rcases h with h | ⟨o,its,n,hk,hc,hd,hs,hz,r⟩
 .obtain⟨z,its,n,r,e⟩:=h.ok I.hok;exact⟨its,r,⟨_,n,e,rfl,rfl,rfl⟩,z⟩
 .refine⟨its.toList,r,⟨o,n,I.CP a o hk,hc,hd,by simpa using hs⟩,?_⟩
  have e:=r.length;simp only[Array.length_toList] at e;omega
theorem Inv.tuple(I:Inv X pins σ H s)(h:tF X.K H a xs):∃its:List Value,Vals xs its/\IsTup s.heap a its.toArray/\xs.length<=sizeLine:=by
 rcases h with h | ⟨o,its,n,hk,hc,hs,hz,r⟩
 .obtain⟨z,its,r,p⟩:=h.ok I.hok;exact⟨its,r,p,z⟩
 .refine⟨its.toList,r,⟨o,I.CP a o hk,hc,n,by simpa using hs⟩,?_⟩
  have e:=r.length;simp only[Array.length_toList] at e;omega
theorem Inv.qO(I:Inv X pins σ H s)(h:pH X.K H a xs)(h':pH X.K H a ys):xs=ys:=by
 obtain⟨its,r,⟨o,n,e,_,_,d⟩,_⟩:=I.list h;obtain⟨its',r',⟨o',n',e',_,_,d'⟩,_⟩:=I.list h';rw[e] at e';cases e';rw[d] at d';injection d' with d1 _
 have:its=its':=by simpa using congrArg Array.toList d1
 subst this;exact r.inj r'
theorem Inv.rD(I:Inv X pins σ H s)(h:tF X.K H a xs)(h':tF X.K H a ys):xs=ys:=by
 obtain⟨its,r,⟨o,e,_,n,d⟩,_⟩:=I.tuple h;obtain⟨its',r',⟨o',e',_,n',d'⟩,_⟩:=I.tuple h';rw[e] at e';cases e';rw[d] at d';injection d' with d1 _
 have:its=its':=by simpa using congrArg Array.toList d1
 subst this;exact r.inj r'
end
abbrev Cx.wb(X:Cx)(E:XY):Cx:={X with xe:=E}
abbrev Cx.JS(X:Cx):Cx:=X.wb fun _ _=>False
theorem Cx.Ok.wb{X:Cx}(ok:X.Ok)(E:XY):(X.wb E).Ok:=
 ⟨ok.mod,ok.kind,ok.glob,ok.blt,ok.above,ok.inj,ok.has,ok.cab,ok.hd,ok.frames,ok.stk,ok.exf,ok.bs,ok.bsz,ok.noex,ok.exfs,ok.tm,ok.frf⟩
theorem Cx.Ok.n_{X:Cx}{E:XY}(ok:(X.wb E).Ok):X.Ok:=
 ⟨ok.mod,ok.kind,ok.glob,ok.blt,ok.above,ok.inj,ok.has,ok.cab,ok.hd,ok.frames,ok.stk,ok.exf,ok.bs,ok.bsz,ok.noex,ok.exfs,ok.tm,ok.frf⟩
section
variable {X:Cx} {pins:XX} {σ:St} {H:Hp} {s:Shared} {E:XY}
theorem Inv.wb(I:Inv X pins σ H s)(E:XY):Inv (X.wb E) pins σ H s:=⟨I.ok.wb E,I.os,I.bare,I.base,I.loc,I.cell,I.free,I.freeC,I.pin,I.hok,I.len⟩
theorem Inv.n_(I:Inv (X.wb E) pins σ H s):Inv X pins σ H s:=⟨I.ok.n_,I.os,I.bare,I.base,I.loc,I.cell,I.free,I.freeC,I.pin,I.hok,I.len⟩
theorem SP.n_{D:Ends}{f:Flow}{s':Shared}(h:SP (X.wb E) pins D f s'):SP X pins D f s':=by
 cases f with
 | next=>obtain⟨dC,H',I,q⟩:=h;exact⟨dC,H',I.n_,q⟩
 | brk=>obtain⟨dC,H',I,q⟩:=h;exact⟨dC,H',I.n_,q⟩
 | cont=>obtain⟨dC,H',I,q⟩:=h;exact⟨dC,H',I.n_,q⟩
 | ret u=>obtain⟨v,dC,H',I,r,q⟩:=h;exact⟨v,dC,H',I.n_,r,q⟩
theorem yV.JS{st:List Stmt}{t:TS}(h:yV X.JS st t):yV X st t:=fun pins s σ H D I hw=>
 wpAny_mono (h pins s σ H D (I.wb _) hw) (fun _ _ q=>q.n_) fun _ _ z=>False.elim z
end
section
variable {X:Cx} {st:Stmt} {rest:List Stmt} {t u:TS} {e:Expr} {te:TE} {pos:Pos}
def N9:TS:=fun D σ H=>D.nx σ H
def O7(t u:TS):TS:=fun D σ H=>t {D with nx:=u D} σ H
theorem Dk:yV X [] N9:=fun _ _ σ H _ I h=>wpAny_execs_nil ⟨σ,H,I,h⟩
theorem zo(h1:PS X st t)(h2:yV X rest u):yV X (st ::rest) (O7 t u):=by
 intro pins s σ H D I h;refine wpAny_execs_cons (eN (h1 pins s σ H {D with nx:=u D} I h) fun f s1 q=>?_)
 cases f with
 | next=>
   obtain⟨dC,H',I',q⟩:=q;exact h2 pins s1 dC H' D I' q
 | ret v=>exact q
 | brk=>exact q
 | cont=>exact q
theorem C8(h1:PS X st t):yV X [st] t:=by
 intro pins s σ H D I h;refine wpAny_execs_cons (eN (h1 pins s σ H D I h) fun f s1 q=>?_)
 cases f with
 | next=>exact wpAny_execs_nil q
 | ret v=>exact q
 | brk=>exact q
 | cont=>exact q
def QH:TS:=fun D σ H=>D.bk σ H
def Tx:TS:=fun D σ H=>D.ct σ H
theorem Inv.quiet{pins:XX}{s:Shared}(I:Inv X pins σ H s):interactive X.env=false:=by simp [interactive,I.ok.kind]
def Pb(te:TE):TS:=fun D σ H=>te σ H fun _ H1=>D.nx σ H1
theorem qe(he:PE X e te)(hs:swapsWith e none pos.line X.env=pure false:=by rfl):PS X (.Expr e pos) (Pb te):=by
 intro pins s σ H D I h;exact wpAny_Expr_any (eN (he pins s σ H _ I h) fun v s1 ⟨x,H1,I1,r1,q1⟩=>⟨σ,H1,I1,q1⟩) I.quiet hs
def Rb(te:TE):TS:=fun D σ H=>te σ H D.rt
theorem Fq(he:PE X e te):PS X (.Return (some e) pos) (Rb te):=by
 intro pins s σ H D I h;exact wpAny_Return_some (eN (he pins s σ H _ I h) fun v s1 ⟨x,H1,I1,r1,q1⟩=>⟨x,σ,H1,I1,r1,q1⟩)
def Tb:TS:=fun D _ H=>D.rt .de H
def Rg(c:TT)(t u:TS):TS:=fun D σ H=>c σ H fun b H1=>if b=true then t D σ H1 else u D σ H1
theorem K0{tc:TT}(hc:PT X c tc)(ha:yV X a t)(hb:yV X b u):PS X (.If c a b pos) (Rg tc t u):=by
 intro pins s σ H D I h;refine wpAny_If (eN (hc pins s σ H _ I h) fun d s1 ⟨H1,I1,q1⟩=>?_)
 cases d with
 | true=>exact ha pins s1 σ H1 D I1 q1
 | false=>exact hb pins s1 σ H1 D I1 q1
def Rl:TS:=fun _ _ _=>False
end
abbrev TG:=V->St->Hp->(St->Hp->Prop)->Prop
abbrev GA:=List V->St->Hp->(St->Hp->Prop)->Prop
def PG(X:Cx)(target:Expr)(t:TG):Prop:=
 ∀(pins:XX) (s:Shared) (σ:St) (H:Hp) (v:V) (u:Value) (Q:St->Hp->Prop),Inv X pins σ H s->RelV v u->t v σ H Q->
  wpAny (model X.prog X.w) X.A (assign target X.env u) (fun _ s'=>∃dC H',Inv X pins dC H' s'/\Q dC H') X.xe s
def JZ(X:Cx)(ts:List Expr)(t:GA):Prop:=
 ∀(pins:XX) (s:Shared) (σ:St) (H:Hp) (vs:List V) (us:List Value) (Q:St->Hp->Prop),Inv X pins σ H s->Vals vs us->t vs σ H Q->
  wpAny (model X.prog X.w) X.A (assignInOrder ((assignEach ts X.env).map (·.2)) us) (fun _ s'=>∃dC H',Inv X pins dC H' s'/\Q dC H') X.xe s
abbrev Jw:=V->V->V->Hp->(Hp->Prop)->Prop
def OG(X:Cx)(t:Jw):Prop:=
 ∀(pins:XX) (s:Shared) (σ:St) (H:Hp) (o i v:V) (ov iv u:Value) (Q:Hp->Prop),Inv X pins σ H s->RelV o ov->RelV i iv->RelV v u->t o i v H Q->
  wpAny (model X.prog X.w) X.A (setItem ov iv u) (fun _ s'=>∃H',Inv X pins σ H' s'/\Q H') X.xe s
abbrev Qc:=V->V->Hp->VK->Prop
def Xx(X:Cx)(op:Operator)(t:Qc):Prop:=
 ∀(pins:XX) (s:Shared) (σ:St) (H:Hp) (x y:V) (v u:Value) (Q:VK),Inv X pins σ H s->RelV x v->RelV y u->t x y H Q->
  wpAny (model X.prog X.w) X.A (inplaceOp op v u) (EP X pins σ Q) X.xe s
section
variable {X:Cx} {pos:Pos}
def uV(i:Nat):TG:=fun v σ H Q=>Q (σ.set i (some v)) H
theorem CQ{i:Nat}(hN:X.N.Nodup)(hi:X.N[i]? =some x)(hx:Loc X.env.scope x)(hf:X.fn x=true\/X.env.scope.names.lookup x=some .local:=by first | exact .inl rfl | exact .inr rfl | assumption):PG X (.Name x pos) (uV i):=by
 intro pins s σ H v u Q I r h;exact wpAny_assign_Name (zT I hN hi hx r (fun s' I'=>⟨_,H,I',h⟩) hf)
def Qv:GA:=fun vs σ H Q=>vs=[]/\Q σ H
def Oh(t:TG)(u:GA):GA:=fun vs σ H Q=>∃v r,vs=v ::r/\t v σ H fun dC H'=>u r dC H' Q
theorem Ci:JZ X [] Qv:=by
 intro pins s σ H vs us Q I r h;obtain⟨e,h⟩:=h;subst e;cases r;exact assignInOrder_nil ⟨σ,H,I,h⟩
theorem zl{e:Expr}{es:List Expr}{t:TG}{u:GA}(h1:PG X e t)(h2:JZ X es u)
 (hs:(assignEach (e ::es) X.env).map (·.2)=assign e X.env ::(assignEach es X.env).map (·.2):=by rfl):JZ X (e ::es) (Oh t u):=by
 intro pins s σ H vs us Q I r h;obtain⟨v,vr,e1,h⟩:=h;subst e1;cases r with
 | cons r rr=>
   rw[hs];refine assignInOrder_cons (eN (h1 pins s σ H _ _ _ I r h) fun _ s1 ⟨P0,H1,I1,q1⟩=>?_)
   exact h2 pins s1 P0 H1 _ _ Q I1 rr q1
def Qy(K:W.Frag)(n:Nat)(t:GA):TG:=fun v σ H Q=>∃a xs,v= .ref a/\tF K H a xs/\xs.length=n/\t xs σ H Q
theorem Fu{es:List Expr}{k:Nat}{t:GA}{n:Nat}(hc:X.calm=true)(h:JZ X es t)
 (hn:(assignEach es X.env).length=n:=by rfl) (Ig:(assignEach es X.env).findIdx? (·.1)=none:=by rfl):PG X (.Tuple es k pos) (Qy X.K n t):=by
 intro pins s σ H v u Q I r hw;obtain⟨a,xs,e1,hq,hl,hw⟩:=hw;subst e1;cases r;obtain⟨its,rv,ht,hz⟩:=I.tuple hq;refine assign_Tuple_tuple (I.ok.hd hc) ht (by simp [hn,<-hl,rv.length]) Ig fun h' hx=>?_
 have I1:Inv X pins σ H {s with heap:=h'}:=I.kept (t':=s.toks) fun b o e=>hx b o (Nat.ne_of_lt (Heap.lt_size e)) e
 exact h pins _ σ H xs _ Q I1 (by simpa using rv) hw
def OU(to ti:TE)(t:Jw):TG:=fun v σ H Q=>to σ H fun o H1=>ti σ H1 fun i H2=>t o i v H2 fun H3=>Q σ H3
theorem EZ{o i:Expr}{to ti:TE}{t:Jw}(ho:PE X o to)(hi:PE X i ti)(hs:OG X t)
 (ha:∀v,assign (.Subscript o i pos) X.env v=(do
   let ov <-holding [v] (eval o X.env)
   let iv <-holding [v,ov] (eval i X.env)
   standAt pos
   holding [v,ov,iv] (setItem ov iv v)
   release [v,ov,iv] []):=by intro _;rfl):PG X (.Subscript o i pos) (OU to ti t):=by
 intro pins s σ H v u Q I r h;rw[ha];refine wpAny_bind (wpAny_holding (eN (ho pins s σ H _ I h) fun ov s1 ⟨x,H1,I1,r1,q1⟩=>?_))
 refine wpAny_bind (wpAny_holding (eN (hi pins s1 σ H1 _ I1 q1) fun iv s2 ⟨y,H2,I2,r2,q2⟩=>?_))
 refine wpAny_bind (wpAny_standAt (wpAny_bind (wpAny_holding (eN (hs pins s2 σ H2 x y v ov iv u _ I2 r1 r2 r q2) fun _ s3 ⟨H3,I3,q3⟩=>?_))))
 exact wpAny_release ⟨σ,H3,I3,q3⟩
def Ew(te:TE)(g:TG):TS:=fun D σ H=>te σ H fun x H1=>g x σ H1 D.nx
theorem FH{tg e:Expr}{te:TE}{g:TG}(he:PE X e te)(hg:PG X tg g)(hs:swapsWithSole [tg] e pos.line X.env=pure false:=by rfl)(hw:swappedStores [tg] e X.env=pure none:=by rfl)
 (h1:(assignEach [tg] X.env).map (·.2)=[assign tg X.env]:=by rfl):PS X (.Assign [tg] e pos) (Ew te g):=by
 intro pins s σ H D I h;refine wpAny_Assign_stores (eN (he pins s σ H _ I h) fun v s1 ⟨x,H1,I1,r1,q1⟩=>?_) hs hw
 rw[h1];exact eN (hg pins s1 σ H1 x v _ I1 r1 q1) fun _ s2 q=>q
theorem BZ{i:Nat}{te:TE}(hN:X.N.Nodup)(hi:X.N[i]? =some x)(hx:Loc X.env.scope x)(he:PE X e te)(hs:swapsWith e (some (.Name x pos')) pos.line X.env=pure false:=by rfl)(hf:X.fn x=true\/X.env.scope.names.lookup x=some .local:=by first | exact .inl rfl | exact .inr rfl | assumption) :
 PS X (.Assign [.Name x pos'] e pos) (Ew te (uV i)):=by
 intro pins s σ H D I h;refine wpAny_Assign_Name (eN (he pins s σ H _ I h) fun v s1 ⟨y,H1,I1,r1,q1⟩=>?_) hs
 exact zT I1 hN hi hx r1 (fun s2 I2=>⟨_,H1,I2,q1⟩) hf
def Ux(i j:Nat)(ta:TA):TS:=fun D σ H=>ta σ H fun vs H1=>∃v w,vs=[v,w]/\D.nx ((σ.set i (some v)).set j (some w)) H1
def Vj(i:Nat)(te:TE)(ti:Qc):TS:=fun D σ H=>∃x,σ[i]? =some (some x)/\te σ H fun y H1=>ti x y H1 fun z H2=>D.nx (σ.set i (some z)) H2
def SY(to ti te:TE)(R5:V->V->Hp->VK->Prop)(Ww:Qc)(RT:Jw):TS:=fun D σ H=>to σ H fun o H1=>ti σ H1 fun i H2=>R5 o i H2 fun x H3=>te σ H3 fun y H4=>Ww x y H4 fun z H5=>RT o i z H5 fun H6=>D.nx σ H6
def UD(X:Cx)(t:V->V->Hp->VK->Prop):Prop:=
 ∀(pins:XX) (s:Shared) (σ:St) (H:Hp) (o i:V) (ov iv:Value) (Q:VK),Inv X pins σ H s->RelV o ov->RelV i iv->t o i H Q->
  wpAny (model X.prog X.w) X.A (getItem ov iv) (EP X pins σ Q) X.xe s
def Xu(f:Int->Int->Int):Qc:=fun x y H Q=>∃i j,x= .int i/\y= .int j/\Q (.int (f i j)) H
end
section
variable {X:Cx} {pos:Pos}
def QS(c:TT)(tb:TS):TS:=fun D σ H=>∃W:Nat->St->Hp->Prop,(∃m,W m σ H)/\∀m σ H,W m σ H->
 c σ H fun b H1=>if b=true then ∃N:St->Hp->Prop,(∀dC H',N dC H'->∃m',m' < m/\W m' dC H')/\tb {D with nx:=N,ct:=N,bk:=D.nx} σ H1 else D.nx σ H1
end
structure It where
 go:Nat->Hp->Prop
 yld:Nat->Hp->V->Hp->Prop
 stop:Nat->Hp->Prop
def sY(X:Cx)(pins:XX)(H:Hp)(b:Addr):Prop:=
 H b=none/\b≠X.env.locals/\b ∉ X.fs/\(b∈X.ex\/X.s₀.heap.objs.size<=b)/\(∀x c,X.env.cells.lookup x=some c->c≠b)/\∀p∈X.pn++pins,p.1≠b
theorem Inv.vR{X:Cx}{pins:XX}{H H':Hp}{s:Shared}{b:Addr}(I:Inv X pins σ H s)(hb:s.heap.objs.size<=b)(hn:H' b=none):sY X pins H' b:=by
 refine⟨hn,Nat.ne_of_gt (Nat.lt_of_lt_of_le I.lt hb),I.Rr hb, .inr (Nat.le_trans I.sz hb),fun x c e z=>?_,fun p hp z=>?_⟩
 .obtain⟨v,q⟩:=I.cell x c e;exact absurd (Nat.lt_of_lt_of_le q.lt (by rw[z];exact hb)) (Nat.lt_irrefl _)
 .exact absurd (Nat.lt_of_lt_of_le (Heap.lt_size (I.pin p hp).1) (by rw[z];exact hb)) (Nat.lt_irrefl _)
structure Turn (P:Program) (w:World) (K:W.Frag) (tg:Expr) (J:It) (fp:List Addr) (it:Addr) (tn:Nat->Heap->Prop):Prop where
 mem:it∈fp
 obj:∀i h,tn i h->∀b∈fp,∃o,h.get? b=some o/\∀v,o.data≠ .cell v
 keep:∀i h h',tn i h->(∀b∈fp,∀o,h.get? b=some o->h'.get? b=some o)->tn i h'
 item:∀(X:Cx),X.prog=P->X.w=w->X.K=K->X.calm=true->∀(i:Nat) (pins:XX) (s:Shared) (σ:St) (H:Hp) (E:XY),Inv X pins σ H s->(∀b∈fp,sY X pins H b)->tn i s.heap->J.go i H->
  wpAny (model P w) X.A (pyNext (.ref it)) (fun r s1=>∃u,r=some u/\
   wpAny (model P w) X.A (letOwnedTupleGo tg (.ref it) u) (fun _ s2=>∃x H',Inv X pins σ H' s2/\RelV x u/\J.yld i H x H'/\tn (i+1) s2.heap/\∀b∈fp,H' b=none) E s1) E s
 done:∀(X:Cx),X.prog=P->X.w=w->X.K=K->X.calm=true->∀(i:Nat) (pins:XX) (s:Shared) (σ:St) (H:Hp) (E:XY),Inv X pins σ H s->(∀b∈fp,sY X pins H b)->tn i s.heap->J.stop i H->
  wpAny (model P w) X.A (pyNext (.ref it)) (fun r s1=>r=none/\Inv X pins σ H s1) E s
 self:∀(A:Around) (i:Nat) (s:Shared) (Q:XY) (E:XY),tn i s.heap->Q (.ref it) s->wpAny (model P w) A (pyIter (.ref it)) Q E s
abbrev TI:=St->Hp->(It->Hp->Prop)->Prop
def Tn(X:Cx)(pins:XX)(σ:St)(tg:Expr)(R:It->Hp->Prop)(Qm:Value)(s2:Shared):Prop:=
 ∃(it:Addr) (fp:List Addr) (tn:Nat->Heap->Prop) (J:It) (H':Hp),Qm= .ref it/\Inv X pins σ H' s2/\Turn X.prog X.w X.K tg J fp it tn/\tn 0 s2.heap/\(∀b∈fp,sY X pins H' b)/\R J H'
def PI(X:Cx)(tg iter:Expr)(wi:TI):Prop:=
 ∀(pins:XX) (s:Shared) (σ:St) (H:Hp) (R:It->Hp->Prop),Inv X pins σ H s->wi σ H R->
  wpAny (model X.prog X.w) X.A (eval iter X.env) (fun v s1=>wpAny (model X.prog X.w) X.A (pyIter v) (Tn X pins σ tg R) X.xe s1) X.xe s
theorem CT{M:Model}{A:Around}{E:XY}{s:Shared}{tg:Expr}{it:Addr}{u:Value}{o:Obj}{n:String}{vs:Array Value}{Q:Unit->Shared->Prop}(ho:s.heap.get? it=some o)(hc:o.cls= .type n)(hd:o.data= .fields vs)
 (hn:["enumerate","zip","dict_itemiterator","dict_reverseitemiterator","odict_iterator","itertools.zip_longest","itertools.pairwise"].contains n=false) (hQ:Q () s):wpAny M A (letOwnedTupleGo tg (.ref it) u) Q E s:=by
 unfold letOwnedTupleGo;cases tg <;> first
  | exact wpAny_pure hQ
  | (cases u <;> first
      | exact wpAny_pure hQ
      | (refine wpAny_bind (wpAny_load ho ?_)
         rw[hc,hd];show wpAny M A (if(["enumerate","zip","dict_itemiterator","dict_reverseitemiterator","odict_iterator","itertools.zip_longest","itertools.pairwise"].contains n && vs[0]? ==some (rawInt _))=true then _ else _) Q E s
         rw[if_neg (by intro h;rw [hn,Bool.false_and] at h;cases h)]
         exact wpAny_pure hQ))
def TL(K:W.Frag)(a:Addr):It:=
 ⟨fun i H=>∃xs x,pH K H a xs/\xs[i]? =some x,fun i H x H'=>H'=H/\∀xs,pH K H a xs->xs[i]? =some x,fun i H=>∃xs,pH K H a xs/\xs.length<=i⟩
def SM(K:W.Frag)(a:Addr):It:=
 ⟨fun i H=>∃xs x,tF K H a xs/\xs[i]? =some x,fun i H x H'=>H'=H/\∀xs,tF K H a xs->xs[i]? =some x,fun i H=>∃xs,tF K H a xs/\xs.length<=i⟩
def NY(lo:Int)(n:Nat):It:=⟨fun i _=>i < n,fun i H x H'=>H'=H/\x= .int (lo+i),fun i _=>n<=i⟩
theorem xk{K:W.Frag}(a it:Addr):Turn P w K tg (TL K a) [it] it (fun i h=>h.IsListIter it a i) where
 mem:=by simp
 obj:=fun i h st b hb=>by
  have e:b=it:=by simpa using hb
  subst e;obtain⟨o,e,c,d⟩:=st;exact⟨o,e,fun v z=>by rw[d] at z;cases z⟩
 keep:=fun i h h' st k=>st.at fun o e=>k it (by simp) o e
 item:=by
  intro X hP hw hK hc i pins s σ H E I hf st hg;subst hP hw hK;obtain⟨xs,x,hq,hx⟩:=hg;obtain⟨its,rv,p,hz⟩:=I.list hq;obtain⟨u,hu,ru⟩:=rv.get hx;obtain⟨f0,f1,f2,f3,f4,f5⟩:=hf it (by simp)
  refine wpAny_pyNext_list_item st p.isList (x:=u) (by simpa using hu) fun h' H_ sb=>?_
  have I1:Inv X pins σ H {s with heap:=h'}:=I.turned (t':=s.toks) (fun b o hb e=>(sb.2 b hb).trans e) f0 f1 f3 f4 f5
  obtain⟨o,e,c,d⟩:=id H_;exact⟨u,rfl,CT (s:={s with heap:=h'}) e c d (by decide) ⟨x,H,I1,ru,⟨rfl,fun ys hy=>by rw[I.qO hy hq];exact hx⟩,H_,fun b hb=>(hf b hb).1⟩⟩
 done:=by
  intro X hP hw hK hc i pins s σ H E I hf st hg;subst hP hw hK;obtain⟨xs,hq,hx⟩:=hg;obtain⟨its,rv,p,hz⟩:=I.list hq;obtain⟨f0,f1,f2,f3,f4,f5⟩:=hf it (by simp)
  have hl:=rv.length;exact wpAny_pyNext_list_end (I.ok.hd hc) st p.isList (by simp;omega) fun h' eb=>⟨rfl,I.turned (t':=s.toks) (fun b o hb e=>eb b o hb e) f0 f1 f3 f4 f5⟩
 self:=fun _ _ _ _ _ st h=>wpAny_pyIter_listiter st h
theorem Bp{K:W.Frag}(a it:Addr):Turn P w K tg (SM K a) [it] it (fun i h=>h.IsTupleIter it a i) where
 mem:=by simp
 obj:=fun i h st b hb=>by
  have e:b=it:=by simpa using hb
  subst e;obtain⟨o,e,c,d⟩:=st;exact⟨o,e,fun v z=>by rw[d] at z;cases z⟩
 keep:=fun i h h' st k=>st.at fun o e=>k it (by simp) o e
 item:=by
  intro X hP hw hK hc i pins s σ H E I hf st hg;subst hP hw hK;obtain⟨xs,x,hq,hx⟩:=hg;obtain⟨its,rv,p,hz⟩:=I.tuple hq;obtain⟨u,hu,ru⟩:=rv.get hx;obtain⟨f0,f1,f2,f3,f4,f5⟩:=hf it (by simp)
  refine wpAny_pyNext_tuple_item st (show s.heap.IsTuple a its.toArray from p) (x:=u) (by simpa using hu) fun h' H_ sb=>?_
  have I1:Inv X pins σ H {s with heap:=h'}:=I.turned (t':=s.toks) (fun b o hb e=>(sb.2 b hb).trans e) f0 f1 f3 f4 f5
  obtain⟨o,e,c,d⟩:=id H_;exact⟨u,rfl,CT (s:={s with heap:=h'}) e c d (by decide) ⟨x,H,I1,ru,⟨rfl,fun ys hy=>by rw[I.rD hy hq];exact hx⟩,H_,fun b hb=>(hf b hb).1⟩⟩
 done:=by
  intro X hP hw hK hc i pins s σ H E I hf st hg;subst hP hw hK;obtain⟨xs,hq,hx⟩:=hg;obtain⟨its,rv,p,hz⟩:=I.tuple hq;obtain⟨f0,f1,f2,f3,f4,f5⟩:=hf it (by simp)
  have hl:=rv.length;exact wpAny_pyNext_tuple_end (I.ok.hd hc) st (show s.heap.IsTuple a its.toArray from p) (by simp;omega) fun h' eb=>⟨rfl,I.turned (t':=s.toks) (fun b o hb e=>eb b o hb e) f0 f1 f3 f4 f5⟩
 self:=fun _ _ _ _ _ st h=>wpAny_pyIter_tupleiter st h
theorem Bq{K:W.Frag}(it:Addr)(lo:Int)(n:Nat):Turn P w K tg (NY lo n) [it] it (fun i h=>IsRangeIter h it (lo+(i:Nat)*1) ((n:Int) - (i:Nat)) 1) where
 mem:=by simp
 obj:=fun i h st b hb=>by
  have e:b=it:=by simpa using hb
  subst e;exact⟨_,st,fun v z=>by
   have z':Data.fields _=Data.cell v:=z;cases z'⟩
 keep:=fun i h h' st k=>k it (by simp) _ st
 item:=by
  intro X hP hw hK hc i pins s σ H E I hf st hg;subst hP hw hK;obtain⟨f0,f1,f2,f3,f4,f5⟩:=hf it (by simp)
  have W:=Walks.range (prog:=X.prog) (w:=X.w) (I.ok.hd hc) it lo 1 n;refine W.item i s _ _ hg st fun v h' tk hv H_ kk=>?_
  obtain⟨t,rfl⟩:=hv;have I1:Inv X pins σ H {s with heap:=h',toks:=tk}:=I.turned (fun b o hb e=>kk b o (by simpa using hb) e) f0 f1 f3 f4 f5
  refine⟨_,rfl,CT (s:={s with heap:=h',toks:=tk}) (n:="range_iterator") H_ rfl rfl (by decide) ⟨.int (lo+i),H,I1,⟨t,?_⟩,⟨rfl,rfl⟩,H_,fun b hb=>(hf b hb).1⟩⟩
  rw[Int.mul_one]
 done:=by
  intro X hP hw hK hc i pins s σ H E I hf st hg;subst hP hw hK;obtain⟨f0,f1,f2,f3,f4,f5⟩:=hf it (by simp)
  exact wpAny_pyNext_range_end (I.ok.hd hc) st (by have:n<=i:=hg;omega) fun h' eb=>⟨rfl,I.turned (t':=s.toks) (fun b o hb e=>eb b o hb e) f0 f1 f3 f4 f5⟩
 self:=fun _ _ _ _ _ st h=>wpAny_pyIter_rangeiter st h
section
variable {X:Cx} {tg:Expr}
def Tv(K:W.Frag)(tl:TE):TI:=fun σ H R=>tl σ H fun x H1=>∃a,x= .ref a/\(∃xs,pH K H1 a xs)/\R (TL K a) H1
def Rk(K:W.Frag)(tl:TE):TI:=fun σ H R=>tl σ H fun x H1=>∃a,x= .ref a/\(∃xs,tF K H1 a xs)/\R (SM K a) H1
theorem Gb{pins:XX}{σ:St}{H:Hp}{s:Shared}{R:It->Hp->Prop}{E:XY}{lo hi:Int}{t u v:Tok}{tk:Nat}(I:Inv X pins σ H s)(h1: -(2 ^ 62)<=lo)(h2:lo < 2 ^ 62)(h3: -(2 ^ 62)<=hi)(h4:hi < 2 ^ 62)
 (q:R (NY lo (hi - lo).toNat) H):wpAny (model X.prog X.w) X.A (pyIter (.ref s.heap.objs.size)) (Tn X pins σ tg R) E {s with heap:=s.heap.push {cls:= .type "range",data:= .fields #[.int lo t, .int hi u, .int 1 v]},toks:=tk}:=by
 refine wpAny_pyIter_range (IsRange.new ..) (small_one h1 h2 h3 h4) ?_;have I1:Inv X pins σ H {s with heap:=s.heap.push {cls:= .type "range",data:= .fields #[.int lo t, .int hi u, .int 1 v]},toks:=tk}:=I.kept fun b o e=>Heap.get?_push_of_some _ e
 refine⟨(s.heap.push {cls:= .type "range",data:= .fields #[.int lo t, .int hi u, .int 1 v]}).objs.size,[(s.heap.push {cls:= .type "range",data:= .fields #[.int lo t, .int hi u, .int 1 v]}).objs.size],_,_,H,rfl,
  I1.kept (t':=tk) fun b o e=>Heap.get?_push_of_some _ e,Bq _ lo (hi - lo).toNat,?_,fun b hb=>?_,q⟩
 .have e1:lo+((0:Nat):Int)*1=lo:=by simp
  have e2:(((hi - lo).toNat:Nat):Int) - ((0:Nat):Int)=Builtin.Range.rangeSize lo hi 1:=by rw[rangeSize_one];split <;> omega
  show IsRangeIter _ _ (lo+((0:Nat):Int)*1) ((((hi - lo).toNat:Nat):Int) - ((0:Nat):Int)) 1;rw[e1,e2];exact Heap.get?_push_size _ rfl
 .have e:b=(s.heap.push {cls:= .type "range",data:= .fields #[.int lo t, .int hi u, .int 1 v]}).objs.size:=by simpa using hb
  subst e;exact I1.vR (Nat.le_refl _) (I1.hok.fresh (Nat.le_refl _))
def so(ta:TA):TI:=fun σ H R=>ta σ H fun vs H1=>∃j:Int,vs=[.int j]/\ -(2 ^ 62)<=j/\j < 2 ^ 62/\R (NY 0 j.toNat) H1
def Tw(ta:TA):TI:=fun σ H R=>ta σ H fun vs H1=>∃i j:Int,vs=[.int i, .int j]/\(-(2 ^ 62)<=i/\i < 2 ^ 62/\ -(2 ^ 62)<=j/\j < 2 ^ 62)/\R (NY i (j - i).toNat) H1
theorem wY{ta:TA}{p pos:Pos}(hg:Gl X "range")(hm:X.mg "range"=none)(ha:PA X [a] ta)(hs:starEach [a] X.env=[(false,eval a X.env)]:=by rfl):PI X tg (.Call (.Name "range" p) [a] [] pos) (so ta):=by
 intro pins s σ H R I h;refine Call_ (pP I hg hm boot_range (PyProof.Rows.callWith_type1 (eN (ha pos pins s σ H _ I h) fun us s1 ⟨vs,H1,I1,r1,q1⟩=>?_) hs rfl))
 obtain⟨j,e,q1,q2,q⟩:=q1;subst e;cases r1 with
 | cons r rr=>
   cases rr;obtain⟨t,rfl⟩:=r;exact call_range_1 (Gb I1 (by omega) (by omega) q1 q2 (by simpa using q))
def QU(wi:TI)(g:TG)(tb:TS):TS:=fun D σ H=>wi σ H fun J H1=>∃W:Nat->Nat->St->Hp->Prop,(∃m,W 0 m σ H1)/\∀i m σ H,W i m σ H->
 (J.stop i H/\D.nx σ H)\/(J.go i H/\∃N:St->Hp->Prop,(∀dC H',N dC H'->∃m',m' < m/\W (i+1) m' dC H')/\∀x H',J.yld i H x H'->g x σ H' fun yL H2=>tb {D with nx:=N,ct:=N,bk:=D.nx} yL H2)
def pG(fp:List Addr)(h:Heap):XX:=fp.filterMap fun b=>(h.get? b).map fun o=>(b,o)
theorem mC{fp:List Addr}{h:Heap}{b:Addr}{o:Obj}(hb:b∈fp)(e:h.get? b=some o):(b,o)∈pG fp h:=List.mem_filterMap.mpr ⟨b,hb,by rw[e];rfl⟩
theorem EN{fp:List Addr}{h:Heap}{p:Addr × Obj}(hp:p∈pG fp h):p.1∈fp/\h.get? p.1=some p.2:=by
 obtain⟨b,hb,e⟩:=List.mem_filterMap.mp hp;cases q:h.get? b with
 | none=>rw [q] at e;cases e
 | some o=>
   rw[q] at e;have e':(b,o)=p:=Option.some.inj e;subst e';exact⟨hb,q⟩
theorem Inv.pinned{pins:XX}{s:Shared}{fp:List Addr}(I:Inv X pins σ H s)(hf:∀b∈fp,sY X pins H b)(ho:∀b∈fp,∃o,s.heap.get? b=some o/\∀v,o.data≠ .cell v):Inv X (pins++pG fp s.heap) σ H s:=
 I.Dj fun p hp=>(List.mem_append.mp hp).elim (fun z=>I.pin p (List.mem_append_right _ z)) fun z=>by
  obtain⟨hb,e⟩:=EN z;obtain⟨f0,f1,f2,_⟩:=hf p.1 hb;obtain⟨o,e',d⟩:=ho p.1 hb;rw[e] at e';cases e';exact⟨e,f0,f1,f2,d⟩
theorem Inv.qf{pins pl:XX}{s:Shared}(I:Inv X (pins++pl) σ H s):Inv X pins σ H s:=I.Dj fun p hp=>I.pin p (List.mem_append_right _ (List.mem_append_left _ hp))
theorem Fc{iter:Expr}{body:List Stmt}{wi:TI}{g:TG}{tb:TS}{pos:Pos}(hp:PassesOwn (model X.prog X.w) X.A X.env X.xe)(hc:X.calm=true)(hi:PI X tg iter wi)(hg:PG X tg g)(hb:yV X body tb)
 (hs:∀x,foldedSetIterable iter X.env x=pure x:=by intro _;rfl):PS X (.For tg iter body [] pos) (QU wi g tb):=by
 intro pins s σ H D I h;refine wpAny_For (eN (hi pins s σ H _ I h) fun v s1 h1=>eN h1 fun Qm s2 h2=>?_) hs
 obtain⟨it,fp,tn,J,H2,e,I2,T,Iu,f2,W,⟨m0,w0⟩,turn⟩:=h2;subst e;have stat:∀{H':Hp},(∀b∈fp,H' b=none)->∀b∈fp,sY X pins H' b:=fun hn b hb=>⟨hn b hb,(f2 b hb).2⟩
 refine codeAny_forLoop_any (fun n s'=>∃i dC H',Inv X pins dC H' s'/\tn i s'.heap/\(∀b∈fp,H' b=none)/\W i n dC H') ?_ m0 ⟨0,σ,H2,I2,Iu,fun b hb=>(f2 b hb).1,w0⟩
 rintro n s3 ⟨i,KA,H3,I3,KG,Po,w3⟩;rcases turn i n KA H3 w3 with⟨stop,qn⟩ | ⟨go,N,hN,step⟩
 .refine wpAny_passesOwn hp (eN (T.done X rfl rfl rfl hc i pins s3 KA H3 X.xe I3 (stat Po) KG stop) fun r s4 ⟨hr,I4⟩=>?_)
  subst hr;exact wpAny_execs_nil ⟨KA,H3,I4,qn⟩
 .refine wpAny_passesOwn hp (eN (T.item X rfl rfl rfl hc i pins s3 KA H3 X.xe I3 (stat Po) KG go) fun r s4 ⟨u,hr,h4⟩=>?_)
  subst hr;refine wpAny_passesOwn hp (eN h4 fun _ s5 ⟨x,H5,I5,r5,y5,Nu,Sz⟩=>?_)
  have I5':=I5.pinned (stat Sz) (T.obj _ _ Nu);refine wpAny_passesOwn hp (eN (hg _ s5 KA H5 x u _ I5' r5 (step x H5 y5)) fun _ s6 ⟨Py,H6,I6,q6⟩=>?_)
  refine wpAny_passesOwn hp (eN (hb _ s6 Py H6 _ I6 q6) fun f s7 q7=>?_)
  have again:∀{AA:St} {H7:Hp},Inv X (pins++pG fp s5.heap) AA H7 s7->N AA H7->∃m,m < n/\∃i dC H',Inv X pins dC H' s7/\tn i s7.heap/\(∀b∈fp,H' b=none)/\W i m dC H':=fun {AA H7} I7 n7=>by
   obtain⟨m',hm,w7⟩:=hN AA H7 n7;refine⟨m',hm,i+1,AA,H7,I7.qf,T.keep _ _ _ Nu fun b hb o e=>(I7.pin (b,o) (List.mem_append_right _ (List.mem_append_right _ (mC hb e)))).1,fun b hb=>?_,w7⟩
   obtain⟨o,e,d⟩:=T.obj _ _ Nu b hb;exact(I7.pin (b,o) (List.mem_append_right _ (List.mem_append_right _ (mC hb e)))).2.1
  cases f with
  | next=>obtain⟨AA,H7,I7,n7⟩:=q7;exact again I7 n7
  | cont=>obtain⟨AA,H7,I7,n7⟩:=q7;exact again I7 n7
  | brk=>obtain⟨AA,H7,I7,q7⟩:=q7;exact⟨AA,H7,I7.qf,q7⟩
  | ret v=>obtain⟨x7,AA,H7,I7,r7,q7⟩:=q7;exact⟨x7,AA,H7,I7.qf,r7,q7⟩
end
abbrev R2:=V->V->Hp->VK->Prop
def oK(X:Cx)(f:Value->Value->Sem Value)(r:R2):Prop:=
 ∀(pins:XX) (s:Shared) (σ:St) (H:Hp) (x y:V) (v u:Value) (Q:VK),Inv X pins σ H s->RelV x v->RelV y u->r x y H Q->
  wpAny (model X.prog X.w) X.A (f v u) (EP X pins σ Q) X.xe s
def Xj(X:Cx)(f:Value->Sem Value)(r:V->Hp->VK->Prop):Prop:=
 ∀(pins:XX) (s:Shared) (σ:St) (H:Hp) (x:V) (v:Value) (Q:VK),Inv X pins σ H s->RelV x v->r x H Q->
  wpAny (model X.prog X.w) X.A (f v) (EP X pins σ Q) X.xe s
def sG(X:Cx)(f:Value)(r:List V->Hp->VK->Prop):Prop:=
 ∀(pins:XX) (s:Shared) (σ:St) (H:Hp) (xs:List V) (us:List Value) (Q:VK),Inv X pins σ H s->Vals xs us->r xs H Q->
  wpAny (model X.prog X.w) X.A (call f us) (EP X pins σ Q) X.xe s
def Rw(X:Cx)(r:V->Hp->(Bool->Hp->Prop)->Prop):Prop:=
 ∀(pins:XX) (s:Shared) (σ:St) (H:Hp) (x:V) (v:Value) (Q:Bool->Hp->Prop),Inv X pins σ H s->RelV x v->r x H Q->
  wpAny (model X.prog X.w) X.A (truthy v) (TP X pins σ Q) X.xe s
def ND(r:R2)(ta tb:TE):TE:=fun σ H Q=>ta σ H fun x H1=>tb σ H1 fun y H2=>r x y H2 Q
def Xw(r:V->Hp->VK->Prop)(ta:TE):TE:=fun σ H Q=>ta σ H fun x H1=>r x H1 Q
def rI(C:Int->Int->Prop)(g:Int->Int->V):R2:=fun x y H Q=>∃i j,x= .int i/\y= .int j/\C i j/\Q (g i j) H
def G2(g:Int->Int->V):R2:=fun x y H Q=>∃i j,x= .int i/\y= .int j/\Q (g i j) H
def rU(g:Int->V):V->Hp->VK->Prop:=fun x H Q=>∃i,x= .int i/\Q (g i) H
section
variable {X:Cx} {a b c:Expr} {ta tb tc:TE} {pos:Pos}
theorem LQ(ha:PE X a ta)(hb:PE X b tb){pins:XX}{s:Shared}{σ:St}{H:Hp}{R:V->V->Hp->Prop}(I:Inv X pins σ H s)
 (h:ta σ H fun x H1=>tb σ H1 fun y H2=>R x y H2) {Q:XY} {f:Value->Value->Sem Value}
 (hf:∀v u s2 x y H2,Inv X pins σ H2 s2->RelV x v->RelV y u->R x y H2->wpAny (model X.prog X.w) X.A (f v u) Q X.xe s2) :
 wpAny (model X.prog X.w) X.A (eval a X.env) (fun v s₁=>wpAny (model X.prog X.w) X.A (eval b X.env) (fun u Nt=>wpAny (model X.prog X.w) X.A (f v u) Q X.xe Nt) X.xe s₁) X.xe s:=by
 refine eN (ha pins s σ H _ I h) fun v s1 ⟨x,H1,I1,r1,q1⟩=>?_
 refine eN (hb pins s1 σ H1 _ I1 q1) fun u s2 ⟨y,H2,I2,r2,q2⟩=>?_
 exact hf v u s2 x y H2 I2 r1 r2 q2
theorem K3{op:Operator}{r:R2}(ho:oK X (binaryOp op) r)(ha:PE X a ta)(hb:PE X b tb):PE X (.BinOp a op b pos) (ND r ta tb):=by
 intro pins s σ H Q I h;exact wpAny_BinOp (LQ ha hb I h fun v u s2 x y H2 I2 rx ry q=>ho pins s2 σ H2 x y v u Q I2 rx ry q)
theorem NI{f:Value->Value->Sem Value}{C:Int->Int->Prop}{g:Int->Int->Int}
 (rule:∀(i j:Int) (t u:Tok) (s:Shared) (Q:XY) (E:XY),C i j->Q (.int (g i j) s.toks) {s with toks:=s.toks+1}->wpAny (model X.prog X.w) X.A (f (.int i t) (.int j u)) Q E s) :
 oK X f (rI C fun i j=> .int (g i j)):=by
 intro pins s σ H x y v u Q I rx ry h;obtain⟨i,j,rfl,rfl,hc,q⟩:=h;obtain⟨t,rfl⟩:=rx;obtain⟨t',rfl⟩:=ry;exact rule i j t t' s _ _ hc ⟨.int (g i j),H,I.tok _,⟨_,rfl⟩,q⟩
theorem HA{f:Value->Value->Sem Value}{g:Int->Int->Int}
 (rule:∀(i j:Int) (t u:Tok) (s:Shared) (Q:XY) (E:XY),Q (.int (g i j) s.toks) {s with toks:=s.toks+1}->wpAny (model X.prog X.w) X.A (f (.int i t) (.int j u)) Q E s) :
 oK X f (G2 fun i j=> .int (g i j)):=by
 intro pins s σ H x y v u Q I rx ry h;obtain⟨i,j,rfl,rfl,q⟩:=h;obtain⟨t,rfl⟩:=rx;obtain⟨t',rfl⟩:=ry;exact rule i j t t' s _ _ ⟨.int (g i j),H,I.tok _,⟨_,rfl⟩,q⟩
theorem NZ{f:Value->Value->Sem Value}{g:Int->Int->Bool}
 (rule:∀(i j:Int) (t u:Tok) (s:Shared) (Q:XY) (E:XY),Q (.bool (g i j)) s->wpAny (model X.prog X.w) X.A (f (.int i t) (.int j u)) Q E s) :
 oK X f (G2 fun i j=> .bl (g i j)):=by
 intro pins s σ H x y v u Q I rx ry h;obtain⟨i,j,rfl,rfl,q⟩:=h;obtain⟨t,rfl⟩:=rx;obtain⟨t',rfl⟩:=ry;exact rule i j t t' s _ _ ⟨.bl (g i j),H,I,rfl,q⟩
def RM(i j:Int):Prop:=0 < j/\j < 1073741824
def Te(i j:Int):Prop:=j≠0/\j.natAbs < 1073741824
def OQ(i j:Int):Prop:=0<=j/\j<=1000000/\i.natAbs < 2 ^ 64
def MZ(i j:Int):Prop:=(-(2 ^ 64) < i/\i < 2 ^ 64)\/(-(2 ^ 64) < j/\j < 2 ^ 64)
theorem MZ.ok{i j:Int}(h:MZ i j):IntMulOk i j:=by
 rcases h with⟨h1,h2⟩ | ⟨h1,h2⟩
 .exact .of_left (intBits_le_64 h1 h2)
 .exact .of_right (intBits_le_64 h1 h2)
theorem BK(k:Nat):(0:Int)<=2 ^ k:=by
 rw[two_pow_cast];exact Int.natCast_nonneg _
theorem Lx:oK X (binaryOp .Add) (G2 fun i j=> .int (i+j)):=HA fun _ _ _ _ _ _ _ q=>add_int q
theorem Mr:oK X (binaryOp .Sub) (G2 fun i j=> .int (i - j)):=HA fun _ _ _ _ _ _ _ q=>sub_int q
theorem My:oK X (binaryOp .Mult) (rI MZ fun i j=> .int (i*j)):=NI fun _ _ _ _ _ _ _ hc q=>mul_int q hc.ok
theorem IG:oK X (binaryOp .FloorDiv) (rI RM fun i j=> .int (i / j)):=NI fun i j _ _ _ _ _ hc q=>by
 have h1:(0:Int) < j:=hc.1;have h2:j < 1073741824:=hc.2;exact floordiv_int (by omega) (by rw[Int.fdiv_eq_ediv_of_nonneg i (by omega)];exact q) (.inl (PyProof.noPylong_small (by omega)))
theorem Nh:oK X (binaryOp .Mod) (rI (fun _ j=>0 < j) fun i j=> .int (i % j)):=NI fun i j _ _ _ _ _ hc q=>by
 have h1:(0:Int) < j:=hc;exact mod_int' (by omega) (by rw[Int.fmod_eq_emod_of_nonneg i (by omega)];exact q)
theorem MP:oK X (binaryOp .Pow) (rI OQ fun i j=> .int (i ^ j.toNat)):=NI fun _ _ _ _ _ _ _ hc q=>pow_int_small hc.1 hc.2.1 hc.2.2 q
theorem Mf:oK X (binaryOp .LShift) (rI OQ fun i j=> .int (i*2 ^ j.toNat)):=NI fun _ _ _ _ _ _ _ hc q=>lshift_int_small hc.1 hc.2.1 hc.2.2 q
theorem MF:oK X (binaryOp .RShift) (rI (fun _ j=>0<=j) fun i j=> .int (i / 2 ^ j.toNat)):=NI fun i j _ _ _ _ _ hc q=>
 rshift_int hc (by rw[Int.fdiv_eq_ediv_of_nonneg i (BK _)];exact q)
theorem Mg:oK X (binaryOp .BitAnd) (G2 fun i j=> .int (Builtin.bitAnd i j)):=HA fun _ _ _ _ _ _ _ q=>and_int q
theorem Ph:oK X (binaryOp .BitOr) (G2 fun i j=> .int (Builtin.bitOr i j)):=HA fun _ _ _ _ _ _ _ q=>or_int q
theorem M_:oK X (binaryOp .BitXor) (G2 fun i j=> .int (Builtin.bitXor i j)):=HA fun _ _ _ _ _ _ _ q=>xor_int q
end
def O9:V->V->Bool
 | .de, .de=>true | .de, .int _=>true | .int _, .de=>true | .de, .bl _=>true | .bl _, .de=>true | .de, .str _=>true | .str _, .de=>true
 | .int _, .int _=>true | .bl _, .bl _=>true | .str _, .str _=>true | .byt _, .byt _=>true
 | .int _, .str _=>true | .str _, .int _=>true | .bl _, .str _=>true | .str _, .bl _=>true
 | _,_=>false
def Vo:R2:=fun x y H Q=>O9 x y=true/\Q (.bl (decide (x=y))) H
def UP:R2:=fun x y H Q=>O9 x y=true/\Q (.bl (!decide (x=y))) H
theorem CC{i j:Int}:decide (V.int i=V.int j)=(i==j):=by
 rw[Bool.eq_iff_iff];simp
theorem GW{i j:Bool}:decide (V.bl i=V.bl j)=(i==j):=by
 rw[Bool.eq_iff_iff];simp
theorem Cw:decide (V.str i=V.str j)=(i==j):=by
 rw[Bool.eq_iff_iff];simp
theorem CO{i j:Array UInt8}:decide (V.byt i=V.byt j)=(i.toList==j.toList):=by
 rw[Bool.eq_iff_iff];cases i;cases j;simp
section
variable {X:Cx} {a b c:Expr} {ta tb tc:TE} {pos:Pos}
theorem cz{pins:XX}{s:Shared}{Q:VK}{k k':Bool}(I:Inv X pins σ H s)(q:Q (.bl k) H)(e:k=k'):EP X pins σ Q (.bool k') s:=by
 subst e;exact⟨.bl k,H,I,rfl,q⟩
theorem FV:oK X (compareOp .Eq) Vo:=by
 intro pins s σ H x y v u Q I rx ry h;obtain⟨hs,q⟩:=h;cases x with
 | de=>
   cases rx;cases y with
   | de=>cases ry;exact PySem.EqNone.eq_none_none (cz I q (by simp))
   | bl j=>cases ry;exact PySem.EqNone.eq_none_bool (cz I q (by simp))
   | int j=>obtain⟨t',rfl⟩:=ry;exact PySem.EqNone.eq_none_int (cz I q (by simp))
   | str j=>obtain⟨t',rfl⟩:=ry;exact PySem.EqNone.eq_none_str (cz I q (by simp))
   | _=>exact absurd (show false=true from hs) Bool.false_ne_true
 | bl i=>
   cases rx;cases y with
   | de=>cases ry;exact PySem.EqNone.eq_bool_none (cz I q (by simp))
   | bl j=>cases ry;exact eq_bool (cz I q GW)
   | str j=>obtain⟨t',rfl⟩:=ry;exact PySem.EqMixed.eq_bool_str (cz I q (by simp))
   | _=>exact absurd (show false=true from hs) Bool.false_ne_true
 | int i=>
   obtain⟨t,rfl⟩:=rx;cases y with
   | de=>cases ry;exact PySem.EqNone.eq_int_none (cz I q (by simp))
   | int j=>obtain⟨t',rfl⟩:=ry;exact eq_int (cz I q CC)
   | str j=>obtain⟨t',rfl⟩:=ry;exact PySem.EqMixed.eq_int_str (cz I q (by simp))
   | _=>exact absurd (show false=true from hs) Bool.false_ne_true
 | str i=>
   obtain⟨t,rfl⟩:=rx;cases y with
   | de=>cases ry;exact PySem.EqNone.eq_str_none (cz I q (by simp))
   | bl j=>cases ry;exact PySem.EqMixed.eq_str_bool (cz I q (by simp))
   | int j=>obtain⟨t',rfl⟩:=ry;exact PySem.EqMixed.eq_str_int (cz I q (by simp))
   | str j=>obtain⟨t',rfl⟩:=ry;exact eq_str (cz I q Cw)
   | _=>exact absurd (show false=true from hs) Bool.false_ne_true
 | byt i=>
   obtain⟨t,rfl⟩:=rx;cases y with
   | byt j=>obtain⟨t',rfl⟩:=ry;exact PySem.W.eq_bytes (cz I q CO)
   | _=>exact absurd (show false=true from hs) Bool.false_ne_true
 | _=>cases y <;> exact absurd (show false=true from hs) Bool.false_ne_true
theorem Fp:oK X (compareOp .NotEq) UP:=by
 intro pins s σ H x y v u Q I rx ry h;obtain⟨hs,q⟩:=h;cases x with
 | de=>
   cases rx;cases y with
   | de=>cases ry;exact PySem.EqNone.ne_none_none (cz I q (by simp))
   | bl j=>cases ry;exact PySem.EqNone.ne_none_bool (cz I q (by simp))
   | int j=>obtain⟨t',rfl⟩:=ry;exact PySem.EqNone.ne_none_int (cz I q (by simp))
   | str j=>obtain⟨t',rfl⟩:=ry;exact PySem.EqNone.ne_none_str (cz I q (by simp))
   | _=>exact absurd (show false=true from hs) Bool.false_ne_true
 | bl i=>
   cases rx;cases y with
   | de=>cases ry;exact PySem.EqNone.ne_bool_none (cz I q (by simp))
   | bl j=>cases ry;exact ne_bool (cz I q (congrArg not GW))
   | str j=>obtain⟨t',rfl⟩:=ry;exact PySem.EqMixed.ne_bool_str (cz I q (by simp))
   | _=>exact absurd (show false=true from hs) Bool.false_ne_true
 | int i=>
   obtain⟨t,rfl⟩:=rx;cases y with
   | de=>cases ry;exact PySem.EqNone.ne_int_none (cz I q (by simp))
   | int j=>obtain⟨t',rfl⟩:=ry;exact ne_int (cz I q (congrArg not CC))
   | str j=>obtain⟨t',rfl⟩:=ry;exact PySem.EqMixed.ne_int_str (cz I q (by simp))
   | _=>exact absurd (show false=true from hs) Bool.false_ne_true
 | str i=>
   obtain⟨t,rfl⟩:=rx;cases y with
   | de=>cases ry;exact PySem.EqNone.ne_str_none (cz I q (by simp))
   | bl j=>cases ry;exact PySem.EqMixed.ne_str_bool (cz I q (by simp))
   | int j=>obtain⟨t',rfl⟩:=ry;exact PySem.EqMixed.ne_str_int (cz I q (by simp))
   | str j=>obtain⟨t',rfl⟩:=ry;exact ne_str (cz I q (congrArg not Cw))
   | _=>exact absurd (show false=true from hs) Bool.false_ne_true
 | byt i=>
   obtain⟨t,rfl⟩:=rx;cases y with
   | byt j=>obtain⟨t',rfl⟩:=ry;exact PySem.W.ne_bytes (cz I q (congrArg not CO))
   | _=>exact absurd (show false=true from hs) Bool.false_ne_true
 | _=>cases y <;> exact absurd (show false=true from hs) Bool.false_ne_true
theorem Ox:oK X (compareOp .Gt) (G2 fun i j=> .bl (decide (j < i))):=NZ fun _ _ _ _ _ _ _ q=>gt_int q
theorem O_:oK X (compareOp .GtE) (G2 fun i j=> .bl (decide (j<=i))):=NZ fun _ _ _ _ _ _ _ q=>ge_int q
theorem D7:oK X (compareOp .In) (fun x y H Q=>∃i j,x= .str i/\y= .str j/\Q (.bl (!(Builtin.Str.occurrences j i 0 j.length 1).isEmpty)) H):=by
 intro pins s σ H x y v u Q I rx ry h;obtain⟨i,j,rfl,rfl,q⟩:=h;obtain⟨t,rfl⟩:=rx;obtain⟨t',rfl⟩:=ry;exact in_str (cz I q rfl)
def isObj:HO->Bool
 | .lst _=>true
 | .ins _ _ _=>true
 | _=>false
theorem bY(b:Expr){op:CmpOp}(h:op≠ .In:=by decide)(h2:op≠ .NotIn:=by decide):behindInMarks op b=false:=by
 have e1:(op==CmpOp.In)=false:=by cases op <;> first | rfl | exact absurd rfl h
 have e2:(op==CmpOp.NotIn)=false:=by cases op <;> first | rfl | exact absurd rfl h2
 cases b <;> simp [behindInMarks,e1,e2]
theorem CJ{op:CmpOp}{r:R2}(ho:oK X (compareOp op) r)(ha:PE X a ta)(hb:PE X b tb)(hm:behindInMarks op b=false):PE X (.Compare a [op] [b] pos) (ND r ta tb):=by
 intro pins s σ H Q I h;exact wpAny_Compare1 (LQ ha hb I h fun v u s2 x y H2 I2 rx ry q=>ho pins s2 σ H2 x y v u Q I2 rx ry q) hm
def O6(t:TE):TT:=fun σ H Q=>t σ H fun x H'=>∃k,x= .bl k/\Q k H'
theorem CL{op:CmpOp}{r:R2}(ho:oK X (compareOp op) r)(ha:PE X a ta)(hb:PE X b tb)(hm:behindInMarks op b=false):PT X (.Compare a [op] [b] pos) (O6 (ND r ta tb)):=by
 intro pins s σ H Q I h;refine wpAny_isTrue_Compare1 (eN (ha pins s σ H _ I h) fun v s1 ⟨x,H1,I1,r1,q1⟩=>eN (hb pins s1 σ H1 _ I1 q1) fun u s2 ⟨y,H2,I2,r2,q2⟩=>
  eN (ho pins s2 σ H2 x y v u _ I2 r1 r2 q2) fun c s3 ⟨z,H3,I3,r3,k,e,q3⟩=>?_) hm
 subst e;cases r3;exact wpAny_truthy_bool ⟨H3,I3,q3⟩
def Ry(r r':R2)(ta tb tc:TE):TE:=fun σ H Q=>ta σ H fun x H1=>tb σ H1 fun y H2=>r x y H2 fun z H3=>∃k,z= .bl k/\
 (if k=true then tc σ H3 fun w' H4=>r' y w' H4 Q else Q (.bl false) H3)
def Jf(K:W.Frag)(x:V)(H:Hp)(k:Bool):Prop:=
 match x with
 | .de=>k=false
 | .bl b=>k=b
 | .int i=>k=(i !=0)
 | .str y=>y.length<=sizeLine/\k=((y.length:Int) !=0)
 | .byt y=>y.size<=sizeLine/\k=((y.size:Int) !=0)
 | .ref p=>(∃xs,pH K H p xs/\k=!xs.isEmpty)\/(∃xs,tF K H p xs/\k=!xs.isEmpty)\/∃ba,H p=some (.dK ba)/\k=!ba.isEmpty
 | _=>False
theorem Bm{κ:Type}{ba:List (κ × V)}{vs:List (κ × Value)}(r:KV ba vs):(!vs.isEmpty)=!ba.isEmpty:=by
 cases r <;> rfl
theorem u_{xs:List V}{its:List Value}(r:Vals xs its):(!its.toArray.isEmpty)=!xs.isEmpty:=by
 cases r <;> simp
theorem rH:(sizeLine:Nat) < 2 ^ 63:=by rw[sizeLine_eq];decide
theorem LD:Rw X (fun x H Q=>∃k,Jf X.K x H k/\Q k H):=by
 intro pins s σ H x v Q I rx h;obtain⟨k,e,q⟩:=h;have hl:=rH;have hs:sizeLine=16777216:=sizeLine_eq;cases x with
 | de=>
   cases rx;have e':k=false:=e;subst e';exact truthy_none ⟨H,I,q⟩
 | bl b=>
   cases rx;have e':k=b:=e;subst e';exact wpAny_truthy_bool ⟨H,I,q⟩
 | int i=>
   obtain⟨t,rfl⟩:=rx;have e':k=(i !=0):=e;subst e';exact PySem.P.truthy_int ⟨H,I,q⟩
 | str y=>
   obtain⟨t,rfl⟩:=rx;obtain⟨hy,e'⟩:y.length<=sizeLine/\k=((y.length:Int) !=0):=e;subst e';exact PySem.P.truthy_str (by omega) ⟨H,I.tok _,q⟩
 | byt y=>
   obtain⟨t,rfl⟩:=rx;obtain⟨hy,e'⟩:y.size<=sizeLine/\k=((y.size:Int) !=0):=e;subst e';exact PySem.W.truthy_bytes (by omega) ⟨H,I.tok _,q⟩
 | ref p=>
   cases rx;have e':(∃xs,pH X.K H p xs/\k=!xs.isEmpty)\/(∃xs,tF X.K H p xs/\k=!xs.isEmpty)\/∃ba,H p=some (.dK ba)/\k=!ba.isEmpty:=e;rcases e' with⟨xs,hx,e'⟩ | ⟨xs,hx,e'⟩ | ⟨ba,hx,e'⟩
   .subst e';obtain⟨its,r,pl,hz⟩:=I.list hx;have hlen:=r.length;exact wpAny_truthy_list pl.isList (by simp only[List.size_toArray];omega) ⟨H,I.tok _,by rw[u_ r];exact q⟩
   .subst e';obtain⟨its,r,pl,hz⟩:=I.tuple hx;have hlen:=r.length;exact truthy_tuple pl (by simp only[List.size_toArray];omega) ⟨H,I.tok _,by rw[u_ r];exact q⟩
   .subst e';obtain⟨hz,hS,vs,r,m⟩:ba.length<=sizeLine/\(p==sysModules)=false/\∃vs,KV ba vs/\s.heap.DictOf (dE X.prog X.w) p vs:=I.hok p _ hx;have hlen:ba.length=vs.length:=Paired.length r;exact wpAny_truthy_dict hS m (by omega) ⟨H,I.tok _,by rw[Bm r];exact q⟩
 | _=>exact(show False from e).elim
theorem zj(ha:PE X a ta)(he:∀whole,isTrue a X.env whole=(do let v <-whole;standAt a.pos;holding [v] (truthy v))) :
 PT X a (fun σ H Q=>ta σ H fun x H'=>∃k,Jf X.K x H' k/\Q k H'):=by
 intro pins s σ H Q I h;exact isTrue_plain (eN (ha pins s σ H _ I h) fun v s1 ⟨x,H1,I1,r1,q1⟩=>LD pins s1 σ H1 x v Q I1 r1 q1) (he _)
theorem BN:oK X (binaryOp .Add) (fun x y H Q=>∃i j,x= .str i/\y= .str j/\i.length+j.length<=sizeLine/\Q (.str (i++j)) H):=by
 intro pins s σ H x y v u Q I rx ry h;obtain⟨i,j,rfl,rfl,hz,q⟩:=h;obtain⟨t,rfl⟩:=rx;obtain⟨t',rfl⟩:=ry;exact add_str (fun t' tk=>⟨.str (i++j),H,I.tok _,⟨_,rfl⟩,q⟩) hz
def O5(b:Expr):Prop:=∀o i,subscripted b false o i=operate [o,i] (getItem o i)
theorem vals1{x:V}{us:List Value}(r:Vals [x] us):∃u,us=[u]/\RelV x u:=by
 cases r with
 | cons r1 r2=>cases r2;exact⟨_,rfl,r1⟩
theorem vals2{x y:V}{us:List Value}(r:Vals [x,y] us):∃u w',us=[u,w']/\RelV x u/\RelV y w':=by
 cases r with
 | cons r1 r2=>
   cases r2 with
   | cons r3 r4=>cases r4;exact⟨_,_,rfl,r1,r3⟩
theorem EB(hc:X.calm=true):sG X (.builtin "max") (fun xs H Q=>∃i j,xs=[.int i, .int j]/\Q (.int (if j > i then j else i)) H):=by
 intro pins s σ H xs us Q I r h;obtain⟨i,j,rfl,q⟩:=h;obtain⟨u,w',rfl,⟨t,rfl⟩,⟨t',rfl⟩⟩:=vals2 r;refine max_two_ints (I.ok.hd hc) fun h' tk k=>⟨_,H,I.kept k,?_,q⟩
 by_cases hj:j > i
 .rw [if_pos hj,if_pos hj];exact⟨_,rfl⟩
 .rw [if_neg hj,if_neg hj];exact⟨_,rfl⟩
theorem EL(hc:X.calm=true):sG X (.builtin "min") (fun xs H Q=>∃i j,xs=[.int i, .int j]/\Q (.int (if j < i then j else i)) H):=by
 intro pins s σ H xs us Q I r h;obtain⟨i,j,rfl,q⟩:=h;obtain⟨u,w',rfl,⟨t,rfl⟩,⟨t',rfl⟩⟩:=vals2 r;refine min_two_ints (I.ok.hd hc) fun h' tk k=>⟨_,H,I.kept k,?_,q⟩
 by_cases hj:j < i
 .rw [if_pos hj,if_pos hj];exact⟨_,rfl⟩
 .rw [if_neg hj,if_neg hj];exact⟨_,rfl⟩
def QF(K:W.Frag)(x:V)(H:Hp)(n:Nat):Prop:=
 match x with
 | .str y=>y.length<=sizeLine/\n=y.length
 | .byt y=>y.size<=sizeLine/\n=y.size
 | .ref p=>(∃xs,pH K H p xs/\n=xs.length)\/∃xs,tF K H p xs/\n=xs.length
 | _=>False
theorem G9:sG X (.builtin "len") (fun xs H Q=>∃x n,xs=[x]/\QF X.K x H n/\Q (.int n) H):=by
 intro pins s σ H xs us Q I r h;obtain⟨x,n,rfl,e,q⟩:=h;obtain⟨u,rfl,rx⟩:=vals1 r;have hl:=rH;have hs:sizeLine=16777216:=sizeLine_eq;cases x with
 | str y=>
   obtain⟨t,rfl⟩:=rx;obtain⟨hy,e'⟩:y.length<=sizeLine/\n=y.length:=e;subst e';exact len_str (by omega) ⟨.int _,H,I.tok _,⟨_,rfl⟩,q⟩
 | byt y=>
   obtain⟨t,rfl⟩:=rx;obtain⟨hy,e'⟩:y.size<=sizeLine/\n=y.size:=e;subst e';exact PySem.W.len_bytes (by omega) ⟨.int _,H,I.tok _,⟨_,rfl⟩,q⟩
 | ref p=>
   cases rx;have e':(∃xs,pH X.K H p xs/\n=xs.length)\/∃xs,tF X.K H p xs/\n=xs.length:=e;rcases e' with⟨xs,hx,e'⟩ | ⟨xs,hx,e'⟩
   .subst e';obtain⟨its,r',pl,hz⟩:=I.list hx;have hlen:=r'.length;exact Calls.call_len_list pl.isList (by simp only[List.size_toArray];omega) ⟨.int xs.length,H,I.tok _,⟨_,by simp only[List.size_toArray];rw [hlen]⟩,q⟩
   .subst e';obtain⟨its,r',pl,hz⟩:=I.tuple hx;have hlen:=r'.length;exact len_tuple pl (by simp only[List.size_toArray];omega) ⟨.int xs.length,H,I.tok _,⟨_,by simp only[List.size_toArray];rw [hlen]⟩,q⟩
 | _=>exact(show False from e).elim
end
structure BX (h:Heap) (x dx C:Addr) (mA:X2):Prop where
 obj:h.get? x=some (PySem.W.instObj C dx)
 ns:h.Ns1 dx mA
 ne:dx≠x
theorem Eo{h:Heap}{dx:Addr}{mA:X2}(n:h.Ns1 dx mA):∃od,h.get? dx=some od/\∀name,PySem.W.lookIn name od=some (mA name):=by
 obtain⟨o,es,ep,ho,hd,hk,_,hm⟩:=n;refine⟨o,ho,fun name=>?_⟩
 have e:=hm name;unfold nsFind findBy at e;rw[<-Array.find?_toList] at e;unfold PySem.W.lookIn;rw[hd];dsimp only;split
 .rename_i y q;rw[q] at e;exact congrArg some e
 .rename_i q;rw[q] at e;have a:es.toList.any (·.refKey)=false:=by
   rw[List.any_eq_false];intro y hy;obtain⟨z,t,hkey⟩:=hk y (Array.mem_toList_iff.mp hy);simp [DictEntry.refKey,hkey]
  have a':¬es.toList.any (·.refKey)=true:=by rw[a];exact Bool.false_ne_true
  rw[if_neg a'];exact congrArg some e
theorem BX.look{x dx C:Addr}{mA:X2}(I:BX h x dx C mA):∃od,PySem.W.InstAt h x (PySem.W.instObj C dx) C (some od)/\∀name,PySem.W.lookIn name od=some (mA name):=
 let⟨od,ho,hl⟩:=Eo I.ns
 ⟨od,⟨I.obj,rfl,rfl,ho⟩,hl⟩
section
variable {prog:Program} {w:World} {A:Around} {E:XY} {s:Shared} {K:W.Frag} {x dx C f:Addr} {mA:X2} {name:Str} {v:Value}
theorem get_map{expr:Bool}{Q:XY}(X:K.In s.heap)(I:BX s.heap x dx C mA)(hg:PySem.W.plainGet K C name=true)(hh:PySem.W.hasDictIn K C=true)
 (ha:PySem.W.findIn K (.ref C) name=some none) (hv:mA name=some v) (WZ:PySem.W.handedIn v=true) (h:Q v {s with toks:=s.toks+1}) :
 wpAny (model prog w) A (getAttr (.ref x) name expr) Q E s:=by
 obtain⟨od,J,hl⟩:=I.look;exact PySem.W.get_value X J (PySem.W.plainGet_of hg).1 (PySem.W.findObj_own hh ha rfl (by rw[hl,hv])) WZ h
theorem HH{pl:Sem Bool}{Q:Value × List Value->Shared->Prop}(X:K.In s.heap)(I:BX s.heap x dx C mA)(hg:PySem.W.plainGet K C name=true)
 (hf:PySem.W.findIn K (.ref C) name=some (some (.ref f))) (ht:PySem.W.isFn K (.ref f)=true) (hv:mA name=none) (h:Q (.ref f,[.ref x]) s) :
 wpAny (model prog w) A (getMethod (.ref x) name pl) Q E s:=by
 obtain⟨od,J,hl⟩:=I.look;exact PySem.W.method_fn X J (PySem.W.plainGet_of hg).1 (PySem.W.plainGet_of hg).2 hf (beq_iff_eq.mp ht) (by show(PySem.W.lookIn name od).map (·.isSome)=some false;rw [hl,hv];rfl) h
theorem Jm{ns:List Str}{Q:Unit->Shared->Prop}(X:K.In s.heap)(I:BX s.heap x dx C mA)
 (hs:PySem.W.findIn K (.ref C) "__setattr__"=some (some (.builtin "object.__setattr__"))) (hp:PySem.W.plainOver K C=true) (ht:PySem.W.takerIn K C name=some none) (hh:PySem.W.hasDictIn K C=true)
 (hw:PySem.Within mA ns) (DA:ns.length<=sizeLine)
 (h:∀h',BX h' x dx C (fun y=>if y=name then some v else mA y)->Heap.SameBut dx s.heap h'->Q () {s with heap:=h',toks:=s.toks+2}) :
 wpAny (model prog w) A (setAttr (.ref x) name v) Q E s:=by
 obtain⟨od,J,hl⟩:=I.look;refine PySem.W.set_plain X J hs (PySem.W.osa_open (s:={s with toks:=s.toks+1}) (r:=none) X J hp ht fun b=>?_)
 obtain⟨cd,hc,Sn⟩:=PySem.W.any_some hh;have hx:s.heap.get? x=some ⟨.ref C,some dx, .plain,#[]⟩:=I.obj;refine wpAny_bind (wpAny_pure (wpAny_bind (wpAny_bind (wpAny_loadPart hx (wpAny_bind (PySem.W.Looks.here (s:={s with toks:=s.toks+1}) (PySem.W.looks_clsIn X hc) ?_))))))
 rw[Sn];refine wpAny_pure (a:=some dx) (wpAny_bind (wpAny_pure (wpAny_bind ?_)));refine wpAny_nsSet1 (s:={s with toks:=s.toks+1}) I.ns fun h' Ky Nz=>?_
 obtain⟨oD,esD,epD,hoD,hdD,hcD⟩:=Ky.count (PySem.Within.cons name v hw);refine wpAny_bind (wpAny_lookBehind hoD (by rw[hdD];exact pastItsLine_dict (Nat.le_trans hcD (by rw[List.length_cons];omega))) ?_)
 exact wpAny_pure (h _ ⟨(Nz.2 _ (Ne.symm I.ne)).trans I.obj,Ky,I.ne⟩ Nz)
theorem Hm{R:Result->Shared->Prop}{vs:List Value}{kw:List (Str × Value)}(X:K.In s.heap)(hm:PySem.W.makesIn K C=true)
 (hi:PySem.W.findIn K (.ref C) "__init__"=some (some (.ref f))) (hf:PySem.W.typeIn K (.ref f)=some (.type "function"))
 (h:codeAny (model prog w) (A.under (.builtin "type.__call__" ⟨.ref C ::vs,kw⟩)) (.call (.ref f) ⟨.ref (s.heap.objs.size+1) ::vs,kw⟩) (PySem.W.InitBack (s.heap.objs.size+1) R)
   {s with heap:=(s.heap.push PySem.W.emptyDict).push (PySem.W.instObj C s.heap.objs.size)}) :
 codeAny (model prog w) A (.call (.ref C) ⟨vs,kw⟩) R s:=by
 obtain⟨hh,g,d,t,os⟩:=s;exact PySem.W.make_core (PySem.W.makes_of X hm) (PySem.W.looks_findIn X hi) (fun self=>PySem.W.bind_fn X self hf) (.inl rfl) h
end
def kW(f:Str)(v:V):List (Str × V)->List (Str × V)
 | []=>[(f,v)]
 | (g,x) ::r=>if g=f then(g,v) ::r else(g,x) ::kW f v r
theorem sj(f g:Str)(v:V):∀fs:List (Str × V),(kW f v fs).lookup g=if g=f then some v else fs.lookup g
 | []=>by
   show List.lookup g [(f,v)]=_;by_cases h:g=f
   .have hb:(g==f)=true:=beq_iff_eq.mpr h;simp only[List.lookup,hb,if_pos h]
   .have hb:(g==f)=false:=beq_eq_false_iff_ne.mpr h;simp only[List.lookup,hb,if_neg h]
 | (k,x) ::r=>by
   have ih:=sj f g v r;rw[show kW f v ((k,x) ::r)=(if k=f then(k,v) ::r else(k,x) ::kW f v r) from rfl]
   by_cases hk:k=f
   .rw [if_pos hk];by_cases h:g=k
    .have hb:(g==k)=true:=beq_iff_eq.mpr h;simp only[List.lookup,hb,if_pos (h.trans hk)]
    .have hb:(g==k)=false:=beq_eq_false_iff_ne.mpr h;simp only[List.lookup,hb,if_neg (fun e:g=f=>h (e.trans hk.symm))]
   .rw [if_neg hk];by_cases h:g=k
    .have hb:(g==k)=true:=beq_iff_eq.mpr h;simp only[List.lookup,hb,if_neg (fun e:g=f=>hk (h.symm.trans e))]
    .have hb:(g==k)=false:=beq_eq_false_iff_ne.mpr h;simp only[List.lookup,hb];exact ih
theorem q8(f:Str)(v:V):∀fs:List (Str × V),f∈(kW f v fs).map (·.1)/\∀g,g∈fs.map (·.1)->g∈(kW f v fs).map (·.1)
 | []=>⟨by simp [kW],fun g h=>by simp at h⟩
 | (k,x) ::r=>by
   obtain⟨i1,i2⟩:=q8 f v r;rw[show kW f v ((k,x) ::r)=(if k=f then(k,v) ::r else(k,x) ::kW f v r) from rfl]
   by_cases hk:k=f
   .rw [if_pos hk];subst hk;exact⟨by simp,fun g h=>by simpa using h⟩
   .rw [if_neg hk];refine⟨?_,fun g h=>?_⟩
    .rw [List.map_cons];exact List.mem_cons_of_mem _ i1
    .rw [List.map_cons] at h ⊢;rcases List.mem_cons.mp h with e | e
     .exact List.mem_cons.mpr (.inl e)
     .exact List.mem_cons_of_mem _ (i2 g e)
theorem sM(f:Str)(v:V):∀fs:List (Str × V),(kW f v fs).length<=fs.length+1
 | []=>by simp [kW]
 | (k,x) ::r=>by
   have ih:=sM f v r;rw[show kW f v ((k,x) ::r)=(if k=f then(k,v) ::r else(k,x) ::kW f v r) from rfl]
   by_cases hk:k=f
   .rw [if_pos hk,List.length_cons,List.length_cons];omega
   .rw [if_neg hk,List.length_cons,List.length_cons];omega
theorem qI.some_of{v:V}{o:Option Value}(r:qI (some v) o):∃u,o=some u/\RelV v u:=by
 cases o with
 | none=>exact(show False from r).elim
 | some u=>exact⟨u,rfl,r⟩
theorem qI.none_of{o:Option Value}(r:qI none o):o=none:=by
 cases o with
 | none=>rfl
 | some u=>exact(show False from r).elim
theorem Ez{v:V}{u:Value}(r:RelV v u):PySem.W.handedIn u=true:=by
 cases v with
 | de=>cases(show u=Value.none from r);rfl
 | bl b=>cases(show u=Value.bool b from r);rfl
 | int i=>obtain⟨t,e⟩:=(show ∃t,u=Value.int i t from r);cases e;rfl
 | str x=>obtain⟨t,e⟩:=(show ∃t,u=Value.str x t from r);cases e;rfl
 | byt b=>obtain⟨t,e⟩:=(show ∃t,u=Value.bytes b t from r);cases e;rfl
 | flt b=>obtain⟨t,e⟩:=(show ∃t,u=Value.float b t from r);cases e;rfl
 | ref a=>cases(show u=Value.ref a from r);rfl
 | ty n=>cases(show u=Value.type n from r);rfl
section
variable {P:Program} {w:World} {H H':Hp} {h h':Heap} {a C dx:Addr} {fs NN:List (Str × V)}
theorem xI(hok:oV P w H h)(e:H a=some (.ins C dx fs)):∃mA,BX h a dx C mA/\(∀f,qI (fs.lookup f) (mA f))/\PySem.Within mA (fs.map (·.1))/\fs.length<=1000/\H dx=some (.own a):=by
 obtain⟨d,z,ne,ob,mA,n,r,q⟩:=(show fL P w H h a (.ins C dx fs) from hok a _ e)
 exact⟨mA,⟨ob,n,ne⟩,r,q,z,d⟩
end
structure yU (K:W.Frag) (C:Addr):Prop where
 pg:PySem.W.plainGet K C Str.empty=true
 hd:PySem.W.hasDictIn K C=true
 po:PySem.W.plainOver K C=true
 sa:PySem.W.findIn K (.ref C) "__setattr__"=some (some (.builtin "object.__setattr__"))
theorem yU.get{K:W.Frag}{C:Addr}(c:yU K C)(f:Str):PySem.W.plainGet K C f=true:=c.pg
def dn(K:W.Frag)(C:Addr)(f:Str):Prop:=PySem.W.findIn K (.ref C) f=some none
theorem dn.O0{K:W.Frag}{C:Addr}(n:dn K C f):PySem.W.takerIn K C f=some none:=by
 unfold PySem.W.takerIn;rw[show PySem.W.findIn K (.ref C) f=some none from n]
 rfl
structure Vp (K:W.Frag) (C:Addr) (f:Str) (v:V) (u:Value):Prop where
 at_:PySem.W.findIn K (.ref C) f=some (some u)
 rel:RelV v u
 get:PySem.W.specialIn K u "__get__"=some none
 cp:PySem.W.copiedNames.contains f=false
structure Meth (K:W.Frag) (C:Addr) (m:Str) (f:Addr):Prop where
 at_:PySem.W.findIn K (.ref C) m=some (some (.ref f))
 fn:PySem.W.isFn K (.ref f)=true
 kp:PySem.W.keepIn K (.ref f)=true
section
variable {X:Cx} {pins:XX} {σ:St} {H:Hp} {s:Shared} {a C dx:Addr} {fs:List (Str × V)} {f:Str} {v:V} {A:Around} {E:XY}
theorem BE{b:Bool}{Q:XY}(I:Inv X pins σ H s)(e:H a=some (.ins C dx fs))(c:yU X.K C)(n:dn X.K C f)(l:fs.lookup f=some v)
 (h:∀u s',Inv X pins σ H s'->RelV v u->Q u s'):wpAny (model X.prog X.w) A (getAttr (.ref a) f b) Q E s:=by
 obtain⟨mA,O,r,_,_,_⟩:=xI I.hok e;obtain⟨u,hu,ru⟩:=qI.some_of (v:=v) (o:=mA f) (by rw[<-l];exact r f)
 exact get_map I.CP O (c.get f) c.hd n hu (Ez ru) (h u _ (I.tok _) ru)
theorem B5{m:Str}{g:Addr}{pl:Sem Bool}{Q:Value × List Value->Shared->Prop}(I:Inv X pins σ H s)(e:H a=some (.ins C dx fs))(c:yU X.K C)(k:Meth X.K C m g)(l:fs.lookup m=none)
 (h:Q (.ref g,[.ref a]) s):wpAny (model X.prog X.w) A (getMethod (.ref a) m pl) Q E s:=by
 obtain⟨mA,O,r,_,_,_⟩:=xI I.hok e;have hn:mA m=none:=qI.none_of (by rw[<-l];exact r m)
 exact HH I.CP O (c.get m) k.at_ k.fn hn h
theorem Bs{y:V}{u:Value}{Q:Unit->Shared->Prop}(I:Inv X pins σ H s)(e:H a=some (.ins C dx fs))(c:yU X.K C)(n:dn X.K C f)(hl:fs.length < 1000)(ry:RelV y u)
 (h:∀s',Inv X pins σ (upd H a (.ins C dx (kW f y fs))) s'->Q () s'):wpAny (model X.prog X.w) A (setAttr (.ref a) f u) Q E s:=by
 obtain⟨mA,O,r,wi,_,ho⟩:=xI I.hok e;have hz:(fs.map (·.1)).length<=sizeLine:=by rw[List.length_map,sizeLine_eq];omega
 refine Jm I.CP O c.sa c.po n.O0 c.hd wi hz fun h' O' sb=>h _ ?_
 have hd:∃o,h'.get? dx=some o:=let⟨o,_,_,e',_⟩:=O'.ns;⟨o,e'⟩
 refine I.write (x:=a) (e:=dx) (by rw[e];exact True.intro) (.inr ho) (fun b q hb z=>(sb.2 b hb).trans z) hd ?_
 refine⟨by rw[bg O.ne];exact ho,?_,O.ne,O'.obj,_,O'.ns,fun g=>?_,fun g hg=>?_⟩
 .have:=sM f y fs;omega
 .show qI ((kW f y fs).lookup g) (if g=f then some u else mA g)
  rw[sj];by_cases q:g=f
  .rw [if_pos q,if_pos q];exact ry
  .rw [if_neg q,if_neg q];exact r g
 .by_cases q:g=f
  .rw [q];exact(q8 f y fs).1
  .refine(q8 f y fs).2 g (wi g fun z=>hg ?_)
   show(if g=f then some u else mA g)=none
   rw[if_neg q];exact z
theorem Inv.made(I:Inv X pins σ H s):Inv X pins σ (upd (upd H s.heap.objs.size (.own (s.heap.objs.size+1))) (s.heap.objs.size+1) (.ins C s.heap.objs.size []))
 {s with heap:=(s.heap.push PySem.W.emptyDict).push (PySem.W.instObj C s.heap.objs.size)}:=by
 have e1:(s.heap.push PySem.W.emptyDict).get? s.heap.objs.size=some PySem.W.emptyDict:=Heap.get?_push_size s.heap rfl;have e2:((s.heap.push PySem.W.emptyDict).push (PySem.W.instObj C s.heap.objs.size)).get? (s.heap.objs.size+1)=some (PySem.W.instObj C s.heap.objs.size):=by
  have:=Heap.get?_push_size (s.heap.push PySem.W.emptyDict) (o:=PySem.W.instObj C s.heap.objs.size) rfl
  rwa [Heap.size_push] at this
 have e3:(s.heap.push PySem.W.emptyDict).Ns s.heap.objs.size (fun _=>none):=⟨PySem.W.emptyDict,#[],_,e1,rfl,(fun e he=>absurd he (by simp)),fun _=>rfl⟩
 have I1:=I.laid (a:=s.heap.objs.size) (o:= .own (s.heap.objs.size+1)) (h':=s.heap.push PySem.W.emptyDict) (t':=s.toks) (fun b u q=>Heap.get?_push_of_some _ q) (Nat.le_refl _) ⟨_,e1⟩
 refine I1.laid (a:=s.heap.objs.size+1) (o:= .ins C s.heap.objs.size []) (t':=s.toks) (fun b u q=>Heap.get?_push_of_some _ q) (Nat.le_of_eq (Heap.size_push _ _)) ?_
 have ne:s.heap.objs.size≠s.heap.objs.size+1:=Nat.ne_of_lt (Nat.lt_succ_self _);refine⟨by rw[bg ne,bq],Nat.zero_le _,ne,e2,fun _=>none,(Heap.Ns1.of_empty e3).at fun o q=>Heap.get?_push_of_some _ q,fun _=>True.intro,fun y hy=>absurd rfl hy⟩
theorem Jt{prog:Program}{w:World}{env:Env}{e:Expr}{f:Str}{pos:Pos}{s:Shared}{Q:XY}(hb:attributeBase e f env (eval e env)=eval e env)
 (h:wpAny (model prog w) A (eval e env) (fun o s₁=>wpAny (model prog w) A (getAttr o f true) Q E s₁) E s):wpAny (model prog w) A (eval (.Attribute e f pos) env) Q E s:=
 Attribute_any_ h (by rw[arm_eval_Attribute,hb])
end
def Q2(K:W.Frag)(ta:TE)(f:Str):TE:=fun σ H Q=>ta σ H fun x H1=>∃a C dx fs v,x= .ref a/\H1 a=some (.ins C dx fs)/\yU K C/\dn K C f/\fs.lookup f=some v/\Q v H1
def Vv(K:W.Frag)(ta:TE)(f:Str):TE:=fun σ H Q=>ta σ H fun x H1=>∃a C dx fs v u,x= .ref a/\H1 a=some (.ins C dx fs)/\yU K C/\Vp K C f v u/\fs.lookup f=none/\Q v H1
def Q5(K:W.Frag)(ta tv:TE)(f:Str):TS:=fun D σ H=>tv σ H fun y H1=>ta σ H1 fun x H2=>∃a C dx fs,x= .ref a/\H2 a=some (.ins C dx fs)/\yU K C/\dn K C f/\fs.length < 1000/\
 D.nx σ (upd H2 a (.ins C dx (kW f y fs)))
def UK(X:Cx)(op:Operator)(rd:V->V->Hp->VK->Prop):Prop:=
 ∀(pins:XX) (s:Shared) (σ:St) (H:Hp) (x y:V) (u v:Value) (Q:VK),Inv X pins σ H s->RelV x u->RelV y v->rd x y H Q->wpAny (model X.prog X.w) X.A (inplaceOp op u v) (EP X pins σ Q) X.xe s
def P8(K:W.Frag)(ta tv:TE)(rd:V->V->Hp->VK->Prop)(f:Str):TS:=fun D σ H=>ta σ H fun x H1=>∃a C dx fs v,x= .ref a/\H1 a=some (.ins C dx fs)/\yU K C/\dn K C f/\fs.lookup f=some v/\
 tv σ H1 fun y H2=>rd v y H2 fun z H3=>∃dx' NN,H3 a=some (.ins C dx' NN)/\NN.length < 1000/\D.nx σ (upd H3 a (.ins C dx' (kW f z NN)))
section
variable {X:Cx} {o e value:Expr} {f:Str} {pos pos' vD:Pos} {ta tv:TE}
theorem ME(he:PE X e ta)(hb:attributeBase e f X.env (eval e X.env)=eval e X.env):PE X (.Attribute e f pos) (Q2 X.K ta f):=by
 intro pins s σ H Q I h;refine Jt hb (eN (he pins s σ H _ I h) fun u s1 ⟨x,H1,I1,rx,a,C,dx,fs,v,ex,ea,c,n,l,q⟩=>?_)
 subst ex;obtain rfl:u=Value.ref a:=rx;exact BE I1 ea c n l fun u' s2 I2 ru=>⟨v,H1,I2,ru,q⟩
theorem Ls(ha:PE X o ta)(hv:PE X value tv)(hs:swapsWith value (some (.Attribute o f pos')) pos.line X.env=pure false):PS X (.Assign [.Attribute o f pos'] value pos) (Q5 X.K ta tv f):=by
 intro pins s σ H D I h;refine plainObj_wpAny_Assign_Attribute (eN (hv pins s σ H _ I h) fun u s1 ⟨y,H1,I1,ry,q⟩=>eN (ha pins s1 σ H1 _ I1 q) fun ov s2 ⟨x,H2,I2,rx,a,C,dx,fs,ex,ea,c,n,l,q2⟩=>?_) hs
 subst ex;obtain rfl:ov=Value.ref a:=rx;exact Bs I2 ea c n l ry fun s3 I3=>⟨σ,_,I3,q2⟩
def Vd:V->V->Hp->VK->Prop:=fun x y H Q=>∃i j,x= .int i/\y= .int j/\Q (.int (i+j)) H
def U0:V->V->Hp->VK->Prop:=fun x y H Q=>∃i j,x= .int i/\y= .int j/\Q (.int (i - j)) H
end
section
variable {X:Cx} {pins:XX} {σ:St} {H:Hp} {s:Shared} {A:Around} {E:XY} {Q:XY} {c:Value} {b:Bool}
inductive vg (K:W.Frag) (H:Hp):V->Value->Prop where
 | de:vg K H .de (.type "NoneType")
 | bl (x:Bool):vg K H (.bl x) (.type "bool")
 | int (i:Int):vg K H (.int i) (.type "int")
 | str (x:Str):vg K H (.str x) (.type "str")
 | flt (x:UInt64):vg K H (.flt x) (.type "float")
 | lst {a:Addr} {xs:List V} (e:H a=some (.lst xs)):vg K H (.ref a) (.type "list")
 | mf {a:Addr} {o:Obj} {xs:List V} (e:H a=some (.mf o (.lst xs))):vg K H (.ref a) (.type "list")
 | tup {a:Addr} {xs:List V} (e:H a=some (.tup xs)):vg K H (.ref a) (.type "tuple")
 | dK {a:Addr} {ba:List (Key × V)} (e:H a=some (.dK ba)):vg K H (.ref a) (.type "dict")
 | dT {a:Addr} {ba:List (List Key × V)} (e:H a=some (.dT ba)):vg K H (.ref a) (.type "dict")
 | ins {a C dx:Addr} {fs:List (Str × V)} (e:H a=some (.ins C dx fs)) (cl:yU K C) (ha:PySem.W.findIn K (.ref C) "__class__"=some (some (.builtin "object.__class__")))
    (hn:PySem.W.specialIn K (.builtin "object.__class__") "__get__"=some (some (.builtin "getset_descriptor.__get__"))) (XH:PySem.W.takesIn K (.builtin "object.__class__")=some true)
    (hm:PySem.W.mroIn K C (.type "object")=some true):vg K H (.ref a) (.ref C)
end
structure eS (k:Nat) (A:Around):Prop where
 hd:A.handled=none
 dp:A.depth+3*k+5 < recursionLimit
 un:A.units+16*k+200 < cLine
theorem eS.mono{j k:Nat}(r:eS k A)(h:j<=k):eS j A:=⟨r.hd,by have:=r.dp;omega,by have:=r.un;omega⟩
theorem eS.deeper{k:Nat}{A:Around}(r:eS (k+1) A)(env:Env):eS k (A.deeper env):=
 ⟨r.hd,by have:=r.dp;show A.depth+1+3*k+5 < _;omega,by have:=r.un;show A.units+3+16*k+200 < _;omega⟩
theorem BH{A:Around}{C:Addr}{us:List Value}{kw:List (Str × Value)}:(A.under (.builtin "type.__call__" ⟨.ref C ::us,kw⟩)).depth=A.depth+1:=by
 first | rfl | simp [Around.under,Code.weight,Code.isCreation,Code.isGuard,Code.isCaller,Code.frames,Code.isFrame,guardIds]
theorem BU{A:Around}{C:Addr}{us:List Value}{kw:List (Str × Value)}:(A.under (.builtin "type.__call__" ⟨.ref C ::us,kw⟩)).units=A.units+1:=by
 first | rfl | simp [Around.under,Code.cUnits,Code.frames,Code.isFrame]
theorem eS.make{k:Nat}{A:Around}(r:eS (k+1) A)(C:Addr)(us:List Value)(kw:List (Str × Value)):eS k (A.under (.builtin "type.__call__" ⟨.ref C ::us,kw⟩)):=
 ⟨r.hd,by have:=r.dp;rw [BH];omega,by have:=r.un;rw [BU];omega⟩
theorem eS.depth{k:Nat}{A:Around}(r:eS k A):A.depth < recursionLimit:=by have:=r.dp;omega
theorem eS.units{k:Nat}{A:Around}(r:eS k A):A.units+64 < cLine:=by have:=r.un;omega
def RF:TA:=fun _ H Q=>Q [] H
def N5(ta:TE)(tr:TA):TA:=fun σ H Q=>ta σ H fun x H1=>tr σ H1 fun xs H2=>Q (x ::xs) H2
section
variable {X:Cx} {e:Expr} {es:List Expr} {te:TE} {t:TA} {pos:Pos}
theorem j5:PA X [] RF:=fun _ _ _ _ H Q I h=>Calls.spliced_nil ⟨[],H,I, .nil,h⟩
theorem gI(ha:PE X e te)(hr:PA X es t)(hs:starEach (e ::es) X.env=(false,eval e X.env) ::starEach es X.env:=by rfl):PA X (e ::es) (N5 te t):=by
 intro pos pins s σ H Q I h;rw[hs];show wpAny _ _ (spliced ((false,eval e X.env) ::backTo pos (starEach es X.env))) _ _ s;refine Calls.spliced_cons (eN (ha pins s σ H _ I h) fun u s1 ⟨x,H1,I1,r1,q1⟩=>?_)
 exact eN (hr pos pins s1 σ H1 _ I1 q1) fun us s2 ⟨xs,H2,I2,r2,q2⟩=>⟨x ::xs,H2,I2, .cons r1 r2,q2⟩
def RN(t:TA):TE:=fun σ H Q=>t σ H fun xs H1=>xs.length<=sizeLine/\∀p,H1 p=none->Q (.ref p) (upd H1 p (.tup xs))
def Q9(t:TA):TE:=fun σ H Q=>t σ H fun xs H1=>xs.length<=sizeLine/\∀p,H1 p=none->Q (.ref p) (upd H1 p (.lst xs))
theorem Fv{x1}(h:PA X es t):PE X (.Tuple es x1 pos) (RN t):=by
 intro pins s σ H Q I hq;refine wpAny_Tuple_spliced (eN (h pos pins s σ H _ I hq) fun us s1 ⟨xs,H1,I1,r,z,q⟩=>⟨by rw[<-r.length];exact z,?_⟩)
 have hf:H1 s1.heap.objs.size=none:=I1.hok.fresh (Nat.le_refl _);refine⟨.ref s1.heap.objs.size,upd H1 s1.heap.objs.size (.tup xs),I1.laid (t':=s1.toks) (fun b u e=>Heap.get?_push_of_some _ e) (Nat.le_refl _) ?_,rfl,q _ hf⟩
 exact⟨z,us,r,⟨_,Heap.get?_push_size _ rfl,rfl,_,rfl⟩⟩
theorem Gw(h:PA X es t):PE X (.List es pos) (Q9 t):=by
 intro pins s σ H Q I hq;refine wpAny_List_spliced (eN (h pos pins s σ H _ I hq) fun us s1 ⟨xs,H1,I1,r,z,q⟩=>⟨by rw[<-r.length];exact z,?_⟩)
 have hf:H1 s1.heap.objs.size=none:=I1.hok.fresh (Nat.le_refl _);refine⟨.ref s1.heap.objs.size,upd H1 s1.heap.objs.size (.lst xs),I1.laid (t':=s1.toks) (fun b u e=>Heap.get?_push_of_some _ e) (Nat.le_refl _) ?_,rfl,q _ hf⟩
 exact⟨z,us,0,r,Heap.get?_push_size _ rfl⟩
end
abbrev Sp:=List V->Hp->VK->XK->Prop
abbrev Gz:=List Env->Hp->Shared->XK->Value->Shared->Prop
structure BR (P:Program) (w:World) (K:W.Frag) (mg:X2) (base:Heap) (A:Around) (outer:List Env) (s:Shared) (H:Hp):Prop where
 frames:A.frames=some outer
 mod:Mod K mg base
 bs:∀b o,base.get? b=some o->s.heap.get? b=some o/\H b=none
 bsz:base.objs.size<=s.heap.objs.size
 tm:s.heap.FunFrames base outer
 frf:∀b∈EU outer,H b=none
 hok:oV P w H s.heap
 bare:AllBare s.gens
def CE(outer:List Env)(P:Program)(w:World)(H:Hp)(s:Shared)(Q:VK)(u:Value)(s':Shared):Prop:=
 ∃v H',s'.os=s.os/\AllBare s'.gens/\Un (EU outer) [] H H' s.heap s'.heap/\oV P w H' s'.heap/\RelV v u/\Q v H'
def CR(CX:Gz)(outer:List Env)(P:Program)(w:World)(H:Hp)(s:Shared)(Q:VK)(E:XK)(r:Result)(s':Shared):Prop:=
 match r with
 | .ok (.ret u)=>CE outer P w H s Q u s'
 | .ok _=>False
 | .error e=>CX outer H s E e s'
structure jC (P:Program) (w:World) (K:W.Frag) (mg:X2) (base:Heap) (CX:Gz) (k:Nat) (f:Addr) (fd:FuncData) (ps:List Str) (sp:Sp):Prop where
 len:∀vs H Q E,sp vs H Q E->vs.length=ps.length
 run:∀(A:Around) (outer:List Env) (s:Shared) (H:Hp) (args:Args) (us:List Value) (vs:List V) (Q:VK) (E:XK),eS k A->BR P w K mg base A outer s H->BindsTo s fd args (ps.zip us)->Vals vs us->sp vs H Q E->
  codeAny (model P w) A (.call (.ref f) args) (CR CX outer P w H s Q E) s
theorem jC.imp{P:Program}{w:World}{K:W.Frag}{mg:X2}{base:Heap}{CX:Gz}{k:Nat}{f:Addr}{fd:FuncData}{ps:List Str}{sp Ua:Sp}(F:jC P w K mg base CX k f fd ps sp)
 (h:∀vs H Q E,Ua vs H Q E->sp vs H Q E):jC P w K mg base CX k f fd ps Ua:=
 ⟨fun vs H Q E q=>F.len vs H Q E (h _ _ _ _ q),fun A outer s H args us vs Q E hr he hb hv hs=>F.run A outer s H args us vs Q E hr he hb hv (h _ _ _ _ hs)⟩
theorem BR.make{K:W.Frag}{mg:X2}{outer:List Env}{s:Shared}(e:BR P w K mg base A outer s H)(C:Addr)(us:List Value)(kw:List (Str × Value)) :
 BR P w K mg base (A.under (.builtin "type.__call__" ⟨.ref C ::us,kw⟩)) outer s H:=⟨by first | exact e.frames | (simpa [Around.under,Code.envs,Code.isFrame,pushEnvs] using e.frames),e.mod,e.bs,e.bsz,e.tm,e.frf,e.hok,e.bare⟩
section
variable {X:Cx} {pins:XX} {σ:St} {H:Hp} {s s':Shared}
theorem Inv.OD(I:Inv X pins σ H s):BR X.prog X.w X.K X.mg X.base X.A X.stack s H:=
 ⟨I.ok.frames,I.ok.mod,I.bs,Nat.le_trans I.ok.bsz I.sz,I.stack,I.CN,I.hok,I.bare⟩
theorem Inv.after{Q:VK}{u:Value}(I:Inv X pins σ H s)(h:CE X.stack X.prog X.w H s Q u s'):EP X pins σ Q u s':=by
 obtain⟨v,H',os,bare,un,hok,r,q⟩:=h;obtain⟨hh,g,d,t,jw⟩:=s';obtain rfl:jw=s.os:=os;exact⟨v,H',I.call (h':=hh) (g':=g) (d':=d) (t':=t) (ch:=[]) un hok bare (fun b z=>absurd z (by simp)),r,q⟩
end
def O3(sp:Sp)(yM:List V)(E:XK)(t:TA):TE:=fun σ H Q=>t σ H fun vs H1=>sp (vs++yM) H1 Q E
def O8(C:Addr)(m:Str)(sp:Sp)(yM:List V)(E:XK)(ta:TE)(t:TA):TE:=fun σ H Q=>ta σ H fun x H1=>∃a dx fs,x= .ref a/\H1 a=some (.ins C dx fs)/\fs.lookup m=none/\
 t σ H1 fun vs H2=>sp (x ::(vs++yM)) H2 Q E
def Of(C:Addr)(sp:Sp)(yM:List V)(E:XK)(t:TA):TE:=fun σ H Q=>t σ H fun vs H1=>∀x dx,H1 x=none->H1 dx=none->dx≠x->
 sp (.ref x ::(vs++yM)) (upd (upd H1 dx (.own x)) x (.ins C dx [])) (fun v H2=>v= .de/\Q (.ref x) H2) E
def Binds(K:W.Frag)(fd:FuncData)(ps:List Str)(ds:List Value):Prop:=
 ∀(s:Shared) (us:List Value),K.In s.heap->(us++ds).length=ps.length->BindsTo s fd ⟨us,[]⟩ (ps.zip (us++ds))
theorem Binds.all{K:W.Frag}{fd:FuncData}{ps:List Str}(h:∀us:List Value,us.length=ps.length->bindArgs fd ⟨us,[]⟩=pure (ps.zip us)):Binds K fd ps []:=fun s us _ hl=>by
 rw[List.append_nil] at hl ⊢;exact .of_eq (h us hl)
def Passes(CX:Gz)(X:Cx)(E:XK):Prop:=∀(pins:XX) (σ:St) (H:Hp) (s:Shared) (e:Value) (s':Shared),Inv X pins σ H s->CX X.stack H s E e s'->X.xe e s'
section
variable {X:Cx} {CX:Gz} {k:Nat} {f C:Addr} {fd:FuncData} {ps:List Str} {sp:Sp} {yM:List V} {ds:List Value} {E:XK} {x m:Str} {p pos apos:Pos} {e o:Expr} {es:List Expr} {ta:TE} {t:TA}
theorem Hb{pins:XX}{σ:St}{H:Hp}{s:Shared}{Q:VK}{us:List Value}{vs:List V}(F:jC X.prog X.w X.K X.mg X.base CX k f fd ps sp)(hr:eS k X.A)(hb:Binds X.K fd ps ds)(hd:Vals yM ds)(hx:Passes CX X E)
 (I:Inv X pins σ H s) (r:Vals vs us) (h:sp (vs++yM) H Q E):wpAny (model X.prog X.w) X.A (call (.ref f) us) (EP X pins σ Q) X.xe s:=by
 have r2:Vals (vs++yM) (us++ds):=r.append hd;have hl:(us++ds).length=ps.length:=by rw[<-r2.length];exact F.len _ _ _ _ h
 refine wpAny_call (codeAny_mono (F.run X.A X.stack s H ⟨us,[]⟩ (us++ds) (vs++yM) Q E hr I.OD (hb s us I.CP hl) r2 h) fun r s' hq=>?_)
 cases r with
 | error e=>exact hx pins σ H s e s' I hq
 | ok fl=>
   cases fl with
   | ret u=>exact I.after hq
   | next=>exact False.elim hq
   | brk=>exact False.elim hq
   | cont=>exact False.elim hq
theorem yC(F:jC X.prog X.w X.K X.mg X.base CX k f fd ps sp)(hr:eS k X.A)(hg:Gl X x)(hm:X.mg x=some (.ref f))(hk:PySem.W.keepIn X.K (.ref f)=true)(hb:Binds X.K fd ps ds)(hd:Vals yM ds)(hx:Passes CX X E)
 (ha:PA X (e ::es) t) (qT:(x==("__debug__":Str))=false:=by decide) (he:starEach (e ::es) X.env=(false,eval e X.env) ::starEach es X.env:=by rfl) (oH:(backTo pos (starEach es X.env)).any (·.1)=false:=by rfl) :
 PE X (.Call (.Name x p) (e ::es) [] pos) (O3 sp yM E t):=by
 intro pins s σ H Q I h;refine wpAny_Call_Name_kw (yJ I hg hm ?_ qT);refine PySem.W.callWith_K (h₀:=X.base) I.ok.mod.kin hk (eN (ha pos pins s σ H _ I h) fun us s1 ⟨vs,H1,I1,r,q⟩=>⟨I1.CP,?_⟩) he oH
 exact Hb F hr hb hd hx I1 r q
theorem Ku{pl:Sem Bool}(he:PE X o ta)(c:yU X.K C)(hm:Meth X.K C m f)(F:jC X.prog X.w X.K X.mg X.base CX k f fd ps sp)(hr:eS k X.A)(hb:Binds X.K fd ps ds)(hd:Vals yM ds)(hx:Passes CX X E)(ha:PA X (e ::es) t)
 (Ig:starEach (e ::es) X.env=(false,eval e X.env) ::starEach es X.env:=by rfl) (oH:(backTo pos (starEach es X.env)).any (·.1)=false:=by rfl)
 (ht:eval (.Call (.Attribute o m apos) (e ::es) [] pos) X.env=(do
   let ov <-eval o X.env
   standAt apos.atName
   let(f,first) <-holding [ov] (getMethod ov m pl)
   callWith pos f first (backTo pos (starEach (e ::es) X.env)) (backToKw pos (keywordEach [] X.env))):=by rfl) :
 PE X (.Call (.Attribute o m apos) (e ::es) [] pos) (O8 C m sp yM E ta t):=by
 intro pins s σ H Q I h;refine PySem.W.methodCall_KW (pl:=pl) (eN (he pins s σ H _ I h) fun u s1 ⟨x,H1,I1,rx,a,dx,fs,ex,ea,l,q⟩=>?_) ht
 subst ex;obtain rfl:u=Value.ref a:=rx;refine B5 I1 ea c hm l ?_;refine PySem.W.callWith_K (first:=[.ref a]) (h₀:=X.base) I.ok.mod.kin hm.kp (eN (ha pos pins s1 σ H1 _ I1 q) fun us s2 ⟨vs,H2,I2,r,q2⟩=>⟨I2.CP,?_⟩) Ig oH
 exact Hb (us:= .ref a ::us) (vs:= .ref a ::vs) F hr hb hd hx I2 (.cons rfl r) q2
structure Mk (K:W.Frag) (C f:Addr):Prop where
 makes:PySem.W.makesIn K C=true
 init:PySem.W.findIn K (.ref C) "__init__"=some (some (.ref f))
 fn:PySem.W.isFn K (.ref f)=true
 kp:PySem.W.keepIn K (.ref C)=true
theorem Gi{pins:XX}{σ:St}{H:Hp}{s:Shared}{Q:VK}{us:List Value}{vs:List V}(M:Mk X.K C f)(F:jC X.prog X.w X.K X.mg X.base CX k f fd ps sp)(hr:eS (k+1) X.A)(hb:Binds X.K fd ps ds)(hd:Vals yM ds)
 (hx:Passes CX X E) (I:Inv X pins σ H s) (r:Vals vs us)
 (h:∀x dx,H x=none->H dx=none->dx≠x->sp (.ref x ::(vs++yM)) (upd (upd H dx (.own x)) x (.ins C dx [])) (fun v H2=>v= .de/\Q (.ref x) H2) E) :
 wpAny (model X.prog X.w) X.A (call (.ref C) us) (EP X pins σ Q) X.xe s:=by
 have hq:=h (s.heap.objs.size+1) s.heap.objs.size (I.hok.fresh (Nat.le_succ _)) (I.hok.fresh (Nat.le_refl _)) (Nat.ne_of_lt (Nat.lt_succ_self _));have I2:=Inv.made (C:=C) I;have r2:Vals (V.ref (s.heap.objs.size+1) ::(vs++yM)) (Value.ref (s.heap.objs.size+1) ::(us++ds)):= .cons rfl (r.append hd);have hl:(Value.ref (s.heap.objs.size+1) ::us++ds).length=ps.length:=by
  have e:=r2.length;rw[F.len _ _ _ _ hq] at e;exact e.symm
 refine wpAny_call (Hm (f:=f) I.CP M.makes M.init (beq_iff_eq.mp M.fn) (codeAny_mono (F.run _ X.stack _ _ ⟨Value.ref (s.heap.objs.size+1) ::us,[]⟩ (Value.ref (s.heap.objs.size+1) ::(us++ds)) _ _ E (hr.make C us [])
  (I2.OD.make C us []) (hb _ (Value.ref (s.heap.objs.size+1) ::us) I2.CP hl) r2 hq) fun r s' Pn=>?_))
 cases r with
 | error e=>exact hx pins σ _ _ e s' I2 Pn
 | ok fl=>
   cases fl with
   | ret u=>
     obtain⟨v,H',I3,rv,ev,q3⟩:=I2.after Pn;subst ev;exact⟨rv,⟨V.ref (s.heap.objs.size+1),H',I3,rfl,q3⟩⟩
   | next=>exact False.elim Pn
   | brk=>exact False.elim Pn
   | cont=>exact False.elim Pn
theorem JR(M:Mk X.K C f)(F:jC X.prog X.w X.K X.mg X.base CX k f fd ps sp)(hr:eS (k+1) X.A)(hg:Gl X x)(hm:X.mg x=some (.ref C))(hb:Binds X.K fd ps ds)(hd:Vals yM ds)(hx:Passes CX X E)
 (ha:PA X (e ::es) t) (qT:(x==("__debug__":Str))=false:=by decide) (he:starEach (e ::es) X.env=(false,eval e X.env) ::starEach es X.env:=by rfl) (oH:(backTo pos (starEach es X.env)).any (·.1)=false:=by rfl) :
 PE X (.Call (.Name x p) (e ::es) [] pos) (Of C sp yM E t):=by
 intro pins s σ H Q I h;refine wpAny_Call_Name_kw (yJ I hg hm ?_ qT);refine PySem.W.callWith_K (h₀:=X.base) I.ok.mod.kin M.kp (eN (ha pos pins s σ H _ I h) fun us s1 ⟨vs,H1,I1,r,q⟩=>⟨I1.CP,?_⟩) he oH
 exact Gi M F hr hb hd hx I1 r q
end
def PK(X:Cx)(Ue:List Keyword)(t:TA):Prop:=
 ∀(pos:Pos) (pins:XX) (s:Shared) (σ:St) (H:Hp) (Q:List V->Hp->Prop),Inv X pins σ H s->t σ H Q->wpAny (model X.prog X.w) X.A (evalAll ((backToKw pos (keywordEach Ue X.env)).map (·.2))) (AP X pins σ Q) X.xe s
section
variable {X:Cx} {CX:Gz} {k:Nat} {f C:Addr} {fd:FuncData} {ps ks:List Str} {sp:Sp} {E:XK} {x m:Str} {p pos apos WH:Pos} {e o:Expr} {es:List Expr} {Ue:List Keyword} {te ta:TE} {t tk:TA} {nm:Option Str}
structure RO (K:W.Frag) (fd:FuncData) (ps ks:List Str) (g:List Value->List Value->List Value) (gV:List V->List V->List V):Prop where
 to:∀(s:Shared) (us ws:List Value),K.In s.heap->(g us ws).length=ps.length->BindsTo s fd ⟨us,ks.zip ws⟩ (ps.zip (g us ws))
 rel:∀{vs:List V} {us:List Value} {zs:List V} {ws:List Value},Vals vs us->Vals zs ws->Vals (gV vs zs) (g us ws)
def Rn(sp:Sp)(gV:List V->List V->List V)(E:XK)(t tk:TA):TE:=fun σ H Q=>t σ H fun vs H1=>tk σ H1 fun zs H2=>sp (gV vs zs) H2 Q E
variable {g:List Value->List Value->List Value} {gV:List V->List V->List V}
end
structure aR (N P:List Str) (sc:Scope):Prop where
 kind:sc.kind= .function
 co:sc.isCoroutine=false
 gen:sc.isGenerator=false
 nd:N.Nodup
 pre:N.take P.length=P
 par:∀x∈P,sc.names.lookup x=some .local\/sc.names.lookup x=some .cell
 nofree:∀y∈sc.names,y.2≠ .free
theorem wX{kindOf:Str->Option NameKind}:∀{binds:List (Str × Value)} {m:X2},(∀v,(x,v) ∉ binds)->bindL kindOf binds m x=m x
 | [],_,_=>rfl
 | (n,v) ::r,m,h=>by
   unfold bindL;rw[wX fun w hw=>h w (List.mem_cons_of_mem _ hw)]
   split
   .have:x≠n:=by rintro rfl;exact h v List.mem_cons_self
    simp [this]
   .rfl
theorem xj{kindOf:Str->Option NameKind}:∀{binds:List (Str × Value)} {m:X2},(∀v,(x,v) ∉ binds)->bindC kindOf binds m x=m x
 | [],_,_=>rfl
 | (n,v) ::r,m,h=>by
   unfold bindC;rw[xj fun w hw=>h w (List.mem_cons_of_mem _ hw)]
   split
   .rfl
   .have:x≠n:=by rintro rfl;exact h v List.mem_cons_self
    simp [this]
theorem wO{kindOf:Str->Option NameKind}{v:Value}:∀{P:List Str} {vs:List Value} {i:Nat} {m:X2},P.Nodup->P[i]? =some x->vs[i]? =some v->kindOf x=some .local->
 bindL kindOf (P.zip vs) m x=some v
 | [],_,_,_,_,h,_,_=>by simp at h
 | _ ::_,[],_,_,_,_,h,_=>by simp at h
 | p ::P,w ::vs,0,m,nd,h1,h2,hk=>by
   simp at h1 h2;subst h1;subst h2;show bindL kindOf ((p,w) ::P.zip vs) m p=_;unfold bindL;rw[wX fun v hv=>(List.nodup_cons.mp nd).1 (List.of_mem_zip hv).1,if_pos hk]
   simp
 | p ::P,w ::vs,i+1,m,nd,h1,h2,hk=>by
   show bindL kindOf ((p,w) ::P.zip vs) m x=_;unfold bindL;exact wO (i:=i) (List.nodup_cons.mp nd).2 (by simpa using h1) (by simpa using h2) hk
theorem wV{kindOf:Str->Option NameKind}{v:Value}:∀{P:List Str} {vs:List Value} {i:Nat} {m:X2},P.Nodup->P[i]? =some x->vs[i]? =some v->kindOf x≠some .local->
 bindC kindOf (P.zip vs) m x=some v
 | [],_,_,_,_,h,_,_=>by simp at h
 | _ ::_,[],_,_,_,_,h,_=>by simp at h
 | p ::P,w ::vs,0,m,nd,h1,h2,hk=>by
   simp at h1 h2;subst h1;subst h2;show bindC kindOf ((p,w) ::P.zip vs) m p=_;unfold bindC;rw[xj fun v hv=>(List.nodup_cons.mp nd).1 (List.of_mem_zip hv).1,if_neg hk]
   simp
 | p ::P,w ::vs,i+1,m,nd,h1,h2,hk=>by
   show bindC kindOf ((p,w) ::P.zip vs) m x=_;unfold bindC;exact wV (i:=i) (List.nodup_cons.mp nd).2 (by simpa using h1) (by simpa using h2) hk
def start(N:List Str)(vs:List V):St:=vs.map some++List.replicate (N.length - vs.length) none
def uJ(CX:Gz)(P:Program)(w:World)(K:W.Frag)(mg:X2)(base:Heap)(N:List Str)(qual:Str)(scope:Scope)(f:Addr)(cd:Value)(A:Around)(outer:List Env)(s:Shared)(H:Hp)(E:XK):Cx where
 prog:=P
 w:=w
 K:=K
 mg:=mg
 base:=base
 A:=A.deeper (envOfC qual scope s.heap.objs.size f cd)
 N:=N
 s₀:=s
 H₀:=H
 env:=envOfC qual scope s.heap.objs.size f cd
 outer:=outer
 stack:=envOfC qual scope s.heap.objs.size f cd ::outer
 ex:=[]
 calm:=true
 fn:=fun _=>true
 pn:=[]
 xe:=fun e s'=>wpAny (model P w) (A.deeper (envOfC qual scope s.heap.objs.size f cd)) (leaving (envOfC qual scope s.heap.objs.size f cd) e) (fun _ RY=>CX outer H s E e RY) (fun e' RY=>CX outer H s E e' RY) s'
theorem vA{sc:Scope}{n:Nat}(h:sc.names.lookup x=some .cell):∃c,(cellsFrom n sc.names []).lookup x=some c:=by
 have q:=PySem.W.cellsFrom_some sc.names n [] (.inl h);exact Option.isSome_iff_exists.mp q
theorem EF{CX:Gz}{P:Program}{w:World}{K:W.Frag}{mg:X2}{base:Heap}{N ps:List Str}{qual:Str}{scope:Scope}{f:Addr}{cd:Value}{A:Around}{outer:List Env}{s s1:Shared}{H:Hp}{E:XK}{us:List Value}{vs:List V}
 (S:aR N ps scope) (hd:A.handled=none) (e0:BR P w K mg base A outer s H) (hl:vs.length=ps.length) (r:Vals vs us)
 (x:InCallC s s.heap.objs.size (bindL (envOfC qual scope s.heap.objs.size f cd).kindOf (ps.zip us) fun _=>none) (cellsFrom (s.heap.objs.size+1) scope.names []) (bindC (envOfC qual scope s.heap.objs.size f cd).kindOf (ps.zip us) fun _=>none) s1) :
 Inv (uJ CX P w K mg base N qual scope f cd A outer s H E) [] (start N vs) H s1:=by
 have oH:ps.length<=N.length:=by have:=congrArg List.length S.pre;rw [List.length_take] at this;omega
 obtain⟨h1,tk,rfl,hk⟩:=x.done;have noA:∀b:Addr,b ∉ (uJ CX P w K mg base N qual scope f cd A outer s H E).ex:=fun b z=>absurd (show b∈([]:List Addr) from z) (by simp)
 refine⟨⟨e0.mod,S.kind,rfl,rfl,Nat.le_refl _,fun y z c h1 h2=>?_,fun y hy=>?_,fun y c _ h=>?_,fun _=>hd,Around.frames_deeper e0.frames, .inr ⟨rfl,rfl⟩,fun b z=>absurd z (noA b),e0.bs,e0.bsz,fun b _ _=>noA b,fun b z=>absurd z (noA b),e0.tm,e0.frf⟩,
  rfl,e0.bare,Un.kept hk,⟨_,x.toInCall.ns,fun i y v h1 h2 h3=>?_⟩,fun y c h=>⟨_,x.cell y c h⟩,e0.hok.fresh (Nat.le_refl _),fun y c h=>?_,fun p hp=>absurd (show p∈([]:XX) from hp) (by simp),e0.hok.kept hk,?_⟩
 .exact name_of_addr x.apart (PySem.mem_of_lookup h1) (PySem.mem_of_lookup h2)
 .have hy:scope.names.lookup y=some .cell\/scope.names.lookup y=some .free:=hy;rcases hy with hy | hy
  .exact vA hy
  .exact absurd rfl (S.nofree _ (PySem.mem_of_lookup hy))
 .exact Nat.le_of_lt (x.above y c (PySem.mem_of_lookup h))
 .have hi:i < vs.length:=by
   unfold start at h2;by_cases hi:i < vs.length
   .exact hi
   .rw [List.getElem?_append_right (by simpa using hi)] at h2
    rw[List.getElem?_replicate] at h2;split at h2 <;> cases h2
  have ha:vs[i]? =some v:=by
   unfold start at h2;rw[List.getElem?_append_left (by simpa using hi),List.getElem?_map] at h2
   cases e:vs[i]? with
   | none=>rw [e] at h2;cases h2
   | some a=>rw [e] at h2;cases h2;rfl
  obtain⟨u,hu,rv⟩:=r.get ha;have hp:ps[i]? =some y:=by
   rw[<-S.pre,List.getElem?_take_of_lt (by omega)];exact h1
  have ndP:ps.Nodup:=by rw[<-S.pre];exact S.nd.sublist (List.take_sublist _ _)
  refine⟨u,rv,?_⟩;rcases S.par y (List.mem_of_getElem? hp) with k | k
  .exact .inl ⟨k,wO ndP hp hu k⟩
  .obtain⟨c,e⟩:=vA (n:=s.heap.objs.size+1) k;refine .inr ⟨.inl k,c,e,?_⟩;have q:=x.cell y c e;rw[wV ndP hp hu (by show scope.names.lookup y≠_;rw [k];decide)] at q
   exact q
 .exact e0.hok.fresh (Nat.le_of_lt (x.above y c (PySem.mem_of_lookup h)))
 .unfold start;show _=N.length;rw[List.length_append,List.length_map,List.length_replicate];omega
theorem Ob{CX:Gz}{P:Program}{w:World}{K:W.Frag}{mg:X2}{base:Heap}{k:Nat}{f:Addr}{name qual:Str}{params:Arguments}{body:List Stmt}{scope:Scope}{dV kV doc pm dD ct oc:Value}{an od:Option Addr}
 {Iv:Array (Option Value)} {N ps:List Str} {sp:Sp} (lk:K.lookup f=some ⟨oc,od, .func (PySem.W.fnOf name qual params body scope dV kV doc pm an dD ct),Iv⟩) (r6:PySem.W.codeIn K dD qual=true) (S:aR N ps scope)
 (len:∀vs H Q E,sp vs H Q E->vs.length=ps.length)
 (lY:∀(A:Around) (outer:List Env) (s:Shared) (H:Hp) (vs:List V) (Q:VK) (E:XK),eS k (A.deeper (envOfC qual scope s.heap.objs.size f dD))->sp vs H Q E->
   ∃t,yV (uJ CX P w K mg base N qual scope f dD A outer s H E) body t/\t {nx:=fun _ H'=>Q .de H',rt:=Q} (start N vs) H) :
 jC P w K mg base CX (k+1) f (PySem.W.fnOf name qual params body scope dV kV doc pm an dD ct) ps sp:=by
 refine⟨len,fun A outer s H args us vs Q E hr e0 hb r NP=>?_⟩
 have hl:=len _ _ _ _ NP;have KX:K.In s.heap:=e0.mod.kin.keeps fun b o e=>(e0.bs b o e).1
 have lim:s.heap.NoLimit:=e0.mod.nolimit.keeps fun b o e=>(e0.bs b o e).1
 have hkind:∀y∈ps.zip us,scope.names.lookup y.1=some .local\/(scope.names.lookup y.1=some .cell/\((cellsFrom (s.heap.objs.size+1) scope.names []).lookup y.1).isSome=true):=fun⟨n,v⟩ hy=>by
  rcases S.par n (List.of_mem_zip hy).1 with q | q
  .exact .inl q
  .exact .inr ⟨q,PySem.W.cellsFrom_some _ _ _ (.inl q)⟩
 refine codeAny_call_function hr.depth (KX _ _ lk) rfl S.co S.gen rfl (PySem.W.codeRec_of KX r6) (hb _ _ _ _ ?_);refine wpAny_newFunctionEnv_cells S.kind hkind fun env he s1 x=>?_
 subst he;refine⟨lim.keeps x.toInCall.keep,codeAny_func ?_⟩;obtain⟨t,ht,hq⟩:=lY A outer s H vs Q E (hr.deeper _) NP;have I:Inv (uJ CX P w K mg base N qual scope f dD A outer s H E) [] (start N vs) H s1:=EF S hr.hd e0 hl r x;refine wpAny_mono (ht [] s1 (start N vs) H _ I hq) (fun fl s' hs=>?_) fun e s' hs=>hs
 have fin:∀{dC:St} {H':Hp} {v:V} {u:Value},Inv (uJ CX P w K mg base N qual scope f dD A outer s H E) [] dC H' s'->RelV v u->Q v H'->CE outer P w H s Q u s':=
  fun {dC H' v u} J rv q=>⟨v,H',J.os,J.bare,J.base,J.hok,rv,q⟩
 cases fl with
 | ret u=>
   obtain⟨v,dC,H',J,rv,q⟩:=hs;exact fin J rv q
 | next=>
   obtain⟨dC,H',J,q⟩:=hs;exact fin (v:=V.de) (u:=Value.none) J rfl q
 | brk=>
   obtain⟨_,_,_,q⟩:=hs;exact False.elim q
 | cont=>
   obtain⟨_,_,_,q⟩:=hs;exact False.elim q
section
variable {X:Cx} {x:Str} {p pos:Pos} {e:Expr} {es:List Expr} {t:TA} {id T:String} {r:List V->Hp->VK->Prop}
def SU(r:List V->Hp->VK->Prop)(t:TA):TE:=fun σ H Q=>t σ H fun vs H1=>r vs H1 Q
theorem Aa(hc:sG X (.builtin id) r)(hg:Gl X x)(hm:X.mg x=none)(hv:bootBuiltins x=some (.builtin id))(ha:PA X (e ::es) t)(hn:x≠"__name__":=by decide)(qT:(x==("__debug__":Str))=false:=by decide)
 (he:starEach (e ::es) X.env=(false,eval e X.env) ::starEach es X.env:=by rfl) (oH:(backTo pos (starEach es X.env)).any (·.1)=false:=by rfl):PE X (.Call (.Name x p) (e ::es) [] pos) (SU r t):=by
 intro pins s σ H Q I h;refine wpAny_Call_Name_kw (pP I hg hm hv ?_ hn qT);exact PyProof.Rows.callWith_builtin1 (eN (ha pos pins s σ H _ I h) fun us s1 ⟨vs,H1,I1,r1,q1⟩=>hc pins s1 σ H1 vs us Q I1 r1 q1) he oH
theorem DX(hc:sG X (.type T) r)(hg:Gl X x)(hm:X.mg x=none)(hv:bootBuiltins x=some (.type T))(ha:PA X (e ::es) t)(hn:x≠"__name__":=by decide)(qT:(x==("__debug__":Str))=false:=by decide)
 (he:starEach (e ::es) X.env=(false,eval e X.env) ::starEach es X.env:=by rfl) (oH:(backTo pos (starEach es X.env)).any (·.1)=false:=by rfl):PE X (.Call (.Name x p) (e ::es) [] pos) (SU r t):=by
 intro pins s σ H Q I h;refine wpAny_Call_Name_kw (pP I hg hm hv ?_ hn qT);exact PyProof.Rows.callWith_type1 (eN (ha pos pins s σ H _ I h) fun us s1 ⟨vs,H1,I1,r1,q1⟩=>hc pins s1 σ H1 vs us Q I1 r1 q1) he oH
end
section
variable {κ:Type} [DecidableEq κ]
def nc(ba:List (κ × V))(k:κ):Option V:=(ba.find? fun kv=>decide (kv.1=k)).map (·.2)
def putK(ba:List (κ × V))(k:κ)(v:V):List (κ × V):=
 if(ba.any fun kv=>decide (kv.1=k))=true then ba.map (fun kv=>if kv.1=k then(kv.1,v) else kv) else ba++[(k,v)]
def GV(ba:List (κ × V))(k:κ):List (κ × V):=ba.filter fun kv=>decide (kv.1≠k)
theorem y8{p:κ × V}{r:List (κ × V)}{k:κ}(e:p.1=k):nc (p ::r) k=some p.2:=by simp [nc,List.find?_cons,e]
theorem z8{p:κ × V}{r:List (κ × V)}{k:κ}(e:¬p.1=k):nc (p ::r) k=nc r k:=by simp [nc,List.find?_cons,e]
theorem y_(ba:List (κ × V))(k:κ)(v:V):(putK ba k v).length<=ba.length+1:=by
 unfold putK;split
 .rw [List.length_map];omega
 .rw [List.length_append,List.length_cons,List.length_nil];omega
theorem qI.getD{o:Option V}{u:Option Value}{d:V}{d':Value}(r:qI o u)(rd:RelV d d'):RelV (o.getD d) (u.getD d'):=by
 cases o with
 | none=>cases u with
   | none=>exact rd
   | some _=>exact(show False from r).elim
 | some _=>cases u with
   | none=>exact(show False from r).elim
   | some _=>exact r
theorem KV.val{ba:List (κ × V)}{vs:List (κ × Value)}(r:KV ba vs)(k:κ):qI (nc ba k) (valueAt vs k):=by
 unfold KV at r
 induction r with
 | nil=>exact True.intro
 | @cons p q ps qs h t ih=>
   obtain⟨h1,h2⟩:=h;by_cases e:p.1=k
   .have e':q.1=k:=h1.symm.trans e;have b:valueAt (q ::qs) k=some q.2:=by simp [valueAt,List.find?_cons,e']
    rw[y8 e,b];exact h2
   .have e':¬q.1=k:=fun z=>e (h1.trans z)
    have b:valueAt (q ::qs) k=valueAt qs k:=by simp [valueAt,List.find?_cons,e']
    rw[z8 e,b];exact ih
theorem KV.any{ba:List (κ × V)}{vs:List (κ × Value)}(r:KV ba vs)(k:κ):(ba.any fun kv=>decide (kv.1=k))=vs.any fun kv=>decide (kv.1=k):=by
 unfold KV at r
 induction r with
 | nil=>rfl
 | cons h t ih=>rw [List.any_cons,List.any_cons,ih,h.1]
theorem KV.Rm{ba:List (κ × V)}{vs:List (κ × Value)}(r:KV ba vs)(k:κ){y:V}{u:Value}(ry:RelV y u) :
 KV (ba.map fun kv=>if kv.1=k then(kv.1,y) else kv) (vs.map fun kv=>if kv.1=k then(kv.1,u) else kv):=by
 unfold KV at r ⊢
 induction r with
 | nil=>exact .nil
 | @cons p q ps qs h t ih=>
   rw[List.map_cons,List.map_cons];refine .cons ?_ ih;obtain⟨h1,h2⟩:=h;by_cases e:p.1=k
   .rw [if_pos e,if_pos (h1.symm.trans e)];exact⟨h1,ry⟩
   .rw [if_neg e,if_neg (fun z=>e (h1.trans z))];exact⟨h1,h2⟩
theorem KV.put{ba:List (κ × V)}{vs:List (κ × Value)}(r:KV ba vs)(k:κ){y:V}{u:Value}(ry:RelV y u):KV (putK ba k y) (stored vs k u):=by
 unfold putK stored;rw[r.any k];by_cases e:(vs.any fun kv=>decide (kv.1=k))=true
 .rw [if_pos e,if_pos e];exact r.Rm k ry
 .rw [if_neg e,if_neg e];exact Paired.snoc r ⟨rfl,ry⟩
end
theorem F6{k:Key}{u:Value}(r:RelV (kV k) u):(dE P w).is k u=true:=by
 cases k with
 | inl i=>obtain⟨t,e⟩:=(show ∃t,u=Value.int i t from r);subst e;exact zU P w i t
 | inr x=>obtain⟨t,e⟩:=(show ∃t,u=Value.str x t from r);subst e;exact zw P w x t
theorem wJ:∀{ks:List Key} {us:List Value},Vals (ks.map kV) us->ItemsAre (dE P w) ks us
 | [],_,r=>by rw[List.map_nil] at r;cases r;exact .nil
 | k ::ks,_,r=>by
   rw[List.map_cons] at r;cases r with
   | cons h t=>exact .cons (F6 h) (wJ t)
abbrev KT(H:Hp):List (List Key × V)->List (List Key × Addr × Value)->Prop:=Paired fun p q=>p.1=q.1/\H q.2.1=some (.tup (p.1.map kV))/\RelV p.2 q.2.2
theorem KT.val{ba:List (List Key × V)}{xs:List (List Key × Addr × Value)}(r:KT H ba xs)(k:List Key):qI (nc ba k) ((atKey xs k).map (·.2)):=by
 induction r with
 | nil=>exact True.intro
 | @cons p q ps qs h t ih=>
   obtain⟨h1,_,h2⟩:=h;by_cases e:p.1=k
   .have e':q.1=k:=h1.symm.trans e;have b:atKey (q ::qs) k=some q.2:=by simp [atKey,List.find?_cons,e']
    rw[y8 e,b];exact h2
   .have e':¬q.1=k:=fun z=>e (h1.trans z)
    have b:atKey (q ::qs) k=atKey qs k:=by simp [atKey,List.find?_cons,e']
    rw[z8 e,b];exact ih
section
variable {P:Program} {w:World} {H:Hp} {h:Heap} {a:Addr}
theorem KL{u:HO}(ok:oV P w H h)(e:Rd H a u):fL P w H h a u:=e.ok ok
theorem Gf{ba:List (Key × V)}(ok:oV P w H h)(e:Rd H a (.dK ba)):ba.length<=sizeLine/\(a==sysModules)=false/\∃vs,KV ba vs/\h.DictOf (dE P w) a vs:=
 show fL P w H h a (.dK ba) from KL ok e
theorem Ow{ba:List (Key × V)}(ok:oV P w H h)(e:H a=some (.dK ba)):ba.length<=sizeLine/\(a==sysModules)=false/\∃vs,KV ba vs/\h.DictOf (dE P w) a vs:=Gf ok (.inl e)
theorem F3{ks:List Key}(ok:oV P w H h)(e:H a=some (.tup (ks.map kV))):(tupleKind (dE P w)).is h ks a:=by
 obtain⟨_,its,r,o,h1,h2,n,h3⟩:=(show fL P w H h a (.tup (ks.map kV)) from ok a _ e)
 exact⟨o,its.toArray,n,h1,h2,h3,by simpa using wJ r⟩
theorem Le{ba:List (List Key × V)}(ok:oV P w H h)(e:Rd H a (.dT ba)):ba.length<=sizeLine/\(a==sysModules)=false/\
 ∃xs,KT H ba xs/\h.DictOfH (tupleKind (dE P w)) a xs:=by
 obtain⟨z,y,xs,r,o,es,ep,h1,h2,h3,h4,h5⟩:=(show fL P w H h a (.dT ba) from KL ok e)
 refine⟨z,y,xs,r,o,es,ep,h1,h2,h3,h4,fun x hx=>?_,h5⟩
 have all:∀{l:List (List Key × V)} {m:List (List Key × Addr × Value)},KT H l m->∀x∈m,(tupleKind (dE P w)).is h x.1 x.2.1:=by
  intro l m q
  induction q with
  | nil=>intro x hx;exact nomatch hx
  | @cons p q ps qs hq t ih=>
    intro x hx;rcases List.mem_cons.mp hx with e | hx
    .subst e;exact F3 ok (by rw[<-hq.1];exact hq.2.1)
    .exact ih x hx
 exact all r x hx
end
def wd(H:Hp)(a:Addr)(y:V)(r:Option V):Prop:=
 (∃ba k,Rd H a (.dK ba)/\y=kV k/\r=nc ba k)\/∃ba k b,Rd H a (.dT ba)/\y= .ref b/\H b=some (.tup (k.map kV))/\r=nc ba k
def Pg(H:Hp)(a:Addr)(y v:V)(H':Hp):Prop:=
 (∃ba k,H a=some (.dK ba)/\y=kV k/\ba.length < sizeLine/\H'=upd H a (.dK (putK ba k v)))\/
 ∃ba k b,H a=some (.dT ba)/\y= .ref b/\H b=some (.tup (k.map kV))/\ba.length < sizeLine/\H'=upd H a (.dT (putK ba k v))
theorem wd.k{H:Hp}{a:Addr}{ba:List (Key × V)}{k:Key}(e:H a=some (.dK ba)):wd H a (kV k) (nc ba k):= .inl ⟨ba,k, .inl e,rfl,rfl⟩
section
variable {X:Cx} {pins:XX} {σ:St} {H:Hp} {s:Shared} {a:Addr} {y v:V} {u r:Value} {o:Option V} {A:Around} {E:XY}
theorem Inv.big(I:Inv X pins σ H s):sysModules < s.heap.objs.size:=by
 have h:mainGlobals < s.heap.objs.size:=(I.mod.glob.keeps I.bk).lt;exact Nat.lt_trans (by decide) h
theorem IZ{h':Heap}{t':Nat}{ob:HO}(I:Inv X pins σ H s)(mu:Pj (H a))(hs:Heap.SameBut a s.heap h')(he:∃q,h'.get? a=some q)(new:fL X.prog X.w (upd H a ob) h' a ob) :
 Inv X pins σ (upd H a ob) {s with heap:=h',toks:=t'}:=
 I.write (x:=a) (e:=a) mu (.inl rfl) (fun b q hb z=>(hs.2 b hb).trans z) he new
theorem LA{H':Hp}{h':Heap}{ba:List (Key × V)}{vs:List (Key × Value)}(z:ba.length<=sizeLine)(hd:(a==sysModules)=false)(rel:KV ba vs)(dd:h'.DictOf (dE P w) a vs) :
 fL P w H' h' a (.dK ba):=⟨z,hd,vs,rel,dd⟩
end
section
variable {X:Cx} {pins:XX} {σ:St} {H:Hp} {s:Shared} {a:Addr} {ba:List (Key × V)} {k:Key} {u:Value} {A:Around} {E:XY}
end
def Ut(i:Expr):Prop:=∀ov iv,subscripted i false ov iv=operate [ov,iv] (getItem ov iv)
def Tj(td ty:TE):TE:=fun σ H Q=>td σ H fun x H1=>ty σ H1 fun y H2=>∃a v,x= .ref a/\wd H2 a y (some v)/\Q v H2
def Vu(ty td:TE):TE:=fun σ H Q=>ty σ H fun y H1=>td σ H1 fun x H2=>∃a o,x= .ref a/\wd H2 a y o/\Q (.bl o.isSome) H2
def Qd(ty td:TE):TE:=fun σ H Q=>ty σ H fun y H1=>td σ H1 fun x H2=>∃a o,x= .ref a/\wd H2 a y o/\Q (.bl (!o.isSome)) H2
def SG(td ty tv:TE):TS:=fun D σ H=>tv σ H fun v H1=>td σ H1 fun x H2=>ty σ H2 fun y H3=>∃a H4,x= .ref a/\Pg H3 a y v H4/\D.nx σ H4
def Tq(td ty tv:TE)(rd:V->V->Hp->VK->Prop):TS:=fun D σ H=>td σ H fun x H1=>ty σ H1 fun y H2=>∃a v,x= .ref a/\wd H2 a y (some v)/\
 tv σ H2 fun y2 H3=>rd v y2 H3 fun z H4=>∃H5,Pg H4 a y z H5/\D.nx σ H5
def S9(td ty:TE):TS:=fun D σ H=>td σ H fun x H1=>ty σ H1 fun y H2=>∃a ba k,x= .ref a/\H2 a=some (.dK ba)/\y=kV k/\(nc ba k).isSome=true/\D.nx σ (upd H2 a (.dK (GV ba k)))
section
variable {X:Cx} {o i e value:Expr} {pos pos' vD:Pos} {td ty tv:TE}
end
theorem Gg(h:Heap)(hb:sysModules < h.objs.size):fL P w H (h.push {cls:= .type "dict",data:= .dict #[]}) h.objs.size (.dK []):=
 ⟨Nat.zero_le _,beq_eq_false_iff_ne.mpr (Ne.symm (Nat.ne_of_lt hb)),[], .nil,Heap.DictOf.new h⟩
def Ro:TE:=fun _ H Q=>∀p,H p=none->Q (.ref p) (upd H p (.dK []))
def Q1:TE:=fun _ H Q=>∀p,H p=none->Q (.ref p) (upd H p (.dT []))
section
variable {X:Cx} {pos:Pos}
end
def qZ:List (TE × TE)->St->Hp->(List (V × V)->Hp->Prop)->Prop
 | [],_,H,Q=>Q [] H
 | (tk,tv) ::r,σ,H,Q=>tk σ H fun x H1=>tv σ H1 fun y H2=>qZ r σ H2 fun ps H3=>Q ((x,y) ::ps) H3
abbrev VV:List (V × V)->List (Value × Value)->Prop:=Paired fun p q=>RelV p.1 q.1/\RelV p.2 q.2
def LJ(X:Cx)(pos:Pos)(keys:List (Option Expr))(values:List Expr)(xp:List (TE × TE)):Prop:=
 ∀(pins:XX) (s:Shared) (σ:St) (H:Hp) (Q:List (V × V)->Hp->Prop),Inv X pins σ H s->qZ xp σ H Q->
  wpAny (model X.prog X.w) X.A (evalPairs (pairTrees keys values X.env pos)) (fun vs s'=>∃ps H',Inv X pins σ H' s'/\VV ps vs/\Q ps H') X.xe s
theorem C_{X:Cx}:LJ X pos [] [] []:=fun pins s σ H Q I h=>pairTrees_nil_walk ⟨[],H,I, .nil,h⟩
theorem p7{X:Cx}{ks:List (Option Expr)}{tk tv:TE}{xp:List (TE × TE)}(hk:PE X k tk)(hv:PE X v tv)(hr:LJ X pos ks vs xp) :
 LJ X pos (some k ::ks) (v ::vs) ((tk,tv) ::xp):=fun pins s σ H Q I h=>
 pairTrees_cons_walk (eN (hk pins s σ H _ I h) fun u s1 ⟨x,H1,I1,rx,q1⟩=>eN (hv pins s1 σ H1 _ I1 q1) fun w2 s2 ⟨y,H2,I2,ry,q2⟩=>
  eN (hr pins s2 σ H2 _ I2 q2) fun ws s3 ⟨ps,H3,I3,rel,q3⟩=>⟨(x,y) ::ps,H3,I3, .cons ⟨rx,ry⟩ rel,q3⟩)
def k0(ba more:List (Key × V)):List (Key × V):=more.foldl (fun acc kv=>putK acc kv.1 kv.2) ba
theorem KV.merge:∀{more:List (Key × V)} {rs:List (Key × Value)} {ba:List (Key × V)} {vs:List (Key × Value)},KV more rs->KV ba vs->KV (k0 ba more) (merged vs rs):=by
 intro more rs ba vs r;unfold KV at r
 induction r generalizing ba vs with
 | nil=>intro q;exact q
 | @cons p q ps qs h t ih=>
   intro r0;have e:KV (putK ba p.1 p.2) (stored vs q.1 q.2):=by
    have:=r0.put p.1 h.2;rw[<-h.1];exact this
   exact ih e
theorem oY:∀(more ba:List (Key × V)),(k0 ba more).length<=ba.length+more.length
 | [],ba=>by show ba.length<=ba.length+0;omega
 | p ::r,ba=>by
   have h1:=oY r (putK ba p.1 p.2);have h2:=y_ ba p.1 p.2;show(k0 (putK ba p.1 p.2) r).length<=_;rw[List.length_cons];omega
theorem ve:∀{ba:List (Key × V)} {ws:List (Value × Value)},VV (ba.map fun kv=>(kV kv.1,kv.2)) ws->∃rs,Carries (dE P w) ws rs/\KV ba rs
 | [],_,r=>by rw[List.map_nil] at r;cases r;exact⟨[],True.intro, .nil⟩
 | p ::ba,_,r=>by
   rw[List.map_cons] at r;cases r with
   | @cons a b as bs h t=>
     obtain⟨rs,c,q⟩:=ve (P:=P) (w:=w) t;obtain⟨b1,b2⟩:=b;exact⟨(p.1,b2) ::rs,⟨F6 h.1,rfl,c⟩, .cons ⟨rfl,h.2⟩ q⟩
def Hc(xp:List (TE × TE)):TE:=fun σ H Q=>∀p,H p=none->qZ xp σ (upd H p (.dK [])) fun ps H2=>H2 p=some (.dK [])/\∃ba:List (Key × V),ps=ba.map (fun kv=>(kV kv.1,kv.2))/\ba.length<=15/\Q (.ref p) (upd H2 p (.dK (k0 [] ba)))
theorem Ke{X:Cx}{pos:Pos}{keys:List (Option Expr)}{values:List Expr}{xp:List (TE × TE)}(h:LJ X pos keys values xp)(ET:keys.all (·.isSome)=true)(hl:keys.length=values.length)(h0:keys≠[])
 (VM:keys.length<=15):PE X (.Dict keys values pos) (Hc xp):=by
 intro pins s σ H Q I q;have hn:=I.hok.fresh (Nat.le_refl s.heap.objs.size);have I1:=I.laid (a:=s.heap.objs.size) (o:= .dK []) (h':=s.heap.push {cls:= .type "dict",data:= .dict #[]}) (t':=s.toks) (fun _ _ q=>Heap.get?_push_of_some _ q) (Nat.le_refl _) (Gg s.heap I.big)
 refine wpAny_Dict_walk (knd:=dE X.prog X.w) ET hl h0 VM (eN (h pins _ σ _ _ I1 (q _ hn)) fun ws s2 ⟨ps,H2,I2,rel,e,ba,ep,lk,q2⟩=>?_)
 subst ep;obtain⟨rs,c,rk⟩:=ve (P:=X.prog) (w:=X.w) rel;obtain⟨z,hd,XO,r0,dd⟩:=Ow I2.hok e;cases r0;refine⟨rs,c,dd,fun h' T_ hs=>⟨.ref s.heap.objs.size,_,?_,rfl,q2⟩⟩
 have hz:(k0 [] ba).length<=sizeLine:=by
  have h1:=oY ba [];rw[List.length_nil] at h1;rw[sizeLine_eq];omega
 have he:∃q,h'.get? s.heap.objs.size=some q:=let⟨q,_,_,hq,_⟩:=T_;⟨q,hq⟩
 exact IZ I2 (by rw[e];exact True.intro) hs he (LA hz hd (rk.merge .nil) T_)
structure M1 (X:Cx) (o:Expr) (m:Str) (apos:Pos) (e:Expr) (cG:Pos):Prop where
 base:attributeBase o m X.env (eval o X.env)=eval o X.env
 few:((backTo cG (starEach [e] X.env)).all (fun x=>!x.1) && (backToKw cG (keywordEach [] X.env)).all (fun x=>x.1.isSome)
  && decide (([e]:List Expr).length+([]:List Keyword).length+(if([]:List Keyword).isEmpty then 0 else 1) < 30))=true
 line:(apos.endLine==cG.line)=true
 trees:backTo cG (starEach [e] X.env)=[(false,eval e X.env)]
structure M2 (X:Cx) (o:Expr) (m:Str) (apos:Pos) (e f:Expr) (cG:Pos):Prop where
 base:attributeBase o m X.env (eval o X.env)=eval o X.env
 few:((backTo cG (starEach [e,f] X.env)).all (fun x=>!x.1) && (backToKw cG (keywordEach [] X.env)).all (fun x=>x.1.isSome)
  && decide (([e,f]:List Expr).length+([]:List Keyword).length+(if([]:List Keyword).isEmpty then 0 else 1) < 30))=true
 line:(apos.endLine==cG.line)=true
 trees:backTo cG (starEach [e,f] X.env)=[(false,eval e X.env),(false,eval f X.env)]
def OW(H:Hp)(a:Addr):Prop:=(∃ba,Rd H a (.dK ba))\/∃ba,Rd H a (.dT ba)
theorem L1{X:Cx}{pins:XX}{s:Shared}{a:Addr}(I:Inv X pins σ H s)(d:OW H a) :
 s.TypeIs (.ref a) "dict"/\(∀b,Value.ref a= .ref b->∃ob,s.heap.get? b=some ob/\ob.dict=none)/\(a==sysModules)=false:=by
 rcases d with⟨ba,e⟩ | ⟨ba,e⟩
 .obtain⟨_,hd,vs,_,dd⟩:=Gf I.hok e;refine⟨dd.typeIs,fun b q=>?_,hd⟩
  cases q;obtain⟨ob,_,_,h1,h2,_⟩:=dd;exact⟨ob,h1,h2.2.1⟩
 .obtain⟨_,hd,xs,_,dd⟩:=Le I.hok e;refine⟨dd.typeIs,fun b q=>?_,hd⟩
  cases q;obtain⟨ob,_,_,h1,h2,_⟩:=dd;exact⟨ob,h1,h2.2.1⟩
section
variable {X:Cx} {pins:XX} {σ:St} {H:Hp} {s:Shared} {a:Addr} {y d:V} {u r:Value} {o:Option V} {A:Around} {E:XY}
theorem MU{Q:XY}(hu:A.units+1 < cLine)(I:Inv X pins σ H s)(g:wd H a y o)(ry:RelV y u)(rd:RelV d r)(h:∀w' s',Inv X pins σ H s'->RelV (o.getD d) w'->Q w' s') :
 wpAny (model X.prog X.w) A (call (.builtin "dict.get") [.ref a,u,r]) Q E s:=by
 rcases g with⟨ba,k,e,ey,l⟩ | ⟨ba,k,b,e,ey,eb,l⟩
 .subst ey;obtain⟨z,hd,vs,rel,dd⟩:=Gf I.hok e;refine call_meetsIn PySem.F.slot_dict_get dd.typeIs PySem.F.entry_dict_get (PySem.F.args_dict_get_3 _ _ _) (meets_dict_get_default (dE X.prog X.w) a (F6 ry) hd r) ⟨_,dd.mapOf,h _ _ (I.tok _) ?_⟩;rw[l];exact(rel.val k).getD rd
 .subst ey;cases(show u=Value.ref b from ry)
  obtain⟨z,hd,xs,rel,dd⟩:=Le I.hok e;refine call_meetsIn PySem.F.slot_dict_get dd.typeIs PySem.F.entry_dict_get (PySem.F.args_dict_get_3 _ _ _) (meetsH_dict_get_default (tupleKind (dE X.prog X.w)) a b hd r) ⟨tupleKind_room_in1 hu,k,xs,F3 I.hok eb,dd,h _ _ (I.tok _) ?_⟩;rw[l];exact(rel.val k).getD rd
end
def Q7(td ty:TE):TE:=fun σ H Q=>td σ H fun x H1=>∃a,x= .ref a/\OW H1 a/\ty σ H1 fun y H2=>∃o,wd H2 a y o/\Q (o.getD .de) H2
def Mo(td ty tx:TE):TE:=fun σ H Q=>td σ H fun x H1=>∃a,x= .ref a/\OW H1 a/\ty σ H1 fun y H2=>tx σ H2 fun z H3=>∃o,wd H3 a y o/\Q (o.getD z) H3
def QM(td ty:TE):TE:=fun σ H Q=>td σ H fun x H1=>∃a,x= .ref a/\OW H1 a/\ty σ H1 fun y H2=>∃ba k v,H2 a=some (.dK ba)/\y=kV k/\nc ba k=some v/\Q v (upd H2 a (.dK (GV ba k)))
def QT(td ty tx:TE):TE:=fun σ H Q=>td σ H fun x H1=>∃a,x= .ref a/\OW H1 a/\ty σ H1 fun y H2=>tx σ H2 fun z H3=>∃ba k,H3 a=some (.dK ba)/\y=kV k/\
 (∀v,nc ba k=some v->Q v (upd H3 a (.dK (GV ba k))))/\(nc ba k=none->Q z H3)
section
variable {X:Cx} {o e f:Expr} {apos cG:Pos} {td ty tx:TE}
theorem G6(hu:X.A.units+1 < cLine)(ho:PE X o td)(he:PE X e ty)(hf:PE X f tx)(m:M2 X o "get" apos e f cG):PE X (.Call (.Attribute o "get" apos) [e,f] [] cG) (Mo td ty tx):=by
 intro pins s σ H Q I h;refine wpAny_Call_method m.base m.few m.line PySem.F.plainAttrs_dict PySem.F.slot_dict_get PySem.F.type_dict_get (eN (ho pins s σ H _ I h) fun u s1 ⟨x,H1,I1,rx,a,ex,d,q1⟩=>?_)
 subst ex;obtain rfl:u=Value.ref a:=rx;obtain⟨t1,t2,_⟩:=L1 I1 d;refine⟨t1,t2,?_⟩;rw[m.trees];refine Calls.callWith_builtin rfl (Calls.evalArgs_plain (Calls.spliced_cons (eN (he pins s1 σ H1 _ I1 q1) fun iv s2 ⟨y,H2,I2,ry,q2⟩=>
  Calls.spliced_cons (eN (hf pins s2 σ H2 _ I2 q2) fun fv s3 ⟨z,H3,I3,rz,ov,g,q3⟩=>Calls.spliced_nil ?_))))
 exact MU hu I3 g ry rz fun w' s4 I4 Ir=>⟨_,H3,I4,Ir,q3⟩
end
section
variable {X:Cx} {pins:XX} {σ:St} {H:Hp} {s:Shared} {a:Addr} {ba:List (Key × V)} {A:Around} {E:XY}
end
section
variable {X:Cx} {pins:XX} {σ:St} {H:Hp} {s:Shared} {a:Addr} {y:V} {u:Value} {A:Around} {E:XY}
end
end L2
namespace HT
open PySem PyProof.Rows
def lexLt:List Int->List Int->Bool
 | [],[]=>false
 | [],_ ::_=>true
 | _ ::_,[]=>false
 | x ::xs,y ::ys=>if x=y then lexLt xs ys else decide (x < y)
section
open PySem.SeqAt
open PySem.AutoSeq1 (wpAny_loadPart')
open PySem.MeetsSeq PySem.MeetsSeq2 PySem.MeetsSeq3
end
section
variable {prog:Program} {w:World} {A:Around} {E:XY} {s:Shared}
theorem Kf{t b:Addr}{vs ws:List Value}{Q:XY}(ht:IsTup s.heap t vs.toArray)(hb:IsTup s.heap b ws.toArray)(hv:vs≠[])
 (h1:ws=[]->Q (.ref t) s) (h2:ws≠[]->Q (.ref s.heap.objs.size) {s with heap:=s.heap.push {cls:= .type "tuple",data:= .seq (vs++ws).toArray}})
 (DA:vs.length+ws.length<=sizeLine):wpAny (model prog w) A (binaryOp .Add (.ref t) (.ref b)) Q E s:=by
 obtain⟨⟨cls,dd,data,sl⟩,ho,hc,n,hd⟩:=id ht;obtain⟨⟨Sb,Qt,data2,NR⟩,Nj,hc2,n2,hd2⟩:=id hb;simp only at hc hd hc2 hd2;subst hc hd hc2 hd2;have e:vs.toArray++ws.toArray=(vs++ws).toArray:=by simp
 by_cases hw:ws=[]
 .exact concat_meets ⟨_,ho,rfl⟩ ⟨_,Nj,rfl⟩ noFill_tuple_add seq_tuple_add PySem.F.slot_tuple_add PySem.F.entry_tuple_add (PySem.F.args_tuple_add_2 _ _)
   (tuple_addW1 t b vs.toArray ws.toArray n n2 dd Qt sl NR (by simpa using hv) (by simp [hw])) ⟨ho,Nj,h1 hw⟩
 .refine concat_meets ⟨_,ho,rfl⟩ ⟨_,Nj,rfl⟩ noFill_tuple_add seq_tuple_add PySem.F.slot_tuple_add PySem.F.entry_tuple_add (PySem.F.args_tuple_add_2 _ _)
   (tuple_addW2 t b vs.toArray ws.toArray n n2 dd Qt sl NR (by simpa using hv) (by simpa using hw) (by rw[List.size_toArray,List.size_toArray];exact DA)) ⟨ho,Nj,?_⟩
  rw[e];exact h2 hw
def tP(n d:Nat):Option Int->Nat
 | none=>d
 | some v=>if v < 0 then(v+(n:Int)).toNat else min v.toNat n
theorem ze(n d:Nat):tP n d none=d:=rfl
theorem C6(n d k:Nat):tP n d (some (k:Int))=min k n:=by
 show(if(k:Int) < 0 then((k:Int)+(n:Int)).toNat else min (k:Int).toNat n)=min k n
 rw[if_neg (by omega),Int.toNat_natCast]
end
end HT
namespace L2
open PySem PySem.Spec PyProof.Rows
abbrev TO:=St->Hp->(Option Int->Hp->Prop)->Prop
def PO(X:Cx)(e:Option Expr)(t:TO):Prop:=
 ∀(pins:XX) (s:Shared) (σ:St) (H:Hp) (Q:Option Int->Hp->Prop),Inv X pins σ H s->t σ H Q->
  wpAny (model X.prog X.w) X.A (evalPart e X.env) (fun u s'=>∃o H',Inv X pins σ H' s'/\IsPart u o/\Q o H') X.xe s
def J_:TO:=fun _ H Q=>Q none H
def Oi(t:TE):TO:=fun σ H Q=>t σ H fun x H1=>∃i,x= .int i/\Q (some i) H1
section
variable {X:Cx} {e:Expr} {te:TE} {lo hi:Option Expr} {tl th:TO} {pos p2:Pos}
theorem Js:PO X none J_:=by
 intro pins s σ H Q I h;rw[evalPart_none];exact wpAny_pure ⟨none,H,I, .none,h⟩
theorem Ja(h:PE X e te):PO X (some e) (Oi te):=by
 intro pins s σ H Q I hw;rw[evalPart_some];refine eN (h pins s σ H _ I hw) fun u s1 ⟨x,H1,I1,r1,q1⟩=>?_
 obtain⟨i,rfl,q⟩:=q1;obtain⟨t,rfl⟩:=r1;exact⟨some i,H1,I1, .int i t,q⟩
def LW(X:Cx)(r:V->Option Int->Option Int->Hp->VK->Prop):Prop:=
 ∀(pins:XX) (s:Shared) (σ:St) (H:Hp) (x:V) (v vl vu:Value) (lo hi:Option Int) (sl:Addr) (Q:VK),Inv X pins σ H s->RelV x v->s.heap.IsSliceOf sl vl vu .none->IsPart vl lo->IsPart vu hi->r x lo hi H Q->
  ∃T id,typeLookup (.type T) "__getitem__"=pure (some (.builtin id))/\s.TypeIs v T/\wpAny (model X.prog X.w) X.A (getItem v (.ref sl)) (EP X pins σ Q) X.xe s
theorem LW.or{r r':V->Option Int->Option Int->Hp->VK->Prop}(h:LW X r)(h':LW X r'):LW X (fun x lo hi H Q=>r x lo hi H Q\/r' x lo hi H Q):=by
 intro pins s σ H x v vl vu lo hi sl Q I rx hs pl pu q;rcases q with q | q
 .exact h pins s σ H x v vl vu lo hi sl Q I rx hs pl pu q
 .exact h' pins s σ H x v vl vu lo hi sl Q I rx hs pl pu q
def Vn(r:V->Option Int->Option Int->Hp->VK->Prop)(te:TE)(tl th:TO):TE:=fun σ H Q=>te σ H fun x H1=>tl σ H1 fun l H2=>th σ H2 fun u H3=>r x l u H3 Q
theorem Gn{r:V->Option Int->Option Int->Hp->VK->Prop}(hr:LW X r)(he:PE X e te)(hl:PO X lo tl)(hu:PO X hi th):PE X (.Subscript e (.Slice lo hi none p2) pos) (Vn r te tl th):=by
 intro pins s σ H Q I h;refine Subscript_ (eN (he pins s σ H _ I h) fun v s1 ⟨x,H1,I1,r1,q1⟩=>?_)
 refine wpAny_Slice (eN (hl pins s1 σ H1 _ I1 q1) fun vl s2 ⟨l,H2,I2,pl,q2⟩=>eN (hu pins s2 σ H2 _ I2 q2) fun vu s3 ⟨u,H3,I3,pu,q3⟩=>?_)
 rw[evalPart_none];refine wpAny_pure ?_;have I4:Inv X pins σ H3 {s3 with heap:=s3.heap.push {cls:= .type "slice",data:= .fields #[vl,vu, .none]}}:=I3.kept (t':=s3.toks) fun b ob q=>Heap.get?_push_of_some _ q
 obtain⟨T,id,hT,ht,hg⟩:=hr pins {s3 with heap:=s3.heap.push {cls:= .type "slice",data:= .fields #[vl,vu, .none]}} σ H3 x v vl vu l u s3.heap.objs.size Q I4 r1 (Heap.IsSliceOf.new ..) pl pu q3
 show wpAny (model X.prog X.w) X.A (subscriptTail e (.Slice lo hi none p2) v (.ref s3.heap.objs.size)) (EP X pins σ Q) X.xe {s3 with heap:=s3.heap.push {cls:= .type "slice",data:= .fields #[vl,vu, .none]}}
 exact tail_any (ops:=[.ref s3.heap.objs.size,v]) ht hT hg (by with_unfolding_all rfl)
def Bh(xs:List V)(lo hi:Option Int):List V:=(xs.drop (HT.tP xs.length 0 lo)).take (HT.tP xs.length xs.length hi - HT.tP xs.length 0 lo)
theorem zg(xs:List V)(lo hi:Option Int):(Bh xs lo hi).length<=xs.length:=by
 unfold Bh;rw[List.length_take,List.length_drop];omega
def Vy(K:W.Frag):V->Option Int->Option Int->Hp->VK->Prop:=fun x lo hi H Q=>∃a xs,x= .ref a/\tF K H a xs/\
 ¬(HT.tP xs.length 0 lo=0/\HT.tP xs.length xs.length hi=xs.length)/\∀p,H p=none->Q (.ref p) (upd H p (.tup (Bh xs lo hi)))
def Uv(K:W.Frag):R2:=fun x y H Q=>∃a b ns ms,x= .ref a/\y= .ref b/\tF K H a (ns.map V.int)/\tF K H b (ms.map V.int)/\Q (.bl (HT.lexLt ns ms)) H
def SH(K:W.Frag):R2:=fun x y H Q=>∃a b xs ys,x= .ref a/\y= .ref b/\tF K H a xs/\tF K H b ys/\xs≠[]/\xs.length+ys.length<=sizeLine/\
 (ys=[]->Q (.ref a) H)/\(ys≠[]->∀p,H p=none->Q (.ref p) (upd H p (.tup (xs++ys))))
end
def Cq(n:Nat)(i:Int):Option Nat:=if 0<=i then(if i < n then some i.toNat else none) else if -(n:Int)<=i then some (i+n).toNat else none
def tU{α:Type}(xs:List α)(i:Int):Option α:=(Cq xs.length i).bind fun j=>xs[j]?
theorem Cg{n:Nat}{i:Int}{j:Nat}(h:Cq n i=some j):seqIndex? i n=some j/\j < n/\ -(n:Int)<=i/\i < n:=by
 unfold Cq at h;by_cases h0:0<=i
 .rw [if_pos h0] at h;by_cases h1:i < n
  .rw [if_pos h1] at h;have e:i.toNat=j:=Option.some.inj h;exact⟨by rw[seqIndex_of h0 h1,e],by omega,by omega,h1⟩
  .rw [if_neg h1] at h;cases h
 .rw [if_neg h0] at h;by_cases h1: -(n:Int)<=i
  .rw [if_pos h1] at h;have e:(i+n).toNat=j:=Option.some.inj h;exact⟨by rw[seqIndex_neg (by omega) h1,e],by omega,h1,by omega⟩
  .rw [if_neg h1] at h;cases h
theorem yb{α:Type}{xs:List α}{i:Int}{v:α}(h:tU xs i=some v):∃j,seqIndex? i xs.length=some j/\xs[j]? =some v/\j < xs.length/\ -(xs.length:Int)<=i/\i < xs.length:=by
 unfold tU at h;cases e:Cq xs.length i with
 | none=>rw [e] at h;cases h
 | some j=>
   rw[e] at h;obtain⟨h1,h2,h3,h4⟩:=Cg e;exact⟨j,h1,h,h2,h3,h4⟩
def tL(b:Expr):Prop:=∀o i,subscripted b false o i=operate [o,i] (getItem o i)
def Jn(X:Cx)(r:R2):Prop:=
 ∀(value slice:Expr) (pins:XX) (s:Shared) (σ:St) (H:Hp) (x y:V) (v u:Value) (Q:VK),Inv X pins σ H s->RelV x v->RelV y u->r x y H Q->
  subscripted slice false v u=operate [v,u] (getItem v u)->wpAny (model X.prog X.w) X.A (subscriptTail value slice v u) (EP X pins σ Q) X.xe s
def Um(X:Cx)(id:String)(r:V->List V->Hp->VK->Prop):Prop:=
 ∀(pins:XX) (s:Shared) (σ:St) (H:Hp) (x:V) (xs:List V) (v:Value) (us:List Value) (Q:VK),Inv X pins σ H s->RelV x v->Vals xs us->r x xs H Q->
  wpAny (model X.prog X.w) X.A (call (.builtin id) (v ::us)) (EP X pins σ Q) X.xe s
section
variable {X:Cx} {a b:Expr} {ta tb:TE} {pos:Pos}
theorem Jn.or{r r':R2}(h:Jn X r)(h':Jn X r'):Jn X (fun x y H Q=>r x y H Q\/r' x y H Q):=by
 intro value slice pins s σ H x y v u Q I rx ry q hs;rcases q with q | q
 .exact h value slice pins s σ H x y v u Q I rx ry q hs
 .exact h' value slice pins s σ H x y v u Q I rx ry q hs
theorem KZ{r:R2}(hr:Jn X r)(ha:PE X a ta)(hb:PE X b tb)(hs:tL b):PE X (.Subscript a b pos) (ND r ta tb):=by
 intro pins s σ H Q I h;exact Subscript_ (LQ ha hb I h fun v u s2 x y H2 I2 rx ry q=>hr a b pins s2 σ H2 x y v u Q I2 rx ry q (hs _ _))
def N1(K:W.Frag):R2:=fun x y H Q=>∃p xs i v,x= .ref p/\y= .int i/\pH K H p xs/\tU xs i=some v/\Q v H
def N4(K:W.Frag):R2:=fun x y H Q=>∃p xs i v,x= .ref p/\y= .int i/\tF K H p xs/\tU xs i=some v/\Q v H
def Od:R2:=fun x y H Q=>∃z i c,x= .str z/\y= .int i/\z.length<=sizeLine/\tU z.cps.toList i=some c/\Q (.str ⟨#[c]⟩) H
theorem J0:Jn X (N1 X.K):=by
 intro value slice pins s σ H x y v u Q I rx ry h hs;obtain⟨p,xs,i,z,rfl,rfl,hq,he,q⟩:=h;cases rx;obtain⟨t,rfl⟩:=ry;obtain⟨its,r,pl,hz⟩:=I.list hq;obtain⟨j,h1,h2,h3,h4,h5⟩:=yb he;obtain⟨w,ew,Ir⟩:=r.get h2;have hl:=r.length;have hn:=rH;have fin:EP X pins σ Q w s:=⟨z,H,I,Ir,q⟩;by_cases h0:0<=i
 .have hj:i.toNat=j:=by
   rw[seqIndex_of h0 h5] at h1;exact Option.some.inj h1
  exact item_listR pl.isList h0 (by omega) (by rw[hj];simpa using ew) fin hs
 .have hj:(i+(its.toArray.size:Int)).toNat=j:=by
   rw[seqIndex_neg (by omega) h4] at h1
   rw[List.size_toArray,<-hl];exact Option.some.inj h1
  exact subscriptTail_builtinR (x:=w) pl.isList.typeIs slot_list_getitem.lookup
   (wpAny_getItem_list_neg (Q:=fun r s'=>r=w/\EP X pins σ Q r s') pl.isList (by omega) (by rw[List.size_toArray] <;> omega) (by omega) (by rw[hj];simpa using ew) ⟨rfl,fin⟩) hs
theorem Nc:Jn X (N4 X.K):=by
 intro value slice pins s σ H x y v u Q I rx ry h hs;obtain⟨p,xs,i,z,rfl,rfl,hq,he,q⟩:=h;cases rx;obtain⟨t,rfl⟩:=ry;obtain⟨its,r,pl,hz⟩:=I.tuple hq;obtain⟨j,h1,h2,h3,h4,h5⟩:=yb he;obtain⟨w,ew,Ir⟩:=r.get h2;have hl:=r.length;have hn:=rH;have fin:EP X pins σ Q w s:=⟨z,H,I,Ir,q⟩;exact subscriptTail_builtinR (x:=w) pl.typeIs slot_tuple_getitem.lookup
  (getItem_tuple (j:=j) (Q:=fun r s'=>r=w/\EP X pins σ Q r s') pl (by omega) (by omega) (by rw[List.size_toArray,<-hl];exact h1) (by simpa using ew) ⟨rfl,fin⟩) hs
theorem Lw:Jn X Od:=by
 intro value slice pins s σ H x y v u Q I rx ry h hs;obtain⟨z,i,c,rfl,rfl,hz,he,q⟩:=h;obtain⟨t,rfl⟩:=rx;obtain⟨t',rfl⟩:=ry;obtain⟨j,h1,h2,h3,h4,h5⟩:=yb he;have hl:z.cps.toList.length=z.length:=by simp [Str.length]
 rw[hl] at h1 h4 h5;have hn:=rH;exact tail_any (typeIs_str s z t) slot_str_getitem.lookup (getItem_str (c:=c) (by
  have e1:decide (i < -(2 ^ 63:Int))=false:=decide_eq_false (by omega)
  have e2:decide (i>=2 ^ 63)=false:=decide_eq_false (by omega)
  rw[e1,e2,Bool.or_false]) (by rw[h1];simpa using h2) ⟨.str ⟨#[c]⟩,H,I.tok _,⟨_,rfl⟩,q⟩) hs
def RL(K:W.Frag):R2:=fun x y H Q=>N1 K x y H Q\/N4 K x y H Q\/Od x y H Q
theorem G5:Jn X (RL X.K):=J0.or (Nc.or Lw)
theorem AL(its:List Value)(n j:Nat)(u:Value):Obj.mapSeq (·.setIfInBounds j u) {cls:= .type "list",data:= .seq its.toArray n}={cls:= .type "list",data:= .seq (its.set j u).toArray n}:=by
 simp [Obj.mapSeq]
theorem Inv.lst{pins:XX}{H:Hp}{s:Shared}{p:Addr}{xs:List V}(I:Inv X pins σ H s)(h:H p=some (.lst xs)) :
 ∃(its:List Value) (n:Nat),Vals xs its/\s.heap.get? p=some {cls:= .type "list",data:= .seq its.toArray n}/\xs.length<=sizeLine:=by
 obtain⟨z,its,n,r,e⟩:=I.hok p _ h;exact⟨its,n,r,e,z⟩
theorem Inv.MR{pins:XX}{σ:St}{H:Hp}{s:Shared}{p:Addr}{xs ys:List V}{its its':List Value}{n n':Nat}{f:Obj->Obj}(I:Inv X pins σ H s)(h:H p=some (.lst xs))
 (ho:s.heap.get? p=some {cls:= .type "list",data:= .seq its.toArray n}) (hf:f {cls:= .type "list",data:= .seq its.toArray n}={cls:= .type "list",data:= .seq its'.toArray n'}) (r:Vals ys its') (hz:ys.length<=sizeLine) (t:Nat) :
 Inv X pins σ (upd H p (.lst ys)) {s with heap:=s.heap.update p f,toks:=t}:=by
 have e:(s.heap.update p f).get? p=some {cls:= .type "list",data:= .seq its'.toArray n'}:=by
  rw[Heap.get?_update_self f ho (by rw[hf] <;> rfl),hf]
 refine I.write (x:=p) (e:=p) (by rw[h];trivial) (.inl rfl) (fun b u hb q=>(Heap.get?_update_other _ _ (Ne.symm hb)).trans q) ⟨_,e⟩ ?_
 exact⟨hz,its',n',r,e⟩
def La:V->V->V->Hp->(Hp->Prop)->Prop:=fun o i v H Q=>∃p xs k j,o= .ref p/\i= .int k/\H p=some (.lst xs)/\Cq xs.length k=some j/\Q (upd H p (.lst (xs.set j v)))
theorem set_list:OG X La:=by
 intro pins s σ H o i v ov iv u Q I ro ri rv h;obtain⟨p,xs,k,j,rfl,rfl,hp,hj,q⟩:=h;cases ro;obtain⟨t,rfl⟩:=ri;obtain⟨its,n,r,ho,hz⟩:=I.lst hp;obtain⟨h1,h2,h3,h4⟩:=Cg hj;have hl:=r.length;have hn:=rH;have I':Inv X pins σ (upd H p (.lst (xs.set j v))) {s with heap:=s.heap.update p (Obj.mapSeq (·.setIfInBounds j u))}:=
  I.MR hp ho (AL its n j u) (r.set rv j) (by rw[List.length_set];exact hz) s.toks
 by_cases h0:0<=k
 .have hk:k.toNat=j:=by
   rw[seqIndex_of h0 h4] at h1;exact Option.some.inj h1
  exact PySem.W.ki_setAt ho h0 (by omega) (by rw[List.size_toArray,<-hl];exact h4) (by rw[hk];exact⟨_,I',q⟩)
 .have hk:(k+(its.toArray.size:Int)).toNat=j:=by
   rw[seqIndex_neg (by omega) h3] at h1
   rw[List.size_toArray,<-hl];exact Option.some.inj h1
  exact PySem.W.ki_setBack ho (by omega) (by rw[List.size_toArray,<-hl];exact h3) (by omega) (by rw[hk];exact⟨_,I',q⟩)
theorem x5(lo hi:Option Int)(n:Nat):(sliceBounds lo hi none n).1=((HT.tP n 0 lo:Nat):Int)/\(sliceBounds lo hi none n).2.1=((HT.tP n n hi:Nat):Int)/\(sliceBounds lo hi none n).2.2=1:=by
 refine⟨?_,?_,rfl⟩
 .cases lo with
  | none=>simp [sliceBounds,HT.tP]
  | some i=>
    simp only[sliceBounds,HT.tP,Option.getD_none,show(1:Int) > 0 by decide,if_true]
    by_cases h:i < 0
    .simp only[h,if_true] <;> omega
    .simp only[h,if_false] <;> omega
 .cases hi with
  | none=>simp [sliceBounds,HT.tP]
  | some i=>
    simp only[sliceBounds,HT.tP,Option.getD_none,show(1:Int) > 0 by decide,if_true]
    by_cases h:i < 0
    .simp only[h,if_true] <;> omega
    .simp only[h,if_false] <;> omega
theorem vM(its:List Value)(lo hi:Option Int):slicePick its.toArray lo hi none=((its.drop (HT.tP its.length 0 lo)).take (HT.tP its.length its.length hi - HT.tP its.length 0 lo)).toArray:=by
 obtain⟨h1,h2,h3⟩:=x5 lo hi its.toArray.size;unfold slicePick;rw[h1,h2,h3];simp only[sliceRange_one,pick_run,List.size_toArray] <;> rfl
def Ri(K:W.Frag):V->Option Int->Option Int->Hp->VK->Prop:=fun x lo hi H Q=>∃a xs,x= .ref a/\pH K H a xs/\∀p,H p=none->Q (.ref p) (upd H p (.lst (Bh xs lo hi)))
theorem JI:LW X (Ri X.K):=by
 intro pins s σ H x v vl vu lo hi sl Q I rx hs pl pu h;obtain⟨a,xs,rfl,hx,q⟩:=h;cases rx;obtain⟨its,r,ht,hz⟩:=I.list hx;have hlen:=r.length;refine⟨"list",_,slot_list_getitem.lookup,ht.isList.typeIs,?_⟩;refine wpAny_getItem_list_slice ht.isList hs pl pu .none (by simp) ?_ (by rw[List.size_toArray] <;> omega)
 rw[vM,<-hlen];refine⟨.ref s.heap.objs.size,_,I.laid (t':=s.toks) (o:= .lst (Bh xs lo hi)) (fun b ob q=>Heap.get?_push_of_some _ q) (Nat.le_refl _) ?_,rfl,q _ (I.hok.fresh (Nat.le_refl _))⟩
 exact⟨Nat.le_trans (zg xs lo hi) hz,_,0,(r.drop (HT.tP xs.length 0 lo)).take (HT.tP xs.length xs.length hi - HT.tP xs.length 0 lo),Heap.get?_push_size _ rfl⟩
def m4:V->Bool
 | .de=>true
 | .bl _=>true
 | .int _=>true
 | .str _=>true
 | _=>false
def K4:V->V->Bool
 | .de, .de=>true
 | .bl a, .bl b=>a==b
 | .bl a, .int b=>(if a then 1 else 0)==b
 | .int a, .bl b=>a==(if b then 1 else 0)
 | .int a, .int b=>a==b
 | .str a, .str b=>a==b
 | _,_=>false
theorem M5{s:Shared}{y x:V}{u v:Value}(ry:RelV y u)(rx:RelV x v)(fy:m4 y=true)(fx:m4 x=true):SeqAt.EqAt A s u v (K4 y x):=by
 cases y with
 | de=>
   cases ry;cases x with
   | de=>cases rx;exact SeqAt.EqAt.same _
   | bl b=>cases rx;exact SeqAt.EqAt.none_bool b
   | int b=>obtain⟨t,rfl⟩:=rx;exact SeqAt.EqAt.none_int b t
   | str b=>obtain⟨t,rfl⟩:=rx;exact SeqAt.EqAt.none_str b t
   | _=>exact absurd (show false=true from fx) Bool.false_ne_true
 | bl a=>
   cases ry;cases x with
   | de=>cases rx;exact SeqAt.EqAt.bool_none a
   | bl b=>cases rx;exact SeqAt.EqAt.bool_bool a b
   | int b=>obtain⟨t,rfl⟩:=rx;exact SeqAt.EqAt.bool_int a b t
   | str b=>obtain⟨t,rfl⟩:=rx;exact SeqAt.EqAt.bool_str a b t
   | _=>exact absurd (show false=true from fx) Bool.false_ne_true
 | int a=>
   obtain⟨t',rfl⟩:=ry;cases x with
   | de=>cases rx;exact SeqAt.EqAt.int_none a t'
   | bl b=>cases rx;exact SeqAt.EqAt.int_bool a t' b
   | int b=>obtain⟨t,rfl⟩:=rx;exact SeqAt.EqAt.int_int a t' b t
   | str b=>obtain⟨t,rfl⟩:=rx;exact SeqAt.EqAt.int_str a t' b t
   | _=>exact absurd (show false=true from fx) Bool.false_ne_true
 | str a=>
   obtain⟨t',rfl⟩:=ry;cases x with
   | de=>cases rx;exact SeqAt.EqAt.str_none a t'
   | bl b=>cases rx;exact SeqAt.EqAt.str_bool a t' b
   | int b=>obtain⟨t,rfl⟩:=rx;exact SeqAt.EqAt.str_int a t' b t
   | str b=>obtain⟨t,rfl⟩:=rx;exact SeqAt.EqAt.str_str a t' b t
   | _=>exact absurd (show false=true from fx) Bool.false_ne_true
 | _=>exact absurd (show false=true from fy) Bool.false_ne_true
def Jd(x:V)(u:Value):Bool:=match u with
 | .none=>K4 .de x
 | .bool b=>K4 (.bl b) x
 | .int i _=>K4 (.int i) x
 | .str z _=>K4 (.str z) x
 | _=>false
theorem GG{x y:V}{u:Value}(r:RelV y u)(f:m4 y=true):Jd x u=K4 y x:=by
 cases y with
 | de=>cases r;rfl
 | bl b=>cases r;rfl
 | int i=>obtain⟨t,rfl⟩:=r;rfl
 | str z=>obtain⟨t,rfl⟩:=r;rfl
 | _=>exact absurd (show false=true from f) Bool.false_ne_true
theorem ya{x:V}:∀{xs:List V} {us:List Value},Vals xs us->xs.all m4=true->us.any (Jd x)=xs.any fun y=>K4 y x
 | _,_, .nil,_=>rfl
 | y ::xs,u ::us, .cons r t,f=>by
   rw[List.all_cons,Bool.and_eq_true] at f;rw[List.any_cons,List.any_cons,GG r f.1,ya t f.2]
theorem uL{s:Shared}{x:V}{v:Value}(rx:RelV x v)(fx:m4 x=true):∀{xs:List V} {us:List Value},Vals xs us->xs.all m4=true->∀u∈us,SeqAt.EqAt A s u v (Jd x u)
 | _,_, .nil,_=>fun u hu=>by cases hu
 | y ::xs,u ::us, .cons r t,f=>fun u' hu=>by
   rw[List.all_cons,Bool.and_eq_true] at f;rcases List.mem_cons.mp hu with rfl | hu
   .rw [GG r f.1];exact M5 r rx f.1 fx
   .exact uL rx fx t f.2 u' hu
def KR(x:V)(xs:List V):Bool:=xs.any fun y=>K4 y x
def TB(K:W.Frag)(neg:Bool):R2:=fun x y H Q=>∃p xs,y= .ref p/\(pH K H p xs\/tF K H p xs)/\m4 x=true/\xs.all m4=true/\Q (.bl (if neg then !KR x xs else KR x xs)) H
theorem Eu:oK X (compareOp .In) (TB X.K false):=by
 intro pins s σ H x y v u Q I rx ry h;obtain⟨p,xs,rfl,hq,fx,fs,q⟩:=h;cases ry;rcases hq with hq | hq
 .obtain⟨its,r,pl,hz⟩:=I.list hq;refine SeqAt.in_listAt (Jd x) pl.isList (fun w hw=>uL rx fx r fs w (by simpa using hw)) ⟨.bl _,H,I,rfl,?_⟩
  rw[show its.toArray.any (Jd x)=its.any (Jd x) by simp,ya r fs]
  exact q
 .obtain⟨its,r,pl,hz⟩:=I.tuple hq;refine SeqAt.in_tupleAt (Jd x) pl (fun w hw=>uL rx fx r fs w (by simpa using hw)) ⟨.bl _,H,I,rfl,?_⟩
  rw[show its.toArray.any (Jd x)=its.any (Jd x) by simp,ya r fs]
  exact q
theorem vS:sG X (.type "tuple") (fun xs H Q=>∃p ys,xs=[.ref p]/\((pH X.K H p ys/\∀l,H l=none->Q (.ref l) (upd H l (.tup ys)))\/(tF X.K H p ys/\Q (.ref p) H))):=by
 intro pins s σ H xs us Q I r h;obtain⟨p,ys,rfl,h⟩:=h;obtain⟨u,rfl,rx⟩:=vals1 r;cases rx;rcases h with⟨hq,q⟩ | ⟨hq,q⟩
 .obtain⟨its,r',pl,hz⟩:=I.list hq;have hlen:=r'.length;refine call_tuple_list pl.isList (fun h' kp=>?_) (by simp only[List.size_toArray] <;> omega)
  have I1:Inv X pins σ H {s with heap:=h'}:=I.kept (t':=s.toks) kp
  have I2:Inv X pins σ (upd H h'.objs.size (.tup ys)) {s with heap:=h'.push {cls:= .type "tuple",data:= .seq its.toArray}}:=
   I1.laid (t':=s.toks) (fun b o e=>Heap.get?_push_of_some _ e) (Nat.le_refl _) (show fL X.prog X.w _ _ _ (.tup ys) from⟨hz,its,r',IsTup.new _ _⟩)
  exact⟨.ref h'.objs.size,_,I2,rfl,q _ (I1.hok.fresh (Nat.le_refl _))⟩
 .obtain⟨its,r',pl,hz⟩:=I.tuple hq;exact call_tuple_same pl ⟨.ref p,H,I,rfl,q⟩
def Qx(K:W.Frag)(T:String)(x:V)(H:Hp):Prop:=match x with
 | .str _=>T="str"
 | .int _=>T="int"
 | .ref p=>(T="list"/\∃xs,pH K H p xs)\/(T="tuple"/\∃o,K.lookup p=some o/\o.cls= .type "tuple"/\o.dict=none)\/
    (T="dict"/\((∃ba,H p=some (.dK ba))\/∃ba,H p=some (.dT ba)))\/(T="set"/\∃S n,H p=some (.set S n))
 | _=>False
theorem MM{pins:XX}{s:Shared}{T:String}{x:V}{v:Value}(I:Inv X pins σ H s)(r:RelV x v)(ty:Qx X.K T x H) :
 s.TypeIs v T/\∀a,v= .ref a->∃ob,s.heap.get? a=some ob/\ob.dict=none:=by
 cases x with
 | str z=>
   obtain⟨t,rfl⟩:=r;cases(show T="str" from ty)
   exact⟨typeIs_str s z t,fun _ e=>nomatch e⟩
 | int i=>
   obtain⟨t,rfl⟩:=r;cases(show T="int" from ty)
   exact⟨typeIs_int s i t,fun _ e=>nomatch e⟩
 | ref p=>
   cases r;rcases ty with⟨rfl,xs,hq⟩ | ⟨rfl,o,hk,hc,hd⟩ | ⟨rfl,hk⟩ | ⟨rfl,S,n,hk⟩
   .obtain⟨its,_,pl,_⟩:=I.list hq;refine⟨pl.isList.typeIs,fun a e=>?_⟩
    cases e;obtain⟨o,n,e,c,hd,_⟩:=pl;exact⟨o,e,hd⟩
   .refine⟨⟨o,I.CP p o hk,hc⟩,fun a e=>?_⟩
    cases e;exact⟨o,I.CP _ o hk,hd⟩
   .have z:∃o,s.heap.get? p=some o/\o.ExactDict:=by
     rcases hk with⟨ba,hk⟩ | ⟨ba,hk⟩
     .obtain⟨_,_,_,_,o,_,_,e,ex,_⟩:=I.hok p _ hk;exact⟨o,e,ex⟩
     .obtain⟨_,_,_,_,o,_,_,e,ex,_⟩:=I.hok p _ hk;exact⟨o,e,ex⟩
    obtain⟨o,e,ex⟩:=z;refine⟨⟨o,e,ex.1⟩,fun a e2=>?_⟩
    cases e2;exact⟨o,e,ex.2.1⟩
   .obtain⟨o,_,_,_,e,ex,_⟩:=I.hok p _ hk;refine⟨⟨o,e,ex.1⟩,fun a e2=>?_⟩
    cases e2;exact⟨o,e,ex.2.1⟩
 | _=>exact False.elim ty
def Vq(K:W.Frag)(T:String)(r:V->List V->Hp->VK->Prop)(to:TE):TE:=fun σ H Q=>to σ H fun x H1=>Qx K T x H1/\r x [] H1 Q
def US(K:W.Frag)(T:String)(r:V->List V->Hp->VK->Prop)(to:TE)(t:TA):TE:=fun σ H Q=>to σ H fun x H1=>Qx K T x H1/\t σ H1 fun xs H2=>r x xs H2 Q
variable {o e:Expr} {es:List Expr} {to:TE} {t:TA} {name:Str} {apos cG:Pos} {T id:String} {r:V->List V->Hp->VK->Prop}
theorem C3(pa:PlainAttrs T)(slot:Slot T name id)(Wa:typeOf (.builtin id)=pure (.type "method_descriptor"))(hm:Um X id r)(ho:PE X o to)(ha:PA X (e ::es) t)
 (l3:attributeBase o name X.env (eval o X.env)=eval o X.env:=by rfl)
 (rO:((backTo cG (starEach (e ::es) X.env)).all (fun x=>!x.1) && (backToKw cG (keywordEach [] X.env)).all (fun x=>x.1.isSome)
   && decide ((e ::es).length+([]:List Keyword).length+(if([]:List Keyword).isEmpty then 0 else 1) < 30))=true:=by rfl)
 (l0:(apos.endLine==cG.line)=true:=by rfl) (hs:starEach (e ::es) X.env=(false,eval e X.env) ::starEach es X.env:=by rfl) (Nk:(backTo cG (starEach es X.env)).any (·.1)=false:=by rfl) :
 PE X (.Call (.Attribute o name apos) (e ::es) [] cG) (US X.K T r to t):=by
 intro pins s σ H Q I h;refine wpAny_Call_method_late l3 rO l0 rfl (eN (ho pins s σ H _ I h) fun v s1 ⟨x,H1,I1,r1,ty,q1⟩=>?_)
 obtain⟨h1,h2⟩:=MM I1 r1 ty;refine⟨T,id,pa,slot,Wa,h1,h2,?_⟩;have hA:=ha cG pins s1 σ H1 _ I1 q1;rw[hs] at hA ⊢;refine Calls.callWith_builtin (by show(false || (backTo cG (starEach es X.env)).any (·.1))=false;rw [Nk] <;> rfl) (Calls.evalArgs_plain ?_)
 exact eN hA fun us s2 ⟨vs,H2,I2,r2,q2⟩=>hm pins s2 σ H2 x vs v us Q I2 r1 r2 q2
end
def RK(X:Cx)(id:String)(r:V->List V->Hp->VK->Prop):Prop:=
 ∀(pins:XX) (s:Shared) (σ:St) (H:Hp) (x:V) (xs:List V) (v:Value) (us:List Value) (Q:VK),Inv X pins σ H s->RelV x v->Vals xs us->r x xs H Q->
  wpAny (model X.prog X.w) X.A (call (.builtin id) (v ::us)) (EP X pins σ Q) X.xe s
theorem Vals.one:∀{x:V} {us:List Value},Vals [x] us->∃u,us=[u]/\RelV x u
 | _,_, .cons r .nil=>⟨_,rfl,r⟩
theorem Vals.rep{xs:List V}{us:List Value}(h:Vals xs us):∀k:Nat,Vals (List.replicate k xs).flatten (List.replicate k us).flatten
 | 0=> .nil
 | k+1=>by
   rw[List.replicate_succ,List.replicate_succ,List.flatten_cons,List.flatten_cons];exact Vals.append h (Vals.rep h k)
section
variable {X:Cx} {pins:XX} {σ:St} {H:Hp} {s:Shared} {l b:Addr} {xs ys zs:List V}
theorem Inv.L8{its its':List Value}{n:Nat}{f:Array Value->Array Value}{t':Nat}(I:Inv X pins σ H s)(hH:H l=some (.lst xs))
 (e:s.heap.get? l=some {cls:= .type "list",data:= .seq its.toArray n}) (hf:f its.toArray=its'.toArray) (hv:Vals ys its') (hz:ys.length<=sizeLine) :
 Inv X pins σ (upd H l (.lst ys)) {s with heap:=s.heap.update l (Obj.mapSeq f),toks:=t'}:=by
 have q:=PySem.IsL.update e f;rw[hf] at q;refine I.write (x:=l) (e:=l) (by rw[hH];exact trivial) (.inl rfl) (fun b' u hb hu=>(Heap.get?_update_other s.heap (Obj.mapSeq f) (Ne.symm hb)).trans hu) ⟨_,q⟩ ?_
 exact⟨hz,its',_,hv,q⟩
theorem Inv.Md{its:List Value}{t':Nat}(I:Inv X pins σ H s)(hv:Vals ys its)(hz:ys.length<=sizeLine) :
 Inv X pins σ (upd H s.heap.objs.size (.lst ys)) {s with heap:=s.heap.push {cls:= .type "list",data:= .seq its.toArray},toks:=t'}:=
 I.laid (fun _ _ q=>Heap.get?_push_of_some _ q) (Nat.le_refl _) ⟨hz,its,0,hv,Heap.get?_push_size _ rfl⟩
theorem Inv.fresh(I:Inv X pins σ H s):H s.heap.objs.size=none:=I.hok.fresh (Nat.le_refl _)
theorem Inv.Jb(I:Inv X pins σ H s)(hH:H l=some (.lst xs)):xs.length<=sizeLine/\∃(its:List Value) (n:Nat),Vals xs its/\xs.length=its.length/\s.heap.get? l=some {cls:= .type "list",data:= .seq its.toArray n}:=by
 obtain⟨z,its,n,r,e⟩:=I.hok l _ hH;exact⟨z,its,n,r,r.length,e⟩
theorem zf{n:Nat}(h:n<=sizeLine):Builtin.List.listTooLong n=false:=by
 unfold Builtin.List.listTooLong;exact decide_eq_false (by omega)
end
section
variable {X:Cx}
def Kr:V->List V->Hp->VK->Prop:=fun x vs H Q=>∃l xs y,x= .ref l/\vs=[y]/\H l=some (.lst xs)/\xs.length < sizeLine/\Q .de (upd H l (.lst (xs++[y])))
theorem rE:RK X "list.append" Kr:=by
 intro pins s σ H x vs v us Q I rx rv h;obtain⟨l,xs,y,rfl,rfl,hH,hz,q⟩:=h;cases rx;obtain⟨u,rfl,ru⟩:=rv.one;obtain⟨z,its,n,r,hl,e⟩:=I.Jb hH;refine call_meets F.slot_list_append ⟨_,e,rfl⟩ F.entry_list_append (F.args_list_append_2 _ _) (PySem.list_append l its.toArray n u (by rw[List.size_toArray];omega)) ⟨e,?_⟩
 refine⟨.de,_,I.L8 (its':=its++[u]) hH e (by simp) (r.append (.cons ru .nil)) ?_,rfl,q⟩
 rw[List.length_append,List.length_singleton];omega
def Jr:V->List V->Hp->VK->Prop:=fun x vs H Q=>∃l b xs zs,x= .ref l/\vs=[.ref b]/\H l=some (.lst xs)/\H b=some (.lst zs)/\xs.length+zs.length<=sizeLine/\Q .de (upd H l (.lst (xs++zs)))
theorem Ek:RK X "list.extend" Jr:=by
 intro pins s σ H x vs v us Q I rx rv h;obtain⟨l,b,xs,zs,rfl,rfl,hH,hB,hz,q⟩:=h;cases rx;obtain⟨u,rfl,ru⟩:=rv.one;cases ru;obtain⟨z,its,n,r,hl,e⟩:=I.Jb hH;obtain⟨z2,rN,n2,r2,ER,e2⟩:=I.Jb hB;have DA:its.toArray.size+rN.toArray.size<=sizeLine:=by rw[List.size_toArray,List.size_toArray];omega
 have hlong:¬(!its.toArray.isEmpty && Builtin.List.listTooLong (its.toArray.size+rN.toArray.size))=true:=by
  rw[zf DA,Bool.and_false];exact Bool.false_ne_true
 refine call_meets F.slot_list_extend ⟨_,e,rfl⟩ F.entry_list_extend (F.args_list_extend_2 _ _)
  (AutoSeq1.list_extend_list_list_0 l its.toArray n b rN.toArray n2 hlong (by rw[List.size_toArray];omega) (by omega)) ⟨e,e2,?_⟩
 refine⟨.de,_,I.L8 (its':=its++rN) hH e (by simp) (r.append r2) ?_,rfl,q⟩
 rw[List.length_append];omega
def Vc:V->List V->Hp->VK->Prop:=fun x vs H Q=>∃l xs y,x= .ref l/\vs=[]/\H l=some (.lst xs)/\xs[xs.length - 1]? =some y/\Q y (upd H l (.lst xs.dropLast))
def RC:V->List V->Hp->VK->Prop:=fun x vs H Q=>∃l xs i k y,x= .ref l/\vs=[.int i]/\H l=some (.lst xs)/\ -(2 ^ 63)<=i/\i < 2 ^ 63/\seqIndex? i xs.length=some k/\xs[k]? =some y/\Q y (upd H l (.lst (xs.eraseIdx k)))
def Ot:V->List V->Hp->VK->Prop:=fun x vs H Q=>∃l xs,x= .ref l/\vs=[]/\H l=some (.lst xs)/\Q .de (upd H l (.lst xs.reverse))
def QQ:V->List V->Hp->VK->Prop:=fun x vs H Q=>∃l xs,x= .ref l/\vs=[]/\H l=some (.lst xs)/\Q .de (upd H l (.lst []))
def U1:R2:=fun x y H Q=>∃l b xs zs,x= .ref l/\y= .ref b/\H l=some (.lst xs)/\H b=some (.lst zs)/\xs.length+zs.length<=sizeLine/\∀p,H p=none->Q (.ref p) (upd H p (.lst (xs++zs)))
def UL:R2:=fun x y H Q=>∃l k xs,x= .ref l/\y= .int k/\H l=some (.lst xs)/\ -(2 ^ 63)<=k/\k < 2 ^ 63/\xs.length*k.toNat<=sizeLine/\
 ∀p,H p=none->Q (.ref p) (upd H p (.lst (List.replicate k.toNat xs).flatten))
theorem len_rep{α:Type}(xs:List α)(k:Nat):(List.replicate k xs).flatten.length=k*xs.length:=by
 induction k with
 | zero=>simp
 | succ k ih=>rw [List.replicate_succ,List.flatten_cons,List.length_append,ih,Nat.succ_mul,Nat.add_comm]
end
section
variable {prog:Program} {w:World} {A:Around} {E:XY} {s:Shared}
set_option maxRecDepth 100000 in
end
section
variable {X:Cx}
end
end L2
namespace Att
open PySem PySem.W PySem.Calls PyProof.Rows
theorem sZ{P:Params}:∀(ns:List Int) (vs:List Value),WellAll P h vs (ns.map WData.int)->IntsAre vs ns:=by
 intro ns
 induction ns with
 | nil=>
   intro vs w;rw[List.map_nil] at w;cases w;exact .nil
 | cons n ns ih=>
   intro vs w;rw[List.map_cons] at w;cases w with
   | cons a b=>
     cases a;exact .cons _ _ (ih _ b)
theorem EH{l:OpenLaw}{n:Nat}(hn:l.most=some n){P:Params}{h:Heap}{args:List WData}{vals:List Value}
 (B_:l.row.toRowW.claim.pre args=true) (NS:WellAll P h vals args) :
 ∃a vs ns,vals=[Value.ref a]/\args=[WData.list (ns.map WData.int)]/\h.get? a=some {cls:= .type "list",data:= .seq vs.toArray}/\IntsAre vs ns/\ns.length<=n:=by
 have hsh:WShape.hasAll [] args [.list .int]=true:=(pre_splitW B_).1;have hc:l.pre.holds [] {args:=args}=true:=(pre_splitW B_).2;obtain⟨d,r,rfl,h1,h2⟩:=hasAllW_cons hsh;obtain rfl:=hasAllW_nil h2;obtain⟨xs,rfl,h3⟩:=hasW_list h1;obtain⟨ns,rfl⟩:=items_int h3;have hlen:ns.length<=n:=by
  unfold OpenLaw.pre at hc;have h4:(WTm.not (.lt (.lit (.int (n:Int))) (.len (.arg 0)))).holds [] {args:=[.list (ns.map .int)]}=true:=by
   have h4:=(holds_andW hc).1;rw[hn] at h4;exact h4
  have h5:=condW_of h4 (w_not (w_lt w_lit (w_len_list (w_arg rfl))));rw[List.length_map] at h5;refine Nat.le_of_not_lt fun q=>?_
  have q':(n:Int) < ((ns.length:Nat):Int):=by omega
  first
   | (rw [decide_eq_true q'] at h5;exact absurd h5 (by decide))
   | (simp at h5;omega)
 cases NS with
 | cons w1 w2=>
   cases w2;cases w1 with
   | list ho ET=>exact⟨_,_,ns,rfl,rfl,ho,sZ ns _ ET,hlen⟩
theorem DL(l:OpenLaw)(args:List WData):l.row.toRowW.claim.post args (.bool true) args=true:=
 postW_of (r:=l.row.toRowW) (X:=(true==true))
  (show WShape.has [] (.bool true) .bool=true by first | rfl | decide | simp [WShape.has,WShape.arms,WShape.armsAll])
  (show(WTm.eq .res (.lit (.bool true))).value [] {args:=args,res:=some (.bool true),after:=args}=some (.bool (true==true)) from w_eq_bool (w_res rfl) w_lit) rfl
theorem zD{l:OpenLaw}{n:Nat}{q:Program}{loose:List Str}{XP:(Str->Option Value)->Heap->Prop}{YP:World->Heap->Prop}{d:DefRec}
 (hn:l.most=some n) (RW:d.params.defaults=[])
 (call:∀(w:World) (s₀ s₁:Shared) (mg mb:X2) (fa:Addr) (o:Obj) (pm cd doc:Value) (a:Addr) (vs:List Value) (ns:List Int),
   Ground q loose [] XP w s₀ mg mb s₁.heap->YP w s₁.heap->
   s₁.heap.get? fa=some o->o.data= .func (docDef d.name d.params d.body d.scope pm cd doc)->s₁.heap.CodeRec cd d.name->mg d.name=some (.ref fa)->
   s₁.heap.get? a=some {cls:= .type "list",data:= .seq vs.toArray}->IntsAre vs ns->ns.length<=n->s₁.gens=#[]->
   codeAny (model l.prog w) callerA (.call (.ref fa) ⟨[.ref a],[]⟩) (fun r s'=>r= .ok (.ret (.bool true))/\OldK s₁.heap s'.heap/\s'.os=s₁.os/\AllBare s'.gens) s₁) :
 WalkO q loose XP YP l.row.toRowW d [] (fun f vs=>PySem.call f vs):=by
 intro w s₀ s₁ mg mb G Y fa o pm cd doc dV kV ho hd r6 hD Pw hg args vals as B_ hlay hrd NS hlo;obtain rfl:dV= .none:=Dflts.none hD RW;obtain rfl:kV= .none:=Dflts.noKw hD;obtain⟨a,vs,ns,rfl,rfl,Nl,hints,hlen⟩:=EH hn B_ NS;refine enter_call (codeAny_mono (call w s₀ s₁ mg mb fa o pm cd doc a vs ns G Y ho (fd_plain hd) r6 Pw Nl hints hlen hg) fun r s' hq=>?_)
 obtain⟨rfl,h2,h3,h4⟩:=hq;exact⟨.inl ⟨.bool true, .bool true,[],rfl,fun _=>rfl, .bool true,DL l _,fun _=>⟨List.Pairwise.nil,fun _ hm=>(nomatch hm)⟩⟩,h2,h3,h4⟩
section
variable {prog:Program} {w:World} {A:Around} {E:XY} {s:Shared} {K:Frag}
def RI(h:Heap):Heap:={h with objs:=#[]}
def ledger(h:Heap)(L d:Addr):XX:=(List.range h.objs.size).filterMap fun a=>if a=L\/a=d then none else(h.get? a).map fun o=>(a,o)
end
end Att
namespace L2
open PySem PySem.Spec PyProof.Rows
theorem wD:∀{vs:List Value} {ns:List Int},IntsAre vs ns->Vals (ns.map V.int) vs
 | _,_, .nil=> .nil
 | _,_, .cons n t h=> .cons ⟨t,rfl⟩ (wD h)
def OY(H:Hp):Prop:=∀b,H b=none\/∃o xs,H b=some (.mf o (.lst xs))
abbrev eH{K:W.Frag}{h:Heap}(_:K.In h):W.Frag:=K
def inClass(s:Stmt)(j:Nat):Stmt:=match s with
 | .ClassDef _ _ _ body _ _ _ _ _ _ _=>body.getD j (.Pass ⟨0,0,0,0⟩)
 | _=> .Pass ⟨0,0,0,0⟩
def fX(s:Stmt):Arguments:=match s with
 | .FunctionDef _ a _ _ _ _ _ _ _ _=>a
 | _=>{posonlyargs:=[],args:=[],vararg:=none,kwonlyargs:=[],kw_defaults:=[],kwarg:=none,defaults:=[]}
def aK(s:Stmt):List Stmt:=match s with
 | .FunctionDef _ _ b _ _ _ _ _ _ _=>b
 | _=>[]
def az(s:Stmt):Scope:=match s with
 | .FunctionDef _ _ _ _ _ _ sc _ _ _=>sc
 | _=>{kind:= .function,names:=[],isGenerator:=false,isCoroutine:=false}
abbrev vN:Gz:=fun _ _ _ _ _ _=>False
abbrev E0:XK:=fun _ _ _=>False
theorem Ar{X:Cx}:Passes vN X E0:=fun _ _ _ _ _ _ _ h=>h.elim
structure CI (K:W.Frag) (x qual:Str) (st:Stmt) (f:Addr) (fd:FuncData):Prop where
 ex:∃(oc:Value) (od:Option Addr) (kV doc pm:Value) (an:Option Addr) (dD ct:Value) (Iv:Array (Option Value)),
  fd=PySem.W.fnOf x qual (fX st) (aK st) (az st) .none kV doc pm an dD ct/\K.lookup f=some ⟨oc,od, .func fd,Iv⟩/\PySem.W.codeIn K dD qual=true
 kp:PySem.W.keepIn K (.ref f)=true
section
variable {P:Program} {w:World} {K:W.Frag} {mg:X2} {base:Heap}
theorem CI.ok{x qual:Str}{st:Stmt}{f:Addr}{fd:FuncData}{N ps:List Str}{k:Nat}{sp:Sp}(F:CI K x qual st f fd)(S:aR N ps (az st))(len:∀vs H Q E,sp vs H Q E->vs.length=ps.length)
 (lY:∀(dD:Value) (A:Around) (outer:List Env) (s:Shared) (H:Hp) (vs:List V) (Q:VK) (E:XK),eS k (A.deeper (envOfC qual (az st) s.heap.objs.size f dD))->sp vs H Q E->
   ∃t,yV (uJ vN P w K mg base N qual (az st) f dD A outer s H E).JS (aK st) t/\t {nx:=fun _ H'=>Q .de H',rt:=Q} (start N vs) H):jC P w K mg base vN (k+1) f fd ps sp:=by
 obtain⟨oc,od,kV,doc,pm,an,dD,ct,Iv,rfl,lk,r6⟩:=F.ex;refine Ob lk r6 S len fun A outer s H vs Q E hr NP=>?_
 obtain⟨t,h,q⟩:=lY dD A outer s H vs Q E hr NP;exact⟨t,h.JS,q⟩
theorem CI.binds{x qual:Str}{st:Stmt}{f:Addr}{fd:FuncData}{ps:List Str}(F:CI K x qual st f fd)
 (h:∀(kV doc pm:Value) (an:Option Addr) (dD ct:Value) (us:List Value),us.length=ps.length->bindArgs (PySem.W.fnOf x qual (fX st) (aK st) (az st) .none kV doc pm an dD ct) ⟨us,[]⟩=pure (ps.zip us)):Binds K fd ps []:=by
 obtain⟨oc,od,kV,doc,pm,an,dD,ct,Iv,rfl,lk,r6⟩:=F.ex;exact .all (h kV doc pm an dD ct)
theorem n4{x qual:Str}{st:Stmt}{f:Addr}{oc:Value}{od an:Option Addr}{Iv:Array (Option Value)}{kV doc pm dD ct:Value}(l:K.lookup f=some ⟨oc,od, .func (PySem.W.fnOf x qual (fX st) (aK st) (az st) .none kV doc pm an dD ct),Iv⟩)
 (c:PySem.W.codeIn K dD qual=true) (k:PySem.W.keepIn K (.ref f)=true):CI K x qual st f (PySem.W.fnOf x qual (fX st) (aK st) (az st) .none kV doc pm an dD ct):=⟨⟨oc,od,kV,doc,pm,an,dD,ct,Iv,rfl,l,c⟩,k⟩
end
theorem Pk{A:Around}{k:Nat}(hr:eS k A):A.units+1 < cLine:=Nat.lt_of_le_of_lt (Nat.add_le_add_left (by decide:1<=64) _) hr.units
section
variable {X:Cx}
end
theorem Kl{A B:Prop}(h:B):if false=true then A else B:=by
 rw[if_neg Bool.false_ne_true];exact h
theorem JU{A B:Prop}(h:A):if true=true then A else B:=by
 rw[if_pos rfl];exact h
def aU(H H':Hp):Prop:=∀b o,H b=some o->H' b=some o
theorem aU.refl(H:Hp):aU H H:=fun _ _ h=>h
theorem aU.trans(a:aU H H1)(b:aU H1 H2):aU H H2:=fun c o h=>b c o (a c o h)
theorem aU.free{H H':Hp}(e:aU H H'){l:Addr}(h:H' l=Option.none):H l=Option.none:=by
 cases q:H l with
 | none=>rfl
 | some o=>
   rw[e l o q] at h;cases h
section
variable {κ:Type} [DecidableEq κ]
end
end L2
end
section
namespace L2
open PySem PySem.Spec PyProof.Rows
def oM(cells:List (Str × Addr)):List (Str × NameKind)->List (Str × Addr)->List (Str × Addr)
 | [],acc=>acc
 | (n,k) ::r,acc=>oM cells r (if k==NameKind.free then(n,(cells.lookup n).getD 0) ::acc else acc)
theorem ma{env:Env}:∀(names:List (Str × NameKind)) (acc:List (Str × Addr)),(∀y∈names,y.2= .free->∃c,env.cells.lookup y.1=some c)->
 (forIn names acc fun(x:Str × NameKind) (cs:List (Str × Addr))=>(match x with
   | (name,kind)=>if kind== .free then do let a <-cellOf env name;pure (ForInStep.yield ((name,a) ::cs)) else pure (ForInStep.yield cs):Sem (ForInStep (List (Str × Addr)))))=pure (oM env.cells names acc)
 | [],acc,_=>by simp [oM]
 | (n,k) ::r,acc,h=>by
   rw[List.forIn_cons];by_cases hk:k=NameKind.free
   .subst hk;obtain⟨c,hc⟩:=h (n, .free) List.mem_cons_self rfl;have e:cellOf env n=pure c:=by unfold cellOf;rw [hc]
    simp only[beq_self_eq_true,if_true,e,pure_bind,oM,hc,Option.getD_some];exact ma r _ fun y hy=>h y (List.mem_cons_of_mem _ hy)
   .have hb:(k==NameKind.free)=false:=by simpa using hk
    simp only[hb,Bool.false_eq_true,if_false,pure_bind,oM];exact ma r _ fun y hy=>h y (List.mem_cons_of_mem _ hy)
theorem mZ{env:Env}{scope:Scope}(h:∀y∈scope.names,y.2= .free->∃c,env.cells.lookup y.1=some c):closureFor scope env=pure (oM env.cells scope.names []):=by
 unfold closureFor;have:=ma (env:=env) scope.names [] h;simp only[bind_pure];exact this
theorem kF{cells:List (Str × Addr)}:∀(names:List (Str × NameKind)) (acc:List (Str × Addr)) {x:Str} {c:Addr},(oM cells names acc).lookup x=some c->
 acc.lookup x=some c\/((x,NameKind.free)∈names/\c=(cells.lookup x).getD 0)
 | [],acc,x,c,h=> .inl h
 | (n,k) ::r,acc,x,c,h=>by
   rcases kF r _ h with q | ⟨q1,q2⟩
   .by_cases hk:k=NameKind.free
    .subst hk;simp only[beq_self_eq_true,if_true] at q;cases hx:x==n with
     | true=>
       have e:x=n:=by simpa using hx
       subst e;rw[List.lookup_cons,hx] at q;exact .inr ⟨List.mem_cons_self,(Option.some.inj q).symm⟩
     | false=>
       rw[List.lookup_cons,hx] at q;exact .inl q
    .have hb:(k==NameKind.free)=false:=by simpa using hk
     simp only[hb,Bool.false_eq_true,if_false] at q;exact .inl q
   .exact .inr ⟨List.mem_cons_of_mem _ q1,q2⟩
theorem zh{cells:List (Str × Addr)}:∀(names:List (Str × NameKind)) (acc:List (Str × Addr)) {x:Str},((x,NameKind.free)∈names\/∃c,acc.lookup x=some c)->∃c,(oM cells names acc).lookup x=some c
 | [],acc,x,h=>by
   rcases h with h | h
   .simp at h
   .exact h
 | (n,k) ::r,acc,x,h=>by
   refine zh r _ ?_;rcases h with h | ⟨c,h⟩
   .rcases List.mem_cons.mp h with e | e
    .cases e;exact .inr ⟨(cells.lookup n).getD 0,by simp [List.lookup_cons]⟩
    .exact .inl e
   .by_cases hk:k=NameKind.free
    .subst hk;simp only[beq_self_eq_true,if_true];cases hx:x==n with
     | true=>exact .inr ⟨(cells.lookup n).getD 0,by rw[List.lookup_cons,hx]⟩
     | false=>exact .inr ⟨c,by rw[List.lookup_cons,hx];exact h⟩
    .have hb:(k==NameKind.free)=false:=by simpa using hk
     simp only[hb,Bool.false_eq_true,if_false];exact .inr ⟨c,h⟩
theorem xx:∀(names:List (Str × NameKind)) (n:Nat) (acc:List (Str × Addr)) {x:Str},(x,NameKind.cell) ∉ names->(cellsFrom n names acc).lookup x=acc.lookup x
 | [],_,_,_,_=>rfl
 | (y,k) ::r,n,acc,x,h=>by
   unfold cellsFrom;split
   .rename_i hk;have hk:k= .cell:=by simpa using hk
    subst hk;rw[xx r _ _ fun z=>h (List.mem_cons_of_mem _ z),List.lookup_cons]
    cases hx:x==y with
    | true=>
      have e:x=y:=by simpa using hx
      subst e;exact absurd List.mem_cons_self h
    | false=>rfl
   .exact xx r _ _ fun z=>h (List.mem_cons_of_mem _ z)
theorem pz:∀(names:List (Str × NameKind)) (n:Nat) (acc:List (Str × Addr)),cellsFrom n names acc=cellsFrom n names []++acc
 | [],_,_=>rfl
 | (y,k) ::r,n,acc=>by
   unfold cellsFrom;split
   .rw [pz r (n+1) ((y,n) ::acc),pz r (n+1) [(y,n)],List.append_assoc];rfl
   .exact pz r n acc
theorem BO{a b:List (Str × Addr)}{c:Addr}(h:(a++b).lookup x=some c):(x,c)∈a\/b.lookup x=some c:=by
 induction a with
 | nil=>exact .inr h
 | cons y r ih=>
   obtain⟨n,v⟩:=y;rw[List.cons_append,List.lookup_cons] at h;cases hx:x==n with
   | true=>
     rw[hx] at h;have e:x=n:=by simpa using hx
     subst e;cases h;exact .inl List.mem_cons_self
   | false=>
     rw[hx] at h;exact(ih h).imp (List.mem_cons_of_mem _) id
theorem nq{a b:List (Str × Addr)}(h:∃c,b.lookup x=some c):∃c,(a++b).lookup x=some c:=by
 induction a with
 | nil=>exact h
 | cons y r ih=>
   rw[List.cons_append,List.lookup_cons];cases x==y.1 with
   | true=>exact⟨_,rfl⟩
   | false=>exact ih
theorem ym{a b:List (Str × Addr)}{c:Addr}(h:a.lookup x=some c):∃c,(a++b).lookup x=some c:=by
 induction a with
 | nil=>cases h
 | cons y r ih=>
   rw[List.cons_append,List.lookup_cons];rw[List.lookup_cons] at h;cases hx:x==y.1 with
   | true=>exact⟨_,rfl⟩
   | false=>rw [hx] at h;exact ih h
theorem wU{M:Model}{A:Around}{E:XY}{s:Shared}{scope:Scope}{cl:List (Str × Addr)}{qual:Str}{env:Env}{Q:Env->Shared->Prop}(hQ:∀h',h'.Ns s.heap.objs.size (fun _=>none)->(∀b o,s.heap.get? b=some o->h'.get? b=some o)->CellsOk h' (s.heap.objs.size+1) (cellsFrom (s.heap.objs.size+1) scope.names [])->
 Q (newEnv scope s.heap.objs.size env.globals (cellsFrom (s.heap.objs.size+1) scope.names cl) qual none .none (some env) builtinsNs) {s with heap:=h'}) :
 wpAny M A (newFunctionEnv scope env.globals cl [] qual none .none (some env)) Q E s:=by
 simp only[newFunctionEnv,Option.isSome_some,if_true];refine wpAny_bind (wpAny_alloc ?_);refine wpAny_bind (wpAny_layCells _ (fun name kind cells=>by cases hkc:kind==NameKind.cell <;> simp [hkc]) _ _ _ _ ?_)
 have ok:=cellsFrom_ok scope.names (s.heap.push {cls:= .type "dict",data:= .dict #[]}) (s.heap.objs.size+1) [] ⟨fun _ _ hm=>(nomatch hm),List.Pairwise.nil⟩ (by rw[Heap.size_push];exact Nat.le_refl _)
 rw[Heap.size_push] at ok;rw[show({s with heap:=s.heap.push {cls:= .type "dict",data:= .dict #[]}}:Shared).heap.objs.size=s.heap.objs.size+1 from Heap.size_push ..]
 rw[List.forIn_nil];refine wpAny_bind (wpAny_pure (wpAny_pure ?_));exact hQ _ ((Heap.Ns.new s.heap (.type "dict")).keeps (pushCells_keeps _ _)) (fun b o e=>pushCells_keeps _ _ b o (Heap.get?_push_of_some _ e)) ok
def bo(X:Cx)(scope:Scope)(N':List Str)(fp:List Addr)(s:Shared)(H:Hp):Cx where
 prog:=X.prog
 w:=X.w
 K:=X.K
 mg:=X.mg
 base:=X.base
 A:=X.A
 N:=N'
 s₀:=s
 H₀:=H
 env:=compEnvC scope (cellsFrom (s.heap.objs.size+1) scope.names (oM X.env.cells scope.names [])) s.heap.objs.size X.env
 outer:=X.stack
 stack:=X.stack
 ex:=fp
 fn:=fun x=>scope.names.lookup x==some .cell
 calm:=X.calm
 pn:=[]
 xe:=fun _ _=>False
structure bt (X:Cx) (scope:Scope) (own:List Str) (kp:List Nat) (kn:List Str):Prop where
 kind:scope.kind= .function
 cel:∀y∈scope.names,y.2= .cell->scope.names.lookup y.1=some .cell
 nd:∀y∈scope.names,y.2= .local->scope.names.lookup y.1=some .local
 free:∀y∈scope.names,y.2= .free->X.env.kindOf y.1=some .cell\/X.env.kindOf y.1=some .free
 frl:∀y∈scope.names,y.2= .free->scope.names.lookup y.1=some .free
 names:kn.length=kp.length
 at_:∀(j i:Nat) (x:Str),kp[j]? =some i->kn[j]? =some x->X.N[i]? =some x
 isfree:∀x∈kn,scope.names.lookup x=some .free
def dQ(own:List Str)(kp:List Nat)(σ:St):St:=List.replicate own.length none++kp.map fun i=>(σ[i]?).getD none
section
variable {X:Cx} {scope:Scope} {own:List Str} {kp:List Nat} {kn:List Str}
theorem eU{env:Env}:∀{names:List (Str × NameKind)} {x:Str} {k:NameKind},
 (names.map fun(n,k)=>if(k==NameKind.free && env.scope.kind== .function && env.kindOf n==some .cell) then(n,NameKind.cell) else(n,k)).lookup x=some k->
 names.lookup x=some k\/(k= .cell/\names.lookup x=some .free)
 | [],_,_,h=>by simp at h
 | (n,k) ::r,x,k',h=>by
   have ih:=@eU env r x k';have h:List.lookup x ((if(k==NameKind.free && env.scope.kind== .function && env.kindOf n==some .cell)=true then(n,NameKind.cell) else(n,k)) ::_)=some k':=h
   by_cases hc:(k==NameKind.free && env.scope.kind== .function && env.kindOf n==some .cell)=true
   .rw [if_pos hc] at h;have hkf:k= .free:=by
     simp only[Bool.and_eq_true,beq_iff_eq] at hc;exact hc.1.1
    cases hx:x==n with
    | true=>
      rw[List.lookup_cons,hx] at h;cases h;exact .inr ⟨rfl,by rw[List.lookup_cons,hx,hkf]⟩
    | false=>
      rw[List.lookup_cons,hx] at h;rw[List.lookup_cons,hx];exact ih h
   .rw [if_neg hc] at h;cases hx:x==n with
    | true=>
      rw[List.lookup_cons,hx] at h;rw[List.lookup_cons,hx];exact .inl h
    | false=>
      rw[List.lookup_cons,hx] at h;rw[List.lookup_cons,hx];exact ih h
theorem pR{pins:XX}{s:Shared}(C:bt X scope own kp kn)(I:Inv X pins σ H s):∀y∈scope.names,y.2= .free->∃c,X.env.cells.lookup y.1=some c:=fun y hy hf=>
 I.ok.has y.1 (C.free y hy hf)
theorem FQ{pins:XX}{σ:St}{H:Hp}{s:Shared}{fp:List Addr}{jx:Heap}{tk:Nat}(C:bt X scope own kp kn)(I:Inv X pins σ H s)(hf:∀b∈fp,sY X pins H b)(hb:∀b∈fp,b < s.heap.objs.size)
 (hn:jx.Ns s.heap.objs.size (fun _=>none)) (hk:∀b o,s.heap.get? b=some o->jx.get? b=some o) (hC:CellsOk jx (s.heap.objs.size+1) (cellsFrom (s.heap.objs.size+1) scope.names [])):Inv (bo X scope (own++kn) fp s H) [] (dQ own kp σ) H {s with heap:=jx,toks:=tk}:=by
 have cl:∀x c,(oM X.env.cells scope.names []).lookup x=some c->X.env.cells.lookup x=some c:=fun x c e=>by
  rcases kF scope.names [] e with q | ⟨q1,q2⟩
  .simp at q
  .obtain⟨c',EW⟩:=pR C I (x, .free) q1 rfl;have EW:X.env.cells.lookup x=some c':=EW;rw[EW] at q2;rw[EW,q2];rfl
 have clA:∀x c,(cellsFrom (s.heap.objs.size+1) scope.names (oM X.env.cells scope.names [])).lookup x=some c->(x,c)∈cellsFrom (s.heap.objs.size+1) scope.names []\/(oM X.env.cells scope.names []).lookup x=some c:=fun x c e=>by
  rw[pz] at e;exact BO e
 have old:∀x c,(oM X.env.cells scope.names []).lookup x=some c->c < s.heap.objs.size:=fun x c e=>by
  obtain⟨v,h⟩:=I.cell x c (cl x c e);exact h.lt
 have new:∀x c,(x,c)∈cellsFrom (s.heap.objs.size+1) scope.names []->s.heap.objs.size<=c:=fun x c e=>Nat.le_of_lt (hC.empty x c e).2
 have clh:∀x,scope.names.lookup x=some .free->∃c,(oM X.env.cells scope.names []).lookup x=some c:=fun x hx=>zh scope.names [] (.inl (PySem.mem_of_lookup hx))
 refine⟨⟨I.ok.mod,C.kind,I.ok.glob,I.ok.blt,Nat.le_refl _,fun x y c h1 h2=>?inj,fun x hx=>?_,fun x c hn h=>?cab,I.ok.hd,I.ok.frames, .inl rfl,fun b qU=>⟨Nat.ne_of_lt (hb b qU),fun x c e z=>?exf⟩,
  fun b o e=>I.bs b o e,Nat.le_trans I.ok.bsz I.sz,fun b o e qU=>?_,fun b qU hs=>?_,I.stack,I.CN⟩,
  rfl,I.bare,Un.kept hk,⟨_,hn,fun i x v h1 h2 h3=>?_⟩,fun x c e=>?_,I.hok.fresh (Nat.le_refl _),fun x c e=>?frc,fun p hp=>(by cases hp),I.hok.kept hk,?_⟩
 case inj=>
  rcases clA x c h1 with a | a <;> rcases clA y c h2 with b | b
  .exact name_of_addr hC.apart a b
  .exact absurd (Nat.lt_of_lt_of_le (old y c b) (new x c a)) (Nat.lt_irrefl _)
  .exact absurd (Nat.lt_of_lt_of_le (old x c a) (new y c b)) (Nat.lt_irrefl _)
  .exact I.ok.inj x y c (cl x c a) (cl y c b)
 case cab=>
  have hn:(scope.names.lookup x==some .cell)=true:=hn;rcases clA x c h with a | a
  .exact new x c a
  .rcases kF scope.names [] a with q | ⟨q1,q2⟩
   .simp at q
   .have hx:scope.names.lookup x=some .cell:=by simpa using hn
    have h7:scope.names.lookup x=some .free:=C.frl _ q1 rfl;rw[hx] at h7;cases h7
 case exf=>
  rcases clA x c e with a | a
  .subst z;exact absurd (Nat.lt_of_lt_of_le (hb _ qU) (new x _ a)) (Nat.lt_irrefl _)
  .exact(hf b qU).2.2.2.2.1 x c (cl x c a) z
 case frc=>
  rcases clA x c e with a | a
  .exact I.hok.fresh (new x c a)
  .exact I.freeC x c (cl x c a)
 .have hx:(relabel scope X.env).names.lookup x=some .cell\/(relabel scope X.env).names.lookup x=some .free:=hx;show ∃c,(cellsFrom (s.heap.objs.size+1) scope.names (oM X.env.cells scope.names [])).lookup x=some c;rcases hx with hx | hx
  .rcases eU hx with q | ⟨_,q⟩
   .rw [pz];obtain⟨c,hc⟩:=vA (n:=s.heap.objs.size+1) q;exact ym hc
   .rw [pz];exact nq (clh x q)
  .rcases eU hx with q | ⟨q,_⟩
   .rw [pz];exact nq (clh x q)
   .cases q
 .rcases(hf b qU).2.2.2.1 with z | z
  .exact I.ok.noex b o e z
  .exact absurd (Nat.lt_of_lt_of_le (Heap.lt_size (I.ok.bs b o e).1) z) (Nat.lt_irrefl _)
 .rcases List.mem_cons.mp (I.Ba b hs) with z | z
  .exact(hf b qU).2.1 z
  .exact(hf b qU).2.2.1 z
 .-- a kept name
  have h1:(own++kn)[i]? =some x:=h1;have h2:(dQ own kp σ)[i]? =some (some v):=h2;unfold dQ at h2;by_cases hi:i < own.length
  .rw [List.getElem?_append_left (by simpa using hi),List.getElem?_replicate] at h2
   split at h2 <;> cases h2
  .rw [List.getElem?_append_right (by simpa using hi),List.length_replicate,List.getElem?_map] at h2
   rw[List.getElem?_append_right (by simpa using hi)] at h1
   cases e:kp[i - own.length]? with
   | none=>rw [e] at h2;cases h2
   | some j=>
     rw[e] at h2;have h2:(σ[j]?).getD none=some v:=Option.some.inj h2;have hj:X.N[j]? =some x:=C.at_ _ j x e h1;have Kz:σ[j]? =some (some v):=by
      cases q:σ[j]? with
      | none=>rw [q] at h2;cases h2
      | some y=>rw [q] at h2;exact congrArg some h2
     have hfree:scope.names.lookup x=some .free:=C.isfree x (List.mem_of_getElem? h1);have hkind:=C.free (x, .free) (PySem.mem_of_lookup hfree) rfl;obtain⟨m,hm,hl⟩:=I.loc;obtain⟨u,r,l⟩:=hl j x v hj Kz (hkind.elim (fun q=>Or.inr (Or.inl q)) fun q=>Or.inr (Or.inr q))
     refine⟨u,r, .inr ⟨?_,?_⟩⟩
     .have h3:(relabel scope X.env).names.lookup x=some .local\/(relabel scope X.env).names.lookup x=some .cell\/(relabel scope X.env).names.lookup x=some .free:=h3;rcases h3 with q | q | q
      .rcases eU q with z | ⟨z,_⟩
       .rw [hfree] at z;cases z
       .cases z
      .exact .inl q
      .exact .inr q
     .rcases l with⟨k,_⟩ | ⟨_,c,hc,hcell⟩
      .rcases hkind with q | q
       .rw [show X.env.kindOf x=some .cell from q] at k;cases k
       .rw [show X.env.kindOf x=some .free from q] at k;cases k
      .obtain⟨c',EW⟩:=clh x hfree;have:=cl x c' EW;rw[hc] at this;cases this;obtain⟨o,ho,hd⟩:=hcell;exact⟨c,(xx _ _ _ fun z=>by have:=C.cel _ z rfl;rw [hfree] at this;cases this).trans EW,o,hk c o ho,hd⟩
 .rcases clA x c e with a | a
  .exact⟨_,(hC.empty x c a).1⟩
  obtain⟨v,o,ho,hd⟩:=I.cell x c (cl x c a);exact⟨v,o,hk c o ho,hd⟩
 .show(dQ own kp σ).length=(own++kn).length;unfold dQ;rw[List.length_append,List.length_replicate,List.length_map,List.length_append,C.names]
theorem vz{pins:XX}{s s':Shared}{fp:List Addr}{N':List Str}(I:Inv X pins σ H s)(hf:∀b∈fp,sY X pins H b)(J:Inv (bo X scope N' fp s H) [] dC H' s'):Inv X pins σ H' s':=
 I.OI (ch:=fp) J.os J.base J.hok J.bare fun b hb=>⟨(hf b hb).2.2.2.1,(hf b hb).2.1,(hf b hb).2.2.2.2.1,(hf b hb).2.2.2.2.2⟩
end
def qa(X:Cx)(ifs:List Expr)(t:TT):Prop:=
 ∀(pins:XX) (s:Shared) (σ:St) (H:Hp) (Q:Bool->Hp->Prop),Inv X pins σ H s->t σ H Q->
  wpAny (model X.prog X.w) X.A (forIn ifs true fun c r=>if r=true then do let ok <-isTrue c X.env (eval c X.env);pure (ForInStep.yield ok) else pure (ForInStep.yield r)) (TP X pins σ Q) X.xe s
def QI:TT:=fun _ H Q=>Q true H
theorem zX{X:Cx}:qa X [] QI:=fun _ _ _ H _ I h=>wpAny_tests_nil ⟨H,I,h⟩
theorem zx{X:Cx}{t:TT}(h:PT X c t):qa X [c] t:=fun pins s σ H Q I hq=>wpAny_tests_one (h pins s σ H Q I hq)
def Dw(wi:TI)(g:TG)(tc:TT)(te:TE)(own:List Str)(kp:List Nat):TE:=fun σ H Q=>wi σ H fun J H1=>∀D,H1 D=none->
 ∃W:Nat->Nat->List V->Hp->Prop,(∃m,W 0 m [] (upd H1 D (.lst [])))/\∀i m ys H,W i m ys H->
  (J.stop i H/\Q (.ref D) H)\/(J.go i H/\∀x H',J.yld i H x H'->g x (dQ own kp σ) H' fun yL H2=>tc yL H2 fun c H3=>
    if c=true then te yL H3 fun y H4=>H4 D=some (.lst ys)/\ys.length < sizeLine/\∃m',m' < m/\W (i+1) m' (ys++[y]) (upd H4 D (.lst (ys++[y])))
    else ∃m',m' < m/\W (i+1) m' ys H3)
section
variable {X:Cx} {scope:Scope} {own:List Str} {kp:List Nat} {kn:List Str} {tg iter elt:Expr} {ifs:List Expr} {wi:TI} {g:TG} {tc:TT} {te:TE} {pos:Pos}
theorem Al{pins:XX}{σ:St}{H:Hp}{s:Shared}{fp:List Addr}{it D:Addr}{tn:Nat->Heap->Prop}{J:It}{Q:VK}{jx:Heap}{tk:Nat}{R:Result->Shared->Prop}
 (hc:X.calm=true) (C:bt X scope own kp kn) (I:Inv X pins σ H s) (hf:∀b∈fp,sY X pins H b) (hb:∀b∈fp,b < s.heap.objs.size) (T:Turn X.prog X.w X.K tg J fp it tn)
 (hg:PG (bo X scope (own++kn) fp s H) tg g) (hi:qa (bo X scope (own++kn) fp s H) ifs tc) (he:PE (bo X scope (own++kn) fp s H) elt te)
 (hn:jx.Ns s.heap.objs.size (fun _=>none)) (hk:∀b o,s.heap.get? b=some o->jx.get? b=some o) (hC:CellsOk jx (s.heap.objs.size+1) (cellsFrom (s.heap.objs.size+1) scope.names [])) (st:tn 0 s.heap)
 (W:Nat->Nat->List V->Hp->Prop) (w0:∃m,W 0 m [] H)
 (turn:∀i m ys H,W i m ys H->
   (J.stop i H/\Q (.ref D) H)\/(J.go i H/\∀x H',J.yld i H x H'->g x (dQ own kp σ) H' fun yL H2=>tc yL H2 fun c H3=>
     if c=true then te yL H3 fun y H4=>H4 D=some (.lst ys)/\ys.length < sizeLine/\∃m',m' < m/\W (i+1) m' (ys++[y]) (upd H4 D (.lst (ys++[y])))
     else ∃m',m' < m/\W (i+1) m' ys H3))
 (hR:∀H' s' dC,Inv (bo X scope (own++kn) fp s H) [] dC H' s'->Q (.ref D) H'->R (.ok .next) s') :
 codeAny (model X.prog X.w) X.A (.compStart (.ListComp elt [⟨tg,iter,ifs,0⟩] scope pos) 0 (.ref it) (.ref D) (bo X scope (own++kn) fp s H).env) R {s with heap:=jx,toks:=tk}:=by
 have I1:Inv (bo X scope (own++kn) fp s H) [] (dQ own kp σ) H {s with heap:=jx,toks:=tk}:=FQ C I hf hb hn hk hC
 have TU:tn 0 jx:=T.keep _ _ _ st fun b _ o e=>hk b o e
 have fp1:∀{H':Hp} {p:XX},(∀b∈fp,H' b=none)->(∀b∈fp,∀q∈p,q.1≠b)->∀b∈fp,sY (bo X scope (own++kn) fp s H) p H' b:=fun {H' p} hn hp b qU=>
  ⟨hn b qU,(I1.ok.exf b qU).1,I1.ok.exfs b qU, .inl qU,fun x c e=>(I1.ok.exf b qU).2 x c e,fun q hq=>hp b qU q hq⟩
 obtain⟨m0,w0⟩:=w0;have loop:codeAny (model X.prog X.w) X.A (.compLoop (.ListComp elt [⟨tg,iter,ifs,0⟩] scope pos) 0 (.ref it) (.ref D) (bo X scope (own++kn) fp s H).env) R {s with heap:=jx,toks:=tk}:=by
  refine codeAny_loop rfl (fun n s'=>∃i ys H',Inv (bo X scope (own++kn) fp s H) [] (dQ own kp σ) H' s'/\tn i s'.heap/\(∀b∈fp,H' b=none)/\W i n ys H') (fun n s' hI=>?_) m0 ⟨0,[],H,I1,TU,fun b qU=>(hf b qU).1,w0⟩
  obtain⟨i,ys,H3,I3,KG,Po,w3⟩:=hI;show wpAny _ _ ((compTurn (.ListComp elt [⟨tg,iter,ifs,0⟩] scope pos) 0 (.ref it) (.ref D) (bo X scope (own++kn) fp s H).env).onRaise (fun x=>do noteFrame x (bo X scope (own++kn) fp s H).env;theTreesLotGoes x)) _ _ s'
  refine wpAny_noted (wpAny_noRaise ?_);rw[compTurn_list];refine wpAny_bind (wpAny_standAt (wpAny_bind ?_));rcases turn i n ys H3 w3 with⟨stop,q⟩ | ⟨go,step⟩
  .refine eN (T.done (bo X scope (own++kn) fp s H) rfl rfl rfl hc i [] s' _ H3 _ I3 (fp1 Po (fun _ _ q hq=>by cases hq)) KG stop) fun r s4 ⟨hr,I4⟩=>?_
   subst hr;exact wpAny_pure (hR H3 s4 _ I4 q)
  .refine eN (T.item (bo X scope (own++kn) fp s H) rfl rfl rfl hc i [] s' _ H3 _ I3 (fp1 Po (fun _ _ q hq=>by cases hq)) KG go) fun r s4 ⟨u,hr,h4⟩=>?_
   subst hr;refine wpAny_bind (eN h4 fun _ s5 ⟨x,H5,I5,r5,y5,Nu,Sz⟩=>?_)
   have I5':=I5.pinned (fp1 Sz (fun _ _ q hq=>by cases hq)) (T.obj _ _ Nu)
   have keepIt:∀{AA:St} {H7:Hp} {s7:Shared},Inv (bo X scope (own++kn) fp s H) ([]++pG fp s5.heap) AA H7 s7->tn (i+1) s7.heap/\∀b∈fp,H7 b=none:=fun {AA H7 s7} I7=>by
    refine⟨T.keep _ _ _ Nu fun b hb o e=>(I7.pin (b,o) (List.mem_append_right _ (List.mem_append_right _ (mC hb e)))).1,fun b hb=>?_⟩
    obtain⟨o,e,d⟩:=T.obj _ _ Nu b hb;exact(I7.pin (b,o) (List.mem_append_right _ (List.mem_append_right _ (mC hb e)))).2.1
   have reset:∀{AA:St} {H7:Hp} {s7:Shared},Inv (bo X scope (own++kn) fp s H) ([]++pG fp s5.heap) AA H7 s7->Inv (bo X scope (own++kn) fp s H) [] (dQ own kp σ) H7 s7:=fun {AA H7 s7} I7=>by
    have I8:=I7.qf;have hun:Un (EU X.stack) fp H H7 s.heap s7.heap:=I8.base;have I9:Inv X pins σ H7 s7:=vz I hf I8;refine⟨I8.ok,I8.os,I8.bare,I8.base,?_,I8.cell,I8.free,I8.freeC,I8.pin,I8.hok,I1.len⟩;obtain⟨m,hm,_⟩:=I8.loc;refine⟨m,hm,fun i x v h1 h2 h3=>?_⟩
    obtain⟨m1,Ia,yS⟩:=I1.loc;obtain⟨u1,r1,l1⟩:=yS i x v h1 h2 h3;have h1:(own++kn)[i]? =some x:=h1;have h2:(dQ own kp σ)[i]? =some (some v):=h2;unfold dQ at h2;by_cases hi:i < own.length
    .rw [List.getElem?_append_left (by simpa using hi),List.getElem?_replicate] at h2
     split at h2 <;> cases h2
    .rw [List.getElem?_append_right (by simpa using hi),List.length_replicate,List.getElem?_map] at h2
     rw[List.getElem?_append_right (by simpa using hi)] at h1
     cases e:kp[i - own.length]? with
     | none=>rw [e] at h2;cases h2
     | some j=>
       rw[e] at h2;have h2:(σ[j]?).getD none=some v:=Option.some.inj h2;have hj:X.N[j]? =some x:=C.at_ _ j x e h1;have Kz:σ[j]? =some (some v):=by
        cases q:σ[j]? with
        | none=>rw [q] at h2;cases h2
        | some y=>rw [q] at h2;exact congrArg some h2
       have hfree:scope.names.lookup x=some .free:=C.isfree x (List.mem_of_getElem? h1);have hkind:=C.free (x, .free) (PySem.mem_of_lookup hfree) rfl;obtain⟨m9,XR,Wx⟩:=I9.loc;obtain⟨u,r,l⟩:=Wx j x v hj Kz (hkind.elim (fun q=>Or.inr (Or.inl q)) fun q=>Or.inr (Or.inr q))
       refine⟨u,r, .inr ?_⟩;rcases l1 with⟨k,k2⟩ | ⟨k,c,hc,hcell⟩
       .have k:(relabel scope X.env).names.lookup x=some .local:=k;rcases eU k with z | ⟨z,_⟩
        .rw [hfree] at z;cases z
        .cases z
       .refine⟨k,c,hc,?_⟩;rcases l with⟨k',_⟩ | ⟨_,c',EW,Np⟩
        .rcases hkind with q | q
         .rw [show X.env.kindOf x=some .cell from q] at k';cases k'
         .rw [show X.env.kindOf x=some .free from q] at k';cases k'
        .have hcl:(oM X.env.cells scope.names []).lookup x=some c:=(xx _ _ _ fun z=>by have:=C.cel _ z rfl;rw [hfree] at this;cases this).symm.trans hc
         rcases kF scope.names [] hcl with q | ⟨q1,q2⟩
         .simp at q
         .rw [EW] at q2;have q2:c=c':=q2;rw[q2];exact Np
   have hmm:=hg ([]++pG fp s5.heap) s5 (dQ own kp σ) H5 x u _ I5' r5 (step x H5 y5);refine wpAny_bind (eN hmm fun _ s6 ⟨Py,H6,I6,q6⟩=>?_)
   refine wpAny_bind (eN (hi _ s6 Py H6 _ I6 q6) fun ok s7 ⟨H7,I7,q7⟩=>?_)
   cases ok with
   | false=>
     simp only[Bool.false_eq_true,if_false] at q7 ⊢;obtain⟨m',Nv,w7⟩:=q7;obtain⟨a1,a2⟩:=keepIt I7;exact wpAny_pure ⟨rfl,m',Nv,i+1,ys,H7,reset I7,a1,a2,w7⟩
   | true=>
     simp only[if_true] at q7 ⊢;refine wpAny_bind (wpAny_bind (eN (he _ s7 Py H7 _ I7 q7) fun yv s8 ⟨y,H8,I8,r8,hD,hlt,m',Nv,w8⟩=>wpAny_bind ?_))
     obtain⟨a1,a2⟩:=keepIt I8;refine eN (rE _ s8 Py H8 (.ref D) [y] (.ref D) [yv] (fun v H9=>v= .de/\H9=upd H8 D (.lst (ys++[y]))) I8 rfl (.cons r8 .nil) ⟨D,ys,y,rfl,rfl,hD,hlt,rfl,rfl⟩) fun _ s9 ⟨v9,H9,I9,_,_,e9⟩=>?_
     subst e9;obtain⟨b1,b2⟩:=keepIt I9;exact wpAny_pure (wpAny_pure ⟨rfl,m',Nv,i+1,ys++[y],_,reset I9,b1,b2,w8⟩)
 exact codeAny_compStart_list loop (T.self _ _ _ _ _ TU loop)
theorem CB(hc:X.calm=true)(C:bt X scope own kp kn)(hi:PI X tg iter wi)(hg:∀fp s H,PG (bo X scope (own++kn) fp s H) tg g)(yQ:∀fp s H,qa (bo X scope (own++kn) fp s H) ifs tc)
 (he:∀fp s H,PE (bo X scope (own++kn) fp s H) elt te) (hs:∀x,foldedSetIterable iter X.env x=pure x:=by intro _;rfl):PE X (.ListComp elt [⟨tg,iter,ifs,0⟩] scope pos) (Dw wi g tc te own kp):=by
 intro pins s σ H Q I h;rw[eval_ListComp];refine wpAny_comprehension_free (use:=none) rfl hs (mZ (pR C I)) C.kind C.nd (eN (hi pins s σ H _ I h) fun v s1 h1=>eN h1 fun Qm s2 h2=>?_)
 obtain⟨it,fp,tn,J,H2,e,I2,T,Iu,f2,q⟩:=h2;subst e;refine wpAny_newObj_type ?_;have I3:Inv X pins σ (upd H2 s2.heap.objs.size (.lst [])) {s2 with heap:=s2.heap.push {cls:= .type "list",dict:=none,data:= .seq ([]:List Value).toArray}}:=I2.Md (its:=[]) (t':=s2.toks) .nil (Nat.zero_le _)
 obtain⟨W,w0,turn⟩:=q s2.heap.objs.size I2.fresh;have fne:∀b∈fp,b < s2.heap.objs.size:=fun b hb=>let⟨o,e,_⟩:=T.obj _ _ Iu b hb;Heap.lt_size e
 have f3:∀b∈fp,sY X pins (upd H2 s2.heap.objs.size (.lst [])) b:=fun b hb=>⟨by rw[bg (Nat.ne_of_lt (fne b hb))];exact(f2 b hb).1,(f2 b hb).2⟩
 generalize hs3:({s2 with heap:=s2.heap.push {cls:= .type "list",dict:=none,data:= .seq ([]:List Value).toArray}}:Shared)=s3 at I3 ⊢
 have KG:tn 0 s3.heap:=by rw[<-hs3];exact T.keep _ _ _ Iu fun b _ o e=>Heap.get?_push_of_some _ e
 have fne3:∀b∈fp,b < s3.heap.objs.size:=fun b hb=>by rw[<-hs3];exact Nat.lt_of_lt_of_le (fne b hb) (by rw[Heap.size_push];exact Nat.le_succ _)
 refine wU fun jx Cb hk hC=>?_
 refine Al (D:=s2.heap.objs.size) hc C I3 f3 fne3 T (hg fp s3 _) (yQ fp s3 _) (he fp s3 _) Cb hk hC KG W w0 turn fun H' s' dC J' hq=>?_
 have B:=vz I3 f3 J';obtain⟨m',Nv,_⟩:=J'.loc;refine⟨m',Nv,fun h' sb=>⟨.ref s2.heap.objs.size,H',?_,rfl,hq⟩⟩
 have fC:=I3.vR (H':=H') (b:=s3.heap.objs.size) (Nat.le_refl _) J'.free;exact B.turned (it:=s3.heap.objs.size) (t':=s'.toks) (fun b o hb e=>(sb.2 b hb).trans e) fC.1 fC.2.1 fC.2.2.2.1 fC.2.2.2.2.1 fC.2.2.2.2.2
theorem l_{i:Nat}{x:Str}{pos' jN:Pos}(hc:X.calm=true)(hN:X.N.Nodup)(hx:X.N[i]? =some x)(EV:X.env.scope.names.lookup x=some .local)(C:bt X scope own kp kn)(hi:PI X tg iter wi)
 (hg:∀fp s H,PG (bo X scope (own++kn) fp s H) tg g) (yQ:∀fp s H,qa (bo X scope (own++kn) fp s H) ifs tc)
 (he:∀fp s H,PE (bo X scope (own++kn) fp s H) elt te)
 (tH:swapsWith (.ListComp elt [⟨tg,iter,ifs,0⟩] scope pos) (some (.Name x pos')) jN.line X.env=pure true:=by rfl)
 (hs:∀x,foldedSetIterable iter X.env x=pure x:=by intro _;rfl) :
 PS X (.Assign [.Name x pos'] (.ListComp elt [⟨tg,iter,ifs,0⟩] scope pos) jN) (Ew (Dw wi g tc te own kp) (uV i)):=by
 intro pins s σ H D I h;rw[exec_Assign_Name_used _ _ _ _ tH];refine wpAny_bind (wpAny_standAt (wpAny_bind ?_));show wpAny _ X.A (do let _ <-comprehension (.ListComp elt [⟨tg,iter,ifs,0⟩] scope pos) scope X.env _ (newList []) false (eval iter X.env) (some (assign (.Name x pos') X.env))) _ _ s
 refine wpAny_bind (wpAny_mono (wpAny_comprehension_free (use:=some (assign (.Name x pos') X.env)) (Q:=fun _ s'=>SP X pins D .next s') rfl hs (mZ (pR C I)) C.kind C.nd
  (eN (hi pins s σ H _ I h) fun v s1 h1=>eN h1 fun Qm s2 h2=>?_)) (fun _ s' hq=>wpAny_pure (wpAny_pure hq)) fun _ _ e=>e)
 obtain⟨it,fp,tn,J,H2,e,I2,T,Iu,f2,q⟩:=h2;subst e;refine wpAny_newObj_type ?_;have I3:Inv X pins σ (upd H2 s2.heap.objs.size (.lst [])) {s2 with heap:=s2.heap.push {cls:= .type "list",dict:=none,data:= .seq ([]:List Value).toArray}}:=I2.Md (its:=[]) (t':=s2.toks) .nil (Nat.zero_le _)
 obtain⟨W,w0,turn⟩:=q s2.heap.objs.size I2.fresh;have fne:∀b∈fp,b < s2.heap.objs.size:=fun b hb=>let⟨o,e,_⟩:=T.obj _ _ Iu b hb;Heap.lt_size e
 have f3:∀b∈fp,sY X pins (upd H2 s2.heap.objs.size (.lst [])) b:=fun b hb=>⟨by rw[bg (Nat.ne_of_lt (fne b hb))];exact(f2 b hb).1,(f2 b hb).2⟩
 generalize hs3:({s2 with heap:=s2.heap.push {cls:= .type "list",dict:=none,data:= .seq ([]:List Value).toArray}}:Shared)=s3 at I3 ⊢
 have KG:tn 0 s3.heap:=by rw[<-hs3];exact T.keep _ _ _ Iu fun b _ o e=>Heap.get?_push_of_some _ e
 have fne3:∀b∈fp,b < s3.heap.objs.size:=fun b hb=>by rw[<-hs3];exact Nat.lt_of_lt_of_le (fne b hb) (by rw[Heap.size_push];exact Nat.le_succ _)
 refine wU fun jx Cb hk hC=>?_
 refine Al (Q:=fun x H1=>uV i x σ H1 D.nx) (D:=s2.heap.objs.size) hc C I3 f3 fne3 T (hg fp s3 _) (yQ fp s3 _) (he fp s3 _) Cb hk hC KG W w0 turn fun H' s' dC J' hq=>?_
 have B:=vz I3 f3 J';obtain⟨m',Nv,_⟩:=J'.loc;have fC:=I3.vR (H':=H') (b:=s3.heap.objs.size) (Nat.le_refl _) J'.free;show wpAny _ X.A (assign (.Name x pos') X.env (.ref s2.heap.objs.size)) _ _ s';refine wpAny_assign_Name (wC B hN hx (.inl EV) (v:= .ref s2.heap.objs.size) rfl (fun s4 I4 ⟨a,sb,ha⟩=>?_) (.inr EV))
 have ha':s3.heap.objs.size≠a:=by
  rcases ha with rfl | z
  .exact fC.2.1
  .exact fun e=>fC.2.2.2.2.1 x a z e.symm
 refine⟨m',Nv.sameBut sb ha',fun h' V7=>⟨_,H',?_,hq⟩⟩
 exact I4.turned (it:=s3.heap.objs.size) (t':=s4.toks) (fun b o hb e=>(V7.2 b hb).trans e) fC.1 fC.2.1 fC.2.2.2.1 fC.2.2.2.2.1 fC.2.2.2.2.2
end
end L2
end
section
namespace L2
open PySem PySem.Spec PyProof.Rows
inductive D where
 | de | bl (b:Bool) | int (i:Int) | str (x:Str) | lst (ds:List D) | tup (ds:List D) | dct (ks:List Key) (ds:List D)
inductive R (α:Type) where
 | ok (a:α) | ex (c:Nat) | no
def R.bind{α β:Type}:R α->(α->R β)->R β
 | .ok a,f=>f a
 | .ex c,_=> .ex c
 | .no,_=> .no
theorem R.ao{α β:Type}{r:R α}{f:α->R β}{b:β}(h:r.bind f= .ok b):∃a,r= .ok a/\f a= .ok b:=by
 cases r with
 | ok a=>exact⟨a,rfl,h⟩
 | ex c=>cases h
 | no=>cases h
@[simp] theorem R.aT{α β:Type}(a:α)(f:α->R β):(R.ok a).bind f=f a:=rfl
def R.bJ{α:Type}(c:Bool)(r:R α):R α:=if c then r else .no
theorem R.bc{α:Type}{c:Bool}{r:R α}{a:α}(h:R.bJ c r= .ok a):c=true/\r= .ok a:=by
 cases c with
 | true=>exact⟨rfl,h⟩
 | false=>cases h
@[simp] theorem R.NB{α:Type}(r:R α):R.bJ true r=r:=rfl
def vJ(K:W.Frag)(B:List Addr)(H:Hp)(a:Addr)(xs:List V):Prop:=
 (a ∉ B/\Rd H a (.lst xs))\/∃(its:List Value) (n:Nat),K.lookup a=some {cls:= .type "list",data:= .seq its.toArray n}/\xs.length<=sizeLine/\Vals xs its
def vY(K:W.Frag)(B:List Addr)(H:Hp)(a:Addr)(xs:List V):Prop:=
 (a ∉ B/\Rd H a (.tup xs))\/∃(o:Obj) (its:Array Value) (n:Nat),K.lookup a=some o/\o.cls= .type "tuple"/\o.data= .seq its n/\its.size<=sizeLine/\Vals xs its.toList
theorem vJ.sq{K:W.Frag}{B:List Addr}{a:Addr}{xs:List V}(h:vJ K B H a xs):pH K H a xs:=by
 rcases h with z | ⟨its,n,hk,hz,r⟩
 .exact .inl z.2
 .exact .inr ⟨_,its.toArray,n,hk,rfl,rfl,rfl,by rw[List.size_toArray,<-r.length];exact hz,by simpa using r⟩
theorem vY.sq{K:W.Frag}{B:List Addr}{a:Addr}{xs:List V}(h:vY K B H a xs):tF K H a xs:=h.elim (fun z=> .inl z.2) .inr
mutual
def Rep(K:W.Frag)(B:List Addr)(H:Hp):D->V->Prop
 | .de,v=>v= .de
 | .bl b,v=>v= .bl b
 | .int i,v=>v= .int i
 | .str x,v=>v= .str x
 | .lst ds,v=>∃a xs,v= .ref a/\vJ K B H a xs/\aI K B H ds xs
 | .tup ds,v=>∃a xs,v= .ref a/\vY K B H a xs/\aI K B H ds xs
 | .dct ks ds,v=>∃(a:Addr) (ba:List (Key × V)),v= .ref a/\(a ∉ B/\H a=some (.dK ba))/\ba.map (·.1)=ks/\aI K B H ds (ba.map (·.2))
def aI(K:W.Frag)(B:List Addr)(H:Hp):List D->List V->Prop
 | [],xs=>xs=[]
 | d ::ds,xs=>∃x r,xs=x ::r/\Rep K B H d x/\aI K B H ds r
end
def dO(B:List Addr)(H:Hp)(B':List Addr)(H':Hp):Prop:=∀b o,H b=some o->b ∉ B->H' b=some o/\b ∉ B'
theorem dO.rd{B B':List Addr}(p:dO B H B' H'){a:Addr}{u:HO}(h:Rd H a u)(n:a ∉ B):Rd H' a u/\a ∉ B':=by
 rcases h with e | ⟨o,e⟩
 .exact⟨.inl (p a _ e n).1,(p a _ e n).2⟩
 .exact⟨.inr ⟨o,(p a _ e n).1⟩,(p a _ e n).2⟩
theorem dO.trans{B B' Pt:List Addr}(p:dO B H B' H')(q:dO B' H' Pt oP):dO B H Pt oP:=fun b o e n=>
 let⟨e1,n1⟩:=p b o e n;q b o e1 n1
theorem dO.same{B:List Addr}(s:aU H H'):dO B H B H':=fun b o e n=>⟨s b o e,n⟩
theorem dO.refl(B:List Addr)(H:Hp):dO B H B H:=dO.same (aU.refl H)
theorem vJ.bj{K:W.Frag}{B B':List Addr}(p:dO B H B' H'){a:Addr}{xs:List V}(l:vJ K B H a xs):vJ K B' H' a xs:=
 l.elim (fun z=> .inl ⟨(p.rd z.2 z.1).2,(p.rd z.2 z.1).1⟩) .inr
mutual
theorem Rep.bj{K:W.Frag}{B B':List Addr}(p:dO B H B' H'):∀{d:D} {v:V},Rep K B H d v->Rep K B' H' d v
 | .de,_,h=>h
 | .bl _,_,h=>h
 | .int _,_,h=>h
 | .str _,_,h=>h
 | .lst ds,v,h=>by
   unfold Rep at h ⊢;obtain⟨a,xs,e,l,r⟩:=h;exact⟨a,xs,e,l.bj p,aI.bj p r⟩
 | .tup ds,v,h=>by
   unfold Rep at h ⊢;obtain⟨a,xs,e,l,r⟩:=h;exact⟨a,xs,e,l.elim (fun z=> .inl ⟨(p.rd z.2 z.1).2,(p.rd z.2 z.1).1⟩) .inr,aI.bj p r⟩
 | .dct ks ds,v,h=>by
   unfold Rep at h ⊢;obtain⟨a,ba,e,⟨n,l⟩,k,r⟩:=h;exact⟨a,ba,e,⟨(p a _ l n).2,(p a _ l n).1⟩,k,aI.bj p r⟩
theorem aI.bj{K:W.Frag}{B B':List Addr}(p:dO B H B' H'):∀{ds:List D} {xs:List V},aI K B H ds xs->aI K B' H' ds xs
 | [],_,h=>h
 | d ::ds,xs,h=>by
   unfold aI at h ⊢;obtain⟨x,r,e,h1,h2⟩:=h;exact⟨x,r,e,Rep.bj p h1,aI.bj p h2⟩
end
theorem Rep.same{K:W.Frag}{B:List Addr}{d:D}{v:V}(h:Rep K B H d v)(s:aU H H'):Rep K B H' d v:=h.bj (dO.same s)
theorem aI.same{K:W.Frag}{B:List Addr}{d:List D}{v:List V}(h:aI K B H d v)(s:aU H H'):aI K B H' d v:=h.bj (dO.same s)
theorem aI.nil{K:W.Frag}{B:List Addr}:aI K B H [] []:=by unfold aI;rfl
theorem aI.cons{K:W.Frag}{B:List Addr}{d:D}{ds:List D}{x:V}{xs:List V}(h:Rep K B H d x)(t:aI K B H ds xs):aI K B H (d ::ds) (x ::xs):=by
 unfold aI;exact⟨x,xs,rfl,h,t⟩
theorem aI.cJ{K:W.Frag}{B:List Addr}{d:D}{ds:List D}{xs:List V}(h:aI K B H (d ::ds) xs):∃x r,xs=x ::r/\Rep K B H d x/\aI K B H ds r:=by
 unfold aI at h;exact h
theorem aI.length{K:W.Frag}{B:List Addr}:∀{ds:List D} {xs:List V},aI K B H ds xs->ds.length=xs.length
 | [],_,h=>by unfold aI at h;rw [h];rfl
 | d ::ds,xs,h=>by
   obtain⟨x,r,rfl,_,h2⟩:=h.cJ;simp [h2.length]
theorem aI.get{K:W.Frag}{B:List Addr}:∀{ds:List D} {xs:List V} {i:Nat} {d:D},aI K B H ds xs->ds[i]? =some d->∃x,xs[i]? =some x/\Rep K B H d x
 | [],_,_,_,_,e=>by simp at e
 | d ::ds,xs,0,d',h,e=>by
   obtain⟨x,r,rfl,h1,h2⟩:=h.cJ;simp at e;subst e;exact⟨x,rfl,h1⟩
 | d ::ds,xs,i+1,d',h,e=>by
   obtain⟨x,r,rfl,h1,h2⟩:=h.cJ;obtain⟨y,e1,e2⟩:=aI.get (i:=i) h2 (by simpa using e)
   exact⟨y,by simpa using e1,e2⟩
theorem aI.append{K:W.Frag}{B:List Addr}:∀{ds es:List D} {xs ys:List V},aI K B H ds xs->aI K B H es ys->aI K B H (ds++es) (xs++ys)
 | [],_,_,_,h,t=>by unfold aI at h;subst h;exact t
 | d ::ds,es,xs,ys,h,t=>by
   obtain⟨x,r,rfl,h1,h2⟩:=h.cJ;exact aI.cons h1 (aI.append h2 t)
theorem aI.drop{K:W.Frag}{B:List Addr}:∀{ds:List D} {xs:List V} (n:Nat),aI K B H ds xs->aI K B H (ds.drop n) (xs.drop n)
 | _,_,0,h=>h
 | [],_,n+1,h=>by unfold aI at h;subst h;exact aI.nil
 | d ::ds,xs,n+1,h=>by
   obtain⟨x,r,rfl,h1,h2⟩:=h.cJ;exact aI.drop n h2
theorem aI.take{K:W.Frag}{B:List Addr}:∀{ds:List D} {xs:List V} (n:Nat),aI K B H ds xs->aI K B H (ds.take n) (xs.take n)
 | _,_,0,h=>aI.nil
 | [],_,n+1,h=>by unfold aI at h;subst h;exact aI.nil
 | d ::ds,xs,n+1,h=>by
   obtain⟨x,r,rfl,h1,h2⟩:=h.cJ;exact aI.cons h1 (aI.take n h2)
def D.atom:D->Bool
 | .de=>true | .bl _=>true | .int _=>true | .str _=>true | _=>false
theorem Rep.atom{K:W.Frag}{B B':List Addr}{d:D}{v:V}(a:d.atom=true)(h:Rep K B H d v):Rep K B' H' d v:=by
 cases d <;> first | exact h | cases a
inductive Sl where
 | un | val (d:D) | bld (ds:List D)
abbrev aw:=List Sl
structure d4 (K:W.Frag) (Z B:List Addr) (H:Hp) (σ:St) (δ:aw):Prop where
 len:δ.length=σ.length
 bs:∀a∈B,∃o,H a=some o
 zb:∀a∈Z,a∈B
 val:∀(i:Nat) (d:D),δ[i]? =some (.val d)->∃v,σ[i]? =some (some v)/\Rep K B H d v
 bld:∀(i:Nat) (ds:List D),δ[i]? =some (.bld ds)->∃a xs,σ[i]? =some (some (.ref a))/\a∈B/\a ∉ Z/\H a=some (.lst xs)/\aI K B H ds xs
 dis:∀(i j:Nat) (a:Addr) (ds es:List D),δ[i]? =some (.bld ds)->δ[j]? =some (.bld es)->σ[i]? =some (some (.ref a))->σ[j]? =some (some (.ref a))->i=j
theorem d4.same{K:W.Frag}{Z B:List Addr}{δ:aw}(E:d4 K Z B H σ δ)(s:aU H H'):d4 K Z B H' σ δ where
 len:=E.len
 bs:=fun a ha=>let⟨o,e⟩:=E.bs a ha;⟨o,s a o e⟩
 zb:=E.zb
 val:=fun i d e=>let⟨v,h1,h2⟩:=E.val i d e;⟨v,h1,h2.same s⟩
 bld:=fun i ds e=>let⟨a,xs,h1,h2,h3,h4,h5⟩:=E.bld i ds e;⟨a,xs,h1,h2,h3,s a _ h4,h5.same s⟩
 dis:=E.dis
def ur(δ:aw):aw:=δ.map fun x=>match x with | .bld ds=> .val (.lst ds) | y=>y
theorem d4.ur{K:W.Frag}{Z B:List Addr}{δ:aw}(E:d4 K Z B H σ δ):d4 K [] [] H σ (ur δ) where
 len:=by unfold L2.ur;rw [List.length_map];exact E.len
 bs:=fun a ha=>by cases ha
 zb:=fun a ha=>by cases ha
 val:=fun i d e=>by
  unfold L2.ur at e;rw[List.getElem?_map] at e;have p:dO B H [] H:=fun b o e _=>⟨e,by simp⟩
  cases q:δ[i]? with
  | none=>rw [q] at e;cases e
  | some x=>
    rw[q] at e;cases x with
    | un=>cases e
    | val d'=>cases e;obtain⟨v,h1,h2⟩:=E.val i d q;exact⟨v,h1,h2.bj p⟩
    | bld ds=>
      cases e;obtain⟨a,xs,h1,_,_,h4,h5⟩:=E.bld i ds q;refine⟨.ref a,h1,?_⟩;unfold Rep;exact⟨a,xs,rfl, .inl ⟨by simp, .inl h4⟩,h5.bj p⟩
 bld:=fun i ds e=>by
  unfold L2.ur at e;rw[List.getElem?_map] at e;cases q:δ[i]? with
  | none=>rw [q] at e;cases e
  | some x=>rw [q] at e;cases x <;> cases e
 dis:=fun i j a ds es e=>by
  unfold L2.ur at e;rw[List.getElem?_map] at e;cases q:δ[i]? with
  | none=>rw [q] at e;cases e
  | some x=>rw [q] at e;cases x <;> cases e
theorem PE.imp{X:Cx}{t t':TE}(h:PE X e t)(w:∀σ H Q,t' σ H Q->t σ H Q):PE X e t':=fun pins s σ H Q I hq=>h pins s σ H Q I (w σ H Q hq)
theorem PT.imp{X:Cx}{t t':TT}(h:PT X e t)(w:∀σ H Q,t' σ H Q->t σ H Q):PT X e t':=fun pins s σ H Q I hq=>h pins s σ H Q I (w σ H Q hq)
theorem PA.imp{X:Cx}{t t':TA}(h:PA X e t)(w:∀σ H Q,t' σ H Q->t σ H Q):PA X e t':=fun pos pins s σ H Q I hq=>h pos pins s σ H Q I (w σ H Q hq)
theorem PS.imp{X:Cx}{t t':TS}(h:PS X e t)(w:∀D σ H,t' D σ H->t D σ H):PS X e t':=fun pins s σ H D I hq=>h pins s σ H D I (w D σ H hq)
theorem yV.imp{X:Cx}{t t':TS}(h:yV X e t)(w:∀D σ H,t' D σ H->t D σ H):yV X e t':=fun pins s σ H D I hq=>h pins s σ H D I (w D σ H hq)
theorem PG.imp{X:Cx}{t t':TG}(h:PG X e t)(w:∀v σ H Q,t' v σ H Q->t v σ H Q):PG X e t':=fun pins s σ H v u Q I r hq=>h pins s σ H v u Q I r (w v σ H Q hq)
theorem PI.imp{X:Cx}{t t':TI}(h:PI X tg e t)(w:∀σ H Q,t' σ H Q->t σ H Q):PI X tg e t':=fun pins s σ H Q I hq=>h pins s σ H Q I (w σ H Q hq)
abbrev FD:=aw->R D
def tD(K:W.Frag)(f:FD):TE:=fun σ H Q=>∃Z B δ d,d4 K Z B H σ δ/\f δ= .ok d/\∀v H',aU H H'->Rep K B H' d v->Q v H'
def tN(K:W.Frag)(f:aw->R (List D)):TE:=fun σ H Q=>∃Z B δ ds,d4 K Z B H σ δ/\f δ= .ok ds/\∀a xs H',aU H H'->H a=none->H' a=some (.lst xs)->aI K (a ::B) H' ds xs->Q (.ref a) H'
def K5(K:W.Frag)(f:aw->R Bool):TT:=fun σ H Q=>∃Z B δ b,d4 K Z B H σ δ/\f δ= .ok b/\∀H',aU H H'->Q b H'
def SJ(K:W.Frag)(f:aw->R (List D)):TA:=fun σ H Q=>∃Z B δ ds,d4 K Z B H σ δ/\f δ= .ok ds/\∀vs H',aU H H'->aI K B H' ds vs->Q vs H'
abbrev PD(X:Cx)(e:Expr)(f:FD):Prop:=PE X e (tD X.K f)
abbrev PN(X:Cx)(e:Expr)(f:aw->R (List D)):Prop:=PE X e (tN X.K f)
abbrev PB(X:Cx)(e:Expr)(f:aw->R Bool):Prop:=PT X e (K5 X.K f)
abbrev Im(X:Cx)(es:List Expr)(f:aw->R (List D)):Prop:=PA X es (SJ X.K f)
section
variable {X:Cx}
def eNew(f:aw->R (List D)):FD:=fun δ=>(f δ).bind fun ds=> .ok (.lst ds)
theorem MC{f:aw->R (List D)}(h:PN X e f):PD X e (eNew f):=h.imp fun σ H Q ⟨Z,B,δ,d,E,hf,q⟩=>by
 obtain⟨ds,h1,h2⟩:=R.ao hf;cases h2;refine⟨Z,B,δ,ds,E,h1,fun a xs H' s n e r=>q _ H' s ?_⟩
 unfold Rep;refine⟨a,xs,rfl, .inl ⟨fun ha=>?_, .inl e⟩,r.bj fun b o e nb=>⟨e,fun hb=>nb (List.mem_cons_of_mem _ hb)⟩⟩
 obtain⟨o,ho⟩:=E.bs a ha;rw[n] at ho;cases ho
theorem zS{B:List Addr}{H:Hp}{p:Addr}{o:HO}(h:H p=none):dO B H (p ::B) (upd H p o):=fun b u e nb=>
 ⟨by rw[bg (cV e h)];exact e,fun hb=>by
   rcases List.mem_cons.mp hb with z | z
   .exact cV e h z
   .exact nb z⟩
def zd(f:FD):FD:=fun δ=>(f (ur δ)).bind fun d=>R.bJ d.atom (.ok d)
theorem JX(h:PD X e f):PD X e (zd f):=h.imp fun σ H Q ⟨Z,B,δ,d,E,hf,q⟩=>by
 obtain⟨d',h1,h2⟩:=R.ao hf;obtain⟨ha,h3⟩:=R.bc h2;cases h3;exact⟨[],[],L2.ur δ,d,E.ur,h1,fun v H' s r=>q v H' s (r.atom ha)⟩
def S8(f:aw->R Bool):aw->R Bool:=fun δ=>f (ur δ)
def ai(i:Nat):FD:=fun δ=>match δ[i]? with | some (.val d)=> .ok d | _=> .no
def eC(d:D):FD:=fun _=> .ok d
theorem Ng(i:Nat){x:Str}{pos:Pos}(hN:X.N[i]? =some x:=by rfl)(hv:F9 X.env.scope x:=by first | exact Or.inl rfl | exact Or.inr (Or.inl rfl) | exact Or.inr (Or.inr rfl))(hd:(x==("__debug__":Str))=false:=by decide)
 (r6:(x==("__classdict__":Str))=false:=by decide):PD X (.Name x pos) (ai i):=(rG hN hv hd r6).imp fun σ H Q ⟨Z,B,δ,d,E,hf,q⟩=>by
 unfold ai at hf;split at hf
 .rename_i d' e;cases hf;obtain⟨v,h1,h2⟩:=E.val i d e;exact⟨v,h1,q v H (aU.refl H) h2⟩
 .cases hf
theorem nA{v:V}{d:D}(h:PE X e (tC v))(r:∀B H,Rep X.K B H d v):PD X e (eC d):=h.imp fun σ H Q ⟨Z,B,δ,d',E,hf,q⟩=>by
 cases hf;exact q v H (aU.refl H) (r B H)
theorem MO{i j pos}:PD X (.Constant (.int i) j pos) (eC (.int i)):=nA uB fun _ _=>by unfold Rep;rfl
theorem OJ{b j pos}:PD X (.Constant (.bool b) j pos) (eC (.bl b)):=nA N8 fun _ _=>by unfold Rep;rfl
theorem Lp{j pos}:PD X (.Constant .none j pos) (eC .de):=nA Mv fun _ _=>by unfold Rep;rfl
theorem Nd{x j pos}:PD X (.Constant (.str x) j pos) (eC (.str x)):=nA uW fun _ _=>by unfold Rep;rfl
def Glob(K:W.Frag)(mg:X2)(x:Str)(d:D):Prop:=∃(u:Value) (v:V),mg x=some u/\RelV v u/\∀B H,Rep K B H d v
theorem Jz{d:D}{pos:Pos}(g:Glob X.K X.mg x d)(hg:Gl X x)(hd:(x==("__debug__":Str))=false:=by decide):PD X (.Name x pos) (eC d):=by
 obtain⟨u,v,hm,r,h⟩:=g;exact nA (II hg hm r hd) h
def aP:aw->R (List D):=fun _=> .ok []
def ak(f:FD)(g:aw->R (List D)):aw->R (List D):=fun δ=>(f δ).bind fun d=>(g δ).bind fun ds=> .ok (d ::ds)
theorem IC:Im X [] aP:=j5.imp fun σ H Q ⟨Z,B,δ,d,E,hf,q⟩=>by
 cases hf;exact q [] H (aU.refl H) aI.nil
theorem Hd{g:aw->R (List D)}(h:PD X e f)(t:Im X es g)(hs:starEach (e ::es) X.env=(false,eval e X.env) ::starEach es X.env:=by rfl):Im X (e ::es) (ak f g):=
 (gI h t hs).imp fun σ H Q ⟨Z,B,δ,d,E,hf,q⟩=>by
   obtain⟨d1,h1,h2⟩:=R.ao hf;obtain⟨ds,h3,h4⟩:=R.ao h2;cases h4;exact⟨Z,B,δ,d1,E,h1,fun v H1 s1 r1=>⟨Z,B,δ,ds,E.same s1,h3,fun vs H2 s2 r2=>q _ H2 (s1.trans s2) (aI.cons (r1.same s2) r2)⟩⟩
def dP(g:aw->R (List D)):FD:=fun δ=>(g δ).bind fun ds=>R.bJ (decide (ds.length<=sizeLine)) (.ok (.tup ds))
def jI(g:aw->R (List D)):aw->R (List D):=fun δ=>(g δ).bind fun ds=>R.bJ (decide (ds.length<=sizeLine)) (.ok ds)
theorem bh{H:Hp}{p:Addr}{o:HO}(h:H p=none):aU H (upd H p o):=fun b u e=>by rw[bg (cV e h)];exact e
theorem MN{g:aw->R (List D)}{x1 pos}(h:Im X es g):PD X (.Tuple es x1 pos) (dP g):=(Fv h).imp fun σ H Q ⟨Z,B,δ,d,E,hf,q⟩=>by
 obtain⟨ds,h1,h2⟩:=R.ao hf;obtain⟨hl,h3⟩:=R.bc h2;cases h3;refine⟨Z,B,δ,ds,E,h1,fun vs H1 s1 r1=>⟨by rw[<-r1.length];exact of_decide_eq_true hl,fun p hp=>q _ _ (s1.trans (bh hp)) ?_⟩⟩
 unfold Rep;refine⟨p,vs,rfl, .inl ⟨fun ha=>?_, .inl bq⟩,r1.same (bh hp)⟩
 obtain⟨o,ho⟩:=(E.same s1).bs p ha;rw[hp] at ho;cases ho
theorem Mw{g:aw->R (List D)}{pos}(h:Im X es g):PN X (.List es pos) (jI g):=(Gw h).imp fun σ H Q ⟨Z,B,δ,d,E,hf,q⟩=>by
 obtain⟨ds,h1,h2⟩:=R.ao hf;obtain⟨hl,h3⟩:=R.bc h2;cases h3;exact⟨Z,B,δ,_,E,h1,fun vs H1 s1 r1=>⟨by rw[<-r1.length];exact of_decide_eq_true hl,fun p hp=>q p vs _ (s1.trans (bh hp)) (s1.free hp) bq (r1.bj (zS hp))⟩⟩
def mh(X:Cx)(f:Value->Value->Sem Value)(g:D->D->R D):Prop:=
 ∀(pins:XX) (s:Shared) (σ:St) (H:Hp) (B:List Addr) (da db d:D) (x y:V) (v u:Value),Inv X pins σ H s->(∀a∈B,∃o,H a=some o)->RelV x v->RelV y u->Rep X.K B H da x->Rep X.K B H db y->g da db= .ok d->
  wpAny (model X.prog X.w) X.A (f v u) (EP X pins σ fun z H'=>aU H H'/\Rep X.K B H' d z) X.xe s
def e2(g:D->D->R D)(fa fb:FD):FD:=fun δ=>(fa δ).bind fun a=>(fb δ).bind fun b=>g a b
theorem mh.r{f:Value->Value->Sem Value}{g:D->D->R D}(h:mh X f g):oK X f (fun x y H Q=>∃B da db d,(∀a∈B,∃o,H a=some o)/\Rep X.K B H da x/\Rep X.K B H db y/\g da db= .ok d/\∀z H',aU H H'->Rep X.K B H' d z->Q z H'):=by
 intro pins s σ H x y v u Q I rx ry ⟨B,da,db,d,hb,ha,qU,hg,q⟩;exact eN (h pins s σ H B da db d x y v u I hb rx ry ha qU hg) fun z s' ⟨zv,H',I',r',s1,r1⟩=>⟨zv,H',I',r',q zv H' s1 r1⟩
theorem Mh{K:W.Frag}{g:D->D->R D}{Q:VK}(h:tD K (e2 g fa fb) σ H Q) :
 ND (fun x y H Q=>∃B da db d,(∀a∈B,∃o,H a=some o)/\Rep K B H da x/\Rep K B H db y/\g da db= .ok d/\∀z H',aU H H'->Rep K B H' d z->Q z H') (tD K fa) (tD K fb) σ H Q:=by
 obtain⟨Z,B,δ,d,E,hf,q⟩:=h;obtain⟨d1,h1,h2⟩:=R.ao hf;obtain⟨d2,h3,h4⟩:=R.ao h2;exact⟨Z,B,δ,d1,E,h1,fun v1 H1 s1 r1=>⟨Z,B,δ,d2,E.same s1,h3,fun v2 H2 s2 r2=>⟨B,d1,d2,d,(E.same (s1.trans s2)).bs,r1.same s2,r2,h4,fun z H' s3 r3=>q z H' (s1.trans (s2.trans s3)) r3⟩⟩⟩
theorem Pd{op:Operator}{g:D->D->R D}(ho:mh X (binaryOp op) g)(ha:PD X a fa)(hb:PD X b fb):PD X (.BinOp a op b pos) (e2 g fa fb):=
 (K3 ho.r ha hb).imp fun σ H Q h=>Mh h
theorem Mn{op:CmpOp}{g:D->D->R D}(ho:mh X (compareOp op) g)(ha:PD X a fa)(hb:PD X b fb)(hm:behindInMarks op b=false):PD X (.Compare a [op] [b] pos) (e2 g fa fb):=
 (CJ ho.r ha hb hm).imp fun σ H Q h=>Mh h
def b2(g:D->D->R D)(fa fb:FD):aw->R Bool:=fun δ=>(e2 g fa fb δ).bind fun d=>match d with | .bl b=> .ok b | _=> .no
theorem Lv{op:CmpOp}{g:D->D->R D}(ho:mh X (compareOp op) g)(ha:PD X a fa)(hb:PD X b fb)(hm:behindInMarks op b=false):PB X (.Compare a [op] [b] pos) (b2 g fa fb):=
 (CL ho.r ha hb hm).imp fun σ H Q ⟨Z,B,δ,b,E,hf,q⟩=>by
   obtain⟨d,h1,h2⟩:=R.ao hf;cases d with
   | bl k=>
     cases h2;exact Mh (g:=g) (Q:=fun x H'=>∃k,x= .bl k/\Q k H') ⟨Z,B,δ, .bl b,E,h1,fun v H' s r=>⟨b,by unfold Rep at r;exact r,q H' s⟩⟩
   | _=>cases h2
def RA(g g':D->D->R D)(fa fb fc:FD):FD:=fun δ=>(fa δ).bind fun a=>(fb δ).bind fun b=>(g a b).bind fun r=>match r with
 | .bl true=>(fc δ).bind fun c=>g' b c
 | .bl false=> .ok (.bl false)
 | _=> .no
def IM:D->R Bool
 | .de=> .ok false
 | .bl b=> .ok b
 | .int i=> .ok (i !=0)
 | .str x=>R.bJ (decide (x.length<=sizeLine)) (.ok ((x.length:Int) !=0))
 | .lst ds=> .ok (!ds.isEmpty)
 | .tup ds=> .ok (!ds.isEmpty)
 | .dct _ _=> .no
def xV(f:FD):aw->R Bool:=fun δ=>(f δ).bind IM
theorem aI.isEmpty{K:W.Frag}{B:List Addr}{ds:List D}{xs:List V}(h:aI K B H ds xs):ds.isEmpty=xs.isEmpty:=by
 have:=h.length;cases ds <;> cases xs <;> simp_all
theorem EY{K:W.Frag}{B:List Addr}{d:D}{v:V}{b:Bool}(r:Rep K B H d v)(h:IM d= .ok b):Jf K v H b:=by
 cases d with
 | de=>unfold Rep at r;subst r;cases h;exact rfl
 | bl k=>unfold Rep at r;subst r;cases h;exact rfl
 | int i=>unfold Rep at r;subst r;cases h;exact rfl
 | str x=>unfold Rep at r;subst r;obtain⟨h1,h2⟩:=R.bc h;cases h2;exact⟨of_decide_eq_true h1,rfl⟩
 | lst ds=>unfold Rep at r;obtain⟨a,xs,rfl,l,r⟩:=r;cases h;exact .inl ⟨xs,l.sq,by rw[r.isEmpty]⟩
 | tup ds=>unfold Rep at r;obtain⟨a,xs,rfl,l,r⟩:=r;cases h;exact .inr (.inl ⟨xs,l.sq,by rw[r.isEmpty]⟩)
 | dct _ _=>cases h
theorem Nb{a:Expr}(ha:PD X a f)(he:∀whole,isTrue a X.env whole=(do let v <-whole;standAt a.pos;holding [v] (truthy v)):=by intro _;rfl):PB X a (xV f):=
 (zj ha he).imp fun σ H Q ⟨Z,B,δ,b,E,hf,q⟩=>by
   obtain⟨d,h1,h2⟩:=R.ao hf;exact⟨Z,B,δ,d,E,h1,fun v H' s r=>⟨b,EY r h2,q H' s⟩⟩
def Vr(f g:aw->R Bool):aw->R Bool:=fun δ=>(f δ).bind fun b=>if b then g δ else .ok false
def P7(f g:aw->R Bool):aw->R Bool:=fun δ=>(f δ).bind fun b=>if b then .ok true else g δ
def Bw(f:aw->R Bool):aw->R Bool:=fun δ=>(f δ).bind fun b=> .ok (!b)
def LK(X:Cx)(e:Expr)(f:aw->R Bool):Prop:=PW X e (K5 X.K f)
theorem LK.pb{f:aw->R Bool}(h:LK X e f):PB X e f:=PW.pt h
theorem JQ{f:aw->R Bool}(h:PB X a f):LK X (.BoolOp .Or [a] pos) f:=FR h
theorem MJ{rest:List Expr}{f g:aw->R Bool}(ha:PB X a f)(hb:LK X (.BoolOp .Or (b ::rest) pos) g):LK X (.BoolOp .Or (a ::b ::rest) pos) (P7 f g):=by
 intro wh pins s σ H Q I ⟨Z,B,δ,k,E,hf,q⟩;refine KY ha hb wh pins s σ H Q I ?_;obtain⟨c,h1,h2⟩:=R.ao hf;refine⟨Z,B,δ,c,E,h1,fun H1 s1=>?_⟩
 cases c with
 | true=>rw [if_pos rfl] at h2 ⊢;cases h2;exact q H1 s1
 | false=>rw [if_neg (by decide)] at h2 ⊢;exact⟨Z,B,δ,k,E.same s1,h2,fun H' s2=>q H' (s1.trans s2)⟩
theorem L5{f:aw->R Bool}(ha:PB X a f):PB X (.UnaryOp .Not a pos) (Bw f):=(HS ha).imp fun σ H Q ⟨Z,B,δ,k,E,hf,q⟩=>by
 obtain⟨c,h1,h2⟩:=R.ao hf;cases h2;exact⟨Z,B,δ,c,E,h1,fun H1 s1=>q H1 s1⟩
def NF(f:FD):aw->R Bool:=fun δ=>(f δ).bind fun d=>match d with | .bl b=> .ok b | _=> .no
def GN(f g:FD):FD:=fun δ=>(NF f δ).bind fun b=>if b then g δ else .ok (.bl false)
def Xt(f g:FD):FD:=fun δ=>(NF f δ).bind fun b=>if b then .ok (.bl true) else g δ
def Vf(f:FD):FD:=fun δ=>(NF f δ).bind fun b=> .ok (.bl (!b))
theorem LI{f:FD}{δ:aw}{b:Bool}(h:NF f δ= .ok b):f δ= .ok (.bl b):=by
 obtain⟨d,h1,h2⟩:=R.ao h;cases d with
 | bl k=>cases h2;exact h1
 | _=>cases h2
theorem M0{op}(h:PD X a f):PD X (.BoolOp op [a] pos) f:=L_ h
theorem LG{rest:List Expr}(ha:PD X a f)(hb:PD X (.BoolOp .And (b ::rest) pos) g):PD X (.BoolOp .And (a ::b ::rest) pos) (GN f g):=(MB ha hb).imp fun σ H Q ⟨Z,B,δ,k,E,hf,q⟩=>by
 obtain⟨c,h1,h2⟩:=R.ao hf;refine⟨Z,B,δ, .bl c,E,LI h1,fun v H1 s1 r1=>⟨c,by unfold Rep at r1;exact r1,?_⟩⟩
 cases c with
 | true=>rw [if_pos rfl] at h2 ⊢;exact⟨Z,B,δ,k,E.same s1,h2,fun v H' s2 r2=>q v H' (s1.trans s2) r2⟩
 | false=>rw [if_neg (by decide)] at h2 ⊢;cases h2;exact q _ H1 s1 (by unfold Rep;rfl)
def LH(c:aw->R Bool)(f g:FD):FD:=fun δ=>(c δ).bind fun b=>if b then f δ else g δ
theorem OP{fc:aw->R Bool}(hc:PB X c fc)(ha:PD X a f)(hb:PD X b g):PD X (.IfExp c a b pos) (LH fc f g):=(G8 hc ha hb).imp fun σ H Q ⟨Z,B,δ,k,E,hf,q⟩=>by
 obtain⟨c,h1,h2⟩:=R.ao hf;refine⟨Z,B,δ,c,E,h1,fun H1 s1=>?_⟩
 cases c with
 | true=>rw [if_pos rfl] at h2 ⊢;exact⟨Z,B,δ,k,E.same s1,h2,fun v H' s2 r2=>q v H' (s1.trans s2) r2⟩
 | false=>rw [if_neg (by decide)] at h2 ⊢;exact⟨Z,B,δ,k,E.same s1,h2,fun v H' s2 r2=>q v H' (s1.trans s2) r2⟩
def gn(X:Cx)(f:Value)(g:List D->R D):Prop:=
 ∀(pins:XX) (s:Shared) (σ:St) (H:Hp) (B:List Addr) (ds:List D) (d:D) (xs:List V) (us:List Value),Inv X pins σ H s->(∀a∈B,∃o,H a=some o)->Vals xs us->aI X.K B H ds xs->g ds= .ok d->
  wpAny (model X.prog X.w) X.A (call f us) (EP X pins σ fun z H'=>aU H H'/\Rep X.K B H' d z) X.xe s
def aQ(g:List D->R D)(fs:aw->R (List D)):FD:=fun δ=>(fs δ).bind g
theorem gn.r{f:Value}{g:List D->R D}(h:gn X f g):sG X f (fun xs H Q=>∃B ds d,(∀a∈B,∃o,H a=some o)/\aI X.K B H ds xs/\g ds= .ok d/\∀z H',aU H H'->Rep X.K B H' d z->Q z H'):=by
 intro pins s σ H xs us Q I rx ⟨B,ds,d,hb,hr,hg,q⟩;exact eN (h pins s σ H B ds d xs us I hb rx hr hg) fun z s' ⟨zv,H',I',r',s1,r1⟩=>⟨zv,H',I',r',q zv H' s1 r1⟩
theorem CY{K:W.Frag}{g:List D->R D}{fs:aw->R (List D)}{Q:VK}(h:tD K (aQ g fs) σ H Q) :
 SJ K fs σ H fun vs H1=>∃B ds d,(∀a∈B,∃o,H1 a=some o)/\aI K B H1 ds vs/\g ds= .ok d/\∀z H',aU H1 H'->Rep K B H' d z->Q z H':=by
 obtain⟨Z,B,δ,d,E,hf,q⟩:=h;obtain⟨ds,h1,h2⟩:=R.ao hf;exact⟨Z,B,δ,ds,E,h1,fun vs H1 s1 r1=>⟨B,ds,d,(E.same s1).bs,r1,h2,fun z H' s2 r2=>q z H' (s1.trans s2) r2⟩⟩
theorem Hr{g:List D->R D}{x:Str}{id:String}{p pos:Pos}{e:Expr}{es:List Expr}{fs:aw->R (List D)}(hc:gn X (.builtin id) g)(hg:Gl X x)(hm:X.mg x=none)(hv:bootBuiltins x=some (.builtin id))(ha:Im X (e ::es) fs)(hn:x≠"__name__":=by decide)(qT:(x==("__debug__":Str))=false:=by decide)
 (he:starEach (e ::es) X.env=(false,eval e X.env) ::starEach es X.env:=by rfl) (oH:(backTo pos (starEach es X.env)).any (·.1)=false:=by rfl):PD X (.Call (.Name x p) (e ::es) [] pos) (aQ g fs):=
 (Aa hc.r hg hm hv ha hn qT he oH).imp fun σ H Q h=>CY h
theorem Er{g:List D->R D}{x:Str}{T:String}{p pos:Pos}{e:Expr}{es:List Expr}{fs:aw->R (List D)}(hc:gn X (.type T) g)(hg:Gl X x)(hm:X.mg x=none)(hv:bootBuiltins x=some (.type T))(ha:Im X (e ::es) fs)(hn:x≠"__name__":=by decide)(qT:(x==("__debug__":Str))=false:=by decide)
 (he:starEach (e ::es) X.env=(false,eval e X.env) ::starEach es X.env:=by rfl) (oH:(backTo pos (starEach es X.env)).any (·.1)=false:=by rfl):PD X (.Call (.Name x p) (e ::es) [] pos) (aQ g fs):=
 (DX hc.r hg hm hv ha hn qT he oH).imp fun σ H Q h=>CY h
def Gp(K:W.Frag)(n:Nat)(g:List D->R D):Sp:=fun vs H Q _=>vs.length=n/\∃B ds d,(∀a∈B,∃o,H a=some o)/\aI K B H ds vs/\g ds= .ok d/\∀z H',aU H H'->Rep K B H' d z->Q z H'
theorem IY{g:List D->R D}{k n:Nat}{f:Addr}{fd:FuncData}{ps:List Str}{x:Str}{p pos:Pos}{e:Expr}{es:List Expr}{fs:aw->R (List D)}
 (F:jC X.prog X.w X.K X.mg X.base vN k f fd ps (Gp X.K n g)) (hr:eS k X.A) (hg:Gl X x) (hm:X.mg x=some (.ref f)) (hk:PySem.W.keepIn X.K (.ref f)=true) (hb:Binds X.K fd ps []) (ha:Im X (e ::es) fs)
 (hn:∀δ ds,fs δ= .ok ds->ds.length=n) (qT:(x==("__debug__":Str))=false:=by decide) (he:starEach (e ::es) X.env=(false,eval e X.env) ::starEach es X.env:=by rfl) (oH:(backTo pos (starEach es X.env)).any (·.1)=false:=by rfl) :
 PD X (.Call (.Name x p) (e ::es) [] pos) (aQ g fs):=
 (yC F hr hg hm hk hb .nil Ar ha qT he oH).imp fun σ H Q ⟨Z,B,δ,d,E,hf,q⟩=>by
   obtain⟨ds,h1,h2⟩:=R.ao hf;refine⟨Z,B,δ,ds,E,h1,fun vs H1 s1 r1=>?_⟩
   show Gp X.K n g (vs++[]) H1 Q E0;rw[List.append_nil];exact⟨by rw[<-r1.length];exact hn δ ds h1,B,ds,d,(E.same s1).bs,r1,h2,fun z H' s2 r2=>q z H' (s1.trans s2) r2⟩
end
end L2
end
section
namespace L2
open PySem PySem.Spec PyProof.Rows
inductive Out where
 | nx (δ:aw) | rt (d:D)
abbrev FS:=aw->R Out
structure Ev (Z B:List Addr) (H:Hp) (B':List Addr) (H':Hp):Prop where
 bj:dO B H B' H'
 zs:∀b o,H b=some o->b∈Z->H' b=some o/\b∈B'
theorem Ev.refl(Z B:List Addr)(H:Hp)(zb:∀a∈Z,a∈B):Ev Z B H B H:=⟨dO.refl B H,fun b o e z=>⟨e,zb b z⟩⟩
theorem Ev.trans{Z B B' Pt:List Addr}(a:Ev Z B H B' H')(b:Ev Z B' H' Pt oP):Ev Z B H Pt oP:=
 ⟨a.bj.trans b.bj,fun c o e z=>let⟨e1,_⟩:=a.zs c o e z;b.zs c o e1 z⟩
theorem Ev.same{Z B:List Addr}(zb:∀a∈Z,a∈B)(s:aU H H'):Ev Z B H B H':=⟨dO.same s,fun b o e z=>⟨s b o e,zb b z⟩⟩
def CK(K:W.Frag)(Z B:List Addr)(H:Hp)(D:Ends):Out->Prop
 | .nx eL=>∀dC B' H',Ev Z B H B' H'->d4 K Z B' H' dC eL->D.nx dC H'
 | .rt d=>∀v B' H',Ev Z B H B' H'->(∀a∈Z,a∈B')->Rep K B' H' d v->D.rt v H'
theorem CK.ev{K:W.Frag}{Z B B1:List Addr}{D:Ends}{o:Out}(q:CK K Z B H D o)(ev:Ev Z B H B1 H1):CK K Z B1 H1 D o:=by
 cases o with
 | nx eL=>exact fun dC B' H' ES E'=>q dC B' H' (ev.trans ES) E'
 | rt d=>exact fun v B' H' ES z r=>q v B' H' (ev.trans ES) z r
def sD(K:W.Frag)(F:FS):TS:=fun D σ H=>∃Z B δ o,d4 K Z B H σ δ/\F δ= .ok o/\CK K Z B H D o
abbrev Hh(X:Cx)(st:Stmt)(F:FS):Prop:=PS X st (sD X.K F)
abbrev tw(X:Cx)(st:List Stmt)(F:FS):Prop:=yV X st (sD X.K F)
section
variable {X:Cx}
def tf:FS:=fun δ=> .ok (.nx δ)
def gW(F G:FS):FS:=fun δ=>(F δ).bind fun o=>match o with | .nx eL=>G eL | .rt d=> .ok (.rt d)
theorem I_:tw X [] tf:=Dk.imp fun D σ H ⟨Z,B,δ,o,E,hf,q⟩=>by
 cases hf;exact q σ B H (Ev.refl Z B H E.zb) E
theorem Mx{K:W.Frag}{F G:FS}{D:Ends}(h:sD K (gW F G) D σ H):O7 (sD K F) (sD K G) D σ H:=by
 obtain⟨Z,B,δ,o,E,hf,q⟩:=h;obtain⟨o1,h1,h2⟩:=R.ao hf;refine⟨Z,B,δ,o1,E,h1,?_⟩;cases o1 with
 | nx dv=>
   intro P0 B1 H1 ev E1;refine⟨Z,B1,dv,o,E1,h2,?_⟩;cases o with
   | nx eM=>exact fun dC B' H' ES E'=>q dC B' H' (ev.trans ES) E'
   | rt d=>exact fun v B' H' ES z r=>q v B' H' (ev.trans ES) z r
 | rt d=>
   cases h2;exact q
theorem Gv{st:Stmt}{rest:List Stmt}{F G:FS}(h1:Hh X st F)(h2:tw X rest G):tw X (st ::rest) (gW F G):=(zo h1 h2).imp fun D σ H h=>Mx h
theorem Kb{st:Stmt}{F:FS}(h1:Hh X st F):tw X [st] F:=C8 h1
theorem d4.set{K:W.Frag}{Z B:List Addr}{σ:St}{δ:aw}(E:d4 K Z B H σ δ){i:Nat}{d:D}{v:V}(hi:i < σ.length)(r:Rep K B H d v):d4 K Z B H (σ.set i (some v)) (δ.set i (.val d)) where
 len:=by rw[List.length_set,List.length_set];exact E.len
 bs:=E.bs
 zb:=E.zb
 val:=fun j d' e=>by
  by_cases h:i=j
  .subst h;rw[List.getElem?_set_self (by rw[E.len];exact hi)] at e
   cases e;exact⟨v,List.getElem?_set_self hi,r⟩
  .rw [List.getElem?_set_ne h] at e ⊢;exact E.val j d' e
 bld:=fun j ds e=>by
  by_cases h:i=j
  .subst h;rw[List.getElem?_set_self (by rw[E.len];exact hi)] at e
   cases e
  .rw [List.getElem?_set_ne h] at e ⊢;exact E.bld j ds e
 dis:=fun j k a ds es e1 e2 e3 e4=>by
  by_cases h:i=j
  .subst h;rw[List.getElem?_set_self (by rw[E.len];exact hi)] at e1
   cases e1
  .by_cases h':i=k
   .subst h';rw[List.getElem?_set_self (by rw[E.len];exact hi)] at e2
    cases e2
   .rw [List.getElem?_set_ne h] at e1 e3;rw[List.getElem?_set_ne h'] at e2 e4;exact E.dis j k a ds es e1 e2 e3 e4
theorem d4.setB{K:W.Frag}{Z B:List Addr}{H:Hp}{σ:St}{δ:aw}(E:d4 K Z B H σ δ){i:Nat}{ds:List D}{a:Addr}{xs:List V}(hi:i < σ.length)(hB:a∈B)(hZ:a ∉ Z)(hH:H a=some (.lst xs))(r:aI K B H ds xs)
 (new:∀j es,j≠i->δ[j]? =some (.bld es)->σ[j]?≠some (some (.ref a))):d4 K Z B H (σ.set i (some (.ref a))) (δ.set i (.bld ds)) where
 len:=by rw[List.length_set,List.length_set];exact E.len
 bs:=E.bs
 zb:=E.zb
 val:=fun j d' e=>by
  by_cases h:i=j
  .subst h;rw[List.getElem?_set_self (by rw[E.len];exact hi)] at e
   cases e
  .rw [List.getElem?_set_ne h] at e ⊢;exact E.val j d' e
 bld:=fun j es e=>by
  by_cases h:i=j
  .subst h;rw[List.getElem?_set_self (by rw[E.len];exact hi)] at e
   cases e;exact⟨a,xs,List.getElem?_set_self hi,hB,hZ,hH,r⟩
  .rw [List.getElem?_set_ne h] at e ⊢;exact E.bld j es e
 dis:=fun j k b P1 PV e1 e2 e3 e4=>by
  by_cases h:i=j
  .subst h;by_cases h':i=k
   .exact h'
   .rw [List.getElem?_set_self hi] at e3;cases e3;rw[List.getElem?_set_ne h'] at e2 e4;exact absurd e4 (new k PV (Ne.symm h') e2)
  .by_cases h':i=k
   .subst h';rw[List.getElem?_set_self hi] at e4;cases e4;rw[List.getElem?_set_ne h] at e1 e3;exact absurd e3 (new j P1 (Ne.symm h) e1)
   .rw [List.getElem?_set_ne h] at e1 e3;rw[List.getElem?_set_ne h'] at e2 e4;exact E.dis j k b P1 PV e1 e2 e3 e4
def pO(i:Nat)(f:FD):FS:=fun δ=>(f δ).bind fun d=>R.bJ (decide (i < δ.length)) (.ok (.nx (δ.set i (.val d))))
theorem Gu{K:W.Frag}{i:Nat}{D:Ends}(h:sD K (pO i f) D σ H):Ew (tD K f) (uV i) D σ H:=by
 obtain⟨Z,B,δ,o,E,hf,q⟩:=h;obtain⟨d,h1,h2⟩:=R.ao hf;obtain⟨hi,h3⟩:=R.bc h2;cases h3;refine⟨Z,B,δ,d,E,h1,fun v H1 s1 r1=>?_⟩
 exact q _ B H1 (Ev.same E.zb s1) ((E.same s1).set (by rw[<-E.len];exact of_decide_eq_true hi) r1)
theorem Ju{i:Nat}{pos pos':Pos}(hN:X.N.Nodup)(hi:X.N[i]? =some x)(hx:Loc X.env.scope x)(he:PD X e f)(hs:swapsWith e (some (.Name x pos')) pos.line X.env=pure false:=by rfl)(hf:X.fn x=true\/X.env.scope.names.lookup x=some .local:=by first | exact .inl rfl | exact .inr rfl | assumption) :
 Hh X (.Assign [.Name x pos'] e pos) (pO i f):=(BZ hN hi hx he hs hf).imp fun D σ H h=>Gu h
def Bo(i:Nat)(f:aw->R (List D)):FS:=fun δ=>(f δ).bind fun ds=>R.bJ (decide (i < δ.length)) (.ok (.nx (δ.set i (.bld ds))))
theorem MY{K:W.Frag}{i:Nat}{f:aw->R (List D)}{D:Ends}(h:sD K (Bo i f) D σ H):Ew (tN K f) (uV i) D σ H:=by
 obtain⟨Z,B,δ,o,E,hf,q⟩:=h;obtain⟨ds,h1,h2⟩:=R.ao hf;obtain⟨hi,h3⟩:=R.bc h2;cases h3;refine⟨Z,B,δ,ds,E,h1,fun a xs H1 s1 n e r=>?_⟩
 have E1:=E.same s1;have aB:a ∉ B:=fun ha=>by obtain⟨o,ho⟩:=E.bs a ha;rw [n] at ho;cases ho
 have nZ:a ∉ Z:=fun ha=>aB (E.zb a ha)
 have p0:dO B H (a ::B) H1:=fun b o e' nb=>⟨s1 b o e',fun hb=>by
  rcases List.mem_cons.mp hb with z | z
  .subst z;rw [n] at e';cases e'
  .exact nb z⟩
 have E2:d4 K Z (a ::B) H1 σ δ:={
  len:=E.len
  bs:=fun b hb=>by
   rcases List.mem_cons.mp hb with z | z
   .subst z;exact⟨_,e⟩
   .exact E1.bs b z
  zb:=fun b hb=>List.mem_cons_of_mem _ (E.zb b hb)
  val:=fun j d e=>let⟨v,q1,q2⟩:=E.val j d e;⟨v,q1,q2.bj p0⟩
  bld:=fun j es e=>let⟨b,ys,q1,q2,q3,q4,q5⟩:=E.bld j es e;⟨b,ys,q1,List.mem_cons_of_mem _ q2,q3,s1 b _ q4,q5.bj p0⟩
  dis:=E.dis}
 refine q _ (a ::B) H1 ⟨p0,fun b o e' hb=>⟨s1 b o e',List.mem_cons_of_mem _ (E.zb b hb)⟩⟩ (E2.setB (by rw[<-E.len];exact of_decide_eq_true hi) List.mem_cons_self nZ e r fun j es hj ej Kz=>?_)
 obtain⟨b,ys,q1,_,_,q4,_⟩:=E.bld j es ej;rw[Kz] at q1;cases q1;rw[n] at q4;cases q4
theorem Kh{i:Nat}{f:aw->R (List D)}{pos pos':Pos}(hN:X.N.Nodup)(hi:X.N[i]? =some x)(hx:Loc X.env.scope x)(he:PN X e f)(hs:swapsWith e (some (.Name x pos')) pos.line X.env=pure false:=by rfl)(hf:X.fn x=true\/X.env.scope.names.lookup x=some .local:=by first | exact .inl rfl | exact .inr rfl | assumption) :
 Hh X (.Assign [.Name x pos'] e pos) (Bo i f):=(BZ hN hi hx he hs hf).imp fun D σ H h=>MY h
theorem d4.grow{K:W.Frag}{Z B:List Addr}{H:Hp}{σ:St}{δ:aw}(E:d4 K Z B H σ δ){i:Nat}{ds es:List D}{a:Addr}{xs ys:List V}(hd:δ[i]? =some (.bld ds))(Kz:σ[i]? =some (some (.ref a)))(hB:a∈B)(hH:H a=some (.lst xs))(r:aI K B H es ys) :
 d4 K Z B (upd H a (.lst ys)) σ (δ.set i (.bld es))/\dO B H B (upd H a (.lst ys)):=by
 have p:dO B H B (upd H a (.lst ys)):=fun b o e nb=>⟨by rw[bg (fun(z:b=a)=>nb (by rw[z];exact hB))];exact e,nb⟩
 have hi:i < δ.length:=(List.getElem?_eq_some_iff.mp hd).1;refine⟨{
  len:=by rw[List.length_set];exact E.len
  bs:=fun b hb=>by
   by_cases z:b=a
   .subst z;exact⟨_,bq⟩
   .rw [bg z];exact E.bs b hb
  zb:=E.zb
  val:=fun j d e=>by
   by_cases h:i=j
   .subst h;rw [List.getElem?_set_self hi] at e;cases e
   .rw [List.getElem?_set_ne h] at e;obtain⟨v,q1,q2⟩:=E.val j d e;exact⟨v,q1,q2.bj p⟩
  bld:=fun j fs e=>by
   by_cases h:i=j
   .subst h;rw [List.getElem?_set_self hi] at e;cases e;obtain⟨b,zs,q1,q2,q3,_,_⟩:=E.bld i ds hd;rw[Kz] at q1;cases q1;exact⟨a,ys,Kz,hB,q3,bq,r.bj p⟩
   .rw [List.getElem?_set_ne h] at e;obtain⟨b,zs,q1,q2,q3,q4,q5⟩:=E.bld j fs e;have ne:b≠a:=fun z=>by subst z;exact h (E.dis i j b ds fs hd e Kz q1)
    exact⟨b,zs,q1,q2,q3,by rw[bg ne];exact q4,q5.bj p⟩
  dis:=fun j k b P1 PV e1 e2 e3 e4=>by
   have f1:∃fs,δ[j]? =some (.bld fs):=by
    by_cases h:i=j
    .subst h;exact⟨ds,hd⟩
    .rw [List.getElem?_set_ne h] at e1;exact⟨_,e1⟩
   have f2:∃fs,δ[k]? =some (.bld fs):=by
    by_cases h:i=k
    .subst h;exact⟨ds,hd⟩
    .rw [List.getElem?_set_ne h] at e2;exact⟨_,e2⟩
   obtain⟨_,f1⟩:=f1;obtain⟨_,f2⟩:=f2;exact E.dis j k b _ _ f1 f2 e3 e4},p⟩
theorem Ev.grow{Z B:List Addr}{a:Addr}{o:HO}(zb:∀a∈Z,a∈B)(hZ:a ∉ Z)(p:dO B H B (upd H a o)):Ev Z B H B (upd H a o):=
 ⟨p,fun b u e hb=>⟨by rw[bg (fun(z:b=a)=>hZ (by rw[<-z];exact hb))];exact e,zb b hb⟩⟩
def uF(δ:aw)(i:Nat):R (List D):=match δ[i]? with | some (.bld ds)=> .ok ds | _=> .no
theorem zJ{δ:aw}{i:Nat}{ds:List D}(h:uF δ i= .ok ds):δ[i]? =some (.bld ds):=by
 unfold uF at h;split at h
 .rename_i q;cases h;exact q
 .cases h
def DQ(i:Nat)(f:FD):FS:=fun δ=>(f δ).bind fun d=>(uF δ i).bind fun ds=>R.bJ (decide (ds.length < sizeLine)) (.ok (.nx (δ.set i (.bld (ds++[d])))))
theorem IJ{i:Nat}{x:Str}{e:Expr}{f:FD}{e_ apos cG pos:Pos}(hN:X.N[i]? =some x)(hv:F9 X.env.scope x)(he:PD X e f)
 (hd:(x==("__debug__":Str))=false:=by decide) (r6:(x==("__classdict__":Str))=false:=by decide)
 (hs:starEach [e] X.env=(false,eval e X.env) ::starEach [] X.env:=by rfl) (l0:(apos.endLine==cG.line)=true:=by rfl)
 (rO:((backTo cG (starEach [e] X.env)).all (fun x=>!x.1) && (backToKw cG (keywordEach [] X.env)).all (fun x=>x.1.isSome)
   && decide (([e]:List Expr).length+([]:List Keyword).length+(if([]:List Keyword).isEmpty then 0 else 1) < 30))=true:=by rfl)
 (tH:swapsWith (.Call (.Attribute (.Name x e_) "append" apos) [e] [] cG) none pos.line X.env=pure false:=by rfl)
 (l3:attributeBase (.Name x e_) "append" X.env (eval (.Name x e_) X.env)=eval (.Name x e_) X.env:=by rfl) :
 Hh X (.Expr (.Call (.Attribute (.Name x e_) "append" apos) [e] [] cG) pos) (DQ i f):=by
 refine(qe (C3 (X:=X) PySem.F.plainAttrs_list PySem.F.slot_list_append PySem.F.type_list_append rE (rG hN hv hd r6) (gI he j5 hs) l3 rO l0 hs) tH).imp fun D σ H ⟨Z,B,δ,o,E,hf,q⟩=>?_
 obtain⟨d,h1,h2⟩:=R.ao hf;obtain⟨ds,h3,h4⟩:=R.ao h2;obtain⟨hl,h5⟩:=R.bc h4;cases h5;have hb:=zJ h3;obtain⟨a,xs,q1,q2,q3,q4,q5⟩:=E.bld i ds hb;refine⟨.ref a,q1, .inl ⟨rfl,xs,pH.of q4⟩,⟨Z,B,δ,d,E,h1,fun v H1 s1 r1=>?_⟩⟩
 have E1:=E.same s1;refine⟨a,xs,v,rfl,rfl,s1 a _ q4,by rw[<-q5.length];exact of_decide_eq_true hl,?_⟩
 obtain⟨E2,p2⟩:=E1.grow (es:=ds++[d]) (ys:=xs++[v]) hb q1 q2 (s1 a _ q4) ((q5.same s1).append (aI.cons r1 aI.nil));exact q σ B _ ((Ev.same E.zb s1).trans (Ev.grow E.zb q3 p2)) E2
def J9(i:Nat)(f:aw->R (List D)):FS:=fun δ=>(f δ).bind fun es=>(uF δ i).bind fun ds=>R.bJ (decide (ds.length+es.length<=sizeLine)) (.ok (.nx (δ.set i (.bld (ds++es)))))
theorem Jk{i:Nat}{x:Str}{e:Expr}{f:aw->R (List D)}{e_ apos cG pos:Pos}(hN:X.N[i]? =some x)(hv:F9 X.env.scope x)(he:PN X e f)
 (hd:(x==("__debug__":Str))=false:=by decide) (r6:(x==("__classdict__":Str))=false:=by decide)
 (hs:starEach [e] X.env=(false,eval e X.env) ::starEach [] X.env:=by rfl) (l0:(apos.endLine==cG.line)=true:=by rfl)
 (rO:((backTo cG (starEach [e] X.env)).all (fun x=>!x.1) && (backToKw cG (keywordEach [] X.env)).all (fun x=>x.1.isSome)
   && decide (([e]:List Expr).length+([]:List Keyword).length+(if([]:List Keyword).isEmpty then 0 else 1) < 30))=true:=by rfl)
 (tH:swapsWith (.Call (.Attribute (.Name x e_) "extend" apos) [e] [] cG) none pos.line X.env=pure false:=by rfl)
 (l3:attributeBase (.Name x e_) "extend" X.env (eval (.Name x e_) X.env)=eval (.Name x e_) X.env:=by rfl) :
 Hh X (.Expr (.Call (.Attribute (.Name x e_) "extend" apos) [e] [] cG) pos) (J9 i f):=by
 refine(qe (C3 (X:=X) PySem.F.plainAttrs_list PySem.F.slot_list_extend PySem.F.type_list_extend Ek (rG hN hv hd r6) (gI he j5 hs) l3 rO l0 hs) tH).imp fun D σ H ⟨Z,B,δ,o,E,hf,q⟩=>?_
 obtain⟨es,h1,h2⟩:=R.ao hf;obtain⟨ds,h3,h4⟩:=R.ao h2;obtain⟨hl,h5⟩:=R.bc h4;cases h5;have hb:=zJ h3;obtain⟨a,xs,q1,q2,q3,q4,q5⟩:=E.bld i ds hb;refine⟨.ref a,q1, .inl ⟨rfl,xs,pH.of q4⟩,⟨Z,B,δ,es,E,h1,fun b ys H1 s1 n e r=>?_⟩⟩
 have E1:=E.same s1;have r':aI X.K B H1 es ys:=r.bj fun b o e nb=>⟨e,fun hb=>nb (List.mem_cons_of_mem _ hb)⟩
 refine⟨a,b,xs,ys,rfl,rfl,s1 a _ q4,e,by rw[<-q5.length,<-r'.length];exact of_decide_eq_true hl,?_⟩
 obtain⟨E2,p2⟩:=E1.grow (es:=ds++es) (ys:=xs++ys) hb q1 q2 (s1 a _ q4) ((q5.same s1).append r');exact q σ B _ ((Ev.same E.zb s1).trans (Ev.grow E.zb q3 p2)) E2
def mf(i:Nat)(δ:aw):aw:=match δ[i]? with | some (.bld ds)=>δ.set i (.val (.lst ds)) | _=>δ
theorem d4.mf{K:W.Frag}{Z B:List Addr}{δ:aw}(E:d4 K Z B H σ δ)(i:Nat):∃B',Ev Z B H B' H/\d4 K Z B' H σ (mf i δ):=by
 unfold L2.mf;cases hd:δ[i]? with
 | none=>exact⟨B,Ev.refl Z B H E.zb,E⟩
 | some x=>
   cases x with
   | un=>exact⟨B,Ev.refl Z B H E.zb,E⟩
   | val d=>exact⟨B,Ev.refl Z B H E.zb,E⟩
   | bld ds=>
     obtain⟨a,xs,q1,q2,q3,q4,q5⟩:=E.bld i ds hd;have hi:i < δ.length:=(List.getElem?_eq_some_iff.mp hd).1;have p:dO B H (B.filter fun b=>decide (b≠a)) H:=fun b o e nb=>⟨e,fun hb=>nb (List.mem_filter.mp hb).1⟩
     have zb:∀b∈Z,b∈B.filter fun b=>decide (b≠a):=fun b hb=>List.mem_filter.mpr ⟨E.zb b hb,decide_eq_true fun z=>q3 (z▸hb)⟩
     refine⟨B.filter fun b=>decide (b≠a),⟨p,fun b o e hb=>⟨e,zb b hb⟩⟩,{
      len:=by rw[List.length_set];exact E.len
      bs:=fun b hb=>E.bs b (List.mem_filter.mp hb).1
      zb:=zb
      val:=fun j d e=>by
       by_cases h:i=j
       .subst h;rw [List.getElem?_set_self hi] at e;cases e;refine⟨.ref a,q1,?_⟩;unfold Rep;exact⟨a,xs,rfl, .inl ⟨fun hb=>by simpa using(List.mem_filter.mp hb).2, .inl q4⟩,q5.bj p⟩
       .rw [List.getElem?_set_ne h] at e;obtain⟨v,z1,z2⟩:=E.val j d e;exact⟨v,z1,z2.bj p⟩
      bld:=fun j fs e=>by
       by_cases h:i=j
       .subst h;rw [List.getElem?_set_self hi] at e;cases e
       .rw [List.getElem?_set_ne h] at e;obtain⟨b,zs,z1,z2,z3,z4,z5⟩:=E.bld j fs e;exact⟨b,zs,z1,List.mem_filter.mpr ⟨z2,decide_eq_true fun z=>by subst z;exact h (E.dis i j b ds fs hd e q1 z1)⟩,z3,z4,z5.bj p⟩
      dis:=fun j k b P1 PV e1 e2 e3 e4=>by
       by_cases h:i=j
       .subst h;rw [List.getElem?_set_self hi] at e1;cases e1
       .by_cases h':i=k
        .subst h';rw [List.getElem?_set_self hi] at e2;cases e2
        .rw [List.getElem?_set_ne h] at e1;rw[List.getElem?_set_ne h'] at e2;exact E.dis j k b P1 PV e1 e2 e3 e4}⟩
def Hx(i:Nat)(F:FS):FS:=fun δ=>F (mf i δ)
theorem Lq{K:W.Frag}{i:Nat}{F:FS}{D:Ends}(h:sD K (Hx i F) D σ H):sD K F D σ H:=by
 obtain⟨Z,B,δ,o,E,hf,q⟩:=h;obtain⟨B1,ev,E1⟩:=E.mf i;refine⟨Z,B1,L2.mf i δ,o,E1,hf,?_⟩;cases o with
 | nx eL=>exact fun dC B' H' ES E'=>q dC B' H' (ev.trans ES) E'
 | rt d=>exact fun v B' H' ES z r=>q v B' H' (ev.trans ES) z r
theorem J2(i:Nat){F:FS}(h:tw X Lj F):tw X Lj (Hx i F):=h.imp fun D σ H h=>Lq h
def il(f:FD):FS:=fun δ=>(f δ).bind fun d=> .ok (.rt d)
theorem J1(he:PD X e f):Hh X (.Return (some e) pos) (il f):=(Fq he).imp fun D σ H ⟨Z,B,δ,o,E,hf,q⟩=>by
 obtain⟨d,h1,h2⟩:=R.ao hf;cases h2;exact⟨Z,B,δ,d,E,h1,fun v H1 s1 r1=>q v B H1 (Ev.same E.zb s1) E.zb r1⟩
def AE(c:aw->R Bool)(F G:FS):FS:=fun δ=>(c δ).bind fun b=>if b then F δ else G δ
theorem L6{fc:aw->R Bool}{F G:FS}(hc:PB X c fc)(ha:tw X a F)(hb:tw X b G):Hh X (.If c a b pos) (AE fc F G):=(K0 hc ha hb).imp fun D σ H ⟨Z,B,δ,o,E,hf,q⟩=>by
 obtain⟨k,h1,h2⟩:=R.ao hf;refine⟨Z,B,δ,k,E,h1,fun H1 s1=>?_⟩
 have q':=q.ev (Ev.same E.zb s1);cases k with
 | true=>rw [if_pos rfl] at h2;exact JU ⟨Z,B,δ,o,E.same s1,h2,q'⟩
 | false=>rw [if_neg (by decide)] at h2;exact Kl ⟨Z,B,δ,o,E.same s1,h2,q'⟩
abbrev FT:=D->aw->R aw
def gD(K:W.Frag)(t:FT):TG:=fun v σ H Q=>∃Z B δ d eL,d4 K Z B H σ δ/\Rep K B H d v/\t d δ= .ok eL/\∀dC H',aU H H'->d4 K Z B H' dC eL->dC.length=σ.length->Q dC H'
abbrev Lu(X:Cx)(tg:Expr)(t:FT):Prop:=PG X tg (gD X.K t)
def aO(i:Nat):FT:=fun d δ=>R.bJ (decide (i < δ.length)) (.ok (δ.set i (.val d)))
theorem He{i:Nat}{pos:Pos}(hN:X.N.Nodup)(hi:X.N[i]? =some x)(hx:Loc X.env.scope x)(hf:X.fn x=true\/X.env.scope.names.lookup x=some .local:=by first | exact .inl rfl | exact .inr rfl | assumption):Lu X (.Name x pos) (aO i):=
 (CQ hN hi hx hf).imp fun v σ H Q ⟨Z,B,δ,d,eL,E,r,ht,q⟩=>by
   obtain⟨hi,h⟩:=R.bc ht;cases h;exact q _ H (aU.refl H) (E.set (by rw[<-E.len];exact of_decide_eq_true hi) r) (List.length_set ..)
abbrev Fw:=List D->aw->R aw
def Uk(K:W.Frag)(t:Fw):GA:=fun vs σ H Q=>∃Z B δ ds eL,d4 K Z B H σ δ/\aI K B H ds vs/\t ds δ= .ok eL/\∀dC H',aU H H'->d4 K Z B H' dC eL->dC.length=σ.length->Q dC H'
abbrev Ff(X:Cx)(ts:List Expr)(t:Fw):Prop:=JZ X ts (Uk X.K t)
theorem JZ.imp{X:Cx}{t t':GA}(h:JZ X e t)(w:∀v σ H Q,t' v σ H Q->t v σ H Q):JZ X e t':=fun pins s σ H v u Q I r hq=>h pins s σ H v u Q I r (w v σ H Q hq)
def ig:Fw:=fun ds δ=>match ds with | []=> .ok δ | _=> .no
def cj(t:FT)(u:Fw):Fw:=fun ds δ=>match ds with | d ::r=>(t d δ).bind fun eL=>u r eL | []=> .no
theorem FU:Ff X [] ig:=Ci.imp fun vs σ H Q ⟨Z,B,δ,ds,eL,E,r,ht,q⟩=>by
 cases ds with
 | nil=>unfold aI at r;cases ht;exact⟨r,q σ H (aU.refl H) E rfl⟩
 | cons=>cases ht
theorem DI{u:Fw}(h1:Lu X e t)(h2:Ff X es u)(hs:(assignEach (e ::es) X.env).map (·.2)=assign e X.env ::(assignEach es X.env).map (·.2):=by rfl):Ff X (e ::es) (cj t u):=
 (zl h1 h2 hs).imp fun vs σ H Q ⟨Z,B,δ,ds,eL,E,r,ht,q⟩=>by
   cases ds with
   | nil=>cases ht
   | cons d ds=>
     obtain⟨x,xs,rfl,r1,r2⟩:=r.cJ;obtain⟨dv,h1,h2⟩:=R.ao ht;exact⟨x,xs,rfl,Z,B,δ,d,dv,E,r1,h1,fun P0 H1 s1 E1 l1=>⟨Z,B,dv,ds,eL,E1,r2.same s1,h2,fun yL H2 s2 E2 l2=>q yL H2 (s1.trans s2) E2 (l2.trans l1)⟩⟩
def ic(n:Nat)(t:Fw):FT:=fun d δ=>match d with | .tup ds=>R.bJ (decide (ds.length=n)) (t ds δ) | _=> .no
theorem IA{k:Nat}{t:Fw}{n:Nat}{pos:Pos}(hc:X.calm=true)(h:Ff X es t)(hn:(assignEach es X.env).length=n:=by rfl)(Ig:(assignEach es X.env).findIdx? (·.1)=none:=by rfl):Lu X (.Tuple es k pos) (ic n t):=
 (Fu hc h hn Ig).imp fun v σ H Q ⟨Z,B,δ,d,eL,E,r,ht,q⟩=>by
   cases d with
   | tup ds=>
     unfold Rep at r;obtain⟨a,xs,rfl,l,r⟩:=r;obtain⟨hl,h⟩:=R.bc ht;exact⟨a,xs,rfl,l.sq,by rw[<-r.length];exact of_decide_eq_true hl,Z,B,δ,ds,eL,E,r,h,q⟩
   | _=>cases ht
def UG(f:FD)(t:FT):FS:=fun δ=>(f δ).bind fun d=>(t d δ).bind fun eL=> .ok (.nx eL)
def HC(K:W.Frag)(B:List Addr)(H:Hp)(J:It)(ds:List D):Prop:=∀B' H',dO B H B' H'->(∀(i:Nat) (d:D),ds[i]? =some d->J.go i H'/\∀x oP,J.yld i H' x oP->(∀a∈B',∃o,H' a=some o)->aU H' oP/\Rep K B' oP d x)/\J.stop ds.length H'
def iD(K:W.Frag)(f:aw->R (List D)):TI:=fun σ H R=>∃Z B δ ds,d4 K Z B H σ δ/\f δ= .ok ds/\∀J H1,aU H H1->HC K B H1 J ds->R J H1
abbrev Ln(X:Cx)(tg e:Expr)(f:aw->R (List D)):Prop:=PI X tg e (iD X.K f)
def dy(f:FD):aw->R (List D):=fun δ=>(f δ).bind fun d=>match d with | .lst ds=> .ok ds | .tup ds=> .ok ds | _=> .no
theorem JD(h:PD X e f):Ln X tg e (dy f):=by
 intro pins s σ H RR I ⟨Z,B,δ,ds,E,hf,q⟩;obtain⟨d,h1,h2⟩:=R.ao hf;refine eN (h pins s σ H (fun v H1=>aU H H1/\Rep X.K B H1 d v) I ⟨Z,B,δ,d,E,h1,fun v H1 s1 r1=>⟨s1,r1⟩⟩) fun v s1 ⟨x,H1,I1,r1,ss,rr⟩=>?_
 cases d with
 | lst es=>
   cases h2;unfold Rep at rr;obtain⟨a,xs,rfl,l,rr⟩:=rr;cases r1;obtain⟨its,rv,p,hz⟩:=I1.list l.sq;refine wpAny_pyIter_list p.isList ?_;refine⟨s1.heap.objs.size,[s1.heap.objs.size],_,_,H1,rfl,I1.kept (t':=s1.toks) fun b o e=>Heap.get?_push_of_some _ e,xk a _,⟨_,Heap.get?_push_size _ rfl,rfl,rfl⟩,fun b hb=>?_,q _ H1 ss fun B' H' pr=>?_⟩
   .have e:b=s1.heap.objs.size:=by simpa using hb
    subst e;exact I1.vR (Nat.le_refl _) (I1.hok.fresh (Nat.le_refl _))
   .have l':vJ X.K B' H' a xs:=l.bj pr;have rr':=rr.bj pr;refine⟨fun i d hd=>?_,⟨xs,l'.sq,by rw[rr.length];exact Nat.le_refl _⟩⟩
    obtain⟨x,hx,rx⟩:=rr'.get hd;exact⟨⟨xs,x,l'.sq,hx⟩,fun y oP ⟨e1,e2⟩ _=>by
     subst e1;have:=e2 xs l'.sq;rw[hx] at this;cases this;exact⟨aU.refl _,rx⟩⟩
 | tup es=>
   cases h2;unfold Rep at rr;obtain⟨a,xs,rfl,l,rr⟩:=rr;cases r1;obtain⟨its,rv,p,hz⟩:=I1.tuple l.sq;refine wpAny_pyIter_tuple (show s1.heap.IsTuple a its.toArray from p) ?_
   refine⟨s1.heap.objs.size,[s1.heap.objs.size],_,_,H1,rfl,I1.kept (t':=s1.toks) fun b o e=>Heap.get?_push_of_some _ e,Bp a _,⟨_,Heap.get?_push_size _ rfl,rfl,rfl⟩,fun b hb=>?_,q _ H1 ss fun B' H' pr=>?_⟩
   .have e:b=s1.heap.objs.size:=by simpa using hb
    subst e;exact I1.vR (Nat.le_refl _) (I1.hok.fresh (Nat.le_refl _))
   .have l':vY X.K B' H' a xs:=l.elim (fun z=> .inl ⟨(pr.rd z.2 z.1).2,(pr.rd z.2 z.1).1⟩) .inr
    have rr':=rr.bj pr;refine⟨fun i d hd=>?_,⟨xs,l'.sq,by rw[rr.length];exact Nat.le_refl _⟩⟩
    obtain⟨x,hx,rx⟩:=rr'.get hd;exact⟨⟨xs,x,l'.sq,hx⟩,fun y oP ⟨e1,e2⟩ _=>by
     subst e1;have:=e2 xs l'.sq;rw[hx] at this;cases this;exact⟨aU.refl _,rx⟩⟩
 | _=>cases h2
def eg(lo:Int)(n:Nat):List D:=(List.range n).map fun(i:Nat)=>D.int (lo+i)
theorem GK{K:W.Frag}{B:List Addr}(lo:Int)(n:Nat):HC K B H (NY lo n) (eg lo n):=fun B' H' _=>by
 refine⟨fun i d hd=>?_,?_⟩
 .unfold eg at hd;rw[List.getElem?_map] at hd;cases e:(List.range n)[i]? with
  | none=>rw [e] at hd;cases hd
  | some j=>
    rw[e] at hd;cases hd;obtain⟨hi,ej⟩:=List.getElem?_eq_some_iff.mp e;rw[List.getElem_range] at ej;subst ej;rw[List.length_range] at hi;exact⟨hi,fun x oP ⟨e1,e2⟩ _=>by subst e1 e2;exact⟨aU.refl _,by unfold Rep;rfl⟩⟩
 .show n<=(eg lo n).length;unfold eg;rw[List.length_map,List.length_range];exact Nat.le_refl _
def dU(f:FD):aw->R (List D):=fun δ=>(f δ).bind fun d=>match d with | .int j=>R.bJ (decide (-(2 ^ 62)<=j/\j < 2 ^ 62)) (.ok (eg 0 j.toNat)) | _=> .no
theorem AZ{tg a:Expr}{p pos:Pos}(h:PD X a f)(hg:Gl X "range")(hm:X.mg "range"=none)(hs:starEach [a] X.env=[(false,eval a X.env)]:=by rfl):Ln X tg (.Call (.Name "range" p) [a] [] pos) (dU f):=
 (wY hg hm (gI h j5 hs) hs).imp fun σ H RR ⟨Z,B,δ,ds,E,hf,q⟩=>by
   obtain⟨d,h1,h2⟩:=R.ao hf;cases d with
   | int j=>
     obtain⟨hb,h3⟩:=R.bc h2;cases h3;have hb:=of_decide_eq_true hb;refine⟨Z,B,δ, .int j,E,h1,fun v H1 s1 r1=>⟨j,?_,hb.1,hb.2,q _ H1 s1 (GK 0 _)⟩⟩
     unfold Rep at r1;rw[r1]
   | _=>cases h2
def Rp(f g:FD):aw->R (List D):=fun δ=>(f δ).bind fun d=>(g δ).bind fun e=>match d,e with
 | .int i, .int j=>R.bJ (decide (-(2 ^ 62)<=i/\i < 2 ^ 62/\ -(2 ^ 62)<=j/\j < 2 ^ 62)) (.ok (eg i (j - i).toNat)) | _,_=> .no
def se(t:FT)(body:FS):List D->FS
 | [],δ=> .ok (.nx δ)
 | d ::ds,δ=>(t d δ).bind fun dv=>(body dv).bind fun o=>match o with | .nx eM=>se t body ds eM | .rt r=> .ok (.rt r)
def xF(it:aw->R (List D))(t:FT)(body:FS):FS:=fun δ=>(it δ).bind fun ds=>se t body ds δ
theorem Jv{tg iter:Expr}{body:List Stmt}{it:aw->R (List D)}{t:FT}{F:FS}{pos:Pos}(hp:PassesOwn (model X.prog X.w) X.A X.env X.xe)(hc:X.calm=true)(hi:Ln X tg iter it)(hg:Lu X tg t)(hb:tw X body F)
 (hs:∀x,foldedSetIterable iter X.env x=pure x:=by intro _;rfl):Hh X (.For tg iter body [] pos) (xF it t F):=(Fc hp hc hi hg hb hs).imp fun D σ H ⟨Z,B,δ,o,E,hf,q⟩=>by
 obtain⟨ds,h1,h2⟩:=R.ao hf;refine⟨Z,B,δ,ds,E,h1,fun J H1 s1 ir=>?_⟩
 refine⟨fun i m dC H'=>m=ds.length - i/\i<=ds.length/\∃B' eL,Ev Z B H1 B' H'/\d4 X.K Z B' H' dC eL/\se t F (ds.drop i) eL= .ok o,⟨ds.length,rfl,Nat.zero_le _,B,δ,Ev.refl Z B H1 E.zb,E.same s1,by simpa using h2⟩,?_⟩
 rintro i m dC H' ⟨rfl,hi,B',eL,ev,E',hl⟩;obtain⟨go,stop⟩:=ir B' H' ev.bj;by_cases hlt:i < ds.length
 .have hd:ds[i]? =some ds[i]:=List.getElem?_eq_getElem hlt;have hdrop:ds.drop i=ds[i] ::ds.drop (i+1):=List.drop_eq_getElem_cons hlt;rw[hdrop] at hl;obtain⟨dv,h3,h4⟩:=R.ao hl;obtain⟨o1,h5,h6⟩:=R.ao h4;obtain⟨g1,g2⟩:=go i _ hd;refine .inr ⟨g1,fun yL H2=>∃B2 eM,Ev Z B H1 B2 H2/\d4 X.K Z B2 H2 yL eM/\se t F (ds.drop (i+1)) eM= .ok o,fun yL H2 n=>⟨ds.length - (i+1),by omega,rfl,hlt,n⟩,fun x oP y=>?_⟩
  obtain⟨ss,rr⟩:=g2 x oP y E'.bs;refine⟨Z,B',eL,ds[i],dv,E'.same ss,rr,h3,fun yL H2 s2 E2 l2=>⟨Z,B',dv,o1,E2,h5,?_⟩⟩
  have ev2:Ev Z B H1 B' H2:=ev.trans (Ev.same E'.zb (ss.trans s2));cases o1 with
  | nx eM=>exact fun KA B3 H3 R9 E3=>⟨B3,eM,ev2.trans R9,E3,h6⟩
  | rt d=>
    cases h6;exact fun v B3 H3 R9 z r=>q v B3 H3 ((Ev.same E.zb s1).trans (ev2.trans R9)) z r
 .have e:i=ds.length:=by omega
  subst e;rw[List.drop_length] at hl;cases hl;exact .inl ⟨stop,q dC B' H' ((Ev.same E.zb s1).trans ev) E'⟩
def Hs(c:aw->R Bool)(body:FS):Nat->FS
 | 0,_=> .no
 | n+1,δ=>(c δ).bind fun b=>if b then(body δ).bind fun o=>match o with | .nx eM=>Hs c body n eM | .rt r=> .ok (.rt r) else .ok (.nx δ)
def Qw(n:Nat)(c:aw->R Bool)(body:FS):FS:=fun δ=>Hs c body n δ
def mY(δ:aw)(i:Nat):Sl:=match δ[i]? with | some (.val d)=> .val d | _=> .un
def oO(own:List Str)(kp:List Nat)(δ:aw):aw:=List.replicate own.length .un++kp.map (mY δ)
def nS(t:FT)(c:aw->R Bool)(f:FD)(δ:aw):List D->R (List D)
 | []=> .ok []
 | d ::ds=>(t d δ).bind fun dv=>(c dv).bind fun b=>if b then(f dv).bind fun y=>(nS t c f δ ds).bind fun ys=> .ok (y ::ys) else nS t c f δ ds
def cZ(it:aw->R (List D))(t:FT)(c:aw->R Bool)(f:FD)(own:List Str)(kp:List Nat):aw->R (List D):=fun δ=>(it δ).bind fun ds=>R.bJ (decide (ds.length<=sizeLine)) (nS t c f (oO own kp δ) ds)
theorem L0{K:W.Frag}{Z B B':List Addr}{H H':Hp}{δ:aw}{own:List Str}{kp:List Nat}(E:d4 K Z B H σ δ)(p:dO B H B' H')(hB:∀a∈B',∃o,H' a=some o):d4 K [] B' H' (dQ own kp σ) (oO own kp δ) where
 len:=by unfold dQ oO;simp
 bs:=hB
 zb:=fun a ha=>by cases ha
 val:=fun i d e=>by
  unfold oO at e;unfold dQ;by_cases hi:i < own.length
  .rw [List.getElem?_append_left (by simpa using hi),List.getElem?_replicate] at e
   split at e <;> cases e
  .rw [List.getElem?_append_right (by simpa using hi),List.length_replicate,List.getElem?_map] at e ⊢
   cases q:kp[i - own.length]? with
   | none=>rw [q] at e;cases e
   | some j=>
     rw[q] at e;have e:mY δ j= .val d:=Option.some.inj e;unfold mY at e;split at e
     .rename_i d' ed;cases e;obtain⟨v,h1,h2⟩:=E.val j d ed;exact⟨v,by simp [h1],h2.bj p⟩
     .cases e
 bld:=fun i ds e=>by
  unfold oO at e;by_cases hi:i < own.length
  .rw [List.getElem?_append_left (by simpa using hi),List.getElem?_replicate] at e
   split at e <;> cases e
  .rw [List.getElem?_append_right (by simpa using hi),List.length_replicate,List.getElem?_map] at e
   cases q:kp[i - own.length]? with
   | none=>rw [q] at e;cases e
   | some j=>
     rw[q] at e;have e:mY δ j= .bld ds:=Option.some.inj e;unfold mY at e;split at e <;> cases e
 dis:=fun i j a ds es e=>by
  unfold oO at e;by_cases hi:i < own.length
  .rw [List.getElem?_append_left (by simpa using hi),List.getElem?_replicate] at e
   split at e <;> cases e
  .rw [List.getElem?_append_right (by simpa using hi),List.length_replicate,List.getElem?_map] at e
   cases q:kp[i - own.length]? with
   | none=>rw [q] at e;cases e
   | some j=>
     rw[q] at e;have e:mY δ j= .bld ds:=Option.some.inj e;unfold mY at e;split at e <;> cases e
theorem tT{K:W.Frag}{it:aw->R (List D)}{c:aw->R Bool}{own:List Str}{kp:List Nat}{Q:VK}(h:tN K (cZ it t c f own kp) σ H Q) :
 Dw (iD K it) (gD K t) (K5 K c) (tD K f) own kp σ H Q:=by
 obtain⟨Z,B,δ,ds,E,hf,q⟩:=h;obtain⟨es,h1,h2⟩:=R.ao hf;obtain⟨hl,h3⟩:=R.bc h2;have hl:=of_decide_eq_true hl;refine⟨Z,B,δ,es,E,h1,fun J H1 s1 ir Dd hD=>?_⟩
 have E1:=E.same s1;have pD:dO B H1 (Dd ::B) (upd H1 Dd (.lst [])):=zS hD;refine⟨fun i m ys H'=>m=es.length - i/\i<=es.length/\ys.length<=i/\H' Dd=some (.lst ys)/\aU H1 H'/\∃done rest,ds=done++rest/\aI K (Dd ::B) H' done ys/\nS t c f (oO own kp δ) (es.drop i)= .ok rest,
  ⟨es.length,rfl,Nat.zero_le _,Nat.le_refl _,bq,bh hD,[],ds,rfl,aI.nil,by simpa using h3⟩,?_⟩
 rintro i m ys H' ⟨rfl,hi,hy,hDl,ss,done,rest,rfl,rd,hc⟩;have dB:Dd ∉ B:=fun hb=>by obtain⟨o,ho⟩:=E1.bs Dd hb;rw [hD] at ho;cases ho
 have p':dO B H1 (Dd ::B) H':=fun b o e nb=>⟨ss b o e,fun hb=>by
  rcases List.mem_cons.mp hb with z | z
  .exact cV e hD z
  .exact nb z⟩
 have Kw:∀a∈Dd ::B,∃o,H' a=some o:=fun a ha=>by
  rcases List.mem_cons.mp ha with z | z
  .subst z;exact⟨_,hDl⟩
  .obtain⟨o,ho⟩:=E1.bs a z;exact⟨o,ss a o ho⟩
 obtain⟨go,stop⟩:=ir (Dd ::B) H' p';by_cases hlt:i < es.length
 .have hd:es[i]? =some es[i]:=List.getElem?_eq_getElem hlt;have hdrop:es.drop i=es[i] ::es.drop (i+1):=List.drop_eq_getElem_cons hlt;rw[hdrop] at hc;obtain⟨dv,h4,h5⟩:=R.ao hc;obtain⟨b,h6,h7⟩:=R.ao h5;obtain⟨g1,g2⟩:=go i _ hd;refine .inr ⟨g1,fun x H2 y=>?_⟩
  obtain⟨sy,ry⟩:=g2 x H2 y Kw;have Ec:d4 K [] (Dd ::B) H2 (dQ own kp σ) (oO own kp δ):=L0 E1 (p'.trans (dO.same sy)) fun a ha=>let⟨o,ho⟩:=Kw a ha;⟨o,sy a o ho⟩
  refine⟨[],Dd ::B,oO own kp δ,es[i],dv,Ec,ry,h4,fun KA H3 s3 E3 _=>⟨[],Dd ::B,dv,b,E3,h6,fun H4 s4=>?_⟩⟩
  have sAll:aU H' H4:=sy.trans (s3.trans s4);cases b with
  | true=>
    rw[if_pos rfl] at h7;refine JU ?_;obtain⟨yv,h8,h9⟩:=R.ao h7;obtain⟨rs,RP,R1⟩:=R.ao h9;cases R1;refine⟨[],Dd ::B,dv,yv,E3.same s4,h8,fun v H5 s5 r5=>?_⟩
    have s':aU H' H5:=sAll.trans s5;have Sv:H5 Dd=some (.lst ys):=s' Dd _ hDl;have pu:dO (Dd ::B) H5 (Dd ::B) (upd H5 Dd (.lst (ys++[v]))):=fun b o e nb=>⟨by rw[bg (fun(z:b=Dd)=>nb (by rw[z];exact List.mem_cons_self))];exact e,nb⟩
    refine⟨Sv,by omega,es.length - (i+1),by omega,rfl,hlt,by rw[List.length_append,List.length_singleton];omega,bq,fun b o e=>?_,done++[yv],rs,by simp,((rd.same s').append (aI.cons r5 aI.nil)).bj pu,RP⟩
    rw[bg (cV e hD)];exact s' b o (ss b o e)
  | false=>
    rw[if_neg (by decide)] at h7
    refine Kl ?_;exact⟨es.length - (i+1),by omega,rfl,hlt,by omega,sAll Dd _ hDl,ss.trans sAll,done,rest,rfl,rd.same sAll,h7⟩
 .have e:i=es.length:=by omega
  subst e;rw[List.drop_length] at hc;cases hc;rw[List.append_nil] at q;exact .inl ⟨stop,q Dd ys H' (s1.trans ss) (s1.free hD) hDl rd⟩
theorem JV{scope:Scope}{own:List Str}{kp:List Nat}{kn:List Str}{tg iter elt:Expr}{ifs:List Expr}{it:aw->R (List D)}{t:FT}{c:aw->R Bool}{f:FD}{pos:Pos}(hc:X.calm=true)(C:bt X scope own kp kn)(hi:Ln X tg iter it)
 (hg:∀fp s H,Lu (bo X scope (own++kn) fp s H) tg t) (yQ:∀fp s H,qa (bo X scope (own++kn) fp s H) ifs (K5 X.K c)) (he:∀fp s H,PD (bo X scope (own++kn) fp s H) elt f)
 (hs:∀x,foldedSetIterable iter X.env x=pure x:=by intro _;rfl):PN X (.ListComp elt [⟨tg,iter,ifs,0⟩] scope pos) (cZ it t c f own kp):=
 (CB hc C hi hg yQ he hs).imp fun σ H Q h=>tT h
def fw:aw->R Bool:=fun _=> .ok true
theorem Fi:qa X [] (K5 X.K fw):=fun pins s σ H Q I ⟨Z,B,δ,b,E,hf,q⟩=>zX pins s σ H Q I (by cases hf;exact q H (aU.refl H))
theorem Jh{c:aw->R Bool}(h:PB X e c):qa X [e] (K5 X.K c):=zx h
theorem zZ{i:Nat}{x:Str}{pos' jN:Pos}{scope:Scope}{own:List Str}{kp:List Nat}{kn:List Str}{tg iter elt:Expr}{ifs:List Expr}{it:aw->R (List D)}{t:FT}{c:aw->R Bool}{f:FD}{pos:Pos}(hc:X.calm=true)
 (hN:X.N.Nodup) (hx:X.N[i]? =some x) (EV:X.env.scope.names.lookup x=some .local) (C:bt X scope own kp kn) (hi:Ln X tg iter it)
 (hg:∀fp s H,Lu (bo X scope (own++kn) fp s H) tg t) (yQ:∀fp s H,qa (bo X scope (own++kn) fp s H) ifs (K5 X.K c)) (he:∀fp s H,PD (bo X scope (own++kn) fp s H) elt f)
 (tH:swapsWith (.ListComp elt [⟨tg,iter,ifs,0⟩] scope pos) (some (.Name x pos')) jN.line X.env=pure true:=by rfl)
 (hs:∀x,foldedSetIterable iter X.env x=pure x:=by intro _;rfl):Hh X (.Assign [.Name x pos'] (.ListComp elt [⟨tg,iter,ifs,0⟩] scope pos) jN) (pO i (eNew (cZ it t c f own kp))):=
 (l_ hc hN hx EV C hi hg yQ he tH hs).imp fun D σ H h=>by
   have h1:=Gu h;obtain⟨Z,B,δ,d,E,hf,q⟩:=h1;obtain⟨ds,h2,h3⟩:=R.ao hf;cases h3;refine tT ⟨Z,B,δ,ds,E,h2,fun a xs H' s n e r=>q _ H' s ?_⟩
   unfold Rep;refine⟨a,xs,rfl, .inl ⟨fun ha=>?_, .inl e⟩,r.bj fun b o e nb=>⟨e,fun hb=>nb (List.mem_cons_of_mem _ hb)⟩⟩
   obtain⟨o,ho⟩:=E.bs a ha;rw[n] at ho;cases ho
end
def dz(N:List Str)(ds:List D):aw:=ds.map .val++List.replicate (N.length - ds.length) .un
def sV(N:List Str)(F:FS):List D->R D:=fun ds=>(F (dz N ds)).bind fun o=>match o with | .rt d=> .ok d | .nx _=> .ok .de
theorem JA{K:W.Frag}{B:List Addr}{H:Hp}{N:List Str}{ds:List D}{vs:List V}(hB:∀a∈B,∃o,H a=some o)(r:aI K B H ds vs):d4 K B B H (start N vs) (dz N ds) where
 len:=by unfold start dz;simp [r.length]
 bs:=hB
 zb:=fun a ha=>ha
 val:=fun i d e=>by
  unfold dz at e;unfold start;by_cases hi:i < ds.length
  .rw [List.getElem?_append_left (by simpa using hi),List.getElem?_map] at e
   cases q:ds[i]? with
   | none=>rw [q] at e;cases e
   | some d'=>
     rw[q] at e;cases e;obtain⟨x,h1,h2⟩:=r.get q;exact⟨x,by rw[List.getElem?_append_left (by rw[List.length_map,<-r.length];exact hi),List.getElem?_map,h1];rfl,h2⟩
  .rw [List.getElem?_append_right (by simpa using hi),List.getElem?_replicate] at e
   split at e <;> cases e
 bld:=fun i es e=>by
  unfold dz at e;by_cases hi:i < ds.length
  .rw [List.getElem?_append_left (by simpa using hi),List.getElem?_map] at e
   cases q:ds[i]? with
   | none=>rw [q] at e;cases e
   | some d'=>rw [q] at e;cases e
  .rw [List.getElem?_append_right (by simpa using hi),List.getElem?_replicate] at e
   split at e <;> cases e
 dis:=fun i j a es fs e=>by
  unfold dz at e;by_cases hi:i < ds.length
  .rw [List.getElem?_append_left (by simpa using hi),List.getElem?_map] at e
   cases q:ds[i]? with
   | none=>rw [q] at e;cases e
   | some d'=>rw [q] at e;cases e
  .rw [List.getElem?_append_right (by simpa using hi),List.getElem?_replicate] at e
   split at e <;> cases e
theorem JO{P:Program}{w:World}{K:W.Frag}{mg:X2}{base:Heap}{x qual:Str}{st:Stmt}{f:Addr}{fd:FuncData}{N ps:List Str}{k:Nat}{F:FS}(Fn:CI K x qual st f fd)(S:aR N ps (az st))
 (lY:∀(dD:Value) (A:Around) (outer:List Env) (s:Shared) (H:Hp) (E:XK),eS k (A.deeper (envOfC qual (az st) s.heap.objs.size f dD))->
   tw (uJ vN P w K mg base N qual (az st) f dD A outer s H E).JS (aK st) F):jC P w K mg base vN (k+1) f fd ps (Gp K ps.length (sV N F)):=by
 refine Fn.ok S (fun vs H Q E h=>h.1) (fun dD A outer s H vs Q E hr h=>⟨_,lY dD A outer s H E hr,?_⟩)
 obtain⟨_,B,ds,d,hB,r,hg,q⟩:=h;obtain⟨o,h1,h2⟩:=R.ao hg;refine⟨B,B,dz N ds,o,JA hB r,h1,?_⟩;have sm:∀{B':List Addr} {H':Hp},Ev B B H B' H'->aU H H':=fun {B' H'} ev b u e=>by
  by_cases hb:b∈B
  .exact(ev.zs b u e hb).1
  .exact(ev.bj b u e hb).1
 cases o with
 | nx eL=>
   cases h2;exact fun dC B' H' ev _=>q _ H' (sm ev) (by unfold Rep;rfl)
 | rt d'=>
   cases h2;exact fun v B' H' ev z rr=>q v H' (sm ev) (rr.bj fun b o e nb=>⟨e,fun hb=>nb (z b hb)⟩)
end L2
end
section
namespace L2
open PySem PySem.Spec PyProof.Rows
theorem Rep.int{K:W.Frag}{B:List Addr}{i:Int}{v:V}:Rep K B H (.int i) v↔v= .int i:=by unfold Rep;exact Iff.rfl
theorem Rep.bl{K:W.Frag}{B:List Addr}{i:Bool}{v:V}:Rep K B H (.bl i) v↔v= .bl i:=by unfold Rep;exact Iff.rfl
theorem Rep.str{K:W.Frag}{B:List Addr}{v:V}:Rep K B H (.str i) v↔v= .str i:=by unfold Rep;exact Iff.rfl
theorem Rep.de{K:W.Frag}{B:List Addr}{v:V}:Rep K B H .de v↔v= .de:=by unfold Rep;exact Iff.rfl
theorem Rep.lst{K:W.Frag}{B:List Addr}{ds:List D}{v:V}:Rep K B H (.lst ds) v↔∃a xs,v= .ref a/\vJ K B H a xs/\aI K B H ds xs:=by rw[Rep]
theorem Rep.tup{K:W.Frag}{B:List Addr}{ds:List D}{v:V}:Rep K B H (.tup ds) v↔∃a xs,v= .ref a/\vY K B H a xs/\aI K B H ds xs:=by rw[Rep]
section
variable {X:Cx}
theorem mh.of{f:Value->Value->Sem Value}{r:R2}{g:D->D->R D}(h:oK X f r)
 (w:∀(B:List Addr) (H:Hp) (da db d:D) (x y:V) (Q:VK),(∀a∈B,∃o,H a=some o)->Rep X.K B H da x->Rep X.K B H db y->g da db= .ok d->(∀z H',aU H H'->Rep X.K B H' d z->Q z H')->r x y H Q):mh X f g:=by
 intro pins s σ H B da db d x y v u I hb rx ry ra rb hg;exact h pins s σ H x y v u _ I rx ry (w B H da db d x y _ hb ra rb hg fun z H' s1 r1=>⟨s1,r1⟩)
theorem gn.of{f:Value}{r:List V->Hp->VK->Prop}{g:List D->R D}(h:sG X f r)
 (w:∀(B:List Addr) (H:Hp) (ds:List D) (d:D) (xs:List V) (Q:VK),(∀a∈B,∃o,H a=some o)->aI X.K B H ds xs->g ds= .ok d->(∀z H',aU H H'->Rep X.K B H' d z->Q z H')->r xs H Q):gn X f g:=by
 intro pins s σ H B ds d xs us I hb rx rs hg;exact h pins s σ H xs us _ I rx (w B H ds d xs _ hb rs hg fun z H' s1 r1=>⟨s1,r1⟩)
def yX(C:Int->Int->Bool)(g:Int->Int->Int):D->D->R D
 | .int i, .int j=>R.bJ (C i j) (.ok (.int (g i j)))
 | _,_=> .no
theorem zQ{f:Value->Value->Sem Value}{C:Int->Int->Bool}{Cp:Int->Int->Prop}{g:Int->Int->Int}(h:oK X f (rI Cp fun i j=> .int (g i j)))(hc:∀i j,C i j=true->Cp i j):mh X f (yX C g):=
 mh.of h fun B H da db d x y Q _ ra rb hg q=>by
  unfold yX at hg;split at hg
  .obtain⟨h1,h2⟩:=R.bc hg;cases h2;exact⟨_,_,Rep.int.mp ra,Rep.int.mp rb,hc _ _ h1,q _ H (aU.refl H) (Rep.int.mpr rfl)⟩
  .cases hg
def El(g:Int->Int->Int):D->D->R D
 | .int i, .int j=> .ok (.int (g i j))
 | _,_=> .no
theorem x_{f:Value->Value->Sem Value}{g:Int->Int->Int}(h:oK X f (G2 fun i j=> .int (g i j))):mh X f (El g):=
 mh.of h fun B H da db d x y Q _ ra rb hg q=>by
  unfold El at hg;split at hg
  .cases hg;exact⟨_,_,Rep.int.mp ra,Rep.int.mp rb,q _ H (aU.refl H) (Rep.int.mpr rfl)⟩
  .cases hg
def DJ(g:Int->Int->Bool):D->D->R D
 | .int i, .int j=> .ok (.bl (g i j))
 | _,_=> .no
theorem Lg{f:Value->Value->Sem Value}{g:Int->Int->Bool}(h:oK X f (G2 fun i j=> .bl (g i j))):mh X f (DJ g):=
 mh.of h fun B H da db d x y Q _ ra rb hg q=>by
  unfold DJ at hg;split at hg
  .cases hg;exact⟨_,_,Rep.int.mp ra,Rep.int.mp rb,q _ H (aU.refl H) (Rep.bl.mpr rfl)⟩
  .cases hg
abbrev vy:D->D->R D:=El fun i j=>i - j
theorem u6:mh X (binaryOp .Sub) vy:=x_ Mr
abbrev zP:D->D->R D:=yX (fun _ j=>decide (0 < j/\j < 1073741824)) fun i j=>i / j
theorem Gm:mh X (binaryOp .FloorDiv) zP:=zQ IG fun i j h=>(of_decide_eq_true h:0 < j/\j < 1073741824)
abbrev qr:D->D->R D:=yX (fun _ j=>decide (0 < j)) fun i j=>i % j
theorem sJ:mh X (binaryOp .Mod) qr:=zQ Nh fun i j h=>of_decide_eq_true h
abbrev OE:D->D->R D:=yX (fun i j=>decide (0<=j/\j<=1000000/\i.natAbs < 2 ^ 64)) fun i j=>i ^ j.toNat
theorem Oq:mh X (binaryOp .Pow) OE:=zQ MP fun i j h=>(of_decide_eq_true h:0<=j/\j<=1000000/\i.natAbs < 2 ^ 64)
abbrev A8:D->D->R D:=yX (fun _ j=>decide (0<=j)) fun i j=>i / 2 ^ j.toNat
theorem K_:mh X (binaryOp .RShift) A8:=zQ MF fun i j h=>of_decide_eq_true h
abbrev De:D->D->R D:=El fun i j=>Builtin.bitAnd i j
theorem xy:mh X (binaryOp .BitAnd) De:=x_ Mg
abbrev GD:D->D->R D:=El fun i j=>Builtin.bitOr i j
theorem xC:mh X (binaryOp .BitOr) GD:=x_ Ph
abbrev ED:D->D->R D:=El fun i j=>Builtin.bitXor i j
theorem xu:mh X (binaryOp .BitXor) ED:=x_ M_
abbrev Xd:D->D->R D:=DJ fun i j=>decide (i < j)
abbrev Xg:D->D->R D:=DJ fun i j=>decide (i<=j)
abbrev Qz:D->D->R D:=DJ fun i j=>decide (j < i)
theorem Og:mh X (compareOp .Gt) Qz:=Lg Ox
abbrev To:D->D->R D:=DJ fun i j=>decide (j<=i)
theorem Rc:mh X (compareOp .GtE) To:=Lg O_
theorem vJ.HI{K:W.Frag}{B:List Addr}{H:Hp}{a:Addr}{xs:List V}(h:H a=some (.lst xs))(n:a ∉ B):vJ K B H a xs:= .inl ⟨n, .inl h⟩
theorem Inv.LU{pins:XX}{s:Shared}{a:Addr}{xs:List V}{B:List Addr}(I:Inv X pins σ H s)(h:vJ X.K B H a xs):∃(its:List Value) (n:Nat),Vals xs its/\s.heap.get? a=some {cls:= .type "list",data:= .seq its.toArray n}/\xs.length<=sizeLine:=by
 rcases h with⟨_,h⟩ | ⟨its,n,hk,hz,r⟩
 .obtain⟨z,its,n,r,e⟩:=h.ok I.hok;exact⟨its,n,r,e,z⟩
 .exact⟨its,n,r,I.CP a _ hk,hz⟩
theorem JP:oK X (binaryOp .Add) (fun x y H Q=>∃B l b xs zs,x= .ref l/\y= .ref b/\vJ X.K B H l xs/\vJ X.K B H b zs/\xs.length+zs.length<=sizeLine/\∀p,H p=none->Q (.ref p) (upd H p (.lst (xs++zs)))):=by
 intro pins s σ H x y v u Q I rx ry h;obtain⟨B,l,b,xs,zs,rfl,rfl,hH,hB,hz,q⟩:=h;cases rx;cases ry;obtain⟨its,n,r,e,_⟩:=I.LU hH;obtain⟨rN,n2,r2,e2,_⟩:=I.LU hB;have l1:=r.length;have l2:=r2.length;refine PySem.P.add_list e e2 ?_ (by rw[List.size_toArray,List.size_toArray];omega)
 have ea:its.toArray++rN.toArray=(its++rN).toArray:=by simp
 rw[ea];exact⟨.ref _,_,I.Md (t':=s.toks) (r.append r2) (by rw[List.length_append];omega),rfl,q _ I.fresh⟩
def gS:D->D->R D
 | .int i, .int j=> .ok (.int (i+j))
 | .str a, .str b=>R.bJ (decide (a.length+b.length<=sizeLine)) (.ok (.str (a++b)))
 | .lst a, .lst b=>R.bJ (decide (a.length+b.length<=sizeLine)) (.ok (.lst (a++b)))
 | _,_=> .no
theorem i_:mh X (binaryOp .Add) gS:=by
 intro pins s σ H B da db d x y v u I hb rx ry ra rb hg;unfold gS at hg;split at hg
 .cases hg;exact Lx pins s σ H x y v u _ I rx ry ⟨_,_,Rep.int.mp ra,Rep.int.mp rb,aU.refl H,Rep.int.mpr rfl⟩
 .obtain⟨h1,h2⟩:=R.bc hg;cases h2;exact BN pins s σ H x y v u _ I rx ry ⟨_,_,Rep.str.mp ra,Rep.str.mp rb,of_decide_eq_true h1,aU.refl H,Rep.str.mpr rfl⟩
 .obtain⟨h1,h2⟩:=R.bc hg;cases h2;obtain⟨a1,Pr,rfl,l1,r1⟩:=Rep.lst.mp ra;obtain⟨a2,RS,rfl,l2,r2⟩:=Rep.lst.mp rb;refine JP pins s σ H _ _ v u _ I rx ry ⟨B,a1,a2,Pr,RS,rfl,rfl,l1,l2,by rw[<-r1.length,<-r2.length];exact of_decide_eq_true h1,fun p hp=>⟨bh hp,Rep.lst.mpr ⟨p,_,rfl, .HI bq fun ha=>?_,(r1.append r2).same (bh hp)⟩⟩⟩
  obtain⟨o,ho⟩:=hb p ha;rw[hp] at ho;cases ho
 .cases hg
theorem J6:oK X (binaryOp .Mult) (fun x y H Q=>∃z n,x= .str z/\y= .int n/\MulOk z n/\Q (.str (Txt.mul z n)) H):=by
 intro pins s σ H x y v u Q I rx ry h;obtain⟨z,n,rfl,rfl,hm,q⟩:=h;obtain⟨t,rfl⟩:=rx;obtain⟨t',rfl⟩:=ry;exact SB.mul hm fun t2 k=>⟨.str _,H,I.tok _,⟨_,rfl⟩,q⟩
end
end L2
end
section
namespace L2
open PySem PySem.Spec PyProof.Rows
section
variable {X:Cx}
theorem mulOk_of{x:Str}{n:Int}(h1: -(2 ^ 63)<=n)(h2:n < 2 ^ 63)(h3:x.length*n.toNat<=sizeLine):MulOk x n:=by
 refine⟨by simp only[Bool.or_eq_false_iff,decide_eq_false_iff_not];omega,fun hn _=>?_,fun hn _=>?_⟩
 .have hz:sizeLine=16777216:=sizeLine_eq;have e:(n.toNat:Int)=n:=by omega
  have h4:(x.length:Int)*n<=16777216:=by
   have:((x.length*n.toNat:Nat):Int)<=((16777216:Nat):Int):=Int.ofNat_le.mpr (by omega)
   rw[Int.natCast_mul,e] at this;exact this
  have:(x.length:Int)<=(2 ^ 63 - 1) / n:=(Int.le_ediv_iff_mul_le (by omega)).mpr (by omega)
  omega
 .unfold Builtin.Str.tooLong;exact decide_eq_false (by omega)
def fB:D->D->R D
 | .int i, .int j=>R.bJ (decide ((-(2 ^ 64) < i/\i < 2 ^ 64)\/(-(2 ^ 64) < j/\j < 2 ^ 64))) (.ok (.int (i*j)))
 | .str x, .int n=>R.bJ (decide (-(2 ^ 63)<=n/\n < 2 ^ 63/\x.length*n.toNat<=sizeLine)) (.ok (.str (Txt.mul x n)))
 | _,_=> .no
theorem fT:mh X (binaryOp .Mult) fB:=by
 intro pins s σ H B da db d x y v u I hb rx ry ra rb hg;unfold fB at hg;split at hg
 .obtain⟨h1,h2⟩:=R.bc hg;cases h2;have h1:=of_decide_eq_true h1;exact My pins s σ H x y v u _ I rx ry ⟨_,_,Rep.int.mp ra,Rep.int.mp rb,h1,aU.refl H,Rep.int.mpr rfl⟩
 .obtain⟨h1,h2⟩:=R.bc hg;cases h2;have h1:=of_decide_eq_true h1;exact J6 pins s σ H x y v u _ I rx ry ⟨_,_,Rep.str.mp ra,Rep.int.mp rb,mulOk_of h1.1 h1.2.1 h1.2.2,aU.refl H,Rep.str.mpr rfl⟩
 .cases hg
mutual
def toPy:D->PyData
 | .de=> .none
 | .bl b=> .bool b
 | .int i=> .int i
 | .str x=> .str x
 | .lst ds=> .list (m3 ds)
 | .tup ds=> .tuple (m3 ds)
 | .dct _ _=> .dict []
def m3:List D->List PyData
 | []=>[]
 | d ::ds=>toPy d ::m3 ds
end
mutual
def eX:D->Bool
 | .dct _ _=>false
 | .lst ds=>kK ds
 | .tup ds=>kK ds
 | _=>true
def kK:List D->Bool
 | []=>true
 | d ::ds=>eX d && kK ds
end
mutual
theorem Rep.reads{pins:XX}{s:Shared}{B:List Addr}(I:Inv X pins σ H s):∀{d:D} {v:V} {u:Value},eX d=true->Rep X.K B H d v->RelV v u->∃as,Reads s.heap u (toPy d) as
 | .de,v,u,_,r,q=>by rw[Rep.de.mp r] at q;cases q;unfold toPy;exact⟨_, .none⟩
 | .bl b,v,u,_,r,q=>by rw[Rep.bl.mp r] at q;cases q;unfold toPy;exact⟨_, .bool b⟩
 | .int i,v,u,_,r,q=>by rw[Rep.int.mp r] at q;obtain⟨t,rfl⟩:=q;unfold toPy;exact⟨_, .int i t⟩
 | .str x,v,u,_,r,q=>by rw[Rep.str.mp r] at q;obtain⟨t,rfl⟩:=q;unfold toPy;exact⟨_, .str x t⟩
 | .lst ds,v,u,hp,r,q=>by
   obtain⟨a,xs,rfl,l,rs⟩:=Rep.lst.mp r;cases q;obtain⟨its,rv,⟨o,n,e,hc,hd,he⟩,_⟩:=I.list l.sq;obtain⟨as,ra⟩:=aI.reads I (by unfold eX at hp;exact hp) rs rv
   unfold toPy;exact⟨_, .list e hc he (by simpa using ra)⟩
 | .tup ds,v,u,hp,r,q=>by
   obtain⟨a,xs,rfl,l,rs⟩:=Rep.tup.mp r;cases q;obtain⟨its,rv,⟨o,e,hc,n,hd⟩,_⟩:=I.tuple l.sq;obtain⟨as,ra⟩:=aI.reads I (by unfold eX at hp;exact hp) rs rv
   unfold toPy;exact⟨_, .tuple e hc hd (by simpa using ra)⟩
 | .dct _ _,v,u,hp,r,q=>by unfold eX at hp;cases hp
theorem aI.reads{pins:XX}{s:Shared}{B:List Addr}(I:Inv X pins σ H s):∀{ds:List D} {vs:List V} {us:List Value},kK ds=true->aI X.K B H ds vs->Vals vs us->∃as,ReadsAll s.heap us (m3 ds) as
 | [],vs,us,_,r,q=>by unfold aI at r;subst r;cases q;unfold m3;exact⟨_, .nil⟩
 | d ::ds,vs,us,hp,r,q=>by
   obtain⟨x,xs,rfl,r1,r2⟩:=r.cJ;cases q with
   | cons q1 q2=>
     unfold kK at hp;obtain⟨h1,h2⟩:=Bool.and_eq_true_iff.mp hp;obtain⟨as,a1⟩:=Rep.reads I h1 r1 q1;obtain⟨bs,a2⟩:=aI.reads I h2 r2 q2;unfold m3;exact⟨_, .cons a1 a2⟩
end
def GO:D->D->R Bool
 | .int i, .int j=> .ok (decide (i=j))
 | .str x, .str y=> .ok (decide (x=y))
 | .bl a, .bl b=> .ok (decide (a=b))
 | d,e=>R.bJ (eX d && eX e && SeqAt.shaped (toPy d) && SeqAt.shaped (toPy e)) (.ok (PyData.eqv (toPy d) (toPy e)))
def l4(d e:D):R D:=(GO d e).bind fun b=> .ok (.bl b)
def CU(d e:D):R D:=(GO d e).bind fun b=> .ok (.bl (!b))
theorem lh(hu:X.A.units+64 < cLine):mh X (compareOp .Eq) l4:=by
 intro pins s σ H B da db d x y v u I hb rx ry ra rb hg;obtain⟨b,h1,h2⟩:=R.ao hg;cases h2;unfold GO at h1;split at h1
 .cases h1;rename_i i j;have:=FV pins s σ H x y v u (fun z H'=>aU H H'/\Rep X.K B H' (.bl (decide (i=j))) z) I rx ry
  rw[Rep.int.mp ra,Rep.int.mp rb] at this;refine this ⟨rfl,aU.refl H,Rep.bl.mpr ?_⟩;simp [V.int.injEq]
 .cases h1;rename_i i j;have:=FV pins s σ H x y v u (fun z H'=>aU H H'/\Rep X.K B H' (.bl (decide (i=j))) z) I rx ry
  rw[Rep.str.mp ra,Rep.str.mp rb] at this;refine this ⟨rfl,aU.refl H,Rep.bl.mpr ?_⟩;simp [V.str.injEq]
 .cases h1;rename_i i j;have:=FV pins s σ H x y v u (fun z H'=>aU H H'/\Rep X.K B H' (.bl (decide (i=j))) z) I rx ry
  rw[Rep.bl.mp ra,Rep.bl.mp rb] at this;refine this ⟨rfl,aU.refl H,Rep.bl.mpr ?_⟩;simp [V.bl.injEq]
 .obtain⟨h3,h4⟩:=R.bc h1;cases h4;simp only[Bool.and_eq_true] at h3;obtain⟨⟨⟨p1,p2⟩,s1⟩,s2⟩:=h3;obtain⟨as,r1⟩:=ra.reads I p1 rx;obtain⟨bs,r2⟩:=rb.reads I p2 ry;exact eq_dataH r1 r2 s1 s2 hu ⟨.bl _,H,I,rfl,aU.refl H,Rep.bl.mpr rfl⟩
theorem vQ(hu:X.A.units+64 < cLine):mh X (compareOp .NotEq) CU:=by
 intro pins s σ H B da db d x y v u I hb rx ry ra rb hg;obtain⟨b,h1,h2⟩:=R.ao hg;cases h2;unfold GO at h1;split at h1
 .cases h1;rename_i i j;have:=Fp pins s σ H x y v u (fun z H'=>aU H H'/\Rep X.K B H' (.bl (!decide (i=j))) z) I rx ry
  rw[Rep.int.mp ra,Rep.int.mp rb] at this;refine this ⟨rfl,aU.refl H,Rep.bl.mpr ?_⟩;simp [V.int.injEq]
 .cases h1;rename_i i j;have:=Fp pins s σ H x y v u (fun z H'=>aU H H'/\Rep X.K B H' (.bl (!decide (i=j))) z) I rx ry
  rw[Rep.str.mp ra,Rep.str.mp rb] at this;refine this ⟨rfl,aU.refl H,Rep.bl.mpr ?_⟩;simp [V.str.injEq]
 .cases h1;rename_i i j;have:=Fp pins s σ H x y v u (fun z H'=>aU H H'/\Rep X.K B H' (.bl (!decide (i=j))) z) I rx ry
  rw[Rep.bl.mp ra,Rep.bl.mp rb] at this;refine this ⟨rfl,aU.refl H,Rep.bl.mpr ?_⟩;simp [V.bl.injEq]
 .obtain⟨h3,h4⟩:=R.bc h1;cases h4;simp only[Bool.and_eq_true] at h3;obtain⟨⟨⟨p1,p2⟩,s1⟩,s2⟩:=h3;obtain⟨as,r1⟩:=ra.reads I p1 rx;obtain⟨bs,r2⟩:=rb.reads I p2 ry;exact ne_dataH r1 r2 s1 s2 hu ⟨.bl _,H,I,rfl,aU.refl H,Rep.bl.mpr rfl⟩
def strs?:List D->Option (List Str)
 | []=>some []
 | .str x ::ds=>(strs? ds).map (x ::·)
 | _ ::_=>none
theorem lU{K:W.Frag}{B:List Addr}:∀{ds:List D} {xs:List V} {ss:List Str},aI K B H ds xs->strs? ds=some ss->xs=ss.map V.str
 | [],xs,ss,r,h=>by unfold aI at r;subst r;cases h;rfl
 | d ::ds,xs,ss,r,h=>by
   obtain⟨x,r',rfl,r1,r2⟩:=r.cJ;cases d with
   | str z=>
     unfold strs? at h;cases e:strs? ds with
     | none=>rw [e] at h;cases h
     | some tt=>
       rw[e] at h;cases h;rw[Rep.str.mp r1,lU r2 e];rfl
   | _=>cases h
def ints?:List D->Option (List Int)
 | []=>some []
 | .int x ::ds=>(ints? ds).map (x ::·)
 | _ ::_=>none
theorem iy{K:W.Frag}{B:List Addr}:∀{ds:List D} {xs:List V} {ss:List Int},aI K B H ds xs->ints? ds=some ss->xs=ss.map V.int
 | [],xs,ss,r,h=>by unfold aI at r;subst r;cases h;rfl
 | d ::ds,xs,ss,r,h=>by
   obtain⟨x,r',rfl,r1,r2⟩:=r.cJ;cases d with
   | int z=>
     unfold ints? at h;cases e:ints? ds with
     | none=>rw [e] at h;cases h
     | some tt=>
       rw[e] at h;cases h;rw[Rep.int.mp r1,iy r2 e];rfl
   | _=>cases h
def inD(d e:D):R Bool:=match d,e with
 | .str x, .lst ds=>(match strs? ds with | some ss=> .ok (ss.contains x) | none=> .no)
 | .str x, .tup ds=>(match strs? ds with | some ss=> .ok (ss.contains x) | none=> .no)
 | .str x, .str y=> .ok (!(Builtin.Str.occurrences y x 0 y.length 1).isEmpty)
 | .int x, .lst ds=>(match ints? ds with | some ss=> .ok (ss.contains x) | none=> .no)
 | .int x, .tup ds=>(match ints? ds with | some ss=> .ok (ss.contains x) | none=> .no)
 | _,_=> .no
def P9(d e:D):R D:=(inD d e).bind fun b=> .ok (.bl b)
def Q_(d e:D):R D:=(inD d e).bind fun b=> .ok (.bl (!b))
theorem uC(x:Str):∀ss:List Str,KR (.str x) (ss.map V.str)=ss.contains x
 | []=>rfl
 | y ::ss=>by
   unfold KR;rw[List.map_cons,List.any_cons];have ih:=uC x ss;unfold KR at ih;rw[ih];show(y==x || ss.contains x)=_
   rw[List.contains_cons];congr 1;exact Bool.eq_iff_iff.mpr ⟨fun h=>by simpa using(beq_iff_eq.mp h).symm,fun h=>by simpa using(beq_iff_eq.mp h).symm⟩
theorem vc(x:Int):∀ss:List Int,KR (.int x) (ss.map V.int)=ss.contains x
 | []=>rfl
 | y ::ss=>by
   unfold KR;rw[List.map_cons,List.any_cons];have ih:=vc x ss;unfold KR at ih;rw[ih];show(y==x || ss.contains x)=_
   rw[List.contains_cons];congr 1;exact Bool.eq_iff_iff.mpr ⟨fun h=>by simpa using(beq_iff_eq.mp h).symm,fun h=>by simpa using(beq_iff_eq.mp h).symm⟩
theorem wL(ss:List Int):(ss.map V.int).all m4=true:=by
 rw[List.all_map];simp [List.all_eq_true,m4]
theorem wH(ss:List Str):(ss.map V.str).all m4=true:=by
 rw[List.all_map];simp [List.all_eq_true,m4]
theorem M8{neg:Bool}{op:CmpOp}{g:D->D->R D}(h1:oK X (compareOp op) (TB X.K neg))(h2:oK X (compareOp op) (fun x y H Q=>∃i j,x= .str i/\y= .str j/\Q (.bl (if neg then !(!(Builtin.Str.occurrences j i 0 j.length 1).isEmpty) else(!(Builtin.Str.occurrences j i 0 j.length 1).isEmpty))) H))
 (hg:∀d e r,g d e= .ok r->∃b,inD d e= .ok b/\r= .bl (if neg then !b else b)):mh X (compareOp op) g:=by
 intro pins s σ H B da db d x y v u I hb rx ry ra rb hg';obtain⟨b,hi,rfl⟩:=hg da db d hg';unfold inD at hi;split at hi
 .rename_i z ds;split at hi
  .rename_i ss e;cases hi;obtain⟨a,xs,rfl,l,rs⟩:=Rep.lst.mp rb;refine h1 pins s σ H x _ v u _ I rx ry ⟨a,xs,rfl, .inl l.sq,by rw[Rep.str.mp ra];rfl,by rw[lU rs e];exact wH _,aU.refl H,Rep.bl.mpr ?_⟩
   rw[lU rs e,Rep.str.mp ra,uC]
  .cases hi
 .rename_i z ds;split at hi
  .rename_i ss e;cases hi;obtain⟨a,xs,rfl,l,rs⟩:=Rep.tup.mp rb;refine h1 pins s σ H x _ v u _ I rx ry ⟨a,xs,rfl, .inr l.sq,by rw[Rep.str.mp ra];rfl,by rw[lU rs e];exact wH _,aU.refl H,Rep.bl.mpr ?_⟩
   rw[lU rs e,Rep.str.mp ra,uC]
  .cases hi
 .cases hi;exact h2 pins s σ H x y v u _ I rx ry ⟨_,_,Rep.str.mp ra,Rep.str.mp rb,aU.refl H,Rep.bl.mpr rfl⟩
 .rename_i z ds;split at hi
  .rename_i ss e;cases hi;obtain⟨a,xs,rfl,l,rs⟩:=Rep.lst.mp rb;refine h1 pins s σ H x _ v u _ I rx ry ⟨a,xs,rfl, .inl l.sq,by rw[Rep.int.mp ra];rfl,by rw[iy rs e];exact wL _,aU.refl H,Rep.bl.mpr ?_⟩
   rw[iy rs e,Rep.int.mp ra,vc]
  .cases hi
 .rename_i z ds;split at hi
  .rename_i ss e;cases hi;obtain⟨a,xs,rfl,l,rs⟩:=Rep.tup.mp rb;refine h1 pins s σ H x _ v u _ I rx ry ⟨a,xs,rfl, .inr l.sq,by rw[Rep.int.mp ra];rfl,by rw[iy rs e];exact wL _,aU.refl H,Rep.bl.mpr ?_⟩
   rw[iy rs e,Rep.int.mp ra,vc]
  .cases hi
 .cases hi
theorem OV:mh X (compareOp .In) P9:=M8 (neg:=false) Eu D7 fun d e r h=>by
 obtain⟨b,h1,h2⟩:=R.ao h;cases h2;exact⟨b,h1,rfl⟩
def cy(d e:D):R D:=match d,e with
 | .lst ds, .int i=>(match tU ds i with | some x=> .ok x | none=> .no)
 | .tup ds, .int i=>(match tU ds i with | some x=> .ok x | none=> .no)
 | .str x, .int i=>R.bJ (decide (x.length<=sizeLine)) (match tU x.cps.toList i with | some c=> .ok (.str ⟨#[c]⟩) | none=> .no)
 | _,_=> .no
theorem qc{K:W.Frag}{B:List Addr}{ds:List D}{xs:List V}{i:Int}{d:D}(r:aI K B H ds xs)(h:tU ds i=some d):∃x,tU xs i=some x/\Rep K B H d x:=by
 unfold tU at h ⊢;rw[<-r.length];cases e:Cq ds.length i with
 | none=>rw [e] at h;cases h
 | some j=>
   rw[e] at h;exact r.get h
theorem OT(ha:PD X a fa)(hb:PD X b fb)(hs:tL b):PD X (.Subscript a b pos) (e2 cy fa fb):=by
 refine(KZ (r:=RL X.K) G5 ha hb hs).imp fun σ H Q ⟨Z,B,δ,d,E,hf,q⟩=>?_
 obtain⟨d1,h1,h2⟩:=R.ao hf;obtain⟨d2,h3,h4⟩:=R.ao h2;refine⟨Z,B,δ,d1,E,h1,fun v1 H1 s1 r1=>⟨Z,B,δ,d2,E.same s1,h3,fun v2 H2 s2 r2=>?_⟩⟩
 have vE:=r1.same s2;unfold cy at h4;split at h4
 .split at h4
  .rename_i e;cases h4;obtain⟨p,xs,rfl,l,rs⟩:=Rep.lst.mp vE;obtain⟨y,e1,e2⟩:=qc rs e;exact .inl ⟨p,xs,_,y,rfl,Rep.int.mp r2,l.sq,e1,q y H2 (s1.trans s2) e2⟩
  .cases h4
 .split at h4
  .rename_i e;cases h4;obtain⟨p,xs,rfl,l,rs⟩:=Rep.tup.mp vE;obtain⟨y,e1,e2⟩:=qc rs e;exact .inr (.inl ⟨p,xs,_,y,rfl,Rep.int.mp r2,l.sq,e1,q y H2 (s1.trans s2) e2⟩)
  .cases h4
 .obtain⟨hl,h5⟩:=R.bc h4;split at h5
  .rename_i e;cases h5;exact .inr (.inr ⟨_,_,_,Rep.str.mp vE,Rep.int.mp r2,of_decide_eq_true hl,e,q _ H2 (s1.trans s2) (Rep.str.mpr rfl)⟩)
  .cases h5
 .cases h4
abbrev FO:=aw->R (Option Int)
def Uu(K:W.Frag)(f:FO):TO:=fun σ H Q=>∃Z B δ o,d4 K Z B H σ δ/\f δ= .ok o/\∀H',aU H H'->Q o H'
theorem PO.imp{X:Cx}{e:Option Expr}{t t':TO}(h:PO X e t)(w:∀σ H Q,t' σ H Q->t σ H Q):PO X e t':=fun pins s σ H Q I hq=>h pins s σ H Q I (w σ H Q hq)
abbrev PP(X:Cx)(e:Option Expr)(f:FO):Prop:=PO X e (Uu X.K f)
def wu:FO:=fun _=> .ok none
def sr(f:FD):FO:=fun δ=>(f δ).bind fun d=>match d with | .int i=> .ok (some i) | _=> .no
theorem Jx:PP X none wu:=Js.imp fun σ H Q ⟨Z,B,δ,o,E,hf,q⟩=>by cases hf;exact q H (aU.refl H)
theorem IU(h:PD X e f):PP X (some e) (sr f):=(Ja h).imp fun σ H Q ⟨Z,B,δ,o,E,hf,q⟩=>by
 obtain⟨d,h1,h2⟩:=R.ao hf;cases d with
 | int i=>cases h2;exact⟨Z,B,δ, .int i,E,h1,fun v H1 s1 r1=>⟨i,Rep.int.mp r1,q H1 s1⟩⟩
 | _=>cases h2
theorem M9:LW X (fun x lo hi H Q=>∃z,x= .str z/\z.length<=sizeLine/\Q (.str (Txt.slice z lo hi)) H):=by
 intro pins s σ H x v vl vu lo hi sl Q I rx hs pl pu h;obtain⟨z,rfl,hz,q⟩:=h;obtain⟨t,rfl⟩:=rx;refine⟨"str",_,F.slot_str_getitem.lookup,typeIs_str _ _ _,?_⟩;have fin:∀t' k,EP X pins σ Q (.str (Txt.slice z lo hi) t') {s with toks:=k}:=fun t' k=>⟨.str _,H,I.tok _,⟨_,rfl⟩,q⟩
 obtain⟨o,ho,hc,hd⟩:=hs;cases pl with
 | none=>
   cases pu with
   | none=>exact wpAny_getItem_str_slice (l:=none) (u:=none) (st:=none) ⟨o,ho,hc,hd⟩ rfl (post_val_or_str ⟨Nat.le_trans (Txt.slice_le z _ _) hz,fin⟩)
   | int j u=>exact wpAny_getItem_str_slice (l:=none) (u:=some (j,u)) (st:=none) ⟨o,ho,hc,hd⟩ rfl (post_val_or_str ⟨Nat.le_trans (Txt.slice_le z _ _) hz,fin⟩)
 | int i t1=>
   cases pu with
   | none=>exact wpAny_getItem_str_slice (l:=some (i,t1)) (u:=none) (st:=none) ⟨o,ho,hc,hd⟩ rfl (post_val_or_str ⟨Nat.le_trans (Txt.slice_le z _ _) hz,fin⟩)
   | int j u=>exact wpAny_getItem_str_slice (l:=some (i,t1)) (u:=some (j,u)) (st:=none) ⟨o,ho,hc,hd⟩ rfl (post_val_or_str ⟨Nat.le_trans (Txt.slice_le z _ _) hz,fin⟩)
def cutD{α:Type}(xs:List α)(lo hi:Option Int):List α:=(xs.drop (HT.tP xs.length 0 lo)).take (HT.tP xs.length xs.length hi - HT.tP xs.length 0 lo)
def Pe(d:D)(lo hi:Option Int):R D:=match d with
 | .str x=>R.bJ (decide (x.length<=sizeLine)) (.ok (.str (Txt.slice x lo hi)))
 | .lst ds=> .ok (.lst (cutD ds lo hi))
 | _=> .no
theorem GZ{K:W.Frag}{B:List Addr}{ds:List D}{xs:List V}(r:aI K B H ds xs)(lo hi:Option Int):aI K B H (cutD ds lo hi) (Bh xs lo hi):=by
 unfold cutD Bh;rw[<-r.length];exact(r.drop _).take _
def KQ(f:FD)(fl fh:FO):FD:=fun δ=>(f δ).bind fun d=>(fl δ).bind fun lo=>(fh δ).bind fun hi=>Pe d lo hi
theorem OK{lo hi:Option Expr}{fl fh:FO}(he:PD X e f)(hl:PP X lo fl)(hh:PP X hi fh):PD X (.Subscript e (.Slice lo hi none p2) pos) (KQ f fl fh):=by
 refine(Gn (M9.or JI) he hl hh).imp fun σ H Q ⟨Z,B,δ,d,E,hf,q⟩=>?_
 obtain⟨d1,h1,h2⟩:=R.ao hf;obtain⟨l,h3,h4⟩:=R.ao h2;obtain⟨h,h5,h6⟩:=R.ao h4;refine⟨Z,B,δ,d1,E,h1,fun v1 H1 s1 r1=>⟨Z,B,δ,l,E.same s1,h3,fun H2 s2=>⟨Z,B,δ,h,(E.same s1).same s2,h5,fun H3 s3=>?_⟩⟩⟩
 have sA:aU H H3:=s1.trans (s2.trans s3);have vE:=r1.same (s2.trans s3);unfold Pe at h6;split at h6
 .obtain⟨hz,h7⟩:=R.bc h6;cases h7;exact .inl ⟨_,Rep.str.mp vE,of_decide_eq_true hz,q _ H3 sA (Rep.str.mpr rfl)⟩
 .cases h6;obtain⟨a,xs,rfl,ls,rs⟩:=Rep.lst.mp vE;refine .inr ⟨a,xs,rfl,ls.sq,fun p hp=>q _ _ (sA.trans (bh hp)) (Rep.lst.mpr ⟨p,_,rfl, .HI bq fun ha=>?_,(GZ rs l h).same (bh hp)⟩)⟩
  obtain⟨o,ho⟩:=(E.same sA).bs p ha;rw[hp] at ho;cases ho
 .cases h6
end
end L2
end
section
namespace L2
open PySem PySem.Spec PyProof.Rows
section
variable {X:Cx}
theorem aI.one{K:W.Frag}{B:List Addr}{d:D}{xs:List V}(h:aI K B H [d] xs):∃x,xs=[x]/\Rep K B H d x:=by
 obtain⟨x,r,rfl,h1,h2⟩:=h.cJ;unfold aI at h2;subst h2;exact⟨x,rfl,h1⟩
theorem aI.two{K:W.Frag}{B:List Addr}{d e:D}{xs:List V}(h:aI K B H [d,e] xs):∃x y,xs=[x,y]/\Rep K B H d x/\Rep K B H e y:=by
 obtain⟨x,r,rfl,h1,h2⟩:=h.cJ;obtain⟨y,rfl,h3⟩:=h2.one;exact⟨x,y,rfl,h1,h3⟩
def eW:List D->R D
 | [.str x]=>R.bJ (decide (x.length<=sizeLine)) (.ok (.int x.length))
 | [.lst ds]=> .ok (.int ds.length)
 | [.tup ds]=> .ok (.int ds.length)
 | _=> .no
theorem eE:gn X (.builtin "len") eW:=gn.of G9 fun B H ds d xs Q _ rs hg q=>by
 unfold eW at hg;split at hg
 .obtain⟨h1,h2⟩:=R.bc hg;cases h2;obtain⟨x,rfl,r⟩:=rs.one;exact⟨x,_,rfl,by rw[Rep.str.mp r];exact⟨of_decide_eq_true h1,rfl⟩,q _ H (aU.refl H) (Rep.int.mpr rfl)⟩
 .cases hg;obtain⟨x,rfl,r⟩:=rs.one;obtain⟨a,ys,rfl,l,r⟩:=Rep.lst.mp r;exact⟨_,_,rfl, .inl ⟨ys,l.sq,rfl⟩,q _ H (aU.refl H) (Rep.int.mpr (by rw[r.length]))⟩
 .cases hg;obtain⟨x,rfl,r⟩:=rs.one;obtain⟨a,ys,rfl,l,r⟩:=Rep.tup.mp r;exact⟨_,_,rfl, .inr ⟨ys,l.sq,rfl⟩,q _ H (aU.refl H) (Rep.int.mpr (by rw[r.length]))⟩
 .cases hg
def cInt:List D->R D
 | [.int i]=> .ok (.int i)
 | [.bl b]=> .ok (.int (if b then 1 else 0))
 | _=> .no
def cStr:List D->R D
 | [.int i]=>R.bJ (decide (i.natAbs.log2 < 1920)) (.ok (.str (toString i)))
 | _=> .no
def Mq:List D->R D
 | [.int i, .int j]=> .ok (.int (if j < i then j else i))
 | _=> .no
theorem OZ(hc:X.calm=true):gn X (.builtin "min") Mq:=gn.of (EL hc) fun B H ds d xs Q _ rs hg q=>by
 unfold Mq at hg;split at hg
 .cases hg;obtain⟨x,y,rfl,r1,r2⟩:=rs.two;exact⟨_,_,by rw[Rep.int.mp r1,Rep.int.mp r2],q _ H (aU.refl H) (Rep.int.mpr rfl)⟩
 .cases hg
def Me:List D->R D
 | [.int i, .int j]=> .ok (.int (if j > i then j else i))
 | _=> .no
theorem OH(hc:X.calm=true):gn X (.builtin "max") Me:=gn.of (EB hc) fun B H ds d xs Q _ rs hg q=>by
 unfold Me at hg;split at hg
 .cases hg;obtain⟨x,y,rfl,r1,r2⟩:=rs.two;exact⟨_,_,by rw[Rep.int.mp r1,Rep.int.mp r2],q _ H (aU.refl H) (Rep.int.mpr rfl)⟩
 .cases hg
def ng:List D->R D
 | [.lst ds]=> .ok (.tup ds)
 | [.tup ds]=> .ok (.tup ds)
 | _=> .no
theorem qk:gn X (.type "tuple") ng:=gn.of vS fun B H ds d xs Q hb rs hg q=>by
 unfold ng at hg;split at hg
 .cases hg;obtain⟨x,rfl,r⟩:=rs.one;obtain⟨a,ys,rfl,l,r⟩:=Rep.lst.mp r;refine⟨a,ys,rfl, .inl ⟨l.sq,fun p hp=>q _ _ (bh hp) (Rep.tup.mpr ⟨p,ys,rfl, .inl ⟨fun ha=>?_, .inl bq⟩,r.same (bh hp)⟩)⟩⟩
  obtain⟨o,ho⟩:=hb p ha;rw[hp] at ho;cases ho
 .cases hg;obtain⟨x,rfl,r⟩:=rs.one;have r0:=r;obtain⟨a,ys,rfl,l,r⟩:=Rep.tup.mp r;exact⟨a,ys,rfl, .inr ⟨l.sq,q _ H (aU.refl H) r0⟩⟩
 .cases hg
def SN:List D->R D
 | [.lst ds]=> .ok (.lst ds)
 | [.tup ds]=> .ok (.lst ds)
 | _=> .no
def cAbs:List D->R D
 | [.int i]=> .ok (.int (if i < 0 then -i else i))
 | _=> .no
def Rx:List D->R D
 | [.lst ds]=>(match ints? ds with | some ns=> .ok (.int ns.sum) | none=> .no)
 | _=> .no
theorem k_:∀{ns:List Int} {us:List Value},Vals (ns.map V.int) us->∃l:List (Int × Tok),us=l.map (fun p=>Value.int p.1 p.2)/\l.map (·.1)=ns
 | [],_, .nil=>⟨[],rfl,rfl⟩
 | n ::ns,_, .cons r t=>by
   obtain⟨l,rfl,e⟩:=k_ t;obtain⟨tk,rfl⟩:=r;exact⟨(n,tk) ::l,rfl,by rw[List.map_cons,e]⟩
def tyName:D->String
 | .de=>"NoneType" | .bl _=>"bool" | .int _=>"int" | .str _=>"str" | .lst _=>"list" | .tup _=>"tuple" | .dct _ _=>"dict"
def U_(T:String)(f:FD):FD:=fun δ=>(f δ).bind fun d=>R.bJ (tyName d==T && d.atom) (.ok (.bl true))
def Xc(X:Cx)(id:String)(g:D->List D->R D):Prop:=
 ∀(pins:XX) (s:Shared) (σ:St) (H:Hp) (B:List Addr) (da d:D) (ds:List D) (x:V) (xs:List V) (v:Value) (us:List Value),Inv X pins σ H s->(∀a∈B,∃o,H a=some o)->RelV x v->Vals xs us->Rep X.K B H da x->aI X.K B H ds xs->g da ds= .ok d->
  wpAny (model X.prog X.w) X.A (call (.builtin id) (v ::us)) (EP X pins σ fun z H'=>aU H H'/\Rep X.K B H' d z) X.xe s
def Xk(T:String)(g:D->List D->R D)(f:FD)(fs:aw->R (List D)):FD:=fun δ=>(f δ).bind fun d=>R.bJ (tyName d==T && (d.atom || T=="list")) ((fs δ).bind fun ds=>g d ds)
def Tr(d:D)(ds:List D):R D:=match d,ds with
 | .str sep,[.lst es]=>(match strs? es with | some ss=>R.bJ (JoinOk sep ss) (.ok (.str (Str.join sep ss))) | none=> .no)
 | _,_=> .no
abbrev PJ(X:Cx)(es:List Expr)(f:aw->R (List Str)):Prop:=
 ∀(pins:XX) (s:Shared) (σ:St) (H:Hp) (Z B:List Addr) (δ:aw) (acc:Str) (ss:List Str) (Q:VK),Inv X pins σ H s->d4 X.K Z B H σ δ->f δ= .ok ss->(ss.foldl (·++·) acc).length<=sizeLine->(∀H',aU H H'->Q (.str (ss.foldl (·++·) acc)) H')->
  wpAny (model X.prog X.w) X.A (joinParts acc (evalEach es X.env)) (EP X pins σ Q) X.xe s
def Uo:aw->R (List Str):=fun _=> .ok []
def S_(f:FD)(g:aw->R (List Str)):aw->R (List Str):=fun δ=>(f δ).bind fun d=>match d with | .str x=>(g δ).bind fun ss=> .ok (x ::ss) | _=> .no
def P5(g:aw->R (List Str)):FD:=fun δ=>(g δ).bind fun ss=>R.bJ (decide ((ss.foldl (·++·) Str.empty).length<=sizeLine)) (.ok (.str (ss.foldl (·++·) Str.empty)))
def Rj:D->R D
 | .str x=>R.bJ (decide (x.length<=sizeLine)) (.ok (.str x))
 | .int i=>R.bJ (decide (i.natAbs.log2 < 1920)) (.ok (.str (toString i)))
 | _=> .no
def Uq(f:FD):FD:=fun δ=>(f δ).bind Rj
def N_:List (D × D)->Str->R (Option D)
 | [],_=> .ok none
 | (.str y,d) ::r,x=>(N_ r x).bind fun o=> .ok (match o with | some e=>some e | none=>if y=x then some d else none)
 | _ ::_,_=> .no
def Oc(x:Str):List D:=x.cps.toList.map fun c=> .str ⟨#[c]⟩
def Xh(x:Str):It:=⟨fun i _=>i < x.cps.size,fun i H v H'=>H'=H/\∃c,x.cps[i]? =some c/\v= .str ⟨#[c]⟩,fun i _=>x.cps.size<=i⟩
def SQ(f:FD):aw->R (List D):=fun δ=>(f δ).bind fun d=>match d with | .str x=> .ok (Oc x) | _=> .no
def UE(K:W.Frag)(a:Addr):It:=
 ⟨fun i H=>∃xs x,pH K H a xs/\xs[i]? =some x,fun i H v H'=>∃p x,H p=none/\v= .ref p/\(∀xs,pH K H a xs->xs[i]? =some x)/\H'=upd H p (.tup [.int i,x]),fun i H=>∃xs,pH K H a xs/\xs.length<=i⟩
theorem Ej{K:W.Frag}{k:Nat}(a e it:Addr)(NM:e≠it):Turn P w K (.Tuple elts k pos) (UE K a) [e,it] e (fun i h=>(∃old,IsEnum h e it ((i:Nat):Int) old)/\h.IsListIter it a i) where
 mem:=by simp
 obj:=fun i h st b hb=>by
  obtain⟨⟨old,he⟩,o,ho,c,d⟩:=st;rcases List.mem_cons.mp hb with rfl | hb
  .exact⟨_,he,fun v z=>by cases z⟩
  .have e:b=it:=by simpa using hb
   subst e;exact⟨o,ho,fun v z=>by rw[d] at z;cases z⟩
 keep:=fun i h h' st k=>by
  obtain⟨⟨old,he⟩,hi⟩:=st;exact⟨⟨old,k e (by simp) _ he⟩,hi.at fun o x=>k it (by simp) o x⟩
 item:=by
  intro X hP hw hK hc i pins s σ H E I hf st hg;subst hP hw hK;obtain⟨xs,x,hq,hx⟩:=hg;obtain⟨its,rv,p,hz⟩:=I.list hq;obtain⟨u,hu,ru⟩:=rv.get hx;obtain⟨⟨old,he⟩,hit⟩:=st;obtain⟨f0,f1,f2,f3,f4,f5⟩:=hf e (by simp)
  obtain⟨g0,g1,g2,g3,g4,g5⟩:=hf it (by simp)
  refine wpAny_pyNext_enum_item he hit p.isList (x:=u) (by simpa using hu) NM fun jx Iw B8 Ii o3 xo=>⟨_,rfl,?_⟩
  refine wpAny_letOwnedTupleGo_enum Iw fun h_ Ib dh=>?_
  replace dh:Heap.SameBut e jx h_:=dh
  have hel:e < s.heap.objs.size:=Heap.lt_size he;have AB:h_.get? s.heap.objs.size=some {cls:= .type "tuple",data:= .seq #[.int i s.toks,u]}:=(dh.2 _ (Nat.ne_of_gt hel)).trans Ii;have kk:∀b o,b≠e->b≠it->s.heap.get? b=some o->h_.get? b=some o:=fun b o h1 h2 q=>(dh.2 b h1).trans (xo b o h1 h2 q)
  have hn:H s.heap.objs.size=none:=I.fresh;have sm:aU H (upd H s.heap.objs.size (.tup [.int i,x])):=bh hn;have nit:∀b o,H b=some o->b≠e/\b≠it:=fun b o q=>⟨fun z=>(by rw[z,f0] at q;cases q),fun z=>(by rw[z,g0] at q;cases q)⟩
  have hok:oV X.prog X.w (upd H s.heap.objs.size (.tup [.int i,x])) h_:=fun b ob q=>by
   by_cases hb:b=s.heap.objs.size
   .subst hb;rw[bq] at q;cases q;exact⟨by show 2<=sizeLine;decide,[.int i s.toks,u], .cons ⟨_,rfl⟩ (.cons ru .nil),⟨_,AB,rfl,_,rfl⟩⟩
   .rw [bg hb] at q;refine(I.hok b ob q).xU (fun c v hc z=>?_) (fun c z=>sm c _ z) fun c ys z=>sm c _ z
    rcases hc with rfl | hc
    .exact kk c v (nit c _ q).1 (nit c _ q).2 z
    .exact kk c v (nit c _ hc).1 (nit c _ hc).2 z
  have nch:∀b,b ∉ [e,it]->b≠e/\b≠it:=fun b hb=>⟨fun z=>hb (by simp [z]),fun z=>hb (by simp [z])⟩
  have I2:Inv X pins σ (upd H s.heap.objs.size (.tup [.int i,x])) {s with heap:=h_,toks:=s.toks+1}:=by
   refine I.step (g':=s.gens) (d':=s.drawn) (ch:=[e,it]) (fun b hb=>?_) (fun b o _ _ hb q _=>kk b o (nch b hb).1 (nch b hb).2 q) (fun b o _ _ hb q _=>⟨o.slots,kk b o (nch b hb).1 (nch b hb).2 q⟩)
    (fun b o hb q n=>by rw[bg (Nat.ne_of_lt (Heap.lt_size q))];exact n) (fun b o hb q=>⟨o,kk b o (nch b hb).1 (nch b hb).2 q⟩) (fun b ys z=>sm b _ z) (fun b o u z=>sm b _ z) (fun b ps z=>⟨#[],by rw[sm b _ z];simp⟩) (fun m hm=>?_) hok I.bare
   .rcases List.mem_cons.mp hb with rfl | hb
    .exact⟨f3,f1,f4,f5⟩
    .have z:b=it:=by simpa using hb
     subst z;exact⟨g3,g1,g4,g5⟩
   .obtain⟨o,es,ep,ho,r⟩:=hm;exact⟨o,es,ep,kk _ o (Ne.symm f1) (Ne.symm g1) ho,r⟩
  refine⟨.ref s.heap.objs.size,_,I2,rfl,⟨s.heap.objs.size,x,hn,rfl,fun ys hy=>(by rw[I.qO hy hq];exact hx),rfl⟩,⟨⟨_,by simpa using Ib⟩,B8.at fun o q=>(dh.2 it (Ne.symm NM)).trans q⟩,fun b hb=>?_⟩
  rcases List.mem_cons.mp hb with rfl | hb
  .rw [bg (Nat.ne_of_lt hel)];exact f0
  .have z:b=it:=by simpa using hb
   subst z;obtain⟨o,ho,_⟩:=hit;rw[bg (Nat.ne_of_lt (Heap.lt_size ho))];exact g0
 done:=by
  intro X hP hw hK hc i pins s σ H E I hf st hg;subst hP hw hK;obtain⟨xs,hq,hx⟩:=hg;obtain⟨its,rv,p,hz⟩:=I.list hq;obtain⟨⟨old,he⟩,hit⟩:=st;obtain⟨g0,g1,g2,g3,g4,g5⟩:=hf it (by simp)
  have hl:=rv.length;exact wpAny_pyNext_enum_end (I.ok.hd hc) he hit p.isList (by simp;omega) fun h' eb=>⟨rfl,I.turned (t':=s.toks) (fun b o hb q=>eb b o hb q) g0 g1 g3 g4 g5⟩
 self:=fun A i s Q E st h=>let⟨⟨_,he⟩,_⟩:=st;wpAny_pyIter_enum he h
def dR(ds:List D):List D:=ds.zipIdx.map fun p=> .tup [.int p.2,p.1]
def k8(f:FD):aw->R (List D):=fun δ=>(f δ).bind fun d=>match d with | .lst ds=> .ok (dR ds) | _=> .no
theorem Aj{elts:List Expr}{k:Nat}{vD:Pos}{p pos:Pos}(h:PD X a f)(hg:Gl X "enumerate")(hm:X.mg "enumerate"=none)(hs:starEach [a] X.env=[(false,eval a X.env)]:=by rfl):Ln X (.Tuple elts k vD) (.Call (.Name "enumerate" p) [a] [] pos) (k8 f):=by
 intro pins s σ H RR I ⟨Z,B,δ,ds,E,hf,q⟩;obtain⟨d,h1,h2⟩:=R.ao hf;have hA:=gI h j5 hs pos pins s σ H (fun vs H1=>aU H H1/\∃v,vs=[v]/\Rep X.K B H1 d v) I ⟨Z,B,δ,d,E,h1,fun v H1 s1 r1=>⟨s1,v,rfl,r1⟩⟩
 refine Call_ (pP I hg hm boot_enumerate (PyProof.Rows.callWith_type1 (eN hA fun us s1 ⟨vs,H1,I1,r1,ss,v,ev,rr⟩=>?_) hs rfl))
 subst ev;obtain⟨u,rfl,ru⟩:=vals1 r1;cases d with
 | lst es=>
   cases h2;obtain⟨b,xs,rfl,l,rs⟩:=Rep.lst.mp rr;cases ru;obtain⟨its,n,rv,e1,hz⟩:=I1.LU l;refine call_enumerate_list (items:=its.toArray) ⟨_,e1,rfl,n,rfl⟩ fun h' he hit DA kk=>wpAny_pyIter_enum he ?_
   have I2:Inv X pins σ H1 {s1 with heap:=h'}:=I1.kept (t':=s1.toks) kk
   refine⟨s1.heap.objs.size+1,[s1.heap.objs.size+1,s1.heap.objs.size],_,_,H1,rfl,I2,Ej b (s1.heap.objs.size+1) s1.heap.objs.size (Nat.succ_ne_self _),⟨⟨_,he⟩,hit⟩,fun c hc=>?_,q _ H1 ss fun B' H' pr=>?_⟩
   .have hle:s1.heap.objs.size<=c:=by
     rcases List.mem_cons.mp hc with z | hc
     .rw [z];exact Nat.le_succ _
     .have z:c=s1.heap.objs.size:=by simpa using hc
      rw[z];exact Nat.le_refl _
    exact I1.vR hle (I1.hok.fresh hle)
   .have l':vJ X.K B' H' b xs:=l.bj pr;have rs':=rs.bj pr;refine⟨fun i d hd=>?_,⟨xs,l'.sq,by rw[<-rs.length];unfold dR;simp⟩⟩
    unfold dR at hd;rw[List.getElem?_map,List.getElem?_zipIdx] at hd;cases e:es[i]? with
    | none=>rw [e] at hd;cases hd
    | some d0=>
      rw[e] at hd;have hd:D.tup [.int ((0+i:Nat):Int),d0]=d:=Option.some.inj hd;rw[Nat.zero_add] at hd;obtain⟨x,hx,rx⟩:=rs'.get e;refine⟨⟨xs,x,l'.sq,hx⟩,fun v oP y Kw=>?_⟩
      obtain⟨p,y,hp,rfl,hy,rfl⟩:=y;refine⟨bh hp,?_⟩;subst hd;have EO:=hy xs l'.sq;rw[hx] at EO;cases EO;refine Rep.tup.mpr ⟨p,_,rfl, .inl ⟨fun ha=>?_, .inl bq⟩,aI.cons (Rep.int.mpr rfl) (aI.cons (rx.same (bh hp)) aI.nil)⟩
      obtain⟨o,ho⟩:=Kw p ha;rw[hp] at ho;cases ho
 | _=>cases h2
end
end L2
end
section
namespace L2
open PySem PySem.Spec PyProof.Rows
def Def(K:W.Frag)(mg:X2)(x:Str)(st:Stmt):Prop:=∃f fd,CI K x x st f fd/\mg x=some (.ref f)
def Callee(P:Program)(w:World)(K:W.Frag)(mg:X2)(base:Heap)(k:Nat)(x:Str)(n:Nat)(g:List D->R D):Prop:=
 ∃f fd ps,jC P w K mg base vN k f fd ps (Gp K n g)/\mg x=some (.ref f)/\PySem.W.keepIn K (.ref f)=true/\Binds K fd ps []
theorem bw:∀(δ:aw) (ds:List D),aP δ= .ok ds->ds.length=0:=fun δ ds h=>by cases h;rfl
theorem aC{g:aw->R (List D)}{n:Nat}(h:∀(δ:aw) (ds:List D),g δ= .ok ds->ds.length=n):∀(δ:aw) (ds:List D),ak f g δ= .ok ds->ds.length=n+1:=fun δ ds e=>by
 obtain⟨d,h1,h2⟩:=R.ao e;obtain⟨es,h3,h4⟩:=R.ao h2;cases h4;rw[List.length_cons,h δ es h3]
theorem Hy{P:Program}{w:World}{K:W.Frag}{mg:X2}{base:Heap}{x qual:Str}{st:Stmt}{f:Addr}{fd:FuncData}{N ps:List Str}{k:Nat}{F:FS}{b:List Stmt}{sc:Scope}(hb:aK st=b)(hs:az st=sc)(Fn:CI K x qual st f fd)(S:aR N ps sc)
 (lY:∀(dD:Value) (A:Around) (outer:List Env) (s:Shared) (H:Hp) (E:XK),eS k (A.deeper (envOfC qual sc s.heap.objs.size f dD))->
   tw (uJ vN P w K mg base N qual sc f dD A outer s H E).JS b F):jC P w K mg base vN (k+1) f fd ps (Gp K ps.length (sV N F)):=by
 subst hb hs;exact JO Fn S lY
section
variable {X:Cx}
theorem Hw{g:List D->R D}{k j n:Nat}{x:Str}{p pos:Pos}{e:Expr}{es:List Expr}{fs:aw->R (List D)}(C:Callee X.prog X.w X.K X.mg X.base k x n g)(hr:eS j X.A)(HV:k<=j)(hg:Gl X x)(ha:Im X (e ::es) fs)
 (hn:∀δ ds,fs δ= .ok ds->ds.length=n) (qT:(x==("__debug__":Str))=false:=by decide) (he:starEach (e ::es) X.env=(false,eval e X.env) ::starEach es X.env:=by rfl) (oH:(backTo pos (starEach es X.env)).any (·.1)=false:=by rfl) :
 PD X (.Call (.Name x p) (e ::es) [] pos) (aQ g fs):=by
 obtain⟨f,fd,ps,F,hm,hk,hb⟩:=C;exact IY F (hr.mono HV) hg hm hk hb ha hn qT he oH
def Oa(sc:Scope)(N:List Str)(scope:Scope)(kp:List Nat)(kn:List Str):Bool:=
 decide (scope.kind= .function) && scope.names.all (fun y=>decide (y.2= .cell->scope.names.lookup y.1=some .cell)) && scope.names.all (fun y=>decide (y.2= .local->scope.names.lookup y.1=some .local))
  && scope.names.all (fun y=>decide (y.2= .free->(sc.names.lookup y.1=some .cell\/sc.names.lookup y.1=some .free))) && scope.names.all (fun y=>decide (y.2= .free->scope.names.lookup y.1=some .free)) && decide (kn.length=kp.length)
  && (List.range kp.length).all (fun j=>decide ((kp[j]?).bind (N[·]?)=kn[j]?)) && kn.all (fun x=>decide (scope.names.lookup x=some .free))
theorem bt.of{own:List Str}{kp:List Nat}{kn:List Str}{N:List Str}(h1:X.env.scope=sc)(h2:X.N=N)(h:Oa sc N scope kp kn=true):bt X scope own kp kn:=by
 unfold Oa at h;simp only[Bool.and_eq_true,decide_eq_true_eq,List.all_eq_true] at h;obtain⟨⟨⟨⟨⟨⟨⟨a1,a2⟩,a3⟩,a4⟩,a8⟩,a5⟩,a6⟩,a7⟩:=h;refine⟨a1,a2,a3,fun y hy hf=>?_,a8,a5,fun j i x hj hx=>?_,a7⟩
 .have:=a4 y hy hf;unfold Env.kindOf;rw[h1];exact this
 .have hlt:j < kp.length:=(List.getElem?_eq_some_iff.mp hj).1;have:=a6 j (List.mem_range.mpr hlt);rw[hj] at this;rw[h2];exact this.trans hx
def MG(ba:List (Key × V))(f g:FD):FD:=fun δ=>(f δ).bind fun k=>(g δ).bind fun d=>match k with
 | .str x=>(match nc (k0 [] ba) (Sum.inr x) with | some (.int i)=> .ok (.int i) | none=> .ok d | _=> .no)
 | _=> .no
theorem L7{keys:List (Option Expr)}{values:List Expr}{xp:List (TE × TE)}{yO apos cG:Pos}{e f:Expr}{fe ff:FD}{ba:List (Key × V)}(hu:X.A.units+1 < cLine)(h:LJ X yO keys values xp)(ET:keys.all (·.isSome)=true)(hl:keys.length=values.length)(h0:keys≠[])
 (hc:∀σ H Q,Q (ba.map fun kv=>(kV kv.1,kv.2)) H->qZ xp σ H Q) (hlen:ba.length<=15) (he:PD X e fe) (hf:PD X f ff) (m:M2 X (.Dict keys values yO) "get" apos e f cG)
 (hd:PE X (.Dict keys values yO) (Hc xp)):PD X (.Call (.Attribute (.Dict keys values yO) "get" apos) [e,f] [] cG) (MG ba fe ff):=by
 refine(G6 hu hd he hf m).imp fun σ H Q ⟨Z,B,δ,d,E,hfd,q⟩=>?_
 obtain⟨k,h1,h2⟩:=R.ao hfd;obtain⟨dd,h3,h4⟩:=R.ao h2;intro p hp;refine hc σ _ _ ⟨bq,ba,rfl,hlen,p,rfl, .inl ⟨_, .inl bq⟩,?_⟩;rw[Ji];have s0:aU H (upd H p (.dK (k0 [] ba))):=bh hp;refine⟨Z,B,δ,k,E.same s0,h1,fun v1 H1 s1 r1=>⟨Z,B,δ,dd,(E.same s0).same s1,h3,fun v2 H2 s2 r2=>?_⟩⟩
 have hH2:H2 p=some (.dK (k0 [] ba)):=s2 p _ (s1 p _ bq);have sA:aU H H2:=s0.trans (s1.trans s2);split at h4
 .rename_i x;refine⟨nc (k0 [] ba) (Sum.inr x),?_,?_⟩
  .rw [Rep.str.mp r1];exact wd.k (k:=Sum.inr x) hH2
  .split at h4
   .rename_i i e1;cases h4;rw[e1];exact q _ H2 sA (Rep.int.mpr rfl)
   .rename_i e1;cases h4;rw[e1];exact q _ H2 sA r2
   .cases h4
 .cases h4
theorem Be:RK X "list.extend" (fun x vs H Q=>∃l b xs zs,x= .ref l/\vs=[.ref b]/\H l=some (.lst xs)/\(∃B,vJ X.K B H b zs)/\xs.length+zs.length<=sizeLine/\Q .de (upd H l (.lst (xs++zs)))):=by
 intro pins s σ H x vs v us Q I rx rv h;obtain⟨l,b,xs,zs,rfl,rfl,hH,⟨_,hB⟩,hz,q⟩:=h;cases rx;obtain⟨u,rfl,ru⟩:=rv.one;cases ru;obtain⟨z,its,n,r,hl,e⟩:=I.Jb hH;obtain⟨rN,n2,r2,e2,z2⟩:=I.LU hB;have ER:=r2.length;have DA:its.toArray.size+rN.toArray.size<=sizeLine:=by rw[List.size_toArray,List.size_toArray];omega
 have hlong:¬(!its.toArray.isEmpty && Builtin.List.listTooLong (its.toArray.size+rN.toArray.size))=true:=by
  rw[zf DA,Bool.and_false];exact Bool.false_ne_true
 refine call_meets F.slot_list_extend ⟨_,e,rfl⟩ F.entry_list_extend (F.args_list_extend_2 _ _)
  (AutoSeq1.list_extend_list_list_0 l its.toArray n b rN.toArray n2 hlong (by rw[List.size_toArray];omega) (by omega)) ⟨e,e2,?_⟩
 refine⟨.de,_,I.L8 (its':=its++rN) hH e (by simp) (r.append r2) ?_,rfl,q⟩
 rw[List.length_append];omega
def TH(i:Nat)(f:FD):FS:=fun δ=>(f δ).bind fun d=>match d with
 | .lst es=>(uF δ i).bind fun ds=>R.bJ (decide (ds.length+es.length<=sizeLine)) (.ok (.nx (δ.set i (.bld (ds++es)))))
 | _=> .no
end
end L2
end
section
namespace L2
open PySem PySem.Spec PyProof.Rows
structure QD (X:Cx) (e:Expr) (f:FD):Prop where
 h:PD X e f
structure QN (X:Cx) (e:Expr) (f:aw->R (List D)):Prop where
 h:PN X e f
structure QB (X:Cx) (e:Expr) (f:aw->R Bool):Prop where
 h:PB X e f
structure P_ (X:Cx) (e:Expr) (f:aw->R Bool):Prop where
 h:LK X e f
structure K1 (X:Cx) (e:List Expr) (f:aw->R (List D)):Prop where
 h:Im X e f
structure GR (X:Cx) (e:Stmt) (f:FS):Prop where
 h:Hh X e f
structure vX (X:Cx) (e:List Stmt) (f:FS):Prop where
 h:tw X e f
structure KS (X:Cx) (e:Expr) (f:FT):Prop where
 h:Lu X e f
structure Jg (X:Cx) (e:List Expr) (f:Fw):Prop where
 h:Ff X e f
structure Ax (X:Cx) (tg e:Expr) (f:aw->R (List D)):Prop where
 h:Ln X tg e f
structure QP (X:Cx) (e:Option Expr) (f:FO):Prop where
 h:PP X e f
structure QJ (X:Cx) (e:List Expr) (f:aw->R (List Str)):Prop where
 h:PJ X e f
structure DV (X:Cx) (e:List Expr) (c:aw->R Bool):Prop where
 h:qa X e (K5 X.K c)
section
variable {X:Cx}
theorem cT{f:aw->R (List D)}(h:QN X e f):QD X e (eNew f):=⟨MC h.1⟩
theorem GP(h:QD X e f):QD X e (zd f):=⟨JX h.1⟩
theorem aa(i:Nat){pos:Pos}(hN:X.N[i]? =some x:=by rfl)(hv:F9 X.env.scope x:=by first | exact Or.inl rfl | exact Or.inr (Or.inl rfl) | exact Or.inr (Or.inr rfl))(hd:(x==("__debug__":Str))=false:=by decide)(r6:(x==("__classdict__":Str))=false:=by decide):QD X (.Name x pos) (ai i):=⟨Ng i hN hv hd r6⟩
theorem ae{i j pos}:QD X (.Constant (.int i) j pos) (eC (.int i)):=⟨MO⟩
theorem gd{b j pos}:QD X (.Constant (.bool b) j pos) (eC (.bl b)):=⟨OJ⟩
theorem J4{j pos}:QD X (.Constant .none j pos) (eC .de):=⟨Lp⟩
theorem bf{x j pos}:QD X (.Constant (.str x) j pos) (eC (.str x)):=⟨Nd⟩
theorem Hn{d:D}{pos:Pos}(g:Glob X.K X.mg x d)(hg:Gl X x)(hd:(x==("__debug__":Str))=false:=by decide):QD X (.Name x pos) (eC d):=⟨Jz g hg hd⟩
theorem aj:K1 X [] aP:=⟨IC⟩
theorem ab{g:aw->R (List D)}(h:QD X e f)(t:K1 X es g)(hs:starEach (e ::es) X.env=(false,eval e X.env) ::starEach es X.env:=by rfl):K1 X (e ::es) (ak f g):=⟨Hd h.1 t.1 hs⟩
theorem bx{g:aw->R (List D)}{x1 pos}(h:K1 X es g):QD X (.Tuple es x1 pos) (dP g):=⟨MN h.1⟩
theorem du{g:aw->R (List D)}{pos}(h:K1 X es g):QN X (.List es pos) (jI g):=⟨Mw h.1⟩
theorem aF{op:Operator}{g:D->D->R D}(ho:mh X (binaryOp op) g)(ha:QD X a fa)(hb:QD X b fb):QD X (.BinOp a op b pos) (e2 g fa fb):=⟨Pd ho ha.1 hb.1⟩
theorem xW{op:CmpOp}{g:D->D->R D}(ho:mh X (compareOp op) g)(ha:QD X a fa)(hb:QD X b fb)(hm:behindInMarks op b=false):QD X (.Compare a [op] [b] pos) (e2 g fa fb):=⟨Mn ho ha.1 hb.1 hm⟩
theorem cS{op:CmpOp}{g:D->D->R D}(ho:mh X (compareOp op) g)(ha:QD X a fa)(hb:QD X b fb)(hm:behindInMarks op b=false):QB X (.Compare a [op] [b] pos) (b2 g fa fb):=⟨Lv ho ha.1 hb.1 hm⟩
theorem t4{a:Expr}(ha:QD X a f)(he:∀whole,isTrue a X.env whole=(do let v <-whole;standAt a.pos;holding [v] (truthy v)):=by intro _;rfl):QB X a (xV f):=⟨Nb ha.1 he⟩
theorem JE{f:aw->R Bool}(h:P_ X e f):QB X e f:=⟨LK.pb h.1⟩
theorem E5{f:aw->R Bool}(h:QB X a f):P_ X (.BoolOp .Or [a] pos) f:=⟨JQ h.1⟩
theorem JK{rest:List Expr}{f g:aw->R Bool}(ha:QB X a f)(hb:P_ X (.BoolOp .Or (b ::rest) pos) g):P_ X (.BoolOp .Or (a ::b ::rest) pos) (P7 f g):=⟨MJ ha.1 hb.1⟩
theorem Du{f:aw->R Bool}(ha:QB X a f):QB X (.UnaryOp .Not a pos) (Bw f):=⟨L5 ha.1⟩
theorem JL{op}(h:QD X a f):QD X (.BoolOp op [a] pos) f:=⟨M0 h.1⟩
theorem IF{rest:List Expr}(ha:QD X a f)(hb:QD X (.BoolOp .And (b ::rest) pos) g):QD X (.BoolOp .And (a ::b ::rest) pos) (GN f g):=⟨LG ha.1 hb.1⟩
theorem A9{fc:aw->R Bool}(hc:QB X c fc)(ha:QD X a f)(hb:QD X b g):QD X (.IfExp c a b pos) (LH fc f g):=⟨OP hc.1 ha.1 hb.1⟩
theorem a_{g:List D->R D}{id:String}{p pos:Pos}{fs:aw->R (List D)}(hc:gn X (.builtin id) g)(hg:Gl X x)(hm:X.mg x=none)(hv:bootBuiltins x=some (.builtin id))(ha:K1 X (e ::es) fs)(hn:x≠"__name__":=by decide)(qT:(x==("__debug__":Str))=false:=by decide)(he:starEach (e ::es) X.env=(false,eval e X.env) ::starEach es X.env:=by rfl)(oH:(backTo pos (starEach es X.env)).any (·.1)=false:=by rfl):QD X (.Call (.Name x p) (e ::es) [] pos) (aQ g fs):=⟨Hr hc hg hm hv ha.1 hn qT he oH⟩
theorem km{g:List D->R D}{T:String}{p pos:Pos}{fs:aw->R (List D)}(hc:gn X (.type T) g)(hg:Gl X x)(hm:X.mg x=none)(hv:bootBuiltins x=some (.type T))(ha:K1 X (e ::es) fs)(hn:x≠"__name__":=by decide)(qT:(x==("__debug__":Str))=false:=by decide)(he:starEach (e ::es) X.env=(false,eval e X.env) ::starEach es X.env:=by rfl)(oH:(backTo pos (starEach es X.env)).any (·.1)=false:=by rfl):QD X (.Call (.Name x p) (e ::es) [] pos) (aQ g fs):=⟨Er hc hg hm hv ha.1 hn qT he oH⟩
theorem fK:vX X [] tf:=⟨I_⟩
theorem bH{st:Stmt}{rest:List Stmt}{F G:FS}(h1:GR X st F)(h2:vX X rest G):vX X (st ::rest) (gW F G):=⟨Gv h1.1 h2.1⟩
theorem br{st:Stmt}{F:FS}(h1:GR X st F):vX X [st] F:=⟨Kb h1.1⟩
theorem lX{i:Nat}{pos pos':Pos}(hN:X.N.Nodup)(hi:X.N[i]? =some x)(hx:Loc X.env.scope x)(he:QD X e f)(hs:swapsWith e (some (.Name x pos')) pos.line X.env=pure false:=by rfl)(hf:X.fn x=true\/X.env.scope.names.lookup x=some .local:=by first | exact .inl rfl | exact .inr rfl | assumption):GR X (.Assign [.Name x pos'] e pos) (pO i f):=⟨Ju hN hi hx he.1 hs hf⟩
theorem zA{i:Nat}{f:aw->R (List D)}{pos pos':Pos}(hN:X.N.Nodup)(hi:X.N[i]? =some x)(hx:Loc X.env.scope x)(he:QN X e f)(hs:swapsWith e (some (.Name x pos')) pos.line X.env=pure false:=by rfl)(hf:X.fn x=true\/X.env.scope.names.lookup x=some .local:=by first | exact .inl rfl | exact .inr rfl | assumption):GR X (.Assign [.Name x pos'] e pos) (Bo i f):=⟨Kh hN hi hx he.1 hs hf⟩
theorem zu{i:Nat}{x:Str}{e:Expr}{f:FD}{e_ apos cG pos:Pos}(hN:X.N[i]? =some x)(hv:F9 X.env.scope x)(he:QD X e f)(hd:(x==("__debug__":Str))=false:=by decide)(r6:(x==("__classdict__":Str))=false:=by decide)(hs:starEach [e] X.env=(false,eval e X.env) ::starEach [] X.env:=by rfl)(l0:(apos.endLine==cG.line)=true:=by rfl)(rO:((backTo cG (starEach [e] X.env)).all (fun x=>!x.1) && (backToKw cG (keywordEach [] X.env)).all (fun x=>x.1.isSome)
 && decide (([e]:List Expr).length+([]:List Keyword).length+(if([]:List Keyword).isEmpty then 0 else 1) < 30))=true:=by rfl) (tH:swapsWith (.Call (.Attribute (.Name x e_) "append" apos) [e] [] cG) none pos.line X.env=pure false:=by rfl) (l3:attributeBase (.Name x e_) "append" X.env (eval (.Name x e_) X.env)=eval (.Name x e_) X.env:=by rfl):GR X (.Expr (.Call (.Attribute (.Name x e_) "append" apos) [e] [] cG) pos) (DQ i f):=⟨IJ hN hv he.1 hd r6 hs l0 rO tH l3⟩
theorem Fy{i:Nat}{x:Str}{e:Expr}{f:aw->R (List D)}{e_ apos cG pos:Pos}(hN:X.N[i]? =some x)(hv:F9 X.env.scope x)(he:QN X e f)(hd:(x==("__debug__":Str))=false:=by decide)(r6:(x==("__classdict__":Str))=false:=by decide)(hs:starEach [e] X.env=(false,eval e X.env) ::starEach [] X.env:=by rfl)(l0:(apos.endLine==cG.line)=true:=by rfl)(rO:((backTo cG (starEach [e] X.env)).all (fun x=>!x.1) && (backToKw cG (keywordEach [] X.env)).all (fun x=>x.1.isSome)
 && decide (([e]:List Expr).length+([]:List Keyword).length+(if([]:List Keyword).isEmpty then 0 else 1) < 30))=true:=by rfl) (tH:swapsWith (.Call (.Attribute (.Name x e_) "extend" apos) [e] [] cG) none pos.line X.env=pure false:=by rfl) (l3:attributeBase (.Name x e_) "extend" X.env (eval (.Name x e_) X.env)=eval (.Name x e_) X.env:=by rfl):GR X (.Expr (.Call (.Attribute (.Name x e_) "extend" apos) [e] [] cG) pos) (J9 i f):=⟨Jk hN hv he.1 hd r6 hs l0 rO tH l3⟩
theorem Ag(i:Nat){F:FS}(h:vX X Lj F):vX X Lj (Hx i F):=⟨J2 i h.1⟩
theorem bZ(he:QD X e f):GR X (.Return (some e) pos) (il f):=⟨J1 he.1⟩
theorem i3{fc:aw->R Bool}{F G:FS}(hc:QB X c fc)(ha:vX X a F)(hb:vX X b G):GR X (.If c a b pos) (AE fc F G):=⟨L6 hc.1 ha.1 hb.1⟩
theorem aS{i:Nat}{pos:Pos}(hN:X.N.Nodup)(hi:X.N[i]? =some x)(hx:Loc X.env.scope x)(hf:X.fn x=true\/X.env.scope.names.lookup x=some .local:=by first | exact .inl rfl | exact .inr rfl | assumption):KS X (.Name x pos) (aO i):=⟨He hN hi hx hf⟩
theorem gg:Jg X [] ig:=⟨FU⟩
theorem cn{u:Fw}(h1:KS X e t)(h2:Jg X es u)(hs:(assignEach (e ::es) X.env).map (·.2)=assign e X.env ::(assignEach es X.env).map (·.2):=by rfl):Jg X (e ::es) (cj t u):=⟨DI h1.1 h2.1 hs⟩
theorem je{k:Nat}{t:Fw}{n:Nat}{pos:Pos}(hc:X.calm=true)(h:Jg X es t)(hn:(assignEach es X.env).length=n:=by rfl)(Ig:(assignEach es X.env).findIdx? (·.1)=none:=by rfl):KS X (.Tuple es k pos) (ic n t):=⟨IA hc h.1 hn Ig⟩
theorem cm(h:QD X e f):Ax X tg e (dy f):=⟨JD h.1⟩
theorem cF{tg a:Expr}{p pos:Pos}(h:QD X a f)(hg:Gl X "range")(hm:X.mg "range"=none)(hs:starEach [a] X.env=[(false,eval a X.env)]:=by rfl):Ax X tg (.Call (.Name "range" p) [a] [] pos) (dU f):=⟨AZ h.1 hg hm hs⟩
theorem nL{it:aw->R (List D)}{F:FS}{pos:Pos}(hp:PassesOwn (model X.prog X.w) X.A X.env X.xe)(hc:X.calm=true)(hi:Ax X tg iter it)(hg:KS X tg t)(hb:vX X body F)(hs:∀x,foldedSetIterable iter X.env x=pure x:=by intro _;rfl):GR X (.For tg iter body [] pos) (xF it t F):=⟨Jv hp hc hi.1 hg.1 hb.1 hs⟩
theorem cU{own:List Str}{kp:List Nat}{kn:List Str}{it:aw->R (List D)}{c:aw->R Bool}{pos:Pos}(hc:X.calm=true)(C:bt X scope own kp kn)(hi:Ax X tg iter it)(hg:∀fp s H,KS (bo X scope (own++kn) fp s H) tg t)(yQ:∀fp s H,DV (bo X scope (own++kn) fp s H) ifs c)(he:∀fp s H,QD (bo X scope (own++kn) fp s H) elt f)(hs:∀x,foldedSetIterable iter X.env x=pure x:=by intro _;rfl):QN X (.ListComp elt [⟨tg,iter,ifs,0⟩] scope pos) (cZ it t c f own kp):=⟨JV hc C hi.1 (fun fp s H=>(hg fp s H).1) (fun fp s H=>(yQ fp s H).1) (fun fp s H=>(he fp s H).1) hs⟩
theorem cb:DV X [] fw:=⟨Fi⟩
theorem vq{c:aw->R Bool}(h:QB X e c):DV X [e] c:=⟨Jh h.1⟩
theorem qm{i:Nat}{pos' jN:Pos}{own:List Str}{kp:List Nat}{kn:List Str}{it:aw->R (List D)}{c:aw->R Bool}(hc:X.calm=true)(hN:X.N.Nodup)(hx:X.N[i]? =some x)(EV:X.env.scope.names.lookup x=some .local)(C:bt X scope own kp kn)(hi:Ax X tg iter it)(hg:∀fp s H,KS (bo X scope (own++kn) fp s H) tg t)(yQ:∀fp s H,DV (bo X scope (own++kn) fp s H) ifs c)(he:∀fp s H,QD (bo X scope (own++kn) fp s H) elt f)(tH:swapsWith (.ListComp elt [⟨tg,iter,ifs,0⟩] scope pos) (some (.Name x pos')) jN.line X.env=pure true:=by rfl)(hs:∀x,foldedSetIterable iter X.env x=pure x:=by intro _;rfl):GR X (.Assign [.Name x pos'] (.ListComp elt [⟨tg,iter,ifs,0⟩] scope pos) jN) (pO i (eNew (cZ it t c f own kp))):=⟨zZ hc hN hx EV C hi.1 (fun fp s H=>(hg fp s H).1) (fun fp s H=>(yQ fp s H).1) (fun fp s H=>(he fp s H).1) tH hs⟩
theorem aD(ha:QD X a fa)(hb:QD X b fb)(hs:tL b):QD X (.Subscript a b pos) (e2 cy fa fb):=⟨OT ha.1 hb.1 hs⟩
theorem qj:QP X none wu:=⟨Jx⟩
theorem qR(h:QD X e f):QP X (some e) (sr f):=⟨IU h.1⟩
theorem yf{lo hi:Option Expr}{fl fh:FO}(he:QD X e f)(hl:QP X lo fl)(hh:QP X hi fh):QD X (.Subscript e (.Slice lo hi none p2) pos) (KQ f fl fh):=⟨OK he.1 hl.1 hh.1⟩
theorem qX{elts:List Expr}{k:Nat}{vD:Pos}{p pos:Pos}(h:QD X a f)(hg:Gl X "enumerate")(hm:X.mg "enumerate"=none)(hs:starEach [a] X.env=[(false,eval a X.env)]:=by rfl):Ax X (.Tuple elts k vD) (.Call (.Name "enumerate" p) [a] [] pos) (k8 f):=⟨Aj h.1 hg hm hs⟩
theorem cQ{P:Program}{w:World}{K:W.Frag}{mg:X2}{base:Heap}{x qual:Str}{st:Stmt}{f:Addr}{fd:FuncData}{N ps:List Str}{k:Nat}{F:FS}{b:List Stmt}{sc:Scope}(hb:aK st=b)(hs:az st=sc)(Fn:CI K x qual st f fd)(S:aR N ps sc)(lY:∀(dD:Value) (A:Around) (outer:List Env) (s:Shared) (H:Hp) (E:XK),eS k (A.deeper (envOfC qual sc s.heap.objs.size f dD))->
 vX (uJ vN P w K mg base N qual sc f dD A outer s H E).JS b F):jC P w K mg base vN (k+1) f fd ps (Gp K ps.length (sV N F)):=Hy hb hs Fn S (fun dD A outer s H E hr=>(lY dD A outer s H E hr).1)
theorem aX{g:List D->R D}{k j n:Nat}{p pos:Pos}{fs:aw->R (List D)}(C:Callee X.prog X.w X.K X.mg X.base k x n g)(hr:eS j X.A)(HV:k<=j)(hg:Gl X x)(ha:K1 X (e ::es) fs)(hn:∀δ ds,fs δ= .ok ds->ds.length=n)(qT:(x==("__debug__":Str))=false:=by decide)(he:starEach (e ::es) X.env=(false,eval e X.env) ::starEach es X.env:=by rfl)(oH:(backTo pos (starEach es X.env)).any (·.1)=false:=by rfl):QD X (.Call (.Name x p) (e ::es) [] pos) (aQ g fs):=⟨Hw C hr HV hg ha.1 hn qT he oH⟩
theorem JC{keys:List (Option Expr)}{values:List Expr}{xp:List (TE × TE)}{ba:List (Key × V)}(hu:X.A.units+1 < cLine)(h:LJ X yO keys values xp)(ET:keys.all (·.isSome)=true)(hl:keys.length=values.length)(h0:keys≠[])(hc:∀σ H Q,Q (ba.map fun kv=>(kV kv.1,kv.2)) H->qZ xp σ H Q)(hlen:ba.length<=15)(he:QD X e fe)(hf:QD X f ff)(m:M2 X (.Dict keys values yO) "get" apos e f cG)(hd:PE X (.Dict keys values yO) (Hc xp)):QD X (.Call (.Attribute (.Dict keys values yO) "get" apos) [e,f] [] cG) (MG ba fe ff):=⟨L7 hu h ET hl h0 hc hlen he.1 hf.1 m hd⟩
end
end L2
end
section
namespace L2
open PySem PySem.Spec PyProof.Rows
theorem Ei{P:Program}{w:World}{K:W.Frag}{mg mb:X2}{CX:Gz}{k:Nat}{fa a:Addr}{fd:FuncData}{x:Str}{sp:Sp}{s₁:Shared}{vs:List Value}{ns:List Int}
 (KX:K.In s₁.heap) (Uc:s₁.heap.Ns mainGlobals mg) (hb:s₁.heap.Ns builtinsNs mb) (Ws:∀x:Str,x≠"__name__"->mb x=bootBuiltins x) (Sh:s₁.heap.NoLimit) (hg:s₁.gens=#[])
 (ha:s₁.heap.get? a=some {cls:= .type "list",data:= .seq vs.toArray}) (hi:IntsAre vs ns) (hl:ns.length<=sizeLine) (hr:eS k callerA)
 (F:∀base:Heap,K.In base->base.Ns mainGlobals mg->jC P w K mg base CX k fa fd [x] sp) (Pz:∀(s:Shared) (u:Value),BindsTo s fd ⟨[u],[]⟩ [(x,u)])
 (NP:∀H:Hp,OY H->vJ K [] H a (ns.map V.int)->sp [.ref a] H (fun v _=>v= .bl true) fun _ _ _=>False)
 (VX:∀H e s',CX [] H s₁ (fun _ _ _=>False) e s'->False) :
 codeAny (model P w) callerA (.call (.ref fa) ⟨[.ref a],[]⟩) (fun r s'=>r= .ok (.ret (.bool true))/\OldK s₁.heap s'.heap/\s'.os=s₁.os/\AllBare s'.gens) s₁:=by
 have rv:=wD hi;have lenV:=hi.length;have core:∀H:Hp,OY H->vJ K [] H a (ns.map V.int)->oV P w H s₁.heap->(∀b,H b≠none->b=a)->(H a≠none->K.lookup a=none)->
  codeAny (model P w) callerA (.call (.ref fa) ⟨[.ref a],[]⟩) (fun r s'=>r= .ok (.ret (.bool true))/\OldK s₁.heap s'.heap/\s'.os=s₁.os/\AllBare s'.gens) s₁:=by
  intro H hO hS hok hA hK;have Dy:∀{b:Addr} {o:Obj},s₁.heap.get? b=some o->H b=none->(xH s₁.heap H).get? b=some o:=fun e n=>FK e n
  have noA:∀{b:Addr} {o:Obj} {es:Array DictEntry} {ep:Nat},s₁.heap.get? b=some o->o.data= .dict es ep->H b=none:=fun {b o es ep} e d=>by
   cases q:H b with
   | none=>rfl
   | some u=>
     have e':b=a:=hA b (by rw[q];simp)
     subst e';rw[ha] at e;cases e;have d':Data.seq vs.toArray _=Data.dict es ep:=d;cases d'
  have nsK:∀{b:Addr} {m:X2},s₁.heap.Ns b m->(xH s₁.heap H).Ns b m:=fun {b m} ⟨o,es,ep,e,d,r⟩=>⟨o,es,ep,Dy e (noA e d),d,r⟩
  have hKb:K.In (xH s₁.heap H):=fun b o e=>Dy (KX b o e) (by
   cases q:H b with
   | none=>rfl
   | some u=>
     have e':b=a:=hA b (by rw[q];simp)
     subst e';rw[hK (by rw[q];simp)] at e;cases e)
  have hM:Mod K mg (xH s₁.heap H):=⟨hKb,nsK Uc,⟨mb,nsK hb,Ws⟩,let⟨mc,h1,h2⟩:=Sh;⟨mc,nsK h1,h2⟩⟩
  have e0:BR P w K mg (xH s₁.heap H) callerA [] s₁ H:=⟨rfl,hM,fun b o e=>Ko e,Nat.le_of_eq (DO _ _),trivial,fun b hb=>absurd (show b∈([]:List Addr) from hb) (by simp),hok, .of_eq hg⟩
  refine codeAny_mono ((F _ hKb (nsK Uc)).run callerA [] s₁ H ⟨[.ref a],[]⟩ [.ref a] [.ref a] _ _ hr e0 (Pz s₁ (.ref a)) (.cons rfl .nil) (NP H hO hS)) fun r s' h=>?_
  cases r with
  | error e=>exact(VX H e s' h).elim
  | ok fl=>
    cases fl with
    | next=>exact False.elim h
    | brk=>exact False.elim h
    | cont=>exact False.elim h
    | ret u=>
      obtain⟨v,H',os,bare,un,RV,r',q⟩:=h;have q':v= .bl true:=q;subst q';obtain rfl:u=Value.bool true:=r';refine⟨rfl,OldK.of_keep fun b o e=>?_,os,bare⟩
      cases q:H b with
      | none=>exact un.keep b o e q (by intro z;exact absurd (show b∈([]:List Addr) from z) (by simp)) (by simp)
      | some u=>
        rcases hO b with z | ⟨ob,xs,z⟩
        .rw [q] at z;cases z
        .have z2:=un.frzs b ob _ z;obtain⟨e1,_⟩:=hok b _ z;obtain⟨e2,_⟩:=RV b _ z2;rw[e] at e1;cases e1;exact e2
 cases hk:K.lookup a with
 | some o=>
   have e:=KX a o hk;rw[ha] at e;cases e;refine core (fun _=>none) (fun _=> .inl rfl) (.inr ⟨vs,_,hk,by rw[List.length_map];exact hl,rv⟩) (fun b u z=>by have z':(none:Option HO)=some u:=z;cases z') (fun b z=>absurd rfl z) fun z=>absurd rfl z
 | none=>
   refine core (fun b=>if b=a then some (.mf {cls:= .type "list",data:= .seq vs.toArray} (.lst (ns.map V.int))) else none) (fun b=>?_) (.inl ⟨by simp, .inr ⟨{cls:= .type "list",data:= .seq vs.toArray},if_pos rfl⟩⟩) (fun b u z=>?_) (fun b z=>?_) fun _=>hk
   .by_cases hb:b=a
    .exact .inr ⟨_,_,if_pos hb⟩
    .exact .inl (if_neg hb)
   .by_cases hb:b=a
    .have z':=(if_pos hb).symm.trans z;cases z';subst hb;exact⟨ha,by rw[List.length_map];exact hl,vs,_,rv,ha⟩
    .have z':=(if_neg hb).symm.trans z;cases z'
   .by_cases hb:b=a
    .exact hb
    .exact absurd (if_neg hb) z
theorem ints_rep{K:W.Frag}{B:List Addr}:∀ns:List Int,aI K B H (ns.map D.int) (ns.map V.int)
 | []=>aI.nil
 | n ::ns=>aI.cons (Rep.int.mpr rfl) (ints_rep ns)
theorem O1{l:PySem.W.OpenLaw}{n k:Nat}{q:Program}{loose:List Str}{XP:(Str->Option Value)->Heap->Prop}{YP:World->Heap->Prop}{d:DefRec}{K:Params->W.Frag}{x:Str}{g:List D->R D}
 (hn:l.most=some n) (Ky:n<=sizeLine) (RW:d.params.defaults=[]) (hr:eS k callerA) (hY:∀(w:World) (h:Heap),YP w h->(K w.params).In h)
 (F:∀(w:World) (mg:X2) (fa:Addr) (h:Heap),(K w.params).In h->h.Ns mainGlobals mg->mg d.name=some (.ref fa)->
   ∃fd:FuncData,(∀(s:Shared) (u:Value),BindsTo s fd ⟨[u],[]⟩ [(x,u)])/\∀base:Heap,(K w.params).In base->base.Ns mainGlobals mg->jC l.prog w (K w.params) mg base vN k fa fd [x] (Gp (K w.params) 1 g))
 (hg:∀ns:List Int,ns.length<=n->g [.lst (ns.map D.int)]= .ok (.bl true)):PySem.W.WalkO q loose XP YP l.row.toRowW d [] (fun f vs=>PySem.call f vs):=by
 refine Att.zD hn RW fun w s₀ s₁ mg mb fa o pm cd doc a vs ns G Y ho hd r6 Pw Nl hints hlen Sy=>?_
 have KX:=hY w _ Y;obtain⟨fd,hb,hF⟩:=F w mg fa _ KX G.T.g Pw;refine Ei KX G.T.g G.T.b G.T.builtins G.T.nolimit Sy Nl hints (Nat.le_trans hlen Ky) hr hF hb (fun H hO hS=>?_) fun H e s' h=>h
 refine⟨rfl,[],[.lst (ns.map D.int)], .bl true,fun b hb=>(by cases hb),aI.cons (Rep.lst.mpr ⟨_,_,rfl,hS,ints_rep ns⟩) aI.nil,hg ns hlen,fun z H' _ r=>Rep.bl.mp r⟩
theorem bX{K:W.Frag}{h:Heap}{mg:X2}{x:Str}{st:Stmt}{f:Addr}{oc:Value}{od an:Option Addr}{Iv:Array (Option Value)}{kV doc pm dD ct:Value}(X:K.In h)(G:h.Ns mainGlobals mg)(a:PySem.W.nsIn K mainGlobals x=some (some (.ref f)))
 (l:K.lookup f=some ⟨oc,od, .func (PySem.W.fnOf x x (fX st) (aK st) (az st) .none kV doc pm an dD ct),Iv⟩) (c:PySem.W.codeIn K dD x=true) (k:PySem.W.keepIn K (.ref f)=true):Def K mg x st:=
 ⟨f,_,n4 l c k,PySem.W.mg_of X G a⟩
theorem E8{K:W.Frag}{h:Heap}{mg:X2}(X:K.In h)(G:h.Ns mainGlobals mg){i:Int}{t:Tok}(a:PySem.W.nsIn K mainGlobals x=some (some (.int i t))):Glob K mg x (.int i):=
 ⟨_, .int i,PySem.W.mg_of X G a,⟨t,rfl⟩,fun _ _=>Rep.int.mpr rfl⟩
end L2
end
section
namespace L2
open PySem PySem.Spec PyProof.Rows
theorem uc{t:FT}{body:FS}:∀(ds:List D) (n:Nat) (P:Nat->aw->Prop) {δ:aw},P n δ->
 (∀i d δ,ds[i]? =some d->P (n+i) δ->∃eL,((t d δ).bind body)= .ok (.nx eL)/\P (n+i+1) eL)->∃eL,se t body ds δ= .ok (.nx eL)/\P (n+ds.length) eL
 | [],n,P,δ,h0,_=>⟨δ,rfl,h0⟩
 | d ::ds,n,P,δ,h0,hs=>by
   obtain⟨dv,e1,p1⟩:=hs 0 d δ rfl h0;obtain⟨eM,e2,p2⟩:=uc ds (n+1) P p1 (fun i d' eL hi hp=>by
    have:=hs (i+1) d' eL (by simpa using hi) (by rw[show n+(i+1)=n+1+i by omega];exact hp)
    rw[show n+(i+1)+1=n+1+i+1 by omega] at this
    exact this)
   refine⟨eM,?_,by rw[List.length_cons,show n+(ds.length+1)=n+1+ds.length by omega];exact p2⟩
   obtain⟨XD,h1,h2⟩:=R.ao e1;show(t d δ).bind (fun dv=>(body dv).bind fun o=>match o with | .nx eM=>se t body ds eM | .rt r=> .ok (.rt r))=_
   rw[h1,R.aT,h2,R.aT];exact e2
theorem lH{t:FT}{body:FS}{ds:List D}(P:Nat->aw->Prop){δ:aw}(h0:P 0 δ)
 (hs:∀i d δ,ds[i]? =some d->P i δ->∃eL,((t d δ).bind body)= .ok (.nx eL)/\P (i+1) eL):∃eL,se t body ds δ= .ok (.nx eL)/\P ds.length eL:=by
 have:=uc (t:=t) (body:=body) ds 0 P h0 (fun i d δ hi hp=>by simpa using hs i d δ hi (by simpa using hp))
 simpa using this
theorem wR{t:FT}{c:aw->R Bool}{f:FD}{δ:aw}(g:D->D):∀{ds:List D},(∀d∈ds,∃dv,t d δ= .ok dv/\c dv= .ok true/\f dv= .ok (g d))->nS t c f δ ds= .ok (ds.map g)
 | [],_=>rfl
 | d ::ds,h=>by
   obtain⟨dv,h1,h2,h3⟩:=h d List.mem_cons_self;have ih:=wR (t:=t) (c:=c) (f:=f) (δ:=δ) g (fun d' hd=>h d' (List.mem_cons_of_mem _ hd))
   unfold nS;rw[h1,R.aT,h2,R.aT,if_pos rfl,h3,R.aT,ih];rfl
theorem rF{α:Type}{xs:List α}{i:Int}(h0:0<=i)(h:i.toNat < xs.length):tU xs i=some xs[i.toNat]:=by
 unfold tU Cq;rw[if_pos h0,if_pos (by omega)]
 simp [h]
theorem ints_map:∀ss:List Int,ints? (ss.map D.int)=some ss
 | []=>rfl
 | s ::ss=>by show(ints? (ss.map D.int)).map (s ::·)=_;rw [ints_map ss];rfl
theorem bK{F G:FS}{δ dv:aw}{r:R Out}(h:F δ= .ok (.nx dv))(h2:G dv=r):gW F G δ=r:=by unfold gW;rw [h,R.aT];exact h2
theorem dt{f:aw->R (List D)}{δ:aw}{ds:List D}(h:f δ= .ok ds):eNew f δ= .ok (.lst ds):=by unfold eNew;rw [h];rfl
theorem si{c:aw->R Bool}{F G:FS}{δ:aw}{r:R Out}(h:c δ= .ok true)(h2:F δ=r):AE c F G δ=r:=by unfold AE;rw [h,R.aT,if_pos rfl];exact h2
theorem ia{c:aw->R Bool}{F G:FS}{δ:aw}{r:R Out}(h:c δ= .ok false)(h2:G δ=r):AE c F G δ=r:=by unfold AE;rw [h,R.aT,if_neg (by decide)];exact h2
theorem qM{it:aw->R (List D)}{F:FS}{δ:aw}{ds:List D}{r:R Out}(h:it δ= .ok ds)(h2:se t F ds δ=r):xF it t F δ=r:=by unfold xF;rw [h,R.aT];exact h2
theorem cN{f:FD}{δ:aw}{d:D}(h:f δ= .ok d):il f δ= .ok (.rt d):=by unfold il;rw [h];rfl
theorem di{N:List Str}{F:FS}{ds:List D}{d:D}(h:F (dz N ds)= .ok (.rt d)):sV N F ds= .ok d:=by unfold sV;rw [h];rfl
theorem cw{α:Type}{p:Prop} [Decidable p](r:R α)(h:p):R.bJ (decide p) r=r:=by rw[decide_eq_true h];rfl
theorem jM{i:Nat}{f:FD}{δ:aw}{d:D}(h:f δ= .ok d)(hi:i < δ.length):pO i f δ= .ok (.nx (δ.set i (.val d))):=by unfold pO;rw [h,R.aT,cw _ hi]
theorem CM{i:Nat}{f:aw->R (List D)}{δ:aw}{ds:List D}(h:f δ= .ok ds)(hi:i < δ.length):Bo i f δ= .ok (.nx (δ.set i (.bld ds))):=by unfold Bo;rw [h,R.aT,cw _ hi]
theorem CV{i:Nat}{f:FD}{δ:aw}{d:D}{ds:List D}(h:f δ= .ok d)(hb:δ[i]? =some (.bld ds))(hl:ds.length < sizeLine):DQ i f δ= .ok (.nx (δ.set i (.bld (ds++[d])))):=by unfold DQ uF;rw [h,R.aT,hb];show R.bJ _ _=_;rw [cw _ hl]
theorem ck{it:aw->R (List D)}{c:aw->R Bool}{own:List Str}{kp:List Nat}{δ:aw}{ds ys:List D}(h1:it δ= .ok ds)(h2:ds.length<=sizeLine)(h3:nS t c f (oO own kp δ) ds= .ok ys):cZ it t c f own kp δ= .ok ys:=by unfold cZ;rw [h1,R.aT,cw _ h2,h3]
theorem BJ{ds:List D}{i:Int}{d:D}(h:tU ds i=some d):cy (.lst ds) (.int i)= .ok d:=by unfold cy;simp only[h]
theorem uA{ds:List D}{i:Int}{d:D}(h:tU ds i=some d):cy (.tup ds) (.int i)= .ok d:=by unfold cy;simp only[h]
end L2
end
section
namespace L2
open PySem PySem.Spec PyProof.Rows
theorem ay{g:D->D->R D}{fa fb:FD}{δ:aw}{a b:D}{r:R D}(ha:fa δ= .ok a)(hb:fb δ= .ok b)(h:g a b=r):e2 g fa fb δ=r:=by unfold e2;rw [ha,R.aT,hb,R.aT];exact h
theorem ie{g:D->D->R D}{fa fb:FD}{δ:aw}{a b:D}{k:Bool}(ha:fa δ= .ok a)(hb:fb δ= .ok b)(h:g a b= .ok (.bl k)):b2 g fa fb δ= .ok k:=by unfold b2;rw [ay ha hb h];rfl
theorem aq{f:FD}{g:aw->R (List D)}{δ:aw}{d:D}{ds:List D}(h:f δ= .ok d)(h2:g δ= .ok ds):ak f g δ= .ok (d ::ds):=by unfold ak;rw [h,R.aT,h2];rfl
theorem aA{g:List D->R D}{fs:aw->R (List D)}{δ:aw}{ds:List D}{r:R D}(h:fs δ= .ok ds)(h2:g ds=r):aQ g fs δ=r:=by unfold aQ;rw [h,R.aT];exact h2
theorem Hf{f:FD}{δ:aw}{d:D}(h:f (ur δ)= .ok d)(ha:d.atom=true):zd f δ= .ok d:=by unfold zd;rw [h,R.aT,ha];rfl
theorem cH{g:aw->R (List D)}{δ:aw}{ds:List D}(h:g δ= .ok ds)(hl:ds.length<=sizeLine):dP g δ= .ok (.tup ds):=by unfold dP;rw [h,R.aT,cw _ hl]
theorem x9{g:aw->R (List D)}{δ:aw}{ds:List D}(h:g δ= .ok ds)(hl:ds.length<=sizeLine):jI g δ= .ok ds:=by unfold jI;rw [h,R.aT,cw _ hl]
theorem xR{f:FD}{fl fh:FO}{δ:aw}{d:D}{lo hi:Option Int}{r:R D}(h:f δ= .ok d)(h1:fl δ= .ok lo)(h2:fh δ= .ok hi)(h3:Pe d lo hi=r):KQ f fl fh δ=r:=by unfold KQ;rw [h,R.aT,h1,R.aT,h2,R.aT];exact h3
theorem GC{f:FD}{δ:aw}{i:Int}(h:f δ= .ok (.int i)):sr f δ= .ok (some i):=by unfold sr;rw [h];rfl
theorem Bx{a b:Int}(h:0 < b):qr (.int a) (.int b)= .ok (.int (a % b)):=by unfold qr yX;exact cw _ h
theorem IP{a b:Int}(h:0 < b)(h2:b < 1073741824):zP (.int a) (.int b)= .ok (.int (a / b)):=by unfold zP yX;exact cw _ ⟨h,h2⟩
theorem fD{f:FD}{δ:aw}{n:Nat}(h:f δ= .ok (.int n))(hn:n < 1000000):dU f δ= .ok (eg 0 n):=by
 unfold dU;rw [h,R.aT];show R.bJ (decide (-(2 ^ 62)<=(n:Int)/\(n:Int) < 2 ^ 62)) _=_;rw[cw _ ⟨by omega,by omega⟩,Int.toNat_natCast]
theorem k4{f:FD}{δ:aw}{ds:List D}(h:f δ= .ok (.lst ds)):dy f δ= .ok ds:=by unfold dy;rw [h];rfl
theorem x4{f:FD}{δ:aw}{ds:List D}(h:f δ= .ok (.tup ds)):dy f δ= .ok ds:=by unfold dy;rw [h];rfl
theorem Lz{f:FD}{δ:aw}{ds:List D}(h:f δ= .ok (.lst ds)):k8 f δ= .ok (dR ds):=by unfold k8;rw [h];rfl
theorem L9{f:FD}{δ:aw}{b:Bool}(h:f δ= .ok (.bl b)):NF f δ= .ok b:=by unfold NF;rw [h];rfl
theorem k5(ds:List D):eW [.lst ds]= .ok (.int ds.length):=rfl
end L2
end
section
namespace L3
open PySem PySem.Spec PyProof.Rows L2
inductive V3 where
 | d (x:D) | loc (k:Nat) | lst (vs:List V3) | tup (vs:List V3)
inductive SO where
 | lst (ds:List D) | dct (ba:List (Key × D)) | ins (c:Nat) (fs:List (Str × V3)) | mf
abbrev aN:=List SO
inductive R3 (α:Type) where
 | ok (a:α) (S:aN) | ex (c:Nat) (S:aN) | no
def R3.bind{α β:Type}:R3 α->(α->aN->R3 β)->R3 β
 | .ok a S,f=>f a S
 | .ex c S,_=> .ex c S
 | .no,_=> .no
theorem R3.ao{α β:Type}{r:R3 α}{f:α->aN->R3 β}{b:β}{S':aN}(h:r.bind f= .ok b S'):∃a S,r= .ok a S/\f a S= .ok b S':=by
 cases r with
 | ok a S=>exact⟨a,S,rfl,h⟩
 | ex c S=>cases h
 | no=>cases h
@[simp] theorem R3.aT{α β:Type}(a:α)(S:aN)(f:α->aN->R3 β):(R3.ok a S).bind f=f a S:=rfl
def R3.bJ{α:Type}(c:Bool)(r:R3 α):R3 α:=if c then r else .no
theorem R3.bc{α:Type}{c:Bool}{r:R3 α}{a:α}{S:aN}(h:R3.bJ c r= .ok a S):c=true/\r= .ok a S:=by
 cases c with
 | true=>exact⟨rfl,h⟩
 | false=>cases h
def R3.of{α:Type}(r:R α)(S:aN):R3 α:=match r with | .ok a=> .ok a S | _=> .no
theorem R3.of_ok{α:Type}{r:R α}{S S':aN}{a:α}(h:R3.of r S= .ok a S'):r= .ok a/\S'=S:=by
 cases r with
 | ok b=>cases h;exact⟨rfl,rfl⟩
 | ex c=>cases h
 | no=>cases h
structure P3 where
 r:List Addr
 z:List Addr
 f:List Addr
def P3.b(ρ:P3):List Addr:=ρ.r.filter (fun a=>!ρ.f.contains a)++ρ.z
theorem P3.ei{ρ:P3}{a:Addr}:a∈ρ.b↔(a∈ρ.r/\a ∉ ρ.f)\/a∈ρ.z:=by
 unfold P3.b;rw[List.mem_append,List.mem_filter];simp
def P3.push(ρ:P3)(a:Addr):P3:=⟨ρ.r++[a],ρ.z,ρ.f⟩
def P3.cut(ρ:P3)(n:Nat):P3:=⟨ρ.r.take n,ρ.z,ρ.f⟩
mutual
def bb(K:W.Frag)(ρ:P3)(H:Hp):V3->V->Prop
 | .d x,v=>Rep K ρ.b H x v
 | .loc k,v=>∃a,ρ.r[k]? =some a/\v= .ref a
 | .lst vs,v=>∃a xs,v= .ref a/\vJ K ρ.b H a xs/\aL K ρ H vs xs
 | .tup vs,v=>∃a xs,v= .ref a/\vY K ρ.b H a xs/\aL K ρ H vs xs
def aL(K:W.Frag)(ρ:P3)(H:Hp):List V3->List V->Prop
 | [],xs=>xs=[]
 | d ::ds,xs=>∃x r,xs=x ::r/\bb K ρ H d x/\aL K ρ H ds r
end
structure Pre (ρ:P3) (H:Hp) (dj:P3) (H':Hp):Prop where
 bj:dO ρ.b H dj.b H'
 zz:dj.z=ρ.z
 zs:∀(b:Addr) (o:HO),b∈ρ.z->H b=some o->H' b=some o
 ext:∀(k:Nat) (a:Addr),ρ.r[k]? =some a->dj.r[k]? =some a
theorem Pre.refl(ρ:P3)(H:Hp):Pre ρ H ρ H:=⟨dO.refl ρ.b H,rfl,fun _ _ _ h=>h,fun _ _ h=>h⟩
theorem Pre.trans(a:Pre ρ H dj H')(b:Pre dj H' HX oP):Pre ρ H HX oP:=⟨a.bj.trans b.bj,b.zz.trans a.zz,fun c o hc h=>b.zs c o (by rw[a.zz];exact hc) (a.zs c o hc h),fun k x h=>b.ext k x (a.ext k x h)⟩
theorem Pre.same(s:aU H H'):Pre ρ H ρ H':=⟨dO.same s,rfl,fun b o _ h=>s b o h,fun _ _ h=>h⟩
theorem vY.bj{K:W.Frag}{B B':List Addr}(p:dO B H B' H'){a:Addr}{xs:List V}(l:vY K B H a xs):vY K B' H' a xs:=
 l.elim (fun z=> .inl ⟨(p.rd z.2 z.1).2,(p.rd z.2 z.1).1⟩) .inr
mutual
theorem bb.pre{K:W.Frag}(p:Pre ρ H dj H'):∀{d:V3} {v:V},bb K ρ H d v->bb K dj H' d v
 | .d x,v,h=>by unfold bb at h ⊢;exact h.bj p.bj
 | .loc k,v,h=>by unfold bb at h ⊢;obtain⟨a,h1,h2⟩:=h;exact⟨a,p.ext k a h1,h2⟩
 | .lst vs,v,h=>by unfold bb at h ⊢;obtain⟨a,xs,e,l,r⟩:=h;exact⟨a,xs,e,l.bj p.bj,aL.pre p r⟩
 | .tup vs,v,h=>by unfold bb at h ⊢;obtain⟨a,xs,e,l,r⟩:=h;exact⟨a,xs,e,vY.bj p.bj l,aL.pre p r⟩
theorem aL.pre{K:W.Frag}(p:Pre ρ H dj H'):∀{ds:List V3} {xs:List V},aL K ρ H ds xs->aL K dj H' ds xs
 | [],_,h=>by unfold aL at h ⊢;exact h
 | d ::ds,xs,h=>by
   unfold aL at h ⊢;obtain⟨x,r,e,h1,h2⟩:=h;exact⟨x,r,e,bb.pre p h1,aL.pre p h2⟩
end
structure PW (ρ:P3) (H:Hp) (dj:P3) (H':Hp):Prop where
 bj:dO ρ.b H dj.b H'
 ext:∀(k:Nat) (a:Addr),ρ.r[k]? =some a->dj.r[k]? =some a
theorem Pre.pw(p:Pre ρ H dj H'):PW ρ H dj H':=⟨p.bj,p.ext⟩
theorem PW.trans(a:PW ρ H dj H')(b:PW dj H' HX oP):PW ρ H HX oP:=⟨a.bj.trans b.bj,fun k x h=>b.ext k x (a.ext k x h)⟩
mutual
theorem bb.pw{K:W.Frag}(p:PW ρ H dj H'):∀{d:V3} {v:V},bb K ρ H d v->bb K dj H' d v
 | .d x,v,h=>by unfold bb at h ⊢;exact h.bj p.bj
 | .loc k,v,h=>by unfold bb at h ⊢;obtain⟨a,h1,h2⟩:=h;exact⟨a,p.ext k a h1,h2⟩
 | .lst vs,v,h=>by unfold bb at h ⊢;obtain⟨a,xs,e,l,r⟩:=h;exact⟨a,xs,e,l.bj p.bj,aL.pw p r⟩
 | .tup vs,v,h=>by unfold bb at h ⊢;obtain⟨a,xs,e,l,r⟩:=h;exact⟨a,xs,e,vY.bj p.bj l,aL.pw p r⟩
theorem aL.pw{K:W.Frag}(p:PW ρ H dj H'):∀{ds:List V3} {xs:List V},aL K ρ H ds xs->aL K dj H' ds xs
 | [],_,h=>by unfold aL at h ⊢;exact h
 | d ::ds,xs,h=>by
   unfold aL at h ⊢;obtain⟨x,r,e,h1,h2⟩:=h;exact⟨x,r,e,bb.pw p h1,aL.pw p h2⟩
end
theorem aL.nil{K:W.Frag}:aL K ρ H [] []:=by unfold aL;rfl
theorem aL.cons{K:W.Frag}{d:V3}{ds:List V3}{x:V}{xs:List V}(h:bb K ρ H d x)(t:aL K ρ H ds xs):aL K ρ H (d ::ds) (x ::xs):=by
 unfold aL;exact⟨x,xs,rfl,h,t⟩
theorem aL.cJ{K:W.Frag}{d:V3}{ds:List V3}{xs:List V}(h:aL K ρ H (d ::ds) xs):∃x r,xs=x ::r/\bb K ρ H d x/\aL K ρ H ds r:=by
 unfold aL at h;exact h
theorem aL.length{K:W.Frag}:∀{ds:List V3} {xs:List V},aL K ρ H ds xs->ds.length=xs.length
 | [],_,h=>by unfold aL at h;rw [h];rfl
 | d ::ds,xs,h=>by
   obtain⟨x,r,rfl,_,h2⟩:=h.cJ;simp [h2.length]
theorem aL.of{K:W.Frag}{ρ:P3}:∀{ds:List D} {xs:List V},aI K ρ.b H ds xs->aL K ρ H (ds.map .d) xs
 | [],_,h=>by unfold aI at h;subst h;exact aL.nil
 | d ::ds,xs,h=>by
   obtain⟨x,r,rfl,h1,h2⟩:=h.cJ;exact aL.cons (by unfold bb;exact h1) (aL.of h2)
theorem aL.to{K:W.Frag}{ρ:P3}:∀{ds:List D} {xs:List V},aL K ρ H (ds.map .d) xs->aI K ρ.b H ds xs
 | [],_,h=>by unfold aL at h;subst h;exact aI.nil
 | d ::ds,xs,h=>by
   obtain⟨x,r,rfl,h1,h2⟩:=aL.cJ h;unfold bb at h1;exact aI.cons h1 (aL.to h2)
def FP(K:W.Frag)(cl:X3)(ρ:P3)(H:Hp):SO->Option HO->Prop
 | .lst ds,h=>∃xs,h=some (.lst xs)/\aI K ρ.b H ds xs
 | .dct ba,h=>∃ys,h=some (.dK ys)/\ys.map (·.1)=ba.map (·.1)/\aI K ρ.b H (ba.map (·.2)) (ys.map (·.2))
 | .ins c fs,h=>∃dx ys,h=some (.ins (cl c) dx ys)/\ys.map (·.1)=fs.map (·.1)/\aL K ρ H (fs.map (·.2)) (ys.map (·.2))
 | .mf,h=>∃u,h=some u
theorem FP.pre{K:W.Frag}{cl:X3}(p:Pre ρ H dj H'){o:SO}{h:Option HO}(r:FP K cl ρ H o h):FP K cl dj H' o h:=by
 cases o with
 | lst ds=>obtain⟨xs,e,q⟩:=r;exact⟨xs,e,q.bj p.bj⟩
 | dct ba=>obtain⟨ys,e,e2,q⟩:=r;exact⟨ys,e,e2,q.bj p.bj⟩
 | ins c fs=>obtain⟨dx,ys,e,e2,q⟩:=r;exact⟨dx,ys,e,e2,q.pre p⟩
 | mf=>exact r
theorem FP.pw{K:W.Frag}{cl:X3}(p:PW ρ H dj H'){o:SO}{h:Option HO}(r:FP K cl ρ H o h):FP K cl dj H' o h:=by
 cases o with
 | lst ds=>obtain⟨xs,e,q⟩:=r;exact⟨xs,e,q.bj p.bj⟩
 | dct ba=>obtain⟨ys,e,e2,q⟩:=r;exact⟨ys,e,e2,q.bj p.bj⟩
 | ins c fs=>obtain⟨dx,ys,e,e2,q⟩:=r;exact⟨dx,ys,e,e2,q.pw p⟩
 | mf=>exact r
theorem FP.some{K:W.Frag}{cl:X3}{o:SO}{h:Option HO}(r:FP K cl ρ H o h):∃u,h=some u:=by
 cases o with
 | lst ds=>obtain⟨xs,e,q⟩:=r;exact⟨_,e⟩
 | dct ba=>obtain⟨ys,e,e2,q⟩:=r;exact⟨_,e⟩
 | ins c fs=>obtain⟨dx,ys,e,e2,q⟩:=r;exact⟨_,e⟩
 | mf=>exact r
structure SW (K:W.Frag) (cl:X3) (ρ:P3) (H:Hp) (S:aN):Prop where
 len:ρ.r.length=S.length
 nd:∀(i j:Nat) (a:Addr),ρ.r[i]? =some a->ρ.r[j]? =some a->i=j
 ob:∀(k:Nat) (a:Addr) (o:SO),ρ.r[k]? =some a->S[k]? =some o->FP K cl ρ H o (H a)
 zb:∀b∈ρ.z,(∃xs,H b=some (.lst xs))/\b ∉ ρ.r
 fz:∀(k:Nat) (a:Addr),ρ.r[k]? =some a->S[k]?≠some .mf->a ∉ ρ.f
 ff:∀a∈ρ.f,∃o,H a=some o
 fi:∀(k:Nat) (a:Addr),ρ.r[k]? =some a->S[k]? =some .mf->a∈ρ.f
theorem SW.rs{K:W.Frag}{cl:X3}{ρ:P3}{H:Hp}{S:aN}(w:SW K cl ρ H S):∀a∈ρ.r,∃o,H a=some o:=fun a z=>by
 obtain⟨k,hk⟩:=List.getElem?_of_mem z;have hl:=(List.getElem?_eq_some_iff.mp hk).1;exact(w.ob k a _ hk (List.getElem?_eq_getElem (by rw[<-w.len];exact hl))).some
theorem SW.bs{K:W.Frag}{cl:X3}{ρ:P3}{H:Hp}{S:aN}(w:SW K cl ρ H S):∀a∈ρ.b,∃o,H a=some o:=fun a ha=>by
 rcases P3.ei.mp ha with z | z
 .exact w.rs a z.1
 .obtain⟨xs,h⟩:=(w.zb a z).1;exact⟨_,h⟩
theorem SW.same{K:W.Frag}{cl:X3}{S:aN}(w:SW K cl ρ H S)(s:aU H H'):SW K cl ρ H' S:=
 ⟨w.len,w.nd,fun k a o h1 h2=>by
   have r:=w.ob k a o h1 h2;obtain⟨u,hu⟩:=r.some;rw[s a u hu,<-hu];exact r.pre (Pre.same s),fun b hb=>let⟨⟨o,ho⟩,n⟩:=w.zb b hb;⟨⟨o,s b _ ho⟩,n⟩,w.fz,fun a ha=>let⟨o,ho⟩:=w.ff a ha;⟨o,s a o ho⟩,w.fi⟩
theorem P3.mem_push{ρ:P3}{a b:Addr}(h:b∈(ρ.push a).b):b∈ρ.b\/b=a:=by
 rcases P3.ei.mp h with⟨z,n⟩ | z
 .rcases List.mem_append.mp z with y | y
  .exact .inl (P3.ei.mpr (.inl ⟨y,n⟩))
  .exact .inr (List.mem_singleton.mp y)
 .exact .inl (P3.ei.mpr (.inr z))
theorem SW.new{K:W.Frag}{cl:X3}{ρ:P3}{H H':Hp}{S:aN}(w:SW K cl ρ H S){a:Addr}{o:SO}(s:aU H H')(n:H a=none)(r:FP K cl (ρ.push a) H' o (H' a))(rM:o≠SO.mf:=by intro h;cases h) :
 SW K cl (ρ.push a) H' (S++[o])/\Pre ρ H (ρ.push a) H':=by
 have na:a ∉ ρ.b:=fun ha=>by obtain⟨o,ho⟩:=w.bs a ha;rw [n] at ho;cases ho
 have nr:a ∉ ρ.r:=fun ha=>by obtain⟨o,ho⟩:=w.rs a ha;rw [n] at ho;cases ho
 have nf:a ∉ ρ.f:=fun ha=>by obtain⟨o,ho⟩:=w.ff a ha;rw [n] at ho;cases ho
 have p:Pre ρ H (ρ.push a) H':=⟨fun b u e nb=>⟨s b u e,fun hb=>by
  rcases P3.mem_push hb with z | z
  .exact nb z
  .subst z;rw [n] at e;cases e⟩,rfl,fun b o _ h=>s b o h,fun k x hx=>by
   show(ρ.r++[a])[k]? =_;rw[List.getElem?_append_left (List.getElem?_eq_some_iff.mp hx).1];exact hx⟩
 have last:∀(i:Nat) (b:Addr),(ρ.push a).r[i]? =some b->(i < ρ.r.length/\ρ.r[i]? =some b)\/(i=ρ.r.length/\b=a):=fun i b h=>by
  have h:(ρ.r++[a])[i]? =some b:=h;by_cases q:i < ρ.r.length
  .rw [List.getElem?_append_left q] at h;exact .inl ⟨q,h⟩
  .rw [List.getElem?_append_right (by omega)] at h
   have h0:i - ρ.r.length=0:=by
    have:=(List.getElem?_eq_some_iff.mp h).1;simp at this;omega
   rw[h0] at h;cases h;exact .inr ⟨by omega,rfl⟩
 refine⟨⟨by show(ρ.r++[a]).length=_;rw [List.length_append,List.length_append,w.len];rfl,fun i j b hi hj=>?_,fun k b u hk hu=>?_,fun b hb=>?_,fun k b hk hu=>?_,fun b hb=>?_,fun k b hk hu=>?_⟩,p⟩
 .rcases last i b hi with⟨q1,q2⟩ | ⟨q1,rfl⟩
  .rcases last j b hj with⟨z1,z2⟩ | ⟨z1,rfl⟩
   .exact w.nd i j b q2 z2
   .exact absurd (List.mem_of_getElem? q2) nr
  .rcases last j b hj with⟨z1,z2⟩ | ⟨z1,z3⟩
   .exact absurd (List.mem_of_getElem? z2) nr
   .omega
 .rcases last k b hk with⟨q1,q2⟩ | ⟨q1,rfl⟩
  .rw [List.getElem?_append_left (by rw[<-w.len];exact q1)] at hu
   have r0:=w.ob k b u q2 hu;obtain⟨x,hx⟩:=r0.some;rw[s b x hx,<-hx];exact r0.pre p
  .rw [List.getElem?_append_right (by rw[<-w.len];omega),q1,w.len,Nat.sub_self] at hu
   cases hu;exact r
 .obtain⟨⟨o,ho⟩,nb⟩:=w.zb b hb;refine⟨⟨o,s b _ ho⟩,fun h=>?_⟩
  rcases List.mem_append.mp h with y | y
  .exact nb y
  .rw [List.mem_singleton] at y;subst y;rw [n] at ho;cases ho
 .rcases last k b hk with⟨q1,q2⟩ | ⟨q1,rfl⟩
  .rw [List.getElem?_append_left (by rw[<-w.len];exact q1)] at hu
   exact w.fz k b q2 hu
  .exact nf
 .obtain⟨o,ho⟩:=w.ff b hb;exact⟨o,s b o ho⟩
 .rcases last k b hk with⟨q1,q2⟩ | ⟨q1,rfl⟩
  .rw [List.getElem?_append_left (by rw[<-w.len];exact q1)] at hu
   exact w.fi k b q2 hu
  .rw [List.getElem?_append_right (by rw[<-w.len];omega),q1,w.len,Nat.sub_self] at hu
   cases hu;exact absurd rfl rM
theorem SW.put{K:W.Frag}{cl:X3}{ρ:P3}{S:aN}(w:SW K cl ρ H S){k:Nat}{a:Addr}{o:SO}{u:HO}(hk:ρ.r[k]? =some a)(hf:a ∉ ρ.f)(r:FP K cl ρ H o (some u))(rM:o≠SO.mf:=by intro h;cases h) :
 SW K cl ρ (upd H a u) (S.set k o)/\Pre ρ H ρ (upd H a u):=by
 have ha:a∈ρ.r:=List.mem_of_getElem? hk;have hb:a∈ρ.b:=P3.ei.mpr (.inl ⟨ha,hf⟩);have nz:∀b∈ρ.z,b≠a:=fun b hb z=>(w.zb b hb).2 (by rw[z];exact ha)
 have p:Pre ρ H ρ (upd H a u):=⟨fun b x e nb=>⟨by rw[bg (fun(z:b=a)=>nb (by rw[z];exact hb))];exact e,nb⟩,rfl,fun b o hb h=>by rw[bg (nz b hb)];exact h,fun _ _ h=>h⟩
 have hl:k < S.length:=by rw[<-w.len];exact(List.getElem?_eq_some_iff.mp hk).1
 refine⟨⟨by rw[List.length_set];exact w.len,w.nd,fun j b x hj hx=>?_,fun b hb=>?_,fun j b hj hx=>?_,fun b hb=>?_,fun j b hj hx=>?_⟩,p⟩
 .by_cases q:k=j
  .subst q;rw[hk] at hj;cases hj;rw[List.getElem?_set_self hl] at hx;cases hx;rw[bq];exact r.pre p
  .rw [List.getElem?_set_ne q] at hx;have ne:b≠a:=fun z=>by subst z;exact q (w.nd k j b hk hj)
   rw[bg ne];exact(w.ob j b x hj hx).pre p
 .obtain⟨⟨o,ho⟩,nb⟩:=w.zb b hb;exact⟨⟨o,by rw[bg (nz b hb)];exact ho⟩,nb⟩
 .by_cases q:k=j
  .subst q;rw[hk] at hj;cases hj;exact hf
  .rw [List.getElem?_set_ne q] at hx;exact w.fz j b hj hx
 .obtain⟨o,ho⟩:=w.ff b hb;exact⟨o,by rw[bg (fun z=>hf (by rw[<-z];exact hb))];exact ho⟩
 .by_cases q:k=j
  .subst q;rw[List.getElem?_set_self hl] at hx;cases hx;exact absurd rfl rM
  .rw [List.getElem?_set_ne q] at hx;exact w.fi j b hj hx
theorem SW.mf{K:W.Frag}{cl:X3}{ρ:P3}{S:aN}(w:SW K cl ρ H S){k:Nat}{a:Addr}{ds:List D}(hk:ρ.r[k]? =some a)(hS:S[k]? =some (.lst ds)) :
 SW K cl ⟨ρ.r,ρ.z,a ::ρ.f⟩ H (S.set k .mf)/\Pre ρ H ⟨ρ.r,ρ.z,a ::ρ.f⟩ H/\Rep K (⟨ρ.r,ρ.z,a ::ρ.f⟩:P3).b H (.lst ds) (.ref a):=by
 have hl:k < S.length:=by rw[<-w.len];exact(List.getElem?_eq_some_iff.mp hk).1
 have sub:∀b,b∈(⟨ρ.r,ρ.z,a ::ρ.f⟩:P3).b->b∈ρ.b:=fun b hb=>by
  rcases P3.ei.mp hb with⟨z,n⟩ | z
  .exact P3.ei.mpr (.inl ⟨z,fun h=>n (List.mem_cons_of_mem _ h)⟩)
  .exact P3.ei.mpr (.inr z)
 have p:Pre ρ H ⟨ρ.r,ρ.z,a ::ρ.f⟩ H:=⟨fun b o e nb=>⟨e,fun hb=>nb (sub b hb)⟩,rfl,fun _ _ _ h=>h,fun _ _ h=>h⟩
 obtain⟨xs,e1,r1⟩:=w.ob k a _ hk hS;refine⟨⟨by rw[List.length_set];exact w.len,w.nd,fun j b x hj hx=>?_,w.zb,fun j b hj hx=>?_,fun b hb=>?_,fun j b hj hx=>?_⟩,p,?_⟩
 .by_cases q:k=j
  .subst q;rw[List.getElem?_set_self hl] at hx;cases hx;rw[hk] at hj;cases hj;exact⟨_,e1⟩
  .rw [List.getElem?_set_ne q] at hx;exact(w.ob j b x hj hx).pre p
 .by_cases q:k=j
  .subst q;rw[List.getElem?_set_self hl] at hx;exact absurd rfl hx
  .rw [List.getElem?_set_ne q] at hx;intro h;rcases List.mem_cons.mp h with z | z
   .subst z;exact q (w.nd k j b hk hj)
   .exact w.fz j b hj hx z
 .rcases List.mem_cons.mp hb with z | z
  .subst z;exact⟨_,e1⟩
  .exact w.ff b z
 .by_cases q:k=j
  .subst q;rw[hk] at hj;cases hj;exact List.mem_cons_self
  .rw [List.getElem?_set_ne q] at hx;exact List.mem_cons_of_mem _ (w.fi j b hj hx)
 .refine Rep.lst.mpr ⟨a,xs,rfl, .inl ⟨fun hb=>?_, .inl e1⟩,r1.bj p.bj⟩
  rcases P3.ei.mp hb with⟨_,n⟩ | z
  .exact n List.mem_cons_self
  .exact(w.zb a z).2 (List.mem_of_getElem? hk)
mutual
def mj:D->Bool
 | .lst _=>false
 | .dct _ _=>false
 | .tup ds=>n5 ds
 | _=>true
def n5:List D->Bool
 | []=>true
 | d ::ds=>mj d && n5 ds
end
mutual
theorem Rep.wo{K:W.Frag}{B:List Addr}(hB:∀b∈B,∀xs,¬Rd H b (.tup xs)):∀{d:D} {v:V},mj d=true->Rep K [] H d v->Rep K B H d v
 | .de,v,_,r=>Rep.de.mpr (Rep.de.mp r)
 | .bl _,v,_,r=>Rep.bl.mpr (Rep.bl.mp r)
 | .int _,v,_,r=>Rep.int.mpr (Rep.int.mp r)
 | .str _,v,_,r=>Rep.str.mpr (Rep.str.mp r)
 | .lst _,v,h,_=>by unfold mj at h;cases h
 | .dct _ _,v,h,_=>by unfold mj at h;cases h
 | .tup ds,v,h,r=>by
   unfold mj at h;obtain⟨a,xs,rfl,l,rs⟩:=Rep.tup.mp r;exact Rep.tup.mpr ⟨a,xs,rfl,l.elim (fun z=> .inl ⟨fun hb=>hB a hb xs z.2,z.2⟩) .inr,aI.wo hB h rs⟩
theorem aI.wo{K:W.Frag}{B:List Addr}(hB:∀b∈B,∀xs,¬Rd H b (.tup xs)):∀{ds:List D} {vs:List V},n5 ds=true->aI K [] H ds vs->aI K B H ds vs
 | [],_,_,r=>by unfold aI at r;subst r;exact aI.nil
 | d ::ds,vs,h,r=>by
   unfold n5 at h;obtain⟨h1,h2⟩:=Bool.and_eq_true_iff.mp h;obtain⟨x,xs,rfl,r1,r2⟩:=r.cJ;exact aI.cons (Rep.wo hB h1 r1) (aI.wo hB h2 r2)
end
theorem SW.nt{K:W.Frag}{cl:X3}{ρ:P3}{S:aN}(w:SW K cl ρ H S):∀b∈ρ.b,∀xs,¬Rd H b (.tup xs):=fun b hb xs h=>by
 have key:∀o,H b=some o->(∀xs,o≠ .tup xs)->(∀ob xs,o≠ .mf ob (.tup xs))->False:=fun o e h1 h2=>by
  rcases h with z | ⟨ob,z⟩
  .rw [e] at z;cases z;exact h1 _ rfl
  .rw [e] at z;cases z;exact h2 _ _ rfl
 rcases P3.ei.mp hb with⟨z,n⟩ | z
 .obtain⟨k,hk⟩:=List.getElem?_of_mem z;have hl:=(List.getElem?_eq_some_iff.mp hk).1;have hS:S[k]? =some (S[k]'(by rw[<-w.len];exact hl)):=List.getElem?_eq_getElem (by rw[<-w.len];exact hl)
  have r:=w.ob k b _ hk hS;generalize S[k]'(by rw[<-w.len];exact hl)=o at r hS
  cases o with
  | lst ds=>obtain⟨ys,e,_⟩:=r;exact key _ e (fun _ q=>by cases q) (fun _ _ q=>by cases q)
  | dct ba=>obtain⟨ys,e,_⟩:=r;exact key _ e (fun _ q=>by cases q) (fun _ _ q=>by cases q)
  | ins c fs=>obtain⟨dx,ys,e,_⟩:=r;exact key _ e (fun _ q=>by cases q) (fun _ _ q=>by cases q)
  | mf=>exact n (w.fi k b hk hS)
 .obtain⟨⟨ys,e⟩,_⟩:=w.zb b z;exact key _ e (fun _ q=>by cases q) (fun _ _ q=>by cases q)
abbrev DE:=List (Option V3)
structure gb (K:W.Frag) (cl:X3) (ρ:P3) (H:Hp) (S:aN) (σ:L2.St) (δ:DE):Prop where
 len:δ.length=σ.length
 sw:SW K cl ρ H S
 val:∀(i:Nat) (d:V3),δ[i]? =some (some d)->∃v,σ[i]? =some (some v)/\bb K ρ H d v
theorem gb.to{K:W.Frag}{cl:X3}{S S':aN}{σ:L2.St}{δ:DE}(E:gb K cl ρ H S σ δ)(p:Pre ρ H dj H')(w:SW K cl dj H' S'):gb K cl dj H' S' σ δ:=
 ⟨E.len,w,fun i d e=>let⟨v,h1,h2⟩:=E.val i d e;⟨v,h1,h2.pre p⟩⟩
theorem gb.set{K:W.Frag}{cl:X3}{S:aN}{σ:L2.St}{δ:DE}(E:gb K cl ρ H S σ δ){i:Nat}{d:V3}{v:V}(hi:i < σ.length)(r:bb K ρ H d v):gb K cl ρ H S (σ.set i (some v)) (δ.set i (some d)):=
 ⟨by rw[List.length_set,List.length_set];exact E.len,E.sw,fun j d' e=>by
   by_cases h:i=j
   .subst h;rw[List.getElem?_set_self (by rw[E.len];exact hi)] at e
    cases e;exact⟨v,List.getElem?_set_self hi,r⟩
   .rw [List.getElem?_set_ne h] at e ⊢;exact E.val j d' e⟩
def down(δ:DE):aw:=δ.map fun x=>match x with | some (.d d)=> .val d | _=> .un
theorem gb.down{K:W.Frag}{cl:X3}{ρ:P3}{S:aN}{σ:L2.St}{δ:DE}(E:gb K cl ρ H S σ δ):d4 K [] ρ.b H σ (down δ) where
 len:=by unfold L3.down;rw [List.length_map];exact E.len
 bs:=E.sw.bs
 zb:=fun a ha=>by cases ha
 val:=fun i d e=>by
  unfold L3.down at e;rw[List.getElem?_map] at e;cases q:δ[i]? with
  | none=>rw [q] at e;cases e
  | some x=>
    rw[q] at e
    match x,e,q with
    | some (.d y),e,q=>
      cases e;obtain⟨v,h1,h2⟩:=E.val i _ q;unfold bb at h2;exact⟨v,h1,h2⟩
    | some (.loc k),e,q=>cases e
    | some (.lst k),e,q=>cases e
    | some (.tup k),e,q=>cases e
    | none,e,q=>cases e
 bld:=fun i ds e=>by
  unfold L3.down at e;rw[List.getElem?_map] at e;cases q:δ[i]? with
  | none=>rw [q] at e;cases e
  | some x=>
    rw[q] at e
    match x,e with
    | some (.d y),e=>cases e
    | some (.loc k),e=>cases e
    | some (.lst k),e=>cases e
    | some (.tup k),e=>cases e
    | none,e=>cases e
 dis:=fun i j a ds es e=>by
  unfold L3.down at e;rw[List.getElem?_map] at e;cases q:δ[i]? with
  | none=>rw [q] at e;cases e
  | some x=>
    rw[q] at e
    match x,e with
    | some (.d y),e=>cases e
    | some (.loc k),e=>cases e
    | some (.lst k),e=>cases e
    | some (.tup k),e=>cases e
    | none,e=>cases e
mutual
def res(S:aN):V3->Option D
 | .d x=>some x
 | .loc k=>(match S[k]? with | some (.lst ds)=>some (.lst ds) | _=>none)
 | .lst vs=>(xB S vs).map D.lst
 | .tup vs=>(xB S vs).map D.tup
def xB(S:aN):List V3->Option (List D)
 | []=>some []
 | v ::vs=>(res S v).bind fun d=>(xB S vs).map (d ::·)
end
def df(S:aN)(δ:DE):aw:=δ.map fun x=>match x with | some v=>(match res S v with | some d=> .val d | none=> .un) | none=> .un
theorem rA{α β:Type}{o:Option α}{f:α->β}{b:β}(h:o.map f=some b):∃a,o=some a/\f a=b:=by
 cases o with
 | none=>cases h
 | some a=>cases h;exact⟨a,rfl,rfl⟩
theorem AH{α β:Type}{o:Option α}{f:α->Option β}{b:β}(h:o.bind f=some b):∃a,o=some a/\f a=some b:=by
 cases o with
 | none=>cases h
 | some a=>exact⟨a,rfl,h⟩
mutual
def eu(n:Nat):V3->Bool
 | .d _=>true
 | .loc k=>decide (n<=k)
 | .lst vs=>oW n vs
 | .tup vs=>oW n vs
def oW(n:Nat):List V3->Bool
 | []=>true
 | v ::vs=>eu n v && oW n vs
end
mutual
theorem bb.resB{K:W.Frag}{cl:X3}{ρ:P3}{S:aN}{B':List Addr}{n:Nat}(w:SW K cl ρ H S)(p:dO ρ.b H B' H)(hn:∀(k:Nat) (a:Addr),n<=k->ρ.r[k]? =some a->a ∉ B'):∀{v:V3} {d:D} {x:V},eu n v=true->res S v=some d->bb K ρ H v x->Rep K B' H d x
 | .d y,d,x,_,h,r=>by unfold L3.res at h;cases h;unfold bb at r;exact r.bj p
 | .loc k,d,x,g,h,r=>by
   unfold L3.res at h;unfold bb at r;unfold eu at g;obtain⟨a,h1,rfl⟩:=r;split at h
   .rename_i ds e;cases h;obtain⟨xs,e2,q⟩:=w.ob k a _ h1 e;unfold Rep;exact⟨a,xs,rfl, .inl ⟨hn k a (of_decide_eq_true g) h1, .inl e2⟩,q.bj p⟩
   .cases h
 | .lst vs,d,x,g,h,r=>by
   unfold L3.res at h;unfold eu at g;obtain⟨ds,e,rfl⟩:=rA h;unfold bb at r;obtain⟨a,xs,rfl,l,r⟩:=r;unfold Rep;exact⟨a,xs,rfl,l.bj p,aL.resB w p hn g e r⟩
 | .tup vs,d,x,g,h,r=>by
   unfold L3.res at h;unfold eu at g;obtain⟨ds,e,rfl⟩:=rA h;unfold bb at r;obtain⟨a,xs,rfl,l,r⟩:=r;unfold Rep;exact⟨a,xs,rfl,vY.bj p l,aL.resB w p hn g e r⟩
theorem aL.resB{K:W.Frag}{cl:X3}{ρ:P3}{S:aN}{B':List Addr}{n:Nat}(w:SW K cl ρ H S)(p:dO ρ.b H B' H)(hn:∀(k:Nat) (a:Addr),n<=k->ρ.r[k]? =some a->a ∉ B'):∀{vs:List V3} {ds:List D} {xs:List V},oW n vs=true->xB S vs=some ds->aL K ρ H vs xs->aI K B' H ds xs
 | [],ds,xs,_,h,r=>by unfold xB at h;cases h;unfold aL at r;subst r;exact aI.nil
 | v ::vs,ds,xs,g,h,r=>by
   unfold xB at h;unfold oW at g;obtain⟨g1,g2⟩:=Bool.and_eq_true_iff.mp g;obtain⟨d,e1,h2⟩:=AH h;obtain⟨es,e2,rfl⟩:=rA h2;obtain⟨y,ys,rfl,r1,r2⟩:=r.cJ;exact aI.cons (bb.resB w p hn g1 e1 r1) (aL.resB w p hn g2 e2 r2)
end
mutual
theorem wW:∀v:V3,eu 0 v=true
 | .d _=>by unfold eu;rfl
 | .loc k=>by unfold eu;exact decide_eq_true (Nat.zero_le _)
 | .lst vs=>by unfold eu;exact pk vs
 | .tup vs=>by unfold eu;exact pk vs
theorem pk:∀vs:List V3,oW 0 vs=true
 | []=>by unfold oW;rfl
 | v ::vs=>by unfold oW;rw [wW v,pk vs];rfl
end
theorem bb.res{K:W.Frag}{cl:X3}{S:aN}(w:SW K cl ρ H S){v:V3}{d:D}{x:V}(h:res S v=some d)(r:bb K ρ H v x):Rep K [] H d x:=
 r.resB w (fun b o e _=>⟨e,by simp⟩) (n:=0) (fun _ _ _ _=>by simp) (wW v) h
theorem qY{S:aN}{δ:DE}{i:Nat}{y:Sl}(e:(df S δ)[i]? =some y):(∃v d,δ[i]? =some (some v)/\res S v=some d/\y= .val d)\/y= .un:=by
 unfold df at e;rw[List.getElem?_map] at e;cases q:δ[i]? with
 | none=>rw [q] at e;cases e
 | some x=>
   rw[q] at e;cases x with
   | none=>cases e;exact .inr rfl
   | some v=>
     cases z:res S v with
     | none=>
       have e:some (match res S v with | some d=>Sl.val d | none=> .un)=some y:=e
       rw[z] at e;cases e;exact .inr rfl
     | some d=>
       have e:some (match res S v with | some d=>Sl.val d | none=> .un)=some y:=e
       rw[z] at e;cases e;exact .inl ⟨v,d,rfl,z,rfl⟩
theorem gb.df{K:W.Frag}{cl:X3}{S:aN}{σ:L2.St}{δ:DE}(E:gb K cl ρ H S σ δ):d4 K [] [] H σ (df S δ) where
 len:=by unfold L3.df;rw [List.length_map];exact E.len
 bs:=fun a ha=>by cases ha
 zb:=fun a ha=>by cases ha
 val:=fun i d e=>by
  rcases qY e with⟨v,d',h1,h2,h3⟩ | h
  .cases h3;obtain⟨x,q1,q2⟩:=E.val i v h1;exact⟨x,q1,q2.res E.sw h2⟩
  .cases h
 bld:=fun i ds e=>by
  rcases qY e with⟨v,d',h1,h2,h3⟩ | h
  .cases h3
  .cases h
 dis:=fun i j a ds es e=>by
  rcases qY e with⟨v,d',h1,h2,h3⟩ | h
  .cases h3
  .cases h
abbrev FX:=DE->aN->R3 V3
abbrev FB:=DE->aN->R3 Bool
abbrev FA:=DE->aN->R3 (List V3)
def tX(K:W.Frag)(cl:X3)(f:FX):TE:=fun σ H Q=>∃ρ S δ v S',gb K cl ρ H S σ δ/\f δ S= .ok v S'/\∀u dj H',Pre ρ H dj H'->SW K cl dj H' S'->bb K dj H' v u->Q u H'
def Mp(K:W.Frag)(cl:X3)(f:FB):TT:=fun σ H Q=>∃ρ S δ b S',gb K cl ρ H S σ δ/\f δ S= .ok b S'/\∀dj H',Pre ρ H dj H'->SW K cl dj H' S'->Q b H'
def Ts(K:W.Frag)(cl:X3)(f:FA):TA:=fun σ H Q=>∃ρ S δ vs S',gb K cl ρ H S σ δ/\f δ S= .ok vs S'/\∀us dj H',Pre ρ H dj H'->SW K cl dj H' S'->aL K dj H' vs us->Q us H'
structure PX (X:Cx) (cl:X3) (e:Expr) (f:FX):Prop where
 go:PE X e (tX X.K cl f)
structure HL (X:Cx) (cl:X3) (e:Expr) (f:FB):Prop where
 go:PT X e (Mp X.K cl f)
structure Il (X:Cx) (cl:X3) (es:List Expr) (f:FA):Prop where
 go:PA X es (Ts X.K cl f)
section
variable {X:Cx} {cl:X3}
def xP(f:FD):FX:=fun δ S=>(R3.of (f (down δ)) S).bind fun d S=> .ok (.d d) S
theorem af(h:QD X e f):PX X cl e (xP f):=⟨h.1.imp fun σ H Q ⟨ρ,S,δ,v,S',E,hf,q⟩=>by
 obtain⟨d,S1,h1,h2⟩:=R3.ao hf;obtain⟨h3,e3⟩:=R3.of_ok h1;cases h2;subst e3;exact⟨[],ρ.b,down δ,d,E.down,h3,fun v H' s r=>q v ρ H' (Pre.same s) (E.sw.same s) (by unfold bb;exact r)⟩⟩
def xT(f:FD):FX:=fun δ S=>(R3.of (f (df S δ)) S).bind fun d S=>R3.bJ (mj d) (.ok (.d d) S)
theorem iW(h:QD X e f):PX X cl e (xT f):=⟨h.1.imp fun σ H Q ⟨ρ,S,δ,v,S',E,hf,q⟩=>by
 obtain⟨d,S1,h1,h2⟩:=R3.ao hf;obtain⟨h4,e3⟩:=R3.of_ok h1;obtain⟨ha,h3⟩:=R3.bc h2;cases h3;subst e3;exact⟨[],[],df _ δ,d,E.df,h4,fun v H' s r=>q v ρ H' (Pre.same s) (E.sw.same s) (by unfold bb;exact Rep.wo (E.sw.same s).nt ha r)⟩⟩
def bP(f:aw->R Bool):FB:=fun δ S=>R3.of (f (down δ)) S
theorem gT{f:aw->R Bool}(h:QB X e f):HL X cl e (bP f):=⟨h.1.imp fun σ H Q ⟨ρ,S,δ,v,S',E,hf,q⟩=>by
 obtain⟨h1,e3⟩:=R3.of_ok hf;subst e3;exact⟨[],ρ.b,down δ,v,E.down,h1,fun H' s=>q ρ H' (Pre.same s) (E.sw.same s)⟩⟩
def bT(f:aw->R Bool):FB:=fun δ S=>R3.of (f (df S δ)) S
def cK(i:Nat):FX:=fun δ S=>match δ[i]? with | some (some v)=> .ok v S | _=> .no
theorem aY(i:Nat){x:Str}{pos:Pos}(hN:X.N[i]? =some x:=by rfl)(hv:F9 X.env.scope x:=by first | exact Or.inl rfl | exact Or.inr (Or.inl rfl) | exact Or.inr (Or.inr rfl))(hd:(x==("__debug__":Str))=false:=by decide)
 (r6:(x==("__classdict__":Str))=false:=by decide):PX X cl (.Name x pos) (cK i):=⟨(rG hN hv hd r6).imp fun σ H Q ⟨ρ,S,δ,v,S',E,hf,q⟩=>by
 unfold cK at hf;split at hf
 .rename_i d' e;cases hf;obtain⟨u,h1,h2⟩:=E.val i _ e;exact⟨u,h1,q u ρ H (Pre.refl ρ H) E.sw h2⟩
 .cases hf⟩
def oI(f:aw->R (List D)):FX:=fun δ S=>(R3.of (f (down δ)) S).bind fun ds S=> .ok (.loc S.length) (S++[.lst ds])
theorem j7{f:aw->R (List D)}(h:QN X e f):PX X cl e (oI f):=⟨h.1.imp fun σ H Q ⟨ρ,S,δ,v,S',E,hf,q⟩=>by
 obtain⟨ds,S1,h1,h2⟩:=R3.ao hf;obtain⟨h3,e3⟩:=R3.of_ok h1;cases h2;subst e3;refine⟨[],ρ.b,down δ,ds,E.down,h3,fun a xs H' s n e r=>?_⟩
 have r':aI X.K (ρ.push a).b H' ds xs:=r.bj fun b o e nb=>⟨e,fun hb=>nb (by
  rcases P3.mem_push hb with z | z
  .exact List.mem_cons_of_mem _ z
  .subst z;exact List.mem_cons_self)⟩
 obtain⟨w,p⟩:=E.sw.new (o:= .lst ds) s n ⟨xs,e,r'⟩;exact q _ _ H' p w (by unfold bb;exact⟨a,by show(ρ.r++[a])[_]? =_;rw [<-E.sw.len,List.getElem?_append_right (by omega),Nat.sub_self];rfl,rfl⟩)⟩
end
end L3
end
section
namespace L3
open PySem PySem.Spec PyProof.Rows L2
section
variable {X:Cx} {cl:X3}
def bW:FA:=fun _ S=> .ok [] S
def ax(f:FX)(g:FA):FA:=fun δ S=>(f δ S).bind fun v S1=>(g δ S1).bind fun vs S2=> .ok (v ::vs) S2
theorem aH:Il X cl [] bW:=⟨j5.imp fun σ H Q ⟨ρ,S,δ,v,S',E,hf,q⟩=>by
 cases hf;exact q [] ρ H (Pre.refl ρ H) E.sw aL.nil⟩
theorem ag(h:PX X cl e f)(t:Il X cl es g)(hs:starEach (e ::es) X.env=(false,eval e X.env) ::starEach es X.env:=by rfl):Il X cl (e ::es) (ax f g):=
 ⟨(gI h.1 t.1 hs).imp fun σ H Q ⟨ρ,S,δ,v,S',E,hf,q⟩=>by
   obtain⟨v1,S1,h1,h2⟩:=R3.ao hf;obtain⟨vs,S2,h3,h4⟩:=R3.ao h2;cases h4;exact⟨ρ,S,δ,v1,S1,E,h1,fun u cD H1 p1 w1 r1=>⟨cD,S1,δ,vs,_,E.to p1 w1,h3,fun us vB H2 p2 w2 r2=>q _ vB H2 (p1.trans p2) w2 (aL.cons (r1.pre p2) r2)⟩⟩⟩
def s_:List V3->Option (List D)
 | []=>some []
 | .d x ::r=>(s_ r).map (x ::·)
 | _ ::_=>none
theorem jP:∀{vs:List V3} {ds:List D},s_ vs=some ds->vs=ds.map .d
 | [],ds,h=>by cases h;rfl
 | .d x ::r,ds,h=>by
   cases e:s_ r with
   | none=>have h:(s_ r).map (x ::·)=some ds:=h;rw [e] at h;cases h
   | some es=>
     have h:(s_ r).map (x ::·)=some ds:=h
     rw[e] at h;cases h;rw[jP e];rfl
 | .loc _ ::_,_,h=>by cases h
 | .lst _ ::_,_,h=>by cases h
 | .tup _ ::_,_,h=>by cases h
theorem uT:∀ds:List D,s_ (ds.map .d)=some ds
 | []=>rfl
 | d ::ds=>by show(s_ (ds.map .d)).map (d ::·)=_;rw [uT ds];rfl
def C5(vs:List V3):V3:=match s_ vs with | some ds=> .d (.tup ds) | none=> .tup vs
def sk(vs:List V3):V3:=match s_ vs with | some ds=> .d (.lst ds) | none=> .lst vs
def BS(g:FA):FX:=fun δ S=>(g δ S).bind fun vs S=>R3.bJ (decide (vs.length<=sizeLine)) (.ok (C5 vs) S)
theorem tS{H:Hp}{p:Addr}{o:HO}(hp:H p=none):Pre ρ H ρ (upd H p o):=Pre.same (bh hp)
theorem DY{K:W.Frag}{ρ:P3}{vs:List V3}{xs:List V}{a:Addr}(l:vY K ρ.b H a xs)(r:aL K ρ H vs xs):bb K ρ H (C5 vs) (.ref a):=by
 unfold C5;split
 .rename_i ds e;rw[jP e] at r;unfold bb Rep;exact⟨a,xs,rfl,l,r.to⟩
 .unfold bb;exact⟨a,xs,rfl,l,r⟩
theorem xc{K:W.Frag}{ρ:P3}{vs:List V3}{xs:List V}{a:Addr}(l:vJ K ρ.b H a xs)(r:aL K ρ H vs xs):bb K ρ H (sk vs) (.ref a):=by
 unfold sk;split
 .rename_i ds e;rw[jP e] at r;unfold bb Rep;exact⟨a,xs,rfl,l,r.to⟩
 .unfold bb;exact⟨a,xs,rfl,l,r⟩
theorem uv{x1 pos}(h:Il X cl es g):PX X cl (.Tuple es x1 pos) (BS g):=⟨(Fv h.1).imp fun σ H Q ⟨ρ,S,δ,v,S',E,hf,q⟩=>by
 obtain⟨vs,S1,h1,h2⟩:=R3.ao hf;obtain⟨hl,h3⟩:=R3.bc h2;cases h3;refine⟨ρ,S,δ,vs,_,E,h1,fun us cD H1 p1 w1 r1=>⟨by rw[<-r1.length];exact of_decide_eq_true hl,fun p hp=>q _ cD _ (p1.trans (tS hp)) (w1.same (bh hp)) ?_⟩⟩
 refine DY (.inl ⟨fun ha=>?_, .inl bq⟩) (r1.pre (tS hp))
 obtain⟨o,ho⟩:=w1.bs p ha;rw[hp] at ho;cases ho⟩
def M6(g:FA):FX:=fun δ S=>(g δ S).bind fun vs S=>R3.bJ (decide (vs.length<=sizeLine)) (.ok (sk vs) S)
theorem Mj{pos}(h:Il X cl es g):PX X cl (.List es pos) (M6 g):=⟨(Gw h.1).imp fun σ H Q ⟨ρ,S,δ,v,S',E,hf,q⟩=>by
 obtain⟨vs,S1,h1,h2⟩:=R3.ao hf;obtain⟨hl,h3⟩:=R3.bc h2;cases h3;refine⟨ρ,S,δ,vs,_,E,h1,fun us cD H1 p1 w1 r1=>⟨by rw[<-r1.length];exact of_decide_eq_true hl,fun p hp=>q _ cD _ (p1.trans (tS hp)) (w1.same (bh hp)) ?_⟩⟩
 refine xc (.inl ⟨fun ha=>?_, .inl bq⟩) (r1.pre (tS hp))
 obtain⟨o,ho⟩:=w1.bs p ha;rw[hp] at ho;cases ho⟩
def x2(g:D->D->R D)(fa fb:FX):FX:=fun δ S=>(fa δ S).bind fun a S1=>(fb δ S1).bind fun b S2=>match a,b with
 | .d x, .d y=>(R3.of (g x y) S2).bind fun d S=> .ok (.d d) S
 | _,_=> .no
theorem Lr{K:W.Frag}{g:D->D->R D}{σ:L2.St}{Q:VK}(h:tX K cl (x2 g fa fb) σ H Q) :
 ND (fun x y H Q=>∃B da db d,(∀a∈B,∃o,H a=some o)/\Rep K B H da x/\Rep K B H db y/\g da db= .ok d/\∀z H',aU H H'->Rep K B H' d z->Q z H') (tX K cl fa) (tX K cl fb) σ H Q:=by
 obtain⟨ρ,S,δ,v,S',E,hf,q⟩:=h;obtain⟨a,S1,h1,h2⟩:=R3.ao hf;obtain⟨b,S2,h3,h4⟩:=R3.ao h2
 match a,b,h1,h3,h4 with
 | .d x, .d y,h1,h3,h4=>
   obtain⟨d,S3,h5,h6⟩:=R3.ao h4;obtain⟨h7,e⟩:=R3.of_ok h5;cases h6;subst e;refine⟨ρ,S,δ, .d x,S1,E,h1,fun u1 cD H1 p1 w1 r1=>⟨cD,S1,δ, .d y,_,E.to p1 w1,h3,fun u2 vB H2 p2 w2 r2=>?_⟩⟩
   have vE:=r1.pre p2;unfold bb at vE r2;exact⟨vB.b,x,y,d,w2.bs,vE,r2,h7,fun z H' s r=>q z vB H' (p1.trans (p2.trans (Pre.same s))) (w2.same s) (by unfold bb;exact r)⟩
 | .d x, .loc _,_,_,h4=>cases h4
 | .d x, .lst _,_,_,h4=>cases h4
 | .d x, .tup _,_,_,h4=>cases h4
 | .loc _,_,_,_,h4=>cases h4
 | .lst _,_,_,_,h4=>cases h4
 | .tup _,_,_,_,h4=>cases h4
theorem zc{op:Operator}{g:D->D->R D}(ho:mh X (binaryOp op) g)(ha:PX X cl a fa)(hb:PX X cl b fb):PX X cl (.BinOp a op b pos) (x2 g fa fb):=
 ⟨(K3 ho.r ha.1 hb.1).imp fun σ H Q h=>Lr h⟩
theorem yk{op:CmpOp}{g:D->D->R D}(ho:mh X (compareOp op) g)(ha:PX X cl a fa)(hb:PX X cl b fb)(hm:behindInMarks op b=false):PX X cl (.Compare a [op] [b] pos) (x2 g fa fb):=
 ⟨(CJ ho.r ha.1 hb.1 hm).imp fun σ H Q h=>Lr h⟩
def Iq(g:D->D->R D)(fa fb:FX):FB:=fun δ S=>(x2 g fa fb δ S).bind fun v S=>match v with | .d (.bl b)=> .ok b S | _=> .no
theorem kP{op:CmpOp}{g:D->D->R D}(ho:mh X (compareOp op) g)(ha:PX X cl a fa)(hb:PX X cl b fb)(hm:behindInMarks op b=false):HL X cl (.Compare a [op] [b] pos) (Iq g fa fb):=
 ⟨(CL ho.r ha.1 hb.1 hm).imp fun σ H Q ⟨ρ,S,δ,b,S',E,hf,q⟩=>by
   obtain⟨v,S1,h1,h2⟩:=R3.ao hf;have hv:v= .d (.bl b)/\S1=S':=by
    match v,h2 with
    | .d (.bl k),h2=>cases h2;exact⟨rfl,rfl⟩
    | .d .de,h2=>cases h2
    | .d (.int _),h2=>cases h2
    | .d (.str _),h2=>cases h2
    | .d (.lst _),h2=>cases h2
    | .d (.tup _),h2=>cases h2
    | .d (.dct _ _),h2=>cases h2
    | .loc _,h2=>cases h2
    | .lst _,h2=>cases h2
    | .tup _,h2=>cases h2
   obtain⟨rfl,rfl⟩:=hv;exact Lr (g:=g) (Q:=fun x H'=>∃k,x= .bl k/\Q k H') ⟨ρ,S,δ,_,_,E,h1,fun u dj H' p w r=>⟨b,by unfold bb Rep at r;exact r,q dj H' p w⟩⟩⟩
inductive Ou where
 | nx (δ:DE) | rt (v:V3)
abbrev FZ:=DE->aN->R3 Ou
def JY(K:W.Frag)(cl:X3)(ρ:P3)(H:Hp)(D:Ends)(S':aN):Ou->Prop
 | .nx eL=>∀dC dj H',Pre ρ H dj H'->gb K cl dj H' S' dC eL->D.nx dC H'
 | .rt v=>∀u dj H',Pre ρ H dj H'->SW K cl dj H' S'->bb K dj H' v u->D.rt u H'
theorem JY.pre{K:W.Frag}{D:Ends}{S':aN}{o:Ou}(q:JY K cl ρ H D S' o)(p:Pre ρ H cD H1):JY K cl cD H1 D S' o:=by
 cases o with
 | nx eL=>exact fun dC dj H' p' E'=>q dC dj H' (p.trans p') E'
 | rt d=>exact fun v dj H' p' w r=>q v dj H' (p.trans p') w r
def sX(K:W.Frag)(cl:X3)(F:FZ):TS:=fun D σ H=>∃ρ S δ o S',gb K cl ρ H S σ δ/\F δ S= .ok o S'/\JY K cl ρ H D S' o
structure PZ (X:Cx) (cl:X3) (st:Stmt) (F:FZ):Prop where
 go:PS X st (sX X.K cl F)
structure FW (X:Cx) (cl:X3) (st:List Stmt) (F:FZ):Prop where
 go:yV X st (sX X.K cl F)
def oJ:FZ:=fun δ S=> .ok (.nx δ) S
def bB(F G:FZ):FZ:=fun δ S=>(F δ S).bind fun o S1=>match o with | .nx eL=>G eL S1 | .rt d=> .ok (.rt d) S1
theorem ft:FW X cl [] oJ:=⟨Dk.imp fun D σ H ⟨ρ,S,δ,o,S',E,hf,q⟩=>by
 cases hf;exact q σ ρ H (Pre.refl ρ H) E⟩
theorem au{st:Stmt}{rest:List Stmt}(h1:PZ X cl st F)(h2:FW X cl rest G):FW X cl (st ::rest) (bB F G):=⟨(zo h1.1 h2.1).imp fun D σ H ⟨ρ,S,δ,o,S',E,hf,q⟩=>by
 obtain⟨o1,S1,h1,h2⟩:=R3.ao hf;refine⟨ρ,S,δ,o1,S1,E,h1,?_⟩;cases o1 with
 | nx dv=>
   intro P0 cD H1 p1 E1;exact⟨cD,S1,dv,o,S',E1,h2,q.pre p1⟩
 | rt d=>
   cases h2;exact q⟩
theorem aM{st:Stmt}(h1:PZ X cl st F):FW X cl [st] F:=⟨C8 h1.1⟩
def c0(i:Nat)(f:FX):FZ:=fun δ S=>(f δ S).bind fun v S=>R3.bJ (decide (i < δ.length)) (.ok (.nx (δ.set i (some v))) S)
theorem bA{i:Nat}{pos pos':Pos}(hN:X.N.Nodup)(hi:X.N[i]? =some x)(hx:Loc X.env.scope x)(he:PX X cl e f)(hs:swapsWith e (some (.Name x pos')) pos.line X.env=pure false:=by rfl)(hf:X.fn x=true\/X.env.scope.names.lookup x=some .local:=by first | exact .inl rfl | exact .inr rfl | assumption) :
 PZ X cl (.Assign [.Name x pos'] e pos) (c0 i f):=⟨(BZ hN hi hx he.1 hs hf).imp fun D σ H ⟨ρ,S,δ,o,S',E,hf,q⟩=>by
 obtain⟨v,S1,h1,h2⟩:=R3.ao hf;obtain⟨hi,h3⟩:=R3.bc h2;cases h3;refine⟨ρ,S,δ,v,_,E,h1,fun u cD H1 p1 w1 r1=>?_⟩
 exact q _ cD H1 p1 ((E.to p1 w1).set (by rw[<-E.len];exact of_decide_eq_true hi) r1)⟩
def eB(f:FX):FZ:=fun δ S=>(f δ S).bind fun v S=> .ok (.rt v) S
theorem bS(he:PX X cl e f):PZ X cl (.Return (some e) pos) (eB f):=⟨(Fq he.1).imp fun D σ H ⟨ρ,S,δ,o,S',E,hf,q⟩=>by
 obtain⟨v,S1,h1,h2⟩:=R3.ao hf;cases h2;exact⟨ρ,S,δ,v,_,E,h1,fun u cD H1 p1 w1 r1=>q u cD H1 p1 w1 r1⟩⟩
def yW(c:FB)(F G:FZ):FZ:=fun δ S=>(c δ S).bind fun b S=>if b then F δ S else G δ S
theorem jY(hc:HL X cl c fc)(ha:FW X cl a F)(hb:FW X cl b G):PZ X cl (.If c a b pos) (yW fc F G):=⟨(K0 hc.1 ha.1 hb.1).imp fun D σ H ⟨ρ,S,δ,o,S',E,hf,q⟩=>by
 obtain⟨k,S1,h1,h2⟩:=R3.ao hf;refine⟨ρ,S,δ,k,S1,E,h1,fun cD H1 p1 w1=>?_⟩
 cases k with
 | true=>rw [if_pos rfl] at h2;exact JU ⟨cD,S1,δ,o,S',E.to p1 w1,h2,q.pre p1⟩
 | false=>rw [if_neg (by decide)] at h2;exact Kl ⟨cD,S1,δ,o,S',E.to p1 w1,h2,q.pre p1⟩⟩
def Ao(f:FX):FZ:=fun δ S=>(f δ S).bind fun _ S=> .ok (.nx δ) S
theorem yD{pos:Pos}(he:PX X cl e f)(tH:swapsWith e none pos.line X.env=pure false:=by rfl):PZ X cl (.Expr e pos) (Ao f):=⟨(qe he.1 tH).imp fun D σ H ⟨ρ,S,δ,o,S',E,hf,q⟩=>by
 obtain⟨v,S1,h1,h2⟩:=R3.ao hf;cases h2;exact⟨ρ,S,δ,v,_,E,h1,fun u cD H1 p1 w1 r1=>q _ cD H1 p1 (E.to p1 w1)⟩⟩
def C2(c:FB)(body:FZ):Nat->FZ
 | 0,_,_=> .no
 | n+1,δ,S=>(c δ S).bind fun b S=>if b then(body δ S).bind fun o S=>match o with | .nx eM=>C2 c body n eM S | .rt r=> .ok (.rt r) S else .ok (.nx δ) S
def RH(n:Nat)(c:FB)(body:FZ):FZ:=fun δ S=>C2 c body n δ S
end
end L3
end
section
namespace L3
open PySem PySem.Spec PyProof.Rows L2
theorem aL.get{K:W.Frag}:∀{ds:List V3} {xs:List V} {i:Nat} {d:V3},aL K ρ H ds xs->ds[i]? =some d->∃x,xs[i]? =some x/\bb K ρ H d x
 | [],_,_,_,_,e=>by simp at e
 | d ::ds,xs,0,d',h,e=>by
   obtain⟨x,r,rfl,h1,h2⟩:=h.cJ;simp at e;subst e;exact⟨x,rfl,h1⟩
 | d ::ds,xs,i+1,d',h,e=>by
   obtain⟨x,r,rfl,h1,h2⟩:=h.cJ;obtain⟨y,e1,e2⟩:=aL.get (i:=i) h2 (by simpa using e)
   exact⟨y,by simpa using e1,e2⟩
def NJ(K:W.Frag)(ρ:P3)(H:Hp)(J:It)(vs:List V3):Prop:=∀dj H',PW ρ H dj H'->(∀a∈dj.b,∃o,H' a=some o)->(∀(i:Nat) (d:V3),vs[i]? =some d->J.go i H'/\∀x oP,J.yld i H' x oP->aU H' oP/\bb K dj oP d x)/\J.stop vs.length H'
theorem NJ.of{K:W.Frag}{ρ:P3}{J:It}{ds:List D}(h:HC K ρ.b H J ds):NJ K ρ H J (ds.map .d):=fun dj H' p bs=>by
 obtain⟨h1,h2⟩:=h dj.b H' p.bj;refine⟨fun i v hv=>?_,by rw[List.length_map];exact h2⟩
 rw[List.getElem?_map] at hv;cases e:ds[i]? with
 | none=>rw [e] at hv;cases hv
 | some d=>
   rw[e] at hv;cases hv;obtain⟨g1,g2⟩:=h1 i d e;exact⟨g1,fun x oP y=>let⟨s,r⟩:=g2 x oP y bs;⟨s,by unfold bb;exact r⟩⟩
def SK(K:W.Frag)(cl:X3)(f:FA):TI:=fun σ H R=>∃ρ S δ vs S',gb K cl ρ H S σ δ/\f δ S= .ok vs S'/\∀J cD H1,Pre ρ H cD H1->SW K cl cD H1 S'->NJ K cD H1 J vs->R J H1
structure Ni (X:Cx) (cl:X3) (tg e:Expr) (f:FA):Prop where
 go:PI X tg e (SK X.K cl f)
section
variable {X:Cx} {cl:X3}
def iP(f:aw->R (List D)):FA:=fun δ S=>(R3.of (f (down δ)) S).bind fun ds S=> .ok (ds.map .d) S
theorem dX{f:aw->R (List D)}(h:Ax X tg e f):Ni X cl tg e (iP f):=⟨h.1.imp fun σ H Q ⟨ρ,S,δ,vs,S',E,hf,q⟩=>by
 obtain⟨ds,S1,h1,h2⟩:=R3.ao hf;obtain⟨h3,e3⟩:=R3.of_ok h1;cases h2;subst e3;exact⟨[],ρ.b,down δ,ds,E.down,h3,fun J H1 s r=>q J ρ H1 (Pre.same s) (E.sw.same s) (NJ.of r)⟩⟩
def so(f:FX):FA:=fun δ S=>(f δ S).bind fun v S=>match v with | .d (.int j)=>R3.bJ (decide (-(2 ^ 62)<=j/\j < 2 ^ 62)) (.ok ((eg 0 j.toNat).map .d) S) | _=> .no
theorem l8{tg a:Expr}{p pos:Pos}(h:PX X cl a f)(hg:Gl X "range")(hm:X.mg "range"=none)(hs:starEach [a] X.env=[(false,eval a X.env)]:=by rfl):Ni X cl tg (.Call (.Name "range" p) [a] [] pos) (so f):=
 ⟨(wY hg hm (gI h.1 j5 hs) hs).imp fun σ H RR ⟨ρ,S,δ,vs,S',E,hf,q⟩=>by
   obtain⟨v,S1,h1,h2⟩:=R3.ao hf
   match v,h1,h2 with
   | .d (.int j),h1,h2=>
     obtain⟨hb,h3⟩:=R3.bc h2;cases h3;have hb:=of_decide_eq_true hb;refine⟨ρ,S,δ, .d (.int j),_,E,h1,fun u cD H1 p1 w1 r1=>⟨j,?_,hb.1,hb.2,q _ cD H1 p1 w1 (NJ.of (GK 0 _))⟩⟩
     unfold bb Rep at r1;rw[r1]
   | .d .de,_,h2=>cases h2
   | .d (.bl _),_,h2=>cases h2
   | .d (.str _),_,h2=>cases h2
   | .d (.lst _),_,h2=>cases h2
   | .d (.tup _),_,h2=>cases h2
   | .d (.dct _ _),_,h2=>cases h2
   | .loc _,_,h2=>cases h2
   | .lst _,_,h2=>cases h2
   | .tup _,_,h2=>cases h2⟩
def u0(f:FX):FA:=fun δ S=>(f δ S).bind fun v S=>match v with | .d (.lst ds)=> .ok (ds.map .d) S | .lst vs=> .ok vs S | _=> .no
theorem kE(h:PX X cl e f):Ni X cl tg e (u0 f):=⟨by
 intro pins s σ H RR I ⟨ρ,S,δ,vs,S',E,hf,q⟩;obtain⟨v,S1,h1,h2⟩:=R3.ao hf;refine eN (h.1 pins s σ H (fun u H1=>∃cD,Pre ρ H cD H1/\SW X.K cl cD H1 S1/\bb X.K cD H1 v u) I ⟨ρ,S,δ,v,S1,E,h1,fun u cD H1 p1 w1 r1=>⟨cD,p1,w1,r1⟩⟩) fun u s1 ⟨x,H1,I1,r1,cD,p1,w1,rr⟩=>?_
 have key:S1=S'/\∃a xs,x= .ref a/\vJ X.K cD.b H1 a xs/\aL X.K cD H1 vs xs:=by
  match v,h2,rr with
  | .d (.lst ds),h2,rr=>
    cases h2;unfold bb Rep at rr;obtain⟨a,xs,e,l,r⟩:=rr;exact⟨rfl,a,xs,e,l,aL.of r⟩
  | .lst ws,h2,rr=>
    cases h2;unfold bb at rr;exact⟨rfl,rr⟩
  | .d .de,h2,_=>cases h2
  | .d (.bl _),h2,_=>cases h2
  | .d (.int _),h2,_=>cases h2
  | .d (.str _),h2,_=>cases h2
  | .d (.tup _),h2,_=>cases h2
  | .d (.dct _ _),h2,_=>cases h2
  | .loc _,h2,_=>cases h2
  | .tup _,h2,_=>cases h2
 obtain⟨rfl,a,xs,rfl,l,rr⟩:=key;cases r1;obtain⟨its,rv,p,hz⟩:=I1.list l.sq;refine wpAny_pyIter_list p.isList ?_;refine⟨s1.heap.objs.size,[s1.heap.objs.size],_,_,H1,rfl,I1.kept (t':=s1.toks) fun b o e=>Heap.get?_push_of_some _ e,xk a _,⟨_,Heap.get?_push_size _ rfl,rfl,rfl⟩,fun b hb=>?_,q _ cD H1 p1 w1 fun dj H' pr bs=>?_⟩
 .have e:b=s1.heap.objs.size:=by simpa using hb
  subst e;exact I1.vR (Nat.le_refl _) (I1.hok.fresh (Nat.le_refl _))
 .have l':vJ X.K dj.b H' a xs:=l.bj pr.bj;have rr':=rr.pw pr;refine⟨fun i d hd=>?_,⟨xs,l'.sq,by rw[rr.length];exact Nat.le_refl _⟩⟩
  obtain⟨x,hx,rx⟩:=rr'.get hd;exact⟨⟨xs,x,l'.sq,hx⟩,fun y oP ⟨e1,e2⟩=>by
   subst e1;have:=e2 xs l'.sq;rw[hx] at this;cases this;exact⟨aU.refl _,rx⟩⟩⟩
abbrev FG:=V3->DE->Option DE
abbrev IS:=List V3->DE->Option DE
def gX(K:W.Frag)(cl:X3)(t:FG):TG:=fun v σ H Q=>∃ρ S δ x eL,gb K cl ρ H S σ δ/\bb K ρ H x v/\t x δ=some eL/\∀dC H',aU H H'->gb K cl ρ H' S dC eL->Q dC H'
def UA(K:W.Frag)(cl:X3)(t:IS):GA:=fun v σ H Q=>∃ρ S δ x eL,gb K cl ρ H S σ δ/\aL K ρ H x v/\t x δ=some eL/\∀dC H',aU H H'->gb K cl ρ H' S dC eL->Q dC H'
structure LB (X:Cx) (cl:X3) (tg:Expr) (t:FG):Prop where
 go:PG X tg (gX X.K cl t)
structure ID (X:Cx) (cl:X3) (tg:List Expr) (t:IS):Prop where
 go:JZ X tg (UA X.K cl t)
theorem gb.same{K:W.Frag}{S:aN}{σ:L2.St}{δ:DE}(E:gb K cl ρ H S σ δ)(s:aU H H'):gb K cl ρ H' S σ δ:=E.to (Pre.same s) (E.sw.same s)
def lJ(i:Nat):FG:=fun d δ=>if i < δ.length then some (δ.set i (some d)) else none
theorem aZ{i:Nat}{pos:Pos}(hN:X.N.Nodup)(hi:X.N[i]? =some x)(hx:Loc X.env.scope x)(hf:X.fn x=true\/X.env.scope.names.lookup x=some .local:=by first | exact .inl rfl | exact .inr rfl | assumption):LB X cl (.Name x pos) (lJ i):=
 ⟨(CQ hN hi hx hf).imp fun v σ H Q ⟨ρ,S,δ,d,eL,E,r,ht,q⟩=>by
   unfold lJ at ht;split at ht
   .rename_i hi;cases ht;exact q _ H (aU.refl H) (E.set (by rw[<-E.len];exact hi) r)
   .cases ht⟩
def NA:IS:=fun ds δ=>match ds with | []=>some δ | _=>none
def Cj(t:FG)(u:IS):IS:=fun ds δ=>match ds with | d ::r=>(t d δ).bind fun eL=>u r eL | []=>none
theorem nH:ID X cl [] NA:=⟨Ci.imp fun vs σ H Q ⟨ρ,S,δ,ds,eL,E,r,ht,q⟩=>by
 cases ds with
 | nil=>unfold aL at r;cases ht;exact⟨r,q σ H (aU.refl H) E⟩
 | cons=>cases ht⟩
theorem dm{u:IS}(h1:LB X cl e t)(h2:ID X cl es u)(hs:(assignEach (e ::es) X.env).map (·.2)=assign e X.env ::(assignEach es X.env).map (·.2):=by rfl):ID X cl (e ::es) (Cj t u):=
 ⟨(zl h1.1 h2.1 hs).imp fun vs σ H Q ⟨ρ,S,δ,ds,eL,E,r,ht,q⟩=>by
   cases ds with
   | nil=>cases ht
   | cons d ds=>
     obtain⟨x,xs,rfl,r1,r2⟩:=r.cJ;have ht:(t d δ).bind (fun eL=>u ds eL)=some eL:=ht
     cases e1:t d δ with
     | none=>rw [e1] at ht;cases ht
     | some dv=>
       rw[e1] at ht;exact⟨x,xs,rfl,ρ,S,δ,d,dv,E,r1,e1,fun P0 H1 s1 E1=>⟨ρ,S,dv,ds,eL,E1,r2.pre (Pre.same s1),ht,fun yL H2 s2 E2=>q yL H2 (s1.trans s2) E2⟩⟩⟩
def Nf(n:Nat)(t:IS):FG:=fun d δ=>match d with
 | .d (.tup ds)=>if ds.length=n then t (ds.map .d) δ else none
 | .tup vs=>if vs.length=n then t vs δ else none
 | _=>none
theorem qy{k:Nat}{t:IS}{n:Nat}{pos:Pos}(hc:X.calm=true)(h:ID X cl es t)(hn:(assignEach es X.env).length=n:=by rfl)(Ig:(assignEach es X.env).findIdx? (·.1)=none:=by rfl):LB X cl (.Tuple es k pos) (Nf n t):=
 ⟨(Fu hc h.1 hn Ig).imp fun v σ H Q ⟨ρ,S,δ,d,eL,E,r,ht,q⟩=>by
   have key:∃vs a xs,v= .ref a/\vY X.K ρ.b H a xs/\aL X.K ρ H vs xs/\vs.length=n/\t vs δ=some eL:=by
    unfold Nf at ht;split at ht
    .rename_i ds;split at ht
     .rename_i hl;unfold bb Rep at r;obtain⟨a,xs,e,l,r⟩:=r;exact⟨ds.map .d,a,xs,e,l,aL.of r,by rw[List.length_map];exact hl,ht⟩
     .cases ht
    .rename_i vs;split at ht
     .rename_i hl;unfold bb at r;obtain⟨a,xs,e,l,r⟩:=r;exact⟨vs,a,xs,e,l,r,hl,ht⟩
     .cases ht
    .cases ht
   obtain⟨vs,a,xs,rfl,l,r,hl,ht⟩:=key;exact⟨a,xs,rfl,l.sq,by rw[<-r.length];exact hl,ρ,S,δ,vs,eL,E,r,ht,q⟩⟩
def LZ(f:FX)(t:FG):FZ:=fun δ S=>(f δ S).bind fun d S=>match t d δ with | some eL=> .ok (.nx eL) S | none=> .no
theorem MH{tg e:Expr}{f:FX}{t:FG}{pos:Pos}(he:PX X cl e f)(hg:LB X cl tg t)(hs:swapsWithSole [tg] e pos.line X.env=pure false:=by rfl)(hw:swappedStores [tg] e X.env=pure none:=by rfl)
 (h1:(assignEach [tg] X.env).map (·.2)=[assign tg X.env]:=by rfl):PZ X cl (.Assign [tg] e pos) (LZ f t):=⟨(FH he.1 hg.1 hs hw h1).imp fun D σ H ⟨ρ,S,δ,o,S',E,hf,q⟩=>by
 obtain⟨d,S1,h1,h2⟩:=R3.ao hf;split at h2
 .rename_i dv e1;cases h2;exact⟨ρ,S,δ,d,_,E,h1,fun v cD H1 p1 w1 r1=>⟨cD,_,δ,d,dv,E.to p1 w1,r1,e1,fun dC H2 s2 E2=>q dC cD H2 (p1.trans (Pre.same s2)) E2⟩⟩
 .cases h2⟩
def n6(t:FG)(body:FZ):List V3->FZ
 | [],δ,S=> .ok (.nx δ) S
 | d ::ds,δ,S=>match t d δ with
   | none=> .no
   | some dv=>(body dv S).bind fun o S=>match o with | .nx eM=>n6 t body ds eM S | .rt r=> .ok (.rt r) S
def lL(it:FA)(t:FG)(body:FZ):FZ:=fun δ S=>(it δ S).bind fun vs S=>n6 t body vs δ S
theorem fJ{tg iter:Expr}{body:List Stmt}{it:FA}{t:FG}{F:FZ}{pos:Pos}(hp:PassesOwn (model X.prog X.w) X.A X.env X.xe)(hc:X.calm=true)(hi:Ni X cl tg iter it)(hg:LB X cl tg t)(hb:FW X cl body F)
 (hs:∀x,foldedSetIterable iter X.env x=pure x:=by intro _;rfl):PZ X cl (.For tg iter body [] pos) (lL it t F):=⟨(Fc hp hc hi.1 hg.1 hb.1 hs).imp fun D σ H ⟨ρ,S,δ,o,S',E,hf,q⟩=>by
 obtain⟨ds,S0,h1,h2⟩:=R3.ao hf;refine⟨ρ,S,δ,ds,S0,E,h1,fun J cD H1 p1 w1 ir=>?_⟩
 refine⟨fun i m dC H'=>m=ds.length - i/\i<=ds.length/\∃dj S1 eL,Pre cD H1 dj H'/\gb X.K cl dj H' S1 dC eL/\n6 t F (ds.drop i) eL S1= .ok o S',⟨ds.length,rfl,Nat.zero_le _,cD,S0,δ,Pre.refl cD H1,E.to p1 w1,by simpa using h2⟩,?_⟩
 rintro i m dC H' ⟨rfl,hi,dj,S1,eL,pv,E',hl⟩;obtain⟨go,stop⟩:=ir dj H' pv.pw E'.sw.bs;by_cases hlt:i < ds.length
 .have hd:ds[i]? =some ds[i]:=List.getElem?_eq_getElem hlt;have hdrop:ds.drop i=ds[i] ::ds.drop (i+1):=List.drop_eq_getElem_cons hlt;rw[hdrop] at hl;unfold n6 at hl;split at hl
  .cases hl
  .rename_i dv h3;obtain⟨o1,S2,h5,h6⟩:=R3.ao hl;obtain⟨g1,g2⟩:=go i _ hd;refine .inr ⟨g1,fun yL H2=>∃vB S2 eM,Pre cD H1 vB H2/\gb X.K cl vB H2 S2 yL eM/\n6 t F (ds.drop (i+1)) eM S2= .ok o S',fun yL H2 n=>⟨ds.length - (i+1),by omega,rfl,hlt,n⟩,fun x oP y=>?_⟩
   obtain⟨ss,rr⟩:=g2 x oP y;refine⟨dj,S1,eL,ds[i],dv,E'.same ss,rr,h3,fun yL H2 s2 E2=>⟨dj,S1,dv,o1,S2,E2,h5,?_⟩⟩
   have pv2:Pre cD H1 dj H2:=pv.trans (Pre.same (ss.trans s2));cases o1 with
   | nx eM=>exact fun KA KC H3 p3 E3=>⟨KC,S2,eM,pv2.trans p3,E3,h6⟩
   | rt d=>
     cases h6;exact fun v KC H3 p3 w r=>q v KC H3 (p1.trans (pv2.trans p3)) w r
 .have e:i=ds.length:=by omega
  subst e;rw[List.drop_length] at hl;cases hl;exact .inl ⟨stop,q dC dj H' (p1.trans pv) E'⟩⟩
end
end L3
end
section
namespace L3
open PySem PySem.Spec PyProof.Rows L2
mutual
def oa(n:Nat):V3->Bool
 | .d _=>true
 | .loc k=>decide (k < n)
 | .lst vs=>iF n vs
 | .tup vs=>iF n vs
def iF(n:Nat):List V3->Bool
 | []=>true
 | v ::vs=>oa n v && iF n vs
end
def pL(n:Nat):SO->Bool
 | .ins _ fs=>iF n (fs.map (·.2))
 | _=>true
theorem Kj{ρ:P3}{n:Nat}{b:Addr}(h:b∈(ρ.cut n).b):b∈ρ.b:=by
 rcases P3.ei.mp h with z | z
 .exact P3.ei.mpr (.inl ⟨List.mem_of_mem_take z.1,z.2⟩)
 .exact P3.ei.mpr (.inr z)
theorem j1{ρ:P3}(n:Nat):dO ρ.b H (ρ.cut n).b H:=fun b o e nb=>⟨e,fun hb=>nb (Kj hb)⟩
mutual
theorem bb.cut{K:W.Frag}{ρ:P3}{n:Nat}:∀{v:V3} {x:V},oa n v=true->bb K ρ H v x->bb K (ρ.cut n) H v x
 | .d y,x,_,h=>by unfold bb at h ⊢;exact h.bj (j1 n)
 | .loc k,x,o,h=>by
   unfold bb at h ⊢;unfold oa at o;obtain⟨a,h1,h2⟩:=h;exact⟨a,by show(ρ.r.take n)[k]? =_;rw [List.getElem?_take_of_lt (of_decide_eq_true o)];exact h1,h2⟩
 | .lst vs,x,o,h=>by
   unfold bb at h ⊢;unfold oa at o;obtain⟨a,xs,e,l,r⟩:=h;exact⟨a,xs,e,l.bj (j1 n),aL.cut o r⟩
 | .tup vs,x,o,h=>by
   unfold bb at h ⊢;unfold oa at o;obtain⟨a,xs,e,l,r⟩:=h;exact⟨a,xs,e,vY.bj (j1 n) l,aL.cut o r⟩
theorem aL.cut{K:W.Frag}{ρ:P3}{n:Nat}:∀{vs:List V3} {xs:List V},iF n vs=true->aL K ρ H vs xs->aL K (ρ.cut n) H vs xs
 | [],_,_,h=>by unfold aL at h ⊢;exact h
 | v ::vs,xs,o,h=>by
   unfold iF at o;obtain⟨o1,o2⟩:=Bool.and_eq_true_iff.mp o;obtain⟨x,r,rfl,h1,h2⟩:=h.cJ;exact aL.cons (bb.cut o1 h1) (aL.cut o2 h2)
end
theorem SW.cut{K:W.Frag}{cl:X3}{ρ:P3}{S:aN}(w:SW K cl ρ H S){n:Nat}(ok:(S.take n).all (pL n)=true):SW K cl (ρ.cut n) H (S.take n):=
 ⟨by show(ρ.r.take n).length=_;rw [List.length_take,List.length_take,w.len],fun i j a hi hj=>by
   have hi:(ρ.r.take n)[i]? =some a:=hi;have hj:(ρ.r.take n)[j]? =some a:=hj;have gi:ρ.r[i]? =some a:=by
    rw[List.getElem?_take] at hi;split at hi
    .exact hi
    .cases hi
   have gj:ρ.r[j]? =some a:=by
    rw[List.getElem?_take] at hj;split at hj
    .exact hj
    .cases hj
   exact w.nd i j a gi gj,fun k a o hk ho=>by
   have hk:(ρ.r.take n)[k]? =some a:=hk;have gk:ρ.r[k]? =some a:=by
    rw[List.getElem?_take] at hk;split at hk
    .exact hk
    .cases hk
   have go:S[k]? =some o:=by
    rw[List.getElem?_take] at ho;split at ho
    .exact ho
    .cases ho
   have r:=w.ob k a o gk go;have oo:pL n o=true:=List.all_eq_true.mp ok o (List.mem_of_getElem? ho);cases o with
   | lst ds=>obtain⟨xs,e,q⟩:=r;exact⟨xs,e,q.bj (j1 n)⟩
   | dct ba=>obtain⟨ys,e,e2,q⟩:=r;exact⟨ys,e,e2,q.bj (j1 n)⟩
   | ins c fs=>obtain⟨dx,ys,e,e2,q⟩:=r;exact⟨dx,ys,e,e2,q.cut oo⟩
   | mf=>exact r,fun b hb=>let⟨h1,h2⟩:=w.zb b hb;⟨h1,fun h=>h2 (List.mem_of_mem_take h)⟩,(fun k a hk ho=>by
   have hk:(ρ.r.take n)[k]? =some a:=hk;rw[List.getElem?_take] at hk;split at hk
   .rename_i hlt;rw[List.getElem?_take_of_lt hlt] at ho;exact w.fz k a hk ho
   .cases hk),w.ff,(fun k a hk ho=>by
   have hk:(ρ.r.take n)[k]? =some a:=hk;rw[List.getElem?_take] at hk;split at hk
   .rename_i hlt;rw[List.getElem?_take_of_lt hlt] at ho;exact w.fi k a hk ho
   .cases hk)⟩
theorem SW.Mt{K:W.Frag}{cl:X3}{ρ dj:P3}{n:Nat}(hn:ρ.r.length<=n)(p:Pre ρ H dj H'):Pre ρ H (dj.cut n) H':=
 ⟨p.bj.trans (j1 n),p.zz,p.zs,fun k a h=>by show(dj.r.take n)[k]? =_;rw [List.getElem?_take_of_lt (Nat.lt_of_lt_of_le (List.getElem?_eq_some_iff.mp h).1 hn)];exact p.ext k a h⟩
section
variable {X:Cx} {cl:X3}
def dg(S:aN)(k:Nat):Option (List D):=match S[k]? with | some (.lst ds)=>some ds | _=>none
theorem en{S:aN}{k:Nat}{ds:List D}(h:dg S k=some ds):S[k]? =some (.lst ds):=by
 unfold dg at h;split at h
 .rename_i e;cases h;exact e
 .cases h
def jZ(δ:DE)(i:Nat):Option Nat:=match δ[i]? with | some (some (.loc k))=>some k | _=>none
theorem mG{δ:DE}{i k:Nat}(h:jZ δ i=some k):δ[i]? =some (some (.loc k)):=by
 unfold jZ at h;split at h
 .rename_i e;cases h;exact e
 .cases h
def pK(i:Nat)(f:FX):FZ:=fun δ S=>match jZ δ i with
 | none=> .no
 | some k=>match dg S k with
   | none=> .no
   | some _=>(f δ S).bind fun v S1=>match v with
     | .d d=>(match dg S1 k with | some ds=>R3.bJ (decide (ds.length < sizeLine)) (.ok (.nx δ) (S1.set k (.lst (ds++[d])))) | none=> .no)
     | _=> .no
theorem kZ{i:Nat}{x:Str}{e:Expr}{f:FX}{e_ apos cG pos:Pos}(hN:X.N[i]? =some x)(hv:F9 X.env.scope x)(he:PX X cl e f)
 (hd:(x==("__debug__":Str))=false:=by decide) (r6:(x==("__classdict__":Str))=false:=by decide)
 (hs:starEach [e] X.env=(false,eval e X.env) ::starEach [] X.env:=by rfl) (l0:(apos.endLine==cG.line)=true:=by rfl)
 (rO:((backTo cG (starEach [e] X.env)).all (fun x=>!x.1) && (backToKw cG (keywordEach [] X.env)).all (fun x=>x.1.isSome)
   && decide (([e]:List Expr).length+([]:List Keyword).length+(if([]:List Keyword).isEmpty then 0 else 1) < 30))=true:=by rfl)
 (tH:swapsWith (.Call (.Attribute (.Name x e_) "append" apos) [e] [] cG) none pos.line X.env=pure false:=by rfl)
 (l3:attributeBase (.Name x e_) "append" X.env (eval (.Name x e_) X.env)=eval (.Name x e_) X.env:=by rfl) :
 PZ X cl (.Expr (.Call (.Attribute (.Name x e_) "append" apos) [e] [] cG) pos) (pK i f):=by
 refine⟨(qe (C3 (X:=X) PySem.F.plainAttrs_list PySem.F.slot_list_append PySem.F.type_list_append rE (rG hN hv hd r6) (gI he.1 j5 hs) l3 rO l0 hs) tH).imp fun D σ H ⟨ρ,S,δ,o,S',E,hf,q⟩=>?_⟩
 unfold pK at hf;split at hf
 .cases hf
 .rename_i k hk;split at hf
  .cases hf
  .rename_i ds0 h0;obtain⟨v,S1,h1,h2⟩:=R3.ao hf;split at h2
   .rename_i d;split at h2
    .rename_i ds h3;obtain⟨hl,h4⟩:=R3.bc h2;cases h4;obtain⟨u,u1,u2⟩:=E.val i _ (mG hk);unfold bb at u2;obtain⟨a,a1,rfl⟩:=u2;obtain⟨Sw,x0,_⟩:=E.sw.ob k a _ a1 (en h0);refine⟨.ref a,u1, .inl ⟨rfl,Sw,pH.of x0⟩,⟨ρ,S,δ, .d d,S1,E,h1,fun y cD H1 p1 w1 r1=>?_⟩⟩
     have b1:=p1.ext k a a1;obtain⟨xs,x1,x2⟩:=w1.ob k a _ b1 (en h3);refine⟨a,xs,y,rfl,rfl,x1,by rw[<-x2.length];exact of_decide_eq_true hl,?_⟩
     unfold bb at r1;obtain⟨w2,p2⟩:=w1.put (o:= .lst (ds++[d])) (u:= .lst (xs++[y])) b1 (w1.fz k a b1 (by rw[en h3];intro h;cases h)) ⟨xs++[y],rfl,x2.append (aI.cons r1 aI.nil)⟩
     exact q σ cD _ (p1.trans p2) (E.to (p1.trans p2) w2)
    .cases h2
   .cases h2
def Ka(fo fi fe:FX):FZ:=fun δ S=>(fe δ S).bind fun v S1=>(fo δ S1).bind fun o S2=>(fi δ S2).bind fun j S3=>match v,o,j with
 | .d d, .loc k, .d (.int n)=>(match dg S3 k with
   | some ds=>(match Cq ds.length n with | some m=> .ok (.nx δ) (S3.set k (.lst (ds.set m d))) | none=> .no)
   | none=> .no)
 | _,_,_=> .no
def FY(K:W.Frag)(cl:X3)(n:Nat)(g:List V3->aN->R3 V3):Sp:=fun vs H Q _=>vs.length=n/\∃ρ S xs v S',SW K cl ρ H S/\aL K ρ H xs vs/\g xs S= .ok v S'/\∀u dj H',Pre ρ H dj H'->SW K cl dj H' S'->bb K dj H' v u->Q u H'
def cE(g:List V3->aN->R3 V3)(fs:FA):FX:=fun δ S=>(fs δ S).bind g
def aW(P:Program)(w:World)(K:W.Frag)(mg:X2)(base:Heap)(cl:X3)(k:Nat)(x:Str)(n:Nat)(g:List V3->aN->R3 V3):Prop:=
 ∃(f:Addr) (fd:FuncData) (ps:List Str),jC P w K mg base vN k f fd ps (FY K cl n g)/\mg x=some (.ref f)/\PySem.W.keepIn K (.ref f)=true/\Binds K fd ps []
theorem bu{g:List V3->aN->R3 V3}{k j n:Nat}{x:Str}{p pos:Pos}{e:Expr}{es:List Expr}{fs:FA}(C:aW X.prog X.w X.K X.mg X.base cl k x n g)(hr:eS j X.A)(HV:k<=j)(hg:Gl X x)(ha:Il X cl (e ::es) fs)
 (hn:∀δ S ds S',fs δ S= .ok ds S'->ds.length=n) (qT:(x==("__debug__":Str))=false:=by decide) (he:starEach (e ::es) X.env=(false,eval e X.env) ::starEach es X.env:=by rfl) (oH:(backTo pos (starEach es X.env)).any (·.1)=false:=by rfl) :
 PX X cl (.Call (.Name x p) (e ::es) [] pos) (cE g fs):=by
 obtain⟨f,fd,ps,F,hm,hk,hb⟩:=C;refine⟨(yC F (hr.mono HV) hg hm hk hb .nil Ar ha.1 qT he oH).imp fun σ H Q ⟨ρ,S,δ,v,S',E,hf,q⟩=>?_⟩
 obtain⟨vs,S1,h1,h2⟩:=R3.ao hf;refine⟨ρ,S,δ,vs,S1,E,h1,fun us cD H1 p1 w1 r1=>?_⟩
 show FY X.K cl n g (us++[]) H1 Q E0;rw[List.append_nil];exact⟨by rw[<-r1.length];exact hn δ S vs S1 h1,cD,S1,vs,v,S',w1,r1,h2,fun z vB H2 p2 w2 r2=>q z vB H2 (p1.trans p2) w2 r2⟩
end
def cq(N:List Str)(vs:List V3):DE:=vs.map some++List.replicate (N.length - vs.length) none
theorem Hg{K:W.Frag}{cl:X3}{S:aN}{N:List Str}{ds:List V3}{vs:List V}(w:SW K cl ρ H S)(r:aL K ρ H ds vs):gb K cl ρ H S (L2.start N vs) (cq N ds) where
 len:=by unfold L2.start cq;simp [r.length]
 sw:=w
 val:=fun i d e=>by
  unfold cq at e;unfold L2.start;by_cases hi:i < ds.length
  .rw [List.getElem?_append_left (by simpa using hi),List.getElem?_map] at e
   cases q:ds[i]? with
   | none=>rw [q] at e;cases e
   | some d'=>
     rw[q] at e;cases e;obtain⟨x,h1,h2⟩:=r.get q;exact⟨x,by rw[List.getElem?_append_left (by rw[List.length_map,<-r.length];exact hi),List.getElem?_map,h1];rfl,h2⟩
  .rw [List.getElem?_append_right (by simpa using hi),List.getElem?_replicate] at e
   split at e <;> cases e
def mV(N:List Str)(F:FZ):List V3->aN->R3 V3:=fun vs S=>(F (cq N vs) S).bind fun o S'=>match o with | .rt v=> .ok v S' | .nx _=> .ok (.d .de) S'
def oF(N:List Str)(F:FZ):List V3->aN->R3 V3:=fun vs S=>(mV N F vs S).bind fun v S'=>match res S' v with
 | some d=>R3.bJ ((S'.take S.length).all (pL S.length) && eu S.length v) (.ok (.d d) (S'.take S.length))
 | none=> .no
theorem I0{P:Program}{w:World}{K:W.Frag}{mg:X2}{base:Heap}{cl:X3}{x qual:Str}{st:Stmt}{f:Addr}{fd:FuncData}{N ps:List Str}{k:Nat}{F:FZ}(Fn:CI K x qual st f fd)(S:aR N ps (az st))
 (lY:∀(dD:Value) (A:Around) (outer:List Env) (s:Shared) (H:Hp) (E:XK),eS k (A.deeper (envOfC qual (az st) s.heap.objs.size f dD))->
   FW (uJ vN P w K mg base N qual (az st) f dD A outer s H E).JS cl (aK st) F):jC P w K mg base vN (k+1) f fd ps (FY K cl ps.length (mV N F)):=by
 refine Fn.ok S (fun vs H Q E h=>h.1) (fun dD A outer s H vs Q E hr h=>⟨_,(lY dD A outer s H E hr).1,?_⟩)
 obtain⟨_,ρ,S,ds,v,S',w,r,hg,q⟩:=h;obtain⟨o,S1,h1,h2⟩:=R3.ao hg;refine⟨ρ,S,cq N ds,o,S1,Hg w r,h1,?_⟩;cases o with
 | nx eL=>
   cases h2;exact fun dC dj H' p' E'=>q _ dj H' p' E'.sw (by unfold bb Rep;rfl)
 | rt d'=>
   cases h2;exact fun u dj H' p' w' r'=>q u dj H' p' w' r'
theorem Bn{K:W.Frag}{cl:X3}{N:List Str}{n:Nat}{vs:List V}{Q:VK}{E:XK}(h:FY K cl n (oF N F) vs H Q E):FY K cl n (mV N F) vs H Q E:=by
 obtain⟨hl,ρ,S,xs,v,S',w,r,hg,q⟩:=h;obtain⟨v1,S1,h1,h2⟩:=R3.ao hg;refine⟨hl,ρ,S,xs,v1,S1,w,r,h1,fun u cD H1 p1 w1 r1=>?_⟩
 have pc:Pre ρ H (cD.cut S.length) H1:=SW.Mt (K:=K) (cl:=cl) (by rw[w.len];exact Nat.le_refl _) p1
 split at h2
 .rename_i d e;obtain⟨ok,h3⟩:=R3.bc h2;obtain⟨ok,hk⟩:=Bool.and_eq_true_iff.mp ok;cases h3;refine q u _ H1 pc (w1.cut ok) ?_;unfold bb;refine r1.resB w1 (j1 _) (fun k a hk a1 ha=>?_) hk e
  rcases P3.ei.mp ha with⟨z,_⟩ | z
  .obtain⟨j,hj⟩:=List.getElem?_of_mem z;have hj:(cD.r.take S.length)[j]? =some a:=hj;rw[List.getElem?_take] at hj;split at hj
   .rename_i hjl;have:=w1.nd j k a hj a1;omega
   .cases hj
  .exact(w1.zb a z).2 (List.mem_of_getElem? a1)
 .cases h2
end L3
end
section
namespace L3
open PySem PySem.Spec PyProof.Rows L2
theorem aI.setAt{K:W.Frag}{ρ:P3}:∀{ds:List D} {xs:List V} {m:Nat} {d:D} {v:V},aI K ρ.b H ds xs->Rep K ρ.b H d v->aI K ρ.b H (ds.set m d) (xs.set m v)
 | [],_,_,_,_,h,_=>by unfold aI at h;subst h;exact aI.nil
 | e ::ds,xs,0,d,v,h,r=>by
   obtain⟨x,r',rfl,h1,h2⟩:=h.cJ;exact aI.cons r h2
 | e ::ds,xs,m+1,d,v,h,r=>by
   obtain⟨x,r',rfl,h1,h2⟩:=h.cJ;exact aI.cons h1 (aI.setAt h2 r)
section
variable {X:Cx} {cl:X3}
theorem FI{o i e:Expr}{fo fi fe:FX}{jN pos:Pos}(he:PX X cl e fe)
 (hg:PG X (.Subscript o i jN) (OU (tX X.K cl fo) (tX X.K cl fi) La))
 (hs:swapsWithSole [.Subscript o i jN] e pos.line X.env=pure false:=by rfl) (hw:swappedStores [.Subscript o i jN] e X.env=pure none:=by rfl)
 (h1:(assignEach [.Subscript o i jN] X.env).map (·.2)=[assign (.Subscript o i jN) X.env]:=by rfl):PZ X cl (.Assign [.Subscript o i jN] e pos) (Ka fo fi fe):=⟨(FH he.1 hg hs hw h1).imp fun D σ H ⟨ρ,S,δ,ou,S',E,hf,q⟩=>by
 obtain⟨v,S1,h1,h2⟩:=R3.ao hf;obtain⟨vo,S2,h3,h4⟩:=R3.ao h2;obtain⟨vi,S3,h5,h6⟩:=R3.ao h4;split at h6
 .rename_i d k n;split at h6
  .rename_i ds hds;split at h6
   .rename_i m hm;cases h6;refine⟨ρ,S,δ, .d d,S1,E,h1,fun u cD H1 p1 w1 r1=>⟨cD,S1,δ, .loc k,S2,E.to p1 w1,h3,fun u2 vB H2 p2 w2 r2=>⟨vB,S2,δ, .d (.int n),S3,(E.to p1 w1).to p2 w2,h5,fun u3 KC H3 p3 w3 r3=>?_⟩⟩⟩
    unfold bb at r2;obtain⟨a,a1,rfl⟩:=r2;have a3:=p3.ext k a a1;obtain⟨xs,x1,x2⟩:=w3.ob k a _ a3 (en hds);unfold bb Rep at r3;have vE:=r1.pre (p2.trans p3);unfold bb at vE;obtain⟨w4,p4⟩:=w3.put (o:= .lst (ds.set m d)) (u:= .lst (xs.set m u)) a3 (w3.fz k a a3 (by rw[en hds];intro h;cases h)) ⟨xs.set m u,rfl,aI.setAt x2 vE⟩
    exact⟨a,xs,n,m,rfl,r3,x1,by rw[<-x2.length];exact hm,q σ KC _ (((p1.trans p2).trans p3).trans p4) (E.to (((p1.trans p2).trans p3).trans p4) w4)⟩
   .cases h6
  .cases h6
 .cases h6⟩
def kX(δ:DE)(i:Nat):Option V3:=match δ[i]? with | some (some v)=>some v | _=>none
def mU(own:List Str)(kp:List Nat)(δ:DE):DE:=List.replicate own.length none++kp.map (kX δ)
theorem JN{K:W.Frag}{S S':aN}{σ:L2.St}{δ:DE}{own:List Str}{kp:List Nat}(E:gb K cl ρ H S σ δ)(p:PW ρ H dj H')(w:SW K cl dj H' S'):gb K cl dj H' S' (dQ own kp σ) (mU own kp δ) where
 len:=by unfold dQ mU;simp
 sw:=w
 val:=fun i d e=>by
  unfold mU at e;unfold dQ;by_cases hi:i < own.length
  .rw [List.getElem?_append_left (by simpa using hi),List.getElem?_replicate] at e
   split at e <;> cases e
  .rw [List.getElem?_append_right (by simpa using hi),List.length_replicate,List.getElem?_map] at e ⊢
   cases q:kp[i - own.length]? with
   | none=>rw [q] at e;cases e
   | some j=>
     rw[q] at e;have e:kX δ j=some d:=Option.some.inj e;unfold kX at e;split at e
     .rename_i d' ed;cases e;obtain⟨v,h1,h2⟩:=E.val j d ed;exact⟨v,by simp [h1],h2.pw p⟩
     .cases e
def nG(t:FG)(c:FB)(f:FX)(δ:DE):List V3->aN->R3 (List V3)
 | [],S=> .ok [] S
 | v ::vs,S=>match t v δ with
   | none=> .no
   | some dv=>(c dv S).bind fun b S1=>if b then(f dv S1).bind fun y S2=>(nG t c f δ vs S2).bind fun ys S3=> .ok (y ::ys) S3 else nG t c f δ vs S1
def i9(it:FA)(t:FG)(c:FB)(f:FX)(own:List Str)(kp:List Nat):FX:=fun δ S=>(it δ S).bind fun vs S1=>R3.bJ (decide (vs.length<=sizeLine)) ((nG t c f (mU own kp δ) vs S1).bind fun ys S2=> .ok (sk ys) S2)
theorem aL.append{K:W.Frag}:∀{ds es:List V3} {xs ys:List V},aL K ρ H ds xs->aL K ρ H es ys->aL K ρ H (ds++es) (xs++ys)
 | [],_,_,_,h,t=>by unfold aL at h;subst h;exact t
 | d ::ds,es,xs,ys,h,t=>by
   obtain⟨x,r,rfl,h1,h2⟩:=h.cJ;exact aL.cons h1 (aL.append h2 t)
theorem Di{K:W.Frag}{own:List Str}{kp:List Nat}{σ:L2.St}{Q:VK}(h:tX K cl (i9 it t c f own kp) σ H Q) :
 Dw (SK K cl it) (gX K cl t) (Mp K cl c) (tX K cl f) own kp σ H Q:=by
 obtain⟨ρ,S,δ,v,SF,E,hf,q⟩:=h;obtain⟨es,S1,h1,h2⟩:=R3.ao hf;obtain⟨hl,h3⟩:=R3.bc h2;have hl:=of_decide_eq_true hl;obtain⟨vs,S2,h4,h5⟩:=R3.ao h3;cases h5;refine⟨ρ,S,δ,es,S1,E,h1,fun J cD H1 p1 w1 ir Dd hD=>?_⟩
 have nDz:Dd ∉ cD.b:=fun hb=>by obtain⟨o,ho⟩:=w1.bs Dd hb;rw [hD] at ho;cases ho
 have nDr:Dd ∉ cD.r:=fun hb=>by obtain⟨o,ho⟩:=w1.rs Dd hb;rw [hD] at ho;cases ho
 have toZ:∀{r' f':List Addr} {H':Hp},Pre cD H1 ⟨r',cD.z,f'⟩ H'->PW cD H1 ⟨r',Dd ::cD.z,f'⟩ H':=fun {r' f' H'} p=>⟨fun b o e nb=>⟨(p.bj b o e nb).1,fun hb=>by
  rcases P3.ei.mp hb with z | z
  .exact(p.bj b o e nb).2 (P3.ei.mpr (.inl z))
  .rcases List.mem_cons.mp z with y | y
   .exact cV e hD y
   .exact(p.bj b o e nb).2 (P3.ei.mpr (.inr y))⟩,p.ext⟩
 have w0:SW K cl ⟨cD.r,Dd ::cD.z,cD.f⟩ (upd H1 Dd (.lst [])) S1:=by
  have s0:aU H1 (upd H1 Dd (.lst [])):=bh hD;have ws:=w1.same s0;refine⟨ws.len,ws.nd,fun k a o hk ho=>?_,fun b hb=>?_,ws.fz,ws.ff,ws.fi⟩
  .have r:=w1.ob k a o hk ho;obtain⟨u,hu⟩:=r.some;rw[s0 a u hu,<-hu];exact r.pw (toZ (Pre.same s0))
  .rcases List.mem_cons.mp hb with y | y
   .subst y;exact⟨⟨_,bq⟩,nDr⟩
   .exact ws.zb b y
 refine⟨fun i m ys H'=>m=es.length - i/\i<=es.length/\ys.length<=i/\H' Dd=some (.lst ys)/\∃r' f' S' done rest,Pre cD H1 ⟨r',cD.z,f'⟩ H'/\SW K cl ⟨r',Dd ::cD.z,f'⟩ H' S'/\vs=done++rest/\aL K ⟨r',Dd ::cD.z,f'⟩ H' done ys/\nG t c f (mU own kp δ) (es.drop i) S'= .ok rest SF,
  ⟨es.length,rfl,Nat.zero_le _,Nat.le_refl _,bq,cD.r,cD.f,S1,[],vs,Pre.same (bh hD),w0,rfl,aL.nil,by simpa using h4⟩,?_⟩
 rintro i m ys H' ⟨rfl,hi,hy,hDl,r',f',S',done,rest,pv,w',rfl,rd,hc⟩;obtain⟨go,stop⟩:=ir ⟨r',Dd ::cD.z,f'⟩ H' (toZ pv) w'.bs;have unZ:∀{Lk:P3} {H4:Hp},Pre ⟨r',Dd ::cD.z,f'⟩ H' Lk H4->Pre cD H1 ⟨Lk.r,cD.z,Lk.f⟩ H4:=fun {Lk H4} p4=>⟨fun b o e nb=>by
  obtain⟨e1,n1⟩:=(toZ pv).bj b o e nb;obtain⟨jm,n2⟩:=p4.bj b o e1 n1;refine⟨jm,fun hb=>n2 ?_⟩
  rcases P3.ei.mp hb with z | z
  .exact P3.ei.mpr (.inl z)
  .exact P3.ei.mpr (.inr (by rw[p4.zz];exact List.mem_cons_of_mem _ z)),rfl,fun b o hb h=>p4.zs b o (List.mem_cons_of_mem _ hb) (pv.zs b o hb h),fun k a h=>p4.ext k a (pv.ext k a h)⟩
 by_cases hlt:i < es.length
 .have hd:es[i]? =some es[i]:=List.getElem?_eq_getElem hlt;have hdrop:es.drop i=es[i] ::es.drop (i+1):=List.drop_eq_getElem_cons hlt;rw[hdrop] at hc;unfold nG at hc;split at hc
  .cases hc
  .rename_i dv h6;obtain⟨b,T1,h7,h8⟩:=R3.ao hc;obtain⟨g1,g2⟩:=go i _ hd;refine .inr ⟨g1,fun x H2 y=>?_⟩
   obtain⟨sy,ry⟩:=g2 x H2 y;have Ec:gb K cl ⟨r',Dd ::cD.z,f'⟩ H2 S' (dQ own kp σ) (mU own kp δ):=JN E (p1.pw.trans ((toZ pv).trans (Pre.same sy).pw)) (w'.same sy);refine⟨⟨r',Dd ::cD.z,f'⟩,S',mU own kp δ,es[i],dv,Ec,ry,h6,fun KA H3 s3 E3=>⟨⟨r',Dd ::cD.z,f'⟩,S',dv,b,T1,E3,h7,fun Lk H4 p4 w4=>?_⟩⟩
   have Pu:Pre ⟨r',Dd ::cD.z,f'⟩ H' Lk H4:=(Pre.same (sy.trans s3)).trans p4;cases b with
   | true=>
     rw[if_pos rfl] at h8;refine JU ?_;obtain⟨yv,T2,h9,RP⟩:=R3.ao h8;obtain⟨rs,T3,R1,Wg⟩:=R3.ao RP;cases Wg;refine⟨Lk,T1,dv,yv,T2,E3.to p4 w4,h9,fun v5 T5 H5 p5 w5 r5=>?_⟩
     have pv5:Pre ⟨r',Dd ::cD.z,f'⟩ H' T5 H5:=Pu.trans p5;have Sv:H5 Dd=some (.lst ys):=pv5.zs Dd _ List.mem_cons_self hDl;have u5:=unZ pv5;obtain⟨Ql,z5,f5⟩:=T5;have ez:z5=Dd ::cD.z:=pv5.zz;subst ez;have nr:Dd ∉ Ql:=(w5.zb Dd List.mem_cons_self).2;have pw:PW ⟨Ql,Dd ::cD.z,f5⟩ H5 ⟨Ql,Dd ::cD.z,f5⟩ (upd H5 Dd (.lst (ys++[v5]))):=⟨fun b o e nb=>⟨by rw[bg (fun(z:b=Dd)=>nb (by rw[z];exact P3.ei.mpr (.inr List.mem_cons_self)))];exact e,nb⟩,fun _ _ h=>h⟩
     refine⟨Sv,by omega,es.length - (i+1),by omega,rfl,hlt,by rw[List.length_append,List.length_singleton];omega,bq,Ql,f5,T2,done++[yv],rs,?_,?_,by simp,aL.append ((rd.pre pv5).pw pw) (aL.cons (r5.pw pw) aL.nil),R1⟩
     .refine⟨fun b o e nb=>⟨by rw[bg (cV e hD)];exact(u5.bj b o e nb).1,(u5.bj b o e nb).2⟩,rfl,fun b o hb h=>?_,u5.ext⟩
      rw[bg (cV h hD)];exact u5.zs b o hb h
     .refine⟨w5.len,w5.nd,fun k a o hk ho=>?_,fun b hb=>?_,w5.fz,fun b hb=>?_,w5.fi⟩
      .have ne:a≠Dd:=fun z=>nr (by rw[<-z];exact List.mem_of_getElem? hk)
       rw[bg ne];exact(w5.ob k a o hk ho).pw pw
      .obtain⟨⟨o,ho⟩,n⟩:=w5.zb b hb;refine⟨?_,n⟩;by_cases z:b=Dd
       .subst z;exact⟨_,bq⟩
       .rw [bg z];exact⟨o,ho⟩
      .obtain⟨o,ho⟩:=w5.ff b hb;by_cases z:b=Dd
       .subst z;exact⟨_,bq⟩
       .rw [bg z];exact⟨o,ho⟩
   | false=>
     rw[if_neg (by decide)] at h8
     refine Kl ?_;have V8:H4 Dd=some (.lst ys):=Pu.zs Dd _ List.mem_cons_self hDl;have u4:=unZ Pu;obtain⟨WM,z4,f4⟩:=Lk;have ez:z4=Dd ::cD.z:=Pu.zz;subst ez;exact⟨es.length - (i+1),by omega,rfl,hlt,by omega,V8,WM,f4,T1,done,rest,u4,w4,rfl,rd.pre Pu,h8⟩
 .have e:i=es.length:=by omega
  subst e;rw[List.drop_length] at hc;cases hc;rw[List.append_nil] at q;refine .inl ⟨stop,?_⟩;have back:PW ⟨r',Dd ::cD.z,f'⟩ H' ⟨r',cD.z,f'⟩ H':=⟨fun b o e nb=>⟨e,fun hb=>nb (by
   rcases P3.ei.mp hb with z | z
   .exact P3.ei.mpr (.inl z)
   .exact P3.ei.mpr (.inr (List.mem_cons_of_mem _ z)))⟩,fun _ _ h=>h⟩
  have wB:SW K cl ⟨r',cD.z,f'⟩ H' _:=⟨w'.len,w'.nd,fun k a o hk ho=>(w'.ob k a o hk ho).pw back,fun b hb=>w'.zb b (List.mem_cons_of_mem _ hb),w'.fz,w'.ff,w'.fi⟩
  refine q _ ⟨r',cD.z,f'⟩ H' (p1.trans pv) wB (xc (.inl ⟨fun hb=>?_, .inl hDl⟩) (rd.pw back))
  rcases P3.ei.mp hb with z | z
  .exact(w'.zb Dd List.mem_cons_self).2 z.1
  .exact nDz (P3.ei.mpr (.inr z))
end
end L3
end
section
namespace L3
open PySem PySem.Spec PyProof.Rows L2
section
variable {X:Cx} {cl:X3}
theorem kN{scope:Scope}{own:List Str}{kp:List Nat}{kn:List Str}{tg iter elt:Expr}{ifs:List Expr}{it:FA}{t:FG}{c:FB}{f:FX}{pos:Pos}(hc:X.calm=true)(C:bt X scope own kp kn)(hi:Ni X cl tg iter it)
 (hg:∀fp s H,LB (bo X scope (own++kn) fp s H) cl tg t) (yQ:∀fp s H,qa (bo X scope (own++kn) fp s H) ifs (Mp X.K cl c)) (he:∀fp s H,PX (bo X scope (own++kn) fp s H) cl elt f)
 (hs:∀x,foldedSetIterable iter X.env x=pure x:=by intro _;rfl):PX X cl (.ListComp elt [⟨tg,iter,ifs,0⟩] scope pos) (i9 it t c f own kp):=
 ⟨(CB hc C hi.1 (fun fp s H=>(hg fp s H).1) yQ (fun fp s H=>(he fp s H).1) hs).imp fun σ H Q h=>Di h⟩
def sW:FB:=fun _ S=> .ok true S
theorem gq:qa X [] (Mp X.K cl sW):=fun pins s σ H Q I ⟨ρ,S,δ,b,S',E,hf,q⟩=>zX pins s σ H Q I (by cases hf;exact q ρ H (Pre.refl ρ H) E.sw)
theorem zL(h:HL X cl e c):qa X [e] (Mp X.K cl c):=zx h.1
theorem AW{K:W.Frag}{i:Nat}{D:Ends}{σ:L2.St}(h:sX K cl (c0 i f) D σ H):Ew (tX K cl f) (uV i) D σ H:=by
 obtain⟨ρ,S,δ,o,S',E,hf,q⟩:=h;obtain⟨v,S1,h1,h2⟩:=R3.ao hf;obtain⟨hi,h3⟩:=R3.bc h2;cases h3;refine⟨ρ,S,δ,v,_,E,h1,fun u cD H1 p1 w1 r1=>?_⟩
 exact q _ cD H1 p1 ((E.to p1 w1).set (by rw[<-E.len];exact of_decide_eq_true hi) r1)
theorem uk{i:Nat}{x:Str}{pos' jN:Pos}{scope:Scope}{own:List Str}{kp:List Nat}{kn:List Str}{tg iter elt:Expr}{ifs:List Expr}{it:FA}{t:FG}{c:FB}{f:FX}{pos:Pos}(hc:X.calm=true)
 (hN:X.N.Nodup) (hx:X.N[i]? =some x) (EV:X.env.scope.names.lookup x=some .local) (C:bt X scope own kp kn) (hi:Ni X cl tg iter it)
 (hg:∀fp s H,LB (bo X scope (own++kn) fp s H) cl tg t) (yQ:∀fp s H,qa (bo X scope (own++kn) fp s H) ifs (Mp X.K cl c)) (he:∀fp s H,PX (bo X scope (own++kn) fp s H) cl elt f)
 (tH:swapsWith (.ListComp elt [⟨tg,iter,ifs,0⟩] scope pos) (some (.Name x pos')) jN.line X.env=pure true:=by rfl)
 (hs:∀x,foldedSetIterable iter X.env x=pure x:=by intro _;rfl):PZ X cl (.Assign [.Name x pos'] (.ListComp elt [⟨tg,iter,ifs,0⟩] scope pos) jN) (c0 i (i9 it t c f own kp)):=
 ⟨(l_ hc hN hx EV C hi.1 (fun fp s H=>(hg fp s H).1) yQ (fun fp s H=>(he fp s H).1) tH hs).imp fun D σ H h=>Di (AW h)⟩
def Xi(g:FA):FX:=fun δ S=>(g δ S).bind fun vs S1=>match s_ vs with
 | some ds=>R3.bJ (decide (ds.length<=sizeLine)) (.ok (.loc S1.length) (S1++[.lst ds]))
 | none=> .no
end
end L3
end
section
namespace L3
open PySem PySem.Spec PyProof.Rows L2
section
variable {X:Cx} {cl:X3}
def mm(g:List D->R D)(fs:FA):FX:=fun δ S=>(fs δ S).bind fun vs S1=>match s_ vs with
 | some ds=>(R3.of (g ds) S1).bind fun d S=> .ok (.d d) S
 | none=> .no
theorem Fs{K:W.Frag}{g:List D->R D}{σ:L2.St}{Q:VK}(h:tX K cl (mm g fs) σ H Q) :
 Ts K cl fs σ H fun vs H1=>∃B ds d,(∀a∈B,∃o,H1 a=some o)/\aI K B H1 ds vs/\g ds= .ok d/\∀z H',aU H1 H'->Rep K B H' d z->Q z H':=by
 obtain⟨ρ,S,δ,v,S',E,hf,q⟩:=h;obtain⟨vs,S1,h1,h2⟩:=R3.ao hf;split at h2
 .rename_i ds e;obtain⟨d,S2,h3,h4⟩:=R3.ao h2;obtain⟨h5,e5⟩:=R3.of_ok h3;cases h4;subst e5;refine⟨ρ,S,δ,vs,_,E,h1,fun us cD H1 p1 w1 r1=>?_⟩
  rw[jP e] at r1;exact⟨cD.b,ds,d,w1.bs,r1.to,h5,fun z H' s r=>q z cD H' (p1.trans (Pre.same s)) (w1.same s) (by unfold bb;exact r)⟩
 .cases h2
theorem vf{g:List D->R D}{x:Str}{id:String}{p pos:Pos}{e:Expr}{es:List Expr}{fs:FA}(hc:gn X (.builtin id) g)(hg:Gl X x)(hm:X.mg x=none)(hv:bootBuiltins x=some (.builtin id))(ha:Il X cl (e ::es) fs)(hn:x≠"__name__":=by decide)(qT:(x==("__debug__":Str))=false:=by decide)
 (he:starEach (e ::es) X.env=(false,eval e X.env) ::starEach es X.env:=by rfl) (oH:(backTo pos (starEach es X.env)).any (·.1)=false:=by rfl):PX X cl (.Call (.Name x p) (e ::es) [] pos) (mm g fs):=
 ⟨(Aa hc.r hg hm hv ha.1 hn qT he oH).imp fun σ H Q h=>Fs h⟩
def Xe(c:FB)(f g:FX):FX:=fun δ S=>(c δ S).bind fun b S=>if b then f δ S else g δ S
theorem aG:∀(δ:DE) (S:aN) (ds:List V3) (S':aN),bW δ S= .ok ds S'->ds.length=0:=fun δ S ds S' h=>by cases h;rfl
theorem ah{g:FA}{n:Nat}(h:∀(δ:DE) (S:aN) (ds:List V3) (S':aN),g δ S= .ok ds S'->ds.length=n):∀(δ:DE) (S:aN) (ds:List V3) (S':aN),ax f g δ S= .ok ds S'->ds.length=n+1:=fun δ S ds S' e=>by
 obtain⟨v,S1,h1,h2⟩:=R3.ao e;obtain⟨vs,S2,h3,h4⟩:=R3.ao h2;cases h4;rw[List.length_cons,h δ S1 vs _ h3]
end
end L3
end
section
namespace L3
open PySem PySem.Spec PyProof.Rows L2
theorem w_{K:W.Frag}{ds:List V3}{xs:List V}{i:Int}{d:V3}(r:aL K ρ H ds xs)(h:tU ds i=some d):∃x,tU xs i=some x/\bb K ρ H d x:=by
 unfold tU at h ⊢;rw[<-r.length];cases e:Cq ds.length i with
 | none=>rw [e] at h;cases h
 | some j=>
   rw[e] at h;exact r.get h
section
variable {X:Cx} {cl:X3}
def Qb(fa fb:FX):FX:=fun δ S=>(fa δ S).bind fun a S1=>(fb δ S1).bind fun b S2=>match a,b with
 | .d x, .d y=>(R3.of (cy x y) S2).bind fun d S=> .ok (.d d) S
 | .lst vs, .d (.int i)=>(match tU vs i with | some v=> .ok v S2 | none=> .no)
 | .tup vs, .d (.int i)=>(match tU vs i with | some v=> .ok v S2 | none=> .no)
 | _,_=> .no
theorem K8(ha:PX X cl a fa)(hb:PX X cl b fb)(hs:tL b):PX X cl (.Subscript a b pos) (Qb fa fb):=by
 refine⟨(KZ (r:=RL X.K) G5 ha.1 hb.1 hs).imp fun σ H Q ⟨ρ,S,δ,v,S',E,hf,q⟩=>?_⟩
 obtain⟨v1,S1,h1,h2⟩:=R3.ao hf;obtain⟨v2,S2,h3,h4⟩:=R3.ao h2;refine⟨ρ,S,δ,v1,S1,E,h1,fun u1 cD H1 p1 w1 r1=>⟨cD,S1,δ,v2,S2,E.to p1 w1,h3,fun u2 vB H2 p2 w2 r2=>?_⟩⟩
 have vE:=r1.pre p2;have PU:=p1.trans p2;split at h4
 .rename_i x y;obtain⟨d,S3,h5,h6⟩:=R3.ao h4;obtain⟨h7,e7⟩:=R3.of_ok h5;cases h6;subst e7;unfold bb at vE r2;unfold cy at h7;split at h7
  .split at h7
   .rename_i e;cases h7;obtain⟨p,xs,rfl,l,rs⟩:=Rep.lst.mp vE;obtain⟨y,e1,e2⟩:=qc rs e;exact .inl ⟨p,xs,_,y,rfl,Rep.int.mp r2,l.sq,e1,q y vB H2 PU w2 (by unfold bb;exact e2)⟩
   .cases h7
  .split at h7
   .rename_i e;cases h7;obtain⟨p,xs,rfl,l,rs⟩:=Rep.tup.mp vE;obtain⟨y,e1,e2⟩:=qc rs e;exact .inr (.inl ⟨p,xs,_,y,rfl,Rep.int.mp r2,l.sq,e1,q y vB H2 PU w2 (by unfold bb;exact e2)⟩)
   .cases h7
  .obtain⟨hl,h8⟩:=R.bc h7;split at h8
   .rename_i e;cases h8;exact .inr (.inr ⟨_,_,_,Rep.str.mp vE,Rep.int.mp r2,of_decide_eq_true hl,e,q _ vB H2 PU w2 (by unfold bb;exact Rep.str.mpr rfl)⟩)
   .cases h8
  .cases h7
 .split at h4
  .rename_i e;cases h4;unfold bb at vE r2;obtain⟨p,xs,rfl,l,rs⟩:=vE;obtain⟨y,e1,e2⟩:=w_ rs e;exact .inl ⟨p,xs,_,y,rfl,Rep.int.mp r2,l.sq,e1,q y vB H2 PU w2 e2⟩
  .cases h4
 .split at h4
  .rename_i e;cases h4;unfold bb at vE r2;obtain⟨p,xs,rfl,l,rs⟩:=vE;obtain⟨y,e1,e2⟩:=w_ rs e;exact .inr (.inl ⟨p,xs,_,y,rfl,Rep.int.mp r2,l.sq,e1,q y vB H2 PU w2 e2⟩)
  .cases h4
 .cases h4
end
end L3
end
section
namespace L3
open PySem PySem.Spec PyProof.Rows L2
section
variable {X:Cx} {cl:X3}
structure KU (X:Cx) (cl:X3) (e:Expr) (f:FB):Prop where
 go:L2.PW X e (Mp X.K cl f)
theorem KU.pb(h:KU X cl e f):HL X cl e f:=⟨L2.PW.pt h.1⟩
def U4(f g:FB):FB:=fun δ S=>(f δ S).bind fun b S=>if b then g δ S else .ok false S
def NC(f g:FB):FB:=fun δ S=>(f δ S).bind fun b S=>if b then .ok true S else g δ S
def EA(f:FB):FB:=fun δ S=>(f δ S).bind fun b S=> .ok (!b) S
theorem ye(h:HL X cl a f):KU X cl (.BoolOp .Or [a] pos) f:=⟨FR h.1⟩
theorem yA{rest:List Expr}(ha:HL X cl a f)(hb:KU X cl (.BoolOp .Or (b ::rest) pos) g):KU X cl (.BoolOp .Or (a ::b ::rest) pos) (NC f g):=⟨by
 intro wh pins s σ H Q I ⟨ρ,S,δ,k,S',E,hf,q⟩;refine KY ha.1 hb.1 wh pins s σ H Q I ?_;obtain⟨c,S1,h1,h2⟩:=R3.ao hf;refine⟨ρ,S,δ,c,S1,E,h1,fun cD H1 p1 w1=>?_⟩
 cases c with
 | true=>rw [if_pos rfl] at h2 ⊢;cases h2;exact q cD H1 p1 w1
 | false=>rw [if_neg (by decide)] at h2 ⊢;exact⟨cD,S1,δ,k,S',E.to p1 w1,h2,fun vB H' p2 w2=>q vB H' (p1.trans p2) w2⟩⟩
theorem tI(ha:HL X cl a f):HL X cl (.UnaryOp .Not a pos) (EA f):=⟨(HS ha.1).imp fun σ H Q ⟨ρ,S,δ,k,S',E,hf,q⟩=>by
 obtain⟨c,S1,h1,h2⟩:=R3.ao hf;cases h2;exact⟨ρ,S,δ,c,_,E,h1,fun cD H1 p1 w1=>q cD H1 p1 w1⟩⟩
def A5(f:FX):FB:=fun δ S=>(f δ S).bind fun v S=>match v with | .d d=>R3.of (IM d) S | _=> .no
theorem Ki(ha:PX X cl a f)(ht:∀{t:TE},PE X a t->PT X a (fun σ H Q=>t σ H fun x H'=>∃b,Jf X.K x H' b/\Q b H')):HL X cl a (A5 f):=
 ⟨(ht ha.1).imp fun σ H Q ⟨ρ,S,δ,b,S',E,hf,q⟩=>by
   obtain⟨v,S1,h1,h2⟩:=R3.ao hf;split at h2
   .rename_i d;obtain⟨h3,e3⟩:=R3.of_ok h2;subst e3;exact⟨ρ,S,δ, .d d,_,E,h1,fun u cD H1 p1 w1 r1=>⟨b,EY (by unfold bb at r1;exact r1) h3,q cD H1 p1 w1⟩⟩
   .cases h2⟩
abbrev NH:=DE->aN->R3 (Option Int)
def Vt(K:W.Frag)(cl:X3)(f:NH):TO:=fun σ H Q=>∃ρ S δ o S',gb K cl ρ H S σ δ/\f δ S= .ok o S'/\∀dj H',Pre ρ H dj H'->SW K cl dj H' S'->Q o H'
structure XA (X:Cx) (cl:X3) (e:Option Expr) (f:NH):Prop where
 go:PO X e (Vt X.K cl f)
def QR:NH:=fun _ S=> .ok none S
def QC(f:FX):NH:=fun δ S=>(f δ S).bind fun v S=>match v with | .d (.int i)=> .ok (some i) S | _=> .no
def Xf(f:FX)(fl fh:NH):FX:=fun δ S=>(f δ S).bind fun v S1=>(fl δ S1).bind fun lo S2=>(fh δ S2).bind fun hi S3=>match v with
 | .d d=>(R3.of (Pe d lo hi) S3).bind fun r S=> .ok (.d r) S
 | _=> .no
end
end L3
end
section
namespace L2
open PySem PySem.Spec PyProof.Rows
section
variable {X:Cx}
def LX(t T:String):Bool:=t==T || (t=="bool" && T=="int")
def Vx(T:String)(f:FD):FD:=fun δ=>(f δ).bind fun d=>match d with | .dct _ _=> .no | _=> .ok (.bl (LX (tyName d) T))
def nList(f:FD):aw->R (List D):=fun δ=>(f δ).bind fun d=>match d with | .lst ds=> .ok ds | .tup ds=> .ok ds | _=> .no
end
end L2
namespace L3
open PySem PySem.Spec PyProof.Rows L2
theorem bF{P:Program}{w:World}{K:W.Frag}{mg:X2}{base:Heap}{cl:X3}{x qual:Str}{st:Stmt}{f:Addr}{fd:FuncData}{N ps:List Str}{k:Nat}{F:FZ}{b:List Stmt}{sc:Scope}(hb:aK st=b)(hs:az st=sc)(Fn:CI K x qual st f fd)(S:aR N ps sc)
 (lY:∀(dD:Value) (A:Around) (outer:List Env) (s:Shared) (H:Hp) (E:XK),eS k (A.deeper (envOfC qual sc s.heap.objs.size f dD))->
   FW (uJ vN P w K mg base N qual sc f dD A outer s H E).JS cl b F):jC P w K mg base vN (k+1) f fd ps (FY K cl ps.length (mV N F)):=by
 subst hb hs;exact I0 Fn S lY
theorem aW.p{K:W.Frag}{mg:X2}{cl:X3}{k:Nat}{n:Nat}{N:List Str}(C:aW P w K mg base cl k x n (mV N F)):aW P w K mg base cl k x n (oF N F):=
 let⟨f,fd,ps,F,h⟩:=C;⟨f,fd,ps,F.imp fun _ _ _ _ h=>Bn h,h⟩
def Qa(N:List Str)(F:FZ):List D->R D:=fun ds=>match oF N F (ds.map .d) [] with
 | .ok (.d d) []=>R.bJ d.atom (.ok d)
 | _=> .no
theorem Lo{K:W.Frag}{cl:X3}{N:List Str}{n:Nat}{vs:List V}{Q:VK}{E:XK}(h:Gp K n (Qa N F) vs H Q E):FY K cl n (mV N F) vs H Q E:=by
 obtain⟨hl,B,ds,d,hb,r,hg,q⟩:=h;unfold Qa at hg;split at hg
 .rename_i d' e;obtain⟨ha,h2⟩:=R.bc hg;cases h2;have r0:aI K (⟨[],[],[]⟩:P3).b H ds vs:=r.bj fun b o e _=>⟨e,by simp [P3.b]⟩
  refine Bn ⟨hl,⟨[],[],[]⟩,[],ds.map .d, .d d,[],⟨rfl,fun i j a hi=>by simp at hi,fun k a o hk=>by simp at hk,fun b hb=>by simp at hb,fun k a hk=>by simp at hk,fun b hb=>by simp at hb,fun k a hk=>by simp at hk⟩,aL.of r0,e,fun u dj H' p w' r'=>q u H' (fun b o eb=>?_) ?_⟩
  .exact(p.bj b o eb (by simp [P3.b])).1
  .unfold bb at r';exact r'.atom ha
 .cases hg
section
variable {X:Cx} {cl:X3}
theorem p8{a:Expr}(ha:PX X cl a f)(he:∀whole,isTrue a X.env whole=(do let v <-whole;standAt a.pos;holding [v] (truthy v)):=by intro _;rfl):HL X cl a (A5 f):=Ki ha fun h=>zj h he
theorem zG{g:List D->R D}{k j n:Nat}{x:Str}{p pos:Pos}{e:Expr}{es:List Expr}{fs:FA}(C:Callee X.prog X.w X.K X.mg X.base k x n g)(hr:eS j X.A)(HV:k<=j)(hg:Gl X x)(ha:Il X cl (e ::es) fs)
 (hn:∀δ S ds S',fs δ S= .ok ds S'->ds.length=n) (qT:(x==("__debug__":Str))=false:=by decide) (he:starEach (e ::es) X.env=(false,eval e X.env) ::starEach es X.env:=by rfl) (oH:(backTo pos (starEach es X.env)).any (·.1)=false:=by rfl) :
 PX X cl (.Call (.Name x p) (e ::es) [] pos) (mm g fs):=by
 obtain⟨f,fd,ps,F,hm,hk,hb⟩:=C;refine⟨(yC F (hr.mono HV) hg hm hk hb .nil Ar ha.1 qT he oH).imp fun σ H Q ⟨ρ,S,δ,v,S',E,hf,q⟩=>?_⟩
 obtain⟨vs,S1,h1,h2⟩:=R3.ao hf;split at h2
 .rename_i ds e;obtain⟨d,S2,h3,h4⟩:=R3.ao h2;obtain⟨h5,e5⟩:=R3.of_ok h3;cases h4;subst e5;refine⟨ρ,S,δ,vs,_,E,h1,fun us cD H1 p1 w1 r1=>?_⟩
  have hl:=hn δ S vs _ h1;rw[jP e] at r1;show Gp X.K n g (us++[]) H1 Q E0;rw[List.append_nil];exact⟨by rw[<-r1.length,<-jP e];exact hl,cD.b,ds,d,w1.bs,r1.to,h5,fun z H' s r=>q z cD H' (p1.trans (Pre.same s)) (w1.same s) (by unfold bb;exact r)⟩
 .cases h2
def Rk(f:FX):FA:=fun δ S=>(f δ S).bind fun v S=>match v with | .d (.tup ds)=> .ok (ds.map .d) S | .tup vs=> .ok vs S | _=> .no
end
end L3
end
section
namespace L3
open PySem PySem.Spec PyProof.Rows L2
def W3{α:Type}(r:R3 α)(Q:α->aN->Prop):Prop:=∃a S,r= .ok a S/\Q a S
section
variable {α β:Type} {Q Q':α->aN->Prop} {S:aN} {δ:DE}
theorem W3.ok{a:α}(h:Q a S):W3 (.ok a S) Q:=⟨a,S,rfl,h⟩
theorem W3.bind{Q:β->aN->Prop}{r:R3 α}{f:α->aN->R3 β}(h:W3 r fun a S=>W3 (f a S) Q):W3 (r.bind f) Q:=by
 obtain⟨a,S1,e1,b,S2,h2,q⟩:=h;exact⟨b,S2,by rw[e1];exact h2,q⟩
theorem W3.mono{r:R3 α}(h:W3 r Q)(m:∀a S,Q a S->Q' a S):W3 r Q':=let⟨a,S,e,q⟩:=h;⟨a,S,e,m a S q⟩
theorem W3.wh{c:Bool}{r:R3 α}(hc:c=true)(h:W3 r Q):W3 (R3.bJ c r) Q:=by rw[hc];exact h
theorem W3.of{r:R α}{a:α}(e:r= .ok a)(h:Q a S):W3 (R3.of r S) Q:=by rw[e];exact⟨a,S,rfl,h⟩
end
section
variable {S:aN} {δ:DE} {QV:V3->aN->Prop} {QB:Bool->aN->Prop} {QA:List V3->aN->Prop} {QO:Ou->aN->Prop}
theorem bM{f:FD}{d:D}(e:f (down δ)= .ok d)(h:QV (.d d) S):W3 (xP f δ S) QV:=W3.bind (W3.of e (W3.ok h))
theorem GJ{f:FD}{d:D}(e:f (df S δ)= .ok d)(ha:mj d=true)(h:QV (.d d) S):W3 (xT f δ S) QV:=W3.bind (W3.of e (W3.wh ha (W3.ok h)))
theorem rg{f:aw->R Bool}{b:Bool}(e:f (down δ)= .ok b)(h:QB b S):W3 (bP f δ S) QB:=W3.of e h
theorem w_var{i:Nat}{v:V3}(e:δ[i]? =some (some v))(h:QV v S):W3 (cK i δ S) QV:=by unfold cK;rw [e];exact W3.ok h
theorem mX{f:aw->R (List D)}{ds:List D}(e:f (down δ)= .ok ds)(h:QV (.loc S.length) (S++[.lst ds])):W3 (oI f δ S) QV:=W3.bind (W3.of e (W3.ok h))
theorem bz(h:QA [] S):W3 (bW δ S) QA:=W3.ok h
theorem av{f:FX}{g:FA}(h:W3 (f δ S) fun v S1=>W3 (g δ S1) fun vs S2=>QA (v ::vs) S2):W3 (ax f g δ S) QA:=W3.bind (h.mono fun _ _ h=>W3.bind (h.mono fun _ _ h=>W3.ok h))
theorem y6{g:FA}(h:W3 (g δ S) fun vs S1=>vs.length<=sizeLine/\QV (C5 vs) S1):W3 (BS g δ S) QV:=W3.bind (h.mono fun _ _ h=>W3.wh (decide_eq_true h.1) (W3.ok h.2))
theorem Oj{g:FA}(h:W3 (g δ S) fun vs S1=>vs.length<=sizeLine/\QV (sk vs) S1):W3 (M6 g δ S) QV:=W3.bind (h.mono fun _ _ h=>W3.wh (decide_eq_true h.1) (W3.ok h.2))
theorem Ij{g:D->D->R D}{fa fb:FX}(h:W3 (fa δ S) fun a S1=>W3 (fb δ S1) fun b S2=>∃x y d,a= .d x/\b= .d y/\g x y= .ok d/\QV (.d d) S2):W3 (x2 g fa fb δ S) QV:=
 W3.bind (h.mono fun _ _ h=>W3.bind (h.mono fun _ _ ⟨_,_,_,e1,e2,e3,q⟩=>by subst e1 e2;exact W3.bind (W3.of e3 (W3.ok q))))
theorem y4{g:D->D->R D}{fa fb:FX}(h:W3 (fa δ S) fun a S1=>W3 (fb δ S1) fun b S2=>∃x y k,a= .d x/\b= .d y/\g x y= .ok (.bl k)/\QB k S2):W3 (Iq g fa fb δ S) QB:=
 W3.bind (Ij (h.mono fun _ _ h=>h.mono fun _ _ ⟨x,y,k,e1,e2,e3,q⟩=>⟨x,y, .bl k,e1,e2,e3,W3.ok q⟩))
theorem Oe{fa fb:FX}(h:W3 (fa δ S) fun a S1=>W3 (fb δ S1) fun b S2=>∃x y d,a= .d x/\b= .d y/\cy x y= .ok d/\QV (.d d) S2):W3 (Qb fa fb δ S) QV:=
 W3.bind (h.mono fun _ _ h=>W3.bind (h.mono fun _ _ ⟨_,_,_,e1,e2,e3,q⟩=>by subst e1 e2;exact W3.bind (W3.of e3 (W3.ok q))))
theorem cI{g:List V3->aN->R3 V3}{fs:FA}(h:W3 (fs δ S) fun vs S1=>W3 (g vs S1) QV):W3 (cE g fs δ S) QV:=W3.bind h
theorem qu{g:List D->R D}{fs:FA}(h:W3 (fs δ S) fun vs S1=>∃ds d,vs=ds.map .d/\g ds= .ok d/\QV (.d d) S1):W3 (mm g fs δ S) QV:=
 W3.bind (h.mono fun _ _ ⟨ds,_,e1,e2,q⟩=>by subst e1;rw [uT];exact W3.bind (W3.of e2 (W3.ok q)))
theorem Hv{it:FA}{own:List Str}{kp:List Nat}(h:W3 (it δ S) fun vs S1=>vs.length<=sizeLine/\W3 (nG t c f (mU own kp δ) vs S1) fun ys S2=>QV (sk ys) S2):W3 (i9 it t c f own kp δ S) QV:=
 W3.bind (h.mono fun _ _ h=>W3.wh (decide_eq_true h.1) (W3.bind (h.2.mono fun _ _ h=>W3.ok h)))
theorem Dg{f:FX}(h:W3 (f δ S) fun v S1=>∃d b,v= .d d/\IM d= .ok b/\QB b S1):W3 (A5 f δ S) QB:=W3.bind (h.mono fun _ _ ⟨_,_,e,e2,q⟩=>by subst e;exact W3.of e2 q)
theorem w_not{f:FB}(h:W3 (f δ S) fun b S1=>QB (!b) S1):W3 (EA f δ S) QB:=W3.bind (h.mono fun _ _ h=>W3.ok h)
theorem aV{F G:FZ}(h:W3 (F δ S) fun o S1=>∃dv,o= .nx dv/\W3 (G dv S1) QO):W3 (bB F G δ S) QO:=W3.bind (h.mono fun _ _ ⟨_,e,h⟩=>by subst e;exact h)
theorem Hi{F G:FZ}(h:W3 (F δ S) fun o S1=>∃v,o= .rt v/\QO (.rt v) S1):W3 (bB F G δ S) QO:=W3.bind (h.mono fun _ _ ⟨_,e,h⟩=>by subst e;exact W3.ok h)
theorem bU{i:Nat}{f:FX}(hi:i < δ.length)(h:W3 (f δ S) fun v S1=>QO (.nx (δ.set i (some v))) S1):W3 (c0 i f δ S) QO:=W3.bind (h.mono fun _ _ h=>W3.wh (decide_eq_true hi) (W3.ok h))
theorem d9{f:FX}(h:W3 (f δ S) fun v S1=>QO (.rt v) S1):W3 (eB f δ S) QO:=W3.bind (h.mono fun _ _ h=>W3.ok h)
theorem mD{c:FB}{F G:FZ}(h:W3 (c δ S) fun b S1=>if b then W3 (F δ S1) QO else W3 (G δ S1) QO):W3 (yW c F G δ S) QO:=W3.bind (h.mono fun b _ h=>by cases b <;> exact h)
theorem OS{f:FX}{t:FG}(h:W3 (f δ S) fun v S1=>∃dv,t v δ=some dv/\QO (.nx dv) S1):W3 (LZ f t δ S) QO:=W3.bind (h.mono fun _ _ ⟨_,e,q⟩=>by rw[e];exact W3.ok q)
theorem ik(h:QO (.nx δ) S):W3 (oJ δ S) QO:=W3.ok h
theorem rn{f:aw->R (List D)}{ds:List D}(e:f (down δ)= .ok ds)(h:QA (ds.map .d) S):W3 (iP f δ S) QA:=W3.bind (W3.of e (W3.ok h))
theorem xQ{f:FX}(h:W3 (f δ S) fun v S1=>∃n:Nat,v= .d (.int n)/\n < 1000000/\QA ((eg 0 n).map .d) S1):W3 (so f δ S) QA:=W3.bind (h.mono fun _ _ ⟨n,e,hn,q⟩=>by
 subst e;refine W3.wh (decide_eq_true ⟨by omega,by omega⟩) (W3.ok ?_)
 rw[Int.toNat_natCast];exact q)
theorem mz{f:FX}(h:W3 (f δ S) fun v S1=>∃ds,v= .d (.lst ds)/\QA (ds.map .d) S1):W3 (u0 f δ S) QA:=W3.bind (h.mono fun _ _ ⟨n,e,q⟩=>by subst e;exact W3.ok q)
theorem Kn{f:FX}(h:W3 (f δ S) fun v S1=>∃vs,v= .lst vs/\QA vs S1):W3 (u0 f δ S) QA:=W3.bind (h.mono fun _ _ ⟨n,e,q⟩=>by subst e;exact W3.ok q)
theorem jA{it:FA}(h:W3 (it δ S) fun vs S1=>W3 (n6 t F vs δ S1) QO):W3 (lL it t F δ S) QO:=W3.bind h
theorem oX{i k:Nat}{f:FX}(hk:δ[i]? =some (some (.loc k)))(h0:∃ds,S[k]? =some (.lst ds))(h:W3 (f δ S) fun v S1=>∃d ds,v= .d d/\S1[k]? =some (.lst ds)/\ds.length < sizeLine/\QO (.nx δ) (S1.set k (.lst (ds++[d])))):W3 (pK i f δ S) QO:=by
 obtain⟨es,h0⟩:=h0;unfold pK;have e1:jZ δ i=some k:=by unfold jZ;rw [hk]
 have e2:dg S k=some es:=by unfold dg;simp only[h0]
 rw[e1];show W3 (match dg S k with | none=>_ | some _=>_) _
 rw[e2];refine W3.bind (h.mono fun v S1 ⟨d,ds,e,h1,hl,q⟩=>?_)
 subst e;have e3:dg S1 k=some ds:=by unfold dg;simp only[h1]
 show W3 (match dg S1 k with | some ds=>_ | none=>_) _
 rw[e3];exact W3.wh (decide_eq_true hl) (W3.ok q)
theorem K9{fo fi fe:FX}(h:W3 (fe δ S) fun v S1=>W3 (fo δ S1) fun o S2=>W3 (fi δ S2) fun j S3=>∃d k n ds m,v= .d d/\o= .loc k/\j= .d (.int n)/\S3[k]? =some (.lst ds)/\Cq ds.length n=some m/\QO (.nx δ) (S3.set k (.lst (ds.set m d)))):W3 (Ka fo fi fe δ S) QO:=
 W3.bind (h.mono fun _ _ h=>W3.bind (h.mono fun _ _ h=>W3.bind (h.mono fun _ S3 ⟨d,k,n,ds,m,e1,e2,e3,h1,h2,q⟩=>by
  subst e1 e2 e3;have e3:dg S3 k=some ds:=by unfold dg;simp only[h1]
  show W3 (match dg S3 k with | some ds=>_ | none=>_) _
  rw[e3];show W3 (match Cq ds.length n with | some m=>_ | none=>_) _
  rw[h2];exact W3.ok q)))
theorem vw{t:FG}{body:FZ}:∀(vs:List V3) (n:Nat) (P:Nat->DE->aN->Prop) {δ:DE} {S:aN},P n δ S->
 (∀i v δ S,vs[i]? =some v->P (n+i) δ S->∃dv,t v δ=some dv/\W3 (body dv S) fun o S1=>∃eM,o= .nx eM/\P (n+i+1) eM S1)->W3 (n6 t body vs δ S) fun o S1=>∃eM,o= .nx eM/\P (n+vs.length) eM S1
 | [],n,P,δ,S,h0,_=>W3.ok ⟨δ,rfl,h0⟩
 | v ::vs,n,P,δ,S,h0,hs=>by
   obtain⟨dv,e1,o,S1,e2,eM,rfl,p2⟩:=hs 0 v δ S rfl h0;have ih:=vw vs (n+1) P p2 (fun i v' eL S' hi hp=>by
    have:=hs (i+1) v' eL S' (by simpa using hi) (by rw[show n+(i+1)=n+1+i by omega];exact hp)
    rw[show n+(i+1)+1=n+1+i+1 by omega] at this
    exact this)
   rw[show n+1+vs.length=n+(v ::vs).length by rw[List.length_cons];omega] at ih
   unfold n6;rw[e1];refine W3.bind ⟨_,_,e2,?_⟩;exact ih
theorem c9{t:FG}{body:FZ}{vs:List V3}(P:Nat->DE->aN->Prop){δ:DE}{S:aN}(h0:P 0 δ S)
 (hs:∀i v δ S,vs[i]? =some v->P i δ S->∃dv,t v δ=some dv/\W3 (body dv S) fun o S1=>∃eM,o= .nx eM/\P (i+1) eM S1):W3 (n6 t body vs δ S) fun o S1=>∃eM,o= .nx eM/\P vs.length eM S1:=by
 have:=vw (t:=t) (body:=body) vs 0 P h0 (fun i v δ S hi hp=>by simpa using hs i v δ S hi (by simpa using hp))
 simpa using this
theorem uh{t:FG}{c:FB}{f:FX}{δ:DE}:∀(vs:List V3) (n:Nat) (P:Nat->List V3->aN->Prop) {ys:List V3} {S:aN},P n ys S->
 (∀i v ys S,vs[i]? =some v->P (n+i) ys S->∃dv,t v δ=some dv/\W3 (c dv S) fun b S1=>if b then W3 (f dv S1) fun y S2=>P (n+i+1) (ys++[y]) S2 else P (n+i+1) ys S1)->W3 (nG t c f δ vs S) fun zs S1=>P (n+vs.length) (ys++zs) S1
 | [],n,P,ys,S,h0,_=>W3.ok (by rw[List.append_nil];exact h0)
 | v ::vs,n,P,ys,S,h0,hs=>by
   obtain⟨dv,e1,b,S1,e2,h2⟩:=hs 0 v ys S rfl h0;have ih:∀{Px S'},P (n+1) Px S'->W3 (nG t c f δ vs S') fun zs S1=>P (n+(v ::vs).length) (Px++zs) S1:=fun {Px S'} p=>by
    have:=uh (t:=t) (c:=c) (f:=f) (δ:=δ) vs (n+1) P p (fun i v' Px S' hi hp=>by
     have:=hs (i+1) v' Px S' (by simpa using hi) (by rw[show n+(i+1)=n+1+i by omega];exact hp)
     rw[show n+(i+1)+1=n+1+i+1 by omega] at this
     exact this)
    rw[show n+1+vs.length=n+(v ::vs).length by rw[List.length_cons];omega] at this
    exact this
   unfold nG;rw[e1];refine W3.bind ⟨b,S1,e2,?_⟩;cases b with
   | true=>
     rw[if_pos rfl] at h2 ⊢;exact W3.bind (h2.mono fun y S2 p=>W3.bind ((ih p).mono fun zs S3 q=>W3.ok (by rw[List.append_assoc] at q;exact q)))
   | false=>rw [if_neg (by decide)] at h2 ⊢;exact ih h2
theorem xf{t:FG}{c:FB}{f:FX}{δ:DE}{vs:List V3}(P:Nat->List V3->aN->Prop){S:aN}(h0:P 0 [] S)
 (hs:∀i v ys S,vs[i]? =some v->P i ys S->∃dv,t v δ=some dv/\W3 (c dv S) fun b S1=>if b then W3 (f dv S1) fun y S2=>P (i+1) (ys++[y]) S2 else P (i+1) ys S1):W3 (nG t c f δ vs S) fun zs S1=>P vs.length zs S1:=by
 have:=uh (t:=t) (c:=c) (f:=f) (δ:=δ) vs 0 P h0 (fun i v ys S hi hp=>by simpa using hs i v ys S hi (by simpa using hp))
 simpa using this
theorem sg{QB:Bool->aN->Prop}(h:QB true S):W3 (sW δ S) QB:=W3.ok h
theorem tK{N:List Str}{F:FZ}{vs:List V3}{δ:DE}(e:cq N vs=δ)(h:W3 (F δ S) fun o S1=>∃v,o= .rt v/\QV v S1):W3 (mV N F vs S) QV:=by
 subst e;exact W3.bind (h.mono fun _ _ ⟨_,e,q⟩=>by subst e;exact W3.ok q)
def TF(S:aN):Prop:=∀o∈S,∃ds,o=SO.lst ds
end
section
variable {S:aN} {δ:DE} {QV:V3->aN->Prop}
theorem jG{it:FA}{t:FG}{c:FB}{f:FX}{own:List Str}{kp:List Nat}(P:Nat->List D->aN->Prop)(h:W3 (it δ S) fun vs S1=>vs.length<=sizeLine/\P 0 [] S1/\
 (∀i v ds S2,vs[i]? =some v->P i ds S2->∃dv,t v (mU own kp δ)=some dv/\W3 (c dv S2) fun b S3=>if b then W3 (f dv S3) fun y S4=>∃d,y= .d d/\P (i+1) (ds++[d]) S4 else P (i+1) ds S3)/\
 ∀ds S2,P vs.length ds S2->QV (.d (.lst ds)) S2):W3 (i9 it t c f own kp δ S) QV:=by
 refine Hv (h.mono fun vs S1 ⟨hl,h0,hs,hq⟩=>⟨hl,?_⟩)
 refine(xf (fun i ys S=>∃ds,ys=ds.map V3.d/\P i ds S) ⟨[],rfl,h0⟩ ?_).mono fun zs S2 ⟨ds,e,p⟩=>?_
 .rintro i v ys S2 hv ⟨ds,rfl,p⟩;obtain⟨dv,e1,h1⟩:=hs i v ds S2 hv p;refine⟨dv,e1,h1.mono fun b S3 h3=>?_⟩
  cases b with
  | true=>
    rw[if_pos rfl] at h3 ⊢;exact h3.mono fun y S4 ⟨d,e,p⟩=>by subst e;exact⟨ds++[d],by simp,p⟩
  | false=>rw [if_neg (by decide)] at h3 ⊢;exact⟨ds,rfl,h3⟩
 .subst e;unfold sk;rw[uT];exact hq ds S2 p
structure gr (n:Nat) (d:D):Prop where
 pl:eX d=true
 ly:(toPy d).canLay0=true
 dp:(toPy d).depth<=n
theorem gr.int(i:Int):gr 0 (.int i):=⟨by unfold eX;rfl,by unfold toPy PyData.canLay0;rfl,by unfold toPy PyData.depth;omega⟩
theorem gr.de:gr 0 .de:=⟨by unfold eX;rfl,by unfold toPy PyData.canLay0;rfl,by unfold toPy PyData.depth;omega⟩
theorem gr.str(h:(PyData.str s).canLay0=true):gr 0 (.str s):=⟨by unfold eX;rfl,by unfold toPy;exact h,by unfold toPy PyData.depth;omega⟩
theorem gr.mono{n m:Nat}{d:D}(h:gr n d)(hm:n<=m):gr m d:=⟨h.pl,h.ly,Nat.le_trans h.dp hm⟩
theorem gr.all{n:Nat}:∀{ds:List D},(∀d∈ds,gr n d)->kK ds=true/\PyData.canLayAll0 (m3 ds)=true/\PyData.depthAll (m3 ds)<=n
 | [],_=>⟨by unfold kK;rfl,by unfold m3 PyData.canLayAll0;rfl,by unfold m3 PyData.depthAll;omega⟩
 | d ::ds,h=>by
   obtain⟨h1,h2,h3⟩:=gr.all (ds:=ds) fun x hx=>h x (List.mem_cons_of_mem _ hx)
   have f:=h d List.mem_cons_self;refine⟨by unfold kK;rw [f.pl,h1];rfl,by unfold m3 PyData.canLayAll0;rw [f.ly,h2];rfl,?_⟩
   unfold m3 PyData.depthAll;have:=f.dp;omega
theorem gr.lst{n:Nat}{ds:List D}(h:∀d∈ds,gr n d):gr (n+1) (.lst ds):=by
 obtain⟨h1,h2,h3⟩:=gr.all h;exact⟨by unfold eX;exact h1,by unfold toPy PyData.canLay0;exact h2,by unfold toPy PyData.depth;omega⟩
theorem gr.tup{n:Nat}{ds:List D}(h:∀d∈ds,gr n d):gr (n+1) (.tup ds):=by
 obtain⟨h1,h2,h3⟩:=gr.all h;exact⟨by unfold eX;exact h1,by unfold toPy PyData.canLay0;exact h2,by unfold toPy PyData.depth;omega⟩
theorem gr.sh{n:Nat}{d:D}(h:gr n d)(hn:n<=64):SeqAt.shaped (toPy d)=true:=by
 unfold SeqAt.shaped;rw[h.ly,decide_eq_true (Nat.le_trans h.dp hn)];rfl
theorem G0{d e:List D}:GO (.lst d) (.lst e)=R.bJ (eX (.lst d) && eX (.lst e) && SeqAt.shaped (toPy (.lst d)) && SeqAt.shaped (toPy (.lst e))) (.ok (PyData.eqv (toPy (.lst d)) (toPy (.lst e)))):=rfl
theorem FN{d e:List D}:GO (.tup d) (.tup e)=R.bJ (eX (.tup d) && eX (.tup e) && SeqAt.shaped (toPy (.tup d)) && SeqAt.shaped (toPy (.tup e))) (.ok (PyData.eqv (toPy (.tup d)) (toPy (.tup e)))):=rfl
theorem gr.eqT{n:Nat}{ds:List D}(h:gr n (.tup ds))(hn:n<=64):GO (.tup ds) (.tup ds)= .ok true:=by
 rw[FN,h.pl,h.sh hn,SeqAt.eqv_refl _ h.ly];rfl
theorem gr.Q6{n:Nat}{ds:List D}(h:gr n (.lst ds))(hn:n<=64):GO (.lst ds) (.lst ds)= .ok true:=by
 rw[G0,h.pl,h.sh hn,SeqAt.eqv_refl _ h.ly];rfl
end
theorem BD{α:Type}(ds:List α){n:Int}(h:0<=n):L2.cutD ds none (some n)=ds.take n.toNat:=by
 obtain⟨k,rfl⟩:=Int.eq_ofNat_of_zero_le h;unfold L2.cutD;rw[HT.ze,HT.C6,List.drop_zero,Nat.sub_zero,Int.toNat_natCast];by_cases hk:k<=ds.length
 .rw [Nat.min_eq_left hk]
 .rw [Nat.min_eq_right (by omega),List.take_of_length_le (Nat.le_refl _),List.take_of_length_le (by omega)]
end L3
end
section
namespace L2
open PySem PySem.Spec PyProof.Rows
section
variable {X:Cx}
def K7:D->Bool | .de=>true | _=>false
def Xa(d e:D):R D:=match e with | .de=> .ok (.bl (K7 d)) | _=> .no
def Vs(d e:D):R D:=match e with | .de=> .ok (.bl (!K7 d)) | _=> .no
def N7:List D->R D
 | [.str x]=>R.bJ (decide (x.length<=640)) (match PySem.intText? x with | some n=> .ok (.int n) | none=> .no)
 | _=> .no
def TC(ds:List D):R D:=match ds with | [.str _]=>N7 ds | _=>cInt ds
def UW(f:FD):FD:=fun δ=>(f δ).bind fun d=>match d with | .int i=> .ok (.int (-i)) | _=> .no
def Tt(d:D)(ds:List D):R D:=match d,ds with
 | .str x,[.str y]=> .ok (.int (Txt.find x y))
 | _,_=> .no
def UU(ba:List (Str × Str)):D:= .dct (ba.map fun p=>Sum.inr p.1) (ba.map fun p=> .str p.2)
def Xm(ba:List (Str × Str)):List (Key × V):=ba.map fun p=>((Sum.inr p.1:Key),V.str p.2)
def Vk(d k:D):R D:=match d,k with
 | .dct ks ds, .str x=>(match (ks.zip ds).find? fun p=>decide (p.1=Sum.inr x) with | some p=> .ok p.2 | none=> .no)
 | _,_=> .no
end
theorem OA{K:W.Frag}{mg:X2}{k n:Nat}{f:Addr}{fd:FuncData}{ps:List Str}:jC P w K mg base vN k f fd ps (Gp K n fun _=> .no):=
 ⟨fun vs H Q E h=>(by obtain⟨_,_,_,_,_,_,h,_⟩:=h;cases h),fun A outer s H args us vs Q E _ _ _ _ h=>(by obtain⟨_,_,_,_,_,_,h,_⟩:=h;cases h)⟩
end L2
namespace L3
open PySem PySem.Spec PyProof.Rows L2
section
variable {X:Cx} {cl:X3}
def SS(f:FX):FB:=fun δ S=>(f δ S).bind fun v S=>match v with | .d (.bl b)=> .ok b S | _=> .no
def VA(f g:FX):FX:=fun δ S=>(SS f δ S).bind fun b S=>if b then g δ S else .ok (.d (.bl false)) S
def Xn(f g:FX):FX:=fun δ S=>(SS f δ S).bind fun b S=>if b then .ok (.d (.bl true)) S else g δ S
def GU(i:Nat)(F:FZ):FZ:=fun δ S=>match jZ δ i with
 | some k=>(match dg S k with | some ds=>F (δ.set i (some (.d (.lst ds)))) (S.set k .mf) | none=> .no)
 | none=> .no
theorem IV(i:Nat)(h:FW X cl Lj F):FW X cl Lj (GU i F):=⟨h.1.imp fun D σ H ⟨ρ,S,δ,o,S',E,hf,q⟩=>by
 unfold GU at hf;split at hf
 .rename_i k hk;split at hf
  .rename_i ds hds;obtain⟨v,v1,v2⟩:=E.val i _ (mG hk);unfold bb at v2;obtain⟨a,a1,rfl⟩:=v2;obtain⟨w,p,r⟩:=E.sw.mf a1 (en hds);have E1:gb X.K cl ⟨ρ.r,ρ.z,a ::ρ.f⟩ H (S.set k .mf) σ (δ.set i (some (.d (.lst ds)))):=⟨by rw[List.length_set];exact E.len,w,fun j d e=>by
    by_cases h:i=j
    .subst h;rw[List.getElem?_set_self (by obtain⟨h1,_⟩:=List.getElem?_eq_some_iff.mp (mG hk);exact h1)] at e
     cases e;exact⟨_,v1,by unfold bb;exact r⟩
    .rw [List.getElem?_set_ne h] at e;obtain⟨u,u1,u2⟩:=E.val j d e;exact⟨u,u1,u2.pre p⟩⟩
   exact⟨_,_,_,o,S',E1,hf,q.pre p⟩
  .cases hf
 .cases hf⟩
theorem OO{i k:Nat}{ds:List D}{F:FZ}{δ:DE}{S:aN}{QO:Ou->aN->Prop}(hk:δ[i]? =some (some (.loc k)))(hS:S[k]? =some (.lst ds))(h:W3 (F (δ.set i (some (.d (.lst ds)))) (S.set k .mf)) QO):W3 (GU i F δ S) QO:=by
 unfold GU;have e1:jZ δ i=some k:=by unfold jZ;rw [hk]
 have e2:dg S k=some ds:=by unfold dg;simp only[hS]
 simp only[e1,e2];exact h
end
def Flat(S:aN):Prop:=∀o∈S,∀n,pL n o=true
theorem Flat.all{S:aN}(h:Flat S)(n:Nat):(S.take n).all (pL n)=true:=List.all_eq_true.mpr fun o ho=>h o (List.mem_of_mem_take ho) n
theorem Flat.set{S:aN}(h:Flat S)(k:Nat){x:SO}(hx:∀n,pL n x=true):Flat (S.set k x):=fun o ho=>by
 rcases List.mem_or_eq_of_mem_set ho with z | z
 .exact h o z
 .rw [z];exact hx
theorem Flat.push{S:aN}(h:Flat S){x:SO}(hx:∀n,pL n x=true):Flat (S++[x]):=fun o ho=>by
 rcases List.mem_append.mp ho with z | z
 .exact h o z
 .rw [List.mem_singleton.mp z];exact hx
theorem Flat.take{S:aN}(h:Flat S)(n:Nat):Flat (S.take n):=fun o ho=>h o (List.mem_of_mem_take ho)
theorem Cn{N:List Str}{vs:List V3}{S:aN}{QV:V3->aN->Prop}(h:W3 (mV N F vs S) fun v S1=>Flat S1/\eu S.length v=true/\∃d,res S1 v=some d/\QV (.d d) (S1.take S.length)):W3 (oF N F vs S) QV:=
 W3.bind (h.mono fun v S1 ⟨hl,hg,d,e,q⟩=>by
  rw[e];exact W3.wh (by rw[hl.all,hg];rfl) (W3.ok q))
end L3
end
section
namespace PySem
open Sem (wp)
open AutoSeq1 (wpAny_loadPart')
section
variable {prog:Program} {w:World} {A:Around} {E:XY} {s:Shared}
end
end PySem
namespace L2
open PySem PySem.Spec PyProof.Rows
section
variable {X:Cx}
def Qk(f:FD):FD:=fun δ=>(f δ).bind fun d=>match d with
 | .int j=>R.bJ (decide (-(2 ^ 62)<=j/\j < 16777216)) (.ok (.tup (eg 0 j.toNat)))
 | _=> .no
end
end L2
end
section
namespace PySem
open Sem (wp)
open AutoSeq1 (wpAny_loadPart')
section
variable {prog:Program} {w:World} {A:Around} {E:XY} {s:Shared}
theorem m5{it l:Addr}{i:Nat}{items:Array Value}{x:Value}{Q:XY}(hit:s.heap.IsTupleIter it l i)(hl:s.heap.IsTuple l items)(hx:items[i]? =some x)
 (hQ:∀h',h'.IsTupleIter it l (i+1)->Heap.SameBut it s.heap h'->Q x {s with heap:=h'}):wpAny (model prog w) A (Builtin.SmallTypes.nextOf (.ref it)) Q E s:=by
 obtain⟨o,ho,hc,hd⟩:=id hit;obtain⟨ol,hol,_,nl,hdl⟩:=hl;unfold Builtin.SmallTypes.nextOf;refine wpAny_bind (wpAny_callSpecial?_slot (name:="__next__") hit.typeIs F.slot_tuple_iterator_next (wpAny_call_entry F.slot_tuple_iterator_next hit.typeIs F.entry_tuple_iterator_next ?_ (F.args_tuple_iterator_next_1 _)));show wpAny _ _ (field (.ref it) 0 >>=_) _ _ s;refine wpAny_bind (wpAny_field ho hd (x:= .ref l) rfl ?_);show wpAny _ _ (if(Value.ref l==Value.none)=true then _ else _) _ _ s;rw [if_neg (show ¬((Value.ref l==Value.none)=true) from Bool.false_ne_true)]
 show wpAny _ _ (field (.ref it) 1 >>=_) _ _ s;refine wpAny_bind (wpAny_field ho hd (x:= .int i 0) rfl ?_);show wpAny _ _ (seqItems? (.ref l) >>=_) _ _ s;refine wpAny_bind (wpAny_seqItems hol hdl ?_);simp only[Int.toNat_natCast,hx];refine wpAny_bind (wpAny_setField ho hd (by simp) (wpAny_pure ⟨x,rfl,wpAny_pure (hQ _ ⟨_,Heap.get?_update_self _ ho (Obj.isFreed_of_fields (Obj.data_mapFields hd _)),(Obj.cls_mapFields ..).trans hc,by rw[Obj.data_mapFields hd];simp [rawInt]⟩ (Heap.SameBut.update ..))⟩))
theorem j8{it l:Addr}{i:Nat}{items:Array Value}{Q:XY}(hh:A.handled=none)(hit:s.heap.IsTupleIter it l i)(hl:s.heap.IsTuple l items)(hx:items[i]? =none)
 (hE:∀h' e,Heap.ExtBut it s.heap h'->(∃o,h'.get? e=some o/\o.cls= .type "StopIteration")->E (.ref e) {s with heap:=h'}):wpAny (model prog w) A (Builtin.SmallTypes.nextOf (.ref it)) Q E s:=by
 obtain⟨o,ho,hc,hd⟩:=id hit;obtain⟨ol,hol,_,nl,hdl⟩:=hl;unfold Builtin.SmallTypes.nextOf;refine wpAny_bind (wpAny_callSpecial?_slot (name:="__next__") hit.typeIs F.slot_tuple_iterator_next (wpAny_call_entry F.slot_tuple_iterator_next hit.typeIs F.entry_tuple_iterator_next ?_ (F.args_tuple_iterator_next_1 _)));show wpAny _ _ (field (.ref it) 0 >>=_) _ _ s;refine wpAny_bind (wpAny_field ho hd (x:= .ref l) rfl ?_);show wpAny _ _ (if(Value.ref l==Value.none)=true then _ else _) _ _ s;rw [if_neg (show ¬((Value.ref l==Value.none)=true) from Bool.false_ne_true)]
 show wpAny _ _ (field (.ref it) 1 >>=_) _ _ s;refine wpAny_bind (wpAny_field ho hd (x:= .int i 0) rfl ?_);show wpAny _ _ (seqItems? (.ref l) >>=_) _ _ s;refine wpAny_bind (wpAny_seqItems hol hdl ?_);simp only[Int.toNat_natCast,hx];refine wpAny_bind (wpAny_rule (wpAny_bind (wpAny_setField ho hd (by simp) ?_)))
 show wpAny _ _ (newExc (.type "StopIteration") [] >>=_) _ _ _;refine wpAny_bind ?_;simp only[newExc,newTuple];refine wpAny_bind (wpAny_newObj_type ?_ (by size_fits))
 refine wpAny_bind (m:=firstArgMember _ _) (wpAny_of_eq (a:=Value.none) (by first | rfl | (simp only[firstArgMember];rfl)) ?_);refine wpAny_newObj_type ?_ (by size_fits)
 simp only[raiseNew];refine wpAny_bind (wpAny_handled ?_)
 first | rw[show A.in1.handled=none from hh] | rw[hh]
 exact wpAny_bind (wpAny_pure (wpAny_throw (hE _ _ (((Heap.SameBut.update ..).extBut.push _).push _) ⟨_,Heap.get?_push_size _ rfl,rfl⟩)))
end
theorem DS{prog:Program}{w:World}{A:Around}(hh:A.handled=none)(it l:Addr)(rM:l≠it)(items:Array Value) :
 Draws prog w A it [it,l] items.size (fun i v=>items[i]? =some v) (fun i h=>h.IsTupleIter it l i/\h.IsTuple l items) where
 live:=fun _ _ st=>let⟨o,ho,_⟩:=st.1;⟨o,ho⟩
 frame:=fun _ _ _ st hk=>⟨st.1.at fun o e=>hk it (by simp) o e,Heap.IsTuple.at st.2 fun o e=>hk l (by simp) o e⟩
 item:=fun i s Q E hi st hQ=>m5 st.1 st.2 (x:=items[i]) (by simp [hi]) fun h' RU So=>hQ _ h' s.toks (by simp [hi]) ⟨RU,st.2.extBut So.extBut rM⟩ So
 done:=fun s Q E st hE=>j8 hh st.1 st.2 (by simp) hE
theorem sU(l:Addr)(items:Array Value)(o:Obj)(n:Nat)(hc:o.cls= .type "tuple")(hd:o.data= .seq items n) :
 Meets (Builtin.«enumerate.__new__» ⟨[.type "enumerate", .ref l],[]⟩) (fun _ R s=>s.heap.get? l=some o/\
  R (.ok (.ret (.ref (s.heap.push {cls:= .type "tuple_iterator",data:= .fields #[.ref l, .int 0 0]}).objs.size)))
   {s with heap:=(s.heap.push {cls:= .type "tuple_iterator",data:= .fields #[.ref l, .int 0 0]}).push {cls:= .type "enumerate",data:= .fields #[.none, .bool false, .ref s.heap.objs.size,rawInt 0, .none, .none]}}):=
 .of_wp fun prog w A R s h=>by
   obtain⟨hp,g,d,tk,os⟩:=s;obtain⟨hl,h⟩:=h;have hsub:=sub_enumerate;have hL:Heap.IsTuple (Shared.heap ⟨hp,g,d,tk,os⟩) l items:=⟨_,hl,hc,n,hd⟩
   wp_walk using wpAny_loadPart' hl
   refine wpAny_stack_any fun st=>wpAny_pure ?_
   split
   .rename_i c _ _ _ _ _;cases(c==Value.type "enumerate") <;> (wp_walk using wpAny_loadPart' hl,wpAny_pyIter_tuple hL;exact⟨_,rfl,h⟩)
   .wp_walk using wpAny_loadPart' hl,wpAny_pyIter_tuple hL
    exact⟨_,rfl,h⟩
theorem AI{prog:Program}{w:World}{A:Around}{E:XY}{s:Shared}{l:Addr}{items:Array Value}{Q:XY}(hL:s.heap.IsTuple l items)
 (h:∀h':Heap,IsEnum h' (s.heap.objs.size+1) s.heap.objs.size 0 .none->h'.IsTupleIter s.heap.objs.size l 0->(∀b o,s.heap.get? b=some o->h'.get? b=some o)->Q (.ref (s.heap.objs.size+1)) {s with heap:=h'}) :
 wpAny (model prog w) A (call (.type "enumerate") [.ref l]) Q E s:=by
 obtain⟨o,hl,hc,n,hd⟩:=hL;refine callType_new F.called_enumerate (by decide) (F.typeCall_enumerate_1 _) (F.newCall_enumerate_1 _) (fun obj=>F.args_object_init_2 obj _) F.entry_enumerate_new (sU l items o n hc hd) ⟨hl,?_⟩
 have hz:(s.heap.push {cls:= .type "tuple_iterator",data:= .fields #[.ref l, .int 0 0]}).objs.size=s.heap.objs.size+1:=Heap.size_push ..;show _/\_;rw [hz];have he:IsEnum ((s.heap.push {cls:= .type "tuple_iterator",data:= .fields #[.ref l, .int 0 0]}).push {cls:= .type "enumerate",data:= .fields #[.none, .bool false, .ref s.heap.objs.size,rawInt 0, .none, .none]}) (s.heap.objs.size+1) s.heap.objs.size 0 .none:=by
  have:=Heap.get?_push_size (s.heap.push {cls:= .type "tuple_iterator",data:= .fields #[.ref l, .int 0 0]}) (o:={cls:= .type "enumerate",data:= .fields #[.none, .bool false, .ref s.heap.objs.size,rawInt 0, .none, .none]}) rfl;rw[hz] at this;exact this
 exact⟨⟨_,he,rfl⟩,h _ he ⟨_,Heap.get?_push_of_some _ (Heap.get?_push_size _ rfl),rfl,rfl⟩ fun b o x=>Heap.get?_push_of_some _ (Heap.get?_push_of_some _ x)⟩
end PySem
namespace L2
open PySem PySem.Spec PyProof.Rows
def Q4(K:W.Frag)(a:Addr):It:=
 ⟨fun i H=>∃xs x,tF K H a xs/\xs[i]? =some x,fun i H v H'=>∃p x,H p=none/\v= .ref p/\(∀xs,tF K H a xs->xs[i]? =some x)/\H'=upd H p (.tup [.int i,x]),fun i H=>∃xs,tF K H a xs/\xs.length<=i⟩
theorem AN{K:W.Frag}{k:Nat}(a e it:Addr)(NM:e≠it):Turn P w K (.Tuple elts k pos) (Q4 K a) [e,it] e (fun i h=>(∃old,IsEnum h e it ((i:Nat):Int) old)/\h.IsTupleIter it a i) where
 mem:=by simp
 obj:=fun i h st b hb=>by
  obtain⟨⟨old,he⟩,o,ho,c,d⟩:=st;rcases List.mem_cons.mp hb with rfl | hb
  .exact⟨_,he,fun v z=>by cases z⟩
  .have e:b=it:=by simpa using hb
   subst e;exact⟨o,ho,fun v z=>by rw[d] at z;cases z⟩
 keep:=fun i h h' st k=>by
  obtain⟨⟨old,he⟩,hi⟩:=st;exact⟨⟨old,k e (by simp) _ he⟩,hi.at fun o x=>k it (by simp) o x⟩
 item:=by
  intro X hP hw hK hc i pins s σ H E I hf st hg;subst hP hw hK;obtain⟨xs,x,hq,hx⟩:=hg;obtain⟨its,rv,p,hz⟩:=I.tuple hq;have p':s.heap.IsTuple a its.toArray:=p;obtain⟨u,hu,ru⟩:=rv.get hx;obtain⟨⟨old,he⟩,hit⟩:=st;obtain⟨f0,f1,f2,f3,f4,f5⟩:=hf e (by simp)
  obtain⟨g0,g1,g2,g3,g4,g5⟩:=hf it (by simp)
  have ha_it:a≠it:=fun z=>by
   obtain⟨o1,h1,c1,_⟩:=p';obtain⟨o2,h2,c2,_⟩:=hit;rw[z,h2] at h1;cases h1;rw[c2] at c1;exact absurd c1 (by decide)
  have ha_e:e ∉ [it,a]:=fun z=>by
   rcases List.mem_cons.mp z with q | q
   .exact NM q
   .have q:e=a:=by simpa using q
    obtain⟨o1,h1,c1,_⟩:=p';rw[<-q,he] at h1;cases h1;exact absurd (show Value.type "enumerate"=Value.type "tuple" from c1) (by decide)
  refine wpAny_pyNext_enum_itemD (DS (A:=X.A.in1) (I.ok.hd hc) it a ha_it its.toArray) he ⟨hit,p'⟩ (by have:=(List.getElem?_eq_some_iff.mp hu).1;simpa using this) NM ha_e fun u2 jx tk W4 Iw PF Ii o3 xo=>⟨_,rfl,?_⟩
  obtain rfl:u2=u:=by
   have h1:its[i]? =some u2:=by simpa using W4
   rw[hu] at h1;cases h1;rfl
  obtain⟨B8,_⟩:=PF;refine wpAny_letOwnedTupleGo_enum Iw fun h_ Ib dh=>?_
  replace dh:Heap.SameBut e jx h_:=dh
  have hel:e < s.heap.objs.size:=Heap.lt_size he;have AB:h_.get? s.heap.objs.size=some {cls:= .type "tuple",data:= .seq #[.int i tk,u2]}:=(dh.2 _ (Nat.ne_of_gt hel)).trans Ii;have kk:∀b o,b≠e->b≠it->s.heap.get? b=some o->h_.get? b=some o:=fun b o h1 h2 q=>(dh.2 b h1).trans (xo b o h1 h2 q)
  have hn:H s.heap.objs.size=none:=I.fresh;have sm:aU H (upd H s.heap.objs.size (.tup [.int i,x])):=bh hn;have nit:∀b o,H b=some o->b≠e/\b≠it:=fun b o q=>⟨fun z=>(by rw[z,f0] at q;cases q),fun z=>(by rw[z,g0] at q;cases q)⟩
  have hok:oV X.prog X.w (upd H s.heap.objs.size (.tup [.int i,x])) h_:=fun b ob q=>by
   by_cases hb:b=s.heap.objs.size
   .subst hb;rw[bq] at q;cases q;exact⟨by show 2<=sizeLine;decide,[.int i tk,u2], .cons ⟨_,rfl⟩ (.cons ru .nil),⟨_,AB,rfl,_,rfl⟩⟩
   .rw [bg hb] at q;refine(I.hok b ob q).xU (fun c v hc z=>?_) (fun c z=>sm c _ z) fun c ys z=>sm c _ z
    rcases hc with rfl | hc
    .exact kk c v (nit c _ q).1 (nit c _ q).2 z
    .exact kk c v (nit c _ hc).1 (nit c _ hc).2 z
  have nch:∀b,b ∉ [e,it]->b≠e/\b≠it:=fun b hb=>⟨fun z=>hb (by simp [z]),fun z=>hb (by simp [z])⟩
  have I2:Inv X pins σ (upd H s.heap.objs.size (.tup [.int i,x])) {s with heap:=h_,toks:=tk+1}:=by
   refine I.step (g':=s.gens) (d':=s.drawn) (ch:=[e,it]) (fun b hb=>?_) (fun b o _ _ hb q _=>kk b o (nch b hb).1 (nch b hb).2 q) (fun b o _ _ hb q _=>⟨o.slots,kk b o (nch b hb).1 (nch b hb).2 q⟩)
    (fun b o hb q n=>by rw[bg (Nat.ne_of_lt (Heap.lt_size q))];exact n) (fun b o hb q=>⟨o,kk b o (nch b hb).1 (nch b hb).2 q⟩) (fun b ys z=>sm b _ z) (fun b o u z=>sm b _ z) (fun b ps z=>⟨#[],by rw[sm b _ z];simp⟩) (fun m hm=>?_) hok I.bare
   .rcases List.mem_cons.mp hb with rfl | hb
    .exact⟨f3,f1,f4,f5⟩
    .have z:b=it:=by simpa using hb
     subst z;exact⟨g3,g1,g4,g5⟩
   .obtain⟨o,es,ep,ho,r⟩:=hm;exact⟨o,es,ep,kk _ o (Ne.symm f1) (Ne.symm g1) ho,r⟩
  refine⟨.ref s.heap.objs.size,_,I2,rfl,⟨s.heap.objs.size,x,hn,rfl,fun ys hy=>(by rw[I.rD hy hq];exact hx),rfl⟩,⟨⟨_,by simpa using Ib⟩,B8.at fun o q=>(dh.2 it (Ne.symm NM)).trans q⟩,fun b hb=>?_⟩
  rcases List.mem_cons.mp hb with rfl | hb
  .rw [bg (Nat.ne_of_lt hel)];exact f0
  .have z:b=it:=by simpa using hb
   subst z;obtain⟨o,ho,_⟩:=hit;rw[bg (Nat.ne_of_lt (Heap.lt_size ho))];exact g0
 done:=by
  intro X hP hw hK hc i pins s σ H E I hf st hg;subst hP hw hK;obtain⟨xs,hq,hx⟩:=hg;obtain⟨its,rv,p,hz⟩:=I.tuple hq;have p':s.heap.IsTuple a its.toArray:=p;obtain⟨⟨old,he⟩,hit⟩:=st;obtain⟨g0,g1,g2,g3,g4,g5⟩:=hf it (by simp)
  have hl:=rv.length;have hT:s.TypeIs (.ref e) "enumerate":=⟨_,he,rfl⟩;unfold pyNext;refine wpAny_bind (wpAny_attempt (wpAny_callSpecial?_slot (name:="__next__") hT F.slot_enumerate_next (wpAny_call_entry F.slot_enumerate_next hT F.entry_enumerate_next ?_ (F.args_enumerate_next_1 _))));show wpAny _ _ (field (.ref e) 2 >>=_) _ _ _;refine wpAny_bind (wpAny_field he rfl (x:= .ref it) rfl ?_);refine wpAny_bind (j8 (A:=X.A.in1) (I.ok.hd hc) hit p' (by simp;omega) fun h' x V9 Nm=>?_)
  obtain⟨o,ho,hcl⟩:=Nm;refine wpAny_bind (wpAny_isInstance (T:="StopIteration") (b:=true) ⟨o,ho,hcl⟩ isSubtype_stop ?_);exact wpAny_pure ⟨rfl,I.turned (t':=s.toks) (fun b o hb q=>V9 b o hb q) g0 g1 g3 g4 g5⟩
 self:=fun A i s Q E st h=>let⟨⟨_,he⟩,_⟩:=st;wpAny_pyIter_enum he h
section
variable {X:Cx}
def xw(f:FD):aw->R (List D):=fun δ=>(f δ).bind fun d=>match d with | .tup ds=> .ok (dR ds) | _=> .no
theorem Bi{elts:List Expr}{k:Nat}{vD:Pos}{p pos:Pos}(h:QD X a f)(hg:Gl X "enumerate")(hm:X.mg "enumerate"=none)(hs:starEach [a] X.env=[(false,eval a X.env)]:=by rfl):Ax X (.Tuple elts k vD) (.Call (.Name "enumerate" p) [a] [] pos) (xw f):=by
 refine⟨?_⟩;intro pins s σ H RR I ⟨Z,B,δ,ds,E,hf,q⟩;obtain⟨d,h1,h2⟩:=R.ao hf;have hA:=gI h.1 j5 hs pos pins s σ H (fun vs H1=>aU H H1/\∃v,vs=[v]/\Rep X.K B H1 d v) I ⟨Z,B,δ,d,E,h1,fun v H1 s1 r1=>⟨s1,v,rfl,r1⟩⟩
 refine Call_ (pP I hg hm boot_enumerate (PyProof.Rows.callWith_type1 (eN hA fun us s1 ⟨vs,H1,I1,r1,ss,v,ev,rr⟩=>?_) hs rfl))
 subst ev;obtain⟨u,rfl,ru⟩:=vals1 r1;cases d with
 | tup es=>
   cases h2;obtain⟨b,xs,rfl,l,rs⟩:=Rep.tup.mp rr;cases ru;obtain⟨its,rv,pt,hz⟩:=I1.tuple l.sq;refine AI (items:=its.toArray) pt fun h' he hit kk=>wpAny_pyIter_enum he ?_
   have I2:Inv X pins σ H1 {s1 with heap:=h'}:=I1.kept (t':=s1.toks) kk
   refine⟨s1.heap.objs.size+1,[s1.heap.objs.size+1,s1.heap.objs.size],_,_,H1,rfl,I2,AN b (s1.heap.objs.size+1) s1.heap.objs.size (Nat.succ_ne_self _),⟨⟨_,he⟩,hit⟩,fun c hc=>?_,q _ H1 ss fun B' H' pr=>?_⟩
   .have hle:s1.heap.objs.size<=c:=by
     rcases List.mem_cons.mp hc with z | hc
     .rw [z];exact Nat.le_succ _
     .have z:c=s1.heap.objs.size:=by simpa using hc
      rw[z];exact Nat.le_refl _
    exact I1.vR hle (I1.hok.fresh hle)
   .have l':vY X.K B' H' b xs:=l.elim (fun z=> .inl ⟨(pr.rd z.2 z.1).2,(pr.rd z.2 z.1).1⟩) .inr
    have rs':=rs.bj pr;refine⟨fun i d hd=>?_,⟨xs,l'.sq,by rw[<-rs.length];unfold dR;simp⟩⟩
    unfold dR at hd;rw[List.getElem?_map,List.getElem?_zipIdx] at hd;cases e:es[i]? with
    | none=>rw [e] at hd;cases hd
    | some d0=>
      rw[e] at hd;have hd:D.tup [.int ((0+i:Nat):Int),d0]=d:=Option.some.inj hd;rw[Nat.zero_add] at hd;obtain⟨x,hx,rx⟩:=rs'.get e;refine⟨⟨xs,x,l'.sq,hx⟩,fun v oP y Kw=>?_⟩
      obtain⟨p,y,hp,rfl,hy,rfl⟩:=y;refine⟨bh hp,?_⟩;subst hd;have EO:=hy xs l'.sq;rw[hx] at EO;cases EO;refine Rep.tup.mpr ⟨p,_,rfl, .inl ⟨fun ha=>?_, .inl bq⟩,aI.cons (Rep.int.mpr rfl) (aI.cons (rx.same (bh hp)) aI.nil)⟩
      obtain⟨o,ho⟩:=Kw p ha;rw[hp] at ho;cases ho
 | _=>cases h2
end
end L2
end
section
namespace L2
open PySem PySem.Spec PyProof.Rows
section
variable {X:Cx}
abbrev SI:D->D->R D:=yX (fun _ j=>decide (0 < j/\j.natAbs.log2 < 9000)) fun i j=>i / j
theorem Am{K:W.Frag}{B:List Addr}{ds:List D}{xs:List V}(r:aI K B H ds xs):∀n:Nat,aI K B H (List.replicate n ds).flatten (List.replicate n xs).flatten
 | 0=>aI.nil
 | n+1=>by rw[List.replicate_succ,List.replicate_succ,List.flatten_cons,List.flatten_cons];exact r.append (Am r n)
def UX(f:aw->R (List D))(g:FD):aw->R (List D):=fun δ=>(f δ).bind fun ds=>(g δ).bind fun d=>match d with
 | .int k=>R.bJ (decide (0<=k/\k < 1000000/\ds.length*k.toNat<=sizeLine)) (.ok (List.replicate k.toNat ds).flatten)
 | _=> .no
def HG(ns:List Int):List Int:=ns.mergeSort fun a b=>decide (a<=b)
def Qf:List D->R D
 | [.lst ds]=>(match ints? ds with | some ns=>R.bJ (decide (ns.length < 64)) (.ok (.lst ((HG ns).map .int))) | none=> .no)
 | _=> .no
theorem getD_in{l:List Int}{i:Nat}(h:i < l.length):l.getD i 0∈l:=by
 have e:l.getD i 0=l[i]:=by simp [h]
 rw[e];exact List.getElem_mem h
theorem fold_min:∀(ns:List Int) (n:Int),ns.foldl min n∈n ::ns/\∀a∈n ::ns,ns.foldl min n<=a
 | [],n=>⟨by simp,fun a ha=>by simp at ha;subst ha;exact Int.le_refl _⟩
 | x ::ns,n=>by
   obtain⟨h1,h2⟩:=fold_min ns (min n x);rw[List.foldl_cons];refine⟨?_,fun a ha=>?_⟩
   .rcases List.mem_cons.mp h1 with z | z
    .rw [z];by_cases hc:n<=x
     .rw [Int.min_eq_left hc];simp
     .rw [Int.min_eq_right (by omega)];simp
    .exact List.mem_cons_of_mem _ (List.mem_cons_of_mem _ z)
   .have hm:=h2 _ List.mem_cons_self;rcases List.mem_cons.mp ha with z | z
    .subst z;omega
    .rcases List.mem_cons.mp z with z | z
     .subst z;omega
     .exact h2 a (List.mem_cons_of_mem _ z)
theorem fold_max:∀(ns:List Int) (n:Int),ns.foldl max n∈n ::ns/\∀a∈n ::ns,a<=ns.foldl max n
 | [],n=>⟨by simp,fun a ha=>by simp at ha;subst ha;exact Int.le_refl _⟩
 | x ::ns,n=>by
   obtain⟨h1,h2⟩:=fold_max ns (max n x);rw[List.foldl_cons];refine⟨?_,fun a ha=>?_⟩
   .rcases List.mem_cons.mp h1 with z | z
    .rw [z];by_cases hc:n<=x
     .rw [Int.max_eq_right hc];simp
     .rw [Int.max_eq_left (by omega)];simp
    .exact List.mem_cons_of_mem _ (List.mem_cons_of_mem _ z)
   .have hm:=h2 _ List.mem_cons_self;rcases List.mem_cons.mp ha with z | z
    .subst z;omega
    .rcases List.mem_cons.mp z with z | z
     .subst z;omega
     .exact h2 a (List.mem_cons_of_mem _ z)
def wm:List D->R D
 | [.lst ds]=>(match ints? ds with | some (n ::ns)=> .ok (.int (ns.foldl min n)) | _=> .no)
 | ds=>Mq ds
def z_:List D->R D
 | [.lst ds]=>(match ints? ds with | some (n ::ns)=> .ok (.int (ns.foldl max n)) | _=> .no)
 | ds=>Me ds
theorem HM(hc:X.calm=true):gn X (.builtin "min") wm:=by
 intro pins s σ H B ds d xs us I hb rx rs hg;unfold wm at hg;split at hg
 .split at hg
  .rename_i es n ns e;cases hg;obtain⟨x,rfl,r⟩:=rs.one;obtain⟨a,ys,rfl,l,r⟩:=Rep.lst.mp r;obtain⟨u,rfl,ru⟩:=vals1 rx;cases ru;obtain⟨its,k,rv,e1,hz⟩:=I.LU l;rw[iy r e] at rv;obtain⟨ps,rfl,hps⟩:=k_ rv;have hl:s.heap.IsList a (intItems ps.toArray):=⟨_,e1,rfl,k,by simp [intItems]⟩
   have hlp:ps.length=ns.length+1:=by have:=congrArg List.length hps;simpa using this
   refine min_intList (I.ok.hd hc) hl (by simp;omega) fun v h' tk hv hk=>?_
   obtain⟨t,rfl⟩:=intItems_at hv;obtain⟨b1,b2⟩:=argBest_lt (numAt ps.toArray) (ps.toArray.size - 1);refine⟨.int _,H,I.kept hk,⟨t,rfl⟩,aU.refl H,Rep.int.mpr ?_⟩;obtain⟨m1,m2⟩:=fold_min ns n;have hge:∀j,j < ps.length->numAt ps.toArray j=(n ::ns).getD j 0:=fun j hj=>by rw[numAt_eq,<-hps]
   have hin:numAt ps.toArray (argBest (fun i j=>decide (numAt ps.toArray i < numAt ps.toArray j)) (ps.toArray.size - 1))∈n ::ns:=by
    rw[hge _ (by simp at b1 ⊢;omega)];exact getD_in (by simp at b1 ⊢;omega)
   have hle:=m2 _ hin;obtain⟨j,hj,ej⟩:=List.getElem_of_mem m1;have Qo:j < ns.length+1:=by simpa using hj
   have h3:=b2 j (by simp;omega)
   rw[hge j (by omega)] at h3
   have h4:(n ::ns).getD j 0=ns.foldl min n:=by rw[<-ej,List.getD_eq_getElem?_getD,List.getElem?_eq_getElem hj];rfl
   rw[h4] at h3;congr 1;omega
  .cases hg
 .exact OZ hc pins s σ H B _ d xs us I hb rx rs hg
theorem G7(hc:X.calm=true):gn X (.builtin "max") z_:=by
 intro pins s σ H B ds d xs us I hb rx rs hg;unfold z_ at hg;split at hg
 .split at hg
  .rename_i es n ns e;cases hg;obtain⟨x,rfl,r⟩:=rs.one;obtain⟨a,ys,rfl,l,r⟩:=Rep.lst.mp r;obtain⟨u,rfl,ru⟩:=vals1 rx;cases ru;obtain⟨its,k,rv,e1,hz⟩:=I.LU l;rw[iy r e] at rv;obtain⟨ps,rfl,hps⟩:=k_ rv;have hl:s.heap.IsList a (intItems ps.toArray):=⟨_,e1,rfl,k,by simp [intItems]⟩
   have hlp:ps.length=ns.length+1:=by have:=congrArg List.length hps;simpa using this
   refine max_intList (I.ok.hd hc) hl (by simp;omega) fun v h' tk hv hk=>?_
   obtain⟨t,rfl⟩:=intItems_at hv;obtain⟨b1,b2⟩:=argBest_gt (numAt ps.toArray) (ps.toArray.size - 1);refine⟨.int _,H,I.kept hk,⟨t,rfl⟩,aU.refl H,Rep.int.mpr ?_⟩;obtain⟨m1,m2⟩:=fold_max ns n;have hge:∀j,j < ps.length->numAt ps.toArray j=(n ::ns).getD j 0:=fun j hj=>by rw[numAt_eq,<-hps]
   have hin:numAt ps.toArray (argBest (fun i j=>decide (numAt ps.toArray i > numAt ps.toArray j)) (ps.toArray.size - 1))∈n ::ns:=by
    rw[hge _ (by simp at b1 ⊢;omega)];exact getD_in (by simp at b1 ⊢;omega)
   have hle:=m2 _ hin;obtain⟨j,hj,ej⟩:=List.getElem_of_mem m1;have Qo:j < ns.length+1:=by simpa using hj
   have h3:=b2 j (by simp;omega)
   rw[hge j (by omega)] at h3
   have h4:(n ::ns).getD j 0=ns.foldl max n:=by rw[<-ej,List.getD_eq_getElem?_getD,List.getElem?_eq_getElem hj];rfl
   rw[h4] at h3;congr 1;omega
  .cases hg
 .exact OH hc pins s σ H B _ d xs us I hb rx rs hg
end
end L2
namespace L3
open PySem PySem.Spec PyProof.Rows L2
def N6(S:aN):V3->Option (List D)
 | .d (.lst ds)=>some ds
 | .loc k=>dg S k
 | _=>none
section
variable {X:Cx} {cl:X3}
def U7(fa fb:FX):FX:=fun δ S=>(fa δ S).bind fun a S1=>(fb δ S1).bind fun b S2=>match N6 S2 a,N6 S2 b with
 | some ds,some es=>R3.bJ (decide (ds.length+es.length<=sizeLine)) (.ok (.loc S2.length) (S2++[.lst (ds++es)]))
 | _,_=> .no
def Vh(i:Nat):FZ:=fun δ S=>match jZ δ i with
 | none=> .no
 | some k=>(match dg S k with | some _=> .ok (.nx δ) (S.set k (.lst [])) | none=> .no)
end
end L3
end
section
namespace L3
open PySem PySem.Spec PyProof.Rows L2
def nB(S:aN)(c k:Nat):Option (List (Str × V3)):=match S[k]? with | some (.ins c' fs)=>(if c'=c then some fs else none) | _=>none
theorem l5{S:aN}{c k:Nat}{fs:List (Str × V3)}(h:nB S c k=some fs):S[k]? =some (.ins c fs):=by
 unfold nB at h;split at h
 .rename_i c' NN e;split at h
  .rename_i hc;cases h;rw [e,hc]
  .cases h
 .cases h
theorem C9{K:W.Frag}{v:V3}:∀{fs:List (Str × V3)} {ys:List (Str × V)},ys.map (·.1)=fs.map (·.1)->aL K ρ H (fs.map (·.2)) (ys.map (·.2))->fs.lookup f=some v->∃x,ys.lookup f=some x/\bb K ρ H v x
 | [],ys,_,_,h=>by simp at h
 | (g,w) ::fs,[],e,_,_=>by simp at e
 | (g,w) ::fs,(g',y) ::ys,e,r,h=>by
   obtain⟨e1,jm⟩:=List.cons.inj e;have e1:g'=g:=e1;subst e1;obtain⟨x,xs,ex,r1,r2⟩:=r.cJ;cases ex;rw[List.lookup_cons] at h ⊢;cases hq:f==g' with
   | true=>rw [hq] at h;cases h;exact⟨y,rfl,r1⟩
   | false=>rw [hq] at h;exact C9 jm r2 h
theorem Aq:∀{fs:List (Str × V3)} {ys:List (Str × V)},ys.map (·.1)=fs.map (·.1)->fs.lookup f=none->ys.lookup f=none
 | [],[],_,_=>rfl
 | [],_ ::_,e,_=>by simp at e
 | _ ::_,[],e,_=>by simp at e
 | (g,w) ::fs,(g',y) ::ys,e,h=>by
   obtain⟨e1,jm⟩:=List.cons.inj e;have e1:g'=g:=e1;subst e1;rw[List.lookup_cons] at h ⊢;cases hq:f==g' with
   | true=>rw [hq] at h;cases h
   | false=>rw [hq] at h;exact Aq jm h
def zC(f:Str)(v:V3):List (Str × V3)->List (Str × V3)
 | []=>[(f,v)]
 | (g,x) ::r=>if g=f then(g,v) ::r else(g,x) ::zC f v r
theorem Cz{K:W.Frag}{f:Str}{v:V3}{u:V}(rv:bb K ρ H v u):∀{fs:List (Str × V3)} {ys:List (Str × V)},ys.map (·.1)=fs.map (·.1)->aL K ρ H (fs.map (·.2)) (ys.map (·.2))->
 (kW f u ys).map (·.1)=(zC f v fs).map (·.1)/\aL K ρ H ((zC f v fs).map (·.2)) ((kW f u ys).map (·.2))
 | [],[],_,_=>⟨rfl,aL.cons rv aL.nil⟩
 | [],_ ::_,e,_=>by simp at e
 | _ ::_,[],e,_=>by simp at e
 | (g,w) ::fs,(g',y) ::ys,e,r=>by
   obtain⟨e1,jm⟩:=List.cons.inj e;have e1:g'=g:=e1;subst e1;obtain⟨x,xs,ex,r1,r2⟩:=r.cJ;cases ex;unfold zC kW;by_cases hg:g'=f
   .rw [if_pos hg,if_pos hg];exact⟨by rw[List.map_cons,List.map_cons,jm],aL.cons rv r2⟩
   .rw [if_neg hg,if_neg hg];obtain⟨h1,h2⟩:=Cz rv jm r2;exact⟨by rw[List.map_cons,List.map_cons,h1],aL.cons r1 h2⟩
section
variable {X:Cx} {cl:X3}
def m_(c:Nat)(f:Str)(g:FX):FX:=fun δ S=>(g δ S).bind fun v S1=>match v with
 | .loc k=>(match nB S1 c k with | some fs=>(match fs.lookup f with | some v=> .ok v S1 | none=> .no) | none=> .no)
 | _=> .no
theorem fI{c:Nat}{pos:Pos}(hC:yU X.K (cl c))(hn:dn X.K (cl c) f)(he:PX X cl e g)(hb:attributeBase e f X.env (eval e X.env)=eval e X.env:=by rfl):PX X cl (.Attribute e f pos) (m_ c f g):=⟨(ME he.1 hb).imp fun σ H Q ⟨ρ,S,δ,v,S',E,hf,q⟩=>by
 obtain⟨o,S1,h1,h2⟩:=R3.ao hf;split at h2
 .rename_i k;split at h2
  .rename_i fs e1;split at h2
   .rename_i w jm;cases h2;refine⟨ρ,S,δ, .loc k,_,E,h1,fun u cD H1 p1 w1 r1=>?_⟩
    unfold bb at r1;obtain⟨a,a1,rfl⟩:=r1;obtain⟨dx,ys,ey,ek,rs⟩:=w1.ob k a _ a1 (l5 e1);obtain⟨x,hx,rx⟩:=C9 ek rs jm;exact⟨a,cl c,dx,ys,x,rfl,ey,hC,hn,hx,q x cD H1 p1 w1 rx⟩
   .cases h2
  .cases h2
 .cases h2⟩
theorem w_fld{c k:Nat}{g:FX}{δ:DE}{S:aN}{Q:V3->aN->Prop}(h:W3 (g δ S) fun v S1=>∃fs w,v= .loc k/\S1[k]? =some (.ins c fs)/\fs.lookup f=some w/\Q w S1):W3 (m_ c f g δ S) Q:=
 W3.bind (h.mono fun v S1 ⟨fs,w,e1,jm,e3,q⟩=>by
  subst e1;have e4:nB S1 c k=some fs:=by unfold nB;simp only[jm,if_true]
  simp only[e4,e3];exact W3.ok q)
def gH(P:Program)(w:World)(K:W.Frag)(mg:X2)(base:Heap)(cl:X3)(k c:Nat)(m:Str)(n:Nat)(g:List V3->aN->R3 V3):Prop:=
 ∃(f:Addr) (fd:FuncData) (ps:List Str),yU K (cl c)/\Meth K (cl c) m f/\jC P w K mg base vN k f fd ps (FY K cl (n+1) g)/\Binds K fd ps []
def kJ(c:Nat)(m:Str)(g:List V3->aN->R3 V3)(fo:FX)(fs:FA):FX:=fun δ S=>(fo δ S).bind fun o S1=>match o with
 | .loc k=>(match nB S1 c k with | some ys=>(match ys.lookup m with | none=>(fs δ S1).bind fun vs S2=>g (.loc k ::vs) S2 | some _=> .no) | none=> .no)
 | _=> .no
theorem fZ{g:List V3->aN->R3 V3}{k j n c:Nat}{m:Str}{o e:Expr}{es:List Expr}{fo:FX}{fs:FA}{apos pos:Pos}{pl:Sem Bool}(M:gH X.prog X.w X.K X.mg X.base cl k c m n g)(hr:eS j X.A)(HV:k<=j)(ho:PX X cl o fo)(ha:Il X cl (e ::es) fs)(hn:∀δ S ds S',fs δ S= .ok ds S'->ds.length=n)
 (Ig:starEach (e ::es) X.env=(false,eval e X.env) ::starEach es X.env:=by rfl) (oH:(backTo pos (starEach es X.env)).any (·.1)=false:=by rfl)
 (ht:eval (.Call (.Attribute o m apos) (e ::es) [] pos) X.env=(do
   let ov <-eval o X.env
   standAt apos.atName
   let(f,first) <-holding [ov] (getMethod ov m pl)
   callWith pos f first (backTo pos (starEach (e ::es) X.env)) (backToKw pos (keywordEach [] X.env))):=by rfl) :
 PX X cl (.Call (.Attribute o m apos) (e ::es) [] pos) (kJ c m g fo fs):=by
 obtain⟨f,fd,ps,hC,hm,F,hb⟩:=M;refine⟨(Ku ho.1 hC hm F (hr.mono HV) hb .nil Ar ha.1 Ig oH ht).imp fun σ H Q ⟨ρ,S,δ,v,S',E,hf,q⟩=>?_⟩
 obtain⟨ov,S1,h1,h2⟩:=R3.ao hf;split at h2
 .rename_i kk;split at h2
  .rename_i ys e1;split at h2
   .rename_i jm;obtain⟨vs,S2,h3,h4⟩:=R3.ao h2;refine⟨ρ,S,δ, .loc kk,S1,E,h1,fun u cD H1 p1 w1 r1=>?_⟩
    have vE:=r1;unfold bb at r1;obtain⟨a,a1,rfl⟩:=r1;obtain⟨dx,zs,ey,ek,rs⟩:=w1.ob kk a _ a1 (l5 e1);refine⟨a,dx,zs,rfl,ey,Aq ek jm,cD,S1,δ,vs,S2,E.to p1 w1,h3,fun us vB H2 p2 w2 r2=>?_⟩
    show FY X.K cl (n+1) g (V.ref a ::(us++[])) H2 Q E0;rw[List.append_nil];exact⟨by rw[List.length_cons,<-r2.length,hn δ S1 vs S2 h3],vB,S2, .loc kk ::vs,v,S',w2,aL.cons (vE.pre p2) r2,h4,fun z KC H3 p3 w3 r3=>q z KC H3 (p1.trans (p2.trans p3)) w3 r3⟩
   .cases h2
  .cases h2
 .cases h2
def sH(P:Program)(w:World)(K:W.Frag)(mg:X2)(base:Heap)(cl:X3)(k c:Nat)(x:Str)(n:Nat)(g:List V3->aN->R3 V3):Prop:=
 ∃(f:Addr) (fd:FuncData) (ps:List Str),Mk K (cl c) f/\jC P w K mg base vN k f fd ps (FY K cl (n+1) g)/\mg x=some (.ref (cl c))/\Binds K fd ps []
def ui(c:Nat)(g:List V3->aN->R3 V3)(fs:FA):FX:=fun δ S=>(fs δ S).bind fun vs S1=>(g (.loc S1.length ::vs) (S1++[.ins c []])).bind fun v S2=>match v with
 | .d .de=> .ok (.loc S1.length) S2
 | _=> .no
theorem qA{g:List V3->aN->R3 V3}{k j n c:Nat}{x:Str}{p pos:Pos}{e:Expr}{es:List Expr}{fs:FA}(M:sH X.prog X.w X.K X.mg X.base cl k c x n g)(hr:eS j X.A)(HV:k+1<=j)(hg:Gl X x)(ha:Il X cl (e ::es) fs)(hn:∀δ S ds S',fs δ S= .ok ds S'->ds.length=n)
 (qT:(x==("__debug__":Str))=false:=by decide) (he:starEach (e ::es) X.env=(false,eval e X.env) ::starEach es X.env:=by rfl) (oH:(backTo pos (starEach es X.env)).any (·.1)=false:=by rfl) :
 PX X cl (.Call (.Name x p) (e ::es) [] pos) (ui c g fs):=by
 obtain⟨f,fd,ps,M,F,hm,hb⟩:=M;refine⟨(JR M F (hr.mono HV) hg hm hb .nil Ar ha.1 qT he oH).imp fun σ H Q ⟨ρ,S,δ,v,S',E,hf,q⟩=>?_⟩
 obtain⟨vs,S1,h1,h2⟩:=R3.ao hf;obtain⟨v0,S2,h3,h4⟩:=R3.ao h2;split at h4
 .cases h4;refine⟨ρ,S,δ,vs,S1,E,h1,fun us cD H1 p1 w1 r1 xa dx hx V6 rM=>?_⟩
  have hx1:upd H1 dx (.own xa) xa=none:=by rw[bg (fun z=>rM z.symm)];exact hx
  have sm:aU H1 (upd (upd H1 dx (.own xa)) xa (.ins (cl c) dx [])):=(bh V6).trans (bh hx1);obtain⟨w2,p2⟩:=w1.new (a:=xa) (o:= .ins c []) sm hx ⟨dx,[],bq,rfl,aL.nil⟩;show FY X.K cl (n+1) g (V.ref xa ::(us++[])) _ _ E0;rw[List.append_nil];have rl:bb X.K (cD.push xa) (upd (upd H1 dx (.own xa)) xa (.ins (cl c) dx [])) (.loc S1.length) (.ref xa):=by
   unfold bb;exact⟨xa,by show(cD.r++[xa])[_]? =_;rw [<-w1.len,List.getElem?_append_right (Nat.le_refl _),Nat.sub_self];rfl,rfl⟩
  exact⟨by rw[List.length_cons,<-r1.length,hn δ S vs S1 h1],_,_, .loc S1.length ::vs, .d .de,_,w2,aL.cons rl (r1.pre p2),h3,fun z KC H3 p3 w3 r3=>⟨by unfold bb Rep at r3;exact r3,q _ KC H3 (p1.trans (p2.trans p3)) w3 (rl.pre p3)⟩⟩
 .cases h4
def yp(c:Nat)(f:Str)(fo fe:FX):FZ:=fun δ S=>(fe δ S).bind fun v S1=>(fo δ S1).bind fun o S2=>match o with
 | .loc k=>(match nB S2 c k with | some fs=>R3.bJ (decide (fs.length < 1000)) (.ok (.nx δ) (S2.set k (.ins c (zC f v fs)))) | none=> .no)
 | _=> .no
theorem pN{c:Nat}{pos pos':Pos}(hC:yU X.K (cl c))(hn:dn X.K (cl c) f)(ho:PX X cl o fo)(he:PX X cl value fe)(hs:swapsWith value (some (.Attribute o f pos')) pos.line X.env=pure false:=by rfl) :
 PZ X cl (.Assign [.Attribute o f pos'] value pos) (yp c f fo fe):=⟨(Ls ho.1 he.1 hs).imp fun D σ H ⟨ρ,S,δ,ou,S',E,hf,q⟩=>by
 obtain⟨v,S1,h1,h2⟩:=R3.ao hf;obtain⟨vo,S2,h3,h4⟩:=R3.ao h2;split at h4
 .rename_i k;split at h4
  .rename_i fs e1;obtain⟨hl,h5⟩:=R3.bc h4;cases h5;refine⟨ρ,S,δ,v,S1,E,h1,fun u cD H1 p1 w1 r1=>⟨cD,S1,δ, .loc k,S2,E.to p1 w1,h3,fun u2 vB H2 p2 w2 r2=>?_⟩⟩
   unfold bb at r2;obtain⟨a,a1,rfl⟩:=r2;obtain⟨dx,ys,ey,ek,rs⟩:=w2.ob k a _ a1 (l5 e1);have hlen:ys.length=fs.length:=by have:=congrArg List.length ek;simpa using this
   obtain⟨k1,k2⟩:=Cz (f:=f) (r1.pre p2) ek rs;obtain⟨w3,p3⟩:=w2.put (o:= .ins c (zC f v fs)) (u:= .ins (cl c) dx (kW f u ys)) a1 (w2.fz k a a1 (by rw[l5 e1];intro h;cases h)) ⟨dx,_,rfl,k1,k2⟩
   exact⟨a,cl c,dx,ys,rfl,ey,hC,hn,by rw[hlen];exact of_decide_eq_true hl,q σ vB _ (p1.trans (p2.trans p3)) (E.to (p1.trans (p2.trans p3)) w3)⟩
  .cases h4
 .cases h4⟩
theorem ke{c k:Nat}{fo fe:FX}{δ:DE}{S:aN}{QO:Ou->aN->Prop}(h:W3 (fe δ S) fun v S1=>W3 (fo δ S1) fun o S2=>∃fs,o= .loc k/\S2[k]? =some (.ins c fs)/\fs.length < 1000/\QO (.nx δ) (S2.set k (.ins c (zC f v fs)))):W3 (yp c f fo fe δ S) QO:=
 W3.bind (h.mono fun v S1 h=>W3.bind (h.mono fun o S2 ⟨fs,e1,jm,hl,q⟩=>by
  subst e1;have e4:nB S2 c k=some fs:=by unfold nB;simp only[jm,if_true]
  simp only[e4];exact W3.wh (decide_eq_true hl) (W3.ok q)))
theorem jq{c k:Nat}{g:List V3->aN->R3 V3}{fo:FX}{fs:FA}{δ:DE}{S:aN}{Q:V3->aN->Prop}(h:W3 (fo δ S) fun o S1=>∃ys,o= .loc k/\S1[k]? =some (.ins c ys)/\ys.lookup m=none/\W3 (fs δ S1) fun vs S2=>W3 (g (.loc k ::vs) S2) Q):W3 (kJ c m g fo fs δ S) Q:=
 W3.bind (h.mono fun o S1 ⟨ys,e1,jm,e3,h⟩=>by
  subst e1;have e4:nB S1 c k=some ys:=by unfold nB;simp only[jm,if_true]
  simp only[e4,e3];exact W3.bind h)
theorem uo{c:Nat}{g:List V3->aN->R3 V3}{fs:FA}{δ:DE}{S:aN}{Q:V3->aN->Prop}(h:W3 (fs δ S) fun vs S1=>W3 (g (.loc S1.length ::vs) (S1++[.ins c []])) fun v S2=>v= .d .de/\Q (.loc S1.length) S2):W3 (ui c g fs δ S) Q:=
 W3.bind (h.mono fun vs S1 h=>W3.bind (h.mono fun v S2 ⟨e,q⟩=>by subst e;exact W3.ok q))
end
end L3
end
section
namespace PySem
open Sem (wp)
def gQ(t:Bool)(h:Heap)(i l:Addr)(k:Nat):Prop:=cond t (h.IsTupleIter i l k) (h.IsListIter i l k)
def kB(t:Bool)(h:Heap)(l:Addr)(xs:Array Value):Prop:=cond t (h.IsTuple l xs) (h.IsList l xs)
def uD(t:Bool):String:=cond t "tuple_iterator" "list_iterator"
theorem gQ.at{t:Bool}{h h':Heap}{i l:Addr}{k:Nat}(x:gQ t h i l k)(e:∀o,h.get? i=some o->h'.get? i=some o):gQ t h' i l k:=by
 cases t with
 | true=>exact Heap.IsTupleIter.at x e
 | false=>exact Heap.IsListIter.at x e
theorem kB.at{t:Bool}{h h':Heap}{l:Addr}{xs:Array Value}(x:kB t h l xs)(e:∀o,h.get? l=some o->h'.get? l=some o):kB t h' l xs:=by
 cases t with
 | true=>exact Heap.IsTuple.at x e
 | false=>exact Heap.IsList.at x e
theorem gQ.xb{t:Bool}{i l b:Addr}{k:Nat}(x:gQ t h i l k)(hs:Heap.ExtBut b h h')(RX:i≠b):gQ t h' i l k:=x.at fun o e=>hs i o RX e
theorem kB.xb{t:Bool}{l b:Addr}{xs:Array Value}(x:kB t h l xs)(hs:Heap.ExtBut b h h')(RX:l≠b):kB t h' l xs:=x.at fun o e=>hs l o RX e
theorem gQ.ob{t:Bool}{h:Heap}{i l:Addr}{k:Nat}(x:gQ t h i l k):∃o,h.get? i=some o/\∀v,o.data≠ .cell v:=by
 cases t with
 | true=>obtain⟨o,e,_,d⟩:=x;exact⟨o,e,fun v z=>by rw[d] at z;cases z⟩
 | false=>obtain⟨o,e,_,d⟩:=x;exact⟨o,e,fun v z=>by rw[d] at z;cases z⟩
theorem kB.lt{t:Bool}{h:Heap}{l:Addr}{xs:Array Value}(x:kB t h l xs):l < h.objs.size:=by
 cases t with
 | true=>obtain⟨o,e,_⟩:=x;exact Heap.lt_size e
 | false=>obtain⟨o,e,_⟩:=x;exact Heap.lt_size e
theorem gQ.lt{t:Bool}{h:Heap}{i l:Addr}{k:Nat}(x:gQ t h i l k):i < h.objs.size:=let⟨_,e,_⟩:=x.ob;Heap.lt_size e
section
variable {prog:Program} {w:World} {A:Around} {E:XY} {s:Shared}
theorem ka{t:Bool}{it l:Addr}{i:Nat}{items:Array Value}{x:Value}{Q:XY}(hit:gQ t s.heap it l i)(hl:kB t s.heap l items)(hx:items[i]? =some x)
 (hQ:∀h',gQ t h' it l (i+1)->Heap.SameBut it s.heap h'->Q x {s with heap:=h'}):wpAny (model prog w) A (Builtin.SmallTypes.nextOf (.ref it)) Q E s:=by
 cases t with
 | true=>exact m5 hit hl hx hQ
 | false=>exact wpAny_nextOf_list_item hit hl hx hQ
theorem oT{t:Bool}{it l:Addr}{i:Nat}{items:Array Value}{Q:XY}(hh:A.handled=none)(hit:gQ t s.heap it l i)(hl:kB t s.heap l items)(hx:items[i]? =none)
 (hE:∀h' e,Heap.ExtBut it s.heap h'->(∃o,h'.get? e=some o/\o.cls= .type "StopIteration")->E (.ref e) {s with heap:=h'}):wpAny (model prog w) A (Builtin.SmallTypes.nextOf (.ref it)) Q E s:=by
 cases t with
 | true=>exact j8 hh hit hl hx hE
 | false=>exact wpAny_nextOf_list_end hh hit hl hx hE
theorem wt{t:Bool}{l:Addr}{items:Array Value}{Q:XY}(hl:kB t s.heap l items)
 (hQ:Q (.ref s.heap.objs.size) {s with heap:=s.heap.push {cls:= .type (uD t),data:= .fields #[.ref l, .int 0 0]}}):wpAny (model prog w) A (pyIter (.ref l)) Q E s:=by
 cases t with
 | true=>exact wpAny_pyIter_tuple hl hQ
 | false=>exact wpAny_pyIter_list hl hQ
theorem EC{t u:Bool}{z TI TO i1 i2 l1 l2:Addr}{k1 k2:Nat}{xs ys:Array Value}{x y a b:Value}{Q:XY}(D:ZipApart z TI TO i1 i2 l1 l2)(hz:IsZip s.heap z TI TO .none)(B9:IsPair s.heap TI (.ref i1) (.ref i2))
 (DB:IsPair s.heap TO a b) (h1:gQ t s.heap i1 l1 k1) (h2:gQ u s.heap i2 l2 k2) (yS:kB t s.heap l1 xs) (ER:kB u s.heap l2 ys) (hx:xs[k1]? =some x) (hy:ys[k2]? =some y)
 (hQ:∀h',IsZip h' z TI TO (rawInt s.heap.objs.size)->IsPair h' TO x y->gQ t h' i1 l1 (k1+1)->gQ u h' i2 l2 (k2+1)->IsPair h' s.heap.objs.size x y->h'.objs.size=s.heap.objs.size+1->(∀c o,c≠z->c≠TO->c≠i1->c≠i2->s.heap.get? c=some o->h'.get? c=some o)->Q (.ref s.heap.objs.size) {s with heap:=h'}) :
 wpAny (model prog w) A (Builtin.«zip.__next__» ⟨[.ref z],[]⟩) (fun fin s'=>∃v,fin= .done (.ret v)/\Q v s') E s:=by
 show wpAny _ _ (field (.ref z) 2 >>=_) _ _ _;refine wpAny_bind (wpAny_field hz rfl (x:= .bool false) rfl ?_);show wpAny _ _ (field (.ref z) 3 >>=_) _ _ _;refine wpAny_bind (wpAny_field hz rfl (x:= .ref TI) rfl ?_);refine wpAny_bind (wpAny_seqItems B9 rfl ?_);show wpAny _ _ (Builtin.SmallTypes.ownedTupleIsFree (.ref z) >>=_) _ _ _;refine wpAny_bind ?_;unfold Builtin.SmallTypes.ownedTupleIsFree;refine wpAny_bind (wpAny_field hz rfl (x:= .none) rfl (wpAny_pure ?_));simp only[if_true];refine wpAny_bind (wpAny_rule ?_);refine wpAny_bind (wpAny_field hz rfl (x:= .ref TO) rfl ?_);refine wpAny_bind (wpAny_setField_rec hz (by simp) fun jx o3 jl=>?_)
 replace o3:IsZip jx z TI TO .ellipsis:=o3;refine wpAny_bind ?_;simp only[List.zipIdx_cons,List.zipIdx_nil,List.forIn_cons,List.forIn_nil]
 refine wpAny_bind (wpAny_bind (wpAny_onRaise ?_));show wpAny _ _ (Builtin.SmallTypes.nextOf (.ref i1) >>=_) _ _ _;refine wpAny_bind (ka (h1.xb jl.extBut D.i1z) (yS.xb jl.extBut D.l1z) hx fun h_ Ll dh=>wpAny_pure ?_)
 have hTO₂:IsPair h_ TO a b:=dh.extBut _ _ D.TOi1 (jl.extBut _ _ D.TOz DB);refine wpAny_bind (wpAny_seqItems hTO₂ rfl ?_);refine wpAny_bind (wpAny_updateSeq_pair hTO₂ fun KH yK kT=>?_)
 replace yK:IsPair KH TO x b:=yK;refine wpAny_bind (wpAny_letGo (wpAny_pure ?_));refine wpAny_bind (wpAny_bind (wpAny_onRaise ?_));show wpAny _ _ (Builtin.SmallTypes.nextOf (.ref i2) >>=_) _ _ _
 refine wpAny_bind (ka (((h2.xb jl.extBut D.i2z).xb dh.extBut D.i12.symm).xb kT.extBut D.TOi2.symm) (((ER.xb jl.extBut D.l2z).xb dh.extBut D.l2i1).xb kT.extBut D.l2TO) hy fun Nr PL sT=>wpAny_pure ?_)
 have hTO₄:IsPair Nr TO x b:=sT.extBut _ _ D.TOi2 yK;refine wpAny_bind (wpAny_seqItems hTO₄ rfl ?_);refine wpAny_bind (wpAny_updateSeq_pair hTO₄ fun oQ yN sS=>?_)
 replace yN:IsPair oQ TO x y:=yN;refine wpAny_bind (wpAny_letGo (wpAny_pure (wpAny_pure ?_)));refine wpAny_bind (wpAny_seqItems yN rfl ?_);refine wpAny_bind (wpAny_newTuple ?_)
 have DA:oQ.objs.size=s.heap.objs.size:=(sS.1.trans (sT.1.trans (kT.1.trans (dh.1.trans jl.1))));have hz₅:IsZip oQ z TI TO .ellipsis:=sS.extBut _ _ D.TOz.symm <| sT.extBut _ _ D.i2z.symm <| kT.extBut _ _ D.TOz.symm <| dh.extBut _ _ D.i1z.symm o3
 have hk₅:∀c o,c≠z->c≠TO->c≠i1->c≠i2->s.heap.get? c=some o->oQ.get? c=some o:=fun c o c1 c2 c3 c4 e=>sS.extBut _ _ c2 <| sT.extBut _ _ c4 <| kT.extBut _ _ c2 <| dh.extBut _ _ c3 <| jl.extBut _ _ c1 e
 have h1₅:gQ t oQ i1 l1 (k1+1):=((Ll.xb kT.extBut D.TOi1.symm).xb sT.extBut D.i12).xb sS.extBut D.TOi1.symm;have h2₅:gQ u oQ i2 l2 (k2+1):=PL.xb sS.extBut D.TOi2.symm;have hzlt:=Heap.lt_size hz₅;show wpAny _ _ (Builtin.SmallTypes.ownedTupleHandOut (.ref z) (.ref oQ.objs.size) >>=_) _ _ _;refine wpAny_bind ?_;unfold Builtin.SmallTypes.ownedTupleHandOut;have hz₆:IsZip (oQ.push {cls:= .type "tuple",data:= .seq #[x,y]}) z TI TO .ellipsis:=Heap.get?_push_of_some _ hz₅;refine wpAny_bind (wpAny_setField_rec hz₆ (by simp) fun RQ Ie H0=>?_)
 replace Ie:IsZip RQ z TI TO (rawInt oQ.objs.size):=Ie;refine wpAny_setField_rec Ie (by simp) fun Ih DC HY=>?_;replace DC:IsZip Ih z TI TO (rawInt oQ.objs.size):=DC
 have up:∀c o,c≠z->oQ.get? c=some o->Ih.get? c=some o:=fun c o c1 e=>HY.extBut _ _ c1 <| H0.extBut _ _ c1 (Heap.get?_push_of_some _ e)
 have hT₈:IsPair Ih oQ.objs.size x y:=HY.extBut _ _ (Nat.ne_of_gt hzlt) <| H0.extBut _ _ (Nat.ne_of_gt hzlt) (Heap.get?_push_size _ rfl)
 have hz8:Ih.objs.size=oQ.objs.size+1:=(HY.1.trans H0.1).trans (Heap.size_push ..);rw[DA] at DC hT₈ hz8;refine wpAny_pure ⟨_,rfl,?_⟩;show Q (.ref oQ.objs.size) _;rw [DA];exact hQ Ih DC (up _ _ D.TOz yN) (h1₅.at fun o e=>up _ o D.i1z e) (h2₅.at fun o e=>up _ o D.i2z e) hT₈ hz8 fun c o c1 c2 c3 c4 e=>up c o c1 (hk₅ c o c1 c2 c3 c4 e)
theorem HQ{t u:Bool}{z TI TO i1 i2 l1 l2:Addr}{k1 k2:Nat}{xs ys:Array Value}{a b:Value}{Q:Fin->Shared->Prop}(hh:A.handled=none)(D:ZipApart z TI TO i1 i2 l1 l2)(hz:IsZip s.heap z TI TO .none)
 (B9:IsPair s.heap TI (.ref i1) (.ref i2)) (DB:IsPair s.heap TO a b) (h1:gQ t s.heap i1 l1 k1) (h2:gQ u s.heap i2 l2 k2) (yS:kB t s.heap l1 xs) (ER:kB u s.heap l2 ys) (R4:xs[k1]? =none\/ys[k2]? =none)
 (hE:∀h' e,(∀c o,c≠z->c≠TO->c≠i1->c≠i2->s.heap.get? c=some o->h'.get? c=some o)->(∃o,h'.get? e=some o/\o.cls= .type "StopIteration")->E (.ref e) {s with heap:=h'}):wpAny (model prog w) A (Builtin.«zip.__next__» ⟨[.ref z],[]⟩) Q E s:=by
 show wpAny _ _ (field (.ref z) 2 >>=_) _ _ _;refine wpAny_bind (wpAny_field hz rfl (x:= .bool false) rfl ?_);show wpAny _ _ (field (.ref z) 3 >>=_) _ _ _;refine wpAny_bind (wpAny_field hz rfl (x:= .ref TI) rfl ?_);refine wpAny_bind (wpAny_seqItems B9 rfl ?_);show wpAny _ _ (Builtin.SmallTypes.ownedTupleIsFree (.ref z) >>=_) _ _ _;refine wpAny_bind ?_;unfold Builtin.SmallTypes.ownedTupleIsFree;refine wpAny_bind (wpAny_field hz rfl (x:= .none) rfl (wpAny_pure ?_));simp only[if_true];refine wpAny_bind (wpAny_rule ?_);refine wpAny_bind (wpAny_field hz rfl (x:= .ref TO) rfl ?_);refine wpAny_bind (wpAny_setField_rec hz (by simp) fun jx o3 jl=>?_)
 replace o3:IsZip jx z TI TO .ellipsis:=o3;refine wpAny_bind ?_;simp only[List.zipIdx_cons,List.zipIdx_nil,List.forIn_cons,List.forIn_nil]
 refine wpAny_bind (wpAny_bind (wpAny_onRaise ?_));show wpAny _ _ (Builtin.SmallTypes.nextOf (.ref i1) >>=_) _ _ _;cases hx:xs[k1]? with
 | none=>
   refine wpAny_bind (oT hh (h1.xb jl.extBut D.i1z) (yS.xb jl.extBut D.l1z) hx fun h_ e dh he=>?_)
   obtain⟨oe,hoe,hce⟩:=he;have DD:IsZip h_ z TI TO .ellipsis:=dh _ _ D.i1z.symm o3;have hez:e≠z:=fun x=>by {subst x;rw [DD] at hoe;cases hoe;simp at hce}
   exact wpAny_setField_rec DD (by simp) fun KH _ kT=>hE KH e (fun c o c1 _ c3 _ x=>kT.extBut _ _ c1 <| dh _ _ c3 <| jl.extBut _ _ c1 x) ⟨oe,kT.extBut _ _ hez hoe,hce⟩
 | some x=>
   have hy:ys[k2]? =none:=R4.resolve_left fun h=>by {rw [hx] at h;cases h}
   refine wpAny_bind (ka (h1.xb jl.extBut D.i1z) (yS.xb jl.extBut D.l1z) hx fun h_ Ll dh=>wpAny_pure ?_)
   have hTO₂:IsPair h_ TO a b:=dh.extBut _ _ D.TOi1 (jl.extBut _ _ D.TOz DB);refine wpAny_bind (wpAny_seqItems hTO₂ rfl ?_);refine wpAny_bind (wpAny_updateSeq_pair hTO₂ fun KH yK kT=>?_)
   refine wpAny_bind (wpAny_letGo (wpAny_pure ?_));refine wpAny_bind (wpAny_bind (wpAny_onRaise ?_));show wpAny _ _ (Builtin.SmallTypes.nextOf (.ref i2) >>=_) _ _ _;refine wpAny_bind (oT hh (((h2.xb jl.extBut D.i2z).xb dh.extBut D.i12.symm).xb kT.extBut D.TOi2.symm) (((ER.xb jl.extBut D.l2z).xb dh.extBut D.l2i1).xb kT.extBut D.l2TO) hy fun Nr e sT he=>?_)
   obtain⟨oe,hoe,hce⟩:=he;have hz₄:IsZip Nr z TI TO .ellipsis:=sT _ _ D.i2z.symm <| kT.extBut _ _ D.TOz.symm <| dh.extBut _ _ D.i1z.symm o3
   have hez:e≠z:=fun x=>by {subst x;rw [hz₄] at hoe;cases hoe;simp at hce}
   exact wpAny_setField_rec hz₄ (by simp) fun oQ _ sS=>hE oQ e (fun c o c1 c2 c3 c4 x=>sS.extBut _ _ c1 <| sT _ _ c4 <| kT.extBut _ _ c2 <| dh.extBut _ _ c3 <| jl.extBut _ _ c1 x) ⟨oe,sS.extBut _ _ hez hoe,hce⟩
end
abbrev Qj(t:Bool)(h:Heap)(l1:Addr):Heap:=h.push {cls:= .type (uD t),data:= .fields #[.ref l1, .int 0 0]}
abbrev Qh(t u:Bool)(h:Heap)(l1 l2:Addr):Heap:=(Qj t h l1).push {cls:= .type (uD u),data:= .fields #[.ref l2, .int 0 0]}
abbrev Qg(t u:Bool)(h:Heap)(l1 l2:Addr):Heap:=(Qh t u h l1 l2).push {cls:= .type "tuple",data:= .seq #[.ref h.objs.size, .ref (Qj t h l1).objs.size]}
abbrev Qi(t u:Bool)(h:Heap)(l1 l2:Addr):Heap:=(Qg t u h l1 l2).push {cls:= .type "tuple",data:= .seq #[.none, .none]}
abbrev NG(t u:Bool)(h:Heap)(l1 l2:Addr):Heap:=(Qi t u h l1 l2).push {cls:= .type "zip",data:= .fields #[.none, .bool false, .bool false, .ref (Qh t u h l1 l2).objs.size, .ref (Qg t u h l1 l2).objs.size]}
theorem AK(t u:Bool)(l1 l2:Addr)(xs ys:Array Value):Meets (Builtin.«zip.__new__» ⟨[.type "zip", .ref l1, .ref l2],[]⟩) (fun _ R s=>kB t s.heap l1 xs/\kB u s.heap l2 ys/\R (.ok (.ret (.ref (Qi t u s.heap l1 l2).objs.size))) {s with heap:=NG t u s.heap l1 l2}):=
 .of_wp fun prog w A R s h=>by
   obtain⟨hp,g,d,tk,os⟩:=s;obtain⟨yS,ER,h⟩:=h;have hsub:=sub_zip;have PR:kB t (Shared.heap ⟨hp,g,d,tk,os⟩) l1 xs:=yS;have hL2:kB u (Shared.heap ⟨hp.push {cls:= .type (uD t),data:= .fields #[.ref l1, .int 0 0]},g,d,tk,os⟩) l2 ys:=ER.at fun o e=>Heap.get?_push_of_some _ e
   wp_walk using wt PR,wt hL2
   exact⟨_,rfl,h⟩
theorem gQ.new{t:Bool}{h:Heap}{i l:Addr}(e:h.get? i=some {cls:= .type (uD t),data:= .fields #[.ref l, .int 0 0]}):gQ t h i l 0:=by
 cases t with
 | true=>exact⟨_,e,rfl,rfl⟩
 | false=>exact⟨_,e,rfl,rfl⟩
theorem D0{prog:Program}{w:World}{A:Around}{E:XY}{s:Shared}{t u:Bool}{l1 l2:Addr}{xs ys:Array Value}{Q:XY}(yS:kB t s.heap l1 xs)(ER:kB u s.heap l2 ys)
 (h:∀h',IsZip h' (s.heap.objs.size+4) (s.heap.objs.size+2) (s.heap.objs.size+3) .none->IsPair h' (s.heap.objs.size+2) (.ref s.heap.objs.size) (.ref (s.heap.objs.size+1))->IsPair h' (s.heap.objs.size+3) .none .none->
   gQ t h' s.heap.objs.size l1 0->gQ u h' (s.heap.objs.size+1) l2 0->(∀c o,s.heap.get? c=some o->h'.get? c=some o)->Q (.ref (s.heap.objs.size+4)) {s with heap:=h'}):wpAny (model prog w) A (call (.type "zip") [.ref l1, .ref l2]) Q E s:=by
 refine callType_new F.called_zip (by decide) (F.typeCall_zip_2 _ _) (F.newCall_zip_2 _ _) (fun obj=>F.args_object_init_3 obj _ _) F.entry_zip_new (AK t u l1 l2 xs ys) ⟨yS,ER,?_⟩
 have z1:(Qj t s.heap l1).objs.size=s.heap.objs.size+1:=Heap.size_push ..;have z2:(Qh t u s.heap l1 l2).objs.size=s.heap.objs.size+2:=(Heap.size_push ..).trans (congrArg (·+1) z1)
 have z3:(Qg t u s.heap l1 l2).objs.size=s.heap.objs.size+3:=(Heap.size_push ..).trans (congrArg (·+1) z2)
 have z4:(Qi t u s.heap l1 l2).objs.size=s.heap.objs.size+4:=(Heap.size_push ..).trans (congrArg (·+1) z3)
 have g5:(NG t u s.heap l1 l2).get? (Qi t u s.heap l1 l2).objs.size=some _:=Heap.get?_push_size _ rfl;have g4:(NG t u s.heap l1 l2).get? (Qg t u s.heap l1 l2).objs.size=some _:=Heap.get?_push_of_some _ (Heap.get?_push_size _ rfl);have g3:(NG t u s.heap l1 l2).get? (Qh t u s.heap l1 l2).objs.size=some _:=Heap.get?_push_of_some _ <| Heap.get?_push_of_some _ (Heap.get?_push_size _ rfl)
 have g2:(NG t u s.heap l1 l2).get? (Qj t s.heap l1).objs.size=some _:=Heap.get?_push_of_some _ <| Heap.get?_push_of_some _ <| Heap.get?_push_of_some _ (Heap.get?_push_size _ rfl)
 have g1:(NG t u s.heap l1 l2).get? s.heap.objs.size=some _:=Heap.get?_push_of_some _ <| Heap.get?_push_of_some _ <| Heap.get?_push_of_some _ <| Heap.get?_push_of_some _ (Heap.get?_push_size _ rfl)
 show _/\_;rw[z2,z3,z4] at g5;rw [z1,z2] at g3;rw [z3] at g4;rw [z1] at g2;rw [z4];exact⟨⟨_,g5,rfl⟩,h _ g5 g3 g4 (gQ.new g1) (gQ.new g2) fun c o x=>Heap.get?_push_of_some _ <| Heap.get?_push_of_some _ <| Heap.get?_push_of_some _ <| Heap.get?_push_of_some _ <| Heap.get?_push_of_some _ x⟩
end PySem
namespace L2
open PySem PySem.Spec PyProof.Rows
def Ik(t:Bool)(K:W.Frag)(H:Hp)(a:Addr)(xs:List V):Prop:=cond t (tF K H a xs) (pH K H a xs)
theorem Inv.IH{X:Cx}{pins:XX}{σ:L2.St}{s:Shared}{t:Bool}{a:Addr}{xs:List V}(I:Inv X pins σ H s)(h:Ik t X.K H a xs):∃its:List Value,Vals xs its/\kB t s.heap a its.toArray:=by
 cases t with
 | true=>obtain⟨its,r,p,_⟩:=I.tuple h;exact⟨its,r,p⟩
 | false=>obtain⟨its,r,p,_⟩:=I.list h;exact⟨its,r,p.isList⟩
theorem Inv.Dn{X:Cx}{pins:XX}{σ:L2.St}{s:Shared}{t:Bool}{a:Addr}{xs ys:List V}(I:Inv X pins σ H s)(h:Ik t X.K H a xs)(h':Ik t X.K H a ys):xs=ys:=by
 cases t with
 | true=>exact I.rD h h'
 | false=>exact I.qO h h'
def Vb(K:W.Frag)(t u:Bool)(a b:Addr):It:=
 ⟨fun i H=>∃xs ys x y,Ik t K H a xs/\Ik u K H b ys/\xs[i]? =some x/\ys[i]? =some y,
  fun i H v H'=>∃p x y,H p=none/\v= .ref p/\(∀xs,Ik t K H a xs->xs[i]? =some x)/\(∀ys,Ik u K H b ys->ys[i]? =some y)/\H'=upd H p (.tup [x,y]),
  fun i H=>∃xs ys,Ik t K H a xs/\Ik u K H b ys/\(xs.length<=i\/ys.length<=i)⟩
theorem G4{K:W.Frag}{k:Nat}{t u:Bool}{z TI TO i1 i2 a b:Addr}(D:ZipApart z TI TO i1 i2 a b):Turn P w K (.Tuple elts k pos) (Vb K t u a b) [z,TI,TO,i1,i2] z
 (fun i h=>IsZip h z TI TO .none/\IsPair h TI (.ref i1) (.ref i2)/\(∃x y,IsPair h TO x y)/\gQ t h i1 a i/\gQ u h i2 b i) where
 mem:=by simp
 obj:=fun i h st c hc=>by
  obtain⟨hz,B9,⟨x,y,DB⟩,h1,h2⟩:=st;simp only[List.mem_cons,List.not_mem_nil,or_false] at hc;rcases hc with rfl | rfl | rfl | rfl | rfl
  .exact⟨_,hz,fun v z=>by cases z⟩
  .exact⟨_,B9,fun v z=>by cases z⟩
  .exact⟨_,DB,fun v z=>by cases z⟩
  .exact h1.ob
  .exact h2.ob
 keep:=fun i h h' st k=>by
  obtain⟨hz,B9,⟨x,y,DB⟩,h1,h2⟩:=st;exact⟨k z (by simp) _ hz,k TI (by simp) _ B9,⟨x,y,k TO (by simp) _ DB⟩,h1.at fun o e=>k i1 (by simp) o e,h2.at fun o e=>k i2 (by simp) o e⟩
 item:=by
  intro X hP hw hK hc i pins s σ H E I hf st hg;subst hP hw hK;obtain⟨xs,ys,x,y,hq,hr,hx,hy⟩:=hg;obtain⟨its,rv,p⟩:=I.IH hq;obtain⟨jts,Ir,p'⟩:=I.IH hr;obtain⟨ux,hu,ru⟩:=rv.get hx;obtain⟨uy,W8,Sx⟩:=Ir.get hy;obtain⟨hz,B9,⟨a0,b0,DB⟩,h1,h2⟩:=st;have hT:s.TypeIs (.ref z) "zip":=⟨_,hz,rfl⟩;unfold pyNext;refine wpAny_bind (wpAny_attempt (wpAny_callSpecial?_slot (name:="__next__") hT F.slot_zip_next (wpAny_call_entry F.slot_zip_next hT F.entry_zip_next (EC D hz B9 DB h1 h2 p p' (x:=ux) (y:=uy) (by simpa using hu) (by simpa using W8) fun jx a1 a2 a3 a4 a5 a6 xo=>wpAny_pure ?_) (F.args_zip_next_1 _))))
  refine⟨_,rfl,wpAny_letOwnedTupleGo_zip a1 fun h_ DD dh=>?_⟩
  replace dh:Heap.SameBut z jx h_:=dh
  have NL:z < s.heap.objs.size:=Heap.lt_size hz;have AB:h_.get? s.heap.objs.size=some {cls:= .type "tuple",data:= .seq #[ux,uy]}:=(dh.2 _ (Nat.ne_of_gt NL)).trans a5;have kk:∀b o,b≠z->b≠TO->b≠i1->b≠i2->s.heap.get? b=some o->h_.get? b=some o:=fun b o c1 c2 c3 c4 q=>(dh.2 b c1).trans (xo b o c1 c2 c3 c4 q)
  have hn:H s.heap.objs.size=none:=I.fresh;have sm:aU H (upd H s.heap.objs.size (.tup [x,y])):=bh hn;have f0:∀c∈[z,TI,TO,i1,i2],H c=none:=fun c hc=>(hf c hc).1
  have nit:∀b o,H b=some o->b≠z/\b≠TO/\b≠i1/\b≠i2:=fun b o q=>by
   refine⟨fun e=>?_,fun e=>?_,fun e=>?_,fun e=>?_⟩
   .rw [e,f0 z (by simp)] at q;cases q
   .rw [e,f0 TO (by simp)] at q;cases q
   .rw [e,f0 i1 (by simp)] at q;cases q
   .rw [e,f0 i2 (by simp)] at q;cases q
  have kH:∀b o q,H b=some q->s.heap.get? b=some o->h_.get? b=some o:=fun b o q hb e=>let⟨c1,c2,c3,c4⟩:=nit b q hb;kk b o c1 c2 c3 c4 e
  have hok:oV X.prog X.w (upd H s.heap.objs.size (.tup [x,y])) h_:=fun b ob q=>by
   by_cases hb:b=s.heap.objs.size
   .subst hb;rw[bq] at q;cases q;exact⟨by show 2<=sizeLine;decide,[ux,uy], .cons ru (.cons Sx .nil),⟨_,AB,rfl,_,rfl⟩⟩
   .rw [bg hb] at q;refine(I.hok b ob q).xU (fun c v hc e=>?_) (fun c e=>sm c _ e) fun c ys e=>sm c _ e
    rcases hc with rfl | hc
    .exact kH c v _ q e
    .exact kH c v _ hc e
  have nch:∀b,b ∉ [z,TI,TO,i1,i2]->b≠z/\b≠TO/\b≠i1/\b≠i2:=fun b hb=>⟨fun e=>hb (by simp [e]),fun e=>hb (by simp [e]),fun e=>hb (by simp [e]),fun e=>hb (by simp [e])⟩
  have kc:∀b o,b ∉ [z,TI,TO,i1,i2]->s.heap.get? b=some o->h_.get? b=some o:=fun b o hb e=>let⟨c1,c2,c3,c4⟩:=nch b hb;kk b o c1 c2 c3 c4 e
  have I2:Inv X pins σ (upd H s.heap.objs.size (.tup [x,y])) {s with heap:=h_,toks:=s.toks}:=by
   refine I.step (g':=s.gens) (d':=s.drawn) (ch:=[z,TI,TO,i1,i2]) (fun b hb=>?_) (fun b o _ _ hb q _=>kc b o hb q) (fun b o _ _ hb q _=>⟨o.slots,kc b o hb q⟩)
    (fun b o hb q n=>by rw[bg (Nat.ne_of_lt (Heap.lt_size q))];exact n) (fun b o hb q=>⟨o,kc b o hb q⟩) (fun b ys e=>sm b _ e) (fun b o u e=>sm b _ e) (fun b ps e=>⟨#[],by rw[sm b _ e];simp⟩) (fun m hm=>?_) hok I.bare
   .obtain⟨g0,g1,g2,g3,g4,g5⟩:=hf b hb;exact⟨g3,g1,g4,g5⟩
   .obtain⟨o,es,ep,ho,r⟩:=hm;refine⟨o,es,ep,kc _ o (fun hb=>?_) ho,r⟩
    exact(hf _ hb).2.1 rfl
  have up:∀c,c≠z->∀o,jx.get? c=some o->h_.get? c=some o:=fun c hc o e=>(dh.2 c hc).trans e
  refine⟨.ref s.heap.objs.size,_,I2,rfl,⟨s.heap.objs.size,x,y,hn,rfl,fun zs Sa=>(by rw[I.Dn Sa hq];exact hx),fun zs Sa=>(by rw[I.Dn Sa hr];exact hy),rfl⟩,
   ⟨DD,up _ D.TIz _ (xo TI _ D.TIz D.TITO D.TIi1 D.TIi2 B9),⟨_,_,up _ D.TOz _ a2⟩,a3.at fun o e=>up _ D.i1z o e,a4.at fun o e=>up _ D.i2z o e⟩,fun c hc=>?_⟩
  have hlt:c < s.heap.objs.size:=by
   simp only[List.mem_cons,List.not_mem_nil,or_false] at hc;rcases hc with rfl | rfl | rfl | rfl | rfl
   .exact NL
   .exact Heap.lt_size B9
   .exact Heap.lt_size DB
   .exact h1.lt
   .exact h2.lt
  rw[bg (Nat.ne_of_lt hlt)];exact f0 c hc
 done:=by
  intro X hP hw hK hc i pins s σ H E I hf st hg;subst hP hw hK;obtain⟨xs,ys,hq,hr,hl⟩:=hg;obtain⟨its,rv,p⟩:=I.IH hq;obtain⟨jts,Ir,p'⟩:=I.IH hr;obtain⟨hz,B9,⟨a0,b0,DB⟩,h1,h2⟩:=st;have hT:s.TypeIs (.ref z) "zip":=⟨_,hz,rfl⟩;have l1:=rv.length;have l2:=Ir.length;unfold pyNext;refine wpAny_bind (wpAny_attempt (wpAny_callSpecial?_slot (name:="__next__") hT F.slot_zip_next (wpAny_call_entry F.slot_zip_next hT F.entry_zip_next (HQ (I.ok.hd hc) D hz B9 DB h1 h2 p p' ?_ fun h' e hk he=>?_) (F.args_zip_next_1 _))))
  .rcases hl with hl | hl
   .exact .inl (by simp;omega)
   .exact .inr (by simp;omega)
  obtain⟨o,ho,hcl⟩:=he;refine wpAny_bind (wpAny_isInstance (T:="StopIteration") (b:=true) ⟨o,ho,hcl⟩ isSubtype_stop ?_);have nch:∀b,b ∉ [z,TI,TO,i1,i2]->b≠z/\b≠TO/\b≠i1/\b≠i2:=fun b hb=>⟨fun e=>hb (by simp [e]),fun e=>hb (by simp [e]),fun e=>hb (by simp [e]),fun e=>hb (by simp [e])⟩
  have kc:∀b o,b ∉ [z,TI,TO,i1,i2]->s.heap.get? b=some o->h'.get? b=some o:=fun b o hb e=>let⟨c1,c2,c3,c4⟩:=nch b hb;hk b o c1 c2 c3 c4 e
  have f0:∀c∈[z,TI,TO,i1,i2],H c=none:=fun c hc=>(hf c hc).1
  have kH:∀b o q,H b=some q->s.heap.get? b=some o->h'.get? b=some o:=fun b o q hb e=>kc b o (fun z=>by rw[f0 b z] at hb;cases hb) e
  refine wpAny_pure ⟨rfl,?_⟩;refine I.step (h':=h') (H':=H) (g':=s.gens) (d':=s.drawn) (t':=s.toks) (ch:=[z,TI,TO,i1,i2]) (fun b hb=>?_) (fun b o _ _ hb q _=>kc b o hb q) (fun b o _ _ hb q _=>⟨o.slots,kc b o hb q⟩)
   (fun b o hb q n=>n) (fun b o hb q=>⟨o,kc b o hb q⟩) (fun b ys e=>e) (fun b o u e=>e) (fun b ps e=>⟨#[],by rw[e];simp⟩) (fun m hm=>?_) (fun b ob q=>?_) I.bare
  .obtain⟨g0,g1,g2,g3,g4,g5⟩:=hf b hb;exact⟨g3,g1,g4,g5⟩
  .obtain⟨o,es,ep,ho,r⟩:=hm;refine⟨o,es,ep,kc _ o (fun hb=>?_) ho,r⟩
   exact(hf _ hb).2.1 rfl
  .refine(I.hok b ob q).xU (fun c v hc e=>?_) (fun c e=>e) fun c ys e=>e
   rcases hc with rfl | hc
   .exact kH c v _ q e
   .exact kH c v _ hc e
 self:=fun A i s Q E st h=>wpAny_pyIter_zip st.1 h
section
variable {X:Cx}
def As(ds es:List D):List D:=(ds.zip es).map fun p=> .tup [p.1,p.2]
def seqD?:D->Option (List D)
 | .lst ds=>some ds
 | .tup ds=>some ds
 | _=>none
def Tg(f g:FD):aw->R (List D):=fun δ=>(f δ).bind fun d=>(g δ).bind fun e=>match seqD? d,seqD? e with | some ds,some es=> .ok (As ds es) | _,_=> .no
theorem Rep.IH{K:W.Frag}{B:List Addr}{d:D}{v:V}{ds:List D}(r:Rep K B H d v)(h:seqD? d=some ds):∃t a xs,v= .ref a/\(∀B' H',dO B H B' H'->Ik t K H' a xs/\aI K B' H' ds xs):=by
 cases d with
 | lst es=>
   cases h;obtain⟨a,xs,rfl,l,rs⟩:=Rep.lst.mp r;exact⟨false,a,xs,rfl,fun B' H' p=>⟨(l.bj p).sq,rs.bj p⟩⟩
 | tup es=>
   cases h;obtain⟨a,xs,rfl,l,rs⟩:=Rep.tup.mp r;refine⟨true,a,xs,rfl,fun B' H' p=>⟨?_,rs.bj p⟩⟩
   have l':vY K B' H' a xs:=l.elim (fun z=> .inl ⟨(p.rd z.2 z.1).2,(p.rd z.2 z.1).1⟩) .inr
   exact l'.sq
 | _=>cases h
def Th(T U:String)(f:FD):FD:=fun δ=>(f δ).bind fun d=>match d with | .dct _ _=> .no | _=> .ok (.bl (LX (tyName d) T || LX (tyName d) U))
def XB(lo:Int)(n:Nat):It:=⟨fun i _=>i < n,fun i H x H'=>H'=H/\x= .int (lo - i),fun i _=>n<=i⟩
def RG(lo:Int)(n:Nat):List D:=(List.range n).map fun(i:Nat)=>D.int (lo - i)
def Ti(f g h:FD):aw->R (List D):=fun δ=>(f δ).bind fun d=>(g δ).bind fun e=>(h δ).bind fun k=>match d,e,k with
 | .int i, .int j, .int m=>R.bJ (decide (m= -1/\ -(2 ^ 60)<=i/\i < 2 ^ 60/\ -(2 ^ 60)<=j/\j < 2 ^ 60)) (.ok (RG i (i - j).toNat)) | _,_,_=> .no
def bls?:List D->Option (List Bool)
 | []=>some []
 | .bl b ::ds=>(bls? ds).map (b ::·)
 | _ ::_=>none
theorem za{K:W.Frag}{B:List Addr}:∀{ds:List D} {xs:List V} {bs:List Bool},aI K B H ds xs->bls? ds=some bs->xs=bs.map V.bl
 | [],xs,bs,r,h=>by unfold aI at r;subst r;cases h;rfl
 | d ::ds,xs,bs,r,h=>by
   obtain⟨x,q,rfl,r1,r2⟩:=r.cJ;cases d with
   | bl b=>
     have h:(bls? ds).map (b ::·)=some bs:=h
     cases e:bls? ds with
     | none=>rw [e] at h;cases h
     | some cs=>
       rw[e] at h;cases h;rw[Rep.bl.mp r1,za r2 e];rfl
   | _=>cases h
theorem yn:∀bs:List Bool,bls? (bs.map D.bl)=some bs
 | []=>rfl
 | b ::bs=>by show(bls? (bs.map D.bl)).map (b ::·)=_;rw [yn bs];rfl
theorem va:∀{bs:List Bool} {us:List Value},Vals (bs.map V.bl) us->us=bs.map Value.bool
 | [],us,h=>by cases h;rfl
 | b ::bs,us,h=>by
   cases h with
   | cons r t=>rw [va t,show _=Value.bool b from r];rfl
theorem range_all(bs:List Bool):(List.range bs.length).all (fun i=>bs.getD i false)=bs.all id:=by
 rw[Bool.eq_iff_iff];simp only[List.all_eq_true,List.mem_range,id];constructor
 .intro h b hb;obtain⟨i,hi,rfl⟩:=List.getElem_of_mem hb;have:=h i hi;rw[List.getD_eq_getElem?_getD,List.getElem?_eq_getElem hi] at this;exact this
 .intro h i hi;rw[List.getD_eq_getElem?_getD,List.getElem?_eq_getElem hi];exact h _ (List.getElem_mem hi)
def EE:List D->R D
 | [.lst ds]=>(match bls? ds with | some bs=> .ok (.bl (bs.all id)) | none=> .no)
 | _=> .no
def UT:List D->R D
 | [.lst ds]=>(match bls? ds with | some bs=> .ok (.bl (bs.any id)) | none=> .no)
 | _=> .no
theorem ON{bs:List Bool}{i:Nat}{v:Value}(h:((bs.map Value.bool).toArray)[i]? =some v):v= .bool (bs.getD i false):=by
 rw[List.getElem?_toArray,List.getElem?_map] at h;rw[List.getD_eq_getElem?_getD];cases e:bs[i]? with
 | none=>rw [e] at h;cases h
 | some b=>rw [e] at h;cases h;rfl
theorem Hk(hc:X.calm=true):gn X (.builtin "all") EE:=by
 intro pins s σ H B ds d xs us I hb rx rs hg;unfold EE at hg;split at hg
 .split at hg
  .rename_i es bs e;cases hg;obtain⟨x,rfl,r⟩:=rs.one;obtain⟨a,ys,rfl,l,r⟩:=Rep.lst.mp r;obtain⟨u,rfl,ru⟩:=vals1 rx;cases ru;obtain⟨its,n,rv,e1,hz⟩:=I.LU l;rw[za r e] at rv;obtain rfl:=va rv;have hl:s.heap.IsList a (bs.map Value.bool).toArray:=⟨_,e1,rfl,n,rfl⟩;have hlt:a < s.heap.objs.size:=Heap.lt_size e1;refine call_all_walk (wpAny_pyIter_list hl ?_);refine⟨_,_,_,_,_,_,fun i=>bs.getD i false,rfl,Walks.list (A:=X.A.in1) (I.ok.hd hc) _ a (Nat.ne_of_lt hlt) _,⟨⟨_,Heap.get?_push_size _ rfl,rfl,rfl⟩,hl.push _⟩,?_,fun h' tk hk=>?_⟩
   .intro i v s Q E hP hQ;rw[ON hP];exact wpAny_truthy_bool hQ
   .refine⟨.bl (bs.all id),H,I.kept (old_kept hk),?_,aU.refl H,Rep.bl.mpr rfl⟩;show Value.bool _=Value.bool _;rw[<-range_all];simp
  .cases hg
 .cases hg
end
end L2
end
section
namespace L2
open PySem PySem.Spec PyProof.Rows
section
variable {X:Cx}
def Ra:FS:=fun _=> .no
theorem Cv{st:Stmt}:GR X st Ra:=⟨fun pins s σ H D I ⟨Z,B,δ,o,E,hf,q⟩=>by cases hf⟩
def Tf(f:FD):FS:=fun δ=>(f δ).bind fun _=> .ok (.nx δ)
end
end L2
namespace L3
open PySem PySem.Spec PyProof.Rows L2
section
variable {X:Cx} {cl:X3}
def Xp:FZ:=fun _ _=> .no
theorem MA{K:W.Frag}{f:aw->R (List D)}{σ:L2.St}{Q:V->Hp->Prop}(h:tX K cl (oI f) σ H Q):tN K f σ H Q:=by
 obtain⟨ρ,S,δ,v,S',E,hf,q⟩:=h;obtain⟨ds,S1,h1,h2⟩:=R3.ao hf;obtain⟨h3,e3⟩:=R3.of_ok h1;cases h2;subst e3;refine⟨[],ρ.b,down δ,ds,E.down,h3,fun a xs H' s n e r=>?_⟩
 have r':aI K (ρ.push a).b H' ds xs:=r.bj fun b o e nb=>⟨e,fun hb=>nb (by
  rcases P3.mem_push hb with z | z
  .exact List.mem_cons_of_mem _ z
  .subst z;exact List.mem_cons_self)⟩
 obtain⟨w,p⟩:=E.sw.new (o:= .lst ds) s n ⟨xs,e,r'⟩;exact q _ _ H' p w (by unfold bb;exact⟨a,by show(ρ.r++[a])[_]? =_;rw [<-E.sw.len,List.getElem?_append_right (by omega),Nat.sub_self];rfl,rfl⟩)
def Cu(f:aw->R (List D)):FX:=fun δ S=>(R3.of (f (df S δ)) S).bind fun ds S=>R3.bJ (n5 ds) (.ok (.loc S.length) (S++[.lst ds]))
theorem Jc{K:W.Frag}{f:aw->R (List D)}{σ:L2.St}{Q:V->Hp->Prop}(h:tX K cl (Cu f) σ H Q):tN K f σ H Q:=by
 obtain⟨ρ,S,δ,v,S',E,hf,q⟩:=h;obtain⟨ds,S1,h1,h2⟩:=R3.ao hf;obtain⟨h3,e3⟩:=R3.of_ok h1;obtain⟨ht,h4⟩:=R3.bc h2;cases h4;subst e3;refine⟨[],[],df _ δ,ds,E.df,h3,fun a xs H' s n e r=>?_⟩
 have r0:aI K [] H' ds xs:=r.bj fun b o e nb=>⟨e,by simp⟩
 have r':aI K (ρ.push a).b H' ds xs:=aI.wo (fun b hb ys hr=>by
  rcases P3.mem_push hb with z | z
  .exact(E.sw.same s).nt b z ys hr
  .subst z;rcases hr with y | ⟨ob,y⟩
   .rw [e] at y;cases y
   .rw [e] at y;cases y) ht r0
 obtain⟨w,p⟩:=E.sw.new (o:= .lst ds) s n ⟨xs,e,r'⟩;exact q _ _ H' p w (by unfold bb;exact⟨a,by show(ρ.r++[a])[_]? =_;rw [<-E.sw.len,List.getElem?_append_right (by omega),Nat.sub_self];rfl,rfl⟩)
theorem zN{i:Nat}{x:Str}{pos' jN:Pos}{scope:Scope}{own:List Str}{kp:List Nat}{kn:List Str}{tg iter elt:Expr}{ifs:List Expr}{it:aw->R (List D)}{t:FT}{c:aw->R Bool}{f:FD}{pos:Pos}(hc:X.calm=true)
 (hN:X.N.Nodup) (hx:X.N[i]? =some x) (EV:X.env.scope.names.lookup x=some .local) (C:bt X scope own kp kn) (hi:Ax X tg iter it)
 (hg:∀fp s H,KS (bo X scope (own++kn) fp s H) tg t) (yQ:∀fp s H,DV (bo X scope (own++kn) fp s H) ifs c) (he:∀fp s H,QD (bo X scope (own++kn) fp s H) elt f)
 (tH:swapsWith (.ListComp elt [⟨tg,iter,ifs,0⟩] scope pos) (some (.Name x pos')) jN.line X.env=pure true:=by rfl)
 (hs:∀x,foldedSetIterable iter X.env x=pure x:=by intro _;rfl):PZ X cl (.Assign [.Name x pos'] (.ListComp elt [⟨tg,iter,ifs,0⟩] scope pos) jN) (c0 i (oI (cZ it t c f own kp))):=
 ⟨(l_ hc hN hx EV C hi.1 (fun fp s H=>(hg fp s H).1) (fun fp s H=>(yQ fp s H).1) (fun fp s H=>(he fp s H).1) tH hs).imp fun D σ H h=>tT (MA (AW h))⟩
theorem Ai{i:Nat}{x:Str}{pos' jN:Pos}{scope:Scope}{own:List Str}{kp:List Nat}{kn:List Str}{tg iter elt:Expr}{ifs:List Expr}{it:aw->R (List D)}{t:FT}{c:aw->R Bool}{f:FD}{pos:Pos}(hc:X.calm=true)
 (hN:X.N.Nodup) (hx:X.N[i]? =some x) (EV:X.env.scope.names.lookup x=some .local) (C:bt X scope own kp kn) (hi:Ax X tg iter it)
 (hg:∀fp s H,KS (bo X scope (own++kn) fp s H) tg t) (yQ:∀fp s H,DV (bo X scope (own++kn) fp s H) ifs c) (he:∀fp s H,QD (bo X scope (own++kn) fp s H) elt f)
 (tH:swapsWith (.ListComp elt [⟨tg,iter,ifs,0⟩] scope pos) (some (.Name x pos')) jN.line X.env=pure true:=by rfl)
 (hs:∀x,foldedSetIterable iter X.env x=pure x:=by intro _;rfl):PZ X cl (.Assign [.Name x pos'] (.ListComp elt [⟨tg,iter,ifs,0⟩] scope pos) jN) (c0 i (Cu (cZ it t c f own kp))):=
 ⟨(l_ hc hN hx EV C hi.1 (fun fp s H=>(hg fp s H).1) (fun fp s H=>(yQ fp s H).1) (fun fp s H=>(he fp s H).1) tH hs).imp fun D σ H h=>tT (Jc (AW h))⟩
theorem MD{f:aw->R (List D)}{ds:List D}{δ:DE}{S:aN}{QV:V3->aN->Prop}(e:f (df S δ)= .ok ds)(ht:n5 ds=true)(h:QV (.loc S.length) (S++[.lst ds])):W3 (Cu f δ S) QV:=W3.bind (W3.of e (W3.wh ht (W3.ok h)))
def GQ(i:Nat)(f:FX):FZ:=fun δ S=>match jZ δ i with
 | none=> .no
 | some k=>match dg S k with
   | none=> .no
   | some _=>(f δ S).bind fun v S1=>match v with
     | .d (.lst es)=>(match dg S1 k with
       | some ds=>R3.bJ (decide (ds.length+es.length<=sizeLine)) (.ok (.nx δ) (S1.set k (.lst (ds++es))))
       | none=> .no)
     | _=> .no
theorem M4{i:Nat}{x:Str}{e:Expr}{f:FX}{e_ apos cG pos:Pos}(hN:X.N[i]? =some x)(hv:F9 X.env.scope x)(he:PX X cl e f)
 (hd:(x==("__debug__":Str))=false:=by decide) (r6:(x==("__classdict__":Str))=false:=by decide)
 (hs:starEach [e] X.env=(false,eval e X.env) ::starEach [] X.env:=by rfl) (l0:(apos.endLine==cG.line)=true:=by rfl)
 (rO:((backTo cG (starEach [e] X.env)).all (fun x=>!x.1) && (backToKw cG (keywordEach [] X.env)).all (fun x=>x.1.isSome)
   && decide (([e]:List Expr).length+([]:List Keyword).length+(if([]:List Keyword).isEmpty then 0 else 1) < 30))=true:=by rfl)
 (tH:swapsWith (.Call (.Attribute (.Name x e_) "extend" apos) [e] [] cG) none pos.line X.env=pure false:=by rfl)
 (l3:attributeBase (.Name x e_) "extend" X.env (eval (.Name x e_) X.env)=eval (.Name x e_) X.env:=by rfl) :
 PZ X cl (.Expr (.Call (.Attribute (.Name x e_) "extend" apos) [e] [] cG) pos) (GQ i f):=by
 refine⟨(qe (C3 (X:=X) PySem.F.plainAttrs_list PySem.F.slot_list_extend PySem.F.type_list_extend Be (rG hN hv hd r6) (gI he.1 j5 hs) l3 rO l0 hs) tH).imp fun D σ H ⟨ρ,S,δ,o,S',E,hf,q⟩=>?_⟩
 unfold GQ at hf;split at hf
 .cases hf
 .rename_i k hk;split at hf
  .cases hf
  .rename_i ds0 h0;obtain⟨v,S1,h1,h2⟩:=R3.ao hf;split at h2
   .rename_i es;split at h2
    .rename_i ds h3;obtain⟨hl,h4⟩:=R3.bc h2;cases h4;obtain⟨u,u1,u2⟩:=E.val i _ (mG hk);unfold bb at u2;obtain⟨a,a1,rfl⟩:=u2;obtain⟨Sw,x0,_⟩:=E.sw.ob k a _ a1 (en h0);refine⟨.ref a,u1, .inl ⟨rfl,Sw,pH.of x0⟩,⟨ρ,S,δ, .d (.lst es),S1,E,h1,fun y cD H1 p1 w1 r1=>?_⟩⟩
     have b1:=p1.ext k a a1;obtain⟨xs,x1,x2⟩:=w1.ob k a _ b1 (en h3);unfold bb at r1;obtain⟨b,ys,rfl,l,r'⟩:=Rep.lst.mp r1;refine⟨a,b,xs,ys,rfl,rfl,x1,⟨_,l⟩,by rw[<-x2.length,<-r'.length];exact of_decide_eq_true hl,?_⟩
     obtain⟨w2,p2⟩:=w1.put (o:= .lst (ds++es)) (u:= .lst (xs++ys)) b1 (w1.fz k a b1 (by rw[en h3];intro h;cases h)) ⟨xs++ys,rfl,x2.append r'⟩
     exact q σ cD _ (p1.trans p2) (E.to (p1.trans p2) w2)
    .cases h2
   .cases h2
theorem OB{i k:Nat}{f:FX}{δ:DE}{S:aN}{QO:Ou->aN->Prop}(hk:δ[i]? =some (some (.loc k)))(h0:∃ds,S[k]? =some (.lst ds))(h:W3 (f δ S) fun v S1=>∃es ds,v= .d (.lst es)/\S1[k]? =some (.lst ds)/\ds.length+es.length<=sizeLine/\QO (.nx δ) (S1.set k (.lst (ds++es)))):W3 (GQ i f δ S) QO:=by
 obtain⟨es,h0⟩:=h0;unfold GQ;have e1:jZ δ i=some k:=by unfold jZ;rw [hk]
 have e2:dg S k=some es:=by unfold dg;simp only[h0]
 rw[e1];show W3 (match dg S k with | none=>_ | some _=>_) _
 rw[e2];refine W3.bind (h.mono fun v S1 ⟨d,ds,e,h1,hl,q⟩=>?_)
 subst e;have e3:dg S1 k=some ds:=by unfold dg;simp only[h1]
 show W3 (match dg S1 k with | some ds=>_ | none=>_) _
 rw[e3];exact W3.wh (decide_eq_true hl) (W3.ok q)
theorem AO{f:FX}{δ:DE}{S:aN}{QO:Ou->aN->Prop}(h:W3 (f δ S) fun _ S1=>QO (.nx δ) S1):W3 (Ao f δ S) QO:=W3.bind (h.mono fun _ _ h=>W3.ok h)
end
end L3
end
section
namespace L2
open PySem PySem.Spec PyProof.Rows
section
variable {X:Cx}
theorem Gk{prog:Program}{w:World}{A:Around}{E:XY}{s:Shared}{t b:Addr}{vs ws:List Value}{Q:XY}(ht:IsTup s.heap t vs.toArray)(hb:IsTup s.heap b ws.toArray)
 (h0:vs=[]->Q (.ref b) s) (h1:vs≠[]->ws=[]->Q (.ref t) s) (h2:vs≠[]->ws≠[]->Q (.ref s.heap.objs.size) {s with heap:=s.heap.push {cls:= .type "tuple",data:= .seq (vs++ws).toArray}})
 (DA:vs.length+ws.length<=sizeLine):wpAny (model prog w) A (binaryOp .Add (.ref t) (.ref b)) Q E s:=by
 by_cases hv:vs=[]
 .obtain⟨⟨cls,dd,data,sl⟩,ho,hc,n,hd⟩:=id ht;obtain⟨⟨Sb,Qt,data2,NR⟩,Nj,hc2,n2,hd2⟩:=id hb;simp only at hc hd hc2 hd2;subst hc hd hc2 hd2;exact concat_meets ⟨_,ho,rfl⟩ ⟨_,Nj,rfl⟩ noFill_tuple_add seq_tuple_add PySem.F.slot_tuple_add PySem.F.entry_tuple_add (PySem.F.args_tuple_add_2 _ _) (tuple_addW0 t b vs.toArray ws.toArray n n2 dd Qt sl NR (by simp [hv])) ⟨ho,Nj,h0 hv⟩
 .exact HT.Kf ht hb hv (h1 hv) (h2 hv) DA
def sC(d e:D):R D:=match d,e with
 | .tup a, .tup b=>R.bJ (decide (a.length+b.length<=sizeLine)) (.ok (.tup (a++b)))
 | d,e=>gS d e
theorem vY.fresh{K:W.Frag}{B:List Addr}{H:Hp}{p:Addr}{xs:List V}(hb:∀a∈B,∃o,H a=some o)(hp:H p=none):vY K B (upd H p (.tup xs)) p xs:= .inl ⟨fun ha=>(by obtain⟨o,ho⟩:=hb p ha;rw [hp] at ho;cases ho), .inl bq⟩
theorem xY:mh X (binaryOp .Add) sC:=by
 intro pins s σ H B da db d x y v u I hb rx ry ra rb hg;by_cases ht:∃a b,da= .tup a/\db= .tup b
 .obtain⟨a,b,rfl,rfl⟩:=ht;have hg:R.bJ (decide (a.length+b.length<=sizeLine)) (.ok (.tup (a++b)))= .ok d:=hg;obtain⟨h1,h2⟩:=R.bc hg;cases h2;have h1:=of_decide_eq_true h1;have ra':=ra;have rb':=rb;obtain⟨a1,Pr,rfl,l1,r1⟩:=Rep.tup.mp ra;obtain⟨a2,RS,rfl,l2,r2⟩:=Rep.tup.mp rb;cases rx;cases ry;obtain⟨its,PQ,p1,_⟩:=I.tuple l1.sq;obtain⟨rN,T8,p2,_⟩:=I.tuple l2.sq;have e1:=PQ.length;have e2:=T8.length;have e3:=r1.length;have e4:=r2.length;refine Gk p1 p2 (fun z=>⟨.ref a2,H,I,rfl,aU.refl H,?_⟩) (fun _ z=>⟨.ref a1,H,I,rfl,aU.refl H,?_⟩) (fun _ _=>?_) (by omega)
  .obtain rfl:a=[]:=List.eq_nil_of_length_eq_zero (by rw[e3,e1,z];rfl)
   exact rb'
  .obtain rfl:b=[]:=List.eq_nil_of_length_eq_zero (by rw[e4,e2,z];rfl)
   rw[List.append_nil];exact ra'
  .have hp:H s.heap.objs.size=none:=I.hok.fresh (Nat.le_refl _);refine⟨.ref s.heap.objs.size,_,I.laid (t':=s.toks) (o:= .tup (Pr++RS)) (fun b ob q=>Heap.get?_push_of_some _ q) (Nat.le_refl _) ⟨by rw[List.length_append];omega,_,PQ.append T8,IsTup.new _ _⟩,rfl,bh hp,Rep.tup.mpr ⟨_,_,rfl,vY.fresh hb hp,(r1.append r2).same (bh hp)⟩⟩
 .have hg:gS da db= .ok d:=by
   unfold sC at hg;split at hg
   .exact absurd ⟨_,_,rfl,rfl⟩ ht
   .exact hg
  exact i_ pins s σ H B da db d x y v u I hb rx ry ra rb hg
theorem Ax.or{F F1 F2:aw->R (List D)}(h1:Ax X tg e F1)(h2:Ax X tg e F2)(h:∀δ ds,F δ= .ok ds->F1 δ= .ok ds\/F2 δ= .ok ds):Ax X tg e F:=
 ⟨fun pins s σ H R I ⟨Z,B,δ,ds,E,hf,q⟩=>(h δ ds hf).elim (fun z=>h1.1 pins s σ H R I ⟨Z,B,δ,ds,E,z,q⟩) fun z=>h2.1 pins s σ H R I ⟨Z,B,δ,ds,E,z,q⟩⟩
def CA(f:FD):aw->R (List D):=fun δ=>(f δ).bind fun d=>match d with | .lst ds=> .ok (dR ds) | .tup ds=> .ok (dR ds) | _=> .no
theorem A0{elts:List Expr}{k:Nat}{vD:Pos}{p pos:Pos}(h:QD X a f)(hg:Gl X "enumerate")(hm:X.mg "enumerate"=none)(hs:starEach [a] X.env=[(false,eval a X.env)]:=by rfl):Ax X (.Tuple elts k vD) (.Call (.Name "enumerate" p) [a] [] pos) (CA f):=
 Ax.or (F1:=k8 f) (F2:=xw f) ⟨Aj h.1 hg hm hs⟩ (Bi h hg hm hs) fun δ ds hf=>by
  obtain⟨d,h1,h2⟩:=R.ao hf;cases d with
  | lst es=>cases h2;exact .inl (by unfold k8;rw [h1];rfl)
  | tup es=>cases h2;exact .inr (by unfold xw;rw [h1];rfl)
  | _=>cases h2
def Uw(K:W.Frag)(a:Addr)(n:Nat):It:=
 ⟨fun i H=>∃xs x,pH K H a xs/\xs.length=n/\i < n/\xs[n - 1 - i]? =some x,fun i H v H'=>H'=H/\∀xs,pH K H a xs->xs[n - 1 - i]? =some v,fun i H=>(∃xs,pH K H a xs)/\i=n⟩
theorem HB{K:W.Frag}(a it:Addr)(n:Nat):Turn P w K tg (Uw K a n) [it] it (fun i h=>h.IsRevIter it a ((n:Int) - 1 - (i:Int))) where
 mem:=by simp
 obj:=fun i h st b hb=>by
  have e:b=it:=by simpa using hb
  subst e;obtain⟨o,e,c,d⟩:=st;exact⟨o,e,fun v z=>by rw[d] at z;cases z⟩
 keep:=fun i h h' st k=>st.at fun o e=>k it (by simp) o e
 item:=by
  intro X hP hw hK hc i pins s σ H E I hf st hg;subst hP hw hK;obtain⟨xs,x,hq,hn,hi,hx⟩:=hg;obtain⟨its,rv,p,hz⟩:=I.list hq;obtain⟨u,hu,ru⟩:=rv.get hx;obtain⟨f0,f1,f2,f3,f4,f5⟩:=hf it (by simp)
  have e0:(n:Int) - 1 - (i:Int)=((n - 1 - i:Nat):Int):=by omega
  rw[e0] at st;refine wpAny_pyNext_rev_item st p.isList (x:=u) (by simpa using hu) fun h' H_ sb=>?_
  have I1:Inv X pins σ H {s with heap:=h'}:=I.turned (t':=s.toks) (fun b o hb e=>(sb.2 b hb).trans e) f0 f1 f3 f4 f5
  have Iu:h'.IsRevIter it a ((n:Int) - 1 - ((i+1:Nat):Int)):=by
   rw[show((n - 1 - i:Nat):Int) - 1=(n:Int) - 1 - ((i+1:Nat):Int) by omega] at H_;exact H_
  obtain⟨o,e,c,d⟩:=id Iu;exact⟨u,rfl,CT (s:={s with heap:=h'}) e c d (by decide) ⟨x,H,I1,ru,⟨rfl,fun ys hy=>by rw[I.qO hy hq];exact hx⟩,Iu,fun b hb=>(hf b hb).1⟩⟩
 done:=by
  intro X hP hw hK hc i pins s σ H E I hf st hg;subst hP hw hK;obtain⟨_,rfl⟩:=hg;obtain⟨f0,f1,f2,f3,f4,f5⟩:=hf it (by simp)
  rw[show(i:Int) - 1 - (i:Int)= -1 by omega] at st
  exact wpAny_pyNext_rev_end (I.ok.hd hc) st fun h' eb=>⟨rfl,I.turned (t':=s.toks) (fun b o hb e=>eb b o hb e) f0 f1 f3 f4 f5⟩
 self:=fun _ _ _ _ _ st h=>wpAny_pyIter_revIter st h
def Lc(f:FD):aw->R (List D):=fun δ=>(f δ).bind fun d=>match d with | .lst ds=> .ok ds.reverse | _=> .no
theorem HD{tg a:Expr}{p pos:Pos}(h:QD X a f)(hg:Gl X "reversed")(hm:X.mg "reversed"=none)(hs:starEach [a] X.env=[(false,eval a X.env)]:=by rfl):Ax X tg (.Call (.Name "reversed" p) [a] [] pos) (Lc f):=by
 refine⟨?_⟩;intro pins s σ H RR I ⟨Z,B,δ,ds,E,hf,q⟩;obtain⟨d,h1,h2⟩:=R.ao hf;have hA:=gI h.1 j5 hs pos pins s σ H (fun vs H1=>aU H H1/\∃v,vs=[v]/\Rep X.K B H1 d v) I ⟨Z,B,δ,d,E,h1,fun v H1 s1 r1=>⟨s1,v,rfl,r1⟩⟩
 refine Call_ (pP I hg hm boot_reversed (PyProof.Rows.callWith_type1 (eN hA fun us s1 ⟨vs,H1,I1,r1,ss,v,ev,rr⟩=>?_) hs rfl))
 subst ev;obtain⟨u,rfl,ru⟩:=vals1 r1;cases d with
 | lst es=>
   cases h2;obtain⟨b,xs,rfl,l,rs⟩:=Rep.lst.mp rr;cases ru;obtain⟨its,rv,pl,hz⟩:=I1.list l.sq;have e1:=rv.length;have e2:=rs.length;refine call_reversed_list pl.isList (wpAny_pyIter_revIter (i:=(its.toArray.size:Int) - 1) ⟨_,Heap.get?_push_size _ rfl,rfl,rfl⟩ ?_);refine⟨s1.heap.objs.size,[s1.heap.objs.size],_,_,H1,rfl,I1.kept (t':=s1.toks) fun b o e=>Heap.get?_push_of_some _ e,HB b _ es.length,?_,fun c hc=>?_,q _ H1 ss fun B' H' pr=>?_⟩
   .refine⟨_,Heap.get?_push_size _ rfl,rfl,?_⟩;show Data.fields #[.ref b,rawInt ((its.toArray.size:Int) - 1)]=Data.fields #[.ref b,rawInt ((es.length:Int) - 1 - ((0:Nat):Int))];rw[List.size_toArray,<-e1,<-e2,show((es.length:Nat):Int) - 1 - ((0:Nat):Int)=(es.length:Int) - 1 by omega]
   .have e:c=s1.heap.objs.size:=by simpa using hc
    subst e;exact I1.vR (Nat.le_refl _) (I1.hok.fresh (Nat.le_refl _))
   .have l':vJ X.K B' H' b xs:=l.bj pr;have rs':=rs.bj pr;refine⟨fun i d hd=>?_,⟨xs,l'.sq⟩,by rw[List.length_reverse]⟩
    have hi:i < es.length:=by have:=(List.getElem?_eq_some_iff.mp hd).1;rwa [List.length_reverse] at this
    rw[List.getElem?_reverse hi] at hd;obtain⟨x,hx,rx⟩:=rs'.get hd;refine⟨⟨xs,x,l'.sq,e2.symm,hi,hx⟩,fun v oP yl Kw=>?_⟩
    obtain⟨rfl,hy⟩:=yl;have EO:=hy xs l'.sq;rw[hx] at EO;cases EO;exact⟨aU.refl _,rx⟩
 | _=>cases h2
def pJ(K:W.Frag)(C:Addr)(m qual:Str)(st:Stmt):Prop:=∃f fd,CI K m qual st f fd/\Meth K C m f
def Ef(K:W.Frag)(C:Addr)(m qual:Str)(st:Stmt):Prop:=∃f fd,CI K m qual st f fd/\Mk K C f
end
end L2
namespace L3
open PySem PySem.Spec PyProof.Rows L2
section
variable {X:Cx} {cl:X3}
theorem gH.p{K:W.Frag}{mg:X2}{cl:X3}{k c:Nat}{n:Nat}{N:List Str}(C:gH P w K mg base cl k c m n (mV N F)):gH P w K mg base cl k c m n (oF N F):=
 let⟨f,fd,ps,c1,c2,F,h⟩:=C;⟨f,fd,ps,c1,c2,F.imp fun _ _ _ _ h=>Bn h,h⟩
end
end L3
end
section
namespace L2
open PySem PySem.Spec PyProof.Rows
section
variable {X:Cx}
def UC(f:FD):aw->R (List D):=fun δ=>(f δ).bind fun d=>match d with | .int j=>R.bJ (decide (-(2 ^ 62)<=j/\j < 16777216)) (.ok (eg 0 j.toNat)) | _=> .no
def Vg(f:FD):FD:=fun δ=>(f δ).bind fun d=>match d with | .lst ds=> .ok (.lst ds.reverse) | _=> .no
end
end L2
end
section
namespace L2
open PySem PySem.Spec PyProof.Rows
section
variable {X:Cx}
def Va(K:W.Frag)(n:Nat)(t:GA):TG:=fun v σ H Q=>∃a xs,v= .ref a/\pH K H a xs/\xs.length=n/\t xs σ H Q
end
end L2
namespace L3
open PySem PySem.Spec PyProof.Rows L2
section
variable {X:Cx} {cl:X3}
def Xr(n:Nat)(t:IS):FG:=fun d δ=>match d with
 | .d (.lst ds)=>if ds.length=n then t (ds.map .d) δ else none
 | .lst vs=>if vs.length=n then t vs δ else none
 | _=>none
def Ml(f g:FX):FA:=fun δ S=>(ax f (ax g bW) δ S).bind fun vs S1=>match vs with
 | [.d d, .d e]=>(match seqD? d,seqD? e with | some ds,some es=> .ok ((As ds es).map .d) S1 | _,_=> .no)
 | _=> .no
theorem Jl{elts:List Expr}{k:Nat}{vD:Pos}{p pos:Pos}(h:PX X cl a f)(h':PX X cl b g)(hg:Gl X "zip")(hm:X.mg "zip"=none)(hs:starEach [a,b] X.env=[(false,eval a X.env),(false,eval b X.env)]:=by rfl)(Nz:starEach [b] X.env=[(false,eval b X.env)]:=by rfl) :
 Ni X cl (.Tuple elts k vD) (.Call (.Name "zip" p) [a,b] [] pos) (Ml f g):=by
 refine⟨?_⟩;intro pins s σ H RR I ⟨ρ,S,δ,vs,S',E,hf,q⟩;obtain⟨ws,S1,h1,h2⟩:=R3.ao hf;have hA:=(ag h (ag h' aH Nz) (by rw[hs,Nz])).1 pos pins s σ H (fun us H1=>∃cD,Pre ρ H cD H1/\SW X.K cl cD H1 S1/\aL X.K cD H1 ws us) I
  ⟨ρ,S,δ,ws,S1,E,h1,fun us cD H1 p1 w1 r1=>⟨cD,p1,w1,r1⟩⟩
 refine Call_ (pP I hg hm boot_zip (PyProof.Rows.callWith_type1 (eN hA fun us s1 ⟨xs,H1,I1,r1,cD,p1,w1,rr⟩=>?_) (by rw[hs,Nz]) (by rw[Nz];rfl)))
 rcases hsh:ws with _ | ⟨w0,_ | ⟨w2,_ | ⟨w3,wr⟩⟩⟩ <;> subst hsh
 .cases h2
 .cases w0 <;> cases h2
 .rcases w0 with d | _ | _ | _ <;> rcases w2 with e | _ | _ | _ <;> try (cases h2;done)
  have h2:(match seqD? d,seqD? e with | some ds,some es=>R3.ok ((As ds es).map V3.d) S1 | _,_=> .no)= .ok vs S':=h2
  cases e1:seqD? d with
  | none=>rw [e1] at h2;cases h2
  | some ls=>
    cases e2:seqD? e with
    | none=>rw [e1,e2] at h2;cases h2
    | some ms=>
      rw[e1,e2] at h2;cases h2;obtain⟨v,ys,ev,ra,rr⟩:=rr.cJ;obtain⟨v',zs,ES,rb,rr⟩:=rr.cJ;unfold aL at rr;subst rr ES ev;obtain⟨u,u',rfl,ru,Sx⟩:=vals2 r1;unfold bb at ra rb;obtain⟨t,a,xs,rfl,k1⟩:=ra.IH e1;obtain⟨w,b,ys,rfl,k2⟩:=rb.IH e2;cases ru;cases Sx;obtain⟨its,rv,pp⟩:=I1.IH (k1 cD.b H1 (dO.refl _ H1)).1;obtain⟨jts,Ir,Ub⟩:=I1.IH (k2 cD.b H1 (dO.refl _ H1)).1;have la:=pp.lt;have lb:=Ub.lt;refine D0 pp Ub fun h_ hz B9 DB VS TR kk=>wpAny_pyIter_zip hz ?_
      have I2:Inv X pins σ H1 {s1 with heap:=h_}:=I1.kept (t':=s1.toks) kk
      refine⟨s1.heap.objs.size+4,[s1.heap.objs.size+4,s1.heap.objs.size+2,s1.heap.objs.size+3,s1.heap.objs.size,s1.heap.objs.size+1],_,_,H1,rfl,I2,G4 (t:=t) (u:=w) (zipApart_new la lb),⟨hz,B9,⟨_,_,DB⟩,VS,TR⟩,fun c hc=>?_,q _ cD H1 p1 w1 (NJ.of fun B' H' pr=>?_)⟩
      .have hle:s1.heap.objs.size<=c:=by
        simp only[List.mem_cons,List.not_mem_nil,or_false] at hc;rcases hc with rfl | rfl | rfl | rfl | rfl <;> omega
       exact I1.vR hle (I1.hok.fresh hle)
      .obtain⟨l1,Uh⟩:=k1 B' H' pr;obtain⟨l2,T4⟩:=k2 B' H' pr;refine⟨fun i d hd=>?_,⟨xs,ys,l1,l2,?_⟩⟩
       .unfold As at hd;rw[List.getElem?_map] at hd;cases ez:(ls.zip ms)[i]? with
        | none=>rw [ez] at hd;cases hd
        | some pr'=>
          rw[ez] at hd;have hd:D.tup [pr'.1,pr'.2]=d:=Option.some.inj hd;obtain⟨ea,eb⟩:=List.getElem?_zip_eq_some.mp ez;obtain⟨x,hx,rx⟩:=Uh.get ea;obtain⟨y,hy,ry⟩:=T4.get eb;refine⟨⟨xs,ys,x,y,l1,l2,hx,hy⟩,fun v oP yl Kw=>?_⟩
          obtain⟨p,x2,y2,hp,rfl,NQ,EO,rfl⟩:=yl;refine⟨bh hp,?_⟩;subst hd;have NQ:=NQ xs l1;have EO:=EO ys l2;rw[hx] at NQ;cases NQ;rw[hy] at EO;cases EO;refine Rep.tup.mpr ⟨p,_,rfl, .inl ⟨fun ha=>?_, .inl bq⟩,aI.cons (rx.same (bh hp)) (aI.cons (ry.same (bh hp)) aI.nil)⟩
          obtain⟨o,ho⟩:=Kw p ha;rw[hp] at ho;cases ho
       .rw [<-Uh.length,<-T4.length];unfold As;rw[List.length_map,List.length_zip];omega
 .cases w0 <;> cases w2 <;> cases h2
theorem OX{f g:FX}{δ:DE}{S:aN}{Q:List V3->aN->Prop}(h:W3 (f δ S) fun v S1=>W3 (g δ S1) fun w S2=>∃d e ds es,v= .d d/\w= .d e/\seqD? d=some ds/\seqD? e=some es/\Q ((As ds es).map .d) S2):W3 (Ml f g δ S) Q:=
 W3.bind (W3.bind (h.mono fun v S1 h2=>W3.bind (W3.bind (h2.mono fun w S2 ⟨d,e,ds,es,e1,jm,e3,e4,q⟩=>by
  subst e1 jm;exact W3.bind (W3.ok (W3.ok (W3.ok (by simp only[e3,e4];exact W3.ok q))))))))
def k6(S:aN):Prop:=∀o∈S,pL S.length o=true
theorem Flat.U5{S:aN}(h:Flat S):k6 S:=fun o ho=>h o ho _
theorem O2{N:List Str}{vs:List V3}{S:aN}{QV:V3->aN->Prop}(h:W3 (mV N F vs S) fun v S1=>(∀o∈S1.take S.length,pL S.length o=true)/\eu S.length v=true/\∃d,res S1 v=some d/\QV (.d d) (S1.take S.length)):W3 (oF N F vs S) QV:=
 W3.bind (h.mono fun v S1 ⟨hl,hg,d,e,q⟩=>by
  rw[e];exact W3.wh (by rw[List.all_eq_true.mpr hl,hg];rfl) (W3.ok q))
theorem ib{N:List Str}{vs:List V3}{S:aN}{QV:V3->aN->Prop}(hS:k6 S)(h:W3 (mV N F vs S) fun v S1=>eu S.length v=true/\(∃T,S1=S++T)/\∃d,res S1 v=some d/\QV (.d d) S):W3 (oF N F vs S) QV:=
 O2 (h.mono fun v S1 ⟨hg,⟨T,e1⟩,d,e,q⟩=>by
  subst e1;rw[List.take_append_of_le_length (Nat.le_refl _),List.take_length];exact⟨hS,hg,d,e,q⟩)
end
end L3
end
section
namespace L2
open PySem PySem.Spec PyProof.Rows
section
variable {X:Cx}
def ois?:List D->Option (List (Option Int))
 | []=>some []
 | .int i ::ds=>(ois? ds).map (some i ::·)
 | .de ::ds=>(ois? ds).map (none ::·)
 | _ ::_=>none
def Xo:Option Int->V | some i=> .int i | none=> .de
def UM(d e:D):R Bool:=match d,e with
 | .de, .lst ds=>(match ois? ds with | some ss=> .ok (ss.any (·.isNone)) | none=> .no)
 | _,_=> .no
def Ve(d e:D):R D:=(UM d e).bind fun b=> .ok (.bl b)
end
end L2
end
section
namespace L2
open PySem PySem.Spec PyProof.Rows
section
variable {X:Cx}
def Rv(d:D)(ds:List D):R D:=match d,ds with
 | .lst es,[.int k]=>(match ints? es with | some ss=> .ok (.int (ss.count k:Nat)) | none=> .no)
 | _,_=> .no
end
end L2
end
section
namespace L2
open PySem PySem.Spec PyProof.Rows
section
variable {X:Cx}
abbrev Je:D->D->R D:=yX (fun i j=>decide (0<=j/\j < 1000/\ -1000 < i/\i < 1000)) fun i j=>i*2 ^ j.toNat
theorem Oz:mh X (binaryOp .LShift) Je:=zQ Mf fun i j h=>by
 have:=of_decide_eq_true h;exact⟨this.1,by omega,by omega⟩
def FJ(d e:D):R D:=match d,e with | .bl a, .bl b=> .ok (.bl (a !=b)) | _,_=> .no
theorem LL:mh X (compareOp .IsNot) FJ:=by
 intro pins s σ H B da db d x y v u I hb rx ry ra rb hg;unfold FJ at hg;split at hg
 .cases hg;rw[Rep.bl.mp ra] at rx;rw[Rep.bl.mp rb] at ry;cases rx;cases ry;exact isnot_bool ⟨.bl _,H,I,rfl,aU.refl H,Rep.bl.mpr rfl⟩
 .cases hg
end
end L2
namespace L3
open PySem PySem.Spec PyProof.Rows L2
section
variable {X:Cx} {cl:X3}
def Tc(fo f:FX):FZ:=fun δ S=>(fo δ S).bind fun o S0=>match o with
 | .loc k=>(match dg S0 k with
   | none=> .no
   | some _=>(f δ S0).bind fun v S1=>match v with
     | .d d=>(match dg S1 k with | some ds=>R3.bJ (decide (ds.length < sizeLine)) (.ok (.nx δ) (S1.set k (.lst (ds++[d])))) | none=> .no)
     | _=> .no)
 | _=> .no
def SV(f:FX):FA:=fun δ S=>(ax f bW δ S).bind fun vs S1=>match vs with
 | [.d (.lst ds)]=> .ok ((dR ds).map .d) S1
 | _=> .no
end
end L3
end
section
namespace L2
open PySem PySem.Spec PyProof.Rows
section
variable {X:Cx}
end
end L2
end
section
namespace L3
open PySem PySem.Spec PyProof.Rows L2
section
variable {cl:X3}
def Rz(it:FA)(t:FG)(c:FB)(f:FX)(own:List Str)(kp:List Nat):FX:=fun δ S=>(it δ S).bind fun vs S1=>R3.bJ (decide (vs.length<=sizeLine)) ((nG t c f (mU own kp δ) vs S1).bind fun ys S2=>match s_ ys with | some ds=> .ok (.loc S2.length) (S2++[.lst ds]) | none=> .no)
end
section
variable {X:Cx} {cl:X3}
end
end L3
end
section
namespace L3
open PySem PySem.Spec PyProof.Rows L2
section
variable {X:Cx} {cl:X3}
def RE(g:List D->R D)(fs:FA):FX:=fun δ S=>(fs δ S).bind fun vs S1=>match xB S1 vs with
 | some ds=>(R3.of (g ds) S1).bind fun d S=>R3.bJ (mj d) (.ok (.d d) S)
 | none=> .no
end
end L3
end
section
namespace L2
open PySem PySem.Spec PyProof.Rows
section
variable {X:Cx}
def UN(f:FD):FD:=fun δ=>(f δ).bind fun d=>match d with | .int i=> .ok (.int (-i - 1)) | _=> .no
def Ul(d:D)(lo hi:Option Int):R D:=match d with
 | .tup ds=>R.bJ (decide (¬(HT.tP ds.length 0 lo=0/\HT.tP ds.length ds.length hi=ds.length))) (.ok (.tup (cutD ds lo hi)))
 | _=> .no
def U2(f:FD)(fl fh:FO):FD:=fun δ=>(f δ).bind fun d=>(fl δ).bind fun lo=>(fh δ).bind fun hi=>Ul d lo hi
end
end L2
namespace L3
open PySem PySem.Spec PyProof.Rows L2
section
variable {X:Cx} {cl:X3}
structure Xy (X:Cx) (cl:X3) (st:List Stmt) (F:FZ):Prop where
 go:yV X st (fun D σ H=>D.ct=D.nx/\sX X.K cl F D σ H)
end
end L3
end
section
namespace L2
open PySem PySem.Spec PyProof.Rows
end L2
namespace L3
open PySem PySem.Spec PyProof.Rows L2
section
variable {X:Cx} {cl:X3}
def U3(i:Nat)(f:FX):FX:=fun δ S=>match jZ δ i with
 | none=> .no
 | some k=>match dg S k with
   | none=> .no
   | some _=>(f δ S).bind fun v S1=>match v with
     | .d (.int j)=>(match dg S1 k with
       | some ds=>(match Cq ds.length j with
         | some p=>(match ds[p]? with | some d=>R3.bJ (decide (-(2 ^ 63)<=j/\j < 2 ^ 63)) (.ok (.d d) (S1.set k (.lst (ds.eraseIdx p)))) | none=> .no)
         | none=> .no)
       | none=> .no)
     | _=> .no
end
end L3
end
section
namespace L3
open PySem PySem.Spec PyProof.Rows L2
section
variable {X:Cx} {cl:X3}
def Uy(f:FX)(fl fh:NH):FX:=fun δ S=>(f δ S).bind fun v S1=>(fl δ S1).bind fun lo S2=>(fh δ S2).bind fun hi S3=>match v with
 | .lst vs=> .ok (.lst (L2.cutD vs lo hi)) S3
 | _=> .no
end
end L3
end
section
namespace L2
open PySem PySem.Spec PyProof.Rows
section
variable {X:Cx}
def QE:List V->Hp->VK->Prop:=fun xs H Q=>∃a ba ns,xs=[V.ref a]/\H a=some (.dK ba)/\ba.map (·.1)=ns.map Sum.inl/\ns.length < 64/\∀p,H p=none->Q (.ref p) (upd H p (.lst ((HG ns).map V.int)))
end
end L2
end
section
namespace L3
open PySem PySem.Spec PyProof.Rows L2
section
variable {X:Cx} {cl:X3}
def Ol(ba:List (Key × D))(k:Key)(d:D):List (Key × D):=if(ba.any fun kv=>decide (kv.1=k))=true then ba.map (fun kv=>if kv.1=k then(kv.1,d) else kv) else ba++[(k,d)]
def Cm(S:aN)(k:Nat):Option (List (Key × D)):=match S[k]? with | some (.dct ba)=>some ba | _=>none
def Td:FX:=fun δ S=> .ok (.loc S.length) (S++[.dct []])
def Tu(fo fi fe:FX):FZ:=fun δ S=>(fe δ S).bind fun v S1=>(fo δ S1).bind fun o S2=>(fi δ S2).bind fun j S3=>match v,o,j with
 | .d d, .loc k, .d (.int n)=>(match Cm S3 k with | some ba=>R3.bJ (decide (ba.length < sizeLine)) (.ok (.nx δ) (S3.set k (.dct (Ol ba (Sum.inl n) d)))) | none=> .no)
 | _,_,_=> .no
def UB(fa fo:FX):FX:=fun δ S=>(fa δ S).bind fun j S1=>(fo δ S1).bind fun o S2=>match j,o with
 | .d (.int n), .loc k=>(match Cm S2 k with | some ba=> .ok (.d (.bl (ba.any fun kv=>decide (kv.1=Sum.inl n)))) S2 | none=> .no)
 | _,_=> .no
def intK?:List Key->Option (List Int)
 | []=>some []
 | .inl n ::ks=>(intK? ks).map (n ::·)
 | .inr _ ::_=>none
def QL(f:FX):FX:=fun δ S=>(f δ S).bind fun o S1=>match o with
 | .loc k=>(match Cm S1 k with
   | some ba=>(match intK? (ba.map (·.1)) with | some ns=>R3.bJ (decide (ns.length < 64)) (.ok (.d (.lst ((HG ns).map .int))) S1) | none=> .no)
   | none=> .no)
 | _=> .no
end
end L3
end
section
namespace L2
open PySem PySem.Spec PyProof.Rows
section
variable {X:Cx}
def P6:V->List V->Hp->VK->Prop:=fun x vs H Q=>∃(l:Addr) (xs:List V) (j:Int) (i:Nat) (y:V),x= .ref l/\vs=[.int j,y]/\H l=some (.lst xs)/\j=i/\i<=xs.length/\xs.length < sizeLine/\Q .de (upd H l (.lst (xs.take i++y ::xs.drop i)))
end
end L2
namespace L3
open PySem PySem.Spec PyProof.Rows L2
section
variable {X:Cx} {cl:X3}
def UO(i:Nat)(f g:FX):FZ:=fun δ S=>match jZ δ i with
 | none=> .no
 | some k=>match dg S k with
   | none=> .no
   | some _=>(f δ S).bind fun v S1=>match v with
     | .d (.int j)=>(g δ S1).bind fun w S2=>(match w with
       | .d d=>(match dg S2 k with
         | some ds=>R3.bJ (decide (0<=j/\j.toNat<=ds.length/\ds.length < sizeLine)) (.ok (.nx δ) (S2.set k (.lst (ds.take j.toNat++d ::ds.drop j.toNat))))
         | none=> .no)
       | _=> .no)
     | _=> .no
end
end L3
end
section
namespace L3
open PySem PySem.Spec PyProof.Rows L2
section
variable {X:Cx} {cl:X3}
structure Xz (X:Cx) (pos:Pos) (keys:List (Option Expr)) (values:List Expr) (ks:List Str) (g:aw->R (List D)):Prop where
 h:∃xp,LJ X pos keys values xp/\∀(σ:L2.St) (H:Hp) (Q:List (V × V)->Hp->Prop),(∃Z B δ ds,d4 X.K Z B H σ δ/\g δ= .ok ds/\∀vs H',aU H H'->aI X.K B H' ds vs->Q ((ks.zip vs).map fun p=>(V.str p.1,p.2)) H')->qZ xp σ H Q
def MW(ks:List Str)(ns:List Int):List (Key × D):=(ks.zip ns).foldl (fun acc p=>Ol acc (Sum.inr p.1) (.int p.2)) []
def Rt(ks:List Str)(g:aw->R (List D)):FX:=fun δ S=>(R3.of (g (down δ)) S).bind fun ds S=>match ints? ds with
 | some ns=>R3.bJ (decide (ns.length=ks.length/\ks.length<=15)) (.ok (.loc S.length) (S++[.dct (MW ks ns)]))
 | none=> .no
def Q0(ba:List (Key × D))(k:Key):Option D:=(ba.find? fun kv=>decide (kv.1=k)).map (·.2)
def SR(i:Nat)(f g:FD):FX:=fun δ S=>match jZ δ i with
 | none=> .no
 | some k=>match Cm S k with
   | none=> .no
   | some ba=>(R3.of (f (down δ)) S).bind fun kd S=>(R3.of (g (down δ)) S).bind fun d S=>match kd with
     | .str x=> .ok (.d ((Q0 ba (Sum.inr x)).getD d)) S
     | _=> .no
end
end L3
end
section
namespace L2
open PySem PySem.Spec PyProof.Rows
section
variable {X:Cx}
def Tz:List D->R D
 | [.tup ds]=>(match ints? ds with | some ns=> .ok (.int ns.sum) | none=> .no)
 | ds=>Rx ds
end
end L2
end
section
namespace L2
open PySem PySem.Spec PyProof.Rows
theorem En(l:Addr)(o:Obj)(items:Array Value)(n:Nat)(x:Int)(u:Tok)(h1:2<=x)(h2:x < 1000)(h3:items.isEmpty=false)(hd:o.data= .seq items n)(h4:(List.foldl (fun x1 x2=>x1++x2) #[] (List.replicate x.toNat items)).size<=sizeLine)(h5:items.size*x.toNat<=sizeLine) :
 Meets (Builtin.«tuple.__mul__» {pos:=[Value.ref l,Value.int x u]}) fun _ R s=>
        s.heap.get? l=some o/\
         R (Except.ok (Flow.ret (Value.ref s.heap.objs.size))) {s with heap:=s.heap.push {cls:=Value.type "tuple",data:=Data.seq (List.foldl (fun x1 x2=>x1++x2) #[] (List.replicate x.toNat items))}}:=by
 intro prog w A R s ⟨e,q⟩;have hz:sizeLine=16777216:=sizeLine_eq;have hx:(x.toNat:Int)=x:=Int.toNat_of_nonneg (by omega)
 have h5':(items.size:Int)*x<=16777216:=by
  rw[<-hx,<-Int.natCast_mul];omega
 unfold Builtin.«tuple.__mul__»;have hn:(decide (x < -2 ^ 63) || decide (x>=2 ^ 63))=false:=by
  rw[decide_eq_false (by omega),decide_eq_false (by omega)];rfl
 show wpAny _ _ (asIndex (.int x u) >>=_) _ _ _;refine wpAny_bind ?_;have ha:asIndex (.int x u)=pure x:=by
  unfold asIndex;show(asInt? (.int x u) >>=_)=_;rfl
 rw[ha];refine wpAny_pure ?_;dsimp only;rw[if_neg (by rw[hn];exact Bool.false_ne_true)]
 refine wpAny_bind (wpAny_tupleItemsOf e hd ?_);have hc:(items.isEmpty || x==1)=false:=by rw[h3,Bool.false_or];exact beq_eq_false_iff_ne.mpr (by omega)
 rw[if_neg (by rw[hc];exact Bool.false_ne_true)]
 have hd:(decide (x<=0) || items.isEmpty)=false:=by rw[h3,decide_eq_false (by omega)];rfl
 have h6:¬((items.size:Int)*x > (2 ^ 63 - 1) / 8):=by omega
 have h7:Builtin.Tuple.tupleTooMany ((items.size:Int)*x)=false:=by unfold Builtin.Tuple.tupleTooMany;exact decide_eq_false (by omega)
 rw[if_neg (by rw[hd];exact Bool.false_ne_true),if_neg h6,if_neg (by rw[h7];exact Bool.false_ne_true)]
 refine wpAny_bind ?_;unfold Builtin.Tuple.tupleExact;exact wpAny_newObj_type (wpAny_pure q) h4
theorem x6(x:Int)(u:Tok)(l:Addr)(o:Obj)(items:Array Value)(n:Nat)(hd:o.data= .seq items n) :
 Meets (Builtin.«int.__rmul__» {pos:=[Value.int x u,Value.ref l]}) fun _ R s=>s.heap.get? l=some o/\R (Except.ok (Flow.ret Value.notImplemented)) s:=by
 intro prog w A R s ⟨e,q⟩;unfold Builtin.«int.__rmul__» Builtin.Int.intBinary;refine wpAny_bind ?_;show wpAny _ _ (pure (Value.int x u,[Value.ref l])) _ _ _;refine wpAny_pure ?_;dsimp only;refine wpAny_bind ?_;show wpAny _ _ (pure x) _ _ _;refine wpAny_pure (wpAny_bind ?_);show wpAny _ _ (asInt? (.ref l)) _ _ _;unfold asInt?;refine wpAny_bind (wpAny_load e ?_);rw[hd];dsimp only;refine wpAny_pure ?_;dsimp only;exact wpAny_bind (wpAny_rule (wpAny_pure q))
section
variable {X:Cx}
theorem Fj{K:W.Frag}{B:List Addr}{ds:List D}{xs:List V}(r:aI K B H ds xs):∀k,aI K B H (List.replicate k ds).flatten (List.replicate k xs).flatten:=fun k=>Am r k
theorem t8(its:List Value):∀(m:Nat) (acc:List Value),List.foldl (fun x1 x2=>x1++x2) acc.toArray (List.replicate m its.toArray)=(acc++(List.replicate m its).flatten).toArray
 | 0,acc=>by simp
 | m+1,acc=>by
   rw[List.replicate_succ,List.foldl_cons,List.replicate_succ,List.flatten_cons];have:acc.toArray++its.toArray=(acc++its).toArray:=by simp
   rw[this,t8 its m,List.append_assoc]
def sx(d e:D):R D:=match d,e with
 | .tup a, .int k=>R.bJ (decide (2<=k/\k < 1000/\a≠[]/\a.length*k.toNat<=sizeLine)) (.ok (.tup (List.replicate k.toNat a).flatten))
 | d,e=>fB d e
theorem F4:mh X (binaryOp .Mult) sx:=by
 intro pins s σ H B da db d x y v u I hb rx ry ra rb hg;by_cases ht:∃a k,da= .tup a/\db= .int k
 .obtain⟨a,k,rfl,rfl⟩:=ht;have hg:R.bJ (decide (2<=k/\k < 1000/\a≠[]/\a.length*k.toNat<=sizeLine)) (.ok (.tup (List.replicate k.toNat a).flatten))= .ok d:=hg;obtain⟨h1,h2⟩:=R.bc hg;cases h2;obtain⟨k1,k2,rM,DA⟩:=of_decide_eq_true h1;obtain⟨a1,Pr,rfl,l1,r1⟩:=Rep.tup.mp ra;obtain rfl:=Rep.int.mp rb;cases rx;obtain⟨t,rfl⟩:=ry;obtain⟨its,PQ,p1,_⟩:=I.tuple l1.sq;have e1:=PQ.length;have e3:=r1.length;obtain⟨⟨cls,dd,data,sl⟩,ho,hc,n,hd⟩:=id p1;simp only at hc hd;subst hc hd;have hfold:List.foldl (fun x1 x2=>x1++x2) #[] (List.replicate k.toNat its.toArray)=(List.replicate k.toNat its).flatten.toArray:=by
   have:=t8 its k.toNat [];rw[List.nil_append] at this;exact this
  have hlen:(List.replicate k.toNat its).flatten.length=k.toNat*its.length:=len_rep its k.toNat;have Nx:its.length*k.toNat<=sizeLine:=by rw[<-e1,<-e3];exact DA
  have hne2:its.toArray.isEmpty=false:=by
   cases its with
   | nil=>exact absurd (List.eq_nil_of_length_eq_zero (by rw[e3,e1];rfl)) rM
   | cons b r=>rfl
  refine wpAny_binaryOp_repeat_ref (T:="tuple") (U:="int") (by decide) ⟨_,ho,rfl⟩ (fun s'=>typeIs_int s' k t) (by first | rfl | decide) F.fills_int_mul F.slot_int_rmul (id:="tuple.__mul__") (by first | rfl | decide) F.slot_int_index.lookup
   (call_meets F.slot_int_rmul (typeIs_int s k t) F.entry_int_rmul (F.args_int_rmul_2 _ _) (x6 k t a1 _ its.toArray n rfl)
     ⟨ho,rfl,⟨_,ho,rfl⟩,call_meets F.slot_tuple_mul ⟨_,ho,rfl⟩ F.entry_tuple_mul (F.args_tuple_mul_2 _ _) (En a1 _ its.toArray n k t k1 k2 hne2 rfl (by rw[hfold,List.size_toArray,hlen,Nat.mul_comm];exact Nx) (by rw[List.size_toArray];exact Nx)) ⟨ho,?_⟩⟩)
  rw[hfold];have hp:H s.heap.objs.size=none:=I.hok.fresh (Nat.le_refl _);refine⟨.ref s.heap.objs.size,_,I.laid (t':=s.toks) (o:= .tup (List.replicate k.toNat Pr).flatten) (fun b ob q=>Heap.get?_push_of_some _ q) (Nat.le_refl _) ⟨by rw[len_rep,Nat.mul_comm,e1];exact Nx,_,PQ.rep k.toNat,IsTup.new _ _⟩,rfl,bh hp,Rep.tup.mpr ⟨_,_,rfl,vY.fresh hb hp,(Fj r1 k.toNat).same (bh hp)⟩⟩
 .have hg:fB da db= .ok d:=by
   unfold sx at hg;split at hg
   .exact absurd ⟨_,_,rfl,rfl⟩ ht
   .exact hg
  exact fT pins s σ H B da db d x y v u I hb rx ry ra rb hg
end
end L2
end
section
namespace NT
theorem uP:∀(l:List Nat) (n:Nat),n<=l.foldl max n/\∀x∈l,x<=l.foldl max n
 | [],n=>⟨Nat.le_refl _,by simp⟩
 | a ::l,n=>by
   obtain⟨h1,h2⟩:=uP l (max n a);rw[List.foldl_cons];refine⟨by omega,fun x hx=>?_⟩
   rcases List.mem_cons.mp hx with rfl | hx
   .omega
   .exact h2 x hx
theorem ua:∀(l:List Nat) (n:Nat),l.foldl max n=n\/l.foldl max n∈l
 | [],n=> .inl rfl
 | a ::l,n=>by
   rw[List.foldl_cons];rcases ua l (max n a) with h | h
   .rw [h];rcases Nat.le_total n a with q | q
    .rw [Nat.max_eq_right q];exact .inr List.mem_cons_self
    .rw [Nat.max_eq_left q];exact .inl rfl
   .exact .inr (List.mem_cons_of_mem _ h)
def mx(f:Nat->Nat)(w:List Nat):Nat:=(w.map f).foldl max 0
theorem OR{f:Nat->Nat}{w:List Nat}{z:Nat}(h:z∈w):f z<=mx f w:=(uP (w.map f) 0).2 _ (List.mem_map_of_mem h)
theorem O4{f:Nat->Nat}{w:List Nat}(h:w≠[]):∃z∈w,f z=mx f w:=by
 rcases ua (w.map f) 0 with q | q
 .obtain⟨a,l,rfl⟩:=List.exists_cons_of_ne_nil h;have:=OR (f:=f) (w:=a ::l) (z:=a) List.mem_cons_self;refine⟨a,List.mem_cons_self,?_⟩;unfold mx at this ⊢;omega
 .obtain⟨z,hz,e⟩:=List.mem_map.mp q;exact⟨z,hz,e⟩
theorem qp{f g:Nat->Nat}{w:List Nat}(h:∀z∈w,f z=g z):mx f w=mx g w:=by
 unfold mx;rw[List.map_congr_left h]
theorem sL:∀(l:List Nat) (n:Nat),(l.map fun(x:Nat)=>(x:Int)).foldl max (n:Int)=((l.foldl max n:Nat):Int)
 | [],n=>rfl
 | a ::l,n=>by
   rw[List.map_cons,List.foldl_cons,List.foldl_cons];have:max (n:Int) (a:Int)=((max n a:Nat):Int):=by omega
   rw[this];exact sL l (max n a)
structure BA (f:Nat->Nat) (M:Nat) (bs:List Int):Prop where
 a:∀(z:Nat) (v:Int),bs[z]? =some v->v= -1\/(0<=v/\v+f z<=M)
def BB(f:Nat->Nat)(M:Nat)(bs:List Int)(n:Nat):Prop:=∃(z:Nat) (v:Int),z < n/\bs[z]? =some v/\0<=v/\(M:Int)<=v+f z
def Up(bs T9:List Int):Prop:=T9.length=bs.length/\∀(z:Nat) (v:Int),bs[z]? =some v->∃v',T9[z]? =some v'/\v<=v'
end NT
namespace NT
open PySem PySem.Spec PyProof.Rows L2 L3
structure Gt where
 k:Str
 w:List Nat
 s:Bool
def nN(z:Nat):D:= .int z
def wN(w:List Nat):D:= .tup (w.map nN)
def gN(g:Gt):D:= .tup [.str g.k,wN g.w, .bl g.s]
def iN(x:Str × Nat):D:= .tup [.str x.1, .int x.2]
def oN(x:Str × List Nat):D:= .tup [.str x.1,wN x.2]
structure Net where
 i:XZ
 g:List Gt
 o:X0
def Net.d(n:Net):D:= .tup [.lst (n.i.map iN), .lst (n.g.map gN), .lst (n.o.map oN)]
def Net.first(n:Net):Nat:=(n.i.map (·.2)).sum
structure Om (n:Nat) (w:List Nat):Prop where
 ne:w≠[]
 le:w.length<=3
 lt:∀z∈w,z < n
structure Net.Ok (n:Net):Prop where
 i1:1<=n.i.length
 i6:n.i.length<=6
 iw:∀x∈n.i,1<=x.2/\x.2<=3
 is:∀x∈n.i,gr 0 (.str x.1)
 g60:n.g.length<=60
 gw:∀(p:Nat) (g:Gt),n.g[p]? =some g->Om (n.first+p) g.w
 gs:∀g∈n.g,gr 0 (.str g.k)
 o1:1<=n.o.length
 o6:n.o.length<=6
 ow:∀x∈n.o,Om (n.first+n.g.length) x.2
 os:∀x∈n.o,gr 0 (.str x.1)
theorem Bf:∀{l:XZ},(∀x∈l,1<=x.2/\x.2<=3)->l.length<=(l.map (·.2)).sum/\(l.map (·.2)).sum<=3*l.length
 | [],_=>by simp
 | x ::l,h=>by
   have ih:=Bf (l:=l) fun y hy=>h y (List.mem_cons_of_mem _ hy)
   have:=h x List.mem_cons_self;rw[List.map_cons,List.sum_cons,List.length_cons];omega
theorem eq_self{n:Nat}{ds:List D}(h:gr n (.tup ds))(hn:n<=64):l4 (.tup ds) (.tup ds)= .ok (.bl true):=by unfold l4;rw [h.eqT hn];rfl
inductive Sm:Nat->D->Prop where
 | int (n:Nat) (i:Int):Sm n (.int i)
 | bl (n:Nat) (b:Bool):Sm n (.bl b)
 | str (n:Nat) (s:Str):Sm n (.str s)
 | lst {n:Nat} {ds:List D} (h:∀d∈ds,Sm n d) (hl:ds.length<=1000000):Sm (n+1) (.lst ds)
 | tup {n:Nat} {ds:List D} (h:∀d∈ds,Sm n d) (hl:ds.length<=1000000):Sm (n+1) (.tup ds)
theorem Mc{f g:FD}{δ:aw}{r:R D}(h:f δ= .ok (.bl true))(h2:g δ=r):GN f g δ=r:=by unfold GN;rw [L9 h,R.aT,if_pos rfl];exact h2
theorem kO{F G:FS}{δ:aw}{d:D}(h:F δ= .ok (.rt d)):gW F G δ= .ok (.rt d):=by unfold gW;rw [h];rfl
theorem xK{m i:Nat}{v:V3}(h:((eg 0 m).map V3.d)[i]? =some v):i < m/\v= .d (.int i):=by
 rw[List.getElem?_map,eg,List.getElem?_map] at h;cases q:(List.range m)[i]? with
 | none=>rw [q] at h;cases h
 | some j=>
   rw[q] at h;cases h;obtain⟨q1,q2⟩:=List.getElem?_eq_some_iff.mp q;rw[List.getElem_range] at q2;rw[List.length_range] at q1;subst q2;exact⟨q1,by simp⟩
theorem CS(lo:Int)(m:Nat):(eg lo m).length=m:=by rw[eg,List.length_map,List.length_range]
theorem jr{α:Type}{l:List α}{f:α->D}{i:Nat}{v:V3}(h:((l.map f).map V3.d)[i]? =some v):∃x,l[i]? =some x/\v= .d (f x):=by
 rw[List.getElem?_map,List.getElem?_map] at h;cases q:l[i]? with
 | none=>rw [q] at h;cases h
 | some x=>rw [q] at h;cases h;exact⟨x,rfl,rfl⟩
theorem tM{α:Type}{l:List α}{f:α->D}{i:Nat}{v:D}(h:(l.map f)[i]? =some v):∃x,l[i]? =some x/\v=f x:=by
 rw[List.getElem?_map] at h;cases q:l[i]? with
 | none=>rw [q] at h;cases h
 | some x=>rw [q] at h;cases h;exact⟨x,rfl,rfl⟩
theorem bL{α:Type}{t:FT}{c:aw->R Bool}{f:FD}{δ:aw}(a b:α->D):∀{xs:List α},(∀x∈xs,∃dv,t (a x) δ= .ok dv/\c dv= .ok true/\f dv= .ok (b x))->nS t c f δ (xs.map a)= .ok (xs.map b)
 | [],_=>rfl
 | x ::xs,h=>by
   obtain⟨dv,h1,h2,h3⟩:=h x List.mem_cons_self;have ih:=bL (t:=t) (c:=c) (f:=f) (δ:=δ) a b (xs:=xs) fun y hy=>h y (List.mem_cons_of_mem _ hy)
   rw[List.map_cons];unfold nS;rw[h1,R.aT,h2,R.aT,if_pos rfl,h3,R.aT,ih];rfl
theorem my{α:Type}{t:FT}{c:aw->R Bool}{f:FD}{δ:aw}(p:α->Bool)(a b:α->D):∀{xs:List α},(∀x∈xs,∃dv,t (a x) δ= .ok dv/\c dv= .ok (p x)/\(p x=true->f dv= .ok (b x)))->nS t c f δ (xs.map a)= .ok ((xs.filter p).map b)
 | [],_=>rfl
 | x ::xs,h=>by
   obtain⟨dv,h1,h2,h3⟩:=h x List.mem_cons_self;have ih:=my (t:=t) (c:=c) (f:=f) (δ:=δ) p a b (xs:=xs) fun y hy=>h y (List.mem_cons_of_mem _ hy)
   rw[List.map_cons];unfold nS;rw[h1,R.aT,h2,R.aT];cases e:p x with
   | true=>rw [if_pos rfl,h3 e,R.aT,ih,List.filter_cons,if_pos e];rfl
   | false=>rw [if_neg (by decide),ih,List.filter_cons,if_neg (by rw[e];decide)]
theorem Cr:∀l:List Nat,ints? (l.map nN)=some (l.map fun(x:Nat)=>(x:Int))
 | []=>rfl
 | a ::l=>by show(ints? (l.map nN)).map _=_;rw [Cr l];rfl
theorem FE{l:List Nat}(h:l≠[]):z_ [.lst (l.map nN)]= .ok (nN (l.foldl max 0)):=by
 obtain⟨a,l,rfl⟩:=List.exists_cons_of_ne_nil h;show(match ints? ((a ::l).map nN) with | some (n ::ns)=>R.ok (D.int (ns.foldl max n)) | _=> .no)=_
 rw[Cr];show R.ok (D.int ((l.map fun(x:Nat)=>(x:Int)).foldl max (a:Int)))=_
 rw[sL,List.foldl_cons,Nat.zero_max];rfl
theorem JJ{n z:Nat}(h:z < n):Cq n (z:Int)=some z:=by
 unfold Cq;rw[if_pos (by omega),if_pos (by omega)]
 simp
theorem y9{α:Type}{xs:List α}{z:Nat}{x:α}(h:xs[z]? =some x):tU xs (z:Int)=some x:=by
 have hl:=(List.getElem?_eq_some_iff.mp h).1;unfold tU;rw[JJ hl];exact h
theorem tR{ds:List D}{z:Nat}{x:D}(h:ds[z]? =some x):cy (.lst ds) (.int z)= .ok x:=BJ (y9 h)
theorem IL{ds:List D}{z:Nat}{x:D}(h:ds[z]? =some x):cy (.tup ds) (.int z)= .ok x:=uA (y9 h)
theorem JF{a b:Nat}(h:a < 1000):fB (.int a) (.int b)= .ok (.int ((a*b:Nat):Int)):=by
 show R.bJ (decide ((-(2 ^ 64) < (a:Int)/\(a:Int) < 2 ^ 64)\/(-(2 ^ 64) < (b:Int)/\(b:Int) < 2 ^ 64))) _=_;rw[cw _ (.inl ⟨by omega,by omega⟩)]
 rfl
end NT
end
section
namespace MT
open PySem PySem.Spec PyProof.Rows L2 L3
abbrev M:=Nat->Bool
theorem OF{N:List Str}{F:FZ}{vs:List V3}{δ:DE}{S:aN}{QV:V3->aN->Prop}(e:cq N vs=δ)(h:W3 (F δ S) fun o S1=>∃eL,o= .nx eL/\QV (.d .de) S1):W3 (mV N F vs S) QV:=by
 subst e;exact W3.bind (h.mono fun _ _ ⟨_,e,q⟩=>by subst e;exact W3.ok q)
def hW:Nat->M->Nat
 | 0,_=>0
 | N+1,f=>(if f 0 then 1 else 0)+2*hW N (fun i=>f (i+1))
theorem f9:∀(N:Nat) (f:M) (i:Nat),(hW N f).testBit i=(decide (i < N) && f i)
 | 0,f,i=>by unfold hW;simp
 | N+1,f,0=>by
   unfold hW;rw[Nat.testBit_zero];cases f 0 <;> simp <;> omega
 | N+1,f,i+1=>by
   unfold hW;rw[Nat.testBit_succ];have:((if f 0=true then 1 else 0)+2*hW N fun i=>f (i+1)) / 2=hW N fun i=>f (i+1):=by split <;> omega
   rw[this,f9 N _ i];simp
theorem lN:∀{N:Nat} {f g:M},(∀i,i < N->f i=g i)->hW N f=hW N g
 | 0,_,_,_=>rfl
 | N+1,f,g,h=>by
   unfold hW;rw[h 0 (by omega),lN (N:=N) fun i hi=>h (i+1) (by omega)]
theorem Dr(N:Nat)(f g:M):hW N f &&& hW N g=hW N fun i=>f i && g i:=by
 refine Nat.eq_of_testBit_eq fun i=>?_
 rw[Nat.testBit_and,f9,f9,f9];cases decide (i < N) <;> simp
theorem Gj(N:Nat)(f g:M):hW N f ||| hW N g=hW N fun i=>f i || g i:=by
 refine Nat.eq_of_testBit_eq fun i=>?_
 rw[Nat.testBit_or,f9,f9,f9];cases decide (i < N) <;> simp
theorem Dq:∀(N:Nat) (f g:M),((hW N fun i=>f i || g i:Nat):Int) - (hW N fun i=>f i && g i:Nat)=(hW N fun i=>f i !=g i:Nat)
 | 0,f,g=>rfl
 | N+1,f,g=>by
   have ih:=Dq N (fun i=>f (i+1)) (fun i=>g (i+1))
   have e:∀h:M,hW (N+1) h=(if h 0 then 1 else 0)+2*hW N (fun i=>h (i+1)):=fun _=>rfl
   rw[e,e,e];generalize hW N (fun i=>f (i+1) || g (i+1))=a at ih ⊢
   generalize hW N (fun i=>f (i+1) && g (i+1))=b at ih ⊢
   generalize hW N (fun i=>f (i+1) !=g (i+1))=c at ih ⊢
   show(((if(f 0 || g 0) then 1 else 0)+2*a:Nat):Int) - ((if(f 0 && g 0) then 1 else 0)+2*b:Nat)=((if(f 0 !=g 0) then 1 else 0)+2*c:Nat)
   cases f 0 <;> cases g 0 <;> simp <;> omega
theorem qg(x y:Nat):Builtin.bitAnd (x:Int) (y:Int)=((x &&& y:Nat):Int):=by
 unfold Builtin.bitAnd;rw[decide_eq_true (by omega:(0:Int)<=x),decide_eq_true (by omega:(0:Int)<=y)]
 simp
theorem Dx(x y:Nat):Builtin.bitOr (x:Int) (y:Int)=((x ||| y:Nat):Int):=by
 unfold Builtin.bitOr Builtin.bitAnd Builtin.bitNot;rw[decide_eq_false (by omega:¬(0:Int)<= -(x:Int) - 1),decide_eq_false (by omega:¬(0:Int)<= -(y:Int) - 1)]
 show -(-(((-(-(x:Int) - 1) - 1).toNat ||| (-(-(y:Int) - 1) - 1).toNat:Nat):Int) - 1) - 1=_
 rw[show(-(-(x:Int) - 1) - 1).toNat=x by omega,show(-(-(y:Int) - 1) - 1).toNat=y by omega]
 omega
def mI(N:Nat)(f:M):D:= .int (hW N f:Nat)
theorem ud{N:Nat}{f g:M}(h:∀i,i < N->f i=g i):mI N f=mI N g:=by unfold mI;rw [lN h]
theorem uf(N:Nat)(f g:M):De (mI N f) (mI N g)= .ok (mI N fun i=>f i && g i):=by
 show R.ok (D.int (Builtin.bitAnd (hW N f:Int) (hW N g:Int)))=_;rw[qg,Dr];rfl
theorem yc(N:Nat)(f g:M):GD (mI N f) (mI N g)= .ok (mI N fun i=>f i || g i):=by
 show R.ok (D.int (Builtin.bitOr (hW N f:Int) (hW N g:Int)))=_;rw[Dx,Gj];rfl
theorem y7(N:Nat)(f g:M):ED (mI N f) (mI N g)= .ok (mI N fun i=>f i !=g i):=by
 show R.ok (D.int (Builtin.bitOr (hW N f:Int) (hW N g:Int) - Builtin.bitAnd (hW N f:Int) (hW N g:Int)))=_;rw[Dx,qg,Gj,Dr,Dq];rfl
def one:M:=fun _=>true
theorem yY(N:Nat)(f:M):ED (mI N one) (mI N f)= .ok (mI N fun i=>!f i):=by
 rw[y7];have:(fun i=>one i !=f i)=fun i=>!f i:=by funext i;unfold one;simp
 rw[this]
theorem Gh(N:Nat)(f:M)(c:Bool):(if c then ED (mI N one) (mI N f) else .ok (mI N f))= .ok (mI N fun i=>f i !=c):=by
 cases c with
 | true=>
   rw[if_pos rfl,yY];have:(fun i=>!f i)=fun i=>f i !=true:=by funext i;cases f i <;> rfl
   rw[this]
 | false=>
   rw[if_neg (by decide)]
   have:f=fun i=>f i !=false:=by funext i;cases f i <;> rfl
   rw[<-this]
theorem Ap{N:Nat}{f:M}:hW N f=0↔∀i,i < N->f i=false:=by
 constructor
 .intro h i hi;have:=f9 N f i;rw[h,Nat.zero_testBit,decide_eq_true hi,Bool.true_and] at this;exact this.symm
 .intro h;refine Nat.eq_of_testBit_eq fun i=>?_
  rw[f9,Nat.zero_testBit];by_cases q:i < N
  .rw [h i q];simp
  .rw [decide_eq_false q];rfl
theorem Oo(N:Nat)(f:M)(n:Nat):(A8 (mI N f) (.int n)).bind (fun d=>De d (.int 1))= .ok (.int (if decide (n < N) && f n then 1 else 0)):=by
 have h1:A8 (mI N f) (.int n)= .ok (.int ((hW N f / 2 ^ n:Nat):Int)):=by
  show R.bJ (decide ((0:Int)<=n)) (.ok (D.int ((hW N f:Int) / 2 ^ ((n:Int)).toNat)))=_;rw[cw _ (by omega),Int.toNat_natCast]
  congr 2
 rw[h1,R.aT];show R.ok (D.int (Builtin.bitAnd ((hW N f / 2 ^ n:Nat):Int) ((1:Nat):Int)))=_;rw[qg,Nat.and_one_is_mod,<-f9];congr 2;unfold Nat.testBit;rw[Nat.shiftRight_eq_div_pow,Nat.one_and_eq_mod_two];have:hW N f / 2 ^ n % 2=0\/hW N f / 2 ^ n % 2=1:=by omega
 rcases this with q | q <;> rw[q] <;> rfl
def bI(b:Bool):D:= .int (if b then 1 else 0)
def Io:List Bool->Nat
 | []=>0
 | b ::bs=>(if b then 1 else 0)+2*Io bs
theorem FL:∀bs:List Bool,Io bs=hW bs.length fun i=>bs.getD i false
 | []=>rfl
 | b ::bs=>by
   unfold Io;rw[FL bs];rfl
def nI(n:Nat):D:= .int (n:Int)
def kS:Nat->Str | 0=>"not" | 1=>"and" | 2=>"or" | 3=>"xor" | _=>"vote"
def ar:Nat->Nat | 0=>1 | 4=>3 | _=>2
theorem CG(k:Nat):ar k<=3:=by unfold ar;split <;> omega
def gv:Nat->List Bool->Bool
 | 0,[a]=>!a
 | 1,[a,b]=>a && b
 | 2,[a,b]=>a || b
 | 3,[a,b]=>a !=b
 | 4,[a,b,c]=>(a && b) || (a && c) || (b && c)
 | _,_=>false
def fk(ws:List M)(n:Nat):M:=ws.getD n fun _=>false
theorem yH{ws:List M}{b:M}{n:Nat}(h:n < ws.length):fk (ws++[b]) n=fk ws n:=by
 unfold fk;rw[List.getD_eq_getElem?_getD,List.getElem?_append_left h,List.getD_eq_getElem?_getD]
theorem Ah(ws:List M)(b:M):fk (ws++[b]) ws.length=b:=by
 unfold fk;rw[List.getD_eq_getElem?_getD,List.getElem?_append_right (Nat.le_refl _),Nat.sub_self];rfl
abbrev Gt:=Nat × List Nat × Bool
def dS(g:Gt):D:= .tup [.str (kS g.1), .tup (g.2.1.map nI), .bl g.2.2]
def nD(n:Nat)(g:Gt):Prop:=g.1<=4/\g.2.1.length=ar g.1/\∀w∈g.2.1,w < n
def inD(x:Str × Nat):D:= .tup [.str x.1,nI x.2]
def tj(x:Str × List Nat):D:= .tup [.str x.1, .tup (x.2.map nI)]
def aJ(ins:XZ)(gs:List Gt)(os:X0):D:= .tup [.lst (ins.map inD), .lst (gs.map dS), .lst (os.map tj)]
def js(ins:XZ):Nat:=(ins.map (·.2)).sum
def gF(g:Gt)(ws:List M):M:=fun p=>gv g.1 (g.2.1.map fun n=>fk ws n p)
def kI(bad:List Int)(b:M):Nat->List M->List M
 | 0,ws=>ws
 | n+1,ws=>kI bad b n ws++[fun p=>b p !=bad.contains ((kI bad b n ws).length:Int)]
theorem iB(bad:List Int)(b:M):∀n ws,(kI bad b n ws).length=ws.length+n
 | 0,ws=>rfl
 | n+1,ws=>by unfold kI;rw [List.length_append,iB bad b n ws];rfl
def f_(ins:XZ)(bits:List M)(bad:List Int):Nat->List M
 | 0=>[]
 | i+1=>match ins[i]?,bits[i]? with | some x,some b=>kI bad b x.2 (f_ ins bits bad i) | _,_=>f_ ins bits bad i
theorem nU{ins:XZ}{bits:List M}{bad:List Int}(hb:bits.length=ins.length):∀i,i<=ins.length->(f_ ins bits bad i).length=js (ins.take i)
 | 0,_=>rfl
 | i+1,hi=>by
   have h1:ins[i]? =some ins[i]:=List.getElem?_eq_getElem (by omega)
   have h2:bits[i]? =some bits[i]:=List.getElem?_eq_getElem (by omega)
   unfold f_;rw[h1,h2];show(kI bad bits[i] ins[i].2 (f_ ins bits bad i)).length=_;rw[iB,nU hb i (by omega),List.take_add_one,h1]
   unfold js;simp only[Option.toList_some,List.map_append,List.sum_append,List.map_cons,List.map_nil,List.sum_cons,List.sum_nil];omega
def uw(gs:List Gt)(turned:List Int)(w0:List M):Nat->List M
 | 0=>w0
 | i+1=>match gs[i]? with | some g=>uw gs turned w0 i++[fun p=>gF g (uw gs turned w0 i) p !=turned.contains (i:Int)] | none=>uw gs turned w0 i
theorem qh{gs:List Gt}{turned:List Int}{w0:List M}:∀i,i<=gs.length->(uw gs turned w0 i).length=w0.length+i
 | 0,_=>rfl
 | i+1,hi=>by
   have h1:gs[i]? =some gs[i]:=List.getElem?_eq_getElem (by omega)
   unfold uw;rw[h1];show(uw gs turned w0 i++[_]).length=_;rw[List.length_append,qh i (by omega)]
   rfl
structure gU (ins:XZ) (gs:List Gt) (os:X0):Prop where
 hi:ins.length < 100
 hw:∀x∈ins,x.2 < 100
 hg:gs.length < 1000
 g:∀(i:Nat) (x:Gt),gs[i]? =some x->nD (js ins+i) x
 ho:os.length < 1000
 o:∀x∈os,x.2.length < 1000/\∀w∈x.2,w < js ins+gs.length
def dc(ins:XZ)(gs:List Gt)(bits:List M)(turned bad:List Int):List M:=uw gs turned (f_ ins bits bad ins.length) gs.length
theorem Gy:∀{l:XZ},(∀x∈l,x.2 < 100)->js l<=100*l.length
 | [],_=>by simp [js]
 | x ::l,h=>by
   have ih:=Gy (l:=l) fun y hy=>h y (List.mem_cons_of_mem _ hy)
   have:=h x List.mem_cons_self;unfold js at ih ⊢;rw[List.map_cons,List.sum_cons,List.length_cons];omega
theorem zy{ins:XZ}{gs:List Gt}{bits:List M}{turned bad:List Int}(hb:bits.length=ins.length):(dc ins gs bits turned bad).length=js ins+gs.length:=by unfold dc;rw [qh _ (Nat.le_refl _),nU hb _ (Nat.le_refl _),List.take_length]
def tell(ws:List M)(x:Str × List Nat):List M:=x.2.map (fk ws)
def vZ:List Bool->Bool × Bool
 | [a]=>(!a,a)
 | [a,b]=>(!(a || b),a && b)
 | [a,b,c]=>let v:=(a && b) || (a && c) || (b && c);(!v,v)
 | _=>(false,false)
def brk(safe:Bool)(x y:Bool × Bool):Bool:=if safe then(x.1 && y.2) || (x.2 && y.1) else(x.1 !=y.1) || (x.2 !=y.2)
theorem Cy(i:Int)(ps:List Int):P9 (.int i) (.tup (ps.map .int))= .ok (.bl (ps.contains i)):=by
 show((match ints? (ps.map D.int) with | some ss=>R.ok (ss.contains i) | none=> .no)).bind (fun b=>R.ok (D.bl b))=_
 rw[L2.ints_map];rfl
theorem yB{ds:List D}{i:Nat}{v:V3}(h:((dR ds).map V3.d)[i]? =some v):∃d,ds[i]? =some d/\v= .d (.tup [.int i,d]):=by
 rw[List.getElem?_map,dR,List.getElem?_map,List.getElem?_zipIdx] at h;cases q:ds[i]? with
 | none=>rw [q] at h;cases h
 | some d=>
   rw[q] at h;simp at h;exact⟨d,rfl,h.symm⟩
theorem xq{c:aw->R Bool}{δ:aw}{b:Bool}{r:R D}(h:c δ= .ok b)(h2:(if b then f δ else g δ)=r):LH c f g δ=r:=by unfold LH;rw [h,R.aT];exact h2
theorem fO(S:aN)(x y:SO):(S++[x]).set S.length y=S++[y]:=by
 rw[List.set_append_right _ _ (Nat.le_refl _),Nat.sub_self];rfl
theorem bG(S:aN)(x:SO):(S++[x])[S.length]? =some x:=by rw[List.getElem?_append_right (Nat.le_refl _),Nat.sub_self];rfl
theorem L4{N:Nat}{ws:List M}{n:Nat}(h:n < ws.length):cy (.lst (ws.map (mI N))) (nI n)= .ok (mI N (fk ws n)):=by
 refine NT.tR ?_;rw[List.getElem?_map,List.getElem?_eq_getElem h];unfold fk;rw[List.getD_eq_getElem?_getD,List.getElem?_eq_getElem h];rfl
theorem pM{α:Type}{t:FG}{body:FZ}{S:aN}(g:α->V3)(f:α->Option V3)(E:DE->Prop):∀{xs:List α} {δ:DE},E δ->
 (∀x∈xs,∀δ,E δ->∃dv,t (g x) δ=some dv/\W3 (body dv S) fun o S1=>S1=S/\(match f x with | some v=>o= .rt v | none=>∃eM,o= .nx eM/\E eM))->
 W3 (n6 t body (xs.map g) δ S) fun o S1=>S1=S/\(match xs.findSome? f with | some v=>o= .rt v | none=>∃eM,o= .nx eM/\E eM)
 | [],δ,h0,_=>W3.ok ⟨rfl,δ,rfl,h0⟩
 | x ::xs,δ,h0,hs=>by
   obtain⟨dv,e1,o,S1,e2,rfl,h2⟩:=hs x List.mem_cons_self δ h0;rw[List.map_cons];unfold n6;rw[e1];refine W3.bind ⟨_,_,e2,?_⟩;rw[List.findSome?_cons];cases hf:f x with
   | some v=>rw [hf] at h2;subst h2;exact W3.ok ⟨rfl,rfl⟩
   | none=>
     rw[hf] at h2;obtain⟨eM,rfl,h2⟩:=h2;exact pM g f E h2 fun y hy=>hs y (List.mem_cons_of_mem _ hy)
def n8:List Nat->Nat->X1
 | _,0=>[[]]
 | ps,s+1=>(List.range ps.length).flatMap fun a=>(n8 (ps.drop (a+1)) s).map (ps.getD a 0 ::·)
theorem ph:∀{s:Nat} {ps T:List Nat},T∈n8 ps s->T.length=s/\∀x∈T,x∈ps
 | 0,ps,T,h=>by unfold n8 at h;rw [List.mem_singleton.mp h];simp
 | s+1,ps,T,h=>by
   unfold n8 at h;obtain⟨a,ha,h⟩:=List.mem_flatMap.mp h;obtain⟨R,hR,rfl⟩:=List.mem_map.mp h;rw[List.mem_range] at ha;obtain⟨h1,h2⟩:=ph hR;refine⟨by simp [h1],fun x hx=>?_⟩
   rcases List.mem_cons.mp hx with rfl | hx
   .rw [List.getD_eq_getElem?_getD,List.getElem?_eq_getElem ha];exact List.getElem_mem ha
   .exact List.mem_of_mem_drop (h2 x hx)
theorem BQ:∀{l:List Nat} {m:Nat},(∀x∈l,x<=m)->l.sum<=l.length*m
 | [],_,_=>by simp
 | x ::l,m,h=>by
   have:=BQ (l:=l) (m:=m) fun y hy=>h y (List.mem_cons_of_mem _ hy)
   have h0:=h x List.mem_cons_self;rw[List.sum_cons,List.length_cons,Nat.add_mul];omega
theorem t6:∀{s:Nat} {ps:List Nat} {n:Nat},ps.length<=n->(n8 ps s).length<=n ^ s
 | 0,ps,n,_=>by unfold n8;simp
 | s+1,ps,n,h=>by
   unfold n8;rw[List.length_flatMap,Nat.pow_succ];refine Nat.le_trans (BQ (m:=n ^ s) fun x hx=>?_) ?_
   .obtain⟨a,_,rfl⟩:=List.mem_map.mp hx;rw[List.length_map];exact t6 (by rw[List.length_drop];omega)
   .rw [List.length_map,List.length_range,Nat.mul_comm];exact Nat.mul_le_mul_left _ h
theorem nP{F G:FZ}{δ:DE}{S:aN}{QO:Ou->aN->Prop}(h:W3 (F δ S) fun o S1=>match o with | .nx dv=>W3 (G dv S1) QO | .rt v=>QO (.rt v) S1):W3 (bB F G δ S) QO:=
 W3.bind (h.mono fun o S1 q=>by cases o with | nx dv=>exact q | rt v=>exact W3.ok q)
end MT
end
section
set_option maxHeartbeats 400000
namespace MT
open PySem PySem.Spec PyProof.Rows L2 L3
theorem yg{gs:List Gt}{t:List Int}{w0:List M}{n:Nat}:∀{j i:Nat},i<=j->j<=gs.length->n < w0.length+i->fk (uw gs t w0 j) n=fk (uw gs t w0 i) n
 | 0,i,h,_,_=>by rw[Nat.le_zero.mp h]
 | j+1,i,h,hj,hn=>by
   by_cases e:i=j+1
   .rw [e]
   .have h1:gs[j]? =some gs[j]:=List.getElem?_eq_getElem (by omega)
    rw[<-yg (j:=j) (i:=i) (by omega) (by omega) hn]
    conv=>lhs;unfold uw
    rw[h1];exact yH (by rw[qh _ (by omega)];omega)
section
variable {ins:XZ} {gs:List Gt} {bits:List M} {T bad:List Int} {p:Nat}
theorem Lb(hb:bits.length=ins.length):(f_ ins bits bad ins.length).length=js ins:=by rw[nU hb _ (Nat.le_refl _),List.take_length]
theorem Dc(hb:bits.length=ins.length){n:Nat}(h:n < js ins):fk (dc ins gs bits T bad) n=fk (f_ ins bits bad ins.length) n:=by
 unfold dc;rw[yg (i:=0) (Nat.zero_le _) (Nat.le_refl _) (by rw[Lb hb];exact h)]
 rfl
theorem qG(hb:bits.length=ins.length){i:Nat}{g:Gt}(h:gs[i]? =some g)(hg:nD (js ins+i) g) :
 fk (dc ins gs bits T bad) (js ins+i) p=(gv g.1 (g.2.1.map fun n=>fk (dc ins gs bits T bad) n p) !=T.contains (i:Int)):=by
 have hi:i < gs.length:=(List.getElem?_eq_some_iff.mp h).1;have hw:=Lb (bad:=bad) hb;unfold dc;rw[yg (i:=i+1) (by omega) (Nat.le_refl _) (by rw[hw];omega)]
 conv=>lhs;unfold uw
 rw[h];have hl:(uw gs T (f_ ins bits bad ins.length) i).length=js ins+i:=by rw[qh _ (by omega),hw]
 show fk (uw gs T (f_ ins bits bad ins.length) i++[_]) (js ins+i) p=_;rw[<-hl,Ah];show(gv g.1 (g.2.1.map fun n=>fk (uw gs T (f_ ins bits bad ins.length) i) n p) !=T.contains (i:Int))=_
 congr 2;refine List.map_congr_left fun n hn=>?_
 rw[yg (j:=gs.length) (i:=i) (by omega) (Nat.le_refl _) (by rw[hw];exact hg.2.2 n hn)]
theorem Fe{b:M}:∀m ws n,n < ws.length->fk (kI bad b m ws) n=fk ws n
 | 0,ws,n,_=>rfl
 | m+1,ws,n,h=>by unfold kI;rw [yH (by rw[iB];omega)];exact Fe m ws n h
theorem E7{b:M}:∀(m:Nat) (ws:List M) (k:Nat),k < m->fk (kI bad b m ws) (ws.length+k) p=(b p !=bad.contains ((ws.length+k:Nat):Int))
 | 0,ws,k,h=>absurd h (by omega)
 | m+1,ws,k,h=>by
   unfold kI;by_cases e:k=m
   .subst e;rw[<-iB bad b k ws,Ah]
   .rw [yH (by rw[iB];omega)]
    exact E7 m ws k (by omega)
end
theorem mJ{m:Nat}:∀{ins:XZ},(∀x∈ins,x.2=m)->js ins=m*ins.length
 | [],_=>rfl
 | x ::l,h=>by
   have ih:=mJ (ins:=l) fun y hy=>h y (List.mem_cons_of_mem _ hy)
   have:=h x List.mem_cons_self;unfold js at ih ⊢;rw[List.map_cons,List.sum_cons,List.length_cons,ih,this,Nat.mul_succ,Nat.add_comm]
section
variable {ins:XZ} {gs:List Gt} {bits:List M} {T bad:List Int} {p m:Nat}
theorem t7(hw:∀x∈ins,x.2=m)(hb:bits.length=ins.length):∀i,i<=ins.length->∀j,j < i->∀k,k < m->fk (f_ ins bits bad i) (m*j+k) p=((bits.getD j fun _=>false) p !=bad.contains ((m*j+k:Nat):Int))
 | 0,_,j,hj,_,_=>absurd hj (by omega)
 | i+1,hi,j,hj,k,hk=>by
   have h1:ins[i]? =some ins[i]:=List.getElem?_eq_getElem (by omega)
   have h2:bits[i]? =some bits[i]:=List.getElem?_eq_getElem (by omega)
   have hl:(f_ ins bits bad i).length=m*i:=by
    rw[nU hb i (by omega),mJ fun x hx=>hw x (List.mem_of_mem_take hx),List.length_take,Nat.min_eq_left (by omega)]
   conv=>lhs;unfold f_
   rw[h1,h2];show fk (kI bad bits[i] ins[i].2 (f_ ins bits bad i)) (m*j+k) p=_;rw[hw _ (List.getElem_mem _)];by_cases e:j=i
   .subst e;rw[<-hl,E7 _ _ _ hk,List.getD_eq_getElem?_getD,h2];rfl
   .have hji:j+1<=i:=by omega
    have:m*j+k < m*i:=by
     have:=Nat.mul_le_mul_left m hji;rw[Nat.mul_add,Nat.mul_one] at this;omega
    rw[Fe _ _ _ (by rw[hl];exact this)]
    exact t7 hw hb i (by omega) j (by omega) k hk
end
theorem xn{gs:List Gt}{t t':List Int}{w0:List M}(h:∀i,i < gs.length->t.contains (i:Int)=t'.contains (i:Int)):∀i,i<=gs.length->uw gs t w0 i=uw gs t' w0 i
 | 0,_=>rfl
 | i+1,hi=>by
   have h1:gs[i]? =some gs[i]:=List.getElem?_eq_getElem (by omega)
   unfold uw;rw[h1,xn h i (by omega)]
   show _++[fun p=>_ !=t.contains (i:Int)]=_++[fun p=>_ !=t'.contains (i:Int)]
   rw[h i (by omega)]
theorem u7{ins:XZ}{gs:List Gt}{bits:List M}{t t' bad:List Int}(h:∀i,i < gs.length->t.contains (i:Int)=t'.contains (i:Int)):dc ins gs bits t bad=dc ins gs bits t' bad:=xn h _ (Nat.le_refl _)
def bC(m:Nat)(ins:XZ):XZ:=ins.map fun x=>(x.1,m)
def Jq(m:Nat)(g:Gt)(k:Nat):Gt:=(g.1,g.2.1.map (fun w=>m*w+k),g.2.2)
def dq(m:Nat)(gs:List Gt):List Gt:=gs.flatMap fun g=>(List.range m).map (Jq m g)
def nK(m:Nat)(os:X0):X0:=os.map fun x=>(x.1,(List.range m).map fun k=>m*x.2.getD 0 0+k)
def shr(m k n:Nat)(T:List Int):List Int:=((List.range n).filter fun i=>T.contains ((m*i+k:Nat):Int)).map fun(i:Nat)=>(i:Int)
theorem tJ{m k n i:Nat}{T:List Int}(h:i < n):(shr m k n T).contains (i:Int)=T.contains ((m*i+k:Nat):Int):=by
 unfold shr;rw[Bool.eq_iff_iff,List.contains_iff_mem];constructor
 .intro hm;obtain⟨j,hj,e⟩:=List.mem_map.mp hm;have:j=i:=by omega
  subst this;exact(List.mem_filter.mp hj).2
 .intro hm;exact List.mem_map.mpr ⟨i,List.mem_filter.mpr ⟨List.mem_range.mpr h,hm⟩,rfl⟩
theorem qN(m k n:Nat):shr m k n []=[]:=by
 unfold shr;rw[List.filter_eq_nil_iff.mpr (fun a _=>by simp)]
 rfl
section
variable {ins:XZ} {gs:List Gt} {os:X0} {bits:List M} {T bad:List Int} {p m:Nat}
theorem jj:(dq m gs).length=m*gs.length:=by
 unfold dq
 induction gs with
 | nil=>rfl
 | cons g gs ih=>rw [List.flatMap_cons,List.length_append,ih,List.length_map,List.length_range,List.length_cons,Nat.mul_succ,Nat.add_comm]
theorem oA:∀{gs:List Gt} {i k:Nat} {g:Gt},gs[i]? =some g->k < m->(dq m gs)[m*i+k]? =some (Jq m g k)
 | [],i,k,g,h,_=>by simp at h
 | g0 ::gs,0,k,g,h,hk=>by
   obtain rfl:g0=g:=by simpa using h
   show((List.range m).map (Jq m g0)++dq m gs)[m*0+k]? =_;rw[Nat.mul_zero,Nat.zero_add,List.getElem?_append_left (by rw[List.length_map,List.length_range];exact hk),List.getElem?_map,List.getElem?_range hk];rfl
 | g0 ::gs,i+1,k,g,h,hk=>by
   show((List.range m).map (Jq m g0)++dq m gs)[m*(i+1)+k]? =_;rw[List.getElem?_append_right (by rw[List.length_map,List.length_range,Nat.mul_succ];omega),List.length_map,List.length_range,show m*(i+1)+k - m=m*i+k by rw[Nat.mul_succ];omega]
   exact oA (by simpa using h) hk
theorem rC:∀x∈bC m ins,x.2=m:=fun x hx=>by obtain⟨y,_,rfl⟩:=List.mem_map.mp hx;rfl
theorem fQ:(bC m ins).length=ins.length:=by unfold bC;rw [List.length_map]
theorem eT:js (bC m ins)=m*ins.length:=by rw[mJ rC,fQ]
theorem Ge{g:Gt}{n i k:Nat}(h:nD (n+i) g)(hk:k < m):nD (m*n+(m*i+k)) (Jq m g k):=by
 refine⟨h.1,by show(g.2.1.map _).length=_;rw [List.length_map];exact h.2.1,fun w hw=>?_⟩
 obtain⟨v,hv,rfl⟩:=List.mem_map.mp hw;have h1:=h.2.2 v hv;have h2:=Nat.mul_le_mul_left m (show v+1<=n+i by omega)
 rw[Nat.mul_add,Nat.mul_add,Nat.mul_one] at h2;omega
theorem t5(hb:bits.length=ins.length)(h1:∀x∈ins,x.2=1)(hg:∀(i:Nat) (g:Gt),gs[i]? =some g->nD (ins.length+i) g) :
 ∀N w,w < N->w < ins.length+gs.length->∀k,k < m->fk (dc (bC m ins) (dq m gs) bits T bad) (m*w+k) p=fk (dc ins gs bits (shr m k gs.length T) (shr m k ins.length bad)) w p
 | 0,w,hN,_,_,_=>absurd hN (by omega)
 | N+1,w,hN,hw,k,hk=>by
   have qU:bits.length=(bC m ins).length:=by rw[fQ];exact hb
   have hw1:js ins=ins.length:=by rw[mJ h1,Nat.one_mul]
   by_cases hwi:w < ins.length
   .have e:m*w+k < m*ins.length:=by
     have:=Nat.mul_le_mul_left m (show w+1<=ins.length by omega)
     rw[Nat.mul_add,Nat.mul_one] at this;omega
    rw[Dc qU (by rw[eT];exact e),Dc hb (by rw[hw1];exact hwi),t7 rC qU _ (Nat.le_refl _) w (by rw[fQ];exact hwi) k hk]
    have:=t7 (p:=p) (bad:=shr m k ins.length bad) h1 hb _ (Nat.le_refl _) w hwi 0 (by omega)
    rw[Nat.one_mul,Nat.add_zero] at this;rw[this,tJ hwi]
   .obtain⟨i,rfl⟩:∃i,w=ins.length+i:=⟨w - ins.length,by omega⟩
    have hi:i < gs.length:=by omega
    have qS:gs[i]? =some gs[i]:=List.getElem?_eq_getElem hi;have hok:=hg i _ qS;have ew:m*(ins.length+i)+k=js (bC m ins)+(m*i+k):=by rw[eT,Nat.mul_add];omega
    rw[ew,qG qU (oA qS hk) (by rw[eT];exact Ge hok hk)]
    have hr:=qG (p:=p) (T:=shr m k gs.length T) (bad:=shr m k ins.length bad) hb qS (by rw[hw1];exact hok)
    rw[hw1] at hr;rw[hr,tJ hi];congr 2;show(gs[i].2.1.map (fun w=>m*w+k)).map _=_
    rw[List.map_map];refine List.map_congr_left fun n hn=>?_
    have Ky:=hok.2.2 n hn;exact t5 hb h1 hg N n (by omega) (by omega) k hk
theorem LR(hm:m<=10)(NO:gU ins gs os)(h1:∀x∈ins,x.2=1)(ho:∀x∈os,∃w,x.2=[w])(hg:gs.length<=90):gU (bC m ins) (dq m gs) (nK m os):=by
 have hw1:js ins=ins.length:=by rw[mJ h1,Nat.one_mul]
 refine⟨by rw[fQ];exact NO.hi,fun x hx=>by rw[rC x hx];omega,?_,?_,by unfold nK;rw [List.length_map];exact NO.ho,?_⟩
 .rw [jj];have:=Nat.mul_le_mul hm hg;omega
 .intro i x hx;have hi:i < m*gs.length:=by rw[<-jj];exact(List.getElem?_eq_some_iff.mp hx).1
  have hm0:0 < m:=by
   cases m with
   | zero=>rw [Nat.zero_mul] at hi;omega
   | succ n=>omega
  have hq:i / m < gs.length:=Nat.div_lt_of_lt_mul hi;have hr:=Nat.mod_lt i hm0;have e:m*(i / m)+i % m=i:=Nat.div_add_mod i m;have h2:=oA (m:=m) (k:=i % m) (List.getElem?_eq_getElem hq) hr;rw[e,hx] at h2;cases h2;rw[eT];have h3:=NO.g _ _ (List.getElem?_eq_getElem hq);rw[hw1] at h3;have h4:=Ge (m:=m) (k:=i % m) h3 hr;rw[e] at h4;exact h4
 .intro x hx;obtain⟨y,hy,rfl⟩:=List.mem_map.mp hx;obtain⟨w,hw⟩:=ho y hy;refine⟨by show((List.range m).map _).length < 1000;rw [List.length_map,List.length_range];omega,fun v hv=>?_⟩
  obtain⟨k,hk,rfl⟩:=List.mem_map.mp hv;have hk:=List.mem_range.mp hk;have h2:=(NO.o y hy).2 w (by rw[hw];simp)
  rw[hw1] at h2;rw[eT,jj,hw];show m*w+k < _;have:=Nat.mul_le_mul_left m (show w+1<=ins.length+gs.length by omega)
  rw[Nat.mul_add,Nat.mul_add,Nat.mul_one] at this;omega
theorem mk_inj{i i' k k':Nat}(hk:k < m)(PY:k' < m)(h:m*i+k=m*i'+k'):i=i'/\k=k':=by
 have h1:(m*i+k) / m=i:=by rw[Nat.mul_add_div (by omega),Nat.div_eq_of_lt hk,Nat.add_zero]
 have h2:(m*i'+k') / m=i':=by rw[Nat.mul_add_div (by omega),Nat.div_eq_of_lt PY,Nat.add_zero]
 have:i=i':=by rw[<-h1,<-h2,h]
 subst this;exact⟨rfl,by omega⟩
theorem Fo{n i k:Nat}(hk:k < m)(j:Nat)(hj:j < n):(shr m k n [((m*i+k:Nat):Int)]).contains (j:Int)=[(i:Int)].contains (j:Int):=by
 rw[tJ hj,Bool.eq_iff_iff,List.contains_iff_mem,List.contains_iff_mem,List.mem_singleton,List.mem_singleton];exact⟨fun h=>by rw[(mk_inj hk hk (Int.ofNat_inj.mp h)).1],fun h=>by rw[Int.ofNat_inj.mp h]⟩
theorem DU{n i k k':Nat}(hk:k < m)(PY:k' < m)(h:k'≠k)(j:Nat)(hj:j < n):(shr m k' n [((m*i+k:Nat):Int)]).contains (j:Int)=([]:List Int).contains (j:Int):=by
 rw[tJ hj];refine(Bool.eq_false_iff.mpr fun q=>h ?_).trans rfl
 rw[List.contains_iff_mem,List.mem_singleton] at q;exact(mk_inj PY hk (Int.ofNat_inj.mp q)).2
end
end MT
end
section
namespace MT
open PySem PySem.Spec PyProof.Rows L2 L3
def sQ(n w j:Nat):Nat:=if w < n then 3*w+j else 3*n+6*(w - n)+3+j
def Mi(n:Nat)(g:Gt)(k:Nat):Gt:=(g.1,g.2.1.map (fun w=>sQ n w k),g.2.2)
def E9(n i:Nat)(g:Gt):Gt:=(4,[3*n+6*i,3*n+6*i+1,3*n+6*i+2],g.2.2)
def Ip(n i:Nat)(g:Gt):List Gt:=[Mi n g 0,Mi n g 1,Mi n g 2,E9 n i g,E9 n i g,E9 n i g]
def qd(n:Nat):Nat->List Gt->List Gt
 | _,[]=>[]
 | i,g ::gs=>Ip n i g++qd n (i+1) gs
def eA(n:Nat)(gs:List Gt):List Gt:=qd n 0 gs
def uQ(n:Nat)(os:X0):X0:=os.map fun x=>(x.1,(List.range 3).map fun j=>sQ n (x.2.getD 0 0) j)
theorem nW(n:Nat):∀(gs:List Gt) (i:Nat),(qd n i gs).length=6*gs.length
 | [],_=>rfl
 | g ::gs,i=>by
   unfold qd;rw[List.length_append,nW n gs,List.length_cons];show 6+_=_;omega
theorem Aw(n:Nat):∀(gs hs:List Gt) (i:Nat),qd n i (gs++hs)=qd n i gs++qd n (i+gs.length) hs
 | [],hs,i=>rfl
 | g ::gs,hs,i=>by
   show Ip n i g++qd n (i+1) (gs++hs)=_;rw[Aw n gs hs (i+1),<-List.append_assoc,List.length_cons,show i+1+gs.length=i+(gs.length+1) by omega]
   rfl
theorem xD(n:Nat):∀{gs:List Gt} {i0 i k:Nat} {g:Gt},gs[i]? =some g->k < 6->(qd n i0 gs)[6*i+k]? =(Ip n (i0+i) g)[k]?
 | [],i0,i,k,g,h,_=>by simp at h
 | g0 ::gs,i0,0,k,g,h,hk=>by
   obtain rfl:g0=g:=by simpa using h
   show(Ip n i0 g0++qd n (i0+1) gs)[6*0+k]? =_;rw[List.getElem?_append_left (by show _ < 6;omega),Nat.mul_zero,Nat.zero_add];rfl
 | g0 ::gs,i0,i+1,k,g,h,hk=>by
   show(Ip n i0 g0++qd n (i0+1) gs)[6*(i+1)+k]? =_;rw[List.getElem?_append_right (by show 6<=_;omega),show 6*(i+1)+k - (Ip n i0 g0).length=6*i+k by show _ - 6=_;omega,xD n (gs:=gs) (by simpa using h) hk,show i0+1+i=i0+(i+1) by omega]
section
variable {n:Nat} {gs:List Gt} {i j:Nat} {g:Gt}
theorem yI(h:gs[i]? =some g)(hj:j < 3):(eA n gs)[6*i+j]? =some (Mi n g j):=by
 unfold eA;rw[xD n h (by omega)]
 rcases(by omega:j=0\/j=1\/j=2) with rfl | rfl | rfl <;> rfl
theorem yE(h:gs[i]? =some g)(hj:j < 3):(eA n gs)[6*i+(3+j)]? =some (E9 n i g):=by
 unfold eA;rw[xD n h (by omega),Nat.zero_add]
 rcases(by omega:j=0\/j=1\/j=2) with rfl | rfl | rfl <;> rfl
theorem KO{w:Nat}(h:w < n+i)(hj:j < 3):sQ n w j < 3*n+6*i:=by
 unfold sQ;split <;> omega
theorem FF(h:nD (n+i) g)(hj:j < 3):nD (3*n+(6*i+j)) (Mi n g j):=by
 refine⟨h.1,by show(g.2.1.map _).length=_;rw [List.length_map];exact h.2.1,fun w hw=>?_⟩
 obtain⟨v,hv,rfl⟩:=List.mem_map.mp hw;have:=KO (j:=j) (h.2.2 v hv) hj;omega
theorem F0:nD (3*n+(6*i+(3+j))) (E9 n i g):=by
 refine⟨Nat.le_refl _,rfl,fun w hw=>?_⟩
 simp only[E9,List.mem_cons,List.not_mem_nil,or_false] at hw;rcases hw with rfl | rfl | rfl <;> omega
end
theorem NU{a b c v:Bool}{jb:Nat}(h0:jb≠0->a=v)(h1:jb≠1->b=v)(h2:jb≠2->c=v):((a && b) || (a && c) || (b && c))=v:=by
 by_cases e0:jb=0
 .rw [h1 (by omega),h2 (by omega)];cases a <;> cases v <;> rfl
 .by_cases e1:jb=1
  .rw [h0 e0,h2 (by omega)];cases b <;> cases v <;> rfl
  .rw [h0 e0,h1 e1];cases c <;> cases v <;> rfl
section
variable {ins:XZ} {gs:List Gt} {os:X0} {bits:List M} {T bad:List Int} {p w0 jb:Nat}
theorem tO(hb:bits.length=ins.length)(h1:∀x∈ins,x.2=1)(hg:∀(i:Nat) (g:Gt),gs[i]? =some g->nD (ins.length+i) g)
 (Qq:∀i j,j < 3->j≠jb->T.contains ((6*i+j:Nat):Int)=false)
 (Qs:∀i j,j < 3->¬(ins.length+i=w0/\j=jb)->T.contains ((6*i+(3+j):Nat):Int)=false)
 (hB:∀w j,j < 3->¬(w=w0/\j=jb)->bad.contains ((3*w+j:Nat):Int)=false) :
 ∀N w,w < N->w < ins.length+gs.length->∀j,j < 3->¬(w=w0/\j=jb)->fk (dc (bC 3 ins) (eA ins.length gs) bits T bad) (sQ ins.length w j) p=fk (dc ins gs bits [] []) w p
 | 0,w,hN,_,_,_,_=>absurd hN (by omega)
 | N+1,w,hN,hw,j,hj,rM=>by
   have qU:bits.length=(bC 3 ins).length:=by rw[fQ];exact hb
   have hw1:js ins=ins.length:=by rw[mJ h1,Nat.one_mul]
   have hwM:js (bC 3 ins)=3*ins.length:=eT;by_cases hwi:w < ins.length
   .have es:sQ ins.length w j=3*w+j:=if_pos hwi;rw[es,Dc qU (by rw[hwM];omega),Dc hb (by rw[hw1];exact hwi),t7 rC qU _ (Nat.le_refl _) w (by rw[fQ];exact hwi) j hj]
    have:=t7 (p:=p) (bad:=[]) h1 hb _ (Nat.le_refl _) w hwi 0 (by omega)
    rw[Nat.one_mul,Nat.add_zero] at this;rw[this,hB w j hj rM];rfl
   .obtain⟨i,rfl⟩:∃i,w=ins.length+i:=⟨w - ins.length,by omega⟩
    have hi:i < gs.length:=by omega
    have qS:gs[i]? =some gs[i]:=List.getElem?_eq_getElem hi;have hok:=hg i _ qS;have hr:=qG (p:=p) (T:=[]) (bad:=[]) hb qS (by rw[hw1];exact hok)
    rw[hw1] at hr;have es:sQ ins.length (ins.length+i) j=js (bC 3 ins)+(6*i+(3+j)):=by
     unfold sQ;rw[if_neg (by omega),hwM];omega
    rw[es,qG qU (yE qS hj) (by rw[hwM];exact F0),Qs i j hj rM,hr]
    have hcp:∀k,k < 3->k≠jb->fk (dc (bC 3 ins) (eA ins.length gs) bits T bad) (3*ins.length+6*i+k) p=gv gs[i].1 (gs[i].2.1.map fun n=>fk (dc ins gs bits [] []) n p):=fun k hk TM=>by
     have ek:3*ins.length+6*i+k=js (bC 3 ins)+(6*i+k):=by rw[hwM];omega
     rw[ek,qG qU (yI qS hk) (by rw[hwM];exact FF hok hk),Qq i k hk TM]
     show(gv gs[i].1 ((gs[i].2.1.map fun w=>sQ ins.length w k).map _) !=false)=_
     rw[List.map_map];have:(gs[i].2.1.map ((fun n=>fk (dc (bC 3 ins) (eA ins.length gs) bits T bad) n p) ∘ fun w=>sQ ins.length w k))=gs[i].2.1.map fun n=>fk (dc ins gs bits [] []) n p:=by
      refine List.map_congr_left fun v hv=>?_
      have hv2:=hok.2.2 v hv;exact tO hb h1 hg Qq Qs hB N v (by omega) (by omega) k hk (fun z=>TM z.2)
     rw[this];cases gv gs[i].1 _ <;> rfl
    show(((fk _ (3*ins.length+6*i+0) p && fk _ (3*ins.length+6*i+1) p) || (fk _ (3*ins.length+6*i+0) p && fk _ (3*ins.length+6*i+2) p) || (fk _ (3*ins.length+6*i+1) p && fk _ (3*ins.length+6*i+2) p)) !=false)=(_ !=false)
    rw[NU (jb:=jb) (fun z=>hcp 0 (by omega) (Ne.symm z)) (fun z=>hcp 1 (by omega) (Ne.symm z)) (fun z=>hcp 2 (by omega) (Ne.symm z))]
theorem MS(NO:gU ins gs os)(h1:∀x∈ins,x.2=1)(ho:∀x∈os,∃w,x.2=[w])(hg:gs.length<=90):gU (bC 3 ins) (eA ins.length gs) (uQ ins.length os):=by
 have hw1:js ins=ins.length:=by rw[mJ h1,Nat.one_mul]
 have hl:(eA ins.length gs).length=6*gs.length:=nW _ _ _;refine⟨by rw[fQ];exact NO.hi,fun x hx=>by rw[rC x hx];omega,by rw[hl];omega,?_,by unfold uQ;rw [List.length_map];exact NO.ho,?_⟩
 .intro i x hx;have hi:i < 6*gs.length:=by rw[<-hl];exact(List.getElem?_eq_some_iff.mp hx).1
  have hq:i / 6 < gs.length:=Nat.div_lt_of_lt_mul hi;have qS:=List.getElem?_eq_getElem hq;have h3:=NO.g _ _ qS;rw[hw1] at h3;rw[eT];by_cases hr:i % 6 < 3
  .have h2:=yI (n:=ins.length) (j:=i % 6) qS hr;rw[show 6*(i / 6)+i % 6=i by omega,hx] at h2
   cases h2;have h4:=FF (j:=i % 6) h3 hr;rw[show 6*(i / 6)+i % 6=i by omega] at h4
   exact h4
  .have h2:=yE (n:=ins.length) (j:=i % 6 - 3) qS (by omega)
   rw[show 6*(i / 6)+(3+(i % 6 - 3))=i by omega,hx] at h2
   cases h2;have h4:=F0 (n:=ins.length) (i:=i / 6) (j:=i % 6 - 3) (g:=gs[i / 6]);rw[show 6*(i / 6)+(3+(i % 6 - 3))=i by omega] at h4
   exact h4
 .intro x hx;obtain⟨y,hy,rfl⟩:=List.mem_map.mp hx;obtain⟨w,hw⟩:=ho y hy;refine⟨by show((List.range 3).map _).length < 1000;rw [List.length_map,List.length_range];omega,fun v hv=>?_⟩
  obtain⟨k,hk,rfl⟩:=List.mem_map.mp hv;have hk:=List.mem_range.mp hk;have h2:=(NO.o y hy).2 w (by rw[hw];simp)
  rw[hw1] at h2;rw[eT,hl,hw];show sQ ins.length w k < _;have:=KO (j:=k) h2 hk;omega
end
end MT
end
section
set_option maxHeartbeats 4000000
namespace K31
open PySem PySem.Spec PyProof.Rows L2 L3
variable {P:Program} {w:World} {K:W.Frag} {mg:X2} {base:Heap} {cl:X3}
def top(i:Nat):Stmt:=PySem.Challenge.pw_bearfaults_k31_whole_made_nets_bear.main.body.getD i (.Pass ⟨0,0,0,0⟩)
def gy:D:=(.int 60)
structure Tp (K:W.Frag) (mg:X2) (cl:X3):Prop where
 z_all:mg "all"=none
 z_len:mg "len"=none
 z_range:mg "range"=none
 z_tuple:mg "tuple"=none
 z_max:mg "max"=none
 z_enumerate:mg "enumerate"=none
 z_reversed:mg "reversed"=none
 z_zip:mg "zip"=none
 z_min:mg "min"=none
 gy:Glob K mg "MOST_GATES" gy
 C_Bench:yU K (cl 0)
 N_Bench_net:dn K (cl 0) "net"
 N_Bench_many_inputs:dn K (cl 0) "many_inputs"
 N_Bench_full:dn K (cl 0) "full"
 N_Bench_in_masks:dn K (cl 0) "in_masks"
 M_Bench:mg "Bench"=some (.ref (cl 0))
 C_Trial:yU K (cl 1)
 N_Trial_bench:dn K (cl 1) "bench"
 N_Trial_plain:dn K (cl 1) "plain"
 N_Trial_unsure:dn K (cl 1) "unsure"
 M_Trial:mg "Trial"=some (.ref (cl 1))
abbrev gx:Stmt:=top 6
noncomputable abbrev gJ:List Str:=["net","width","ins_fit"]
noncomputable def we:{b:List Stmt // aK gx=b}:=⟨_,by conv=>lhs;whnf⟩
noncomputable def iY:{b:Scope // az gx=b}:=⟨_,by conv=>lhs;whnf⟩
theorem ql:aR gJ ["net","width"] iY.1:=⟨rfl,rfl,rfl,by decide+kernel,rfl,by decide+kernel,by decide+kernel⟩
def qH:FS:=(gW (pO 2 (aQ EE (ak (eNew (cZ (dy (e2 cy (ai 0) (eC (.int 0)))) (aO 0) fw (e2 l4 (e2 cy (ai 0) (eC (.int 1))) (ai 1)) ["told"] [1])) aP))) (il (GN (ai 2) (aQ EE (ak (eNew (cZ (dy (e2 cy (ai 0) (eC (.int 2)))) (ic 2 (cj (aO 0) (cj (aO 1) ig))) fw (e2 l4 (aQ eW (ak (ai 1) aP)) (ai 2)) ["name","wires"] [1])) aP)))))
def fu:List D->R D:=sV gJ qH
theorem xE(T:Tp K mg cl)(h:Def K mg "has_widths" gx):Callee P w K mg base 1 "has_widths" 2 fu:=by
 obtain⟨f,fd,F,hm⟩:=h;exact⟨f,fd,_,cQ (k:=0) we.2 iY.2 F ql (fun dD A outer s H E hr=>(bH (lX ql.nd rfl (Or.inl rfl) (a_ (Hk rfl) rfl T.z_all PyProof.Rows.boot_all (ab (cT (cU rfl (bt.of (own:=["told"]) (kp:=[1]) (kn:=["width"]) (sc:=iY.1) (N:=gJ) rfl rfl (by decide+kernel)) (cm (aD (aa 0) ae (fun _ _=>rfl))) (fun _ _ _=>(aS (show List.Nodup [(Str.ofString "told"),"width"] from by decide+kernel) rfl (Or.inl rfl))) (fun _ _ _=>cb) (fun _ _ _=>(xW (lh hr.units) (aD (aa 0) ae (fun _ _=>rfl)) (aa 1) (bY _))))) aj))) (br (bZ (IF (aa 2) (JL (a_ (Hk rfl) rfl T.z_all PyProof.Rows.boot_all (ab (cT (cU rfl (bt.of (own:=["name","wires"]) (kp:=[1]) (kn:=["width"]) (sc:=iY.1) (N:=gJ) rfl rfl (by decide+kernel)) (cm (aD (aa 0) ae (fun _ _=>rfl))) (fun _ _ _=>(je rfl (cn (aS (show List.Nodup [(Str.ofString "name"),"wires","width"] from by decide+kernel) rfl (Or.inl rfl)) (cn (aS (show List.Nodup [(Str.ofString "name"),"wires","width"] from by decide+kernel) rfl (Or.inl rfl)) gg)))) (fun _ _ _=>cb) (fun _ _ _=>(xW (lh hr.units) (a_ eE rfl T.z_len PySem.boot_len (ab (aa 1) aj)) (aa 2) (bY _))))) aj)))))))),hm,F.kp,F.binds fun _ _ _ _ _ _ us hl=>match us,hl with | [_,_],_=>rfl⟩
abbrev fP:Stmt:=top 7
noncomputable abbrev kY:List Str:=["net","times"]
noncomputable def vn:{b:List Stmt // aK fP=b}:=⟨_,by conv=>lhs;whnf⟩
noncomputable def nk:{b:Scope // az fP=b}:=⟨_,by conv=>lhs;whnf⟩
theorem vT:aR kY ["net","times"] nk.1:=⟨rfl,rfl,rfl,by decide+kernel,rfl,by decide+kernel,by decide+kernel⟩
def k9:FS:=(gW (AE (Bw (xV (aQ fu (ak (ai 0) (ak (eC (.int 1)) aP))))) Ra tf) (AE (b2 Qz (e2 fB (aQ eW (ak (e2 cy (ai 0) (eC (.int 1))) aP)) (ai 1)) (eC gy)) Ra tf))
def cW:List D->R D:=sV kY k9
theorem vW(T:Tp K mg cl)(h:Def K mg "check_makes" fP)(mT:Callee P w K mg base 1 "has_widths" 2 fu):Callee P w K mg base 2 "check_makes" 2 cW:=by
 obtain⟨f,fd,F,hm⟩:=h;exact⟨f,fd,_,cQ (k:=1) vn.2 nk.2 F vT (fun dD A outer s H E hr=>(bH (i3 (Du (t4 (aX mT hr (by decide) rfl (ab (aa 0) (ab ae aj)) (aC (aC bw))))) (br Cv) fK) (br (i3 (cS Og (aF fT (a_ eE rfl T.z_len PySem.boot_len (ab (aD (aa 0) ae (fun _ _=>rfl)) aj)) (aa 1)) (Hn T.gy rfl) (bY _)) (br Cv) fK)))),hm,F.kp,F.binds fun _ _ _ _ _ _ us hl=>match us,hl with | [_,_],_=>rfl⟩
abbrev gR:Stmt:=top 8
noncomputable abbrev mn:List Str:=["first","many"]
noncomputable def wg:{b:List Stmt // aK gR=b}:=⟨_,by conv=>lhs;whnf⟩
noncomputable def lg:{b:Scope // az gR=b}:=⟨_,by conv=>lhs;whnf⟩
theorem yF:aR mn ["first","many"] lg.1:=⟨rfl,rfl,rfl,by decide+kernel,rfl,by decide+kernel,by decide+kernel⟩
def qD:FS:=(il (aQ ng (ak (eNew (cZ (dU (ai 1)) (aO 0) fw (e2 gS (ai 1) (ai 0)) ["step"] [0])) aP)))
def er:List D->R D:=sV mn qD
theorem xG(T:Tp K mg cl)(h:Def K mg "next_wires" gR):Callee P w K mg base 1 "next_wires" 2 er:=by
 obtain⟨f,fd,F,hm⟩:=h;exact⟨f,fd,_,cQ (k:=0) wg.2 lg.2 F yF (fun dD A outer s H E hr=>(br (bZ (km qk rfl T.z_tuple PyProof.Rows.boot_tuple (ab (cT (cU rfl (bt.of (own:=["step"]) (kp:=[0]) (kn:=["first"]) (sc:=lg.1) (N:=mn) rfl rfl (by decide+kernel)) (cF (aa 1) rfl T.z_range) (fun _ _ _=>(aS (show List.Nodup [(Str.ofString "step"),"first"] from by decide+kernel) rfl (Or.inl rfl))) (fun _ _ _=>cb) (fun _ _ _=>(aF i_ (aa 1) (aa 0))))) aj))))),hm,F.kp,F.binds fun _ _ _ _ _ _ us hl=>match us,hl with | [_,_],_=>rfl⟩
abbrev nF:Stmt:=top 9
noncomputable abbrev gG:List Str:=["net","many","voted","top","stands","gates","gate","copies","step","votes","ins","outs"]
noncomputable def DR:{b:List Stmt // aK nF=b}:=⟨_,by conv=>lhs;whnf⟩
noncomputable def iG:{b:Scope // az nF=b}:=⟨_,by conv=>lhs;whnf⟩
theorem fU:aR gG ["net","many","voted"] iG.1:=⟨rfl,rfl,rfl,by decide+kernel,rfl,by decide+kernel,by decide+kernel⟩
def pd:FZ:=(pK 5 (xT (dP (ak (e2 cy (ai 6) (eC (.int 0))) (ak (aQ ng (ak (eNew (cZ (dy (e2 cy (ai 6) (eC (.int 1)))) (aO 0) fw (e2 cy (e2 cy (ai 1) (ai 0)) (ai 2)) ["wire"] [4,8])) aP)) (ak (e2 cy (ai 6) (eC (.int 2))) aP))))))
def iE:FZ:=(bB (c0 7 (xT (aQ er (ak (e2 gS (ai 3) (aQ eW (ak (ai 5) aP))) (ak (ai 1) aP))))) (bB (lL (iP (dU (ai 1))) (lJ 8) pd) (yW (bP (xV (ai 2))) (bB (c0 9 (xT (aQ er (ak (e2 gS (ai 3) (aQ eW (ak (ai 5) aP))) (ak (ai 1) aP))))) (bB (GQ 5 (xP (eNew (cZ (dy (ai 9)) (aO 0) fw (dP (ak (eC (.str "vote")) (ak (ai 2) (ak (e2 cy (ai 1) (eC (.int 2))) aP)))) ["wire"] [6,7])))) (pK 4 (xP (ai 9))))) (pK 4 (xP (ai 7))))))
def uY:FZ:=(bB (c0 3 (xP (e2 fB (aQ eW (ak (e2 cy (ai 0) (eC (.int 0))) aP)) (ai 1)))) (bB (c0 4 (oI (cZ (dU (aQ eW (ak (e2 cy (ai 0) (eC (.int 0))) aP))) (aO 0) fw (aQ er (ak (e2 fB (ai 0) (ai 1)) (ak (ai 1) aP))) ["place"] [1]))) (bB (c0 5 (oI (jI aP))) (bB (lL (iP (dy (e2 cy (ai 0) (eC (.int 1))))) (lJ 6) iE) (bB (c0 10 (oI (cZ (dy (e2 cy (ai 0) (eC (.int 0)))) (ic 2 (cj (aO 0) (cj (aO 1) ig))) fw (dP (ak (ai 0) (ak (ai 2) aP))) ["name","width"] [1]))) (bB (c0 11 (Cu (cZ (dy (e2 cy (ai 0) (eC (.int 2)))) (ic 2 (cj (aO 0) (cj (aO 1) ig))) fw (dP (ak (ai 0) (ak (e2 cy (ai 2) (e2 cy (ai 1) (eC (.int 0)))) aP))) ["name","wires"] [4]))) (eB (BS (ax (cK 10) (ax (cK 5) (ax (cK 11) bW)))))))))))
def D_:List V3->aN->R3 V3:=mV gG uY
def eJ:List V3->aN->R3 V3:=oF gG uY
theorem G3(T:Tp K mg cl)(h:Def K mg "copied" nF)(g6:Callee P w K mg base 1 "next_wires" 2 er):aW P w K mg base cl 2 "copied" 3 D_:=by
 obtain⟨f,fd,F,hm⟩:=h;exact⟨f,fd,_,bF (k:=1) DR.2 iG.2 F fU (fun dD A outer s H E hr=>(au (bA fU.nd rfl (Or.inl rfl) (af (aF fT (a_ eE rfl T.z_len PySem.boot_len (ab (aD (aa 0) ae (fun _ _=>rfl)) aj)) (aa 1)))) (au (bA fU.nd rfl (Or.inr rfl) (j7 (cU rfl (bt.of (own:=["place"]) (kp:=[1]) (kn:=["many"]) (sc:=iG.1) (N:=gG) rfl rfl (by decide+kernel)) (cF (a_ eE rfl T.z_len PySem.boot_len (ab (aD (aa 0) ae (fun _ _=>rfl)) aj)) rfl T.z_range) (fun _ _ _=>(aS (show List.Nodup [(Str.ofString "place"),"many"] from by decide+kernel) rfl (Or.inl rfl))) (fun _ _ _=>cb) (fun _ _ _=>(aX g6 hr (by decide) rfl (ab (aF fT (aa 0) (aa 1)) (ab (aa 1) aj)) (aC (aC bw))))))) (au (bA fU.nd rfl (Or.inl rfl) (j7 (du aj))) (au (fJ PassesOwn.never rfl (dX (cm (aD (aa 0) ae (fun _ _=>rfl)))) (aZ fU.nd rfl (Or.inr rfl)) (au (bA fU.nd rfl (Or.inr rfl) (iW (aX g6 hr (by decide) rfl (ab (aF i_ (aa 3) (a_ eE rfl T.z_len PySem.boot_len (ab (aa 5) aj))) (ab (aa 1) aj)) (aC (aC bw))))) (au (fJ PassesOwn.never rfl (dX (cF (aa 1) rfl T.z_range)) (aZ fU.nd rfl (Or.inr rfl)) (aM (kZ rfl (Or.inl rfl) (iW (bx (ab (aD (aa 6) ae (fun _ _=>rfl)) (ab (km qk rfl T.z_tuple PyProof.Rows.boot_tuple (ab (cT (cU rfl (bt.of (own:=["wire"]) (kp:=[4,8]) (kn:=["stands","step"]) (sc:=iG.1) (N:=gG) rfl rfl (by decide+kernel)) (cm (aD (aa 6) ae (fun _ _=>rfl))) (fun _ _ _=>(aS (show List.Nodup [(Str.ofString "wire"),"stands","step"] from by decide+kernel) rfl (Or.inl rfl))) (fun _ _ _=>cb) (fun _ _ _=>(aD (aD (aa 1) (aa 0) (fun _ _=>rfl)) (aa 2) (fun _ _=>rfl))))) aj)) (ab (aD (aa 6) ae (fun _ _=>rfl)) aj)))))))) (aM (jY (gT (t4 (aa 2))) (au (bA fU.nd rfl (Or.inl rfl) (iW (aX g6 hr (by decide) rfl (ab (aF i_ (aa 3) (a_ eE rfl T.z_len PySem.boot_len (ab (aa 5) aj))) (ab (aa 1) aj)) (aC (aC bw))))) (au (M4 rfl (Or.inl rfl) (af (cT (cU rfl (bt.of (own:=["wire"]) (kp:=[6,7]) (kn:=["gate","copies"]) (sc:=iG.1) (N:=gG) rfl rfl (by decide+kernel)) (cm (aa 9)) (fun _ _ _=>(aS (show List.Nodup [(Str.ofString "wire"),"gate","copies"] from by decide+kernel) rfl (Or.inl rfl))) (fun _ _ _=>cb) (fun _ _ _=>(bx (ab bf (ab (aa 2) (ab (aD (aa 1) ae (fun _ _=>rfl)) aj))))))))) (aM (kZ rfl (Or.inr (Or.inl rfl)) (af (aa 9)))))) (aM (kZ rfl (Or.inr (Or.inl rfl)) (af (aa 7))))))))) (au (zN rfl fU.nd rfl rfl (bt.of (own:=["name","width"]) (kp:=[1]) (kn:=["many"]) (sc:=iG.1) (N:=gG) rfl rfl (by decide+kernel)) (cm (aD (aa 0) ae (fun _ _=>rfl))) (fun _ _ _=>(je rfl (cn (aS (show List.Nodup [(Str.ofString "name"),"width","many"] from by decide+kernel) rfl (Or.inl rfl)) (cn (aS (show List.Nodup [(Str.ofString "name"),"width","many"] from by decide+kernel) rfl (Or.inl rfl)) gg)))) (fun _ _ _=>cb) (fun _ _ _=>(bx (ab (aa 0) (ab (aa 2) aj))))) (au (Ai rfl fU.nd rfl rfl (bt.of (own:=["name","wires"]) (kp:=[4]) (kn:=["stands"]) (sc:=iG.1) (N:=gG) rfl rfl (by decide+kernel)) (cm (aD (aa 0) ae (fun _ _=>rfl))) (fun _ _ _=>(je rfl (cn (aS (show List.Nodup [(Str.ofString "name"),"wires","stands"] from by decide+kernel) rfl (Or.inl rfl)) (cn (aS (show List.Nodup [(Str.ofString "name"),"wires","stands"] from by decide+kernel) rfl (Or.inl rfl)) gg)))) (fun _ _ _=>cb) (fun _ _ _=>(bx (ab (aa 0) (ab (aD (aa 2) (aD (aa 1) ae (fun _ _=>rfl)) (fun _ _=>rfl)) aj))))) (aM (bS (uv (ag (aY 10) (ag (aY 5) (ag (aY 11) aH))))))))))))),hm,F.kp,F.binds fun _ _ _ _ _ _ us hl=>match us,hl with | [_,_,_],_=>rfl⟩
abbrev jd:Stmt:=top 10
noncomputable abbrev kD:List Str:=["net"]
noncomputable def yo:{b:List Stmt // aK jd=b}:=⟨_,by conv=>lhs;whnf⟩
noncomputable def qB:{b:Scope // az jd=b}:=⟨_,by conv=>lhs;whnf⟩
theorem z6:aR kD ["net"] qB.1:=⟨rfl,rfl,rfl,by decide+kernel,rfl,by decide+kernel,by decide+kernel⟩
def n9:FZ:=(bB (Ao (xP (aQ cW (ak (ai 0) (ak (eC (.int 3)) aP))))) (eB (cE eJ (ax (xP (ai 0)) (ax (xP (eC (.int 3))) (ax (xP (eC (.bl false))) bW))))))
def yw:List V3->aN->R3 V3:=mV kD n9
def jH:List V3->aN->R3 V3:=oF kD n9
theorem Ay(T:Tp K mg cl)(h:Def K mg "in_threes" jd)(cY:Callee P w K mg base 2 "check_makes" 2 cW)(fH:aW P w K mg base cl 2 "copied" 3 eJ):aW P w K mg base cl 3 "in_threes" 1 yw:=by
 obtain⟨f,fd,F,hm⟩:=h;exact⟨f,fd,_,bF (k:=2) yo.2 qB.2 F z6 (fun dD A outer s H E hr=>(au (yD (af (aX cY hr (by decide) rfl (ab (aa 0) (ab ae aj)) (aC (aC bw))))) (aM (bS (bu fH hr (by decide) rfl (ag (af (aa 0)) (ag (af ae) (ag (af gd) aH))) (ah (ah (ah aG)))))))),hm,F.kp,F.binds fun _ _ _ _ _ _ us hl=>match us,hl with | [_],_=>rfl⟩
abbrev j_:Stmt:=top 11
noncomputable abbrev mv:List Str:=["net"]
noncomputable def zt:{b:List Stmt // aK j_=b}:=⟨_,by conv=>lhs;whnf⟩
noncomputable def sv:{b:Scope // az j_=b}:=⟨_,by conv=>lhs;whnf⟩
theorem Bg:aR mv ["net"] sv.1:=⟨rfl,rfl,rfl,by decide+kernel,rfl,by decide+kernel,by decide+kernel⟩
def px:FZ:=(bB (Ao (xP (aQ cW (ak (ai 0) (ak (eC (.int 2)) aP))))) (eB (cE eJ (ax (xP (ai 0)) (ax (xP (eC (.int 2))) (ax (xP (eC (.bl false))) bW))))))
def Ad:List V3->aN->R3 V3:=mV mv px
def kM:List V3->aN->R3 V3:=oF mv px
theorem Bk(T:Tp K mg cl)(h:Def K mg "in_pairs" j_)(cY:Callee P w K mg base 2 "check_makes" 2 cW)(fH:aW P w K mg base cl 2 "copied" 3 eJ):aW P w K mg base cl 3 "in_pairs" 1 Ad:=by
 obtain⟨f,fd,F,hm⟩:=h;exact⟨f,fd,_,bF (k:=2) zt.2 sv.2 F Bg (fun dD A outer s H E hr=>(au (yD (af (aX cY hr (by decide) rfl (ab (aa 0) (ab ae aj)) (aC (aC bw))))) (aM (bS (bu fH hr (by decide) rfl (ag (af (aa 0)) (ag (af ae) (ag (af gd) aH))) (ah (ah (ah aG)))))))),hm,F.kp,F.binds fun _ _ _ _ _ _ us hl=>match us,hl with | [_],_=>rfl⟩
abbrev gz:Stmt:=top 12
noncomputable abbrev jJ:List Str:=["net"]
noncomputable def vP:{b:List Stmt // aK gz=b}:=⟨_,by conv=>lhs;whnf⟩
noncomputable def oR:{b:Scope // az gz=b}:=⟨_,by conv=>lhs;whnf⟩
theorem xO:aR jJ ["net"] oR.1:=⟨rfl,rfl,rfl,by decide+kernel,rfl,by decide+kernel,by decide+kernel⟩
def me:FZ:=(bB (Ao (xP (aQ cW (ak (ai 0) (ak (eC (.int 6)) aP))))) (eB (cE eJ (ax (xP (ai 0)) (ax (xP (eC (.int 3))) (ax (xP (eC (.bl true))) bW))))))
def wa:List V3->aN->R3 V3:=mV jJ me
def iZ:List V3->aN->R3 V3:=oF jJ me
theorem yt(T:Tp K mg cl)(h:Def K mg "with_votes" gz)(cY:Callee P w K mg base 2 "check_makes" 2 cW)(fH:aW P w K mg base cl 2 "copied" 3 eJ):aW P w K mg base cl 3 "with_votes" 1 wa:=by
 obtain⟨f,fd,F,hm⟩:=h;exact⟨f,fd,_,bF (k:=2) vP.2 oR.2 F xO (fun dD A outer s H E hr=>(au (yD (af (aX cY hr (by decide) rfl (ab (aa 0) (ab ae aj)) (aC (aC bw))))) (aM (bS (bu fH hr (by decide) rfl (ag (af (aa 0)) (ag (af ae) (ag (af gd) aH))) (ah (ah (ah aG)))))))),hm,F.kp,F.binds fun _ _ _ _ _ _ us hl=>match us,hl with | [_],_=>rfl⟩
abbrev lR:Stmt:=top 13
noncomputable abbrev rf:List Str:=["depths","wires"]
noncomputable def Bd:{b:List Stmt // aK lR=b}:=⟨_,by conv=>lhs;whnf⟩
noncomputable def pS:{b:Scope // az lR=b}:=⟨_,by conv=>lhs;whnf⟩
theorem Ea:aR rf ["depths","wires"] pS.1:=⟨rfl,rfl,rfl,by decide+kernel,rfl,by decide+kernel,by decide+kernel⟩
def xl:FS:=(il (aQ z_ (ak (eNew (cZ (dy (ai 1)) (aO 0) fw (e2 cy (ai 1) (ai 0)) ["wire"] [0])) aP)))
def iA:List D->R D:=sV rf xl
theorem Et(T:Tp K mg cl)(h:Def K mg "deepest" lR):Callee P w K mg base 1 "deepest" 2 iA:=by
 obtain⟨f,fd,F,hm⟩:=h;exact⟨f,fd,_,cQ (k:=0) Bd.2 pS.2 F Ea (fun dD A outer s H E hr=>(br (bZ (a_ (G7 rfl) rfl T.z_max PyProof.Rows.boot_max (ab (cT (cU rfl (bt.of (own:=["wire"]) (kp:=[0]) (kn:=["depths"]) (sc:=pS.1) (N:=rf) rfl rfl (by decide+kernel)) (cm (aa 1)) (fun _ _ _=>(aS (show List.Nodup [(Str.ofString "wire"),"depths"] from by decide+kernel) rfl (Or.inl rfl))) (fun _ _ _=>cb) (fun _ _ _=>(aD (aa 1) (aa 0) (fun _ _=>rfl))))) aj))))),hm,F.kp,F.binds fun _ _ _ _ _ _ us hl=>match us,hl with | [_,_],_=>rfl⟩
abbrev fM:Stmt:=top 14
noncomputable abbrev i5:List Str:=["net","depths","name","width","gate"]
noncomputable def uj:{b:List Stmt // aK fM=b}:=⟨_,by conv=>lhs;whnf⟩
noncomputable def kl:{b:Scope // az fM=b}:=⟨_,by conv=>lhs;whnf⟩
theorem fN:aR i5 ["net"] kl.1:=⟨rfl,rfl,rfl,by decide+kernel,rfl,by decide+kernel,by decide+kernel⟩
def ju:FS:=(J9 1 (cZ (dU (ai 3)) (aO 0) fw (eC (.int 0)) ["figure"] []))
def jn:FS:=(DQ 1 (e2 gS (eC (.int 1)) (zd (aQ iA (ak (ai 1) (ak (e2 cy (ai 4) (eC (.int 1))) aP))))))
def oZ:FS:=(gW (Bo 1 (jI aP)) (gW (xF (dy (e2 cy (ai 0) (eC (.int 0)))) (ic 2 (cj (aO 2) (cj (aO 3) ig))) ju) (gW (xF (dy (e2 cy (ai 0) (eC (.int 1)))) (aO 4) jn) (Hx 1 (il (ai 1))))))
def fV:List D->R D:=sV i5 oZ
theorem vV(T:Tp K mg cl)(h:Def K mg "wire_depths" fM)(jR:Callee P w K mg base 1 "deepest" 2 iA):Callee P w K mg base 2 "wire_depths" 1 fV:=by
 obtain⟨f,fd,F,hm⟩:=h;exact⟨f,fd,_,cQ (k:=1) uj.2 kl.2 F fN (fun dD A outer s H E hr=>(bH (zA fN.nd rfl (Or.inl rfl) (du aj)) (bH (nL PassesOwn.never rfl (cm (aD (aa 0) ae (fun _ _=>rfl))) (je rfl (cn (aS fN.nd rfl (Or.inl rfl)) (cn (aS fN.nd rfl (Or.inl rfl)) gg))) (br (Fy rfl (Or.inl rfl) (cU rfl (bt.of (own:=["figure"]) (kp:=[]) (kn:=[]) (sc:=kl.1) (N:=i5) rfl rfl (by decide+kernel)) (cF (aa 3) rfl T.z_range) (fun _ _ _=>(aS (show List.Nodup [(Str.ofString "figure")] from by decide+kernel) rfl (Or.inl rfl))) (fun _ _ _=>cb) (fun _ _ _=>ae))))) (bH (nL PassesOwn.never rfl (cm (aD (aa 0) ae (fun _ _=>rfl))) (aS fN.nd rfl (Or.inl rfl)) (br (zu rfl (Or.inl rfl) (aF i_ ae (GP (aX jR hr (by decide) rfl (ab (aa 1) (ab (aD (aa 4) ae (fun _ _=>rfl)) aj)) (aC (aC bw)))))))) (Ag 1 (br (bZ (aa 1)))))))),hm,F.kp,F.binds fun _ _ _ _ _ _ us hl=>match us,hl with | [_],_=>rfl⟩
abbrev uU:Stmt:=top 15
noncomputable abbrev l9:List Str:=["net","votes","sure","depths","deep"]
noncomputable def IB:{b:List Stmt // aK uU=b}:=⟨_,by conv=>lhs;whnf⟩
noncomputable def qP:{b:Scope // az uU=b}:=⟨_,by conv=>lhs;whnf⟩
theorem ub:aR l9 ["net"] qP.1:=⟨rfl,rfl,rfl,by decide+kernel,rfl,by decide+kernel,by decide+kernel⟩
def Fx:FS:=(gW (pO 1 (eNew (cZ (dy (e2 cy (ai 0) (eC (.int 1)))) (aO 0) (b2 l4 (e2 cy (ai 0) (eC (.int 0))) (eC (.str "vote"))) (ai 0) ["gate"] []))) (gW (pO 2 (eNew (cZ (dy (e2 cy (ai 0) (eC (.int 1)))) (aO 0) (xV (e2 cy (ai 0) (eC (.int 2)))) (ai 0) ["gate"] []))) (gW (pO 3 (aQ fV (ak (ai 0) aP))) (gW (pO 4 (aQ z_ (ak (eNew (cZ (dy (e2 cy (ai 0) (eC (.int 2)))) (ic 2 (cj (aO 0) (cj (aO 1) ig))) fw (aQ iA (ak (ai 2) (ak (ai 1) aP))) ["name","wires"] [3])) aP))) (il (dP (ak (aQ eW (ak (e2 cy (ai 0) (eC (.int 1))) aP)) (ak (aQ eW (ak (ai 1) aP)) (ak (aQ eW (ak (ai 2) aP)) (ak (ai 4) aP))))))))))
def mw:List D->R D:=sV l9 Fx
theorem MQ(T:Tp K mg cl)(h:Def K mg "size" uU)(lz:Callee P w K mg base 2 "wire_depths" 1 fV)(jR:Callee P w K mg base 1 "deepest" 2 iA):Callee P w K mg base 3 "size" 1 mw:=by
 obtain⟨f,fd,F,hm⟩:=h;exact⟨f,fd,_,cQ (k:=2) IB.2 qP.2 F ub (fun dD A outer s H E hr=>(bH (qm rfl ub.nd rfl rfl (bt.of (own:=["gate"]) (kp:=[]) (kn:=[]) (sc:=qP.1) (N:=l9) rfl rfl (by decide+kernel)) (cm (aD (aa 0) ae (fun _ _=>rfl))) (fun _ _ _=>(aS (show List.Nodup [(Str.ofString "gate")] from by decide+kernel) rfl (Or.inl rfl))) (fun _ _ _=>(vq (cS (lh hr.units) (aD (aa 0) ae (fun _ _=>rfl)) bf (bY _)))) (fun _ _ _=>(aa 0))) (bH (qm rfl ub.nd rfl rfl (bt.of (own:=["gate"]) (kp:=[]) (kn:=[]) (sc:=qP.1) (N:=l9) rfl rfl (by decide+kernel)) (cm (aD (aa 0) ae (fun _ _=>rfl))) (fun _ _ _=>(aS (show List.Nodup [(Str.ofString "gate")] from by decide+kernel) rfl (Or.inl rfl))) (fun _ _ _=>(vq (t4 (aD (aa 0) ae (fun _ _=>rfl))))) (fun _ _ _=>(aa 0))) (bH (lX ub.nd rfl (Or.inr rfl) (aX lz hr (by decide) rfl (ab (aa 0) aj) (aC bw))) (bH (lX ub.nd rfl (Or.inl rfl) (a_ (G7 rfl) rfl T.z_max PyProof.Rows.boot_max (ab (cT (cU rfl (bt.of (own:=["name","wires"]) (kp:=[3]) (kn:=["depths"]) (sc:=qP.1) (N:=l9) rfl rfl (by decide+kernel)) (cm (aD (aa 0) ae (fun _ _=>rfl))) (fun _ _ _=>(je rfl (cn (aS (show List.Nodup [(Str.ofString "name"),"wires","depths"] from by decide+kernel) rfl (Or.inl rfl)) (cn (aS (show List.Nodup [(Str.ofString "name"),"wires","depths"] from by decide+kernel) rfl (Or.inl rfl)) gg)))) (fun _ _ _=>cb) (fun _ _ _=>(aX jR hr (by decide) rfl (ab (aa 2) (ab (aa 1) aj)) (aC (aC bw)))))) aj))) (br (bZ (bx (ab (a_ eE rfl T.z_len PySem.boot_len (ab (aD (aa 0) ae (fun _ _=>rfl)) aj)) (ab (a_ eE rfl T.z_len PySem.boot_len (ab (aa 1) aj)) (ab (a_ eE rfl T.z_len PySem.boot_len (ab (aa 2) aj)) (ab (aa 4) aj)))))))))))),hm,F.kp,F.binds fun _ _ _ _ _ _ us hl=>match us,hl with | [_],_=>rfl⟩
abbrev lF:Stmt:=top 17
noncomputable abbrev wy:List Str:=["masks"]
noncomputable def BL:{b:List Stmt // aK lF=b}:=⟨_,by conv=>lhs;whnf⟩
noncomputable def ug:{b:Scope // az lF=b}:=⟨_,by conv=>lhs;whnf⟩
theorem DG:aR wy ["masks"] ug.1:=⟨rfl,rfl,rfl,by decide+kernel,rfl,by decide+kernel,by decide+kernel⟩
def wA:FS:=(il (e2 GD (e2 GD (e2 De (e2 cy (ai 0) (eC (.int 0))) (e2 cy (ai 0) (eC (.int 1)))) (e2 De (e2 cy (ai 0) (eC (.int 0))) (e2 cy (ai 0) (eC (.int 2))))) (e2 De (e2 cy (ai 0) (eC (.int 1))) (e2 cy (ai 0) (eC (.int 2))))))
def ij:List D->R D:=sV wy wA
theorem DZ(T:Tp K mg cl)(h:Def K mg "vote_of" lF):Callee P w K mg base 1 "vote_of" 1 ij:=by
 obtain⟨f,fd,F,hm⟩:=h;exact⟨f,fd,_,cQ (k:=0) BL.2 ug.2 F DG (fun dD A outer s H E hr=>(br (bZ (aF xC (aF xC (aF xy (aD (aa 0) ae (fun _ _=>rfl)) (aD (aa 0) ae (fun _ _=>rfl))) (aF xy (aD (aa 0) ae (fun _ _=>rfl)) (aD (aa 0) ae (fun _ _=>rfl)))) (aF xy (aD (aa 0) ae (fun _ _=>rfl)) (aD (aa 0) ae (fun _ _=>rfl))))))),hm,F.kp,F.binds fun _ _ _ _ _ _ us hl=>match us,hl with | [_],_=>rfl⟩
abbrev i8:Stmt:=top 18
noncomputable abbrev nM:List Str:=["kind","masks","full"]
noncomputable def xZ:{b:List Stmt // aK i8=b}:=⟨_,by conv=>lhs;whnf⟩
noncomputable def qz:{b:Scope // az i8=b}:=⟨_,by conv=>lhs;whnf⟩
theorem zm:aR nM ["kind","masks","full"] qz.1:=⟨rfl,rfl,rfl,by decide+kernel,rfl,by decide+kernel,by decide+kernel⟩
def sO:FS:=(gW (AE (b2 l4 (ai 0) (eC (.str "not"))) (il (e2 ED (ai 2) (e2 cy (ai 1) (eC (.int 0))))) tf) (gW (AE (b2 l4 (ai 0) (eC (.str "and"))) (il (e2 De (e2 cy (ai 1) (eC (.int 0))) (e2 cy (ai 1) (eC (.int 1))))) tf) (gW (AE (b2 l4 (ai 0) (eC (.str "or"))) (il (e2 GD (e2 cy (ai 1) (eC (.int 0))) (e2 cy (ai 1) (eC (.int 1))))) tf) (gW (AE (b2 l4 (ai 0) (eC (.str "xor"))) (il (e2 ED (e2 cy (ai 1) (eC (.int 0))) (e2 cy (ai 1) (eC (.int 1))))) tf) (il (aQ ij (ak (ai 1) aP)))))))
def ji:List D->R D:=sV nM sO
theorem zI(T:Tp K mg cl)(h:Def K mg "gate_mask" i8)(jS:Callee P w K mg base 1 "vote_of" 1 ij):Callee P w K mg base 2 "gate_mask" 3 ji:=by
 obtain⟨f,fd,F,hm⟩:=h;exact⟨f,fd,_,cQ (k:=1) xZ.2 qz.2 F zm (fun dD A outer s H E hr=>(bH (i3 (cS (lh hr.units) (aa 0) bf (bY _)) (br (bZ (aF xu (aa 2) (aD (aa 1) ae (fun _ _=>rfl))))) fK) (bH (i3 (cS (lh hr.units) (aa 0) bf (bY _)) (br (bZ (aF xy (aD (aa 1) ae (fun _ _=>rfl)) (aD (aa 1) ae (fun _ _=>rfl))))) fK) (bH (i3 (cS (lh hr.units) (aa 0) bf (bY _)) (br (bZ (aF xC (aD (aa 1) ae (fun _ _=>rfl)) (aD (aa 1) ae (fun _ _=>rfl))))) fK) (bH (i3 (cS (lh hr.units) (aa 0) bf (bY _)) (br (bZ (aF xu (aD (aa 1) ae (fun _ _=>rfl)) (aD (aa 1) ae (fun _ _=>rfl))))) fK) (br (bZ (aX jS hr (by decide) rfl (ab (aa 1) aj) (aC bw))))))))),hm,F.kp,F.binds fun _ _ _ _ _ _ us hl=>match us,hl with | [_,_,_],_=>rfl⟩
abbrev eD:Stmt:=top 19
noncomputable abbrev f7:List Str:=["ins","in_masks","full","bad","wires","place","mask","figure"]
noncomputable def rL:{b:List Stmt // aK eD=b}:=⟨_,by conv=>lhs;whnf⟩
noncomputable def lM:{b:Scope // az eD=b}:=⟨_,by conv=>lhs;whnf⟩
theorem eF:aR f7 ["ins","in_masks","full","bad"] lM.1:=⟨rfl,rfl,rfl,by decide+kernel,rfl,by decide+kernel,by decide+kernel⟩
def gO:FZ:=(pK 4 (xT (LH (b2 P9 (aQ eW (ak (ai 4) aP)) (ai 3)) (e2 ED (ai 2) (ai 6)) (ai 6))))
def kC:FZ:=(lL (iP (dU (e2 cy (e2 cy (ai 0) (ai 5)) (eC (.int 1))))) (lJ 7) gO)
def jt:FZ:=(bB (c0 4 (oI (jI aP))) (bB (lL (iP (CA (ai 1))) (Nf 2 (Cj (lJ 5) (Cj (lJ 6) NA))) kC) (eB (cK 4))))
def dW:List V3->aN->R3 V3:=mV f7 jt
def Ex:List V3->aN->R3 V3:=oF f7 jt
theorem tq(T:Tp K mg cl)(h:Def K mg "in_wire_masks" eD):aW P w K mg base cl 1 "in_wire_masks" 4 dW:=by
 obtain⟨f,fd,F,hm⟩:=h;exact⟨f,fd,_,bF (k:=0) rL.2 lM.2 F eF (fun dD A outer s H E hr=>(au (bA eF.nd rfl (Or.inl rfl) (j7 (du aj))) (au (fJ PassesOwn.never rfl (dX (A0 (aa 1) rfl T.z_enumerate)) (qy rfl (dm (aZ eF.nd rfl (Or.inl rfl)) (dm (aZ eF.nd rfl (Or.inl rfl)) nH))) (aM (fJ PassesOwn.never rfl (dX (cF (aD (aD (aa 0) (aa 5) (fun _ _=>rfl)) ae (fun _ _=>rfl)) rfl T.z_range)) (aZ eF.nd rfl (Or.inl rfl)) (aM (kZ rfl (Or.inl rfl) (iW (A9 (cS OV (a_ eE rfl T.z_len PySem.boot_len (ab (aa 4) aj)) (aa 3) (by with_unfolding_all rfl)) (aF xu (aa 2) (aa 6)) (aa 6)))))))) (aM (bS (aY 4)))))),hm,F.kp,F.binds fun _ _ _ _ _ _ us hl=>match us,hl with | [_,_,_,_],_=>rfl⟩
abbrev kq:Stmt:=top 20
noncomputable abbrev o_:List Str:=["wires","numbers"]
noncomputable def zK:{b:List Stmt // aK kq=b}:=⟨_,by conv=>lhs;whnf⟩
noncomputable def nJ:{b:Scope // az kq=b}:=⟨_,by conv=>lhs;whnf⟩
theorem B0:aR o_ ["wires","numbers"] nJ.1:=⟨rfl,rfl,rfl,by decide+kernel,rfl,by decide+kernel,by decide+kernel⟩
def vx:FS:=(il (aQ ng (ak (eNew (cZ (dy (ai 1)) (aO 0) fw (e2 cy (ai 1) (ai 0)) ["number"] [0])) aP)))
def gc:List D->R D:=sV o_ vx
theorem A1(T:Tp K mg cl)(h:Def K mg "masks_at" kq):Callee P w K mg base 1 "masks_at" 2 gc:=by
 obtain⟨f,fd,F,hm⟩:=h;exact⟨f,fd,_,cQ (k:=0) zK.2 nJ.2 F B0 (fun dD A outer s H E hr=>(br (bZ (km qk rfl T.z_tuple PyProof.Rows.boot_tuple (ab (cT (cU rfl (bt.of (own:=["number"]) (kp:=[0]) (kn:=["wires"]) (sc:=nJ.1) (N:=o_) rfl rfl (by decide+kernel)) (cm (aa 1)) (fun _ _ _=>(aS (show List.Nodup [(Str.ofString "number"),"wires"] from by decide+kernel) rfl (Or.inl rfl))) (fun _ _ _=>cb) (fun _ _ _=>(aD (aa 1) (aa 0) (fun _ _=>rfl))))) aj))))),hm,F.kp,F.binds fun _ _ _ _ _ _ us hl=>match us,hl with | [_,_],_=>rfl⟩
abbrev gK:Stmt:=top 21
noncomputable abbrev jL:List Str:=["net","in_masks","full","turned","bad","wires","place","gate","mask"]
noncomputable def vO:{b:List Stmt // aK gK=b}:=⟨_,by conv=>lhs;whnf⟩
noncomputable def oS:{b:Scope // az gK=b}:=⟨_,by conv=>lhs;whnf⟩
theorem gu:aR jL ["net","in_masks","full","turned","bad"] oS.1:=⟨rfl,rfl,rfl,by decide+kernel,rfl,by decide+kernel,by decide+kernel⟩
def jW:FZ:=(bB (c0 8 (xT (aQ ji (ak (e2 cy (ai 7) (eC (.int 0))) (ak (aQ gc (ak (ai 5) (ak (e2 cy (ai 7) (eC (.int 1))) aP))) (ak (ai 2) aP)))))) (pK 5 (xP (LH (b2 P9 (ai 6) (ai 3)) (e2 ED (ai 2) (ai 8)) (ai 8)))))
def l6:FZ:=(bB (c0 5 (cE dW (ax (xP (e2 cy (ai 0) (eC (.int 0)))) (ax (xP (ai 1)) (ax (xP (ai 2)) (ax (xP (ai 4)) bW)))))) (bB (lL (iP (k8 (e2 cy (ai 0) (eC (.int 1))))) (Nf 2 (Cj (lJ 6) (Cj (lJ 7) NA))) jW) (eB (cK 5))))
def v7:List V3->aN->R3 V3:=mV jL l6
def eI:List V3->aN->R3 V3:=oF jL l6
theorem xv(T:Tp K mg cl)(h:Def K mg "wire_masks" gK)(iI:Callee P w K mg base 1 "masks_at" 2 gc)(oq:Callee P w K mg base 2 "gate_mask" 3 ji)(fE:aW P w K mg base cl 1 "in_wire_masks" 4 dW):aW P w K mg base cl 3 "wire_masks" 5 v7:=by
 obtain⟨f,fd,F,hm⟩:=h;exact⟨f,fd,_,bF (k:=2) vO.2 oS.2 F gu (fun dD A outer s H E hr=>(au (bA gu.nd rfl (Or.inl rfl) (bu fE hr (by decide) rfl (ag (af (aD (aa 0) ae (fun _ _=>rfl))) (ag (af (aa 1)) (ag (af (aa 2)) (ag (af (aa 4)) aH)))) (ah (ah (ah (ah aG)))))) (au (fJ PassesOwn.never rfl (dX (qX (aD (aa 0) ae (fun _ _=>rfl)) rfl T.z_enumerate)) (qy rfl (dm (aZ gu.nd rfl (Or.inl rfl)) (dm (aZ gu.nd rfl (Or.inl rfl)) nH))) (au (bA gu.nd rfl (Or.inl rfl) (iW (aX oq hr (by decide) rfl (ab (aD (aa 7) ae (fun _ _=>rfl)) (ab (aX iI hr (by decide) rfl (ab (aa 5) (ab (aD (aa 7) ae (fun _ _=>rfl)) aj)) (aC (aC bw))) (ab (aa 2) aj))) (aC (aC (aC bw)))))) (aM (kZ rfl (Or.inl rfl) (af (A9 (cS OV (aa 6) (aa 3) (by with_unfolding_all rfl)) (aF xu (aa 2) (aa 8)) (aa 8))))))) (aM (bS (aY 5)))))),hm,F.kp,F.binds fun _ _ _ _ _ _ us hl=>match us,hl with | [_,_,_,_,_],_=>rfl⟩
abbrev jh:Stmt:=top 22
noncomputable abbrev jc:List Str:=["net","wires"]
noncomputable def xA:{b:List Stmt // aK jh=b}:=⟨_,by conv=>lhs;whnf⟩
noncomputable def mq:{b:Scope // az jh=b}:=⟨_,by conv=>lhs;whnf⟩
theorem zp:aR jc ["net","wires"] mq.1:=⟨rfl,rfl,rfl,by decide+kernel,rfl,by decide+kernel,by decide+kernel⟩
def og:FZ:=(eB (oI (cZ (dy (e2 cy (ai 0) (eC (.int 2)))) (ic 2 (cj (aO 0) (cj (aO 1) ig))) fw (aQ gc (ak (ai 2) (ak (ai 1) aP))) ["name","numbers"] [1])))
def x8:List V3->aN->R3 V3:=mV jc og
def fA:List V3->aN->R3 V3:=oF jc og
theorem zO(T:Tp K mg cl)(h:Def K mg "out_masks" jh)(iI:Callee P w K mg base 1 "masks_at" 2 gc):aW P w K mg base cl 2 "out_masks" 2 x8:=by
 obtain⟨f,fd,F,hm⟩:=h;exact⟨f,fd,_,bF (k:=1) xA.2 mq.2 F zp (fun dD A outer s H E hr=>(aM (bS (j7 (cU rfl (bt.of (own:=["name","numbers"]) (kp:=[1]) (kn:=["wires"]) (sc:=mq.1) (N:=jc) rfl rfl (by decide+kernel)) (cm (aD (aa 0) ae (fun _ _=>rfl))) (fun _ _ _=>(je rfl (cn (aS (show List.Nodup [(Str.ofString "name"),"numbers","wires"] from by decide+kernel) rfl (Or.inl rfl)) (cn (aS (show List.Nodup [(Str.ofString "name"),"numbers","wires"] from by decide+kernel) rfl (Or.inl rfl)) gg)))) (fun _ _ _=>cb) (fun _ _ _=>(aX iI hr (by decide) rfl (ab (aa 2) (ab (aa 1) aj)) (aC (aC bw))))))))),hm,F.kp,F.binds fun _ _ _ _ _ _ us hl=>match us,hl with | [_,_],_=>rfl⟩
abbrev zq:Stmt:=top 23
noncomputable abbrev Dl:List Str:=["net","bits","turned","bad"]
noncomputable def LN:{b:List Stmt // aK zq=b}:=⟨_,by conv=>lhs;whnf⟩
noncomputable def Ga:{b:Scope // az zq=b}:=⟨_,by conv=>lhs;whnf⟩
theorem OL:aR Dl ["net","bits","turned","bad"] Ga.1:=⟨rfl,rfl,rfl,by decide+kernel,rfl,by decide+kernel,by decide+kernel⟩
def GF:FZ:=(eB (cE fA (ax (xP (ai 0)) (ax (cE eI (ax (xP (ai 0)) (ax (xP (ai 1)) (ax (xP (eC (.int 1))) (ax (xP (ai 2)) (ax (xP (ai 3)) bW)))))) bW))))
def MI:List V3->aN->R3 V3:=mV Dl GF
def qV:List V3->aN->R3 V3:=oF Dl GF
theorem NX(T:Tp K mg cl)(h:Def K mg "run" zq)(eK:aW P w K mg base cl 3 "wire_masks" 5 eI)(fF:aW P w K mg base cl 2 "out_masks" 2 fA):aW P w K mg base cl 4 "run" 4 MI:=by
 obtain⟨f,fd,F,hm⟩:=h;exact⟨f,fd,_,bF (k:=3) LN.2 Ga.2 F OL (fun dD A outer s H E hr=>(aM (bS (bu fF hr (by decide) rfl (ag (af (aa 0)) (ag (bu eK hr (by decide) rfl (ag (af (aa 0)) (ag (af (aa 1)) (ag (af ae) (ag (af (aa 2)) (ag (af (aa 3)) aH))))) (ah (ah (ah (ah (ah aG)))))) aH)) (ah (ah aG)))))),hm,F.kp,F.binds fun _ _ _ _ _ _ us hl=>match us,hl with | [_,_,_,_],_=>rfl⟩
abbrev lP:Stmt:=top 24
noncomputable abbrev oC:List Str:=["masks","full","ones"]
noncomputable def Bz:{b:List Stmt // aK lP=b}:=⟨_,by conv=>lhs;whnf⟩
noncomputable def vb:{b:Scope // az lP=b}:=⟨_,by conv=>lhs;whnf⟩
theorem wI:aR oC ["masks","full"] vb.1:=⟨rfl,rfl,rfl,by decide+kernel,rfl,by decide+kernel,by decide+kernel⟩
def wj:FS:=(gW (AE (b2 l4 (aQ eW (ak (ai 0) aP)) (eC (.int 2))) (il (dP (ak (e2 ED (ai 1) (e2 GD (e2 cy (ai 0) (eC (.int 0))) (e2 cy (ai 0) (eC (.int 1))))) (ak (e2 De (e2 cy (ai 0) (eC (.int 0))) (e2 cy (ai 0) (eC (.int 1)))) aP)))) tf) (gW (pO 2 (LH (b2 l4 (aQ eW (ak (ai 0) aP)) (eC (.int 1))) (e2 cy (ai 0) (eC (.int 0))) (aQ ij (ak (ai 0) aP)))) (il (dP (ak (e2 ED (ai 1) (ai 2)) (ak (ai 2) aP))))))
def ix:List D->R D:=sV oC wj
theorem DM(T:Tp K mg cl)(h:Def K mg "reading" lP)(jS:Callee P w K mg base 1 "vote_of" 1 ij):Callee P w K mg base 2 "reading" 2 ix:=by
 obtain⟨f,fd,F,hm⟩:=h;exact⟨f,fd,_,cQ (k:=1) Bz.2 vb.2 F wI (fun dD A outer s H E hr=>(bH (i3 (cS (lh hr.units) (a_ eE rfl T.z_len PySem.boot_len (ab (aa 0) aj)) ae (bY _)) (br (bZ (bx (ab (aF xu (aa 1) (aF xC (aD (aa 0) ae (fun _ _=>rfl)) (aD (aa 0) ae (fun _ _=>rfl)))) (ab (aF xy (aD (aa 0) ae (fun _ _=>rfl)) (aD (aa 0) ae (fun _ _=>rfl))) aj))))) fK) (bH (lX wI.nd rfl (Or.inl rfl) (A9 (cS (lh hr.units) (a_ eE rfl T.z_len PySem.boot_len (ab (aa 0) aj)) ae (bY _)) (aD (aa 0) ae (fun _ _=>rfl)) (aX jS hr (by decide) rfl (ab (aa 0) aj) (aC bw)))) (br (bZ (bx (ab (aF xu (aa 1) (aa 2)) (ab (aa 2) aj)))))))),hm,F.kp,F.binds fun _ _ _ _ _ _ us hl=>match us,hl with | [_,_],_=>rfl⟩
abbrev nY:Stmt:=top 25
noncomputable abbrev Ae:List Str:=["mask","number"]
noncomputable def D2:{b:List Stmt // aK nY=b}:=⟨_,by conv=>lhs;whnf⟩
noncomputable def wF:{b:Scope // az nY=b}:=⟨_,by conv=>lhs;whnf⟩
theorem HE:aR Ae ["mask","number"] wF.1:=⟨rfl,rfl,rfl,by decide+kernel,rfl,by decide+kernel,by decide+kernel⟩
def y3:FS:=(il (e2 De (e2 A8 (ai 0) (ai 1)) (eC (.int 1))))
def fS:List D->R D:=sV Ae y3
theorem Hj(T:Tp K mg cl)(h:Def K mg "bit_at" nY):Callee P w K mg base 1 "bit_at" 2 fS:=by
 obtain⟨f,fd,F,hm⟩:=h;exact⟨f,fd,_,cQ (k:=0) D2.2 wF.2 F HE (fun dD A outer s H E hr=>(br (bZ (aF xy (aF K_ (aa 0) (aa 1)) ae)))),hm,F.kp,F.binds fun _ _ _ _ _ _ us hl=>match us,hl with | [_,_],_=>rfl⟩
abbrev lB:Stmt:=top 26
noncomputable abbrev lV:List Str:=["masks","number"]
noncomputable def A2:{b:List Stmt // aK lB=b}:=⟨_,by conv=>lhs;whnf⟩
noncomputable def uS:{b:Scope // az lB=b}:=⟨_,by conv=>lhs;whnf⟩
theorem Ee:aR lV ["masks","number"] uS.1:=⟨rfl,rfl,rfl,by decide+kernel,rfl,by decide+kernel,by decide+kernel⟩
def xm:FS:=(gW (AE (b2 l4 (aQ fS (ak (e2 cy (ai 0) (eC (.int 0))) (ak (ai 1) aP))) (eC (.int 1))) (il (eC (.int 0))) tf) (gW (AE (b2 l4 (aQ fS (ak (e2 cy (ai 0) (eC (.int 1))) (ak (ai 1) aP))) (eC (.int 1))) (il (eC (.int 1))) tf) (il (eC .de))))
def iu:List D->R D:=sV lV xm
theorem EI(T:Tp K mg cl)(h:Def K mg "read_at" lB)(ky:Callee P w K mg base 1 "bit_at" 2 fS):Callee P w K mg base 2 "read_at" 2 iu:=by
 obtain⟨f,fd,F,hm⟩:=h;exact⟨f,fd,_,cQ (k:=1) A2.2 uS.2 F Ee (fun dD A outer s H E hr=>(bH (i3 (cS (lh hr.units) (aX ky hr (by decide) rfl (ab (aD (aa 0) ae (fun _ _=>rfl)) (ab (aa 1) aj)) (aC (aC bw))) ae (bY _)) (br (bZ ae)) fK) (bH (i3 (cS (lh hr.units) (aX ky hr (by decide) rfl (ab (aD (aa 0) ae (fun _ _=>rfl)) (ab (aa 1) aj)) (aC (aC bw))) ae (bY _)) (br (bZ ae)) fK) (br (bZ J4))))),hm,F.kp,F.binds fun _ _ _ _ _ _ us hl=>match us,hl with | [_,_],_=>rfl⟩
abbrev vj:Stmt:=top 27
noncomputable abbrev Fh:List Str:=["bits"]
noncomputable def Kg:{b:List Stmt // aK vj=b}:=⟨_,by conv=>lhs;whnf⟩
noncomputable def C7:{b:Scope // az vj=b}:=⟨_,by conv=>lhs;whnf⟩
theorem Mb:aR Fh ["bits"] C7.1:=⟨rfl,rfl,rfl,by decide+kernel,rfl,by decide+kernel,by decide+kernel⟩
def Gd:FS:=(il (aQ iu (ak (aQ ix (ak (ai 0) (ak (eC (.int 1)) aP))) (ak (eC (.int 0)) aP))))
def uX:List D->R D:=sV Fh Gd
theorem Mz(T:Tp K mg cl)(h:Def K mg "told" vj)(jT:Callee P w K mg base 2 "reading" 2 ix)(jQ:Callee P w K mg base 2 "read_at" 2 iu):Callee P w K mg base 3 "told" 1 uX:=by
 obtain⟨f,fd,F,hm⟩:=h;exact⟨f,fd,_,cQ (k:=2) Kg.2 C7.2 F Mb (fun dD A outer s H E hr=>(br (bZ (aX jQ hr (by decide) rfl (ab (aX jT hr (by decide) rfl (ab (aa 0) (ab ae aj)) (aC (aC bw))) (ab ae aj)) (aC (aC bw)))))),hm,F.kp,F.binds fun _ _ _ _ _ _ us hl=>match us,hl with | [_],_=>rfl⟩
abbrev gP:Stmt:=top 28
noncomputable abbrev jB:List Str:=["count","inputs","place","longer","bits"]
noncomputable def wc:{b:List Stmt // aK gP=b}:=⟨_,by conv=>lhs;whnf⟩
noncomputable def oU:{b:Scope // az gP=b}:=⟨_,by conv=>lhs;whnf⟩
theorem fq:aR jB ["count"] oU.1:=⟨rfl,rfl,rfl,by decide+kernel,rfl,by decide+kernel,by decide+kernel⟩
def nh:FZ:=(bB (pK 3 (xP (e2 sC (ai 4) (dP (ak (eC (.int 0)) aP))))) (pK 3 (xP (e2 sC (ai 4) (dP (ak (eC (.int 1)) aP))))))
def nv:FZ:=(GU 1 (bB (c0 3 (oI (jI aP))) (bB (lL (iP (dy (ai 1))) (lJ 4) nh) (c0 1 (cK 3)))))
def mF:FZ:=(bB (c0 1 (oI (jI (ak (dP aP) aP)))) (bB (lL (iP (dU (ai 0))) (lJ 2) nv) (eB (cK 1))))
def v_:List V3->aN->R3 V3:=mV jB mF
def i4:List V3->aN->R3 V3:=oF jB mF
theorem yu(T:Tp K mg cl)(h:Def K mg "all_inputs" gP):aW P w K mg base cl 1 "all_inputs" 1 v_:=by
 obtain⟨f,fd,F,hm⟩:=h;exact⟨f,fd,_,bF (k:=0) wc.2 oU.2 F fq (fun dD A outer s H E hr=>(au (bA fq.nd rfl (Or.inl rfl) (j7 (du (ab (bx aj) aj)))) (au (fJ PassesOwn.never rfl (dX (cF (aa 0) rfl T.z_range)) (aZ fq.nd rfl (Or.inl rfl)) (IV 1 (au (bA fq.nd rfl (Or.inl rfl) (j7 (du aj))) (au (fJ PassesOwn.never rfl (dX (cm (aa 1))) (aZ fq.nd rfl (Or.inl rfl)) (au (kZ rfl (Or.inl rfl) (af (aF xY (aa 4) (bx (ab ae aj))))) (aM (kZ rfl (Or.inl rfl) (af (aF xY (aa 4) (bx (ab ae aj)))))))) (aM (bA fq.nd rfl (Or.inl rfl) (aY 3))))))) (aM (bS (aY 1)))))),hm,F.kp,F.binds fun _ _ _ _ _ _ us hl=>match us,hl with | [_],_=>rfl⟩
abbrev lD:Stmt:=top 29
noncomputable abbrev rp:List Str:=["bits","mask","bit"]
noncomputable def BI:{b:List Stmt // aK lD=b}:=⟨_,by conv=>lhs;whnf⟩
noncomputable def uE:{b:Scope // az lD=b}:=⟨_,by conv=>lhs;whnf⟩
theorem oB:aR rp ["bits"] uE.1:=⟨rfl,rfl,rfl,by decide+kernel,rfl,by decide+kernel,by decide+kernel⟩
def nu:FS:=(pO 1 (e2 gS (e2 fB (ai 1) (eC (.int 2))) (ai 2)))
def xh:FS:=(gW (pO 1 (eC (.int 0))) (gW (xF (Lc (ai 0)) (aO 2) nu) (il (ai 1))))
def ip:List D->R D:=sV rp xh
theorem Ep(T:Tp K mg cl)(h:Def K mg "mask_of" lD):Callee P w K mg base 1 "mask_of" 1 ip:=by
 obtain⟨f,fd,F,hm⟩:=h;exact⟨f,fd,_,cQ (k:=0) BI.2 uE.2 F oB (fun dD A outer s H E hr=>(bH (lX oB.nd rfl (Or.inl rfl) ae) (bH (nL PassesOwn.never rfl (HD (aa 0) rfl T.z_reversed) (aS oB.nd rfl (Or.inl rfl)) (br (lX oB.nd rfl (Or.inl rfl) (aF i_ (aF fT (aa 1) ae) (aa 2))))) (br (bZ (aa 1)))))),hm,F.kp,F.binds fun _ _ _ _ _ _ us hl=>match us,hl with | [_],_=>rfl⟩
abbrev lI:Stmt:=top 30
noncomputable abbrev rj:List Str:=["inputs","place"]
noncomputable def AM:{b:List Stmt // aK lI=b}:=⟨_,by conv=>lhs;whnf⟩
noncomputable def pC:{b:Scope // az lI=b}:=⟨_,by conv=>lhs;whnf⟩
theorem Es:aR rj ["inputs","place"] pC.1:=⟨rfl,rfl,rfl,by decide+kernel,rfl,by decide+kernel,by decide+kernel⟩
def wM:FS:=(il (aQ ip (ak (eNew (cZ (dy (ai 0)) (aO 0) fw (e2 cy (ai 0) (ai 1)) ["bits"] [1])) aP)))
def lS:List D->R D:=sV rj wM
theorem DK(T:Tp K mg cl)(h:Def K mg "in_mask" lI)(jU:Callee P w K mg base 1 "mask_of" 1 ip):Callee P w K mg base 2 "in_mask" 2 lS:=by
 obtain⟨f,fd,F,hm⟩:=h;exact⟨f,fd,_,cQ (k:=1) AM.2 pC.2 F Es (fun dD A outer s H E hr=>(br (bZ (aX jU hr (by decide) rfl (ab (cT (cU rfl (bt.of (own:=["bits"]) (kp:=[1]) (kn:=["place"]) (sc:=pC.1) (N:=rj) rfl rfl (by decide+kernel)) (cm (aa 0)) (fun _ _ _=>(aS (show List.Nodup [(Str.ofString "bits"),"place"] from by decide+kernel) rfl (Or.inl rfl))) (fun _ _ _=>cb) (fun _ _ _=>(aD (aa 0) (aa 1) (fun _ _=>rfl))))) aj) (aC bw))))),hm,F.kp,F.binds fun _ _ _ _ _ _ us hl=>match us,hl with | [_,_],_=>rfl⟩
abbrev cg:Stmt:=inClass (top 31) 0
noncomputable abbrev dk:List Str:=["self","net","inputs"]
noncomputable def qE:{b:List Stmt // aK cg=b}:=⟨_,by conv=>lhs;whnf⟩
noncomputable def eO:{b:Scope // az cg=b}:=⟨_,by conv=>lhs;whnf⟩
theorem lG:aR dk ["self","net"] eO.1:=⟨rfl,rfl,rfl,by decide+kernel,rfl,by decide+kernel,by decide+kernel⟩
def iC:FZ:=(bB (c0 2 (cE i4 (ax (xP (aQ eW (ak (e2 cy (ai 1) (eC (.int 0))) aP))) bW))) (bB (yp 0 "net" (cK 0) (xP (ai 1))) (bB (yp 0 "many_inputs" (cK 0) (xP (aQ eW (ak (ai 2) aP)))) (bB (yp 0 "full" (cK 0) (xP (aQ ip (ak (eNew (cZ (dy (ai 2)) (aO 0) fw (eC (.int 1)) ["bits"] [])) aP)))) (yp 0 "in_masks" (cK 0) (xP (eNew (cZ (dU (aQ eW (ak (e2 cy (ai 1) (eC (.int 0))) aP))) (aO 0) fw (aQ lS (ak (ai 1) (ak (ai 0) aP))) ["place"] [2]))))))))
def bQ:List V3->aN->R3 V3:=mV dk iC
def Ce:List V3->aN->R3 V3:=oF dk iC
theorem d7(T:Tp K mg cl)(h:Ef K (cl 0) "__init__" "Bench.__init__" cg)(jU:Callee P w K mg base 1 "mask_of" 1 ip)(r9:Callee P w K mg base 2 "in_mask" 2 lS)(lj:aW P w K mg base cl 1 "all_inputs" 1 i4):sH P w K mg base cl 3 0 "Bench" 1 bQ:=by
 obtain⟨f,fd,F,hm⟩:=h;exact⟨f,fd,_,hm,bF (k:=2) qE.2 eO.2 F lG (fun dD A outer s H E hr=>(au (bA lG.nd rfl (Or.inr rfl) (bu lj hr (by decide) rfl (ag (af (a_ eE rfl T.z_len PySem.boot_len (ab (aD (aa 1) ae (fun _ _=>rfl)) aj))) aH) (ah aG))) (au (pN T.C_Bench T.N_Bench_net (aY 0) (af (aa 1))) (au (pN T.C_Bench T.N_Bench_many_inputs (aY 0) (af (a_ eE rfl T.z_len PySem.boot_len (ab (aa 2) aj)))) (au (pN T.C_Bench T.N_Bench_full (aY 0) (af (aX jU hr (by decide) rfl (ab (cT (cU rfl (bt.of (own:=["bits"]) (kp:=[]) (kn:=[]) (sc:=eO.1) (N:=dk) rfl rfl (by decide+kernel)) (cm (aa 2)) (fun _ _ _=>(aS (show List.Nodup [(Str.ofString "bits")] from by decide+kernel) rfl (Or.inl rfl))) (fun _ _ _=>cb) (fun _ _ _=>ae))) aj) (aC bw)))) (aM (pN T.C_Bench T.N_Bench_in_masks (aY 0) (af (cT (cU rfl (bt.of (own:=["place"]) (kp:=[2]) (kn:=["inputs"]) (sc:=eO.1) (N:=dk) rfl rfl (by decide+kernel)) (cF (a_ eE rfl T.z_len PySem.boot_len (ab (aD (aa 1) ae (fun _ _=>rfl)) aj)) rfl T.z_range) (fun _ _ _=>(aS (show List.Nodup [(Str.ofString "place"),"inputs"] from by decide+kernel) rfl (Or.inl rfl))) (fun _ _ _=>cb) (fun _ _ _=>(aX r9 hr (by decide) rfl (ab (aa 1) (ab (aa 0) aj)) (aC (aC bw)))))))))))))),T.M_Bench,F.binds fun _ _ _ _ _ _ us hl=>match us,hl with | [_,_],_=>rfl⟩
abbrev cX:Stmt:=inClass (top 31) 1
noncomputable abbrev iX:List Str:=["self","turned","bad"]
noncomputable def uN:{b:List Stmt // aK cX=b}:=⟨_,by conv=>lhs;whnf⟩
noncomputable def nX:{b:Scope // az cX=b}:=⟨_,by conv=>lhs;whnf⟩
theorem vU:aR iX ["self","turned","bad"] nX.1:=⟨rfl,rfl,rfl,by decide+kernel,rfl,by decide+kernel,by decide+kernel⟩
def k7:FZ:=(eB (cE fA (ax (m_ 0 "net" (cK 0)) (ax (cE eI (ax (m_ 0 "net" (cK 0)) (ax (m_ 0 "in_masks" (cK 0)) (ax (m_ 0 "full" (cK 0)) (ax (xP (ai 1)) (ax (xP (ai 2)) bW)))))) bW))))
def u9:List V3->aN->R3 V3:=mV iX k7
def gA:List V3->aN->R3 V3:=oF iX k7
theorem fR(T:Tp K mg cl)(h:pJ K (cl 0) "tells" "Bench.tells" cX)(eK:aW P w K mg base cl 3 "wire_masks" 5 eI)(fF:aW P w K mg base cl 2 "out_masks" 2 fA):gH P w K mg base cl 4 0 "tells" 2 u9:=by
 obtain⟨f,fd,F,hm⟩:=h;exact⟨f,fd,_,T.C_Bench,hm,bF (k:=3) uN.2 nX.2 F vU (fun dD A outer s H E hr=>(aM (bS (bu fF hr (by decide) rfl (ag (fI T.C_Bench T.N_Bench_net (aY 0)) (ag (bu eK hr (by decide) rfl (ag (fI T.C_Bench T.N_Bench_net (aY 0)) (ag (fI T.C_Bench T.N_Bench_in_masks (aY 0)) (ag (fI T.C_Bench T.N_Bench_full (aY 0)) (ag (af (aa 1)) (ag (af (aa 2)) aH))))) (ah (ah (ah (ah (ah aG)))))) aH)) (ah (ah aG)))))),F.binds fun _ _ _ _ _ _ us hl=>match us,hl with | [_,_,_],_=>rfl⟩
abbrev cf:Stmt:=inClass (top 31) 2
noncomputable abbrev d6:List Str:=["self","turned"]
noncomputable def qC:{b:List Stmt // aK cf=b}:=⟨_,by conv=>lhs;whnf⟩
noncomputable def gB:{b:Scope // az cf=b}:=⟨_,by conv=>lhs;whnf⟩
theorem rh:aR d6 ["self","turned"] gB.1:=⟨rfl,rfl,rfl,by decide+kernel,rfl,by decide+kernel,by decide+kernel⟩
def iz:FZ:=(eB (i9 (u0 (kJ 0 "tells" gA (cK 0) (ax (xP (ai 1)) (ax (xP (dP aP)) bW)))) (lJ 0) sW (mm ix (ax (xP (ai 0)) (ax (m_ 0 "full" (cK 1)) bW))) ["masks"] [0]))
def qF:List V3->aN->R3 V3:=mV d6 iz
def bE:List V3->aN->R3 V3:=oF d6 iz
theorem d8(T:Tp K mg cl)(h:pJ K (cl 0) "readings" "Bench.readings" cf)(jT:Callee P w K mg base 2 "reading" 2 ix)(kx:gH P w K mg base cl 4 0 "tells" 2 gA):gH P w K mg base cl 5 0 "readings" 1 qF:=by
 obtain⟨f,fd,F,hm⟩:=h;exact⟨f,fd,_,T.C_Bench,hm,bF (k:=4) qC.2 gB.2 F rh (fun dD A outer s H E hr=>(aM (bS (kN rfl (bt.of (own:=["masks"]) (kp:=[0]) (kn:=["self"]) (sc:=gB.1) (N:=d6) rfl rfl (by decide+kernel)) (kE (fZ kx hr (by decide) (aY 0) (ag (af (aa 1)) (ag (af (bx aj)) aH)) (ah (ah aG)))) (fun _ _ _=>(aZ (show List.Nodup [(Str.ofString "masks"),"self"] from by decide+kernel) rfl (Or.inl rfl))) (fun _ _ _=>gq) (fun _ _ _=>(zG jT hr (by decide) rfl (ag (af (aa 0)) (ag (fI T.C_Bench T.N_Bench_full (aY 1)) aH)) (ah (ah aG)))))))),F.binds fun _ _ _ _ _ _ us hl=>match us,hl with | [_,_],_=>rfl⟩
abbrev j9:Stmt:=top 32
noncomputable abbrev jX:List Str:=["net","bench"]
noncomputable def zi:{b:List Stmt // aK j9=b}:=⟨_,by conv=>lhs;whnf⟩
noncomputable def ni:{b:Scope // az j9=b}:=⟨_,by conv=>lhs;whnf⟩
theorem t_:aR jX ["net"] ni.1:=⟨rfl,rfl,rfl,by decide+kernel,rfl,by decide+kernel,by decide+kernel⟩
def o8:FZ:=(bB (c0 1 (ui 0 bQ (ax (xP (ai 0)) bW))) (eB (mm EE (ax (i9 (u0 (kJ 0 "readings" bE (cK 1) (ax (xP (dP aP)) bW))) (lJ 0) sW (x2 l4 (xP (e2 GD (e2 cy (ai 0) (eC (.int 0))) (e2 cy (ai 0) (eC (.int 1))))) (m_ 0 "full" (cK 1))) ["masks"] [1]) bW))))
def yZ:List V3->aN->R3 V3:=mV jX o8
def kQ:List V3->aN->R3 V3:=oF jX o8
theorem BW(T:Tp K mg cl)(h:Def K mg "is_sound" j9)(bR:sH P w K mg base cl 3 0 "Bench" 1 bQ)(bp:gH P w K mg base cl 5 0 "readings" 1 bE):aW P w K mg base cl 6 "is_sound" 1 yZ:=by
 obtain⟨f,fd,F,hm⟩:=h;exact⟨f,fd,_,bF (k:=5) zi.2 ni.2 F t_ (fun dD A outer s H E hr=>(au (bA t_.nd rfl (Or.inr rfl) (qA bR hr (by decide) rfl (ag (af (aa 0)) aH) (ah aG))) (aM (bS (vf (Hk rfl) rfl T.z_all PyProof.Rows.boot_all (ag (kN rfl (bt.of (own:=["masks"]) (kp:=[1]) (kn:=["bench"]) (sc:=ni.1) (N:=jX) rfl rfl (by decide+kernel)) (kE (fZ bp hr (by decide) (aY 1) (ag (af (bx aj)) aH) (ah aG))) (fun _ _ _=>(aZ (show List.Nodup [(Str.ofString "masks"),"bench"] from by decide+kernel) rfl (Or.inl rfl))) (fun _ _ _=>gq) (fun _ _ _=>(yk (lh hr.units) (af (aF xC (aD (aa 0) ae (fun _ _=>rfl)) (aD (aa 0) ae (fun _ _=>rfl)))) (fI T.C_Bench T.N_Bench_full (aY 1)) (bY _)))) aH)))))),hm,F.kp,F.binds fun _ _ _ _ _ _ us hl=>match us,hl with | [_],_=>rfl⟩
abbrev cO:Stmt:=inClass (top 31) 3
noncomputable abbrev eZ:List Str:=["self","masks"]
noncomputable def tu:{b:List Stmt // aK cO=b}:=⟨_,by conv=>lhs;whnf⟩
noncomputable def jo:{b:Scope // az cO=b}:=⟨_,by conv=>lhs;whnf⟩
theorem uK:aR eZ ["self","masks"] jo.1:=⟨rfl,rfl,rfl,by decide+kernel,rfl,by decide+kernel,by decide+kernel⟩
def ki:FZ:=(eB (i9 (so (m_ 0 "many_inputs" (cK 0))) (lJ 0) sW (xP (aQ iu (ak (ai 1) (ak (ai 0) aP)))) ["number"] [1]))
def tG:List V3->aN->R3 V3:=mV eZ ki
def fY:List V3->aN->R3 V3:=oF eZ ki
theorem eV(T:Tp K mg cl)(h:pJ K (cl 0) "column" "Bench.column" cO)(jQ:Callee P w K mg base 2 "read_at" 2 iu):gH P w K mg base cl 3 0 "column" 1 tG:=by
 obtain⟨f,fd,F,hm⟩:=h;exact⟨f,fd,_,T.C_Bench,hm,bF (k:=2) tu.2 jo.2 F uK (fun dD A outer s H E hr=>(aM (bS (kN rfl (bt.of (own:=["number"]) (kp:=[1]) (kn:=["masks"]) (sc:=jo.1) (N:=eZ) rfl rfl (by decide+kernel)) (l8 (fI T.C_Bench T.N_Bench_many_inputs (aY 0)) rfl T.z_range) (fun _ _ _=>(aZ (show List.Nodup [(Str.ofString "number"),"masks"] from by decide+kernel) rfl (Or.inl rfl))) (fun _ _ _=>gq) (fun _ _ _=>(af (aX jQ hr (by decide) rfl (ab (aa 1) (ab (aa 0) aj)) (aC (aC bw))))))))),F.binds fun _ _ _ _ _ _ us hl=>match us,hl with | [_,_],_=>rfl⟩
abbrev lO:Stmt:=top 33
noncomputable abbrev lK:List Str:=["net","bench"]
noncomputable def Bb:{b:List Stmt // aK lO=b}:=⟨_,by conv=>lhs;whnf⟩
noncomputable def pj:{b:Scope // az lO=b}:=⟨_,by conv=>lhs;whnf⟩
theorem xg:aR lK ["net"] pj.1:=⟨rfl,rfl,rfl,by decide+kernel,rfl,by decide+kernel,by decide+kernel⟩
def rJ:FZ:=(bB (c0 1 (ui 0 bQ (ax (xP (ai 0)) bW))) (eB (i9 (u0 (kJ 0 "readings" bE (cK 1) (ax (xP (dP aP)) bW))) (lJ 0) sW (kJ 0 "column" fY (cK 1) (ax (xP (ai 0)) bW)) ["masks"] [1])))
def AQ:List V3->aN->R3 V3:=mV lK rJ
def j4:List V3->aN->R3 V3:=oF lK rJ
theorem D9(T:Tp K mg cl)(h:Def K mg "columns" lO)(bR:sH P w K mg base cl 3 0 "Bench" 1 bQ)(bp:gH P w K mg base cl 5 0 "readings" 1 bE)(jv:gH P w K mg base cl 3 0 "column" 1 fY):aW P w K mg base cl 6 "columns" 1 AQ:=by
 obtain⟨f,fd,F,hm⟩:=h;exact⟨f,fd,_,bF (k:=5) Bb.2 pj.2 F xg (fun dD A outer s H E hr=>(au (bA xg.nd rfl (Or.inr rfl) (qA bR hr (by decide) rfl (ag (af (aa 0)) aH) (ah aG))) (aM (bS (kN rfl (bt.of (own:=["masks"]) (kp:=[1]) (kn:=["bench"]) (sc:=pj.1) (N:=lK) rfl rfl (by decide+kernel)) (kE (fZ bp hr (by decide) (aY 1) (ag (af (bx aj)) aH) (ah aG))) (fun _ _ _=>(aZ (show List.Nodup [(Str.ofString "masks"),"bench"] from by decide+kernel) rfl (Or.inl rfl))) (fun _ _ _=>gq) (fun _ _ _=>(fZ jv hr (by decide) (aY 1) (ag (af (aa 0)) aH) (ah aG)))))))),hm,F.kp,F.binds fun _ _ _ _ _ _ us hl=>match us,hl with | [_],_=>rfl⟩
abbrev lC:Stmt:=top 35
noncomputable abbrev lT:List Str:=["places","size","found","ahead","place","rest"]
noncomputable def BP:{b:List Stmt // aK lC=b}:=⟨_,by conv=>lhs;whnf⟩
noncomputable def vp:{b:Scope // az lC=b}:=⟨_,by conv=>lhs;whnf⟩
theorem lW:aR lT ["places","size"] vp.1:=⟨rfl,rfl,rfl,by decide+kernel,rfl,by decide+kernel,by decide+kernel⟩
def nE(self:List D->R D):FS:=(DQ 2 (e2 sC (dP (ak (ai 4) aP)) (ai 5)))
def nQ(self:List D->R D):FS:=(xF (dy (aQ self (ak (KQ (ai 0) (sr (e2 sC (ai 3) (eC (.int 1)))) wu) (ak (e2 vy (ai 1) (eC (.int 1))) aP)))) (aO 5) (nE self))
def lQ(self:List D->R D):FS:=(gW (AE (b2 l4 (ai 1) (eC (.int 0))) (il (eNew (jI (ak (dP aP) aP)))) tf) (gW (Bo 2 (jI aP)) (gW (xF (k8 (ai 0)) (ic 2 (cj (aO 3) (cj (aO 4) ig))) (nQ self)) (Hx 2 (il (ai 2))))))
def eG:Nat->List D->R D
 | 0=>fun _=> .no
 | n+1=>sV lT (lQ (eG n))
theorem w6(T:Tp K mg cl)(h:Def K mg "choices" lC):∀n,Callee P w K mg base (1+n) "choices" 2 (eG n)
 | 0=>by
   obtain⟨f,fd,F,hm⟩:=h;exact⟨f,fd,["places","size"],OA,hm,F.kp,F.binds fun _ _ _ _ _ _ us hl=>match us,hl with | [_,_],_=>rfl⟩
 | n+1=>by
   have Nn:=w6 T h n;obtain⟨f,fd,F,hm⟩:=h;exact⟨f,fd,_,cQ (k:=1+n) BP.2 vp.2 F lW (fun dD A outer s H E hr=>(bH (i3 (cS (lh hr.units) (aa 1) ae (bY _)) (br (bZ (cT (du (ab (bx aj) aj))))) fK) (bH (zA lW.nd rfl (Or.inl rfl) (du aj)) (bH (nL PassesOwn.never rfl (qX (aa 0) rfl T.z_enumerate) (je rfl (cn (aS lW.nd rfl (Or.inl rfl)) (cn (aS lW.nd rfl (Or.inl rfl)) gg))) (br (nL PassesOwn.never rfl (cm (aX Nn hr (by omega) rfl (ab (yf (aa 0) (qR (aF xY (aa 3) ae)) qj) (ab (aF u6 (aa 1) ae) aj)) (aC (aC bw)))) (aS lW.nd rfl (Or.inl rfl)) (br (zu rfl (Or.inl rfl) (aF xY (bx (ab (aa 4) aj)) (aa 5))))))) (Ag 2 (br (bZ (aa 2)))))))),hm,F.kp,F.binds fun _ _ _ _ _ _ us hl=>match us,hl with | [_,_],_=>rfl⟩
abbrev b_:Stmt:=inClass (top 36) 0
noncomputable abbrev dZ:List Str:=["self","net"]
noncomputable def qi:{b:List Stmt // aK b_=b}:=⟨_,by conv=>lhs;whnf⟩
noncomputable def gY:{b:Scope // az b_=b}:=⟨_,by conv=>lhs;whnf⟩
theorem rK:aR dZ ["self","net"] gY.1:=⟨rfl,rfl,rfl,by decide+kernel,rfl,by decide+kernel,by decide+kernel⟩
def iq:FZ:=(bB (yp 1 "bench" (cK 0) (ui 0 bQ (ax (xP (ai 1)) bW))) (bB (yp 1 "plain" (cK 0) (kJ 0 "readings" bE (m_ 1 "bench" (cK 0)) (ax (xP (dP aP)) bW))) (yp 1 "unsure" (cK 0) (xP (eNew (cZ (k8 (e2 cy (ai 1) (eC (.int 1)))) (ic 2 (cj (aO 0) (cj (aO 1) ig))) (Bw (xV (e2 cy (ai 1) (eC (.int 2))))) (ai 0) ["place","gate"] []))))))
def cP:List V3->aN->R3 V3:=mV dZ iq
def Co:List V3->aN->R3 V3:=oF dZ iq
theorem d3(T:Tp K mg cl)(h:Ef K (cl 1) "__init__" "Trial.__init__" b_)(bR:sH P w K mg base cl 3 0 "Bench" 1 bQ)(bp:gH P w K mg base cl 5 0 "readings" 1 bE):sH P w K mg base cl 6 1 "Trial" 1 cP:=by
 obtain⟨f,fd,F,hm⟩:=h;exact⟨f,fd,_,hm,bF (k:=5) qi.2 gY.2 F rK (fun dD A outer s H E hr=>(au (pN T.C_Trial T.N_Trial_bench (aY 0) (qA bR hr (by decide) rfl (ag (af (aa 1)) aH) (ah aG))) (au (pN T.C_Trial T.N_Trial_plain (aY 0) (fZ bp hr (by decide) (fI T.C_Trial T.N_Trial_bench (aY 0)) (ag (af (bx aj)) aH) (ah aG))) (aM (pN T.C_Trial T.N_Trial_unsure (aY 0) (af (cT (cU rfl (bt.of (own:=["place","gate"]) (kp:=[]) (kn:=[]) (sc:=gY.1) (N:=dZ) rfl rfl (by decide+kernel)) (qX (aD (aa 1) ae (fun _ _=>rfl)) rfl T.z_enumerate) (fun _ _ _=>(je rfl (cn (aS (show List.Nodup [(Str.ofString "place"),"gate"] from by decide+kernel) rfl (Or.inl rfl)) (cn (aS (show List.Nodup [(Str.ofString "place"),"gate"] from by decide+kernel) rfl (Or.inl rfl)) gg)))) (fun _ _ _=>(vq (Du (t4 (aD (aa 1) ae (fun _ _=>rfl)))))) (fun _ _ _=>(aa 0)))))))))),T.M_Trial,F.binds fun _ _ _ _ _ _ us hl=>match us,hl with | [_,_],_=>rfl⟩
abbrev bN:Stmt:=inClass (top 36) 1
noncomputable abbrev eP:List Str:=["self","turned","level","mask","before","after"]
noncomputable def o4:{b:List Stmt // aK bN=b}:=⟨_,by conv=>lhs;whnf⟩
noncomputable def ko:{b:Scope // az bN=b}:=⟨_,by conv=>lhs;whnf⟩
theorem c6:aR eP ["self","turned","level"] ko.1:=⟨rfl,rfl,rfl,by decide+kernel,rfl,by decide+kernel,by decide+kernel⟩
def jz:FZ:=(yW (bP (b2 l4 (ai 2) (eC (.str "safe")))) (c0 3 (xP (e2 GD (e2 GD (ai 3) (e2 De (e2 cy (ai 4) (eC (.int 0))) (e2 cy (ai 5) (eC (.int 1))))) (e2 De (e2 cy (ai 4) (eC (.int 1))) (e2 cy (ai 5) (eC (.int 0))))))) (c0 3 (xP (e2 GD (e2 GD (ai 3) (e2 ED (e2 cy (ai 4) (eC (.int 0))) (e2 cy (ai 5) (eC (.int 0))))) (e2 ED (e2 cy (ai 4) (eC (.int 1))) (e2 cy (ai 5) (eC (.int 1))))))))
def gC:FZ:=(bB (c0 3 (xP (eC (.int 0)))) (bB (lL (Ml (m_ 1 "plain" (cK 0)) (kJ 0 "readings" bE (m_ 1 "bench" (cK 0)) (ax (xP (ai 1)) bW))) (Nf 2 (Cj (lJ 4) (Cj (lJ 5) NA))) jz) (eB (xP (ai 3)))))
def o9:List V3->aN->R3 V3:=mV eP gC
def cA:List V3->aN->R3 V3:=oF eP gC
theorem dG(T:Tp K mg cl)(h:pJ K (cl 1) "breaks_at" "Trial.breaks_at" bN)(bp:gH P w K mg base cl 5 0 "readings" 1 bE):gH P w K mg base cl 6 1 "breaks_at" 2 o9:=by
 obtain⟨f,fd,F,hm⟩:=h;exact⟨f,fd,_,T.C_Trial,hm,bF (k:=5) o4.2 ko.2 F c6 (fun dD A outer s H E hr=>(au (bA c6.nd rfl (Or.inl rfl) (af ae)) (au (fJ PassesOwn.never rfl (Jl (fI T.C_Trial T.N_Trial_plain (aY 0)) (fZ bp hr (by decide) (fI T.C_Trial T.N_Trial_bench (aY 0)) (ag (af (aa 1)) aH) (ah aG)) rfl T.z_zip) (qy rfl (dm (aZ c6.nd rfl (Or.inl rfl)) (dm (aZ c6.nd rfl (Or.inl rfl)) nH))) (aM (jY (gT (cS (lh hr.units) (aa 2) bf (bY _))) (aM (bA c6.nd rfl (Or.inl rfl) (af (aF xC (aF xC (aa 3) (aF xy (aD (aa 4) ae (fun _ _=>rfl)) (aD (aa 5) ae (fun _ _=>rfl)))) (aF xy (aD (aa 4) ae (fun _ _=>rfl)) (aD (aa 5) ae (fun _ _=>rfl))))))) (aM (bA c6.nd rfl (Or.inl rfl) (af (aF xC (aF xC (aa 3) (aF xu (aD (aa 4) ae (fun _ _=>rfl)) (aD (aa 5) ae (fun _ _=>rfl)))) (aF xu (aD (aa 4) ae (fun _ _=>rfl)) (aD (aa 5) ae (fun _ _=>rfl)))))))))) (aM (bS (af (aa 3))))))),F.binds fun _ _ _ _ _ _ us hl=>match us,hl with | [_,_,_],_=>rfl⟩
abbrev bO:Stmt:=inClass (top 31) 4
noncomputable abbrev dI:List Str:=["self","mask"]
noncomputable def pQ:{b:List Stmt // aK bO=b}:=⟨_,by conv=>lhs;whnf⟩
noncomputable def gf:{b:Scope // az bO=b}:=⟨_,by conv=>lhs;whnf⟩
theorem qb:aR dI ["self","mask"] gf.1:=⟨rfl,rfl,rfl,by decide+kernel,rfl,by decide+kernel,by decide+kernel⟩
def gM:FZ:=(eB (i9 (so (m_ 0 "many_inputs" (cK 0))) (lJ 0) (bP (b2 l4 (aQ fS (ak (ai 1) (ak (ai 0) aP))) (eC (.int 1)))) (xP (ai 0)) ["number"] [1]))
def pF:List V3->aN->R3 V3:=mV dI gM
def cx:List V3->aN->R3 V3:=oF dI gM
theorem dF(T:Tp K mg cl)(h:pJ K (cl 0) "inputs_in" "Bench.inputs_in" bO)(ky:Callee P w K mg base 1 "bit_at" 2 fS):gH P w K mg base cl 2 0 "inputs_in" 1 pF:=by
 obtain⟨f,fd,F,hm⟩:=h;exact⟨f,fd,_,T.C_Bench,hm,bF (k:=1) pQ.2 gf.2 F qb (fun dD A outer s H E hr=>(aM (bS (kN rfl (bt.of (own:=["number"]) (kp:=[1]) (kn:=["mask"]) (sc:=gf.1) (N:=dI) rfl rfl (by decide+kernel)) (l8 (fI T.C_Bench T.N_Bench_many_inputs (aY 0)) rfl T.z_range) (fun _ _ _=>(aZ (show List.Nodup [(Str.ofString "number"),"mask"] from by decide+kernel) rfl (Or.inl rfl))) (fun _ _ _=>(zL (gT (cS (lh hr.units) (aX ky hr (by decide) rfl (ab (aa 1) (ab (aa 0) aj)) (aC (aC bw))) ae (bY _))))) (fun _ _ _=>(af (aa 0))))))),F.binds fun _ _ _ _ _ _ us hl=>match us,hl with | [_,_],_=>rfl⟩
abbrev qK:Stmt:=top 37
noncomputable abbrev tW:List Str:=["net","many","level","trial","size","turned","mask"]
noncomputable def HK:{b:List Stmt // aK qK=b}:=⟨_,by conv=>lhs;whnf⟩
noncomputable def Av:{b:Scope // az qK=b}:=⟨_,by conv=>lhs;whnf⟩
theorem qv:aR tW ["net","many","level"] Av.1:=⟨rfl,rfl,rfl,by decide+kernel,rfl,by decide+kernel,by decide+kernel⟩
def q_:FZ:=(bB (c0 6 (kJ 1 "breaks_at" cA (cK 3) (ax (xP (ai 5)) (ax (xP (ai 2)) bW)))) (yW (bP (b2 CU (ai 6) (eC (.int 0)))) (eB (BS (ax (xP (eC (.str "breaks"))) (ax (xP (ai 5)) (ax (Qb (kJ 0 "inputs_in" cx (m_ 1 "bench" (cK 3)) (ax (xP (ai 6)) bW)) (xP (eC (.int 0)))) bW))))) oJ))
def wz:FZ:=(lL (u0 (mm (eG 4) (ax (m_ 1 "unsure" (cK 3)) (ax (xP (ai 4)) bW)))) (lJ 5) q_)
def x3:FZ:=(bB (c0 3 (ui 1 cP (ax (xP (ai 0)) bW))) (bB (lL (iP (dU (e2 gS (ai 1) (eC (.int 1))))) (lJ 4) wz) (eB (xP (dP (ak (eC (.str "bears")) aP))))))
def Fm:List V3->aN->R3 V3:=mV tW x3
def eY:List V3->aN->R3 V3:=oF tW x3
theorem JH(T:Tp K mg cl)(h:Def K mg "bears" qK)(rW:Callee P w K mg base 5 "choices" 2 (eG 4))(c_:sH P w K mg base cl 6 1 "Trial" 1 cP)(cB:gH P w K mg base cl 6 1 "breaks_at" 2 cA)(cC:gH P w K mg base cl 2 0 "inputs_in" 1 cx):aW P w K mg base cl 8 "bears" 3 Fm:=by
 obtain⟨f,fd,F,hm⟩:=h;exact⟨f,fd,_,bF (k:=7) HK.2 Av.2 F qv (fun dD A outer s H E hr=>(au (bA qv.nd rfl (Or.inl rfl) (qA c_ hr (by decide) rfl (ag (af (aa 0)) aH) (ah aG))) (au (fJ PassesOwn.never rfl (dX (cF (aF i_ (aa 1) ae) rfl T.z_range)) (aZ qv.nd rfl (Or.inl rfl)) (aM (fJ PassesOwn.never rfl (kE (zG rW hr (by decide) rfl (ag (fI T.C_Trial T.N_Trial_unsure (aY 3)) (ag (af (aa 4)) aH)) (ah (ah aG)))) (aZ qv.nd rfl (Or.inl rfl)) (au (bA qv.nd rfl (Or.inl rfl) (fZ cB hr (by decide) (aY 3) (ag (af (aa 5)) (ag (af (aa 2)) aH)) (ah (ah aG)))) (aM (jY (gT (cS (vQ hr.units) (aa 6) ae (bY _))) (aM (bS (uv (ag (af bf) (ag (af (aa 5)) (ag (K8 (fZ cC hr (by decide) (fI T.C_Trial T.N_Trial_bench (aY 3)) (ag (af (aa 6)) aH) (ah aG)) (af ae) (fun _ _=>rfl)) aH)))))) ft)))))) (aM (bS (af (bx (ab bf aj)))))))),hm,F.kp,F.binds fun _ _ _ _ _ _ us hl=>match us,hl with | [_,_,_],_=>rfl⟩
abbrev lE:Stmt:=top 38
noncomputable abbrev oz:List Str:=["net","trial","found","place","wrong","none"]
noncomputable def BY:{b:List Stmt // aK lE=b}:=⟨_,by conv=>lhs;whnf⟩
noncomputable def vt:{b:Scope // az lE=b}:=⟨_,by conv=>lhs;whnf⟩
theorem jO:aR oz ["net"] vt.1:=⟨rfl,rfl,rfl,by decide+kernel,rfl,by decide+kernel,by decide+kernel⟩
def sN:FZ:=(bB (c0 4 (kJ 1 "breaks_at" cA (cK 1) (ax (xP (dP (ak (ai 3) aP))) (ax (xP (eC (.str "safe"))) bW)))) (bB (c0 5 (x2 ED (kJ 1 "breaks_at" cA (cK 1) (ax (xP (dP (ak (ai 3) aP))) (ax (xP (eC (.str "right"))) bW))) (xP (ai 4)))) (pK 2 (BS (ax (xP (ai 3)) (ax (mm eW (ax (kJ 0 "inputs_in" cx (m_ 1 "bench" (cK 1)) (ax (xP (ai 4)) bW)) bW)) (ax (mm eW (ax (kJ 0 "inputs_in" cx (m_ 1 "bench" (cK 1)) (ax (xP (ai 5)) bW)) bW)) bW)))))))
def rm:FZ:=(bB (c0 1 (ui 1 cP (ax (xP (ai 0)) bW))) (bB (c0 2 (oI (jI aP))) (bB (lL (u0 (m_ 1 "unsure" (cK 1))) (lJ 3) sN) (eB (cK 2)))))
def pq:List V3->aN->R3 V3:=mV oz rm
def mE:List V3->aN->R3 V3:=oF oz rm
theorem D6(T:Tp K mg cl)(h:Def K mg "matters" lE)(c_:sH P w K mg base cl 6 1 "Trial" 1 cP)(cB:gH P w K mg base cl 6 1 "breaks_at" 2 cA)(cC:gH P w K mg base cl 2 0 "inputs_in" 1 cx):aW P w K mg base cl 8 "matters" 1 pq:=by
 obtain⟨f,fd,F,hm⟩:=h;exact⟨f,fd,_,bF (k:=7) BY.2 vt.2 F jO (fun dD A outer s H E hr=>(au (bA jO.nd rfl (Or.inl rfl) (qA c_ hr (by decide) rfl (ag (af (aa 0)) aH) (ah aG))) (au (bA jO.nd rfl (Or.inl rfl) (j7 (du aj))) (au (fJ PassesOwn.never rfl (kE (fI T.C_Trial T.N_Trial_unsure (aY 1))) (aZ jO.nd rfl (Or.inl rfl)) (au (bA jO.nd rfl (Or.inl rfl) (fZ cB hr (by decide) (aY 1) (ag (af (bx (ab (aa 3) aj))) (ag (af bf) aH)) (ah (ah aG)))) (au (bA jO.nd rfl (Or.inl rfl) (zc xu (fZ cB hr (by decide) (aY 1) (ag (af (bx (ab (aa 3) aj))) (ag (af bf) aH)) (ah (ah aG))) (af (aa 4)))) (aM (kZ rfl (Or.inl rfl) (uv (ag (af (aa 3)) (ag (vf eE rfl T.z_len PySem.boot_len (ag (fZ cC hr (by decide) (fI T.C_Trial T.N_Trial_bench (aY 1)) (ag (af (aa 4)) aH) (ah aG)) aH)) (ag (vf eE rfl T.z_len PySem.boot_len (ag (fZ cC hr (by decide) (fI T.C_Trial T.N_Trial_bench (aY 1)) (ag (af (aa 5)) aH) (ah aG)) aH)) aH))))))))) (aM (bS (aY 2))))))),hm,F.kp,F.binds fun _ _ _ _ _ _ us hl=>match us,hl with | [_],_=>rfl⟩
abbrev kg:Stmt:=top 40
noncomputable abbrev mr:List Str:=["pot","many","cell","stir"]
noncomputable def zr:{b:List Stmt // aK kg=b}:=⟨_,by conv=>lhs;whnf⟩
noncomputable def sE:{b:Scope // az kg=b}:=⟨_,by conv=>lhs;whnf⟩
theorem mH:aR mr ["pot","many"] sE.1:=⟨rfl,rfl,rfl,by decide+kernel,rfl,by decide+kernel,by decide+kernel⟩
def pB:FZ:=(bB (Ka (cK 0) (xP (eC (.int 1))) (xT (e2 gS (e2 cy (ai 0) (eC (.int 1))) (eC (.int 1))))) (bB (c0 2 (xT (e2 cy (ai 0) (eC (.int 0))))) (bB (yW (bP (b2 To (ai 2) (e2 OE (eC (.int 10)) (eC (.int 18))))) (bB (Ka (cK 0) (xP (eC (.int 0))) (xP (e2 zP (ai 2) (ai 1)))) (eB (xP (e2 qr (ai 2) (ai 1))))) oJ) (bB (c0 3 (xT (e2 qr (e2 gS (e2 gS (e2 fB (ai 2) (eC (.int 69621))) (e2 fB (e2 cy (ai 0) (eC (.int 1))) (eC (.int 7919)))) (eC (.int 13))) (eC (.int 2147483647))))) (bB (c0 3 (xP (e2 qr (e2 fB (ai 3) (ai 3)) (eC (.int 2147483629))))) (eB (xT (e2 qr (e2 zP (e2 qr (e2 gS (e2 fB (ai 3) (eC (.int 48271))) (e2 fB (e2 cy (ai 0) (eC (.int 1))) (eC (.int 40692)))) (eC (.int 2147483587))) (eC (.int 8))) (ai 1)))))))))
def Af:List V3->aN->R3 V3:=mV mr pB
def cu:List V3->aN->R3 V3:=oF mr pB
theorem AU(T:Tp K mg cl)(h:Def K mg "_law_next" kg):aW P w K mg base cl 1 "_law_next" 2 Af:=by
 obtain⟨f,fd,F,hm⟩:=h;exact⟨f,fd,_,bF (k:=0) zr.2 sE.2 F mH (fun dD A outer s H E hr=>(au (FI (iW (aF i_ (aD (aa 0) ae (fun _ _=>rfl)) ae)) (EZ (PX.go (aY 0)) (PX.go (af ae)) set_list)) (au (bA mH.nd rfl (Or.inl rfl) (iW (aD (aa 0) ae (fun _ _=>rfl)))) (au (jY (gT (cS Rc (aa 2) (aF Oq ae ae) (bY _))) (au (FI (af (aF Gm (aa 2) (aa 1))) (EZ (PX.go (aY 0)) (PX.go (af ae)) set_list)) (aM (bS (af (aF sJ (aa 2) (aa 1)))))) ft) (au (bA mH.nd rfl (Or.inl rfl) (iW (aF sJ (aF i_ (aF i_ (aF fT (aa 2) ae) (aF fT (aD (aa 0) ae (fun _ _=>rfl)) ae)) ae) ae))) (au (bA mH.nd rfl (Or.inl rfl) (af (aF sJ (aF fT (aa 3) (aa 3)) ae))) (aM (bS (iW (aF sJ (aF Gm (aF sJ (aF i_ (aF fT (aa 3) ae) (aF fT (aD (aa 0) ae (fun _ _=>rfl)) ae)) ae) ae) (aa 1))))))))))),hm,F.kp,F.binds fun _ _ _ _ _ _ us hl=>match us,hl with | [_,_],_=>rfl⟩
abbrev j0:Stmt:=top 41
noncomputable abbrev j2:List Str:=["script"]
noncomputable def Ab:{b:List Stmt // aK j0=b}:=⟨_,by conv=>lhs;whnf⟩
noncomputable def nC:{b:Scope // az j0=b}:=⟨_,by conv=>lhs;whnf⟩
theorem AX:aR j2 ["script"] nC.1:=⟨rfl,rfl,rfl,by decide+kernel,rfl,by decide+kernel,by decide+kernel⟩
def pf:FZ:=(bB (yW (bP (b2 l4 (aQ eW (ak (ai 0) aP)) (eC (.int 0)))) (eB (M6 (ax (oI (jI (ak (eC (.int 0)) (ak (eC (.int 0)) aP)))) bW))) oJ) (eB (i9 (iP (dy (KQ (ai 0) wu (sr (eC (.int 63)))))) (lJ 0) sW (oI (jI (ak (ai 0) (ak (eC (.int 0)) aP)))) ["cell"] [])))
def kR:List V3->aN->R3 V3:=mV j2 pf
def KP:List V3->aN->R3 V3:=oF j2 pf
theorem By(T:Tp K mg cl)(h:Def K mg "_law_pots" j0):aW P w K mg base cl 1 "_law_pots" 1 kR:=by
 obtain⟨f,fd,F,hm⟩:=h;exact⟨f,fd,_,bF (k:=0) Ab.2 nC.2 F AX (fun dD A outer s H E hr=>(au (jY (gT (cS (lh hr.units) (a_ eE rfl T.z_len PySem.boot_len (ab (aa 0) aj)) ae (bY _))) (aM (bS (Mj (ag (j7 (du (ab ae (ab ae aj)))) aH)))) ft) (aM (bS (kN rfl (bt.of (own:=["cell"]) (kp:=[]) (kn:=[]) (sc:=nC.1) (N:=j2) rfl rfl (by decide+kernel)) (dX (cm (yf (aa 0) qj (qR ae)))) (fun _ _ _=>(aZ (show List.Nodup [(Str.ofString "cell")] from by decide+kernel) rfl (Or.inl rfl))) (fun _ _ _=>gq) (fun _ _ _=>(j7 (du (ab (aa 0) (ab ae aj)))))))))),hm,F.kp,F.binds fun _ _ _ _ _ _ us hl=>match us,hl with | [_],_=>rfl⟩
abbrev jf:Stmt:=top 42
noncomputable abbrev gp:List Str:=["pot","most","gates","names","turn","ins","heard","k","many","kind","count","wires","outs","wire"]
noncomputable def yi:{b:List Stmt // aK jf=b}:=⟨_,by conv=>lhs;whnf⟩
noncomputable def jD:{b:Scope // az jf=b}:=⟨_,by conv=>lhs;whnf⟩
theorem cv:aR gp ["pot","most","gates"] jD.1:=⟨rfl,rfl,rfl,by decide+kernel,rfl,by decide+kernel,by decide+kernel⟩
def k3:FZ:=(bB (c0 8 (xP (e2 gS (aQ eW (ak (ai 5) aP)) (ai 7)))) (bB (c0 9 (Qb (xP (eNew (jI (ak (eC (.str "not")) (ak (eC (.str "and")) (ak (eC (.str "or")) (ak (eC (.str "xor")) (ak (eC (.str "vote")) (ak (eC (.str "and")) (ak (eC (.str "or")) (ak (eC (.str "xor")) aP))))))))))) (cE cu (ax (cK 0) (ax (xP (eC (.int 8))) bW))))) (bB (c0 10 (xP (MG [((Sum.inr "not":Key),V.int 1),((Sum.inr "vote":Key),V.int 3)] (ai 9) (eC (.int 2))))) (bB (c0 11 (i9 (iP (dU (ai 10))) (lJ 0) sW (x2 vy (xP (e2 vy (ai 2) (eC (.int 1)))) (cE cu (ax (cK 1) (ax (xP (e2 cy (eNew (jI (ak (ai 2) (ak (aQ wm (ak (ai 2) (ak (eC (.int 4)) aP))) aP)))) (e2 qr (ai 0) (eC (.int 2))))) bW)))) ["j"] [0,8])) (pK 6 (BS (ax (xP (ai 9)) (ax (xP (aQ ng (ak (ai 11) aP))) (ax (x2 l4 (cE cu (ax (cK 0) (ax (xP (eC (.int 6))) bW))) (xP (eC (.int 0)))) bW)))))))))
def kU:FZ:=(bB (c0 8 (xT (e2 gS (aQ eW (ak (ai 5) aP)) (aQ eW (ak (ai 6) aP))))) (bB (c0 13 (x2 vy (xP (e2 vy (ai 8) (eC (.int 1)))) (cE cu (ax (cK 0) (ax (xP (e2 cy (eNew (jI (ak (ai 8) (ak (aQ wm (ak (ai 8) (ak (eC (.int 4)) aP))) aP)))) (e2 qr (ai 7) (eC (.int 2))))) bW))))) (pK 12 (xP (dP (ak (e2 cy (eNew (jI (ak (eC (.str "p")) (ak (eC (.str "ou")) (ak (eC (.str "result")) (ak (eC (.str "q")) (ak (eC (.str "abcdefgh")) (ak (eC (.str "z")) aP)))))))) (ai 7)) (ak (dP (ak (ai 13) aP)) aP)))))))
def nT:FZ:=(bB (c0 3 (xP (eNew (jI (ak (eC (.str "a")) (ak (eC (.str "bb")) (ak (eC (.str "signal")) (ak (eC (.str "x")) (ak (eC (.str "yes")) (ak (eC (.str "abcdefgh")) aP)))))))))) (bB (c0 4 (cE cu (ax (cK 0) (ax (xP (eC (.int 6))) bW)))) (bB (c0 5 (i9 (so (x2 gS (xP (eC (.int 1))) (cE cu (ax (cK 0) (ax (xP (ai 1)) bW))))) (lJ 0) sW (xP (dP (ak (e2 cy (ai 1) (e2 qr (e2 gS (ai 2) (ai 0)) (eC (.int 6)))) (ak (eC (.int 1)) aP)))) ["k"] [3,4])) (bB (c0 6 (oI (jI aP))) (bB (lL (iP (dU (ai 2))) (lJ 7) k3) (bB (c0 12 (oI (jI aP))) (bB (lL (so (x2 gS (xP (eC (.int 1))) (cE cu (ax (cK 0) (ax (xP (eC (.int 6))) bW))))) (lJ 7) kU) (eB (BS (ax (cK 5) (ax (cK 6) (ax (cK 12) bW))))))))))))
def xX:List V3->aN->R3 V3:=mV gp nT
def jK:List V3->aN->R3 V3:=oF gp nT
theorem An(T:Tp K mg cl)(h:Def K mg "_law_plain" jf)(cR:aW P w K mg base cl 1 "_law_next" 2 cu):aW P w K mg base cl 2 "_law_plain" 3 xX:=by
 obtain⟨f,fd,F,hm⟩:=h;exact⟨f,fd,_,bF (k:=1) yi.2 jD.2 F cv (fun dD A outer s H E hr=>(au (bA cv.nd rfl (Or.inr rfl) (af (cT (du (ab bf (ab bf (ab bf (ab bf (ab bf (ab bf aj)))))))))) (au (bA cv.nd rfl (Or.inr rfl) (bu cR hr (by decide) rfl (ag (aY 0) (ag (af ae) aH)) (ah (ah aG)))) (au (uk rfl cv.nd rfl rfl (bt.of (own:=["k"]) (kp:=[3,4]) (kn:=["names","turn"]) (sc:=jD.1) (N:=gp) rfl rfl (by decide+kernel)) (l8 (zc i_ (af ae) (bu cR hr (by decide) rfl (ag (aY 0) (ag (af (aa 1)) aH)) (ah (ah aG)))) rfl T.z_range) (fun _ _ _=>(aZ (show List.Nodup [(Str.ofString "k"),"names","turn"] from by decide+kernel) rfl (Or.inl rfl))) (fun _ _ _=>gq) (fun _ _ _=>(af (bx (ab (aD (aa 1) (aF sJ (aF i_ (aa 2) (aa 0)) ae) (fun _ _=>rfl)) (ab ae aj)))))) (au (bA cv.nd rfl (Or.inl rfl) (j7 (du aj))) (au (fJ PassesOwn.never rfl (dX (cF (aa 2) rfl T.z_range)) (aZ cv.nd rfl (Or.inl rfl)) (au (bA cv.nd rfl (Or.inr rfl) (af (aF i_ (a_ eE rfl T.z_len PySem.boot_len (ab (aa 5) aj)) (aa 7)))) (au (bA cv.nd rfl (Or.inl rfl) (K8 (af (cT (du (ab bf (ab bf (ab bf (ab bf (ab bf (ab bf (ab bf (ab bf aj))))))))))) (bu cR hr (by decide) rfl (ag (aY 0) (ag (af ae) aH)) (ah (ah aG))) (fun _ _=>rfl))) (au (bA cv.nd rfl (Or.inl rfl) (af (JC (Pk hr) (p7 uW uB (p7 uW uB C_)) rfl rfl (by simp) (fun _ _ _ h=>h) (by decide) (aa 9) ae ⟨rfl,rfl,rfl,rfl⟩ (Ke (p7 uW uB (p7 uW uB C_)) rfl rfl (by simp) (by decide))))) (au (uk rfl cv.nd rfl rfl (bt.of (own:=["j"]) (kp:=[0,8]) (kn:=["pot","many"]) (sc:=jD.1) (N:=gp) rfl rfl (by decide+kernel)) (dX (cF (aa 10) rfl T.z_range)) (fun _ _ _=>(aZ (show List.Nodup [(Str.ofString "j"),"pot","many"] from by decide+kernel) rfl (Or.inl rfl))) (fun _ _ _=>gq) (fun _ _ _=>(zc u6 (af (aF u6 (aa 2) ae)) (bu cR hr (by decide) rfl (ag (aY 1) (ag (af (aD (cT (du (ab (aa 2) (ab (a_ (HM rfl) rfl T.z_min PyProof.Rows.boot_min (ab (aa 2) (ab ae aj))) aj)))) (aF sJ (aa 0) ae) (fun _ _=>rfl))) aH)) (ah (ah aG)))))) (aM (kZ rfl (Or.inl rfl) (uv (ag (af (aa 9)) (ag (af (km qk rfl T.z_tuple PyProof.Rows.boot_tuple (ab (aa 11) aj))) (ag (yk (lh hr.units) (bu cR hr (by decide) rfl (ag (aY 0) (ag (af ae) aH)) (ah (ah aG))) (af ae) (bY _)) aH))))))))))) (au (bA cv.nd rfl (Or.inl rfl) (j7 (du aj))) (au (fJ PassesOwn.never rfl (l8 (zc i_ (af ae) (bu cR hr (by decide) rfl (ag (aY 0) (ag (af ae) aH)) (ah (ah aG)))) rfl T.z_range) (aZ cv.nd rfl (Or.inl rfl)) (au (bA cv.nd rfl (Or.inr rfl) (iW (aF i_ (a_ eE rfl T.z_len PySem.boot_len (ab (aa 5) aj)) (a_ eE rfl T.z_len PySem.boot_len (ab (aa 6) aj))))) (au (bA cv.nd rfl (Or.inl rfl) (zc u6 (af (aF u6 (aa 8) ae)) (bu cR hr (by decide) rfl (ag (aY 0) (ag (af (aD (cT (du (ab (aa 8) (ab (a_ (HM rfl) rfl T.z_min PyProof.Rows.boot_min (ab (aa 8) (ab ae aj))) aj)))) (aF sJ (aa 7) ae) (fun _ _=>rfl))) aH)) (ah (ah aG))))) (aM (kZ rfl (Or.inl rfl) (af (bx (ab (aD (cT (du (ab bf (ab bf (ab bf (ab bf (ab bf (ab bf aj)))))))) (aa 7) (fun _ _=>rfl)) (ab (bx (ab (aa 13) aj)) aj))))))))) (aM (bS (uv (ag (aY 5) (ag (aY 6) (ag (aY 12) aH)))))))))))))),hm,F.kp,F.binds fun _ _ _ _ _ _ us hl=>match us,hl with | [_,_,_],_=>rfl⟩
abbrev kh:Stmt:=top 43
noncomputable abbrev e8:List Str:=["net","made","many","number","bits","plain","wire"]
noncomputable def z7:{b:List Stmt // aK kh=b}:=⟨_,by conv=>lhs;whnf⟩
noncomputable def gm:{b:Scope // az kh=b}:=⟨_,by conv=>lhs;whnf⟩
theorem jV:aR e8 ["net","made","many"] gm.1:=⟨rfl,rfl,rfl,by decide+kernel,rfl,by decide+kernel,by decide+kernel⟩
def jE:FZ:=(yW (Iq CU (i9 (u0 (cE qV (ax (xP (ai 1)) (ax (xP (ai 4)) (ax (xP (dP aP)) (ax (xP (dP (ak (ai 6) aP))) bW)))))) (lJ 0) sW (xP (aQ uX (ak (ai 0) aP))) ["one"] []) (xP (eNew (cZ (dy (ai 5)) (aO 0) fw (e2 cy (ai 0) (eC (.int 0))) ["one"] [])))) (eB (xP (eC (.bl false)))) oJ)
def ml:FZ:=(bB (c0 4 (xP (aQ ng (ak (eNew (cZ (dU (aQ eW (ak (e2 cy (ai 0) (eC (.int 0))) aP))) (aO 0) fw (e2 De (e2 A8 (ai 2) (e2 vy (e2 vy (aQ eW (ak (e2 cy (ai 1) (eC (.int 0))) aP)) (eC (.int 1))) (ai 0))) (eC (.int 1))) ["k"] [0,3])) aP)))) (bB (c0 5 (cE qV (ax (xP (ai 0)) (ax (xP (ai 4)) (ax (xP (dP aP)) (ax (xP (dP aP)) bW)))))) (bB (yW (Iq CU (cE qV (ax (xP (ai 1)) (ax (xP (ai 4)) (ax (xP (dP aP)) (ax (xP (dP aP)) bW))))) (xP (eNew (cZ (dy (ai 5)) (aO 0) fw (e2 sx (ai 0) (ai 1)) ["one"] [2])))) (eB (xP (eC (.bl false)))) oJ) (yW (bP (b2 l4 (ai 2) (eC (.int 3)))) (lL (iP (dU (e2 sx (eC (.int 3)) (aQ eW (ak (e2 cy (ai 0) (eC (.int 0))) aP))))) (lJ 6) jE) oJ))))
def pe:FZ:=(bB (yW (NC (Iq FJ (cE kQ (ax (xP (ai 1)) bW)) (xP (eC (.bl true)))) (Iq CU (cE j4 (ax (xP (ai 1)) bW)) (cE j4 (ax (xP (ai 0)) bW)))) (eB (xP (eC (.bl false)))) oJ) (bB (lL (iP (dU (e2 Je (eC (.int 1)) (aQ eW (ak (e2 cy (ai 0) (eC (.int 0))) aP))))) (lJ 3) ml) (eB (xP (eC (.bl true))))))
def zW:List V3->aN->R3 V3:=mV e8 pe
def dH:List V3->aN->R3 V3:=oF e8 pe
theorem A6(T:Tp K mg cl)(h:Def K mg "_law_good" kh)(Ca:Callee P w K mg base 3 "told" 1 uX)(ox:aW P w K mg base cl 6 "is_sound" 1 kQ)(mQ:aW P w K mg base cl 6 "columns" 1 j4)(vF:aW P w K mg base cl 4 "run" 4 qV):aW P w K mg base cl 7 "_law_good" 3 zW:=by
 obtain⟨f,fd,F,hm⟩:=h;exact⟨f,fd,_,bF (k:=6) z7.2 gm.2 F jV (fun dD A outer s H E hr=>(au (jY (KU.pb (yA (kP LL (bu ox hr (by decide) rfl (ag (af (aa 1)) aH) (ah aG)) (af gd) (bY _)) (ye (kP (vQ hr.units) (bu mQ hr (by decide) rfl (ag (af (aa 1)) aH) (ah aG)) (bu mQ hr (by decide) rfl (ag (af (aa 0)) aH) (ah aG)) (bY _))))) (aM (bS (af gd))) ft) (au (fJ PassesOwn.never rfl (dX (cF (aF Oz ae (a_ eE rfl T.z_len PySem.boot_len (ab (aD (aa 0) ae (fun _ _=>rfl)) aj))) rfl T.z_range)) (aZ jV.nd rfl (Or.inr rfl)) (au (bA jV.nd rfl (Or.inl rfl) (af (km qk rfl T.z_tuple PyProof.Rows.boot_tuple (ab (cT (cU rfl (bt.of (own:=["k"]) (kp:=[0,3]) (kn:=["net","number"]) (sc:=gm.1) (N:=e8) rfl rfl (by decide+kernel)) (cF (a_ eE rfl T.z_len PySem.boot_len (ab (aD (aa 0) ae (fun _ _=>rfl)) aj)) rfl T.z_range) (fun _ _ _=>(aS (show List.Nodup [(Str.ofString "k"),"net","number"] from by decide+kernel) rfl (Or.inl rfl))) (fun _ _ _=>cb) (fun _ _ _=>(aF xy (aF K_ (aa 2) (aF u6 (aF u6 (a_ eE rfl T.z_len PySem.boot_len (ab (aD (aa 1) ae (fun _ _=>rfl)) aj)) ae) (aa 0))) ae)))) aj)))) (au (bA jV.nd rfl (Or.inl rfl) (bu vF hr (by decide) rfl (ag (af (aa 0)) (ag (af (aa 4)) (ag (af (bx aj)) (ag (af (bx aj)) aH)))) (ah (ah (ah (ah aG)))))) (au (jY (kP (vQ hr.units) (bu vF hr (by decide) rfl (ag (af (aa 1)) (ag (af (aa 4)) (ag (af (bx aj)) (ag (af (bx aj)) aH)))) (ah (ah (ah (ah aG))))) (af (cT (cU rfl (bt.of (own:=["one"]) (kp:=[2]) (kn:=["many"]) (sc:=gm.1) (N:=e8) rfl rfl (by decide+kernel)) (cm (aa 5)) (fun _ _ _=>(aS (show List.Nodup [(Str.ofString "one"),"many"] from by decide+kernel) rfl (Or.inl rfl))) (fun _ _ _=>cb) (fun _ _ _=>(aF F4 (aa 0) (aa 1)))))) (bY _)) (aM (bS (af gd))) ft) (aM (jY (gT (cS (lh hr.units) (aa 2) ae (bY _))) (aM (fJ PassesOwn.never rfl (dX (cF (aF F4 ae (a_ eE rfl T.z_len PySem.boot_len (ab (aD (aa 0) ae (fun _ _=>rfl)) aj))) rfl T.z_range)) (aZ jV.nd rfl (Or.inl rfl)) (aM (jY (kP (vQ hr.units) (kN rfl (bt.of (own:=["one"]) (kp:=[]) (kn:=[]) (sc:=gm.1) (N:=e8) rfl rfl (by decide+kernel)) (kE (bu vF hr (by decide) rfl (ag (af (aa 1)) (ag (af (aa 4)) (ag (af (bx aj)) (ag (af (bx (ab (aa 6) aj))) aH)))) (ah (ah (ah (ah aG)))))) (fun _ _ _=>(aZ (show List.Nodup [(Str.ofString "one")] from by decide+kernel) rfl (Or.inl rfl))) (fun _ _ _=>gq) (fun _ _ _=>(af (aX Ca hr (by decide) rfl (ab (aa 0) aj) (aC bw))))) (af (cT (cU rfl (bt.of (own:=["one"]) (kp:=[]) (kn:=[]) (sc:=gm.1) (N:=e8) rfl rfl (by decide+kernel)) (cm (aa 5)) (fun _ _ _=>(aS (show List.Nodup [(Str.ofString "one")] from by decide+kernel) rfl (Or.inl rfl))) (fun _ _ _=>cb) (fun _ _ _=>(aD (aa 0) ae (fun _ _=>rfl)))))) (bY _)) (aM (bS (af gd))) ft)))) ft)))))) (aM (bS (af gd)))))),hm,F.kp,F.binds fun _ _ _ _ _ _ us hl=>match us,hl with | [_,_,_],_=>rfl⟩
abbrev j6:Stmt:=top 44
noncomputable abbrev j3:List Str:=["pot","net","threes","pairs","votes","quiet","many","vote","sure","deep"]
noncomputable def zR:{b:List Stmt // aK j6=b}:=⟨_,by conv=>lhs;whnf⟩
noncomputable def nj:{b:Scope // az j6=b}:=⟨_,by conv=>lhs;whnf⟩
theorem dr:aR j3 ["pot"] nj.1:=⟨rfl,rfl,rfl,by decide+kernel,rfl,by decide+kernel,by decide+kernel⟩
def pA:FZ:=(bB (c0 1 (cE jK (ax (cK 0) (ax (xP (eC (.int 3))) (ax (cE cu (ax (cK 0) (ax (xP (eC (.int 6))) bW))) bW))))) (bB (c0 1 (xP (dP (ak (e2 cy (ai 1) (eC (.int 0))) (ak (e2 cy (ai 1) (eC (.int 1))) (ak (KQ (e2 cy (ai 1) (eC (.int 2))) wu (sr (eC (.int 3)))) aP)))))) (bB (c0 2 (cE jH (ax (xP (ai 1)) bW))) (bB (c0 3 (cE kM (ax (xP (ai 1)) bW))) (bB (c0 4 (cE iZ (ax (xP (ai 1)) bW))) (bB (yW (NC (EA (A5 (cE dH (ax (xP (ai 1)) (ax (xP (ai 2)) (ax (xP (eC (.int 3))) bW)))))) (NC (EA (A5 (cE dH (ax (xP (ai 1)) (ax (xP (ai 3)) (ax (xP (eC (.int 2))) bW)))))) (EA (A5 (cE dH (ax (xP (ai 1)) (ax (xP (ai 4)) (ax (xP (eC (.int 3))) bW)))))))) (eB (xP (eC (.bl false)))) oJ) (bB (yW (NC (Iq CU (cE eY (ax (xP (ai 2)) (ax (xP (eC (.int 1))) (ax (xP (eC (.str "right"))) bW)))) (xP (dP (ak (eC (.str "bears")) aP)))) (Iq CU (cE eY (ax (xP (ai 4)) (ax (xP (eC (.int 1))) (ax (xP (eC (.str "right"))) bW)))) (xP (dP (ak (eC (.str "bears")) aP))))) (eB (xP (eC (.bl false)))) oJ) (bB (yW (Iq CU (cE eY (ax (xP (ai 3)) (ax (xP (eC (.int 1))) (ax (xP (eC (.str "safe"))) bW)))) (xP (dP (ak (eC (.str "bears")) aP)))) (eB (xP (eC (.bl false)))) oJ) (bB (c0 5 (x2 l4 (i9 (u0 (cE mE (ax (xP (ai 1)) bW))) (Nf 3 (Cj (lJ 0) (Cj (lJ 1) (Cj (lJ 2) NA)))) (bP (b2 Qz (ai 1) (eC (.int 0)))) (xP (ai 0)) ["place","wrong","none"] []) (xP (eNew (jI aP))))) (bB (yW (Iq CU (x2 l4 (cE eY (ax (xP (ai 3)) (ax (xP (eC (.int 1))) (ax (xP (eC (.str "right"))) bW)))) (xP (dP (ak (eC (.str "bears")) aP)))) (xP (ai 5))) (eB (xP (eC (.bl false)))) oJ) (bB (LZ (xP (aQ mw (ak (ai 1) aP))) (Nf 4 (Cj (lJ 6) (Cj (lJ 7) (Cj (lJ 8) (Cj (lJ 9) NA)))))) (bB (yW (bP (P7 (b2 CU (aQ mw (ak (ai 2) aP)) (dP (ak (e2 fB (eC (.int 3)) (ai 6)) (ak (e2 fB (eC (.int 3)) (ai 7)) (ak (e2 fB (eC (.int 3)) (ai 8)) (ak (ai 9) aP)))))) (b2 CU (aQ mw (ak (ai 3) aP)) (dP (ak (e2 fB (eC (.int 2)) (ai 6)) (ak (e2 fB (eC (.int 2)) (ai 7)) (ak (e2 fB (eC (.int 2)) (ai 8)) (ak (ai 9) aP)))))))) (eB (xP (eC (.bl false)))) oJ) (eB (xP (e2 l4 (aQ mw (ak (ai 4) aP)) (dP (ak (e2 fB (eC (.int 6)) (ai 6)) (ak (e2 gS (e2 fB (eC (.int 3)) (ai 7)) (e2 fB (eC (.int 3)) (ai 6))) (ak (e2 fB (eC (.int 6)) (ai 8)) (ak (e2 fB (eC (.int 2)) (ai 9)) aP))))))))))))))))))))
def z9:List V3->aN->R3 V3:=mV j3 pA
def ny:List V3->aN->R3 V3:=oF j3 pA
theorem Bl(T:Tp K mg cl)(h:Def K mg "_law_case" j6)(sd:Callee P w K mg base 3 "size" 1 mw)(cR:aW P w K mg base cl 1 "_law_next" 2 cu)(mS:aW P w K mg base cl 2 "_law_plain" 3 jK)(mM:aW P w K mg base cl 3 "in_threes" 1 jH)(oj:aW P w K mg base cl 3 "in_pairs" 1 kM)(lu:aW P w K mg base cl 3 "with_votes" 1 iZ)(jk:aW P w K mg base cl 7 "_law_good" 3 dH)(lZ:aW P w K mg base cl 8 "bears" 3 eY)(pV:aW P w K mg base cl 8 "matters" 1 mE):aW P w K mg base cl 9 "_law_case" 1 z9:=by
 obtain⟨f,fd,F,hm⟩:=h;exact⟨f,fd,_,bF (k:=8) zR.2 nj.2 F dr (fun dD A outer s H E hr=>(au (bA dr.nd rfl (Or.inl rfl) (bu mS hr (by decide) rfl (ag (aY 0) (ag (af ae) (ag (bu cR hr (by decide) rfl (ag (aY 0) (ag (af ae) aH)) (ah (ah aG))) aH))) (ah (ah (ah aG))))) (au (bA dr.nd rfl (Or.inl rfl) (af (bx (ab (aD (aa 1) ae (fun _ _=>rfl)) (ab (aD (aa 1) ae (fun _ _=>rfl)) (ab (yf (aD (aa 1) ae (fun _ _=>rfl)) qj (qR ae)) aj)))))) (au (bA dr.nd rfl (Or.inl rfl) (bu mM hr (by decide) rfl (ag (af (aa 1)) aH) (ah aG))) (au (bA dr.nd rfl (Or.inl rfl) (bu oj hr (by decide) rfl (ag (af (aa 1)) aH) (ah aG))) (au (bA dr.nd rfl (Or.inl rfl) (bu lu hr (by decide) rfl (ag (af (aa 1)) aH) (ah aG))) (au (jY (KU.pb (yA (tI (p8 (bu jk hr (by decide) rfl (ag (af (aa 1)) (ag (af (aa 2)) (ag (af ae) aH))) (ah (ah (ah aG)))))) (yA (tI (p8 (bu jk hr (by decide) rfl (ag (af (aa 1)) (ag (af (aa 3)) (ag (af ae) aH))) (ah (ah (ah aG)))))) (ye (tI (p8 (bu jk hr (by decide) rfl (ag (af (aa 1)) (ag (af (aa 4)) (ag (af ae) aH))) (ah (ah (ah aG)))))))))) (aM (bS (af gd))) ft) (au (jY (KU.pb (yA (kP (vQ hr.units) (bu lZ hr (by decide) rfl (ag (af (aa 2)) (ag (af ae) (ag (af bf) aH))) (ah (ah (ah aG)))) (af (bx (ab bf aj))) (bY _)) (ye (kP (vQ hr.units) (bu lZ hr (by decide) rfl (ag (af (aa 4)) (ag (af ae) (ag (af bf) aH))) (ah (ah (ah aG)))) (af (bx (ab bf aj))) (bY _))))) (aM (bS (af gd))) ft) (au (jY (kP (vQ hr.units) (bu lZ hr (by decide) rfl (ag (af (aa 3)) (ag (af ae) (ag (af bf) aH))) (ah (ah (ah aG)))) (af (bx (ab bf aj))) (bY _)) (aM (bS (af gd))) ft) (au (bA dr.nd rfl (Or.inl rfl) (yk (lh hr.units) (kN rfl (bt.of (own:=["place","wrong","none"]) (kp:=[]) (kn:=[]) (sc:=nj.1) (N:=j3) rfl rfl (by decide+kernel)) (kE (bu pV hr (by decide) rfl (ag (af (aa 1)) aH) (ah aG))) (fun _ _ _=>(qy rfl (dm (aZ (show List.Nodup [(Str.ofString "place"),"wrong","none"] from by decide+kernel) rfl (Or.inl rfl)) (dm (aZ (show List.Nodup [(Str.ofString "place"),"wrong","none"] from by decide+kernel) rfl (Or.inl rfl)) (dm (aZ (show List.Nodup [(Str.ofString "place"),"wrong","none"] from by decide+kernel) rfl (Or.inl rfl)) nH))))) (fun _ _ _=>(zL (gT (cS Og (aa 1) ae (bY _))))) (fun _ _ _=>(af (aa 0)))) (af (cT (du aj))) (bY _))) (au (jY (kP (vQ hr.units) (yk (lh hr.units) (bu lZ hr (by decide) rfl (ag (af (aa 3)) (ag (af ae) (ag (af bf) aH))) (ah (ah (ah aG)))) (af (bx (ab bf aj))) (bY _)) (af (aa 5)) (bY _)) (aM (bS (af gd))) ft) (au (MH (af (aX sd hr (by decide) rfl (ab (aa 1) aj) (aC bw))) (qy rfl (dm (aZ dr.nd rfl (Or.inl rfl)) (dm (aZ dr.nd rfl (Or.inl rfl)) (dm (aZ dr.nd rfl (Or.inl rfl)) (dm (aZ dr.nd rfl (Or.inl rfl)) nH)))))) (au (jY (gT (JE (JK (cS (vQ hr.units) (aX sd hr (by decide) rfl (ab (aa 2) aj) (aC bw)) (bx (ab (aF fT ae (aa 6)) (ab (aF fT ae (aa 7)) (ab (aF fT ae (aa 8)) (ab (aa 9) aj))))) (bY _)) (E5 (cS (vQ hr.units) (aX sd hr (by decide) rfl (ab (aa 3) aj) (aC bw)) (bx (ab (aF fT ae (aa 6)) (ab (aF fT ae (aa 7)) (ab (aF fT ae (aa 8)) (ab (aa 9) aj))))) (bY _)))))) (aM (bS (af gd))) ft) (aM (bS (af (xW (lh hr.units) (aX sd hr (by decide) rfl (ab (aa 4) aj) (aC bw)) (bx (ab (aF fT ae (aa 6)) (ab (aF i_ (aF fT ae (aa 7)) (aF fT ae (aa 6))) (ab (aF fT ae (aa 8)) (ab (aF fT ae (aa 9)) aj))))) (bY _)))))))))))))))))),hm,F.kp,F.binds fun _ _ _ _ _ _ us hl=>match us,hl with | [_],_=>rfl⟩
abbrev Dt:Stmt:=top 45
noncomputable abbrev uq:List Str:=["script","pot"]
noncomputable def Ms:{b:List Stmt // aK Dt=b}:=⟨_,by conv=>lhs;whnf⟩
noncomputable def HN:{b:Scope // az Dt=b}:=⟨_,by conv=>lhs;whnf⟩
theorem KW:aR uq ["script"] HN.1:=⟨rfl,rfl,rfl,by decide+kernel,rfl,by decide+kernel,by decide+kernel⟩
def Dm:FZ:=(yW (EA (A5 (cE ny (ax (cK 1) bW)))) (eB (xP (eC (.bl false)))) oJ)
def wk:FZ:=(bB (lL (u0 (cE kR (ax (xP (KQ (ai 0) wu (sr (eC (.int 2))))) bW))) (lJ 1) Dm) (eB (xP (eC (.bl true)))))
def Q3:List V3->aN->R3 V3:=mV uq wk
def Rf:List V3->aN->R3 V3:=oF uq wk
def Dp:List D->R D:=Qa uq wk
structure Cf (K:W.Frag) (mg:X2) (cl:X3):Prop where
 C_Bench:yU K (cl 0)
 N_Bench_net:dn K (cl 0) "net"
 N_Bench_many_inputs:dn K (cl 0) "many_inputs"
 N_Bench_full:dn K (cl 0) "full"
 N_Bench_in_masks:dn K (cl 0) "in_masks"
 M_Bench:mg "Bench"=some (.ref (cl 0))
 C_Trial:yU K (cl 1)
 N_Trial_bench:dn K (cl 1) "bench"
 N_Trial_plain:dn K (cl 1) "plain"
 N_Trial_unsure:dn K (cl 1) "unsure"
 M_Trial:mg "Trial"=some (.ref (cl 1))
 ef:Ef K (cl 0) "__init__" "Bench.__init__" cg
 fW:pJ K (cl 0) "tells" "Bench.tells" cX
 d_:pJ K (cl 0) "readings" "Bench.readings" cf
 fg:pJ K (cl 0) "column" "Bench.column" cO
 ee:Ef K (cl 1) "__init__" "Trial.__init__" b_
 dM:pJ K (cl 1) "breaks_at" "Trial.breaks_at" bN
 dN:pJ K (cl 0) "inputs_in" "Bench.inputs_in" bO
theorem Pa{K:W.Frag}{h:Heap}{mg:X2}(X:K.In h)(G:h.Ns mainGlobals mg){C0:Addr}{C1:Addr}{f0:Addr}{WN VY:Option Addr}{WA:Array (Option Value)}{WW VW WK WR TN VB:Value}{f1:Addr}{V2 VQ:Option Addr}{Wi:Array (Option Value)}{VI Wq WI Wr TV VZ:Value}{f2:Addr}{VP VL:Option Addr}{NR:Array (Option Value)}{WY Wj WS Wu Ui WJ:Value}{f3:Addr}{V5 W6:Option Addr}{WL:Array (Option Value)}{VG VC Wz WE TQ VU:Value}{f4:Addr}{Wo WD:Option Addr}{Wc:Array (Option Value)}{WG Wy VH W7 T7 VR:Value}{f5:Addr}{V1 WO:Option Addr}{VT:Array (Option Value)}{V0 WC Wv W9 TZ W_:Value}{f6:Addr}{Wb VJ:Option Addr}{Wk:Array (Option Value)}{VD WB WX Wn Ud W2:Value}(Se:PySem.W.nsIn K mainGlobals "Bench"=some (some (.ref C0)))(Sf:PySem.W.plainGet K C0 Str.empty=true)(Pq:PySem.W.hasDictIn K C0=true)(Sr:PySem.W.plainOver K C0=true)(SD:PySem.W.findIn K (.ref C0) "__setattr__"=some (some (.builtin "object.__setattr__")))(R0:PySem.W.makesIn K C0=true)(Ss:PySem.W.keepIn K (.ref C0)=true)(Cc:PySem.W.findIn K (.ref C0) "net"=some none)(kz:PySem.W.findIn K (.ref C0) "many_inputs"=some none)(yP:PySem.W.findIn K (.ref C0) "full"=some none)(oi:PySem.W.findIn K (.ref C0) "in_masks"=some none)(Su:PySem.W.nsIn K mainGlobals "Trial"=some (some (.ref C1)))(Sg:PySem.W.plainGet K C1 Str.empty=true)(Qn:PySem.W.hasDictIn K C1=true)(R7:PySem.W.plainOver K C1=true)(Sq:PySem.W.findIn K (.ref C1) "__setattr__"=some (some (.builtin "object.__setattr__")))(Sk:PySem.W.makesIn K C1=true)(SA:PySem.W.keepIn K (.ref C1)=true)(vG:PySem.W.findIn K (.ref C1) "bench"=some none)(vI:PySem.W.findIn K (.ref C1) "plain"=some none)(rQ:PySem.W.findIn K (.ref C1) "unsure"=some none)(iO:PySem.W.findIn K (.ref C0) "__init__"=some (some (.ref f0)))(iH:PySem.W.isFn K (.ref f0)=true)(iT:K.lookup f0=some ⟨WW,WN, .func (PySem.W.fnOf "__init__" "Bench.__init__" (fX cg) (aK cg) (az cg) .none VW WK WR VY TN VB),WA⟩)(d7:PySem.W.codeIn K TN "Bench.__init__"=true)(iU:PySem.W.keepIn K (.ref f0)=true)(lx:PySem.W.findIn K (.ref C0) "tells"=some (some (.ref f1)))(ll:PySem.W.isFn K (.ref f1)=true)(lp:K.lookup f1=some ⟨VI,V2, .func (PySem.W.fnOf "tells" "Bench.tells" (fX cX) (aK cX) (az cX) .none Wq WI Wr VQ TV VZ),Wi⟩)(fR:PySem.W.codeIn K TV "Bench.tells"=true)(i7:PySem.W.keepIn K (.ref f1)=true)(iS:PySem.W.findIn K (.ref C0) "readings"=some (some (.ref f2)))(iR:PySem.W.isFn K (.ref f2)=true)(iQ:K.lookup f2=some ⟨WY,VP, .func (PySem.W.fnOf "readings" "Bench.readings" (fX cf) (aK cf) (az cf) .none Wj WS Wu VL Ui WJ),NR⟩)(d8:PySem.W.codeIn K Ui "Bench.readings"=true)(fG:PySem.W.keepIn K (.ref f2)=true)(kr:PySem.W.findIn K (.ref C0) "column"=some (some (.ref f3)))(ku:PySem.W.isFn K (.ref f3)=true)(kA:K.lookup f3=some ⟨VG,V5, .func (PySem.W.fnOf "column" "Bench.column" (fX cO) (aK cO) (az cO) .none VC Wz WE W6 TQ VU),WL⟩)(eV:PySem.W.codeIn K TQ "Bench.column"=true)(g8:PySem.W.keepIn K (.ref f3)=true)(iJ:PySem.W.findIn K (.ref C1) "__init__"=some (some (.ref f4)))(iL:PySem.W.isFn K (.ref f4)=true)(iK:K.lookup f4=some ⟨WG,Wo, .func (PySem.W.fnOf "__init__" "Trial.__init__" (fX b_) (aK b_) (az b_) .none Wy VH W7 WD T7 VR),Wc⟩)(d3:PySem.W.codeIn K T7 "Trial.__init__"=true)(iM:PySem.W.keepIn K (.ref f4)=true)(gZ:PySem.W.findIn K (.ref C1) "breaks_at"=some (some (.ref f5)))(g7:PySem.W.isFn K (.ref f5)=true)(hV:K.lookup f5=some ⟨V0,V1, .func (PySem.W.fnOf "breaks_at" "Trial.breaks_at" (fX bN) (aK bN) (az bN) .none WC Wv W9 WO TZ W_),VT⟩)(dG:PySem.W.codeIn K TZ "Trial.breaks_at"=true)(eR:PySem.W.keepIn K (.ref f5)=true)(g_:PySem.W.findIn K (.ref C0) "inputs_in"=some (some (.ref f6)))(g9:PySem.W.isFn K (.ref f6)=true)(hJ:K.lookup f6=some ⟨VD,Wb, .func (PySem.W.fnOf "inputs_in" "Bench.inputs_in" (fX bO) (aK bO) (az bO) .none WB WX Wn VJ Ud W2),Wk⟩)(dF:PySem.W.codeIn K Ud "Bench.inputs_in"=true)(eQ:PySem.W.keepIn K (.ref f6)=true):∃cl,Cf K mg cl:=by
 exact⟨fun n=>if n=0 then C0 else C1,⟨Sf,Pq,Sr,SD⟩,Cc,kz,yP,oi,PySem.W.mg_of X G Se,⟨Sg,Qn,R7,Sq⟩,vG,vI,rQ,PySem.W.mg_of X G Su,⟨_,_,n4 (st:=cg) iT d7 iU,⟨R0,iO,iH,Ss⟩⟩,⟨_,_,n4 (st:=cX) lp fR i7,⟨lx,ll,i7⟩⟩,⟨_,_,n4 (st:=cf) iQ d8 fG,⟨iS,iR,fG⟩⟩,⟨_,_,n4 (st:=cO) kA eV g8,⟨kr,ku,g8⟩⟩,⟨_,_,n4 (st:=b_) iK d3 iM,⟨Sk,iJ,iL,SA⟩⟩,⟨_,_,n4 (st:=bN) hV dG eR,⟨gZ,g7,eR⟩⟩,⟨_,_,n4 (st:=bO) hJ dF eQ,⟨g_,g9,eQ⟩⟩⟩
theorem MX{K:W.Frag}{mg:X2}{f:Addr}{fd:FuncData}{cl:X3}(T:Tp K mg cl)(mN:Def K mg "has_widths" gx)(lr:Def K mg "check_makes" fP)(mP:Def K mg "next_wires" gR)(vC:Def K mg "copied" nF)(om:Def K mg "in_threes" jd)(pX:Def K mg "in_pairs" j_)(mO:Def K mg "with_votes" gz)(rR:Def K mg "deepest" lR)(lq:Def K mg "wire_depths" fM)(B7:Def K mg "size" uU)(rT:Def K mg "vote_of" lF)(oh:Def K mg "gate_mask" i8)(jy:Def K mg "in_wire_masks" eD)(pT:Def K mg "masks_at" kq)(mL:Def K mg "wire_masks" gK)(oy:Def K mg "out_masks" jh)(Ic:Def K mg "run" zq)(rP:Def K mg "reading" lP)(vH:Def K mg "bit_at" nY)(rZ:Def K mg "read_at" lB)(Cd:Def K mg "told" vj)(mR:Def K mg "all_inputs" gP)(rV:Def K mg "mask_of" lD)(r_:Def K mg "in_mask" lI)(ef:Ef K (cl 0) "__init__" "Bench.__init__" cg)(fW:pJ K (cl 0) "tells" "Bench.tells" cX)(d_:pJ K (cl 0) "readings" "Bench.readings" cf)(pU:Def K mg "is_sound" j9)(fg:pJ K (cl 0) "column" "Bench.column" cO)(rX:Def K mg "columns" lO)(rS:Def K mg "choices" lC)(ee:Ef K (cl 1) "__init__" "Trial.__init__" b_)(dM:pJ K (cl 1) "breaks_at" "Trial.breaks_at" bN)(dN:pJ K (cl 0) "inputs_in" "Bench.inputs_in" bO)(yT:Def K mg "bears" qK)(rY:Def K mg "matters" lE)(pW:Def K mg "_law_next" kg)(pZ:Def K mg "_law_pots" j0)(ot:Def K mg "_law_plain" jf)(p6:Def K mg "_law_good" kh)(pY:Def K mg "_law_case" j6)(F:CI K "law" "law" Dt f fd):jC P w K mg base vN 10 f fd ["script"] (Gp K 1 Dp):=by
 have mT:=xE (P:=P) (w:=w) (base:=base) T mN;have cY:=vW (P:=P) (w:=w) (base:=base) T lr mT;have g6:=xG (P:=P) (w:=w) (base:=base) T mP;have XK_copied:=G3 (P:=P) (w:=w) (base:=base) T vC g6;have fH:=XK_copied.p;have XK_in_threes:=Ay (P:=P) (w:=w) (base:=base) T om cY fH;have mM:=XK_in_threes.p;have XK_in_pairs:=Bk (P:=P) (w:=w) (base:=base) T pX cY fH;have oj:=XK_in_pairs.p;have XK_with_votes:=yt (P:=P) (w:=w) (base:=base) T mO cY fH;have lu:=XK_with_votes.p;have jR:=Et (P:=P) (w:=w) (base:=base) T rR;have lz:=vV (P:=P) (w:=w) (base:=base) T lq jR;have sd:=MQ (P:=P) (w:=w) (base:=base) T B7 lz jR;have jS:=DZ (P:=P) (w:=w) (base:=base) T rT;have oq:=zI (P:=P) (w:=w) (base:=base) T oh jS;have fE:=tq (P:=P) (w:=w) (base:=base) T jy;have XP_in_wire_masks:=fE.p;have iI:=A1 (P:=P) (w:=w) (base:=base) T pT;have XK_wire_masks:=xv (P:=P) (w:=w) (base:=base) T mL iI oq fE;have eK:=XK_wire_masks.p;have XK_out_masks:=zO (P:=P) (w:=w) (base:=base) T oy iI;have fF:=XK_out_masks.p;have XK_run:=NX (P:=P) (w:=w) (base:=base) T Ic eK fF;have vF:=XK_run.p;have jT:=DM (P:=P) (w:=w) (base:=base) T rP jS;have ky:=Hj (P:=P) (w:=w) (base:=base) T vH;have jQ:=EI (P:=P) (w:=w) (base:=base) T rZ ky;have Ca:=Mz (P:=P) (w:=w) (base:=base) T Cd jT jQ;have XK_all_inputs:=yu (P:=P) (w:=w) (base:=base) T mR;have lj:=XK_all_inputs.p;have jU:=Ep (P:=P) (w:=w) (base:=base) T rV;have r9:=DK (P:=P) (w:=w) (base:=base) T r_ jU;have bR:=d7 (P:=P) (w:=w) (base:=base) T ef jU r9 lj;have XK_Bench_tells:=fR (P:=P) (w:=w) (base:=base) T fW eK fF;have kx:=XK_Bench_tells.p;have XK_Bench_readings:=d8 (P:=P) (w:=w) (base:=base) T d_ jT kx;have bp:=XK_Bench_readings.p;have XK_is_sound:=BW (P:=P) (w:=w) (base:=base) T pU bR bp;have ox:=XK_is_sound.p;have XK_Bench_column:=eV (P:=P) (w:=w) (base:=base) T fg jQ;have jv:=XK_Bench_column.p;have XK_columns:=D9 (P:=P) (w:=w) (base:=base) T rX bR bp jv;have mQ:=XK_columns.p;have rW:=w6 (P:=P) (w:=w) (base:=base) T rS 4;have c_:=d3 (P:=P) (w:=w) (base:=base) T ee bR bp;have XK_Trial_breaks_at:=dG (P:=P) (w:=w) (base:=base) T dM bp;have cB:=XK_Trial_breaks_at.p;have XK_Bench_inputs_in:=dF (P:=P) (w:=w) (base:=base) T dN ky;have cC:=XK_Bench_inputs_in.p;have XK_bears:=JH (P:=P) (w:=w) (base:=base) T yT rW c_ cB cC;have lZ:=XK_bears.p;have XK_matters:=D6 (P:=P) (w:=w) (base:=base) T rY c_ cB cC;have pV:=XK_matters.p;have XK_law_next:=AU (P:=P) (w:=w) (base:=base) T pW;have cR:=XK_law_next.p;have XK_law_pots:=By (P:=P) (w:=w) (base:=base) T pZ;have XP_law_pots:=XK_law_pots.p;have XK_law_plain:=An (P:=P) (w:=w) (base:=base) T ot cR;have mS:=XK_law_plain.p;have XK_law_good:=A6 (P:=P) (w:=w) (base:=base) T p6 Ca ox mQ vF;have jk:=XK_law_good.p;have XK_law_case:=Bl (P:=P) (w:=w) (base:=base) T pY sd cR mS mM oj lu jk lZ pV;have XP_law_case:=XK_law_case.p;exact(bF (cl:=cl) (N:=uq) (F:=wk) (k:=9) Ms.2 HN.2 F KW (fun dD A outer s H E hr=>(au (fJ PassesOwn.never rfl (kE (bu XK_law_pots hr (by decide) rfl (ag (af (yf (aa 0) qj (qR ae))) aH) (ah aG))) (aZ KW.nd rfl (Or.inl rfl)) (aM (jY (tI (p8 (bu XP_law_case hr (by decide) rfl (ag (aY 1) aH) (ah aG)))) (aM (bS (af gd))) ft))) (aM (bS (af gd)))))).imp fun _ _ _ _ h=>Lo h
end K31
end
section
namespace K31
open PySem PySem.Spec PyProof.Rows L2 L3
theorem xr{S:aN}{k:Nat}{o x:SO}(h:S[k]? =some x):(S.set k o)[k]? =some o:=by
 obtain⟨h1,_⟩:=List.getElem?_eq_some_iff.mp h;rw[List.getElem?_set_self h1]
def BC(k:Nat)(S:aN):Prop:=Flat S/\∃a c,S[k]? =some (.lst [.int a, .int c])
structure Ev (k:Nat) (S S1:aN):Prop where
 p:BC k S1
 len:S1.length=S.length
 oth:∀j,j≠k->S1[j]? =S[j]?
theorem Ev.refl{k:Nat}{S:aN}(p:BC k S):Ev k S S:=⟨p,rfl,fun _ _=>rfl⟩
theorem Ev.trans{k:Nat}{S S1 S2:aN}(a:Ev k S S1)(b:Ev k S1 S2):Ev k S S2:=⟨b.p,b.len.trans a.len,fun j h=>(b.oth j h).trans (a.oth j h)⟩
theorem BC.lt{k:Nat}{S:aN}(p:BC k S):k < S.length:=by
 obtain⟨_,a,c,e⟩:=p;exact(List.getElem?_eq_some_iff.mp e).1
theorem w9(ds:List D):∀n,pL n (.lst ds)=true:=fun _=>rfl
theorem JT{S:aN}{k:Nat}{m:Int}(p:BC k S)(hm:0 < m)(EX:m < 1000000){Q:V3->aN->Prop}
 (h:∀(r:Int) S1,0<=r->r < m->BC k S1->S1.length=S.length->(∀j,j≠k->S1[j]? =S[j]?)->Q (.d (.int r)) S1):W3 (cu [.loc k, .d (.int m)] S) Q:=by
 obtain⟨hL,a,c,e⟩:=p;unfold cu;refine Cn (tK rfl ?_);simp only[cq,mr,List.map,List.length,List.replicate,List.cons_append,List.nil_append,Nat.reduceAdd,Nat.reduceSub];unfold pB;refine aV (K9 (GJ (d:= .int (c+1)) ?_ rfl ?_))
 .simp (implicitDefEqProofs:=false) (disch:=first | omega | decide) only[ai,eC,e2,b2,gS,yX,DJ,fB,R.aT,List.map_cons,List.getElem?_cons_zero,List.getElem?_cons_succ,down,df,res,cw,decide_eq_true_eq,Int.reduceToNat,e,cy,tU]
  rfl
 refine w_var (v:= .loc k) rfl (bM (d:= .int 1) rfl ⟨_,k,1,[.int a, .int c],1,rfl,rfl,rfl,e,rfl,_,rfl,?_⟩);simp only[List.set];have e1:(S.set k (.lst [.int a, .int (c+1)]))[k]? =some (.lst [.int a, .int (c+1)]):=xr e;have PR:Flat (S.set k (.lst [.int a, .int (c+1)])):=hL.set _ (w9 _);have yS:(S.set k (.lst [.int a, .int (c+1)])).length=S.length:=List.length_set;have ho:∀j,j≠k->(S.set k (.lst [.int a, .int (c+1)]))[j]? =S[j]?:=fun j hj=>List.getElem?_set_ne (Ne.symm hj)
 generalize S.set k (.lst [.int a, .int (c+1)])=S1 at e1 PR yS ho;refine aV (bU (by simp) (GJ (d:= .int a) ?_ rfl ⟨_,rfl,?_⟩))
 .simp (implicitDefEqProofs:=false) (disch:=first | omega | decide) only[ai,eC,e2,b2,gS,yX,DJ,fB,R.aT,List.map_cons,List.getElem?_cons_zero,List.getElem?_cons_succ,down,df,res,cw,decide_eq_true_eq,Int.reduceToNat,e1,cy,tU]
  rfl
 simp only[List.set];have fin:∀(r:Int) S2,0<=r->r < m->BC k S2->S2.length=S1.length->(∀j,j≠k->S2[j]? =S1[j]?)->Flat S2/\eu S.length (.d (.int r))=true/\∃d,res S2 (.d (.int r))=some d/\Q (.d d) (S2.take S.length):=fun r S2 h1 h2 p2 hl hj=>by
  refine⟨p2.1,by unfold eu;rfl, .int r,by unfold res;rfl,?_⟩
  rw[List.take_of_length_le (by omega)]
  exact h r S2 h1 h2 p2 (by omega) fun j Qo=>(hj j Qo).trans (ho j Qo)
 by_cases hc:(1000000000000000000:Int)<=a
 .refine Hi (mD (rg (b:=true) ?_ ?_))
  .simp (implicitDefEqProofs:=false) (disch:=first | omega | decide) only[ai,eC,e2,b2,gS,yX,DJ,fB,R.aT,List.map_cons,List.getElem?_cons_zero,List.getElem?_cons_succ,down,df,res,cw,decide_eq_true_eq,Int.reduceToNat,hc]
   simp [hc]
  rw[if_pos rfl];refine aV (K9 (bM (d:= .int (a / m)) ?_ (w_var (v:= .loc k) rfl (bM (d:= .int 0) rfl ⟨_,k,0,_,0,rfl,rfl,rfl,e1,rfl,_,rfl,?_⟩))))
  .exact ay (a:= .int a) (b:= .int m) rfl rfl (IP hm (by omega))
  refine d9 (bM (d:= .int (a % m)) (ay (a:= .int a) (b:= .int m) rfl rfl (Bx hm)) ⟨_,rfl,_,rfl,?_⟩);exact fin _ _ (Int.emod_nonneg _ (by omega)) (Int.emod_lt_of_pos _ hm) ⟨PR.set _ (w9 _),_,_,xr e1⟩ List.length_set fun j hj=>List.getElem?_set_ne (Ne.symm hj)
 .refine aV (mD (rg (b:=false) ?_ ?_))
  .simp (implicitDefEqProofs:=false) (disch:=first | omega | decide) only[ai,eC,e2,b2,gS,yX,DJ,fB,R.aT,List.map_cons,List.getElem?_cons_zero,List.getElem?_cons_succ,down,df,res,cw,decide_eq_true_eq,Int.reduceToNat,hc]
   simp [hc]
  rw[if_neg (by decide)]
  refine ik ⟨_,rfl,?_⟩;refine aV (bU (by simp) (GJ (d:= .int ((a*69621+(c+1)*7919+13) % 2147483647)) ?_ rfl ⟨_,rfl,?_⟩))
  .have hi:cy (.lst [.int a, .int (c+1)]) (.int 1)= .ok (.int (c+1)):=rfl;simp (implicitDefEqProofs:=false) (disch:=first | omega | decide) only[ai,eC,e2,b2,gS,yX,DJ,fB,R.aT,List.map_cons,List.getElem?_cons_zero,List.getElem?_cons_succ,down,df,res,cw,decide_eq_true_eq,Int.reduceToNat,e1,hi]
  simp only[List.set];have hx1:0<=(a*69621+(c+1)*7919+13) % 2147483647:=Int.emod_nonneg _ (by omega)
  have NQ:(a*69621+(c+1)*7919+13) % 2147483647 < 2147483647:=Int.emod_lt_of_pos _ (by omega)
  generalize (a*69621+(c+1)*7919+13) % 2147483647=x at hx1 NQ;refine aV (bU (by simp) (bM (d:= .int (x*x % 2147483629)) ?_ ⟨_,rfl,?_⟩))
  .simp (implicitDefEqProofs:=false) (disch:=first | omega | decide) only[ai,eC,e2,b2,gS,yX,DJ,fB,R.aT,List.map_cons,List.getElem?_cons_zero,List.getElem?_cons_succ,down,df,res,cw,decide_eq_true_eq,Int.reduceToNat]
  simp only[List.set];generalize x*x % 2147483629=y;refine d9 (GJ (d:= .int ((y*48271+(c+1)*40692) % 2147483587 / 8 % m)) ?_ rfl ⟨_,rfl,?_⟩)
  .have hi:cy (.lst [.int a, .int (c+1)]) (.int 1)= .ok (.int (c+1)):=rfl;simp (implicitDefEqProofs:=false) (disch:=first | omega | decide) only[ai,eC,e2,b2,gS,yX,DJ,fB,R.aT,List.map_cons,List.getElem?_cons_zero,List.getElem?_cons_succ,down,df,res,cw,decide_eq_true_eq,Int.reduceToNat,e1,hi]
  exact fin _ _ (Int.emod_nonneg _ (by omega)) (Int.emod_lt_of_pos _ hm) ⟨PR,_,_,e1⟩ rfl fun j hj=>rfl
section
variable {S:aN} {δ:DE} {k i:Nat}
theorem draw{Q:V3->aN->Prop}{f:FD}{m:Int}(hv:δ[i]? =some (some (.loc k)))(p:BC k S)(hf:f (down δ)= .ok (.int m))(hm:0 < m)(EX:m < 1000000)
 (h:∀(r:Int) S1,0<=r->r < m->Ev k S S1->Q (.d (.int r)) S1):W3 (cE cu (ax (cK i) (ax (xP f) bW)) δ S) Q:=
 cI (av (w_var hv (av (bM hf (bz (JT p hm EX fun r S1 h1 h2 p1 hl ho=>h r S1 h1 h2 ⟨p1,hl,ho⟩))))))
end
end K31
end
section
namespace K31
open PySem PySem.Spec PyProof.Rows L2 L3 MT
theorem B4{a:D}{r:List D}:cy (.tup (a ::r)) (.int 0)= .ok a:=uA (by rw[rF (by omega) (by simp)];rfl)
theorem Em{a b:D}{r:List D}:cy (.tup (a ::b ::r)) (.int 1)= .ok b:=uA (by rw[rF (by omega) (by simp)];rfl)
theorem Ta{a b c:D}{r:List D}:cy (.tup (a ::b ::c ::r)) (.int 2)= .ok c:=uA (by rw[rF (by omega) (by simp)];rfl)
theorem Ds{N:Nat}{a b c:M}:ij [.tup [mI N a,mI N b,mI N c]]= .ok (mI N fun p=>(a p && b p) || (a p && c p) || (b p && c p)):=by
 unfold ij wA;refine di (cN ?_);exact ay (ay (ay (ay rfl rfl B4) (ay rfl rfl Em) (uf N a b)) (ay (ay rfl rfl B4) (ay rfl rfl Ta) (uf N a c)) (yc N _ _)) (ay (ay rfl rfl Em) (ay rfl rfl Ta) (uf N b c)) (yc N _ _)
theorem Ov(k j:Nat)(hk:k<=4)(hj:j<=4):l4 (.str (kS k)) (.str (kS j))= .ok (.bl (decide (k=j))):=by
 show R.ok (D.bl (kS k==kS j))=_;congr 2
 revert hk hj
 have:∀a∈List.range 5,∀b∈List.range 5,(kS a==kS b)=decide (a=b):=by decide+kernel
 intro hk hj;exact this k (by rw[List.mem_range];omega) j (by rw[List.mem_range];omega)
theorem Jp{N kd:Nat}{xs:List M}(hk:kd<=4)(hx:xs.length=ar kd):ji [.str (kS kd), .tup (xs.map (mI N)),mI N one]= .ok (mI N fun p=>gv kd (xs.map (· p))):=by
 unfold ji sO;have q:∀j,j<=4->b2 l4 (ai 0) (eC (.str (kS j))) (dz nM [.str (kS kd), .tup (xs.map (mI N)),mI N one])= .ok (decide (kd=j)):=fun j hj=>ie (a:= .str (kS kd)) (b:= .str (kS j)) rfl rfl (Ov kd j hk hj)
 have q0:=q 0 (by omega)
 have q1:=q 1 (by omega)
 have q2:=q 2 (by omega)
 have q3:=q 3 (by omega)
 match kd,hk,xs,hx with
 | 0,_,[a],_=>
   refine di (NT.kO (si q0 (cN (ay (a:=mI N one) (b:=mI N a) rfl (ay rfl rfl B4) (yY N a)))))
 | 1,_,[a,b],_=>
   refine di (bK (ia q0 rfl) (NT.kO (si q1 (cN (ay (ay rfl rfl B4) (ay rfl rfl Em) (uf N a b))))))
 | 2,_,[a,b],_=>
   refine di (bK (ia q0 rfl) (bK (ia q1 rfl) (NT.kO (si q2 (cN (ay (ay rfl rfl B4) (ay rfl rfl Em) (yc N a b)))))))
 | 3,_,[a,b],_=>
   refine di (bK (ia q0 rfl) (bK (ia q1 rfl) (bK (ia q2 rfl) (NT.kO (si q3 (cN (ay (ay rfl rfl B4) (ay rfl rfl Em) (y7 N a b))))))))
 | 4,_,[a,b,c],_=>
   refine di (bK (ia q0 rfl) (bK (ia q1 rfl) (bK (ia q2 rfl) (bK (ia q3 rfl) (cN (aA (ds:=[.tup [mI N a,mI N b,mI N c]]) rfl Ds))))))
theorem Lh{N:Nat}{ws:List M}{ns:List Nat}(hn:∀n∈ns,n < ws.length)(hl:ns.length < 1000):gc [.lst (ws.map (mI N)), .tup (ns.map nI)]= .ok (.tup ((ns.map (fk ws)).map (mI N))):=by
 have hz:sizeLine=16777216:=sizeLine_eq;unfold gc vx;refine di (cN (aA (ds:=[.lst ((ns.map (fk ws)).map (mI N))]) (aq (dt (ck (ds:=ns.map nI) (x4 rfl) (by rw[List.length_map];omega) ?_)) rfl) rfl))
 rw[List.map_map];exact NT.bL nI _ fun n RZ=>⟨[.val (nI n), .val (.lst (ws.map (mI N)))],rfl,rfl,ay (a:= .lst (ws.map (mI N))) (b:=nI n) rfl rfl (L4 (hn n RZ))⟩
def AV(N:Nat)(S:aN)(HW m6 R_:D)(a5 a6 a7:Option V3):DE:=[some (.d HW),some (.d m6),some (.d (mI N one)),some (.d R_),some (.loc S.length),a5,a6,a7]
theorem F5{N:Nat}{S:aN}{HW m6:D}{bad:List Int}{a5 a7:Option V3}{b:M}{ws:List M}(hl:ws.length < 10000) :
 W3 (gO (AV N S HW m6 (.tup (bad.map .int)) a5 (some (.d (mI N b))) a7) (S++[.lst (ws.map (mI N))])) fun o S1=>o= .nx (AV N S HW m6 (.tup (bad.map .int)) a5 (some (.d (mI N b))) a7)/\S1=S++[SO.lst ((ws++[fun p=>b p !=bad.contains (ws.length:Int)]).map (mI N))]:=by
 have hz:sizeLine=16777216:=sizeLine_eq;unfold gO;refine oX (k:=S.length) rfl ⟨_,bG _ _⟩ (GJ (d:=mI N fun p=>b p !=bad.contains (ws.length:Int)) ?_ rfl ⟨_,_,rfl,bG _ _,by rw[List.length_map];omega,rfl,?_⟩)
 .have h4:(df (S++[.lst (ws.map (mI N))]) (AV N S HW m6 (.tup (bad.map .int)) a5 (some (.d (mI N b))) a7))[4]? =some (.val (.lst (ws.map (mI N)))):=by
   unfold df AV;show some (match res (S++[.lst (ws.map (mI N))]) (.loc S.length) with | some d=>Sl.val d | none=> .un)=_
   unfold res;rw[bG]
  refine xq (b:=bad.contains (ws.length:Int)) (ie (a:= .int ws.length) (b:= .tup (bad.map .int)) (aA (ds:=[.lst (ws.map (mI N))]) (aq (by unfold ai;rw [h4]) rfl) (by rw[k5,List.length_map])) rfl (Cy _ _)) ?_
  rw[<-Gh];rfl
 .rw [fO,List.map_append];rfl
theorem Ac{N:Nat}{S:aN}{bD:D}{ins:XZ}{bits:List M}{bad:List Int}(hB:bD= .lst (bits.map (mI N))\/bD= .tup (bits.map (mI N)))(hb:bits.length=ins.length)(hi:ins.length < 100)(hw:∀x∈ins,x.2 < 100){Q:V3->aN->Prop}
 (h:Q (.loc S.length) (S++[.lst ((f_ ins bits bad ins.length).map (mI N))])) :
 W3 (dW [.d (.lst (ins.map inD)), .d bD, .d (mI N one), .d (.tup (bad.map .int))] S) Q:=by
 have hz:sizeLine=16777216:=sizeLine_eq;unfold dW;refine tK rfl ?_;simp only[cq,f7,List.map,List.length,List.replicate,List.cons_append,List.nil_append,Nat.reduceAdd,Nat.reduceSub];unfold jt;refine aV (bU (by simp) (mX (ds:=[]) rfl ⟨_,rfl,?_⟩))
 simp only[List.set];refine aV (jA (rn (ds:=dR (bits.map (mI N))) (by rcases hB with rfl | rfl <;> rfl) ?_))
 have big:∀i,i<=ins.length->(f_ ins bits bad i).length<=100*i:=by
  intro i hi'
  induction i with
  | zero=>simp [f_]
  | succ i ih=>
    have ih:=ih (by omega)
    have h1:ins[i]? =some ins[i]:=List.getElem?_eq_getElem (by omega)
    have h2:bits[i]? =some bits[i]:=List.getElem?_eq_getElem (by omega)
    unfold f_;rw[h1,h2];show(kI bad bits[i] ins[i].2 (f_ ins bits bad i)).length<=_;rw[iB];have:=hw ins[i] (List.getElem_mem _);omega
 refine(c9 (fun i δ S2=>(∃a b c,δ=AV N S (.lst (ins.map inD)) bD (.tup (bad.map .int)) a b c)/\S2=S++[SO.lst ((f_ ins bits bad i).map (mI N))])
  ⟨⟨_,_,_,rfl⟩,rfl⟩ ?_).mono fun o S2 ⟨eM,jm,⟨a,b,c,hδ⟩,hS⟩=>⟨eM,jm,?_⟩
 .rintro i v δ S2 hv ⟨⟨a,b,c,rfl⟩,rfl⟩;obtain⟨d,hd,rfl⟩:=yB hv;rw[List.getElem?_map] at hd;have hib:i < bits.length:=by
   have:=(List.getElem?_eq_some_iff.mp hv).1;simpa [dR] using this
  have h1:ins[i]? =some ins[i]:=List.getElem?_eq_getElem (by omega)
  have h2:bits[i]? =some bits[i]:=List.getElem?_eq_getElem hib;rw[h2] at hd;cases hd;refine⟨AV N S (.lst (ins.map inD)) bD (.tup (bad.map .int)) (some (.d (.int i))) (some (.d (mI N bits[i]))) c,rfl,?_⟩;unfold kC;have hwi:=hw ins[i] (List.getElem_mem _);refine jA (rn (fD (n:=ins[i].2) ?_ (by omega)) ?_)
  .refine ay (a:=inD ins[i]) (b:= .int 1) (ay (a:= .lst (ins.map inD)) (b:= .int i) rfl rfl (BJ ?_)) rfl rfl;rw[rF (by omega) (by rw[List.length_map,Int.toNat_natCast];omega)]
   simp
  refine(c9 (fun j δ S3=>(∃c,δ=AV N S (.lst (ins.map inD)) bD (.tup (bad.map .int)) (some (.d (.int i))) (some (.d (mI N bits[i]))) c)/\S3=S++[SO.lst ((kI bad bits[i] j (f_ ins bits bad i)).map (mI N))])
   ⟨⟨_,rfl⟩,rfl⟩ ?_).mono fun o S3 ⟨SE,e3,⟨c3,Ny⟩,NK⟩=>⟨SE,e3,⟨_,_,c3,Ny⟩,?_⟩
  .rintro j v δ S3 hv ⟨⟨c3,rfl⟩,rfl⟩;refine⟨_,rfl,?_⟩;have hj:j < ins[i].2:=by
    have:=(List.getElem?_eq_some_iff.mp hv).1
    rwa [List.length_map,eg,List.length_map,List.length_range] at this
   refine(F5 ?_).mono fun o S4 ⟨e4,e5⟩=>⟨_,e4,⟨_,rfl⟩,e5⟩
   rw[iB];have:=big i (by omega)
   omega
  .rw [NK,List.length_map,eg,List.length_map,List.length_range];show _=S++[SO.lst ((match ins[i]?,bits[i]? with | some x,some b=>kI bad b x.2 (f_ ins bits bad i) | _,_=>f_ ins bits bad i).map (mI N))]
   rw[h1,h2]
 have hlen:((dR (bits.map (mI N))).map V3.d).length=ins.length:=by simp [dR,hb]
 rw[hlen] at hS;subst hδ hS;exact d9 (w_var rfl ⟨_,rfl,h⟩)
section
variable {N:Nat} {ins:XZ} {gs:List Gt} {os:X0} {bits:List M} {turned bad:List Int}
def y0(N:Nat)(S:aN)(nt m6 tD bD:D)(a6 a7 a8:Option V3):DE:=[some (.d nt),some (.d m6),some (.d (mI N one)),some (.d tD),some (.d bD),some (.loc S.length),a6,a7,a8]
theorem Eh{S:aN}{nt m6 bD:D}{a8:Option V3}{g:Gt}{i:Nat}{ws:List M}(hg:nD ws.length g)(hl:ws.length < 20000) :
 W3 (jW (y0 N S nt m6 (.tup (turned.map .int)) bD (some (.d (.int i))) (some (.d (dS g))) a8) (S++[.lst (ws.map (mI N))])) fun o S1=>(∃c,o= .nx (y0 N S nt m6 (.tup (turned.map .int)) bD (some (.d (.int i))) (some (.d (dS g))) c))/\S1=S++[SO.lst ((ws++[fun p=>gF g ws p !=turned.contains (i:Int)]).map (mI N))]:=by
 have hz:sizeLine=16777216:=sizeLine_eq;have ha:=CG g.1;unfold jW;refine aV (bU (by unfold y0;simp only[List.length_cons,List.length_nil];omega) (GJ (d:=mI N (gF g ws)) ?_ rfl ⟨_,rfl,?_⟩))
 .have h5:(df (S++[.lst (ws.map (mI N))]) (y0 N S nt m6 (.tup (turned.map .int)) bD (some (.d (.int i))) (some (.d (dS g))) a8))[5]? =some (.val (.lst (ws.map (mI N)))):=by
   unfold df y0;show some (match res (S++[.lst (ws.map (mI N))]) (.loc S.length) with | some d=>Sl.val d | none=> .un)=_
   unfold res;rw[bG]
  refine(aA (ds:=[.str (kS g.1), .tup ((g.2.1.map (fk ws)).map (mI N)),mI N one]) (aq (ay (a:=dS g) (b:= .int 0) rfl rfl rfl) (aq ?_ (aq rfl rfl))) (Jp hg.1 (by rw[List.length_map];exact hg.2.1))).trans ?_
  .exact aA (ds:=[.lst (ws.map (mI N)), .tup (g.2.1.map nI)]) (aq (by unfold ai;rw [h5]) (aq (ay (a:=dS g) (b:= .int 1) rfl rfl rfl) rfl)) (Lh hg.2.2 (by rw[hg.2.1];omega))
  .have:(fun p=>gv g.1 ((g.2.1.map (fk ws)).map (· p)))=gF g ws:=by funext p;unfold gF;rw [List.map_map];rfl
   rw[this]
 .show W3 (pK 5 _ (y0 N S nt m6 (.tup (turned.map .int)) bD (some (.d (.int i))) (some (.d (dS g))) (some (.d (mI N (gF g ws))))) _) _;refine oX (k:=S.length) rfl ⟨_,bG _ _⟩ (bM (d:=mI N fun p=>gF g ws p !=turned.contains (i:Int)) ?_ ⟨_,_,rfl,bG _ _,by rw[List.length_map];omega,⟨_,rfl⟩,?_⟩)
  .refine xq (b:=turned.contains (i:Int)) (ie (a:= .int i) (b:= .tup (turned.map .int)) rfl rfl (Cy _ _)) ?_;rw[<-Gh];rfl
  .rw [fO,List.map_append];rfl
theorem Au{S:aN}{bD:D}(hB:bD= .lst (bits.map (mI N))\/bD= .tup (bits.map (mI N)))(NO:gU ins gs os)(hb:bits.length=ins.length)(hS:k6 S){Q:V3->aN->Prop}(h:Q (.d (.lst ((dc ins gs bits turned bad).map (mI N)))) S) :
 W3 (eI [.d (aJ ins gs os), .d bD, .d (mI N one), .d (.tup (turned.map .int)), .d (.tup (bad.map .int))] S) Q:=by
 have hz:sizeLine=16777216:=sizeLine_eq;unfold eI;refine ib hS (tK rfl ?_);simp only[cq,jL,List.map,List.length,List.replicate,List.cons_append,List.nil_append,Nat.reduceAdd,Nat.reduceSub];unfold l6;refine aV <| bU (by simp) <| cI <| av <| bM (d:= .lst (ins.map inD)) rfl <| av <| bM (d:=bD) rfl <| av <| bM (d:=mI N one) rfl <| av <| bM (d:= .tup (bad.map .int)) rfl <| bz <| Ac hB hb NO.hi NO.hw ⟨_,rfl,?_⟩
 simp only[List.set];have hwd:=Gy NO.hw;have hN:=NO.hi;have hG:=NO.hg;refine aV (jA (rn (ds:=dR (gs.map dS)) rfl ?_));refine(c9 (fun i δ S2=>(∃a b c,δ=y0 N S (aJ ins gs os) bD (.tup (turned.map .int)) (.tup (bad.map .int)) a b c)/\S2=S++[SO.lst ((uw gs turned (f_ ins bits bad ins.length) i).map (mI N))])
  ⟨⟨_,_,_,rfl⟩,rfl⟩ ?_).mono fun o S2 ⟨eM,jm,⟨a,b,c,hδ⟩,AG⟩=>⟨eM,jm,?_⟩
 .rintro i v δ S2 hv ⟨⟨a,b,c,rfl⟩,rfl⟩;obtain⟨d,hd,rfl⟩:=yB hv;rw[List.getElem?_map] at hd;cases q:gs[i]? with
  | none=>rw [q] at hd;cases hd
  | some g=>
    rw[q] at hd;cases hd;have hi:i < gs.length:=(List.getElem?_eq_some_iff.mp q).1;have hl:(uw gs turned (f_ ins bits bad ins.length) i).length=js ins+i:=by rw[qh _ (by omega),nU hb _ (Nat.le_refl _),List.take_length]
    refine⟨y0 N S (aJ ins gs os) bD (.tup (turned.map .int)) (.tup (bad.map .int)) (some (.d (.int i))) (some (.d (dS g))) c,rfl,?_⟩;refine(Eh (by rw[hl];exact NO.g i g q) (by rw[hl];omega)).mono fun o S4 ⟨⟨c4,e4⟩,e5⟩=>⟨_,e4,⟨_,_,_,rfl⟩,?_⟩
    rw[e5];show _=S++[SO.lst ((match gs[i]? with | some g=>uw gs turned (f_ ins bits bad ins.length) i++[fun p=>gF g (uw gs turned (f_ ins bits bad ins.length) i) p !=turned.contains (i:Int)] | none=>uw gs turned (f_ ins bits bad ins.length) i).map (mI N))]
    rw[q]
 have hlen:((dR (gs.map dS)).map V3.d).length=gs.length:=by simp [dR]
 rw[hlen] at AG;subst hδ AG;exact d9 (w_var rfl ⟨_,rfl,by unfold eu;exact decide_eq_true (Nat.le_refl _),⟨_,rfl⟩,_,by unfold res;rw [bG];rfl,h⟩)
def dA(N:Nat)(os:X0)(ws:List M):List D:=os.map fun x=> .tup ((tell ws x).map (mI N))
theorem CW{S:aN}{ws:List M}(hO:os.length < 1000)(ho:∀x∈os,x.2.length < 1000/\∀w∈x.2,w < ws.length)(hS:k6 S){Q:V3->aN->Prop}(h:Q (.d (.lst (dA N os ws))) S) :
 W3 (fA [.d (aJ ins gs os), .d (.lst (ws.map (mI N)))] S) Q:=by
 have hz:sizeLine=16777216:=sizeLine_eq;unfold fA;refine ib hS (tK rfl ?_);simp only[cq,jc,List.map,List.length,List.replicate,List.cons_append,List.nil_append,Nat.reduceAdd,Nat.reduceSub];unfold og;refine d9 (mX (ds:=dA N os ws) ?_ ⟨_,rfl,by unfold eu;exact decide_eq_true (Nat.le_refl _),⟨_,rfl⟩,_,by unfold res;rw [bG],h⟩)
 refine ck (ds:=os.map tj) (k4 (ay (a:=aJ ins gs os) (b:= .int 2) rfl rfl rfl)) (by rw[List.length_map];omega) ?_
 unfold dA;refine NT.bL tj _ fun(x:Str × List Nat) hx=>⟨[.val (.str x.1), .val (.tup (x.2.map nI)), .val (.lst (ws.map (mI N)))],rfl,rfl,?_⟩
 exact aA (ds:=[.lst (ws.map (mI N)), .tup (x.2.map nI)]) rfl (Lh (ho x hx).2 (ho x hx).1)
end
end K31
end
section
namespace K31
open PySem PySem.Spec PyProof.Rows L2 L3 MT
def r0(xs:List M):M:=fun p=>(vZ (xs.map (· p))).1
def r1(xs:List M):M:=fun p=>(vZ (xs.map (· p))).2
theorem uM{n:Nat}{ds:List D}{δ:aw}{j:Int}(h:ai 0 δ= .ok (.tup ds))(hl:ds.length=n):b2 l4 (aQ eW (ak (ai 0) aP)) (eC (.int j)) δ= .ok (decide ((n:Int)=j)):=by
 refine ie (a:= .int n) (b:= .int j) (aA (ds:=[.tup ds]) (aq h rfl) ?_) rfl ?_
 .show R.ok (D.int ds.length)=_;rw[hl]
 .show R.ok (D.bl ((n:Int)==j))=_;congr 2
theorem ue{N:Nat}{xs:List M}(h:1<=xs.length/\xs.length<=3):ix [.tup (xs.map (mI N)),mI N one]= .ok (.tup [mI N (r0 xs),mI N (r1 xs)]):=by
 have hz:sizeLine=16777216:=sizeLine_eq;unfold ix wj
 match xs,h with
 | [a],_=>
   refine di (bK (ia (uM (n:=1) rfl rfl) rfl) (bK (jM (d:=mI N a) (xq (uM (n:=1) rfl rfl) (ay (a:= .tup [mI N a]) (b:= .int 0) rfl rfl B4)) (by simp [dz,oC])) (cN ?_)))
   exact cH (aq (ay (a:=mI N one) (b:=mI N a) rfl rfl (yY N a)) (aq rfl rfl)) (by simp;omega)
 | [a,b],_=>
   refine di (NT.kO (si (uM (n:=2) rfl rfl) (cN ?_)));exact cH (aq (ay (a:=mI N one) (b:=mI N fun p=>a p || b p) rfl (ay (ay rfl rfl B4) (ay rfl rfl Em) (yc N a b)) (yY N _)) (aq (ay (ay rfl rfl B4) (ay rfl rfl Em) (uf N a b)) rfl)) (by simp;omega)
 | [a,b,c],_=>
   refine di (bK (ia (uM (n:=3) rfl rfl) rfl) (bK (jM (d:=mI N fun p=>(a p && b p) || (a p && c p) || (b p && c p)) (xq (uM (n:=3) rfl rfl) (aA (ds:=[.tup [mI N a,mI N b,mI N c]]) rfl Ds)) (by simp [dz,oC])) (cN ?_)))
   exact cH (aq (ay (a:=mI N one) (b:=mI N fun p=>(a p && b p) || (a p && c p) || (b p && c p)) rfl rfl (yY N _)) (aq rfl rfl)) (by simp;omega)
theorem AR{N n:Nat}{f:M}:fS [mI N f, .int n]= .ok (.int (if decide (n < N) && f n then 1 else 0)):=by
 unfold fS y3;refine di (cN ?_);have h:=Oo N f n;show(R.bind (R.bind (R.ok (mI N f)) fun d=>R.bind (R.ok (D.int n)) fun e=>A8 d e) fun d=>R.bind (R.ok (D.int 1)) fun e=>De d e)=_
 exact h
theorem uz{bs:List Bool}(hl:bs.length < 100000):ip [.lst (bs.map bI)]= .ok (.int (Io bs)):=by
 unfold ip xh;refine di (bK (jM (d:= .int 0) rfl (by simp [dz,rp])) ?_)
 obtain⟨dv,e1,a2,AD⟩:=lH (t:=aO 2) (body:=nu) (ds:=(bs.map bI).reverse)
  (fun i δ=>∃a2,δ=[.val (.lst (bs.map bI)), .val (.int (Io (bs.drop (bs.length - i)))),a2]) (δ:=[.val (.lst (bs.map bI)), .val (.int 0), .un]) ⟨.un,by simp [Io]⟩ (by
    rintro i d δ hd ⟨a2,rfl⟩;have hi:i < bs.length:=by
     have:=(List.getElem?_eq_some_iff.mp hd).1
     rwa [List.length_reverse,List.length_map] at this
    rw[List.getElem?_reverse (by rw[List.length_map];exact hi),List.length_map,List.getElem?_map,List.getElem?_eq_getElem (by omega:bs.length - 1 - i < bs.length)] at hd
    cases hd;have hdr:bs.drop (bs.length - (i+1))=bs[bs.length - 1 - i] ::bs.drop (bs.length - i):=by
     rw[show bs.length - (i+1)=bs.length - 1 - i by omega,List.drop_eq_getElem_cons (by omega:bs.length - 1 - i < bs.length),show bs.length - 1 - i+1=bs.length - i by omega]
    refine⟨_,?_,⟨.val (bI bs[bs.length - 1 - i]),rfl⟩⟩;have hm:(Io (bs.drop (bs.length - (i+1))):Int)=(Io (bs.drop (bs.length - i)):Int)*2+(if bs[bs.length - 1 - i] then 1 else 0):=by
     rw[hdr];show(((if bs[bs.length - 1 - i] then 1 else 0)+2*Io (bs.drop (bs.length - i)):Nat):Int)=_
     cases bs[bs.length - 1 - i] <;> simp <;> omega
    rw[hm];generalize (Io (bs.drop (bs.length - i)):Int)=m;generalize bs[bs.length - 1 - i]=x;generalize D.lst (bs.map bI)=y;rw[show aO 2 (bI x) [.val y, .val (.int m),a2]= .ok [.val y, .val (.int m), .val (bI x)] from rfl,R.aT]
    unfold nu;exact jM (ay (a:= .int (m*2)) (b:=bI x) (ay (a:= .int m) (b:= .int 2) rfl rfl (cw _ (.inr ⟨by omega,by omega⟩))) rfl rfl) (by simp))
 refine bK (qM (ds:=(bs.map bI).reverse) rfl e1) ?_;rw[List.length_reverse,List.length_map,Nat.sub_self,List.drop_zero] at AD;subst AD;exact cN rfl
def dw:Nat->List (List Bool)
 | 0=>[[]]
 | c+1=>(dw c).flatMap fun b=>[b++[false],b++[true]]
theorem dY:∀c,(dw c).length=2 ^ c
 | 0=>rfl
 | c+1=>by
   unfold dw;rw[List.length_flatMap];have:(dw c).map (fun b=>[b++[false],b++[true]].length)=(dw c).map fun _=>2:=rfl
   rw[this,List.map_const',List.sum_replicate_nat,dY c];omega
theorem rq:∀c,∀b∈dw c,b.length=c
 | 0,b,h=>by unfold dw at h;rw [List.mem_singleton.mp h];rfl
 | c+1,b,h=>by
   unfold dw at h;obtain⟨a,ha,hb⟩:=List.mem_flatMap.mp h;have:=rq c a ha;simp only[List.mem_cons,List.not_mem_nil,or_false] at hb;rcases hb with rfl | rfl <;> simp [this]
def hX(b:List Bool):D:= .tup (b.map bI)
def aE(c:Nat)(VF:Option V3)(a2 a3 a4:Option V3):DE:=[some (.d (nI c)),VF,a2,a3,a4]
theorem v8{c:Nat}{S:aN}(hc:c<=10)(hS:k6 S){Q:V3->aN->Prop}(h:Q (.d (.lst ((dw c).map hX))) S):W3 (i4 [.d (nI c)] S) Q:=by
 have hz:sizeLine=16777216:=sizeLine_eq;unfold i4;refine ib hS (tK rfl ?_);simp only[cq,jB,List.map,List.length,List.replicate,List.cons_append,List.nil_append,Nat.reduceAdd,Nat.reduceSub];unfold mF;refine aV <| bU (by simp) <| mX (ds:=(dw 0).map hX) rfl ⟨_,rfl,?_⟩
 simp only[List.set];refine aV <| jA <| rn (fD (n:=c) rfl (by omega)) ?_
 refine(c9 (fun i δ S2=>∃(T:aN) (a2 a3 a4:Option V3),S2=S++T++[.lst ((dw i).map hX)]/\δ=aE c (some (.loc (S++T).length)) a2 a3 a4)
  ⟨[],none,none,none,by simp,by simp [aE]⟩ ?_).mono fun o S2 ⟨eM,jm,T,a2,a3,a4,AG,hδ⟩=>⟨eM,jm,?_⟩
 .rintro i v δ S2 hv ⟨T,a2,a3,a4,rfl,rfl⟩;have hi:i < c:=by
   have:=(List.getElem?_eq_some_iff.mp hv).1
   rwa [List.length_map,eg,List.length_map,List.length_range] at this
  have hpow:(dw i).length<=1024:=by
   rw[dY];exact Nat.pow_le_pow_right (by omega) (by omega:i<=10)
  refine⟨aE c (some (.loc (S++T).length)) (some v) a3 a4,rfl,?_⟩;unfold nv aE;refine OO (i:=1) rfl (bG _ _) ?_;rw[fO];simp only[List.set];refine aV <| bU (by simp) <| mX (ds:=[]) rfl ⟨_,rfl,?_⟩
  simp only[List.set];generalize hU:S++T++[SO.mf]=U;refine aV <| jA <| rn (ds:=(dw i).map hX) rfl ?_
  refine(c9 (fun j δ S3=>(∃b4,δ=[some (.d (nI c)),some (.d (.lst ((dw i).map hX))),some v,some (.loc U.length),b4])/\S3=U++[.lst ((((dw i).take j).flatMap fun b=>[b++[false],b++[true]]).map hX)])
   ⟨⟨_,rfl⟩,by simp⟩ ?_).mono fun o S3 ⟨SE,e3,⟨b4,Ny⟩,NK⟩=>⟨SE,e3,?_⟩
  .rintro j v3 δ S3 hv3 ⟨⟨b4,rfl⟩,rfl⟩;obtain⟨b,hb,rfl⟩:=NT.jr hv3;have hj:=(List.getElem?_eq_some_iff.mp hb).1;have hbl:=rq i b (List.mem_of_getElem? hb);refine⟨[some (.d (nI c)),some (.d (.lst ((dw i).map hX))),some v,some (.loc U.length),some (.d (hX b))],rfl,?_⟩;unfold nh;generalize hL:((((dw i).take j).flatMap fun b=>[b++[false],b++[true]]).map hX)=L
   have hLl:L.length<=2048:=by
    rw[<-hL,List.length_map,List.length_flatMap];have:((dw i).take j).map (fun b=>[b++[false],b++[true]].length)=((dw i).take j).map fun _=>2:=rfl
    rw[this,List.map_const',List.sum_replicate_nat,List.length_take];omega
   have add:∀(x:Bool) (δ:aw),ai 4 δ= .ok (hX b)->e2 sC (ai 4) (dP (ak (eC (bI x)) aP)) δ= .ok (hX (b++[x])):=fun x δ h4=>by
    refine ay (a:=hX b) (b:= .tup [bI x]) h4 (cH rfl (by simp;omega)) ?_
    show R.bJ (decide ((b.map bI).length+[bI x].length<=sizeLine)) _=_;rw[cw _ (by rw[List.length_map];simp;omega)]
    unfold hX;rw[List.map_append];rfl
   refine aV <| oX (k:=U.length) rfl ⟨_,bG _ _⟩ <| bM (d:=hX (b++[false])) (add false _ rfl) ⟨_,_,rfl,bG _ _,by omega,_,rfl,?_⟩
   rw[fO];refine oX (k:=U.length) rfl ⟨_,bG _ _⟩ <| bM (d:=hX (b++[true])) (add true _ rfl) ⟨_,_,rfl,bG _ _,by rw[List.length_append];simp;omega,_,rfl,⟨_,rfl⟩,?_⟩
   rw[fO,List.take_add_one,hb,List.flatMap_append,List.map_append,hL];simp
  rw[List.length_map,List.length_map,List.take_length] at NK;subst Ny NK;refine bU (by simp) <| w_var (v:= .loc U.length) rfl ⟨_,rfl,T++[SO.mf],some v,some (.loc U.length),b4,?_,?_⟩
  .rw [<-hU,List.append_assoc S];rfl
  .rw [<-hU,List.append_assoc S];rfl
 have hlen:((eg 0 c).map V3.d).length=c:=by simp [eg]
 rw[hlen] at AG;subst hδ AG;unfold aE;refine d9 (w_var rfl ⟨_,rfl,by unfold eu;exact decide_eq_true (by rw[List.length_append];omega),⟨T++[.lst ((dw c).map hX)],by rw[List.append_assoc]⟩,_,by unfold res;rw [bG],h⟩)
end K31
end
section
namespace K31
open PySem PySem.Spec PyProof.Rows L2 L3 MT
def Rh(c j:Nat):M:=fun p=>((dw c).getD p []).getD j false
def vv(c:Nat):List M:=(List.range c).map (Rh c)
theorem LO{b:List Bool}{j:Nat}(h:j < b.length):cy (hX b) (.int j)= .ok (bI (b.getD j false)):=by
 refine uA ?_;rw[rF (by omega) (by rw[List.length_map,Int.toNat_natCast];exact h)]
 rw[List.getD_eq_getElem?_getD,List.getElem?_eq_getElem h];simp
theorem BG{c j:Nat}(hc:c<=10)(hj:j < c):lS [.lst ((dw c).map hX), .int j]= .ok (mI (2 ^ c) (Rh c j)):=by
 have hz:sizeLine=16777216:=sizeLine_eq;have hp:2 ^ c<=1024:=Nat.pow_le_pow_right (by omega) hc
 unfold lS wM;refine di (cN (aA (ds:=[.lst (((dw c).map fun b=>b.getD j false).map bI)]) (aq (dt (ck (ds:=(dw c).map hX) rfl (by rw[List.length_map,dY];omega) ?_)) rfl) ?_))
 .rw [List.map_map];exact NT.bL hX _ fun b hb=>⟨[.val (hX b), .val (.int j)],rfl,rfl,ay (a:=hX b) (b:= .int j) rfl rfl (LO (by rw[rq c b hb];exact hj))⟩
 .rw [uz (by rw[List.length_map,dY];omega),FL,List.length_map,dY]
  unfold mI;congr 3;refine lN fun p Sj=>?_
  unfold Rh;rw[List.getD_eq_getElem?_getD,List.getElem?_map,List.getD_eq_getElem?_getD (l:=dw c),List.getElem?_eq_getElem (by rw[dY];exact Sj)]
  rfl
section
variable {c:Nat} {ins:XZ} {gs:List Gt} {os:X0}
abbrev Ed:=Str.ofString "net"
abbrev wZ:=Str.ofString "many_inputs"
abbrev wQ:=Str.ofString "full"
abbrev q9:=Str.ofString "in_masks"
def cL(c:Nat)(nt:D):List (Str × V3):=[(Ed, .d nt),(wZ, .d (nI (2 ^ c))),(wQ, .d (mI (2 ^ c) one)),(q9, .d (.lst ((vv c).map (mI (2 ^ c)))))]
theorem yd{S:aN}(hc:ins.length=c)(vL:c<=10)(hS:k6 (S++[.ins 0 []])){Q:V3->aN->Prop}(h:Q (.d .de) (S++[.ins 0 (cL c (aJ ins gs os))])) :
 W3 (bQ [.loc S.length, .d (aJ ins gs os)] (S++[.ins 0 []])) Q:=by
 have hz:sizeLine=16777216:=sizeLine_eq;have hp:2 ^ c<=1024:=Nat.pow_le_pow_right (by omega) vL
 unfold bQ;refine OF rfl ?_;simp only[cq,dk,List.map,List.length,List.replicate,List.cons_append,List.nil_append,Nat.reduceAdd,Nat.reduceSub];unfold iC;refine aV <| bU (by simp) <| cI <| av <| bM (d:=nI c) (aA (ds:=[.lst (ins.map inD)]) rfl (by rw[k5,List.length_map,hc];rfl)) <| bz <| v8 vL hS ⟨_,rfl,?_⟩
 simp only[List.set];refine aV <| ke (k:=S.length) <| bM (d:=aJ ins gs os) rfl <| w_var (v:= .loc S.length) rfl ⟨_,rfl,bG _ _,by simp,_,rfl,?_⟩
 rw[fO];refine aV <| ke (k:=S.length) <| bM (d:=nI (2 ^ c)) (aA (ds:=[.lst ((dw c).map hX)]) rfl (by rw[k5,List.length_map,dY];rfl)) <| w_var (v:= .loc S.length) rfl ⟨_,rfl,bG _ _,by unfold zC;simp,_,rfl,?_⟩
 rw[fO];refine aV <| ke (k:=S.length) <| bM (d:=mI (2 ^ c) one) (aA (ds:=[.lst (((dw c).map fun _=>true).map bI)]) (aq (dt (ck (ds:=(dw c).map hX) rfl (by rw[List.length_map,dY];omega) ?_)) rfl) ?_) <| w_var (v:= .loc S.length) rfl ⟨_,rfl,bG _ _,?_,_,rfl,?_⟩
 .rw [List.map_map];exact NT.bL hX _ fun b hb=>⟨[.val (hX b)],rfl,rfl,rfl⟩
 .rw [uz (by rw[List.length_map,dY];omega),FL,List.length_map,dY]
  unfold mI;congr 3;refine lN fun p Sj=>?_
  rw[List.getD_eq_getElem?_getD,List.getElem?_map,List.getElem?_eq_getElem (by rw[dY];exact Sj)]
  rfl
 .exact(by decide:2 < 1000)
 rw[fO];refine ke (k:=S.length) <| bM (d:= .lst ((vv c).map (mI (2 ^ c)))) (dt (ck (ds:=eg 0 c) (fD (n:=c) (aA (ds:=[.lst (ins.map inD)]) rfl (by rw[k5,List.length_map,hc])) (by omega)) (by simp [eg];omega) ?_)) <| w_var (v:= .loc S.length) rfl ⟨_,rfl,bG _ _,?_,_,rfl,?_⟩
 .unfold vv;rw[List.map_map];unfold eg;refine NT.bL (fun i:Nat=>D.int (0+(i:Int))) _ fun j hj=>⟨[.val (.int (0+(j:Int))), .val (.lst ((dw c).map hX))],rfl,rfl,aA (ds:=[.lst ((dw c).map hX), .int j]) ?_ (BG vL (List.mem_range.mp hj))⟩
  rw[Int.zero_add];rfl
 .exact(by decide:3 < 1000)
 rw[fO];exact h
end
end K31
end
section
namespace K31
open PySem PySem.Spec PyProof.Rows L2 L3 MT
section
variable {c:Nat} {ins:XZ} {gs:List Gt} {os:X0} {S:aN} {k:Nat} {turned bad:List Int}
theorem U6:(wZ==Ed)=false:=by decide+kernel
theorem Ur:(wQ==Ed)=false:=by decide+kernel
theorem Us:(wQ==wZ)=false:=by decide+kernel
theorem Vm:(q9==Ed)=false:=by decide+kernel
theorem UZ:(q9==wZ)=false:=by decide+kernel
theorem UR:(q9==wQ)=false:=by decide+kernel
theorem Fb{nt:D}:(cL c nt).lookup Ed=some (.d nt):=by unfold cL;rw [List.lookup_cons,beq_self_eq_true]
theorem C4{nt:D}:(cL c nt).lookup wZ=some (.d (nI (2 ^ c))):=by unfold cL;rw [List.lookup_cons,U6,List.lookup_cons,beq_self_eq_true]
theorem yq{nt:D}:(cL c nt).lookup wQ=some (.d (mI (2 ^ c) one)):=by unfold cL;rw [List.lookup_cons,Ur,List.lookup_cons,Us,List.lookup_cons,beq_self_eq_true]
theorem Ha{nt:D}:(cL c nt).lookup q9=some (.d (.lst ((vv c).map (mI (2 ^ c))))):=by unfold cL;rw [List.lookup_cons,Vm,List.lookup_cons,UZ,List.lookup_cons,UR,List.lookup_cons,beq_self_eq_true]
theorem qJ:(vv c).length=c:=by unfold vv;simp
abbrev Wd(c:Nat)(ins:XZ)(gs:List Gt)(turned bad:List Int):List M:=dc ins gs (vv c) turned bad
theorem xt(m:Str)(nt:D)(h1:(m==Ed)=false)(h2:(m==wZ)=false)(h3:(m==wQ)=false)(h4:(m==q9)=false):(cL c nt).lookup m=none:=by unfold cL;rw [List.lookup_cons,h1,List.lookup_cons,h2,List.lookup_cons,h3,List.lookup_cons,h4];rfl
theorem F7(NO:gU ins gs os)(hc:ins.length=c)(hS:k6 S)(hb:S[k]? =some (.ins 0 (cL c (aJ ins gs os)))){Q:V3->aN->Prop}(h:Q (.d (.lst (dA (2 ^ c) os (Wd c ins gs turned bad)))) S) :
 W3 (gA [.loc k, .d (.tup (turned.map .int)), .d (.tup (bad.map .int))] S) Q:=by
 have hz:sizeLine=16777216:=sizeLine_eq;unfold gA;refine ib hS (tK rfl ?_);simp only[cq,iX,List.map,List.length,List.replicate,List.cons_append,List.nil_append,Nat.reduceAdd,Nat.reduceSub];unfold k7;have hl:(vv c).length=ins.length:=by rw[qJ,hc]
 refine d9 <| cI <| av <| w_fld (k:=k) <| w_var (v:= .loc k) rfl ⟨_,_,rfl,hb,Fb,?_⟩
 refine av <| cI <| av <| w_fld (k:=k) <| w_var (v:= .loc k) rfl ⟨_,_,rfl,hb,Fb,?_⟩
 refine av <| w_fld (k:=k) <| w_var (v:= .loc k) rfl ⟨_,_,rfl,hb,Ha,?_⟩
 refine av <| w_fld (k:=k) <| w_var (v:= .loc k) rfl ⟨_,_,rfl,hb,yq,?_⟩
 refine av <| bM (d:= .tup (turned.map .int)) rfl <| av <| bM (d:= .tup (bad.map .int)) rfl <| bz ?_
 refine Au (.inl rfl) NO hl hS (bz ?_);refine CW NO.ho (fun x hx=>⟨(NO.o x hx).1,fun w hw=>by rw[zy hl];exact(NO.o x hx).2 w hw⟩) hS ?_
 exact⟨_,rfl,by unfold eu;rfl,⟨[],by simp⟩,_,by unfold res;rfl,h⟩
def A3(N:Nat)(os:X0)(ws:List M):List D:=os.map fun x=> .tup [mI N (r0 (tell ws x)),mI N (r1 (tell ws x))]
theorem kL(NO:gU ins gs os)(hc:ins.length=c)(ho:∀x∈os,1<=x.2.length/\x.2.length<=3)(hS:k6 S)(hb:S[k]? =some (.ins 0 (cL c (aJ ins gs os)))){Q:V3->aN->Prop}(h:Q (.d (.lst (A3 (2 ^ c) os (Wd c ins gs turned [])))) S) :
 W3 (bE [.loc k, .d (.tup (turned.map .int))] S) Q:=by
 have hz:sizeLine=16777216:=sizeLine_eq;have hO:=NO.ho;unfold bE;refine ib hS (tK rfl ?_);simp only[cq,d6,List.map,List.length,List.replicate,List.cons_append,List.nil_append,Nat.reduceAdd,Nat.reduceSub];unfold iz;refine d9 <| jG (fun j ds S2=>S2=S/\ds=(A3 (2 ^ c) os (Wd c ins gs turned [])).take j) ?_
 refine mz <| jq (k:=k) <| w_var (v:= .loc k) rfl ⟨_,rfl,hb,xt _ _ (by decide+kernel) (by decide+kernel) (by decide+kernel) (by decide+kernel),?_⟩
 refine av <| bM (d:= .tup (turned.map .int)) rfl <| av <| bM (d:= .tup (([]:List Int).map .int)) rfl <| bz ?_
 refine F7 NO hc hS hb ⟨_,rfl,?_,⟨rfl,by simp⟩,?_,?_⟩
 .rw [List.length_map,dA,List.length_map];omega
 .rintro j v ds S2 hv ⟨rfl,rfl⟩;rw[dA] at hv;obtain⟨x,hx,rfl⟩:=NT.jr hv;refine⟨[some (.d (.tup ((tell (Wd c ins gs turned []) x).map (mI (2 ^ c))))),some (.loc k)],rfl,sg ?_⟩;rw[if_pos rfl];refine qu <| av <| bM (d:= .tup ((tell (Wd c ins gs turned []) x).map (mI (2 ^ c)))) rfl <| av <| w_fld (k:=k) <| w_var (v:= .loc k) rfl ⟨_,_,rfl,hb,yq,bz ⟨[.tup ((tell (Wd c ins gs turned []) x).map (mI (2 ^ c))),mI (2 ^ c) one],_,rfl,ue ?_,_,rfl,rfl,?_⟩⟩
  .unfold tell;rw [List.length_map];exact ho x (List.mem_of_getElem? hx)
  .unfold A3;rw[List.take_add_one,List.getElem?_map,hx];rfl
 .rintro ds S2 ⟨rfl,rfl⟩;rw[List.length_map,dA,List.length_map,List.take_of_length_le (by rw[A3,List.length_map];exact Nat.le_refl _)]
  exact⟨_,rfl,by unfold eu;rfl,⟨[],by simp⟩,_,by unfold res;rfl,h⟩
theorem mK{nt:D}{f:M}(hc:c<=10)(hS:k6 S)(hb:S[k]? =some (.ins 0 (cL c nt))){Q:V3->aN->Prop}(h:Q (.d (.lst (((List.range (2 ^ c)).filter f).map nI))) S) :
 W3 (cx [.loc k, .d (mI (2 ^ c) f)] S) Q:=by
 have hz:sizeLine=16777216:=sizeLine_eq;have hp:2 ^ c<=1024:=Nat.pow_le_pow_right (by omega) hc
 unfold cx;refine ib hS (tK rfl ?_);simp only[cq,dI,List.map,List.length,List.replicate,List.cons_append,List.nil_append,Nat.reduceAdd,Nat.reduceSub];unfold gM;refine d9 <| jG (fun j ds S2=>S2=S/\ds=((List.range j).filter f).map nI) ?_
 refine xQ <| w_fld (k:=k) <| w_var (v:= .loc k) rfl ⟨_,_,rfl,hb,C4,2 ^ c,rfl,by omega,?_⟩
 have hlen:((eg 0 (2 ^ c)).map V3.d).length=2 ^ c:=by simp [eg]
 rw[hlen];refine⟨by omega,⟨rfl,rfl⟩,?_,?_⟩
 .rintro j v ds S2 hv ⟨rfl,rfl⟩;obtain⟨hj,rfl⟩:=NT.xK hv;refine⟨[some (.d (.int j)),some (.d (mI (2 ^ c) f))],rfl,rg (b:=f j) ?_ ?_⟩
  .refine ie (a:= .int (if decide (j < 2 ^ c) && f j then 1 else 0)) (b:= .int 1) (aA (ds:=[mI (2 ^ c) f, .int j]) rfl AR) rfl ?_
   rw[decide_eq_true hj,Bool.true_and];cases f j <;> rfl
  .rw [List.range_succ,List.filter_append,List.map_append];cases hf:f j with
   | true=>rw [if_pos rfl];exact bM (d:=nI j) rfl ⟨_,rfl,rfl,by simp [hf]⟩
   | false=>rw [if_neg (by decide)];exact⟨rfl,by simp [hf]⟩
 .rintro ds S2 ⟨rfl,rfl⟩;exact⟨_,rfl,by unfold eu;rfl,⟨[],by simp⟩,_,by unfold res;rfl,h⟩
end
end K31
end
section
namespace K31
open PySem PySem.Spec PyProof.Rows L2 L3 MT
theorem pE(n:Nat):eg 0 n=(List.range n).map nI:=by
 unfold eg;refine List.map_congr_left fun i _=>?_
 show D.int (0+(i:Int))=D.int (i:Int);rw[Int.zero_add]
def jF(T:List Nat):D:= .tup (T.map nI)
theorem IW{ps:List Nat}{a:Nat}(ha:a < ps.length):Pe (.lst (ps.map nI)) (some ((a+1:Nat):Int)) none= .ok (.lst ((ps.drop (a+1)).map nI)):=by
 show R.ok (D.lst (L2.cutD (ps.map nI) (some ((a+1:Nat):Int)) none))=_;congr 2;unfold L2.cutD;rw[List.length_map,HT.C6,HT.ze,Nat.min_eq_left (by omega),<-List.map_drop,<-List.map_take,List.take_of_length_le (by rw[List.length_drop];omega)]
theorem LV{ds es:List D}(h:ds.length+es.length<=sizeLine):sC (.tup ds) (.tup es)= .ok (.tup (ds++es)):=cw _ h
theorem uG:∀(n s:Nat) (ps:List Nat),s<=n->n<=3->ps.length<=100->eG (n+1) [.lst (ps.map nI), .int s]= .ok (.lst ((n8 ps s).map jF))
 | n,0,ps,_,_,_=>by
   show sV lT (lQ (eG n)) _=_;unfold lQ;exact di (NT.kO (si (ie (a:= .int 0) (b:= .int 0) rfl rfl rfl) (cN rfl)))
 | 0,s+1,ps,h,_,_=>by omega
 | n+1,s+1,ps,h,hn,hp=>by
   have hz:sizeLine=16777216:=sizeLine_eq;show sV lT (lQ (eG (n+1))) _=_;unfold lQ;have hcl:(n8 ps (s+1)).length<=100 ^ (s+1):=t6 hp;have hpow:∀m,m<=3->(100:Nat) ^ m<=1000000:=fun m hm=>Nat.pow_le_pow_right (by omega) hm
   refine di (bK (ia (ie (a:= .int (s+1:Nat)) (b:= .int 0) (k:=false) rfl rfl ?_) rfl) ?_)
   .show R.ok (D.bl (((s+1:Nat):Int)==0))=_;congr 2
   refine bK (CM (ds:=[]) rfl (by simp [dz,lT])) ?_
   let F:Nat->X1:=fun i=>(List.range i).flatMap fun a=>(n8 (ps.drop (a+1)) s).map (ps.getD a 0 ::·)
   have hF:∀i,i<=ps.length->(F i).length<=i*100 ^ s:=fun i hi=>by
    show((List.range i).flatMap fun a=>(n8 (ps.drop (a+1)) s).map (ps.getD a 0 ::·)).length<=_
    rw[List.length_flatMap];refine Nat.le_trans (BQ (m:=100 ^ s) fun x hx=>?_) (by rw[List.length_map,List.length_range];exact Nat.le_refl _)
    obtain⟨a,_,rfl⟩:=List.mem_map.mp hx;rw[List.length_map];exact t6 (by rw[List.length_drop];omega)
   have hFs:∀i,F (i+1)=F i++(n8 (ps.drop (i+1)) s).map (ps.getD i 0 ::·):=fun i=>by
    show(List.range (i+1)).flatMap _=_;rw[List.range_succ,List.flatMap_append];simp [F]
   obtain⟨dv,e1,a3,a4,a5,AD⟩:=lH (t:=ic 2 (cj (aO 3) (cj (aO 4) ig))) (body:=nQ (eG (n+1))) (ds:=dR (ps.map nI))
    (fun i δ=>∃a3 a4 a5,δ=[.val (.lst (ps.map nI)), .val (.int (s+1:Nat)), .bld ((F i).map jF),a3,a4,a5]) (δ:=[.val (.lst (ps.map nI)), .val (.int (s+1:Nat)), .bld [], .un, .un, .un]) ⟨.un, .un, .un,by simp [F]⟩ (by
      rintro i d δ hd ⟨a3,a4,a5,rfl⟩;have hv:((dR (ps.map nI)).map V3.d)[i]? =some (.d d):=by rw[List.getElem?_map,hd];rfl
      obtain⟨d0,Pq,ed⟩:=yB hv;cases ed;obtain⟨x,hx,rfl⟩:=NT.tM Pq;have hil:=(List.getElem?_eq_some_iff.mp hx).1;have hxd:ps.getD i 0=x:=by rw[List.getD_eq_getElem?_getD,hx];rfl
      have hFi:=hF i (by omega)
      have hFb:i*100 ^ s<=100*100 ^ s:=Nat.mul_le_mul_right _ (by omega)
      have hp2:=hpow (s+1) (by omega)
      rw[Nat.pow_succ,Nat.mul_comm] at hp2;rw[show ic 2 (cj (aO 3) (cj (aO 4) ig)) (.tup [.int i,nI x]) [.val (.lst (ps.map nI)), .val (.int (s+1:Nat)), .bld ((F i).map jF),a3,a4,a5]= .ok [.val (.lst (ps.map nI)), .val (.int (s+1:Nat)), .bld ((F i).map jF), .val (.int i), .val (nI x),a5] from rfl,R.aT]
      unfold nQ;have ihc:=uG n s (ps.drop (i+1)) (by omega) (by omega) (by rw[List.length_drop];omega)
      have hdl:(n8 (ps.drop (i+1)) s).length<=100 ^ s:=t6 (by rw[List.length_drop];omega)
      obtain⟨eM,jm,c5,HU⟩:=lH (t:=aO 5) (body:=nE (eG (n+1))) (ds:=(n8 (ps.drop (i+1)) s).map jF)
       (fun j δ=>∃c5,δ=[.val (.lst (ps.map nI)), .val (.int (s+1:Nat)), .bld ((F i++((n8 (ps.drop (i+1)) s).take j).map (x ::·)).map jF), .val (.int i), .val (nI x),c5]) (δ:=[.val (.lst (ps.map nI)), .val (.int (s+1:Nat)), .bld ((F i).map jF), .val (.int i), .val (nI x),a5]) ⟨a5,by simp⟩ (by
         rintro j d δ hd ⟨c5,rfl⟩;obtain⟨T,hT,rfl⟩:=NT.tM hd;have hjl:=(List.getElem?_eq_some_iff.mp hT).1;have hTl:=(ph (List.mem_of_getElem? hT)).1;refine⟨[.val (.lst (ps.map nI)), .val (.int (s+1:Nat)), .bld ((F i++((n8 (ps.drop (i+1)) s).take (j+1)).map (x ::·)).map jF), .val (.int i), .val (nI x), .val (jF T)],?_,⟨_,rfl⟩⟩
         generalize hL:(F i++((n8 (ps.drop (i+1)) s).take j).map (x ::·)).map jF=L
         have hLl:L.length < sizeLine:=by
          rw[<-hL,List.length_map,List.length_append,List.length_map,List.length_take];omega
         rw[show aO 5 (jF T) [.val (.lst (ps.map nI)), .val (.int (s+1:Nat)), .bld L, .val (.int i), .val (nI x),c5]= .ok [.val (.lst (ps.map nI)), .val (.int (s+1:Nat)), .bld L, .val (.int i), .val (nI x), .val (jF T)] from rfl,R.aT]
         unfold nE;rw[CV (d:=jF (x ::T)) (ds:=L) (ay (a:= .tup [nI x]) (b:=jF T) (cH rfl (by simp;omega)) rfl (LV (by rw[List.length_map];simp;omega))) rfl hLl,<-hL,List.take_add_one,hT]
         simp [jF])
      refine⟨_,qM (ds:=(n8 (ps.drop (i+1)) s).map jF) (k4 (aA (ds:=[.lst ((ps.drop (i+1)).map nI), .int s]) (aq (xR (d:= .lst (ps.map nI)) (lo:=some ((i+1:Nat):Int)) (hi:=none) rfl (GC (ay (a:= .int i) (b:= .int 1) rfl rfl rfl)) rfl (IW hil)) (aq (ay (a:= .int (s+1:Nat)) (b:= .int 1) rfl rfl ?_) rfl)) ihc)) jm,?_⟩
      .show R.ok (D.int (((s+1:Nat):Int) - 1))=_;congr 2;omega
      .rw [List.length_map,List.take_length] at HU;refine⟨.val (.int i), .val (nI x),c5,?_⟩;rw[HU,hFs,hxd])
   refine bK (qM (ds:=dR (ps.map nI)) rfl e1) ?_;have hlen:(dR (ps.map nI)).length=ps.length:=by simp [dR]
   rw[hlen] at AD;subst AD;exact cN rfl
end K31
end
section
namespace K31
open PySem PySem.Spec PyProof.Rows L2 L3 MT
section
variable {c:Nat} {ins:XZ} {gs:List Gt} {os:X0} {S:aN} {k:Nat} {turned:List Int} {safe:Bool}
abbrev pI:=Str.ofString "bench"
abbrev vd:=Str.ofString "plain"
abbrev qt:=Str.ofString "unsure"
def lA(gs:List Gt):List Nat:=(List.range gs.length).filter fun i=>match gs[i]? with | some g=>!g.2.2 | none=>false
def gL(c:Nat)(ins:XZ)(gs:List Gt)(os:X0)(b:Nat):List (Str × V3):=[(pI, .loc b),(vd, .d (.lst (A3 (2 ^ c) os (Wd c ins gs [] [])))),(qt, .d (.lst ((lA gs).map nI)))]
theorem UY:(vd==pI)=false:=by decide+kernel
theorem Vl:(qt==pI)=false:=by decide+kernel
theorem UH:(qt==vd)=false:=by decide+kernel
theorem qw{b:Nat}:(gL c ins gs os b).lookup pI=some (.loc b):=by unfold gL;rw [List.lookup_cons,beq_self_eq_true]
theorem Gs{b:Nat}:(gL c ins gs os b).lookup vd=some (.d (.lst (A3 (2 ^ c) os (Wd c ins gs [] [])))):=by unfold gL;rw [List.lookup_cons,UY,List.lookup_cons,beq_self_eq_true]
theorem G1{b:Nat}:(gL c ins gs os b).lookup qt=some (.d (.lst ((lA gs).map nI))):=by unfold gL;rw [List.lookup_cons,Vl,List.lookup_cons,UH,List.lookup_cons,beq_self_eq_true]
theorem GI{b:Nat}(m:Str)(h1:(m==pI)=false)(h2:(m==vd)=false)(h3:(m==qt)=false):(gL c ins gs os b).lookup m=none:=by unfold gL;rw [List.lookup_cons,h1,List.lookup_cons,h2,List.lookup_cons,h3];rfl
def TS(S:aN)(c:Nat)(ins:XZ)(gs:List Gt)(os:X0):aN:=S++[.ins 1 (gL c ins gs os (S.length+1)), .ins 0 (cL c (aJ ins gs os))]
mutual
theorem Bc{n m:Nat}(h:n<=m):∀v:V3,oa n v=true->oa m v=true
 | .d _,_=>by unfold oa;rfl
 | .loc k,q=>by
   unfold oa at q ⊢;exact decide_eq_true (Nat.lt_of_lt_of_le (of_decide_eq_true q) h)
 | .lst vs,q=>by unfold oa at q ⊢;exact kG h vs q
 | .tup vs,q=>by unfold oa at q ⊢;exact kG h vs q
theorem kG{n m:Nat}(h:n<=m):∀vs:List V3,iF n vs=true->iF m vs=true
 | [],_=>by unfold iF;rfl
 | v ::vs,q=>by
   unfold iF at q ⊢;rw[Bool.and_eq_true] at q ⊢;exact⟨Bc h v q.1,kG h vs q.2⟩
end
theorem oE{n m:Nat}(h:n<=m)(o:SO)(q:pL n o=true):pL m o=true:=by
 cases o with
 | ins k fs=>exact kG h _ q
 | _=>rfl
theorem k6.push{S:aN}(hS:k6 S){x:SO}(hx:∀n,pL n x=true):k6 (S++[x]):=fun o ho=>by
 rcases List.mem_append.mp ho with q | q
 .exact oE (by simp) o (hS o q)
 .rw [List.mem_singleton.mp q];exact hx _
theorem J8{S:aN}(hS:k6 S){x y:SO}(hx:pL (S.length+2) x=true)(hy:pL (S.length+2) y=true):k6 (S++[x,y]):=fun o ho=>by
 rw[show(S++[x,y]).length=S.length+2 by simp]
 rcases List.mem_append.mp ho with q | q
 .exact oE (by omega) o (hS o q)
 .simp only[List.mem_cons,List.not_mem_nil,or_false] at q;rcases q with rfl | rfl
  .exact hx
  .exact hy
theorem Gr{δ:aw}(hg:gs.length < 1000)(h1:ai 1 δ= .ok (aJ ins gs os)):cZ (k8 (e2 cy (ai 1) (eC (.int 1)))) (ic 2 (cj (aO 0) (cj (aO 1) ig))) (Bw (xV (e2 cy (ai 1) (eC (.int 2))))) (ai 0) ["place","gate"] [] δ= .ok ((lA gs).map nI):=by
 have hz:sizeLine=16777216:=sizeLine_eq;refine ck (ds:=dR (gs.map dS)) (Lz (ay (a:=aJ ins gs os) (b:= .int 1) h1 rfl rfl)) (by simp [dR];omega) ?_
 have e:dR (gs.map dS)=(List.range gs.length).map fun i=> .tup [.int i,dS (gs.getD i (0,[],false))]:=by
  refine List.ext_getElem? fun i=>?_
  rw[List.getElem?_map,dR,List.getElem?_map,List.getElem?_zipIdx,List.getElem?_map];by_cases q:i < gs.length
  .rw [List.getElem?_eq_getElem q,List.getElem?_range q];show some (D.tup [.int ((0+i:Nat):Int),dS gs[i]])=some (D.tup [.int i,dS (gs.getD i (0,[],false))]);rw[Nat.zero_add,List.getD_eq_getElem?_getD,List.getElem?_eq_getElem q];rfl
  .rw [List.getElem?_eq_none (by omega),List.getElem?_eq_none (by simp;omega)];rfl
 rw[e];unfold lA;refine NT.my (fun i:Nat=>match gs[i]? with | some g=>!g.2.2 | none=>false) (fun i:Nat=>D.tup [.int i,dS (gs.getD i (0,[],false))]) nI fun i hi=>?_
 rw[List.mem_range] at hi;refine⟨[.val (.int i), .val (dS (gs.getD i (0,[],false)))],rfl,?_,fun _=>rfl⟩
 rw[List.getElem?_eq_getElem hi,List.getD_eq_getElem?_getD,List.getElem?_eq_getElem hi];rfl
theorem zF(NO:gU ins gs os)(hc:ins.length=c)(vL:c<=10)(ho:∀x∈os,1<=x.2.length/\x.2.length<=3)(hS:k6 S){Q:V3->aN->Prop}(h:Q (.d .de) (TS S c ins gs os)) :
 W3 (cP [.loc S.length, .d (aJ ins gs os)] (S++[.ins 1 []])) Q:=by
 have hz:sizeLine=16777216:=sizeLine_eq;unfold cP;refine OF rfl ?_;simp only[cq,dZ,List.map,List.length,List.replicate,List.cons_append,List.nil_append,Nat.reduceAdd,Nat.reduceSub];unfold iq;have l1:(S++[SO.ins 1 []]).length=S.length+1:=by simp
 have g0:∀(x y:SO),(S++[x,y])[S.length]? =some x:=fun x y=>by rw[List.getElem?_append_right (Nat.le_refl _),Nat.sub_self];rfl
 have g1:∀(x y:SO),(S++[x,y])[S.length+1]? =some y:=fun x y=>by rw[List.getElem?_append_right (by omega),show S.length+1 - S.length=1 by omega];rfl
 have st:∀(x y z:SO),(S++[x,y]).set S.length z=S++[z,y]:=fun x y z=>by rw[List.set_append_right _ _ (Nat.le_refl _),Nat.sub_self];rfl
 have ap:∀(x y:SO),S++[x]++[y]=S++[x,y]:=fun x y=>by simp
 refine aV <| ke (k:=S.length) <| uo <| av <| bM (d:=aJ ins gs os) rfl <| bz <| yd hc vL ?_ ⟨rfl,?_⟩
 .rw [ap];exact J8 hS rfl rfl
 rw[ap];refine w_var (v:= .loc S.length) rfl ⟨_,rfl,g0 _ _,by simp,_,rfl,?_⟩
 rw[st,l1];have hcl:∀fs:List (Str × V3),iF (S.length+2) (fs.map (·.2))=true->k6 (S++[.ins 1 fs, .ins 0 (cL c (aJ ins gs os))]):=fun fs hf=>J8 hS hf rfl
 refine aV <| ke (k:=S.length) <| jq (k:=S.length+1) <| w_fld (k:=S.length) <| w_var (v:= .loc S.length) rfl ⟨_,_,rfl,g0 _ _,(by show List.lookup pI [(pI,V3.loc (S.length+1))]=_;rw [List.lookup_cons,beq_self_eq_true]),_,rfl,g1 _ _,xt _ _ (by decide+kernel) (by decide+kernel) (by decide+kernel) (by decide+kernel),?_⟩
 refine av <| bM (d:= .tup (([]:List Int).map .int)) rfl <| bz <| kL NO hc ho (hcl _ ?_) (g1 _ _) ?_
 .show(decide (S.length+1 < S.length+2) && true)=true;rw[decide_eq_true (by omega)];rfl
 refine w_var (v:= .loc S.length) rfl ⟨_,rfl,g0 _ _,(by decide:1 < 1000),_,rfl,?_⟩
 rw[st];refine ke (k:=S.length) <| bM (d:= .lst ((lA gs).map nI)) (dt (Gr NO.hg rfl)) <| w_var (v:= .loc S.length) rfl ⟨_,rfl,g0 _ _,?_,_,rfl,?_⟩
 .exact(by decide:2 < 1000)
 rw[st];exact h
def um(safe:Bool):Str:=if safe then "safe" else "right"
def pt(ws:List M)(x:Str × List Nat)(p:Nat):Bool × Bool:=vZ ((tell ws x).map (· p))
def nO(safe:Bool)(c:Nat)(ins:XZ)(gs:List Gt)(os:X0)(turned:List Int):M:=fun p=>os.any fun x=>brk safe (pt (Wd c ins gs [] []) x p) (pt (Wd c ins gs turned []) x p)
theorem rB{b:Nat}(NO:gU ins gs os)(hc:ins.length=c)(ho:∀x∈os,1<=x.2.length/\x.2.length<=3)(hS:k6 S)(hk:S[k]? =some (.ins 1 (gL c ins gs os b)))(hb:S[b]? =some (.ins 0 (cL c (aJ ins gs os)))){Q:V3->aN->Prop}
 (h:Q (.d (mI (2 ^ c) (nO safe c ins gs os turned))) S):W3 (cA [.loc k, .d (.tup (turned.map .int)), .d (.str (um safe))] S) Q:=by
 have hz:sizeLine=16777216:=sizeLine_eq;unfold cA;refine ib hS (tK rfl ?_);simp only[cq,eP,List.map,List.length,List.replicate,List.cons_append,List.nil_append,Nat.reduceAdd,Nat.reduceSub];unfold gC;have h0:D.int 0=mI (2 ^ c) fun _=>false:=by
  unfold mI;rw[Ap.mpr fun _ _=>rfl];rfl
 refine aV <| bU (by simp) <| bM (d:=mI (2 ^ c) fun _=>false) (by rw[<-h0];rfl) ⟨_,rfl,?_⟩
 simp only[List.set];refine aV <| jA <| OX <| w_fld (k:=k) <| w_var (v:= .loc k) rfl ⟨_,_,rfl,hk,Gs,?_⟩
 refine jq (k:=b) <| w_fld (k:=k) <| w_var (v:= .loc k) rfl ⟨_,_,rfl,hk,qw,_,rfl,hb,xt _ _ (by decide+kernel) (by decide+kernel) (by decide+kernel) (by decide+kernel),?_⟩
 refine av <| bM (d:= .tup (turned.map .int)) rfl <| bz <| kL NO hc ho hS hb ⟨_,_,_,_,rfl,rfl,rfl,rfl,?_⟩
 have hzip:As (A3 (2 ^ c) os (Wd c ins gs [] [])) (A3 (2 ^ c) os (Wd c ins gs turned []))=os.map fun x=> .tup [.tup [mI (2 ^ c) (r0 (tell (Wd c ins gs [] []) x)),mI (2 ^ c) (r1 (tell (Wd c ins gs [] []) x))], .tup [mI (2 ^ c) (r0 (tell (Wd c ins gs turned []) x)),mI (2 ^ c) (r1 (tell (Wd c ins gs turned []) x))]]:=by
  unfold As A3;rw[List.zip_map',List.map_map];rfl
 rw[hzip];refine(c9 (fun i δ S2=>S2=S/\∃a4 a5,δ=[some (.loc k),some (.d (.tup (turned.map .int))),some (.d (.str (um safe))),some (.d (mI (2 ^ c) fun p=>(os.take i).any fun x=>brk safe (pt (Wd c ins gs [] []) x p) (pt (Wd c ins gs turned []) x p))),a4,a5])
  ⟨rfl,none,none,rfl⟩ ?_).mono fun o S2 ⟨eM,jm,AG,a4,a5,hδ⟩=>⟨eM,jm,?_⟩
 .rintro i v δ S2 hv ⟨rfl,a4,a5,rfl⟩;obtain⟨x,hx,rfl⟩:=NT.jr hv;generalize hm:(fun p=>(os.take i).any fun x=>brk safe (pt (Wd c ins gs [] []) x p) (pt (Wd c ins gs turned []) x p))=m
  have hnext:(fun p=>(os.take (i+1)).any fun x=>brk safe (pt (Wd c ins gs [] []) x p) (pt (Wd c ins gs turned []) x p))=fun p=>m p || brk safe (pt (Wd c ins gs [] []) x p) (pt (Wd c ins gs turned []) x p):=by
   funext p;rw[List.take_add_one,hx,List.any_append,<-hm];simp
  rw[hnext];refine⟨[some (.loc k),some (.d (.tup (turned.map .int))),some (.d (.str (um safe))),some (.d (mI (2 ^ c) m)),some (.d (.tup [mI (2 ^ c) (r0 (tell (Wd c ins gs [] []) x)),mI (2 ^ c) (r1 (tell (Wd c ins gs [] []) x))])),some (.d (.tup [mI (2 ^ c) (r0 (tell (Wd c ins gs turned []) x)),mI (2 ^ c) (r1 (tell (Wd c ins gs turned []) x))]))],rfl,?_⟩;unfold jz;refine mD <| rg (b:=safe) (ie (a:= .str (um safe)) (b:= .str "safe") rfl rfl ?_) ?_
  .show R.ok (D.bl (um safe=="safe"))=_;congr 2;cases safe <;> decide+kernel
  cases safe with
  | true=>
    rw[if_pos rfl];refine bU (by simp) <| bM (ay (ay (a:=mI (2 ^ c) m) rfl (ay (ay rfl rfl B4) (ay rfl rfl Em) (uf _ _ _)) (yc _ _ _)) (ay (ay rfl rfl Em) (ay rfl rfl B4) (uf _ _ _)) (yc _ _ _)) ⟨_,rfl,rfl,some (.d (.tup [mI (2 ^ c) (r0 (tell (Wd c ins gs [] []) x)),mI (2 ^ c) (r1 (tell (Wd c ins gs [] []) x))])),some (.d (.tup [mI (2 ^ c) (r0 (tell (Wd c ins gs turned []) x)),mI (2 ^ c) (r1 (tell (Wd c ins gs turned []) x))])),?_⟩
    simp only[List.set];congr 6;refine ud fun p _=>?_
    rw[Bool.or_assoc];rfl
  | false=>
    rw[if_neg (by decide)]
    refine bU (by simp) <| bM (ay (ay (a:=mI (2 ^ c) m) rfl (ay (ay rfl rfl B4) (ay rfl rfl B4) (y7 _ _ _)) (yc _ _ _)) (ay (ay rfl rfl Em) (ay rfl rfl Em) (y7 _ _ _)) (yc _ _ _)) ⟨_,rfl,rfl,some (.d (.tup [mI (2 ^ c) (r0 (tell (Wd c ins gs [] []) x)),mI (2 ^ c) (r1 (tell (Wd c ins gs [] []) x))])),some (.d (.tup [mI (2 ^ c) (r0 (tell (Wd c ins gs turned []) x)),mI (2 ^ c) (r1 (tell (Wd c ins gs turned []) x))])),?_⟩
    simp only[List.set];congr 6;refine ud fun p _=>?_
    rw[Bool.or_assoc];rfl
 rw[List.length_map,List.length_map,List.take_length] at hδ;subst hδ AG;exact d9 <| bM (d:=mI (2 ^ c) (nO safe c ins gs os turned)) rfl ⟨_,rfl,by unfold eu;rfl,⟨[],by simp⟩,_,by unfold res;rfl,h⟩
end
end K31
end
section
namespace K31
open PySem PySem.Spec PyProof.Rows L2 L3 MT
def nZ(ps:List Nat):List Int:=ps.map fun(n:Nat)=>(n:Int)
theorem RB(ps:List Nat):(nZ ps).map D.int=ps.map nI:=by unfold nZ;rw [List.map_map];rfl
section
variable {c:Nat} {ins:XZ} {gs:List Gt} {os:X0} {S:aN} {k:Nat} {safe:Bool}
def AJ(T:List Nat)(p:Nat):D:= .tup [.str "breaks",jF T,nI p]
def gh:D:= .tup [.str "bears"]
def l7(safe:Bool)(c:Nat)(ins:XZ)(gs:List Gt)(os:X0)(T:List Nat):Option D:=
 ((List.range (2 ^ c)).filter (nO safe c ins gs os (nZ T))).head?.map (AJ T)
def bears(safe:Bool)(c:Nat)(ins:XZ)(gs:List Gt)(os:X0)(m:Nat):D:=
 ((List.range (m+1)).findSome? fun s=>(n8 (lA gs) s).findSome? (l7 safe c ins gs os)).getD gh
theorem yy:(lA gs).length<=gs.length:=by
 unfold lA;exact Nat.le_trans (List.length_filter_le _ _) (by rw[List.length_range];exact Nat.le_refl _)
theorem wG{f:M}{N:Nat}:hW N f=0↔((List.range N).filter f).head? =none:=by
 rw[Ap,List.head?_eq_none_iff,List.filter_eq_nil_iff];exact⟨fun h i hi=>by rw[h i (List.mem_range.mp hi)];decide,fun h i hi=>by have:=h i (List.mem_range.mpr hi);cases hf:f i with | false=>rfl | true=>exact absurd hf this⟩
theorem Fd{T6 sz a6:Option V3}{m:V3}{T:List Nat}(NO:gU ins gs os)(hc:ins.length=c)(vL:c<=10)(ho:∀x∈os,1<=x.2.length/\x.2.length<=3)(hS:k6 S) :
 W3 (q_ [T6,some m,some (.d (.str (um safe))),some (.loc S.length),sz,some (.d (jF T)),a6] (TS S c ins gs os)) fun o S1=>S1=TS S c ins gs os/\(match (l7 safe c ins gs os T).map V3.d with | some v=>o= .rt v | none=>∃eM,o= .nx eM/\∃b6,eM=[T6,some m,some (.d (.str (um safe))),some (.loc S.length),sz,some (.d (jF T)),b6]):=by
 have hz:sizeLine=16777216:=sizeLine_eq;have hk:(TS S c ins gs os)[S.length]? =some (.ins 1 (gL c ins gs os (S.length+1))):=by unfold TS;rw [List.getElem?_append_right (Nat.le_refl _),Nat.sub_self];rfl
 have hb:(TS S c ins gs os)[S.length+1]? =some (.ins 0 (cL c (aJ ins gs os))):=by unfold TS;rw [List.getElem?_append_right (by omega),show S.length+1 - S.length=1 by omega];rfl
 have hcl:k6 (TS S c ins gs os):=J8 hS (by
  show(decide (S.length+1 < S.length+2) && true)=true;rw[decide_eq_true (by omega)];rfl) rfl
 unfold q_;refine aV <| bU (by simp) <| jq (k:=S.length) <| w_var (v:= .loc S.length) rfl ⟨_,rfl,hk,GI _ (by decide+kernel) (by decide+kernel) (by decide+kernel),?_⟩
 refine av <| bM (d:= .tup ((nZ T).map .int)) (by rw[RB];rfl) <| av <| bM (d:= .str (um safe)) rfl <| bz <| rB NO hc ho hcl hk hb ⟨_,rfl,?_⟩
 simp only[List.set];generalize hf:nO safe c ins gs os (nZ T)=f;have htry:l7 safe c ins gs os T=((List.range (2 ^ c)).filter f).head?.map (AJ T):=by unfold l7;rw [hf]
 refine mD <| rg (b:=!(decide (hW (2 ^ c) f=0))) (ie (a:=mI (2 ^ c) f) (b:= .int 0) rfl rfl ?_) ?_
 .show R.ok (D.bl (!((hW (2 ^ c) f:Int)==0)))=_;congr 3;by_cases q:hW (2 ^ c) f=0
  .rw [q];rfl
  .rw [decide_eq_false q];exact beq_eq_false_iff_ne.mpr (by omega)
 cases hh:((List.range (2 ^ c)).filter f).head? with
 | none=>
   rw[htry,hh,decide_eq_true (wG.mpr hh),if_neg (by decide)]
   exact ik ⟨rfl,_,rfl,_,rfl⟩
 | some p=>
   have rM:¬hW (2 ^ c) f=0:=fun q=>by rw[wG.mp q] at hh;cases hh
   rw[htry,hh,decide_eq_false rM,if_pos (by decide)]
   refine d9 <| y6 <| av <| bM (d:= .str "breaks") rfl <| av <| bM (d:=jF T) rfl <| av <| Oe <| jq (k:=S.length+1) <| w_fld (k:=S.length) <| w_var (v:= .loc S.length) rfl ⟨_,_,rfl,hk,qw,_,rfl,hb,xt _ _ (by decide+kernel) (by decide+kernel) (by decide+kernel) (by decide+kernel),?_⟩
   refine av <| bM (d:=mI (2 ^ c) f) rfl <| bz <| mK vL hcl hb <| bM (d:= .int 0) rfl ⟨_,_,nI p,rfl,rfl,?_,bz ⟨by simp;omega,rfl,rfl⟩⟩
   refine BJ ?_;obtain⟨r,hr⟩:∃r,(List.range (2 ^ c)).filter f=p ::r:=by
    cases q:(List.range (2 ^ c)).filter f with
    | nil=>rw [q] at hh;cases hh
    | cons a r=>rw [q] at hh;cases hh;exact⟨r,rfl⟩
   rw[hr,rF (by omega) (by simp)]
   rfl
theorem qQ{m:Nat}(NO:gU ins gs os)(hc:ins.length=c)(vL:c<=10)(ho:∀x∈os,1<=x.2.length/\x.2.length<=3)(hg:gs.length<=100)(hm:m<=3)(hS:k6 S){Q:V3->aN->Prop}(h:Q (.d (bears safe c ins gs os m)) S) :
 W3 (eY [.d (aJ ins gs os), .d (nI m), .d (.str (um safe))] S) Q:=by
 have hz:sizeLine=16777216:=sizeLine_eq;have hk:(TS S c ins gs os)[S.length]? =some (.ins 1 (gL c ins gs os (S.length+1))):=by unfold TS;rw [List.getElem?_append_right (Nat.le_refl _),Nat.sub_self];rfl
 unfold eY;refine ib hS (tK rfl ?_);simp only[cq,tW,List.map,List.length,List.replicate,List.cons_append,List.nil_append,Nat.reduceAdd,Nat.reduceSub];unfold x3;refine aV <| bU (by simp) <| uo <| av <| bM (d:=aJ ins gs os) rfl <| bz <| zF NO hc vL ho hS ⟨rfl,_,rfl,?_⟩
 simp only[List.set];refine nP <| jA <| rn (ds:=(List.range (m+1)).map nI) ?_ ?_
 .rw [<-pE];exact fD (n:=m+1) (ay (a:=nI m) (b:= .int 1) rfl rfl rfl) (by omega)
 rw[List.map_map];refine(pM (S:=TS S c ins gs os) (V3.d ∘ nI) (fun s=>((n8 (lA gs) s).findSome? (l7 safe c ins gs os)).map V3.d) (fun δ=>∃a4 a5 a6,δ=[some (.d (aJ ins gs os)),some (.d (nI m)),some (.d (.str (um safe))),some (.loc S.length),a4,a5,a6])
  ⟨_,_,_,rfl⟩ ?_).mono fun o S1 ⟨e1,h1⟩=>?_
 .rintro s hs δ ⟨a4,a5,a6,rfl⟩;rw[List.mem_range] at hs;have hul:(lA gs).length<=100:=Nat.le_trans yy hg;have hcs:eG 4 [.lst ((lA gs).map nI), .int s]= .ok (.lst ((n8 (lA gs) s).map jF)):=uG 3 s (lA gs) (by omega) (by omega) hul
  refine⟨[some (.d (aJ ins gs os)),some (.d (nI m)),some (.d (.str (um safe))),some (.loc S.length),some (.d (nI s)),a5,a6],rfl,?_⟩;unfold wz;refine jA <| mz <| qu <| av <| w_fld (k:=S.length) <| w_var (v:= .loc S.length) rfl ⟨_,_,rfl,hk,G1,av <| bM (d:= .int s) rfl <| bz ⟨[.lst ((lA gs).map nI), .int s],_,rfl,hcs,_,rfl,?_⟩⟩
  rw[List.map_map];refine(pM (S:=TS S c ins gs os) (V3.d ∘ jF) (fun T=>(l7 safe c ins gs os T).map V3.d) (fun δ=>∃a5 a6,δ=[some (.d (aJ ins gs os)),some (.d (nI m)),some (.d (.str (um safe))),some (.loc S.length),some (.d (nI s)),a5,a6])
   ⟨_,_,rfl⟩ ?_).mono fun o S1 ⟨e1,h1⟩=>⟨e1,?_⟩
  .rintro T hT δ ⟨a5,a6,rfl⟩;refine⟨[some (.d (aJ ins gs os)),some (.d (nI m)),some (.d (.str (um safe))),some (.loc S.length),some (.d (nI s)),some (.d (jF T)),a6],rfl,?_⟩;refine(Fd NO hc vL ho hS).mono fun o S1 ⟨e1,h1⟩=>⟨e1,?_⟩
   cases htt:l7 safe c ins gs os T with
   | none=>rw [htt] at h1;obtain⟨eM,jm,b6,e3⟩:=h1;exact⟨eM,jm,_,b6,e3⟩
   | some d=>rw [htt] at h1;exact h1
  .have hfs:(n8 (lA gs) s).findSome? (fun T=>(l7 safe c ins gs os T).map V3.d)=((n8 (lA gs) s).findSome? (l7 safe c ins gs os)).map V3.d:=by
    rw[List.map_findSome?];rfl
   rw[hfs] at h1;cases htt:(n8 (lA gs) s).findSome? (l7 safe c ins gs os) with
   | none=>rw [htt] at h1;obtain⟨eM,jm,b5,b6,e3⟩:=h1;exact⟨eM,jm,_,b5,b6,e3⟩
   | some d=>rw [htt] at h1;exact h1
 .subst e1;have hfs:(List.range (m+1)).findSome? (fun s=>((n8 (lA gs) s).findSome? (l7 safe c ins gs os)).map V3.d)=((List.range (m+1)).findSome? fun s=>(n8 (lA gs) s).findSome? (l7 safe c ins gs os)).map V3.d:=by
   rw[List.map_findSome?];rfl
  rw[hfs] at h1;unfold bears at h;cases htt:(List.range (m+1)).findSome? fun s=>(n8 (lA gs) s).findSome? (l7 safe c ins gs os) with
  | none=>
    rw[htt] at h1 h;obtain⟨eM,rfl,b4,b5,b6,rfl⟩:=h1;exact d9 <| bM (d:=gh) rfl ⟨_,rfl,by unfold eu;rfl,⟨_,rfl⟩,_,by unfold res;rfl,h⟩
  | some d=>
    rw[htt] at h1 h;subst h1;exact⟨_,rfl,by unfold eu;rfl,⟨_,rfl⟩,_,by unfold res;rfl,h⟩
end
section
variable {c:Nat} {ins:XZ} {gs:List Gt} {os:X0} {S:aN}
def yG(c:Nat)(f:M):Nat:=((List.range (2 ^ c)).filter f).length
def Rq(c:Nat)(ins:XZ)(gs:List Gt)(os:X0)(x:Nat):M:=fun p=>nO false c ins gs os (nZ [x]) p !=nO true c ins gs os (nZ [x]) p
def uI(c:Nat)(ins:XZ)(gs:List Gt)(os:X0)(x:Nat):D:= .tup [nI x,nI (yG c (nO true c ins gs os (nZ [x]))),nI (yG c (Rq c ins gs os x))]
theorem DP(NO:gU ins gs os)(hc:ins.length=c)(vL:c<=10)(ho:∀x∈os,1<=x.2.length/\x.2.length<=3)(hg:gs.length<=1000)(hS:k6 S){Q:V3->aN->Prop}(h:Q (.loc (S.length+2)) (TS S c ins gs os++[.lst ((lA gs).map (uI c ins gs os))])) :
 W3 (pq [.d (aJ ins gs os)] S) Q:=by
 have hz:sizeLine=16777216:=sizeLine_eq;have hpow:2 ^ c<=1024:=Nat.pow_le_pow_right (by omega) (by omega:c<=10)
 have hul:(lA gs).length<=1000:=Nat.le_trans yy hg;have hTl:(TS S c ins gs os).length=S.length+2:=by unfold TS;simp
 have hk0:(TS S c ins gs os)[S.length]? =some (.ins 1 (gL c ins gs os (S.length+1))):=by unfold TS;rw [List.getElem?_append_right (Nat.le_refl _),Nat.sub_self];rfl
 have hb0:(TS S c ins gs os)[S.length+1]? =some (.ins 0 (cL c (aJ ins gs os))):=by unfold TS;rw [List.getElem?_append_right (by omega),show S.length+1 - S.length=1 by omega];rfl
 have hcl0:k6 (TS S c ins gs os):=J8 hS (by
  show(decide (S.length+1 < S.length+2) && true)=true;rw[decide_eq_true (by omega)];rfl) rfl
 have hk:∀L:List D,(TS S c ins gs os++[SO.lst L])[S.length]? =some (.ins 1 (gL c ins gs os (S.length+1))):=fun L=>by rw[List.getElem?_append_left (by omega)];exact hk0
 have hb:∀L:List D,(TS S c ins gs os++[SO.lst L])[S.length+1]? =some (.ins 0 (cL c (aJ ins gs os))):=fun L=>by rw[List.getElem?_append_left (by omega)];exact hb0
 have hcl:∀L:List D,k6 (TS S c ins gs os++[SO.lst L]):=fun L=>k6.push hcl0 fun _=>rfl
 have hlst:∀L:List D,(TS S c ins gs os++[SO.lst L])[S.length+2]? =some (.lst L):=fun L=>by rw[<-hTl];exact bG _ _
 unfold pq;refine tK rfl ?_;simp only[cq,oz,List.map,List.length,List.replicate,List.cons_append,List.nil_append,Nat.reduceAdd,Nat.reduceSub];unfold rm;refine aV <| bU (by simp) <| uo <| av <| bM (d:=aJ ins gs os) rfl <| bz <| zF NO hc vL ho hS ⟨rfl,_,rfl,?_⟩
 simp only[List.set];refine aV <| bU (by simp) <| mX (ds:=[]) rfl ⟨_,rfl,?_⟩
 simp only[List.set];rw[hTl];refine aV <| jA <| mz <| w_fld (k:=S.length) <| w_var (v:= .loc S.length) rfl ⟨_,_,rfl,hk _,G1,_,rfl,?_⟩
 refine(c9 (fun i δ S2=>S2=TS S c ins gs os++[.lst (((lA gs).take i).map (uI c ins gs os))]/\∃a3 a4 a5,δ=[some (.d (aJ ins gs os)),some (.loc S.length),some (.loc (S.length+2)),a3,a4,a5]) ⟨by simp,_,_,_,rfl⟩ ?_).mono fun o S2 ⟨eM,jm,AG,a3,a4,a5,hδ⟩=>⟨eM,jm,?_⟩
 .rintro i v δ S2 hv ⟨rfl,a3,a4,a5,rfl⟩;obtain⟨x,hx,rfl⟩:=NT.jr hv;have hil:=(List.getElem?_eq_some_iff.mp hx).1;have hnx:((lA gs).take (i+1)).map (uI c ins gs os)=((lA gs).take i).map (uI c ins gs os)++[uI c ins gs os x]:=by rw[List.take_add_one,hx,List.map_append];rfl
  rw[hnx];have hLl:(((lA gs).take i).map (uI c ins gs os)).length<=1000:=by rw[List.length_map,List.length_take];omega
  generalize ((lA gs).take i).map (uI c ins gs os)=L at hLl ⊢;refine⟨[some (.d (aJ ins gs os)),some (.loc S.length),some (.loc (S.length+2)),some (.d (nI x)),a4,a5],rfl,?_⟩;unfold sN;refine aV <| bU (by simp) <| jq (k:=S.length) <| w_var (v:= .loc S.length) rfl ⟨_,rfl,hk _,GI _ (by decide+kernel) (by decide+kernel) (by decide+kernel),?_⟩
  refine av <| bM (d:= .tup ((nZ [x]).map .int)) (cH (ds:=(nZ [x]).map .int) rfl (by unfold nZ;simp;omega)) <| av <| bM (d:= .str (um true)) rfl <| bz <| rB NO hc ho (hcl _) (hk _) (hb _) ⟨_,rfl,?_⟩
  simp only[List.set];refine aV <| bU (by simp) <| Ij <| jq (k:=S.length) <| w_var (v:= .loc S.length) rfl ⟨_,rfl,hk _,GI _ (by decide+kernel) (by decide+kernel) (by decide+kernel),?_⟩
  refine av <| bM (d:= .tup ((nZ [x]).map .int)) (cH (ds:=(nZ [x]).map .int) rfl (by unfold nZ;simp;omega)) <| av <| bM (d:= .str (um false)) rfl <| bz <| rB NO hc ho (hcl _) (hk _) (hb _) <| bM (d:=mI (2 ^ c) (nO true c ins gs os (nZ [x]))) rfl ⟨_,_,_,rfl,rfl,y7 _ _ _,_,rfl,?_⟩
  simp only[List.set];have lenI:∀f:M,eW [.lst (((List.range (2 ^ c)).filter f).map nI)]= .ok (nI (yG c f)):=fun f=>by rw[k5,List.length_map];rfl
  refine oX (k:=S.length+2) rfl ⟨_,hlst _⟩ <| y6 <| av <| bM (d:=nI x) rfl <| av <| qu <| av <| jq (k:=S.length+1) <| w_fld (k:=S.length) <| w_var (v:= .loc S.length) rfl ⟨_,_,rfl,hk _,qw,_,rfl,hb _,xt _ _ (by decide+kernel) (by decide+kernel) (by decide+kernel) (by decide+kernel),?_⟩
  refine av <| bM (d:=mI (2 ^ c) (nO true c ins gs os (nZ [x]))) rfl <| bz <| mK vL (hcl _) (hb _) <| bz ⟨[_],_,rfl,lenI _,?_⟩
  refine av <| qu <| av <| jq (k:=S.length+1) <| w_fld (k:=S.length) <| w_var (v:= .loc S.length) rfl ⟨_,_,rfl,hk _,qw,_,rfl,hb _,xt _ _ (by decide+kernel) (by decide+kernel) (by decide+kernel) (by decide+kernel),?_⟩
  refine av <| bM (d:=mI (2 ^ c) (Rq c ins gs os x)) rfl <| bz <| mK vL (hcl _) (hb _) <| bz ⟨[_],_,rfl,lenI _,?_⟩
  refine bz ⟨by simp;omega,uI c ins gs os x,L,rfl,hlst _,by omega,_,rfl,?_,_,_,_,rfl⟩
  rw[<-hTl,fO]
 .subst hδ AG;rw[List.length_map,List.length_map,List.take_length];exact d9 <| w_var (v:= .loc (S.length+2)) rfl ⟨_,rfl,h⟩
theorem D3(NO:gU ins gs os)(hc:ins.length=c)(vL:c<=10)(ho:∀x∈os,1<=x.2.length/\x.2.length<=3)(hg:gs.length<=1000)(hS:k6 S){Q:V3->aN->Prop}(h:Q (.d (.lst ((lA gs).map (uI c ins gs os)))) S) :
 W3 (mE [.d (aJ ins gs os)] S) Q:=by
 have hTl:(TS S c ins gs os).length=S.length+2:=by unfold TS;simp
 refine ib hS (DP NO hc vL ho hg hS ⟨?_,⟨_,by unfold TS;rw [List.append_assoc]⟩, .lst ((lA gs).map (uI c ins gs os)),?_,h⟩)
 .show decide (S.length<=S.length+2)=true;exact decide_eq_true (by omega)
 .unfold res;rw[<-hTl,bG]
end
end K31
end
section
namespace K31
open PySem PySem.Spec PyProof.Rows L2 L3 MT
theorem BC.push{k:Nat}{S:aN}(p:BC k S)(L:List D):BC k (S++[.lst L]):=by
 have h:=p.lt;obtain⟨hL,a,c,e⟩:=p;exact⟨hL.push (w9 _),a,c,by rw[List.getElem?_append_left h];exact e⟩
theorem xK{n i:Nat}{d:D}(h:(eg 0 n)[i]? =some d):i < n/\d= .int i:=by
 rw[eg,List.getElem?_map] at h;cases q:(List.range n)[i]? with
 | none=>rw [q] at h;cases h
 | some j=>
   rw[q] at h;cases h;obtain⟨q1,q2⟩:=List.getElem?_eq_some_iff.mp q;rw[List.getElem_range] at q2;rw[List.length_range] at q1;subst q2;exact⟨q1,by simp⟩
section
variable {gs:List Gt}
end
section
variable {S:aN} {δ:DE} {k q i:Nat} {ks:List Int}
theorem oG{ds:List D}(e:S[q]? =some (.lst ds)):res S (.loc q)=some (.lst ds):=by unfold res;rw [e]
end
theorem uZ(ws:List Nat):mj (.tup (ws.map nI))=true:=by
 unfold mj
 induction ws with
 | nil=>unfold n5;rfl
 | cons w ws ih=>rw [List.map_cons];unfold n5;rw [ih];rfl
def pv(l:XZ)(gs:List Gt)(ms:List M)(p n:Nat):Bool:=fk (uw gs [] (f_ l ms [] l.length) gs.length) n p
structure XC (l:XZ) (ks:List Int):Prop where
 len:ks.length=js l
 v:∀n,n < ks.length->∃j:Nat,j < l.length/\ks.getD n 0=(j:Int)/\∀ms:List M,l.length<=ms.length->fk (f_ l ms [] l.length) n=ms.getD j fun _=>false
structure KI (l:XZ) (gs:List Gt) (ks:List Int):Prop where
 len:ks.length=js l+gs.length
 b:∀n,n < ks.length->ks.getD n 0 < (l.length:Int)+gs.length
 v:∀ms:List M,ms.length=l.length->∀p n n',n < ks.length->n' < ks.length->ks.getD n 0=ks.getD n' 0->pv l gs ms p n=pv l gs ms p n'
section
variable {l:XZ} {gs:List Gt} {g:Gt} {ms:List M} {p n:Nat} {ks:List Int}
end
theorem Ld(a:List D):Flat [SO.lst a]:=fun o ho=>by rw[List.mem_singleton.mp ho];exact w9 _
end K31
end
section
namespace K31
open PySem PySem.Spec PyProof.Rows L2 L3 MT
abbrev f0:M:=fun _=>false
section
variable {ins:XZ} {gs:List Gt} {ms XI:List M} {t bad:List Int} {p q:Nat}
def Xl(p q:Nat)(ws TX:List M):Prop:=ws.length=TX.length/\∀n,fk ws n p=fk TX n q
end
def cM(b:Bool):M:=fun _=>b
theorem SX(f:M):mI 1 f=bI (f 0):=by
 unfold mI bI hW hW;cases f 0 <;> rfl
theorem RJ(b:Bool):mI 1 (cM b)=bI b:=SX _
theorem Ly(bits:List Bool):bits.map bI=(bits.map cM).map (mI 1):=by
 rw[List.map_map];exact List.map_congr_left fun b _=>(RJ b).symm
section
variable {c:Nat} {ins:XZ} {gs:List Gt} {os:X0} {S:aN} {T:List Int}
def tD(r:Bool × Bool):D:=if r.1 then .int 0 else if r.2 then .int 1 else .de
theorem vh{N p:Nat}{f g:M}(hp:p < N):iu [.tup [mI N f,mI N g], .int p]= .ok (tD (f p,g p)):=by
 unfold iu xm tD;have b0:b2 l4 (aQ fS (ak (e2 cy (ai 0) (eC (.int 0))) (ak (ai 1) aP))) (eC (.int 1)) (dz lV [.tup [mI N f,mI N g], .int p])= .ok (f p):=by
  refine ie (a:= .int (if decide (p < N) && f p then 1 else 0)) (b:= .int 1) (aA (ds:=[mI N f, .int (p:Nat)]) (aq (ay (a:= .tup [mI N f,mI N g]) (b:= .int 0) rfl rfl B4) rfl) AR) rfl ?_
  rw[decide_eq_true hp];cases f p <;> rfl
 have b1:b2 l4 (aQ fS (ak (e2 cy (ai 0) (eC (.int 1))) (ak (ai 1) aP))) (eC (.int 1)) (dz lV [.tup [mI N f,mI N g], .int p])= .ok (g p):=by
  refine ie (a:= .int (if decide (p < N) && g p then 1 else 0)) (b:= .int 1) (aA (ds:=[mI N g, .int (p:Nat)]) (aq (ay (a:= .tup [mI N f,mI N g]) (b:= .int 1) rfl rfl Em) rfl) AR) rfl ?_
  rw[decide_eq_true hp];cases g p <;> rfl
 show sV lV _ _= .ok (if f p then _ else if g p then _ else _)
 cases q0:f p with
 | true=>rw [q0] at b0;exact di (NT.kO (si b0 (cN rfl)))
 | false=>
   rw[q0] at b0;cases q1:g p with
   | true=>rw [q1] at b1;exact di (bK (ia b0 rfl) (NT.kO (si b1 (cN rfl))))
   | false=>rw [q1] at b1;exact di (bK (ia b0 rfl) (bK (ia b1 rfl) (cN rfl)))
theorem Iz{xs:List M}(h:1<=xs.length/\xs.length<=3):uX [.tup (xs.map (mI 1))]= .ok (tD (vZ (xs.map (· 0)))):=by
 unfold uX Gd;exact di (cN (aA (ds:=[.tup [mI 1 (r0 xs),mI 1 (r1 xs)], .int 0]) (aq (aA (ds:=[.tup (xs.map (mI 1)),mI 1 one]) rfl (ue h)) rfl) (vh (p:=0) (by omega))))
theorem Bv{bits:List Bool}{bad:List Int}(NO:gU ins gs os)(hb:bits.length=ins.length)(hS:k6 S){Q:V3->aN->Prop}(h:Q (.d (.lst (dA 1 os (dc ins gs (bits.map cM) T bad)))) S) :
 W3 (qV [.d (aJ ins gs os), .d (.tup (bits.map bI)), .d (.tup (T.map .int)), .d (.tup (bad.map .int))] S) Q:=by
 have hl:(bits.map cM).length=ins.length:=by rw[List.length_map,hb]
 unfold qV;refine ib hS (tK rfl ?_);simp only[cq,Dl,List.map,List.length,List.replicate,List.cons_append,List.nil_append,Nat.reduceAdd,Nat.reduceSub];unfold GF;refine d9 <| cI <| av <| bM (d:=aJ ins gs os) rfl <| av <| cI <| av <| bM (d:=aJ ins gs os) rfl <| av <| bM (d:= .tup (bits.map bI)) rfl <| av <| bM (d:=mI 1 one) rfl <| av <| bM (d:= .tup (T.map .int)) rfl <| av <| bM (d:= .tup (bad.map .int)) rfl <| bz <| Au (bits:=bits.map cM) (.inr (by rw[Ly])) NO hl hS <| bz ?_
 refine CW NO.ho (fun x hx=>⟨(NO.o x hx).1,fun w hw=>by rw[zy hl];exact(NO.o x hx).2 w hw⟩) hS ?_
 exact⟨_,rfl,by unfold eu;rfl,⟨[],by simp⟩,_,by unfold res;rfl,h⟩
def RD(c:Nat)(ins:XZ)(gs:List Gt)(os:X0)(T:List Int)(p:Nat):List D:=os.map fun x=>tD (pt (Wd c ins gs T []) x p)
theorem D8{k:Nat}{nt:D}{f g:M}(hc:c<=10)(hS:k6 S)(hb:S[k]? =some (.ins 0 (cL c nt))){Q:V3->aN->Prop}(h:Q (.d (.lst ((List.range (2 ^ c)).map fun p=>tD (f p,g p)))) S) :
 W3 (fY [.loc k, .d (.tup [mI (2 ^ c) f,mI (2 ^ c) g])] S) Q:=by
 have hz:sizeLine=16777216:=sizeLine_eq;have hp:2 ^ c<=1024:=Nat.pow_le_pow_right (by omega) hc
 unfold fY;refine ib hS (tK rfl ?_);simp only[cq,eZ,List.map,List.length,List.replicate,List.cons_append,List.nil_append,Nat.reduceAdd,Nat.reduceSub];unfold ki;refine d9 <| jG (fun j ds S2=>S2=S/\ds=(List.range j).map fun p=>tD (f p,g p)) ?_
 refine xQ <| w_fld (k:=k) <| w_var (v:= .loc k) rfl ⟨_,_,rfl,hb,C4,2 ^ c,rfl,by omega,?_⟩
 have hlen:((eg 0 (2 ^ c)).map V3.d).length=2 ^ c:=by simp [eg]
 rw[hlen];refine⟨by omega,⟨rfl,rfl⟩,?_,?_⟩
 .rintro j v ds S2 hv ⟨rfl,rfl⟩;obtain⟨hj,rfl⟩:=NT.xK hv;refine⟨[some (.d (.int j)),some (.d (.tup [mI (2 ^ c) f,mI (2 ^ c) g]))],rfl,sg ?_⟩;rw[if_pos rfl,List.range_succ,List.map_append];exact bM (d:=tD (f j,g j)) (aA (ds:=[.tup [mI (2 ^ c) f,mI (2 ^ c) g], .int j]) rfl (vh hj)) ⟨_,rfl,rfl,rfl⟩
 .rintro ds S2 ⟨rfl,rfl⟩;exact⟨_,rfl,by unfold eu;rfl,⟨[],by simp⟩,_,by unfold res;rfl,h⟩
def EM(c:Nat)(ins:XZ)(gs:List Gt)(os:X0):D:= .lst (os.map fun x=> .lst ((List.range (2 ^ c)).map fun p=>tD (pt (Wd c ins gs [] []) x p)))
theorem uu(NO:gU ins gs os)(hc:ins.length=c)(vL:c<=10)(ho:∀x∈os,1<=x.2.length/\x.2.length<=3)(hS:k6 S){Q:V3->aN->Prop}(h:Q (.d (EM c ins gs os)) S) :
 W3 (j4 [.d (aJ ins gs os)] S) Q:=by
 have hz:sizeLine=16777216:=sizeLine_eq;have hO:=NO.ho;unfold j4;refine ib hS (tK rfl ?_);simp only[cq,lK,List.map,List.length,List.replicate,List.cons_append,List.nil_append,Nat.reduceAdd,Nat.reduceSub];unfold rJ;have hc0:∀fs:List (Str × V3),iF (S.length+1) (fs.map (·.2))=true->k6 (S++[.ins 0 fs]):=fun fs hf o HZ=>by
  rw[show(S++[SO.ins 0 fs]).length=S.length+1 by simp]
  rcases List.mem_append.mp HZ with q | q
  .exact oE (by omega) o (hS o q)
  .rw [List.mem_singleton.mp q];exact hf
 have hb:(S++[SO.ins 0 (cL c (aJ ins gs os))])[S.length]? =some (.ins 0 (cL c (aJ ins gs os))):=bG _ _;have hcl:k6 (S++[SO.ins 0 (cL c (aJ ins gs os))]):=hc0 _ rfl;refine aV <| bU (by simp) <| uo <| av <| bM (d:=aJ ins gs os) rfl <| bz <| yd hc vL (hc0 _ rfl) ⟨rfl,_,rfl,?_⟩
 simp only[List.set];refine d9 <| jG (fun j ds S2=>S2=S++[SO.ins 0 (cL c (aJ ins gs os))]/\ds=(os.map fun x=>D.lst ((List.range (2 ^ c)).map fun p=>tD (pt (Wd c ins gs [] []) x p))).take j) ?_
 refine mz <| jq (k:=S.length) <| w_var (v:= .loc S.length) rfl ⟨_,rfl,hb,xt _ _ (by decide+kernel) (by decide+kernel) (by decide+kernel) (by decide+kernel),?_⟩
 refine av <| bM (d:= .tup (([]:List Int).map .int)) rfl <| bz <| kL NO hc ho hcl hb ⟨_,rfl,?_,⟨rfl,by simp⟩,?_,?_⟩
 .rw [List.length_map,A3,List.length_map];omega
 .rintro j v ds S2 hv ⟨rfl,rfl⟩;rw[A3] at hv;obtain⟨x,hx,rfl⟩:=NT.jr hv;refine⟨[some (.d (.tup [mI (2 ^ c) (r0 (tell (Wd c ins gs [] []) x)),mI (2 ^ c) (r1 (tell (Wd c ins gs [] []) x))])),some (.loc S.length)],rfl,sg ?_⟩;rw[if_pos rfl];refine jq (k:=S.length) <| w_var (v:= .loc S.length) rfl ⟨_,rfl,hb,xt _ _ (by decide+kernel) (by decide+kernel) (by decide+kernel) (by decide+kernel),?_⟩
  refine av <| bM (d:= .tup [mI (2 ^ c) (r0 (tell (Wd c ins gs [] []) x)),mI (2 ^ c) (r1 (tell (Wd c ins gs [] []) x))]) rfl <| bz <| D8 vL hcl hb ⟨_,rfl,rfl,?_⟩
  rw[List.take_add_one,List.getElem?_map,hx];rfl
 .rintro ds S2 ⟨rfl,rfl⟩;rw[List.length_map,A3,List.length_map,List.take_of_length_le (by rw[List.length_map];exact Nat.le_refl _)]
  exact⟨_,rfl,by unfold eu;rfl,⟨_,rfl⟩,_,by unfold res;rfl,h⟩
end
end K31
end
section
namespace K31
open PySem PySem.Spec PyProof.Rows L2 L3 MT
def lo:Nat->Nat->List Bool
 | 0,_=>[]
 | k+1,p=>p.testBit k ::lo k p
theorem qW:∀c p,(lo c p).length=c
 | 0,_=>rfl
 | c+1,p=>by unfold lo;rw [List.length_cons,qW c p]
theorem IE{n:Nat}(h:n<=10):Je (.int 1) (nI n)= .ok (nI (2 ^ n)):=by
 unfold Je yX nI;show R.bJ (decide ((0:Int)<=n/\(n:Int) < 1000/\ -1000 < (1:Int)/\(1:Int) < 1000)) (.ok (D.int (1*2 ^ ((n:Int)).toNat)))=_;rw[cw _ ⟨by omega,by omega,by omega,by omega⟩,Int.toNat_natCast,Int.one_mul]
 congr 2
section
variable {c:Nat} {ins:XZ} {gs:List Gt} {os:X0} {S:aN}
def sF(c:Nat)(ins:XZ)(gs:List Gt)(x:Str × List Nat):M:=fun p=>(pt (Wd c ins gs [] []) x p).1 || (pt (Wd c ins gs [] []) x p).2
def sB(c:Nat)(ins:XZ)(gs:List Gt)(x:Str × List Nat):Bool:=decide (hW (2 ^ c) (sF c ins gs x)=hW (2 ^ c) one)
theorem Kc{N:Nat}{f:M}:decide (hW N f=hW N one)=(List.range N).all f:=by
 cases h:(List.range N).all f with
 | true=>
   refine decide_eq_true (lN fun i hi=>?_)
   exact List.all_eq_true.mp h i (List.mem_range.mpr hi)
 | false=>
   refine decide_eq_false fun e=>?_
   have:(List.range N).all f=true:=List.all_eq_true.mpr fun i hi=>by
    have b:=f9 N f i;rw[e,f9,decide_eq_true (List.mem_range.mp hi),Bool.true_and,Bool.true_and] at b;exact b.symm
   rw[h] at this;cases this
theorem Ks{N:Nat}{f:M}:l4 (mI N f) (mI N one)= .ok (.bl (decide (hW N f=hW N one))):=by
 show R.ok (D.bl (decide ((hW N f:Int)=(hW N one:Int))))=_;congr 2;by_cases q:hW N f=hW N one
 .rw [decide_eq_true q,decide_eq_true (by rw[q])]
 .rw [decide_eq_false q,decide_eq_false (by omega)]
theorem zB(NO:gU ins gs os)(hc:ins.length=c)(vL:c<=10)(ho:∀x∈os,1<=x.2.length/\x.2.length<=3)(hS:k6 S){Q:V3->aN->Prop}(h:Q (.d (.bl (os.all (sB c ins gs)))) S) :
 W3 (kQ [.d (aJ ins gs os)] S) Q:=by
 have hz:sizeLine=16777216:=sizeLine_eq;have hO:=NO.ho;unfold kQ;refine ib hS (tK rfl ?_);simp only[cq,jX,List.map,List.length,List.replicate,List.cons_append,List.nil_append,Nat.reduceAdd,Nat.reduceSub];unfold o8;have hc0:∀fs:List (Str × V3),iF (S.length+1) (fs.map (·.2))=true->k6 (S++[.ins 0 fs]):=fun fs hf o HZ=>by
  rw[show(S++[SO.ins 0 fs]).length=S.length+1 by simp]
  rcases List.mem_append.mp HZ with q | q
  .exact oE (by omega) o (hS o q)
  .rw [List.mem_singleton.mp q];exact hf
 have hb:(S++[SO.ins 0 (cL c (aJ ins gs os))])[S.length]? =some (.ins 0 (cL c (aJ ins gs os))):=bG _ _;have hcl:k6 (S++[SO.ins 0 (cL c (aJ ins gs os))]):=hc0 _ rfl;refine aV <| bU (by simp) <| uo <| av <| bM (d:=aJ ins gs os) rfl <| bz <| yd hc vL (hc0 _ rfl) ⟨rfl,_,rfl,?_⟩
 simp only[List.set];refine d9 <| qu <| av <| jG (fun j ds S2=>S2=S++[SO.ins 0 (cL c (aJ ins gs os))]/\ds=((os.map (sB c ins gs)).map D.bl).take j) ?_
 refine mz <| jq (k:=S.length) <| w_var (v:= .loc S.length) rfl ⟨_,rfl,hb,xt _ _ (by decide+kernel) (by decide+kernel) (by decide+kernel) (by decide+kernel),?_⟩
 refine av <| bM (d:= .tup (([]:List Int).map .int)) rfl <| bz <| kL NO hc ho hcl hb ⟨_,rfl,?_,⟨rfl,by simp⟩,?_,?_⟩
 .rw [List.length_map,A3,List.length_map];omega
 .rintro j v ds S2 hv ⟨rfl,rfl⟩;rw[A3] at hv;obtain⟨x,hx,rfl⟩:=NT.jr hv;refine⟨[some (.d (.tup [mI (2 ^ c) (r0 (tell (Wd c ins gs [] []) x)),mI (2 ^ c) (r1 (tell (Wd c ins gs [] []) x))])),some (.loc S.length)],rfl,sg ?_⟩;rw[if_pos rfl];refine Ij <| bM (d:=mI (2 ^ c) (sF c ins gs x)) (ay (a:=mI (2 ^ c) (r0 (tell (Wd c ins gs [] []) x))) (b:=mI (2 ^ c) (r1 (tell (Wd c ins gs [] []) x))) (ay (a:= .tup [mI (2 ^ c) (r0 (tell (Wd c ins gs [] []) x)),mI (2 ^ c) (r1 (tell (Wd c ins gs [] []) x))]) (b:= .int 0) rfl rfl B4) (ay (a:= .tup [mI (2 ^ c) (r0 (tell (Wd c ins gs [] []) x)),mI (2 ^ c) (r1 (tell (Wd c ins gs [] []) x))]) (b:= .int 1) rfl rfl Em) (yc _ _ _)) <| w_fld (k:=S.length) <| w_var (v:= .loc S.length) rfl ⟨_,_,rfl,hb,yq,_,_, .bl (sB c ins gs x),rfl,rfl,Ks,_,rfl,rfl,?_⟩
  rw[List.take_add_one,List.getElem?_map,List.getElem?_map,hx];rfl
 .rintro ds S2 ⟨rfl,rfl⟩;rw[List.length_map,A3,List.length_map,List.take_of_length_le (by simp)]
  refine bz ⟨[_], .bl (os.all (sB c ins gs)),rfl,?_,_,rfl,by unfold eu;rfl,⟨_,rfl⟩,_,by unfold res;rfl,h⟩
  show(match bls? ((os.map (sB c ins gs)).map D.bl) with | some bs=>R.ok (D.bl (bs.all id)) | none=> .no)=_
  rw[yn];show R.ok (D.bl ((os.map (sB c ins gs)).all id))=_;rw[List.all_map];rfl
end
end K31
end
section
set_option maxHeartbeats 400000
namespace K31
open PySem PySem.Spec PyProof.Rows L2 L3 MT
theorem Km{T:List Nat}{p:Nat}:gr 3 (AJ T p):=by
 unfold AJ;refine gr.tup fun d hd=>?_
 simp only[List.mem_cons,List.not_mem_nil,or_false] at hd;rcases hd with rfl | rfl | rfl
 .exact(gr.str (by decide+kernel)).mono (by omega)
 .unfold jF;exact(gr.tup (n:=0) fun y hy=>by obtain⟨z,_,rfl⟩:=List.mem_map.mp hy;exact gr.int _).mono (by omega)
 .exact(gr.int _).mono (by omega)
theorem zM:gr 3 gh:=by
 unfold gh;exact(gr.tup (n:=0) fun d hd=>by rw[List.mem_singleton.mp hd];exact gr.str (by decide+kernel)).mono (by omega)
theorem tV:l4 gh gh= .ok (.bl true):=NT.eq_self zM (by omega)
theorem ML{T:List Nat}{p:Nat}:l4 (AJ T p) gh= .ok (.bl false):=by
 have f1:=Km (T:=T) (p:=p);have f2:=zM;unfold l4;unfold AJ at f1 ⊢;unfold gh at f2 ⊢;rw[FN,f1.pl,f1.sh (by omega),f2.pl,f2.sh (by omega)]
 rfl
theorem ja{a b:D}{k:Bool}(h:l4 a b= .ok (.bl k)):CU a b= .ok (.bl (!k)):=by
 unfold l4 at h;unfold CU;cases q:GO a b with
 | ok d=>rw [q] at h;cases h;rfl
 | no=>rw [q] at h;cases h
 | ex _=>rw [q] at h;cases h
theorem LC(xs:List Bool):((vZ xs).1 && (vZ xs).2)=false:=by
 unfold vZ;split
 .cases ‹Bool› <;> rfl
 .rename_i a b;cases a <;> cases b <;> rfl
 .rename_i a b c;cases a <;> cases b <;> cases c <;> rfl
 .rfl
theorem Fg{safe:Bool}{x:Bool × Bool}(h:(x.1 && x.2)=false):brk safe x x=false:=by
 obtain⟨a,b⟩:=x;cases a <;> cases b <;> cases safe <;> first | rfl | cases h
section
variable {c m:Nat} {ins:XZ} {gs:List Gt} {os:X0} {safe:Bool}
theorem J3{p:Nat}:nO safe c ins gs os [] p=false:=by
 unfold nO;rw[List.any_eq_false];intro x _;rw[Fg (by unfold pt;exact LC _)]
 decide
theorem Gx{T:List Nat}(h:∀p,p < 2 ^ c->nO safe c ins gs os (nZ T) p=false):l7 safe c ins gs os T=none:=by
 unfold l7;rw[List.filter_eq_nil_iff.mpr fun p hp=>by rw[h p (List.mem_range.mp hp)];decide]
 rfl
theorem mB(h:∀s,1<=s->s<=m->∀T∈n8 (lA gs) s,∀p,p < 2 ^ c->nO safe c ins gs os (nZ T) p=false):bears safe c ins gs os m=gh:=by
 unfold bears;have:((List.range (m+1)).findSome? fun s=>(n8 (lA gs) s).findSome? (l7 safe c ins gs os))=none:=by
  rw[List.findSome?_eq_none_iff];intro s hs;rw[List.findSome?_eq_none_iff];intro T hT;refine Gx fun p hp=>?_
  have hs:=List.mem_range.mp hs;cases s with
  | zero=>
    have:T=[]:=List.length_eq_zero_iff.mp (ph hT).1;subst this;exact J3
  | succ s=>exact h _ (by omega) (by omega) T hT p hp
 rw[this];rfl
theorem Br{s p:Nat}{T:List Nat}(hs:s<=m)(hT:T∈n8 (lA gs) s)(hp:p < 2 ^ c)(h:nO safe c ins gs os (nZ T) p=true):∃T' p',bears safe c ins gs os m=AJ T' p':=by
 unfold bears;cases q:((List.range (m+1)).findSome? fun s=>(n8 (lA gs) s).findSome? (l7 safe c ins gs os)) with
 | none=>
   rw[List.findSome?_eq_none_iff] at q;have h1:=q s (List.mem_range.mpr (by omega))
   rw[List.findSome?_eq_none_iff] at h1;have h2:=h1 T hT;unfold l7 at h2;rw[Option.map_eq_none_iff,List.head?_eq_none_iff,List.filter_eq_nil_iff] at h2;exact absurd h (h2 p (List.mem_range.mpr hp))
 | some d=>
   obtain⟨s',So,h2⟩:=List.exists_of_findSome?_eq_some q;obtain⟨T',XF,h3⟩:=List.exists_of_findSome?_eq_some h2;unfold l7 at h3;cases h4:((List.range (2 ^ c)).filter (nO safe c ins gs os (nZ T'))).head? with
   | none=>rw [h4] at h3;cases h3
   | some p'=>rw [h4] at h3;cases h3;exact⟨_,_,rfl⟩
theorem Bj(ps:List Nat):(List.range ps.length).map (fun a=>ps.getD a 0)=ps:=by
 refine List.ext_getElem? fun i=>?_
 rw[List.getElem?_map];by_cases q:i < ps.length
 .rw [List.getElem?_range q];show some (ps.getD i 0)=_;rw[List.getD_eq_getElem?_getD,List.getElem?_eq_getElem q];rfl
 .rw [List.getElem?_eq_none (by simp;omega),List.getElem?_eq_none (by omega)];rfl
theorem y1{α β:Type}(f:α->β):∀xs:List α,(xs.flatMap fun x=>[f x])=xs.map f
 | []=>rfl
 | x ::xs=>by rw[List.flatMap_cons,y1 f xs];rfl
theorem Kq(ps:List Nat):n8 ps 1=ps.map fun x=>[x]:=by
 show((List.range ps.length).flatMap fun a=>(n8 (ps.drop (a+1)) 0).map (ps.getD a 0 ::·))=_
 have:(fun a=>(n8 (ps.drop (a+1)) 0).map (ps.getD a 0 ::·))=fun a=>[[ps.getD a 0]]:=by funext a;rfl
 rw[this,y1]
 conv=>rhs;rw [<-Bj ps]
 rw[List.map_map];rfl
theorem Lm{x:Nat}{ps:List Nat}(h:x∈ps):[x]∈n8 ps 1:=by rw[Kq];exact List.mem_map.mpr ⟨x,h,rfl⟩
theorem xN{x:Nat}:x∈lA gs↔∃g,gs[x]? =some g/\g.2.2=false:=by
 unfold lA;rw[List.mem_filter,List.mem_range];constructor
 .rintro⟨h1,h2⟩;rw[List.getElem?_eq_getElem h1] at h2 ⊢;exact⟨_,rfl,by simpa using h2⟩
 .rintro⟨g,hg,h⟩;refine⟨(List.getElem?_eq_some_iff.mp hg).1,?_⟩;rw[hg];show(!g.2.2)=true;rw[h];rfl
end
section
variable {c m:Nat} {ins:XZ} {gs:List Gt} {os:X0} {safe:Bool}
theorem yx{x:Nat}:x∈lA (dq m gs)↔∃i k,k < m/\x=m*i+k/\i∈lA gs:=by
 rw[xN];constructor
 .rintro⟨g,hg,hs⟩;have hi:x < m*gs.length:=by rw[<-jj];exact(List.getElem?_eq_some_iff.mp hg).1
  have hm0:0 < m:=by
   cases m with
   | zero=>rw [Nat.zero_mul] at hi;omega
   | succ n=>omega
  have hq:x / m < gs.length:=Nat.div_lt_of_lt_mul hi;have hr:=Nat.mod_lt x hm0;have h2:=oA (m:=m) (k:=x % m) (List.getElem?_eq_getElem hq) hr;rw[Nat.div_add_mod,hg] at h2;cases h2;exact⟨x / m,x % m,hr,(Nat.div_add_mod x m).symm,xN.mpr ⟨_,List.getElem?_eq_getElem hq,hs⟩⟩
 .rintro⟨i,k,hk,rfl,hu⟩;obtain⟨g,hg,hs⟩:=xN.mp hu;exact⟨_,oA hg hk,hs⟩
structure Pl (c:Nat) (ins:XZ) (gs:List Gt) (os:X0):Prop where
 no:gU ins gs os
 hc:ins.length=c
 w1:∀x∈ins,x.2=1
 o1:∀x∈os,∃w,x.2=[w]
theorem Pl.js(P:Pl c ins gs os):MT.js ins=ins.length:=by rw[mJ P.w1,Nat.one_mul]
theorem Pl.g(P:Pl c ins gs os)(i:Nat)(g:Gt)(h:gs[i]? =some g):nD (ins.length+i) g:=by
 have:=P.no.g i g h;rw[P.js] at this;exact this
def wv(c:Nat)(ins:XZ)(gs:List Gt)(T:List Int)(w p:Nat):Bool:=fk (Wd c ins gs T []) w p
theorem Jo(P:Pl c ins gs os){x:Str × List Nat}{w p:Nat}{T:List Int}(hx:x∈os)(hw:x.2=[w]) :
 (tell (Wd c (bC m ins) (dq m gs) T []) (x.1,(List.range m).map fun k=>m*x.2.getD 0 0+k)).map (· p)=(List.range m).map fun k=>wv c ins gs (shr m k gs.length T) w p:=by
 unfold tell;rw[hw];show(((List.range m).map fun k=>m*w+k).map (fk _)).map (· p)=_
 rw[List.map_map,List.map_map];refine List.map_congr_left fun k hk=>?_
 have h2:=(P.no.o x hx).2 w (by rw[hw];simp)
 rw[P.js] at h2;have:=t5 (m:=m) (p:=p) (T:=T) (bad:=[]) (bits:=vv c) (by rw[qJ,P.hc]) P.w1 P.g (w+1) w (by omega) h2 k (List.mem_range.mp hk)
 rw[qN] at this;exact this
theorem vm{k w p:Nat}:wv c ins gs (shr m k gs.length []) w p=wv c ins gs [] w p:=by rw[qN]
theorem qx{k i w p:Nat}(hk:k < m):wv c ins gs (shr m k gs.length (nZ [m*i+k])) w p=wv c ins gs (nZ [i]) w p:=by
 have e:Wd c ins gs (shr m k gs.length (nZ [m*i+k])) []=Wd c ins gs (nZ [i]) []:=u7 fun j hj=>Fo hk j hj
 unfold wv;rw[e]
theorem jg{k k' i w p:Nat}(hk:k < m)(PY:k' < m)(h:k'≠k):wv c ins gs (shr m k' gs.length (nZ [m*i+k])) w p=wv c ins gs [] w p:=by
 have e:Wd c ins gs (shr m k' gs.length (nZ [m*i+k])) []=Wd c ins gs [] []:=u7 fun j hj=>DU hk PY h j hj
 unfold wv;rw[e]
theorem Ck(P:Pl c ins gs os){x:Str × List Nat}{w p:Nat}{T:List Int}(hx:x∈os)(hw:x.2=[w]) :
 pt (Wd c (bC m ins) (dq m gs) T []) (x.1,(List.range m).map fun k=>m*x.2.getD 0 0+k) p=vZ ((List.range m).map fun k=>wv c ins gs (shr m k gs.length T) w p):=by
 unfold pt;rw[Jo P hx hw]
theorem xi{x:Str × List Nat}{w p:Nat}{T:List Int}(hw:x.2=[w]):pt (Wd c ins gs T []) x p=(!(wv c ins gs T w p),wv c ins gs T w p):=by
 unfold pt tell;rw[hw];rfl
theorem Ho(P:Pl c ins gs os){i k p:Nat}(hk:k < 3):nO safe c (bC 3 ins) (dq 3 gs) (nK 3 os) (nZ [3*i+k]) p=false:=by
 unfold nO nK;rw[List.any_map,List.any_eq_false];intro x hx;obtain⟨w,hw⟩:=P.o1 x hx;show ¬brk safe (pt _ _ p) (pt _ _ p)=true;rw[Ck P hx hw,Ck P hx hw];show ¬brk safe (vZ [wv c ins gs (shr 3 0 gs.length []) w p,wv c ins gs (shr 3 1 gs.length []) w p,wv c ins gs (shr 3 2 gs.length []) w p]) (vZ [wv c ins gs (shr 3 0 gs.length (nZ [3*i+k])) w p,wv c ins gs (shr 3 1 gs.length (nZ [3*i+k])) w p,wv c ins gs (shr 3 2 gs.length (nZ [3*i+k])) w p])=true;rw[vm,vm,vm];rcases(by omega:k=0\/k=1\/k=2) with rfl | rfl | rfl
 .rw [qx hk,jg hk (by omega) (by omega),jg hk (by omega) (by omega)]
  cases wv c ins gs [] w p <;> cases wv c ins gs (nZ [i]) w p <;> cases safe <;> decide
 .rw [qx hk,jg hk (by omega) (by omega),jg hk (by omega) (by omega)]
  cases wv c ins gs [] w p <;> cases wv c ins gs (nZ [i]) w p <;> cases safe <;> decide
 .rw [qx hk,jg hk (by omega) (by omega),jg hk (by omega) (by omega)]
  cases wv c ins gs [] w p <;> cases wv c ins gs (nZ [i]) w p <;> cases safe <;> decide
theorem CD(P:Pl c ins gs os){x:Str × List Nat}{w i k p:Nat}(hk:k < 2)(hx:x∈os)(hw:x.2=[w]) :
 brk safe (pt (Wd c (bC 2 ins) (dq 2 gs) [] []) (x.1,(List.range 2).map fun k=>2*x.2.getD 0 0+k) p) (pt (Wd c (bC 2 ins) (dq 2 gs) (nZ [2*i+k]) []) (x.1,(List.range 2).map fun k=>2*x.2.getD 0 0+k) p)=(!safe && (wv c ins gs [] w p !=wv c ins gs (nZ [i]) w p)):=by
 rw[Ck P hx hw,Ck P hx hw];show brk safe (vZ [wv c ins gs (shr 2 0 gs.length []) w p,wv c ins gs (shr 2 1 gs.length []) w p]) (vZ [wv c ins gs (shr 2 0 gs.length (nZ [2*i+k])) w p,wv c ins gs (shr 2 1 gs.length (nZ [2*i+k])) w p])=_;rw[vm,vm];rcases(by omega:k=0\/k=1) with rfl | rfl
 .rw [qx hk,jg hk (by omega) (by omega)]
  cases wv c ins gs [] w p <;> cases wv c ins gs (nZ [i]) w p <;> cases safe <;> rfl
 .rw [qx hk,jg hk (by omega) (by omega)]
  cases wv c ins gs [] w p <;> cases wv c ins gs (nZ [i]) w p <;> cases safe <;> rfl
theorem Gq(P:Pl c ins gs os){i k p:Nat}(hk:k < 2):nO true c (bC 2 ins) (dq 2 gs) (nK 2 os) (nZ [2*i+k]) p=false:=by
 unfold nO nK;rw[List.any_map,List.any_eq_false];intro x hx;obtain⟨w,hw⟩:=P.o1 x hx;show ¬brk true (pt _ _ p) (pt _ _ p)=true;rw[CD P hk hx hw];exact Bool.false_ne_true
theorem mi{α:Type}{f g:α->Bool}:∀{xs:List α},(∀x∈xs,f x=g x)->xs.any f=xs.any g
 | [],_=>rfl
 | x ::xs,h=>by rw[List.any_cons,List.any_cons,h x List.mem_cons_self,mi fun y hy=>h y (List.mem_cons_of_mem _ hy)]
theorem K2(P:Pl c ins gs os){T:List Int}{p:Nat}:nO false c ins gs os T p=os.any fun x=>wv c ins gs [] (x.2.getD 0 0) p !=wv c ins gs T (x.2.getD 0 0) p:=by
 unfold nO;refine mi fun x hx=>?_
 obtain⟨w,hw⟩:=P.o1 x hx;rw[xi hw,xi hw,hw];show brk false _ _=(wv c ins gs [] w p !=wv c ins gs T w p);cases wv c ins gs [] w p <;> cases wv c ins gs T w p <;> rfl
theorem wq(P:Pl c ins gs os){i k p:Nat}(hk:k < 2):nO false c (bC 2 ins) (dq 2 gs) (nK 2 os) (nZ [2*i+k]) p=nO false c ins gs os (nZ [i]) p:=by
 rw[K2 P];unfold nO nK;rw[List.any_map];refine mi fun x hx=>?_
 obtain⟨w,hw⟩:=P.o1 x hx;refine(CD (safe:=false) P hk hx hw).trans ?_;rw[hw];rfl
theorem Az(P:Pl c ins gs os)(hm:m<=1):bears safe c (bC 3 ins) (dq 3 gs) (nK 3 os) m=gh:=mB fun s h1 h2 T hT p hp=>by
 have hl:=ph hT;obtain rfl:s=1:=by omega
 obtain⟨x,rfl⟩:=List.length_eq_one_iff.mp hl.1;obtain⟨i,k,hk,rfl,_⟩:=yx.mp (hl.2 x (by simp))
 exact Ho P hk
theorem D4(P:Pl c ins gs os)(hm:m<=1):bears true c (bC 2 ins) (dq 2 gs) (nK 2 os) m=gh:=mB fun s h1 h2 T hT p hp=>by
 have hl:=ph hT;obtain rfl:s=1:=by omega
 obtain⟨x,rfl⟩:=List.length_eq_one_iff.mp hl.1;obtain⟨i,k,hk,rfl,_⟩:=yx.mp (hl.2 x (by simp))
 exact Gq P hk
def sI(c:Nat)(ins:XZ)(gs:List Gt)(os:X0):Bool:=(lA gs).any fun i=>(List.range (2 ^ c)).any (nO false c ins gs os (nZ [i]))
theorem Eb(P:Pl c ins gs os):l4 (bears false c (bC 2 ins) (dq 2 gs) (nK 2 os) 1) gh= .ok (.bl (!sI c ins gs os)):=by
 cases q:sI c ins gs os with
 | false=>
   rw[mB fun s h1 h2 T hT p hp=>?_]
   .exact tV
   .have hl:=ph hT;obtain rfl:s=1:=by omega
    obtain⟨x,rfl⟩:=List.length_eq_one_iff.mp hl.1;obtain⟨i,k,hk,rfl,hu⟩:=yx.mp (hl.2 x (by simp))
    rw[wq P hk];unfold sI at q;rw[List.any_eq_false] at q;have:=q i hu;rw[Bool.not_eq_true,List.any_eq_false] at this;exact Bool.eq_false_iff.mpr (this p (List.mem_range.mpr hp))
 | true=>
   unfold sI at q;obtain⟨i,hu,h⟩:=List.any_eq_true.mp q;obtain⟨p,hp,h⟩:=List.any_eq_true.mp h;obtain⟨T',p',e⟩:=Br (safe:=false) (c:=c) (ins:=bC 2 ins) (gs:=dq 2 gs) (os:=nK 2 os) (m:=1) (s:=1) (T:=[2*i+0]) (Nat.le_refl _) (Lm (yx.mpr ⟨i,0,by omega,rfl,hu⟩)) (List.mem_range.mp hp) (by rw[wq P (by omega)];exact h)
   rw[e];exact ML
end
end K31
end
section
namespace K31
open PySem PySem.Spec PyProof.Rows L2 L3 MT
theorem mW{S:aN}{δ:DE}{i:Nat}{v:V3}{d:D}(hi:δ[i]? =some (some v))(hr:res S v=some d):ai i (df S δ)= .ok d:=by
 unfold ai df;rw[List.getElem?_map,hi];show(match some (match res S v with | some d=>Sl.val d | none=> .un) with | some (.val d)=>R.ok d | _=> .no)=_
 rw[hr]
theorem AY{S:aN}{δ:DE}{i:Nat}{v:V3}{d:D}(hi:δ[i]? =some (some v))(hr:res S v=some d):mY (df S δ) i= .val d:=by
 unfold mY df;rw[List.getElem?_map,hi];show(match some (match res S v with | some d=>Sl.val d | none=> .un) with | some (.val d)=>Sl.val d | _=> .un)=_
 rw[hr]
def two(S:aN)(A B:List D):aN:=S++[SO.lst A,SO.lst B]
theorem uH{S:aN}{A B:List D}:(two S A B)[S.length]? =some (.lst A):=by unfold two;rw [List.getElem?_append_right (Nat.le_refl _),Nat.sub_self];rfl
theorem su{S:aN}{A B:List D}:(two S A B)[S.length+1]? =some (.lst B):=by unfold two;rw [List.getElem?_append_right (by omega),show S.length+1 - S.length=1 by omega];rfl
theorem Hu{S:aN}{A B A':List D}:(two S A B).set S.length (.lst A')=two S A' B:=by unfold two;rw [List.set_append_right _ _ (Nat.le_refl _),Nat.sub_self];rfl
theorem HF{S:aN}{A B B':List D}:(two S A B).set (S.length+1) (.lst B')=two S A B':=by unfold two;rw [List.set_append_right _ _ (by omega),show S.length+1 - S.length=1 by omega];rfl
theorem Hq{S:aN}{A:List D}:(S++[SO.lst A])++[SO.lst []]=two S A []:=by unfold two;rw [List.append_assoc];rfl
theorem vk(a b:Nat):gS (nI a) (nI b)= .ok (nI (a+b)):=by
 show R.ok (D.int ((a:Int)+(b:Int)))= .ok (.int ((a+b:Nat):Int));rw[Int.natCast_add]
def zY(a m:Nat):D:= .tup ((List.range m).map fun j=>nI (a+j))
theorem iV{a m:Nat}(hm:m<=10):er [nI a,nI m]= .ok (zY a m):=by
 have hz:sizeLine=16777216:=sizeLine_eq;unfold er qD;refine di (cN (aA (ds:=[.lst ((List.range m).map fun j=>nI (a+j))]) (aq (dt (ck (ds:=(List.range m).map nI) ?_ (by rw[List.length_map,List.length_range];omega) ?_)) rfl) rfl))
 .rw [<-pE];exact fD (n:=m) rfl (by omega)
 .exact NT.bL (t:=aO 0) (c:=fw) (δ:=[.un, .val (nI a)]) nI _ fun k hk=>⟨[.val (nI k), .val (nI a)],rfl,rfl,ay (a:=nI a) (b:=nI k) rfl rfl (vk _ _)⟩
theorem Bt(a m:Nat):mj (zY a m)=true:=by
 have:=uZ ((List.range m).map fun j=>a+j)
 rw[List.map_map] at this;exact this
def Jj(s:Nat->Nat->Nat)(g:Gt)(k:Nat):Gt:=(g.1,g.2.1.map (fun w=>s w k),g.2.2)
def m8(s:Nat->Nat->Nat)(m N:Nat):List D:=(List.range N).map fun w=> .tup ((List.range m).map fun j=>nI (s w j))
theorem K6{s:Nat->Nat->Nat}{m N w:Nat}(h:w < N):cy (.lst (m8 s m N)) (nI w)= .ok (.tup ((List.range m).map fun j=>nI (s w j))):=NT.tR (by unfold m8;rw [List.getElem?_map,List.getElem?_range h];rfl)
theorem Pc{s:Nat->Nat->Nat}{m w k:Nat}(h:k < m):cy (.tup ((List.range m).map fun j=>nI (s w j))) (nI k)= .ok (nI (s w k)):=NT.IL (by rw[List.getElem?_map,List.getElem?_range h];rfl)
theorem JW(g:Gt):mj (dS g)=true:=by
 unfold dS mj;show(mj (.str (kS g.1)) && (mj (.tup (g.2.1.map nI)) && (mj (.bl g.2.2) && n5 [])))=true;rw[uZ];rfl
section
variable {m:Nat} {ins:XZ} {gs:List Gt} {os:X0} {S:aN}
def tE(nt:D)(m:Nat)(v:Bool)(tp:Nat)(S:aN)(a6 a7 a8 a9 a10 a11:Option V3):DE:=[some (.d nt),some (.d (nI m)),some (.d (.bl v)),some (.d (nI tp)),some (.loc S.length),some (.loc (S.length+1)),a6,a7,a8,a9,a10,a11]
theorem J7{s:Nat->Nat->Nat}{n:Nat}{g:Gt}{k tp N:Nat}{v:Bool}{nt:D}{G:List D}{a7 a9 a10 a11:Option V3}(hk:k < m)(hm:m<=10)(hg:nD n g)(hN:n<=N) :
 dP (ak (e2 cy (ai 6) (eC (.int 0))) (ak (aQ ng (ak (eNew (cZ (dy (e2 cy (ai 6) (eC (.int 1)))) (aO 0) fw (e2 cy (e2 cy (ai 1) (ai 0)) (ai 2)) ["wire"] [4,8])) aP)) (ak (e2 cy (ai 6) (eC (.int 2))) aP))) (df (two S (m8 s m N) G) (tE nt m v tp S (some (.d (dS g))) a7 (some (.d (nI k))) a9 a10 a11))= .ok (dS (Jj s g k)):=by
 have hz:sizeLine=16777216:=sizeLine_eq;have hal:=CG g.1;have Kv:=hg.2.1;generalize hE:df (two S (m8 s m N) G) (tE nt m v tp S (some (.d (dS g))) a7 (some (.d (nI k))) a9 a10 a11)=E;have v4:ai 4 E= .ok (.lst (m8 s m N)):=by rw[<-hE];exact mW (v:= .loc S.length) rfl (oG uH)
 have v6:ai 6 E= .ok (dS g):=by rw[<-hE];exact mW (v:= .d (dS g)) rfl (by unfold res;rfl)
 have hc:oO ["wire"] [4,8] E=[.un, .val (.lst (m8 s m N)), .val (nI k)]:=by
  rw[<-hE];show [Sl.un]++[mY _ 4,mY _ 8]=_;rw[AY (v:= .loc S.length) rfl (oG uH),AY (v:= .d (nI k)) rfl (by unfold res;rfl)]
  rfl
 refine cH (ds:=[.str (kS g.1), .tup ((Jj s g k).2.1.map nI), .bl g.2.2]) (aq (ay (a:=dS g) (b:= .int 0) v6 rfl rfl) (aq (aA (ds:=[.lst ((Jj s g k).2.1.map nI)]) (aq (dt (ck (ds:=g.2.1.map nI) (x4 (ay (a:=dS g) (b:= .int 1) v6 rfl rfl)) (by rw[List.length_map];omega) ?_)) rfl) rfl) (aq (ay (a:=dS g) (b:= .int 2) v6 rfl rfl) rfl))) (by simp;omega)
 rw[hc];show _=R.ok ((g.2.1.map (fun w=>s w k)).map nI)
 rw[List.map_map];refine NT.bL nI _ fun w hw=>⟨[.val (nI w), .val (.lst (m8 s m N)), .val (nI k)],rfl,rfl,?_⟩
 have:=hg.2.2 w hw;exact ay (a:= .tup ((List.range m).map fun j=>nI (s w j))) (b:=nI k) (ay (a:= .lst (m8 s m N)) (b:=nI w) rfl rfl (K6 (by omega))) rfl (Pc hk)
theorem sP{s:Nat->Nat->Nat}{n:Nat}{g:Gt}{tp:Nat}{v:Bool}{nt:D}{G:List Gt}{a7 a8 a9 a10 a11:Option V3}(hm:m<=10)(hg:nD n g)(Qr:G.length<=900){QO:Ou->aN->Prop}
 (h:∀b8,QO (.nx (tE nt m v tp S (some (.d (dS g))) a7 b8 a9 a10 a11)) (two S (m8 s m n) ((G++(List.range m).map (Jj s g)).map dS))) :
 W3 (lL (iP (dU (ai 1))) (lJ 8) pd (tE nt m v tp S (some (.d (dS g))) a7 a8 a9 a10 a11) (two S (m8 s m n) (G.map dS))) QO:=by
 have hz:sizeLine=16777216:=sizeLine_eq;refine jA <| rn (ds:=(List.range m).map nI) ?_ ?_
 .rw [<-pE];exact fD (n:=m) rfl (by omega)
 refine(c9 (fun j δ S2=>∃b8,δ=tE nt m v tp S (some (.d (dS g))) a7 b8 a9 a10 a11/\S2=two S (m8 s m n) ((G++(List.range j).map (Jj s g)).map dS))
  ⟨a8,rfl,by simp⟩ ?_).mono fun o S2 ⟨eM,jm,b8,hδ,hS⟩=>by rw[jm,hδ,hS,List.length_map,List.length_map,List.length_range];exact h b8
 rintro j x δ S2 hv ⟨b8,rfl,rfl⟩;obtain⟨k,hk,rfl⟩:=NT.jr hv;have hj:j < m:=by have:=(List.getElem?_eq_some_iff.mp hk).1;rwa [List.length_range] at this
 rw[List.getElem?_range hj] at hk;cases hk;refine⟨tE nt m v tp S (some (.d (dS g))) a7 (some (.d (nI j))) a9 a10 a11,rfl,?_⟩;unfold pd;refine oX (k:=S.length+1) rfl ⟨_,su⟩ <| GJ (J7 hj hm hg (Nat.le_refl _)) (JW _) ⟨_,_,rfl,su,?_,_,rfl,_,rfl,?_⟩
 .rw [List.length_map,List.length_append,List.length_map,List.length_range];omega
 .rw [HF];congr 1;rw[List.range_succ,List.map_append,List.map_append,List.map_append,List.map_append,<-List.append_assoc];rfl
theorem BF{s:Nat->Nat->Nat}{n i tp:Nat}{g:Gt}{nt:D}{G:List Gt}{a7 a8 a9 a10 a11:Option V3}(hm:m<=10)(hn:n < 1000)(hg:nD n g)(Qr:G.length<=900)(hs:∀j,s n j=tp+G.length+j) :
 W3 (iE (tE nt m false tp S (some (.d (dS g))) a7 a8 a9 a10 a11) (two S (m8 s m n) (G.map dS))) fun o S1=>∃b7 b8 b9,o= .nx (tE nt m false tp S (some (.d (dS g))) b7 b8 b9 a10 a11)/\S1=two S (m8 s m (n+1)) ((G++(List.range m).map (Jj s g)).map dS):=by
 have hz:sizeLine=16777216:=sizeLine_eq;unfold iE;refine aV <| bU (by show 7 < 12;omega) <| GJ (d:=zY (tp+G.length) m) (aA (ds:=[nI (tp+G.length),nI m]) (aq (ay (a:=nI tp) (b:=nI G.length) (mW (v:= .d (nI tp)) rfl (by unfold res;rfl)) (aA (ds:=[.lst (G.map dS)]) (aq (mW (v:= .loc (S.length+1)) rfl (oG su)) rfl) (by rw[k5,List.length_map];rfl)) (vk _ _)) (aq (mW (v:= .d (nI m)) rfl (by unfold res;rfl)) rfl)) (iV hm)) (Bt _ _) ⟨_,rfl,?_⟩
 show W3 (bB _ _ (tE nt m false tp S (some (.d (dS g))) (some (.d (zY (tp+G.length) m))) a8 a9 a10 a11) _) _;refine aV <| sP hm hg Qr fun b8=>⟨_,rfl,?_⟩
 refine mD <| rg (b:=false) rfl ?_
 rw[if_neg (by decide)]
 refine oX (k:=S.length) rfl ⟨_,uH⟩ <| bM (d:=zY (tp+G.length) m) rfl ⟨_,_,rfl,uH,by unfold m8;rw [List.length_map,List.length_range];omega,_,_,_,rfl,?_⟩
 rw[Hu];congr 1;unfold m8 zY;rw[List.range_succ,List.map_append];congr 1;show [D.tup _]=[D.tup _];congr 2;refine List.map_congr_left fun j _=>?_
 rw[hs]
theorem Bu{s:Nat->Nat->Nat}{n i tp:Nat}{g:Gt}{nt:D}{G:List Gt}{a7 a8 a9 a10 a11:Option V3}(hn:n < 1000)(hg:nD n g)(Qr:G.length<=900)(hs:∀j,s n j=tp+(G.length+3)+j) :
 W3 (iE (tE nt 3 true tp S (some (.d (dS g))) a7 a8 a9 a10 a11) (two S (m8 s 3 n) (G.map dS))) fun o S1=>∃b7 b8 b9,o= .nx (tE nt 3 true tp S (some (.d (dS g))) b7 b8 b9 a10 a11)/\S1=two S (m8 s 3 (n+1)) ((G++(List.range 3).map (Jj s g)++List.replicate 3 ((4,[tp+G.length,tp+G.length+1,tp+G.length+2],g.2.2):Gt)).map dS):=by
 have hz:sizeLine=16777216:=sizeLine_eq;unfold iE;refine aV <| bU (by show 7 < 12;omega) <| GJ (d:=zY (tp+G.length) 3) (aA (ds:=[nI (tp+G.length),nI 3]) (aq (ay (a:=nI tp) (b:=nI G.length) (mW (v:= .d (nI tp)) rfl (by unfold res;rfl)) (aA (ds:=[.lst (G.map dS)]) (aq (mW (v:= .loc (S.length+1)) rfl (oG su)) rfl) (by rw[k5,List.length_map];rfl)) (vk _ _)) (aq (mW (v:= .d (nI 3)) rfl (by unfold res;rfl)) rfl)) (iV (by omega))) (Bt _ _) ⟨_,rfl,?_⟩
 show W3 (bB _ _ (tE nt 3 true tp S (some (.d (dS g))) (some (.d (zY (tp+G.length) 3))) a8 a9 a10 a11) _) _;refine aV <| sP (by omega) hg Qr fun b8=>⟨_,rfl,?_⟩
 refine mD <| rg (b:=true) rfl ?_
 rw[if_pos rfl];have KD:((G++(List.range 3).map (Jj s g)).map dS).length=G.length+3:=by simp
 refine aV <| bU (by show 9 < 12;omega) <| GJ (d:=zY (tp+(G.length+3)) 3) (aA (ds:=[nI (tp+(G.length+3)),nI 3]) (aq (ay (a:=nI tp) (b:=nI (G.length+3)) (mW (v:= .d (nI tp)) rfl (by unfold res;rfl)) (aA (ds:=[.lst ((G++(List.range 3).map (Jj s g)).map dS)]) (aq (mW (v:= .loc (S.length+1)) rfl (oG su)) rfl) (by rw[k5,KD];rfl)) (vk _ _)) (aq (mW (v:= .d (nI 3)) rfl (by unfold res;rfl)) rfl)) (iV (by omega))) (Bt _ _) ⟨_,rfl,?_⟩
 show W3 (bB _ _ (tE nt 3 true tp S (some (.d (dS g))) (some (.d (zY (tp+G.length) 3))) b8 (some (.d (zY (tp+(G.length+3)) 3))) a10 a11) _) _;refine aV <| OB (k:=S.length+1) rfl ⟨_,su⟩ <| bM (d:= .lst ((List.replicate 3 ((4,[tp+G.length,tp+G.length+1,tp+G.length+2],g.2.2):Gt)).map dS)) ?_ ⟨_,_,rfl,su,by rw[KD];simp;omega,_,rfl,?_⟩
 .refine dt (ck (ds:=(List.range 3).map fun j=>nI (tp+(G.length+3)+j)) (x4 rfl) (by simp;omega) ?_)
  exact NT.bL (t:=aO 0) (c:=fw) (δ:=[.un, .val (dS g), .val (zY (tp+G.length) 3)]) (fun j=>nI (tp+(G.length+3)+j)) (fun _=>dS (4,[tp+G.length,tp+G.length+1,tp+G.length+2],g.2.2)) (xs:=List.range 3) fun j _=>⟨[.val (nI (tp+(G.length+3)+j)), .val (dS g), .val (zY (tp+G.length) 3)],rfl,rfl,cH (ds:=[.str "vote",zY (tp+G.length) 3, .bl g.2.2]) (aq rfl (aq rfl (aq (ay (a:=dS g) (b:= .int 2) rfl rfl rfl) rfl))) (by simp;omega)⟩
 rw[HF,<-List.map_append];refine oX (k:=S.length) rfl ⟨_,uH⟩ <| bM (d:=zY (tp+(G.length+3)) 3) rfl ⟨_,_,rfl,uH,by unfold m8;rw [List.length_map,List.length_range];omega,_,_,_,rfl,?_⟩
 rw[Hu];congr 1;unfold m8 zY;rw[List.range_succ (n:=n),List.map_append];congr 1;show [D.tup _]=[D.tup _];congr 2;refine List.map_congr_left fun j _=>?_
 rw[hs]
end
end K31
end
section
namespace K31
open PySem PySem.Spec PyProof.Rows L2 L3 MT
section
variable {c m:Nat} {ins:XZ} {gs:List Gt} {os:X0} {S:aN}
theorem t9{s:Nat->Nat->Nat}{v:Bool}{GS:Nat->List Gt}(P:Pl c ins gs os)(hm:m<=10)(Wh:∀w j,w < ins.length->s w j=w*m+j)(Wl:GS 0=[])
 (step:∀(i:Nat) (g:Gt) (a7 a8 a9:Option V3),gs[i]? =some g->W3 (iE (tE (aJ ins gs os) m v (ins.length*m) S (some (.d (dS g))) a7 a8 a9 none none) (two S (m8 s m (ins.length+i)) ((GS i).map dS))) fun o S1=>∃b7 b8 b9,o= .nx (tE (aJ ins gs os) m v (ins.length*m) S (some (.d (dS g))) b7 b8 b9 none none)/\S1=two S (m8 s m (ins.length+i+1)) ((GS (i+1)).map dS))
 (hS:k6 S) {Q:V3->aN->Prop} (h:Q (.d (aJ (bC m ins) (GS gs.length) (os.map fun x=>(x.1,(List.range m).map fun j=>s (x.2.getD 0 0) j)))) S) :
 W3 (eJ [.d (aJ ins gs os), .d (nI m), .d (.bl v)] S) Q:=by
 have hz:sizeLine=16777216:=sizeLine_eq;have hi:=P.no.hi;have hO:=P.no.ho;unfold eJ;refine ib hS (tK rfl ?_);simp only[cq,gG,List.map,List.length,List.replicate,List.cons_append,List.nil_append,Nat.reduceAdd,Nat.reduceSub];unfold uY;have hlen:∀{δ:aw},ai 0 δ= .ok (aJ ins gs os)->aQ eW (ak (e2 cy (ai 0) (eC (.int 0))) aP) δ= .ok (nI ins.length):=fun hv=>aA (ds:=[.lst (ins.map MT.inD)]) (aq (ay (a:=aJ ins gs os) (b:= .int 0) hv rfl rfl) rfl) (by rw[k5,List.length_map];rfl)
 have hmulN:∀a:Nat,a < 1000->fB (nI a) (nI m)= .ok (nI (a*m)):=fun a ha=>(NT.JF (a:=a) (b:=m) ha)
 refine aV <| bU (by simp) <| bM (d:=nI (ins.length*m)) (ay (a:=nI ins.length) (b:=nI m) (hlen rfl) rfl (hmulN _ (by omega))) ⟨_,rfl,?_⟩
 simp only[List.set];refine aV <| bU (by simp) <| mX (ds:=m8 s m ins.length) ?_ ⟨_,rfl,?_⟩
 .refine ck (ds:=(List.range ins.length).map nI) ?_ (by rw[List.length_map,List.length_range];omega) ?_
  .rw [<-pE];exact fD (n:=ins.length) (hlen rfl) (by omega)
  refine NT.bL (t:=aO 0) (c:=fw) (δ:=[.un, .val (nI m)]) nI _ fun w hw=>⟨[.val (nI w), .val (nI m)],rfl,rfl,?_⟩
  have hw:=List.mem_range.mp hw;refine(aA (ds:=[nI (w*m),nI m]) (aq (ay (a:=nI w) (b:=nI m) rfl rfl (hmulN _ (by omega))) (aq rfl rfl)) (iV hm)).trans ?_
  unfold zY;congr 2;exact List.map_congr_left fun j _=>by rw[Wh w j hw]
 simp only[List.set];refine aV <| bU (by simp) <| mX (ds:=[]) rfl ⟨_,rfl,?_⟩
 rw[Hq];simp only[List.set];rw[show(S++[SO.lst (m8 s m ins.length)]).length=S.length+1 by simp]
 refine aV <| jA <| rn (ds:=gs.map dS) (k4 (ay (a:=aJ ins gs os) (b:= .int 1) rfl rfl rfl)) ?_
 refine(c9 (fun i δ S2=>∃a6 a7 a8 a9,δ=tE (aJ ins gs os) m v (ins.length*m) S a6 a7 a8 a9 none none/\S2=two S (m8 s m (ins.length+i)) ((GS i).map dS))
  ⟨_,_,_,_,rfl,by rw[Wl];rfl⟩ ?_).mono fun o S2 ⟨eM,jm,a6,a7,a8,a9,hδ,AG⟩=>⟨eM,jm,?_⟩
 .rintro i x δ S2 hv ⟨a6,a7,a8,a9,rfl,rfl⟩;obtain⟨g,hg,rfl⟩:=NT.jr hv;refine⟨tE (aJ ins gs os) m v (ins.length*m) S (some (.d (dS g))) a7 a8 a9 none none,rfl,?_⟩;exact(step i g a7 a8 a9 hg).mono fun o S3 ⟨b7,b8,b9,e3,NK⟩=>⟨_,e3,_,_,_,_,rfl,NK⟩
 rw[List.length_map,List.length_map] at AG;subst hδ AG;unfold tE;refine aV <| bU (by simp) <| mX (ds:=(bC m ins).map MT.inD) ?_ ⟨_,rfl,?_⟩
 .refine ck (ds:=ins.map MT.inD) (k4 (ay (a:=aJ ins gs os) (b:= .int 0) rfl rfl rfl)) (by rw[List.length_map];omega) ?_
  unfold bC;rw[List.map_map];exact NT.bL (t:=ic 2 (cj (aO 0) (cj (aO 1) ig))) (c:=fw) (δ:=[.un, .un, .val (nI m)]) MT.inD _ fun x _=>⟨[.val (.str x.1), .val (nI x.2), .val (nI m)],rfl,rfl,cH (ds:=[.str x.1,nI m]) rfl (by simp;omega)⟩
 simp only[List.set];have ER:(two S (m8 s m (ins.length+gs.length)) ((GS gs.length).map dS)).length=S.length+2:=by unfold two;simp
 have ea:(two S (m8 s m (ins.length+gs.length)) ((GS gs.length).map dS)++[SO.lst ((bC m ins).map MT.inD)])[S.length]? =some (.lst (m8 s m (ins.length+gs.length))):=by rw[List.getElem?_append_left (by omega)];exact uH
 have eb:(two S (m8 s m (ins.length+gs.length)) ((GS gs.length).map dS)++[SO.lst ((bC m ins).map MT.inD)])[S.length+1]? =some (.lst ((GS gs.length).map dS)):=by rw[List.getElem?_append_left (by omega)];exact su
 have ec:(two S (m8 s m (ins.length+gs.length)) ((GS gs.length).map dS)++[SO.lst ((bC m ins).map MT.inD)])[S.length+2]? =some (.lst ((bC m ins).map MT.inD)):=by rw[<-ER];exact bG _ _
 have B_:two S (m8 s m (ins.length+gs.length)) ((GS gs.length).map dS)++[SO.lst ((bC m ins).map MT.inD)]=S++[SO.lst (m8 s m (ins.length+gs.length)),SO.lst ((GS gs.length).map dS),SO.lst ((bC m ins).map MT.inD)]:=by unfold two;rw [List.append_assoc];rfl
 have KD:(two S (m8 s m (ins.length+gs.length)) ((GS gs.length).map dS)++[SO.lst ((bC m ins).map MT.inD)]).length=S.length+3:=by rw[List.length_append,ER];rfl
 rw[ER];generalize hTT:two S (m8 s m (ins.length+gs.length)) ((GS gs.length).map dS)++[SO.lst ((bC m ins).map MT.inD)]=TT at ea eb ec B_ KD;refine aV <| bU (by simp) <| MD (ds:=(os.map fun x=>(x.1,(List.range m).map fun j=>s (x.2.getD 0 0) j)).map tj) ?_ ?_ ⟨_,rfl,?_⟩
 .generalize hE:df TT _=E;have v0:ai 0 E= .ok (aJ ins gs os):=by rw[<-hE];exact mW (v:= .d (aJ ins gs os)) rfl (by unfold res;rfl)
  have hc:oO ["name","wires"] [4] E=[.un, .un, .val (.lst (m8 s m (ins.length+gs.length)))]:=by
   rw[<-hE];show [Sl.un,Sl.un]++[mY _ 4]=_;rw[AY (v:= .loc S.length) rfl (oG ea)];rfl
  refine ck (ds:=os.map tj) (k4 (ay (a:=aJ ins gs os) (b:= .int 2) v0 rfl rfl)) (by rw[List.length_map];omega) ?_
  rw[hc,List.map_map];refine NT.bL (t:=ic 2 (cj (aO 0) (cj (aO 1) ig))) (c:=fw) tj _ fun x hx=>⟨[.val (.str x.1), .val (.tup (x.2.map nI)), .val (.lst (m8 s m (ins.length+gs.length)))],rfl,rfl,?_⟩
  obtain⟨w,hw⟩:=P.o1 x hx;have NS:=(P.no.o x hx).2 w (by rw[hw];simp)
  rw[P.js] at NS;rw[hw];show _=R.ok (tj (x.1,(List.range m).map fun j=>s (x.2.getD 0 0) j))
  rw[hw];refine cH (ds:=[.str x.1, .tup (((List.range m).map fun j=>s w j).map nI)]) (aq rfl (aq ((ay (a:= .lst (m8 s m (ins.length+gs.length))) (b:=nI w) rfl (ay (a:= .tup [nI w]) (b:= .int 0) rfl rfl rfl) (K6 NS)).trans ?_) rfl)) (by simp;omega)
  rw[List.map_map];rfl
 .generalize os=jw
  induction jw with
  | nil=>rfl
  | cons x xs ih=>
    rw[List.map_cons,List.map_cons];unfold n5;rw[ih,Bool.and_true];unfold tj mj;show(mj (.str x.1) && (mj (.tup _) && n5 []))=true;rw[uZ];rfl
 simp only[List.set];rw[KD];refine d9 <| y6 <| av <| w_var (v:= .loc (S.length+2)) rfl <| av <| w_var (v:= .loc (S.length+1)) rfl <| av <| w_var (v:= .loc (S.length+3)) rfl <| bz ⟨by simp;omega,_,rfl,?_,⟨[SO.lst (m8 s m (ins.length+gs.length)),SO.lst ((GS gs.length).map dS),SO.lst ((bC m ins).map MT.inD),SO.lst ((os.map fun x=>(x.1,(List.range m).map fun j=>s (x.2.getD 0 0) j)).map tj)],by rw[B_,List.append_assoc];rfl⟩,aJ (bC m ins) (GS gs.length) (os.map fun x=>(x.1,(List.range m).map fun j=>s (x.2.getD 0 0) j)),?_,h⟩
 .show eu S.length (.tup [.loc (S.length+2), .loc (S.length+1), .loc (S.length+3)])=true;simp [eu,oW]
 .have e1:(TT++[SO.lst ((os.map fun x=>(x.1,(List.range m).map fun j=>s (x.2.getD 0 0) j)).map tj)])[S.length+2]? =some (.lst ((bC m ins).map MT.inD)):=by rw[List.getElem?_append_left (by omega)];exact ec
  have jm:(TT++[SO.lst ((os.map fun x=>(x.1,(List.range m).map fun j=>s (x.2.getD 0 0) j)).map tj)])[S.length+1]? =some (.lst ((GS gs.length).map dS)):=by rw[List.getElem?_append_left (by omega)];exact eb
  have e3:(TT++[SO.lst ((os.map fun x=>(x.1,(List.range m).map fun j=>s (x.2.getD 0 0) j)).map tj)])[S.length+3]? =some (.lst ((os.map fun x=>(x.1,(List.range m).map fun j=>s (x.2.getD 0 0) j)).map tj)):=by rw[<-KD];exact bG _ _
  show res _ (.tup [.loc (S.length+2), .loc (S.length+1), .loc (S.length+3)])=_;simp only[res,xB,e1,jm,e3];rfl
theorem p9(P:Pl c ins gs os)(hm:m<=6)(hg:gs.length<=60)(hS:k6 S){Q:V3->aN->Prop}(h:Q (.d (aJ (bC m ins) (dq m gs) (nK m os))) S):W3 (eJ [.d (aJ ins gs os), .d (nI m), .d (.bl false)] S) Q:=by
 have hi:=P.no.hi;refine t9 (s:=fun w j=>m*w+j) (GS:=fun i=>dq m (gs.take i)) P (by omega) (fun w j _=>by rw[Nat.mul_comm]) rfl (fun i g a7 a8 a9 qS=>?_) hS (by rw[List.take_length];exact h)
 have hil:=(List.getElem?_eq_some_iff.mp qS).1;have hcl:(dq m (gs.take i)).length=m*i:=by rw[jj,List.length_take,Nat.min_eq_left (by omega)]
 have hmi:=Nat.mul_le_mul hm (show i<=60 by omega)
 have:=BF (S:=S) (m:=m) (s:=fun w j=>m*w+j) (n:=ins.length+i) (i:=i) (tp:=ins.length*m) (nt:=aJ ins gs os) (a7:=a7) (a8:=a8) (a9:=a9) (a10:=none) (a11:=none) (by omega) (by omega) (P.g i g qS) (by rw[hcl];omega) (fun j=>by rw[hcl,Nat.mul_add,Nat.mul_comm m ins.length])
 refine this.mono fun o S1 ⟨b7,b8,b9,eo,e1⟩=>⟨b7,b8,b9,eo,?_⟩
 rw[e1];congr 2;rw[List.take_add_one,qS];show _=dq m (gs.take i++[g]);unfold dq;rw[List.flatMap_append,List.flatMap_singleton];rfl
theorem xJ(P:Pl c ins gs os)(hg:gs.length<=60)(hS:k6 S){Q:V3->aN->Prop}(h:Q (.d (aJ (bC 3 ins) (eA ins.length gs) (uQ ins.length os))) S):W3 (eJ [.d (aJ ins gs os), .d (nI 3), .d (.bl true)] S) Q:=by
 have hi:=P.no.hi;refine t9 (s:=sQ ins.length) (GS:=fun i=>eA ins.length (gs.take i)) P (by omega) (fun w j hw=>by unfold sQ;rw [if_pos hw,Nat.mul_comm]) rfl (fun i g a7 a8 a9 qS=>?_) hS (by rw[List.take_length];exact h)
 have hil:=(List.getElem?_eq_some_iff.mp qS).1;have hcl:(eA ins.length (gs.take i)).length=6*i:=by unfold eA;rw [nW,List.length_take,Nat.min_eq_left (by omega)]
 have:=Bu (S:=S) (s:=sQ ins.length) (n:=ins.length+i) (i:=i) (tp:=ins.length*3) (nt:=aJ ins gs os) (G:=eA ins.length (gs.take i)) (a7:=a7) (a8:=a8) (a9:=a9) (a10:=none) (a11:=none) (by omega) (P.g i g qS) (by rw[hcl];omega) (fun j=>by unfold sQ;rw [if_neg (by omega),hcl];omega)
 refine this.mono fun o S1 ⟨b7,b8,b9,eo,e1⟩=>⟨b7,b8,b9,eo,?_⟩
 rw[e1,hcl];congr 2;rw[List.take_add_one,qS];show _=qd ins.length 0 (gs.take i++[g]);rw[Aw,Nat.zero_add,List.length_take,Nat.min_eq_left (by omega),List.append_assoc,Nat.mul_comm ins.length 3]
 rfl
theorem all_true{α:Type}(l:List α):EE [.lst (l.map fun _=>D.bl true)]= .ok (.bl true):=by
 have:(l.map fun _=>D.bl true)=(l.map fun _=>true).map D.bl:=by rw[List.map_map];rfl
 rw[this];show(match bls? ((l.map fun _=>true).map D.bl) with | some bs=>R.ok (D.bl (bs.all id)) | none=> .no)=_
 rw[yn];show R.ok (D.bl ((l.map fun _=>true).all id))=_
 rw[show(l.map fun _=>true).all id=true by simp]
theorem D1(P:Pl c ins gs os):fu [aJ ins gs os, .int 1]= .ok (.bl true):=by
 have hz:sizeLine=16777216:=sizeLine_eq;have hi:=P.no.hi;have hO:=P.no.ho;unfold fu;refine di ?_;unfold qH;refine bK (jM (d:= .bl true) (aA (ds:=[.lst (ins.map fun _=>D.bl true)]) (aq (dt (ck (ds:=ins.map MT.inD) (k4 (ay (a:=aJ ins gs os) (b:= .int 0) rfl rfl rfl)) (by rw[List.length_map];omega) ?_)) rfl) (all_true _)) (by simp [dz,gJ])) ?_
 .refine NT.bL (t:=aO 0) (c:=fw) (δ:=[.un, .val (.int 1)]) MT.inD (fun _=> .bl true) fun x hx=>⟨[.val (MT.inD x), .val (.int 1)],rfl,rfl,ay (a:=nI x.2) (b:= .int 1) (ay (a:=MT.inD x) (b:= .int 1) rfl rfl rfl) rfl ?_⟩
  rw[P.w1 x hx];rfl
 refine cN (NT.Mc rfl (aA (ds:=[.lst (os.map fun _=>D.bl true)]) (aq (dt (ck (ds:=os.map tj) (k4 (ay (a:=aJ ins gs os) (b:= .int 2) rfl rfl rfl)) (by rw[List.length_map];omega) ?_)) rfl) (all_true _)))
 refine NT.bL (t:=ic 2 (cj (aO 0) (cj (aO 1) ig))) (c:=fw) (δ:=[.un, .un, .val (.int 1)]) tj (fun _=> .bl true) fun x hx=>⟨[.val (.str x.1), .val (.tup (x.2.map nI)), .val (.int 1)],rfl,rfl,ay (a:= .int 1) (b:= .int 1) (aA (ds:=[.tup (x.2.map nI)]) rfl ?_) rfl rfl⟩
 obtain⟨w,hw⟩:=P.o1 x hx;rw[hw];rfl
theorem uR(P:Pl c ins gs os){t:Nat}(h:gs.length*t<=60):cW [aJ ins gs os,nI t]= .ok .de:=by
 have hg:=P.no.hg;have key:k9 (dz kY [aJ ins gs os,nI t])= .ok (.nx [.val (aJ ins gs os), .val (nI t)]):=by
  unfold k9;refine bK (ia ?_ rfl) (ia (ie (a:=nI (gs.length*t)) (b:= .int 60) (ay (a:=nI gs.length) (b:=nI t) (aA (ds:=[.lst (gs.map dS)]) (aq (ay (a:=aJ ins gs os) (b:= .int 1) rfl rfl rfl) rfl) (by rw[k5,List.length_map];rfl)) rfl ?_) rfl ?_) rfl)
  .show Bw (xV (aQ fu (ak (ai 0) (ak (eC (.int 1)) aP)))) [.val (aJ ins gs os), .val (nI t)]=_;unfold Bw xV;rw[aA (ds:=[aJ ins gs os, .int 1]) rfl (D1 P)];rfl
  .exact NT.JF (by omega)
  .show R.ok (D.bl (decide ((60:Int) < ((gs.length*t:Nat):Int))))=_;rw[decide_eq_false (by omega)]
 unfold cW sV;rw[key];rfl
theorem DH(P:Pl c ins gs os)(hg:gs.length*3<=60)(hS:k6 S){Q:V3->aN->Prop}(h:Q (.d (aJ (bC 3 ins) (dq 3 gs) (nK 3 os))) S):W3 (jH [.d (aJ ins gs os)] S) Q:=by
 unfold jH;refine ib hS (tK rfl ?_);simp only[cq,kD,List.map,List.length,List.replicate,List.cons_append,List.nil_append,Nat.reduceAdd,Nat.reduceSub];unfold n9;refine aV <| AO <| bM (d:= .de) (aA (ds:=[aJ ins gs os,nI 3]) rfl (uR P hg)) ⟨_,rfl,?_⟩
 exact d9 <| cI <| av <| bM (d:=aJ ins gs os) rfl <| av <| bM (d:=nI 3) rfl <| av <| bM (d:= .bl false) rfl <| bz <| p9 P (by omega) (by omega) hS ⟨_,rfl,by unfold eu;rfl,⟨[],by simp⟩,_,by unfold res;rfl,h⟩
theorem GH(P:Pl c ins gs os)(hg:gs.length*2<=60)(hS:k6 S){Q:V3->aN->Prop}(h:Q (.d (aJ (bC 2 ins) (dq 2 gs) (nK 2 os))) S):W3 (kM [.d (aJ ins gs os)] S) Q:=by
 unfold kM;refine ib hS (tK rfl ?_);simp only[cq,mv,List.map,List.length,List.replicate,List.cons_append,List.nil_append,Nat.reduceAdd,Nat.reduceSub];unfold px;refine aV <| AO <| bM (d:= .de) (aA (ds:=[aJ ins gs os,nI 2]) rfl (uR P hg)) ⟨_,rfl,?_⟩
 exact d9 <| cI <| av <| bM (d:=aJ ins gs os) rfl <| av <| bM (d:=nI 2) rfl <| av <| bM (d:= .bl false) rfl <| bz <| p9 P (by omega) (by omega) hS ⟨_,rfl,by unfold eu;rfl,⟨[],by simp⟩,_,by unfold res;rfl,h⟩
theorem Ft(P:Pl c ins gs os)(hg:gs.length*6<=60)(hS:k6 S){Q:V3->aN->Prop}(h:Q (.d (aJ (bC 3 ins) (eA ins.length gs) (uQ ins.length os))) S):W3 (iZ [.d (aJ ins gs os)] S) Q:=by
 unfold iZ;refine ib hS (tK rfl ?_);simp only[cq,jJ,List.map,List.length,List.replicate,List.cons_append,List.nil_append,Nat.reduceAdd,Nat.reduceSub];unfold me;refine aV <| AO <| bM (d:= .de) (aA (ds:=[aJ ins gs os,nI 6]) rfl (uR P hg)) ⟨_,rfl,?_⟩
 exact d9 <| cI <| av <| bM (d:=aJ ins gs os) rfl <| av <| bM (d:=nI 3) rfl <| av <| bM (d:= .bl true) rfl <| bz <| xJ P (by omega) hS ⟨_,rfl,by unfold eu;rfl,⟨[],by simp⟩,_,by unfold res;rfl,h⟩
end
end K31
end
section
set_option maxHeartbeats 4000000
namespace K31
open PySem PySem.Spec PyProof.Rows L2 L3 MT
structure AF (k g:Nat) (L:List D) (S S1:aN):Prop where
 p:BC k S1
 len:S1.length=S.length
 oth:∀j,j≠k->j≠g->S1[j]? =S[j]?
 gl:S1[g]? =some (.lst L)
theorem AF.then{k g:Nat}{L:List D}{S S1 S2:aN}(a:AF k g L S S1)(h:g≠k)(b:Ev k S1 S2):AF k g L S S2:=⟨b.p,b.len.trans a.len,fun j h1 h2=>(b.oth j h1).trans (a.oth j h1 h2),(b.oth g h).trans a.gl⟩
theorem AF.put{k g:Nat}{L L':List D}{S S1:aN}(a:AF k g L S S1)(h:g≠k):AF k g L' S (S1.set g (.lst L')):=by
 obtain⟨hL,x,c,e⟩:=a.p;exact⟨⟨hL.set _ (w9 _),x,c,by rw[List.getElem?_set_ne h];exact e⟩,by rw[List.length_set];exact a.len,fun j h1 h2=>by rw[List.getElem?_set_ne (Ne.symm h2)];exact a.oth j h1 h2,xr a.gl⟩
theorem AF.CH{k:Nat}{S S1:aN}(v:Ev k S S1)(L:List D):AF k S1.length L (S1++[.lst L]) (S1++[.lst L]):=⟨v.p.push L,rfl,fun _ _ _=>rfl,bG _ _⟩
theorem qo(n:Nat):((eg 0 n).map V3.d).length=n:=by simp [eg]
theorem tQ{n i:Nat}{v:V3}(h:((eg 0 n).map V3.d)[i]? =some v):i < n/\v= .d (.int i):=by
 rw[List.getElem?_map] at h;cases qq:(eg 0 n)[i]? with
 | none=>rw [qq] at h;cases h
 | some d=>
   rw[qq] at h;obtain⟨hi,rfl⟩:=xK qq;cases h;exact⟨hi,rfl⟩
section
variable {S:aN} {k:Nat} {δ:DE}
theorem DF{it:FA}{kp:List Nat}{own:List Str}{fm:FD}{n m:Nat}{Q:V3->aN->Prop}(Dz:m<=3)(hn:0 < n)(Ky:n < 1000000)(WU:own.length=1)(R8:mU own kp δ=[none,some (.loc k),some (.d (.int n))])
 (hit:W3 (it δ S) fun vs S1=>vs=(eg 0 m).map .d/\Ev k S S1)
 (Wf:∀j:Nat,∃m:Int,0 < m/\m<=n/\fm (down [some (.d (.int j)),some (.loc k),some (.d (.int n))])= .ok (.int m))
 (h:∀(zs:List Nat) S1,zs.length=m->(∀z∈zs,z < n)->Ev k S S1->Q (.d (.lst (zs.map nI))) S1) :
 W3 (i9 it (lJ 0) sW (x2 vy (xP (e2 vy (ai 2) (eC (.int 1)))) (cE cu (ax (cK 1) (ax (xP fm) bW)))) own kp δ S) Q:=by
 have hz:sizeLine=16777216:=sizeLine_eq;refine jG (fun i ds S2=>Ev k S S2/\∃zs:List Nat,ds=zs.map nI/\zs.length=i/\∀z∈zs,z < n) (hit.mono fun vs S1 ⟨e,v1⟩=>?_)
 subst e;rw[qo];refine⟨by omega,⟨v1,[],rfl,rfl,by simp⟩,?_,?_⟩
 .rintro i v ds S2 hv ⟨v2,zs,rfl,hl,hlt⟩;rw[R8];obtain⟨hi,rfl⟩:=tQ hv;obtain⟨m',h1,h2,h3⟩:=Wf i;refine⟨[some (.d (.int i)),some (.loc k),some (.d (.int n))],rfl,sg ?_⟩;rw[if_pos rfl];refine Ij (bM rfl (draw rfl v2.p h3 h1 (by omega) fun r S3 h4 h5 v3=>⟨.int ((n:Int) - 1),_, .int ((n:Int) - 1 - r),rfl,rfl,rfl,nI (n - 1 - r.toNat),?_,v2.trans v3,zs++[n - 1 - r.toNat],by simp,by simp [hl],?_⟩))
  .unfold nI;congr 2;omega
  .intro z Pp;rcases List.mem_append.mp Pp with q | q
   .exact hlt z q
   .rw [List.mem_singleton] at q;omega
 .rintro ds S2 ⟨v2,zs,rfl,hl,hlt⟩;exact h zs S2 hl hlt v2
end
def KJ:List D:=[.str "not", .str "and", .str "or", .str "xor", .str "vote", .str "and", .str "or", .str "xor"]
def QW:List (Key × V):=[((Sum.inr "not":Key),V.int 1),((Sum.inr "vote":Key),V.int 3)]
theorem JB(r:Int)(h0:0<=r)(h7:r < 8):∃kd:Nat,kd<=4/\cy (.lst KJ) (.int r)= .ok (.str (kS kd))/\(match nc (k0 [] QW) (Sum.inr (kS kd)) with | some (.int i)=>R.ok (D.int i) | none=> .ok (.int 2) | _=> .no)= .ok (.int (ar kd)):=by
 have e:r=0\/r=1\/r=2\/r=3\/r=4\/r=5\/r=6\/r=7:=by omega
 rcases e with rfl | rfl | rfl | rfl | rfl | rfl | rfl | rfl
 .exact⟨0,by omega,rfl,rfl⟩
 .exact⟨1,by omega,rfl,rfl⟩
 .exact⟨2,by omega,rfl,rfl⟩
 .exact⟨3,by omega,rfl,rfl⟩
 .exact⟨4,by omega,rfl,rfl⟩
 .exact⟨1,by omega,rfl,rfl⟩
 .exact⟨2,by omega,rfl,rfl⟩
 .exact⟨3,by omega,rfl,rfl⟩
theorem Cs{δ:aw}{fm fj:FD}{n j:Nat}(hn:0 < n)(hm:fm δ= .ok (.int n))(hj:fj δ= .ok (.int j)):∃m:Int,0 < m/\m<=n/\e2 cy (eNew (jI (ak fm (ak (aQ wm (ak fm (ak (eC (.int 4)) aP))) aP)))) (e2 qr fj (eC (.int 2))) δ= .ok (.int m):=by
 have hz:sizeLine=16777216:=sizeLine_eq;have hj2:(j:Int) % 2=0\/(j:Int) % 2=1:=by omega
 have em:qr (.int j) (.int 2)= .ok (.int ((j:Int) % 2)):=Bx (by omega)
 have el:eNew (jI (ak fm (ak (aQ wm (ak fm (ak (eC (.int 4)) aP))) aP))) δ= .ok (.lst [.int n, .int (if(4:Int) < n then 4 else n)]):=
  dt (x9 (aq hm (aq (aA (ds:=[.int n, .int 4]) (aq hm rfl) rfl) rfl)) (by simp;omega))
 rcases hj2 with h | h
 .rw [h] at em;exact⟨n,by omega,by omega,ay el (ay hj rfl em) rfl⟩
 .rw [h] at em;exact⟨if(4:Int) < n then 4 else n,by split <;> omega,by split <;> omega,ay el (ay hj rfl em) rfl⟩
def F8(k g:Nat)(a1 a2 a3 a4:Option V3)(l:XZ)(a7 a8 a9 a10 a11:Option V3):DE:=[some (.loc k),a1,a2,a3,a4,some (.d (.lst (l.map MT.inD))),some (.loc g),a7,a8,a9,a10,a11,none,none]
theorem AS{k g i:Nat}{l:XZ}{a1 a2 a3 a4 a8 a9 a10 a11:Option V3}{gs:List Gt}{S S1:aN}(hn:0 < l.length)(Ky:l.length < 1000)(TR:i < 1000)(hg:g≠k)(hl:gs.length < 1000)(E:AF k g (gs.map dS) S S1) :
 W3 (k3 (F8 k g a1 a2 a3 a4 l (some (.d (.int i))) a8 a9 a10 a11) S1) fun o S2=>∃eM,o= .nx eM/\(∃b7 b8 b9 Nq Nw,eM=F8 k g a1 a2 a3 a4 l b7 b8 b9 Nq Nw)/\∃x:Gt,nD (l.length+i) x/\AF k g ((gs++[x]).map dS) S S2:=by
 have hz:sizeLine=16777216:=sizeLine_eq;unfold k3 F8;refine aV (bU (by simp) (bM (d:= .int ((l.length+i:Nat):Int)) ?_ ⟨_,rfl,?_⟩))
 .exact ay (a:= .int l.length) (b:= .int i) (aA (ds:=[.lst (l.map MT.inD)]) rfl (by rw[k5,List.length_map])) rfl rfl
 simp only[List.set];refine aV (bU (by simp) (Oe (bM (d:= .lst KJ) rfl (draw (k:=k) rfl E.p rfl (by omega) (by omega) fun r S2 h1 h2 v2=>?_))))
 obtain⟨kd,hkd,e1,jm⟩:=JB r h1 h2;have hc:=CG kd;have vL:1<=ar kd:=by unfold ar;split <;> omega
 refine⟨_,_, .str (kS kd),rfl,rfl,e1,_,rfl,?_⟩;simp only[List.set];have E2:=E.then hg v2
 refine aV (bU (by simp) (bM (d:= .int (ar kd)) ?_ ⟨_,rfl,?_⟩))
 .exact jm
 simp only[List.set];refine aV (bU (by simp) (DF (k:=k) (n:=l.length+i) (m:=ar kd) (by omega) (by omega) (by omega) rfl rfl (rn (fD (n:=ar kd) rfl (by omega)) ⟨rfl,Ev.refl E2.p⟩) (fun j=>Cs (by omega) rfl rfl) fun zs S3 NL V4 v3=>⟨_,rfl,?_⟩))
 simp only[List.set];have E3:=E2.then hg v3
 refine oX (k:=g) rfl ⟨_,E3.gl⟩ (y6 (av (bM (d:= .str (kS kd)) rfl (av (bM (d:= .tup (zs.map nI)) rfl (av (Ij ?_)))))));refine draw (k:=k) rfl E3.p rfl (by omega) (by omega) fun r S4 h1 h2 v4=>bM (d:= .int 0) rfl ⟨_,_, .bl (decide (r=0)),rfl,rfl,rfl,bz ⟨by simp;omega,?_⟩⟩
 have E4:=E3.then hg v4
 refine⟨dS (kd,zs,decide (r=0)),_,rfl,E4.gl,by rw[List.length_map];omega,_,rfl,⟨_,_,_,_,_,rfl⟩,(kd,zs,decide (r=0)),⟨hkd,NL,V4⟩,?_⟩
 rw[List.map_append];exact E4.put hg
def sf:List Str:=["a","bb","signal","x","yes","abcdefgh"]
def Mu:List Str:=["p","ou","result","q","abcdefgh","z"]
theorem Hz{L:List Str}{i:Nat}(h:i < L.length):∃s∈L,cy (.lst (L.map .str)) (.int i)= .ok (.str s):=⟨L[i],List.getElem_mem h,NT.tR (by rw[List.getElem?_map,List.getElem?_eq_getElem h];rfl)⟩
def FC(k g o:Nat)(a1 a2 a3 a4:Option V3)(l:XZ)(a7 a8 a9 a10 a11 a13:Option V3):DE:=[some (.loc k),a1,a2,a3,a4,some (.d (.lst (l.map MT.inD))),some (.loc g),a7,a8,a9,a10,a11,some (.loc o),a13]
theorem DN{k g o i:Nat}{l:XZ}{a1 a2 a3 a4 a8 a9 a10 a11 a13:Option V3}{gs:List Gt}{os:X0}{S S1:aN}(hn:0 < l.length)(Ky:l.length+gs.length < 1000)(hi:i < 6)(ho:o≠k)(WT:g≠o)(PM:g≠k)(hl:os.length < 1000)(E:AF k o (os.map tj) S S1)(Eg:S1[g]? =some (.lst (gs.map dS))) :
 W3 (kU (FC k g o a1 a2 a3 a4 l (some (.d (.int i))) a8 a9 a10 a11 a13) S1) fun ou S2=>∃eM,ou= .nx eM/\(∃b7 b8 b13,eM=FC k g o a1 a2 a3 a4 l b7 b8 a9 a10 a11 b13)/\S2[g]? =some (.lst (gs.map dS))/\∃x:Str × List Nat,(∃w,x.2=[w]/\w < l.length+gs.length)/\AF k o ((os++[x]).map tj) S S2:=by
 have hz:sizeLine=16777216:=sizeLine_eq;unfold kU FC;refine aV (bU (by simp) (GJ (d:= .int ((l.length+gs.length:Nat):Int)) ?_ rfl ⟨_,rfl,?_⟩))
 .simp only[df,List.map_cons,List.map_nil,res,Eg];exact ay (a:= .int l.length) (b:= .int gs.length) (aA (ds:=[.lst (l.map MT.inD)]) rfl (by rw[k5,List.length_map])) (aA (ds:=[.lst (gs.map dS)]) rfl (by rw[k5,List.length_map])) rfl
 simp only[List.set];obtain⟨m,Ia,EX,Dz⟩:=Cs (δ:=down [some (.loc k),a1,a2,a3,a4,some (.d (.lst (l.map MT.inD))),some (.loc g),some (.d (.int i)),some (.d (.int ((l.length+gs.length:Nat):Int))),a9,a10,a11,some (.loc o),a13]) (fm:=ai 8) (fj:=ai 7) (n:=l.length+gs.length) (j:=i) (by omega) rfl rfl
 refine aV (bU (by simp) (Ij (bM rfl (draw (k:=k) rfl E.p Dz Ia (by omega) fun r S2 h1 h2 v2=>⟨.int (((l.length+gs.length:Nat):Int) - 1),_, .int (((l.length+gs.length:Nat):Int) - 1 - r),rfl,rfl,rfl,_,rfl,?_⟩))))
 simp only[List.set];have hw:((l.length+gs.length:Nat):Int) - 1 - r=((l.length+gs.length - 1 - r.toNat:Nat):Int):=by omega
 rw[hw];have E2:=E.then ho v2
 obtain⟨s,hs,es⟩:=Hz (L:=Mu) (i:=i) (by simp [Mu];omega)
 refine oX (k:=o) rfl ⟨_,E2.gl⟩ (bM (d:=tj (s,[l.length+gs.length - 1 - r.toNat])) ?_ ⟨_,_,rfl,E2.gl,by rw[List.length_map];omega,_,rfl,⟨_,_,_,rfl⟩,?_,(s,[l.length+gs.length - 1 - r.toNat]),⟨_,rfl,by omega⟩,?_⟩)
 .exact cH (aq (ay (a:= .lst (Mu.map .str)) (b:= .int i) rfl rfl es) (aq (cH rfl (by simp;omega)) rfl)) (by simp;omega)
 .rw [List.getElem?_set_ne (fun h=>WT h.symm),v2.oth g PM];exact Eg
 .rw [List.map_append];exact E2.put ho
theorem LY{S:aN}{k:Nat}{δ:DE}{own:List Str}{kp:List Nat}{it:FA}{t:Int}{Q:V3->aN->Prop}(ht:0<=t)(R8:mU own kp δ=[none,some (.d (.lst (sf.map .str))),some (.d (.int t))])
 (hit:W3 (it δ S) fun vs S1=>(∃r:Nat,1<=r/\r<=3/\vs=(eg 0 r).map .d)/\Ev k S S1)
 (h:∀(l:XZ) S1,(∀x∈l,x.2=1)->1<=l.length->l.length<=3->Ev k S S1->Q (.d (.lst (l.map MT.inD))) S1) :
 W3 (i9 it (lJ 0) sW (xP (dP (ak (e2 cy (ai 1) (e2 qr (e2 gS (ai 2) (ai 0)) (eC (.int 6)))) (ak (eC (.int 1)) aP)))) own kp δ S) Q:=by
 have hz:sizeLine=16777216:=sizeLine_eq;refine jG (fun i ds S2=>Ev k S S2/\∃l:XZ,ds=l.map MT.inD/\(∀x∈l,x.2=1)/\l.length=i) (hit.mono fun vs S1 ⟨⟨r,XJ,XE,e⟩,v1⟩=>?_)
 subst e;rw[qo];refine⟨by omega,⟨v1,[],rfl,by simp,rfl⟩,?_,?_⟩
 .rintro i v ds S2 hv ⟨v2,l,rfl,hl,hli⟩;rw[R8];obtain⟨hi,rfl⟩:=tQ hv;obtain⟨s,hs,es⟩:=Hz (L:=sf) (i:=((t+i) % 6).toNat) (by simp [sf];omega)
  rw[Int.toNat_of_nonneg (by omega)] at es
  refine⟨[some (.d (.int i)),some (.d (.lst (sf.map .str))),some (.d (.int t))],rfl,sg ?_⟩;rw[if_pos rfl];refine bM (d:=MT.inD (s,1)) ?_ ⟨_,rfl,v2,l++[(s,1)],by simp,?_,by simp [hli]⟩
  .exact cH (aq (ay (a:= .lst (sf.map .str)) (b:= .int ((t+i) % 6)) rfl (ay (a:= .int (t+i)) (b:= .int 6) rfl rfl (Bx (by omega))) es) rfl) (by simp;omega)
  intro x hx;rcases List.mem_append.mp hx with q | q
  .exact hl x q
  .rw [List.mem_singleton] at q;subst q;rfl
 .rintro ds S2 ⟨v2,l,rfl,hl,hli⟩;exact h l S2 hl (by omega) (by omega) v2
theorem GL{S:aN}{k m:Nat}(p:BC k S)(hm:m<=60){Q:V3->aN->Prop}(h:∀(l:XZ) (gs:List Gt) (os:X0) S1,Pl l.length l gs os->1<=l.length->l.length<=3->gs.length=m->1<=os.length->os.length<=6->Ev k S S1->Q (.d (aJ l gs os)) S1):W3 (jK [.loc k, .d (.int 3), .d (.int m)] S) Q:=by
 have hz:sizeLine=16777216:=sizeLine_eq;have hk:=p.lt;unfold jK;refine Cn (tK rfl ?_);simp only[cq,gp,List.map,List.length,List.replicate,List.cons_append,List.nil_append,Nat.reduceAdd,Nat.reduceSub];unfold nT;refine aV (bU (by simp) (bM (d:= .lst (sf.map .str)) rfl ⟨_,rfl,?_⟩))
 simp only[List.set];refine aV (bU (by simp) (draw (k:=k) rfl p rfl (by omega) (by omega) fun t S0 Wm XG v0=>⟨_,rfl,?_⟩))
 simp only[List.set];refine aV (bU (by simp) (LY (k:=k) Wm rfl ?_ fun l S1 hl yS KD We=>⟨_,rfl,?_⟩))
 .refine xQ (Ij (bM rfl (draw (k:=k) rfl v0.p rfl (by omega) (by omega) fun r S2 h1 h2 v2=>⟨_,_, .int (((1+r).toNat:Nat):Int),rfl,rfl,?_,_,rfl,by omega,⟨_,by omega,by omega,rfl⟩,v2⟩)))
  rw[Int.toNat_of_nonneg (by omega)];rfl
 simp only[List.set];have v1:=v0.trans We;refine aV (bU (by simp) (mX (ds:=[]) rfl ⟨_,rfl,?_⟩))
 simp only[List.set];have g0:=AF.CH v1 [];have PM:S1.length≠k:=by have:=v1.len;omega
 refine aV (jA (rn (ds:=eg 0 m) (fD rfl (by omega)) ?_))
 refine(c9 (fun i δ S4=>(∃b7 b8 b9 Nq Nw,δ=F8 k S1.length (some (.d (.int 3))) (some (.d (.int m))) (some (.d (.lst (sf.map .str)))) (some (.d (.int t))) l b7 b8 b9 Nq Nw)/\∃gs:List Gt,gs.length=i/\(∀(p:Nat) (x:Gt),gs[p]? =some x->nD (l.length+p) x)/\AF k S1.length (gs.map dS) (S1++[SO.lst []]) S4)
  ⟨⟨_,_,_,_,_,rfl⟩,[],rfl,by simp,g0⟩ ?_).mono fun o S4 ⟨W0,e4,⟨b7,b8,b9,Nq,Nw,hδ⟩,gs,Kv,hgs,g4⟩=>⟨W0,e4,?_⟩
 .rintro i v δ S4 hv ⟨⟨b7,b8,b9,Nq,Nw,rfl⟩,gs,Kv,hgs,g4⟩;obtain⟨hi,rfl⟩:=tQ hv;refine⟨_,rfl,?_⟩;refine(AS (i:=i) (a8:=b8) (a9:=b9) (a10:=Nq) (a11:=Nw) (by omega) (by omega) (by omega) PM (by omega) g4).mono fun o S5 ⟨WQ,e5,h5,x,hx,g5⟩=>⟨WQ,e5,h5,gs++[x],by simp [Kv],?_,g5⟩
  intro p y hy;by_cases hp:p < gs.length
  .rw [List.getElem?_append_left hp] at hy;exact hgs p y hy
  .rw [List.getElem?_append_right (by omega)] at hy
   have hp0:p - gs.length=0:=by
    have:=(List.getElem?_eq_some_iff.mp hy).1;simp at this;omega
   rw[hp0] at hy;cases hy;rw[show l.length+p=l.length+i by omega]
   exact hx
 rw[qo] at Kv;subst hδ;unfold F8;refine aV (bU (by simp) (mX (ds:=[]) rfl ⟨_,rfl,?_⟩))
 simp only[List.set];have v4:Ev k S4 S4:=Ev.refl g4.p;have o0:=AF.CH v4 [];have hl4:S4.length=S1.length+1:=by rw[g4.len];simp
 have hok:S4.length≠k:=by have:=v1.len;omega
 have hog:S1.length≠S4.length:=by omega
 have eg0:(S4++[SO.lst []])[S1.length]? =some (.lst (gs.map dS)):=by rw[List.getElem?_append_left (by omega)];exact g4.gl
 refine aV (jA (xQ (Ij (bM rfl (draw (k:=k) rfl o0.p rfl (by omega) (by omega) fun r S5 h1 h2 v5=>⟨_,_, .int (((1+r).toNat:Nat):Int),rfl,rfl,?_,_,rfl,by omega,?_⟩)))))
 .rw [Int.toNat_of_nonneg (by omega)];rfl
 have o5:=o0.then hok v5
 have eg5:S5[S1.length]? =some (.lst (gs.map dS)):=by rw[v5.oth _ PM];exact eg0
 refine(c9 (fun i δ S6=>(∃c7 c8 Qu,δ=FC k S1.length S4.length (some (.d (.int 3))) (some (.d (.int m))) (some (.d (.lst (sf.map .str)))) (some (.d (.int t))) l c7 c8 b9 Nq Nw Qu)/\S6[S1.length]? =some (.lst (gs.map dS))/\∃os:X0,os.length=i/\(∀x∈os,∃w,x.2=[w]/\w < l.length+gs.length)/\AF k S4.length (os.map tj) (S4++[SO.lst []]) S6)
  ⟨⟨_,_,_,rfl⟩,eg5,[],rfl,by simp,o5⟩ ?_).mono fun o S6 ⟨W5,e6,⟨c7,c8,Qu,hδ⟩,eg6,os,hol,hos,o6⟩=>⟨W5,e6,?_⟩
 .rintro i v δ S6 hv ⟨⟨c7,c8,Qu,rfl⟩,eg6,os,hol,hos,o6⟩;obtain⟨hi,rfl⟩:=tQ hv;refine⟨_,rfl,?_⟩;refine(DN (i:=i) (a8:=c8) (a13:=Qu) (by omega) (by omega) (by omega) hok hog PM (by omega) o6 eg6).mono fun o S7 ⟨Wt,e7,h7,WV,x,hx,o7⟩=>⟨Wt,e7,h7,WV,os++[x],by simp [hol],?_,o7⟩
  intro y hy;rcases List.mem_append.mp hy with q | q
  .exact hos y q
  .rw [List.mem_singleton] at q;subst q;exact hx
 rw[qo] at hol;subst hδ;unfold FC;refine d9 (y6 (av (w_var rfl (av (w_var rfl (av (w_var rfl (bz ⟨by simp;omega,_,rfl,?_⟩))))))))
 have hl3':S6.length=S1.length+2:=by rw[o6.len];simp;omega
 have hS1:=v1.len;have hfl:js l=l.length:=by rw[mJ hl,Nat.one_mul]
 refine⟨o6.p.1,?_,aJ l gs os,?_,?_⟩
 .show(eu S.length (.tup [.d (.lst (l.map MT.inD)), .loc S1.length, .loc S4.length]))=true;simp [eu,oW];omega
 .show res S6 (.tup [.d (.lst (l.map MT.inD)), .loc S1.length, .loc S4.length])=_;have eo:=o6.gl;simp [res,xB,eg6,eo,aJ]
 .refine h l gs os _ ⟨⟨by omega,fun x hx=>by rw[hl x hx];omega,by omega,fun p g hg=>by rw[hfl];exact hgs p g hg,by omega,fun x hx=>?_⟩,rfl,hl,fun x hx=>?_⟩ yS KD Kv (by omega) (by omega) ⟨⟨o6.p.1.take _,?_⟩,?_,?_⟩
  .obtain⟨w,e,hw⟩:=hos x hx;rw[e,hfl];exact⟨by simp,fun v hv=>by rw[List.mem_singleton.mp hv];exact hw⟩
  .obtain⟨w,e,_⟩:=hos x hx;exact⟨w,e⟩
  .obtain⟨_,a,c,e⟩:=o6.p;exact⟨a,c,by rw[List.getElem?_take_of_lt hk];exact e⟩
  .rw [List.length_take];omega
  .intro j hj;by_cases hjl:j < S.length
   .rw [List.getElem?_take_of_lt hjl,o6.oth _ hj (by omega),List.getElem?_append_left (by omega),g4.oth _ hj (by omega),List.getElem?_append_left (by omega)]
    exact v1.oth j hj
   .rw [List.getElem?_eq_none (by rw[List.length_take];omega),List.getElem?_eq_none (by omega)]
end K31
end
section
namespace K31
open PySem PySem.Spec PyProof.Rows L2 L3 NT
structure yh (n:Net):Prop where
 fb:1<=n.first/\n.first<=18
 i6:n.i.length<=6
 iw:∀x∈n.i,1<=x.2/\x.2<=3
 g60:n.g.length<=60
 gw:∀(p:Nat) (g:Gt),n.g[p]? =some g->Om (n.first+p) g.w
 o1:1<=n.o.length
 o6:n.o.length<=6
 ow:∀x∈n.o,Om (n.first+n.g.length) x.2
def kj(first:Nat)(gs:List Gt):List Nat:=gs.foldl (fun ds g=>ds++[1+mx (fun z=>ds.getD z 0) g.w]) (List.replicate first 0)
theorem zH(first:Nat)(gs:List Gt)(g:Gt):kj first (gs++[g])=kj first gs++[1+mx (fun z=>(kj first gs).getD z 0) g.w]:=by
 unfold kj;rw[List.foldl_append];rfl
theorem p_{l:List Nat}{x z:Nat}(h:z < l.length):(l++[x]).getD z 0=l.getD z 0:=by
 rw[List.getD_eq_getElem?_getD,List.getElem?_append_left h,List.getD_eq_getElem?_getD]
theorem yz{first:Nat}{gs:List Gt}(hw:∀(p:Nat) (g:Gt),gs[p]? =some g->Om (first+p) g.w):∀i,i<=gs.length->(kj first (gs.take i)).length=first+i/\(∀z,z < first->(kj first (gs.take i)).getD z 0=0)/\
 ∀(p:Nat) (g:Gt),p < i->gs[p]? =some g->(kj first (gs.take i)).getD (first+p) 0=1+mx (fun z=>(kj first (gs.take i)).getD z 0) g.w
 | 0,_=>by
   rw[List.take_zero];refine⟨by simp [kj],fun z hz=>?_,fun p g hp=>by omega⟩
   show(List.replicate first 0).getD z 0=0
   rw[List.getD_eq_getElem?_getD,List.getElem?_replicate,if_pos hz];rfl
 | i+1,hi=>by
   obtain⟨h1,h2,h3⟩:=yz hw i (by omega)
   have hg:gs[i]? =some gs[i]:=List.getElem?_eq_getElem (by omega)
   have ht:gs.take (i+1)=gs.take i++[gs[i]]:=by rw[List.take_add_one,hg];rfl
   rw[ht,zH];refine⟨by rw[List.length_append,h1];rfl,fun z hz=>by rw[p_ (by omega)];exact h2 z hz,fun p g hp Qp=>?_⟩
   have hwz:=(hw p g Qp).lt;by_cases hpi:p < i
   .rw [p_ (by omega),h3 p g hpi Qp]
    congr 1;exact qp fun z hz=>by have:=hwz z hz;rw [p_ (by omega)]
   .obtain rfl:p=i:=by omega
    rw[hg] at Qp;cases Qp;rw[List.getD_eq_getElem?_getD,List.getElem?_append_right (by omega),h1,Nat.sub_self]
    show 1+mx _ _=_;congr 1;exact qp fun z hz=>by have:=hwz z hz;rw [p_ (by omega)]
def dep(n:Net)(z:Nat):Nat:=(kj n.first n.g).getD z 0
theorem BV{n:Net}(h:yh n):(kj n.first n.g).length=n.first+n.g.length/\(∀z,z < n.first->dep n z=0)/\∀(p:Nat) (g:Gt),n.g[p]? =some g->dep n (n.first+p)=1+mx (dep n) g.w:=by
 have:=yz h.gw n.g.length (Nat.le_refl _);rw[List.take_length] at this;obtain⟨h1,h2,h3⟩:=this;exact⟨h1,h2,fun p g hg=>h3 p g (List.getElem?_eq_some_iff.mp hg).1 hg⟩
def deep(n:Net):Nat:=(n.o.map fun x=>mx (dep n) x.2).foldl max 0
theorem uO{ds w:List Nat}(hw:w≠[])(hl:w.length < 1000)(h:∀z∈w,z < ds.length):iA [.lst (ds.map nN),wN w]= .ok (nN (mx (fun z=>ds.getD z 0) w)):=by
 have hz:sizeLine=16777216:=sizeLine_eq;unfold iA;refine di ?_;unfold xl;refine cN (aA (ds:=[.lst ((w.map fun z=>ds.getD z 0).map nN)]) (aq (dt (ck (ds:=w.map nN) (x4 rfl) (by rw[List.length_map];omega) ?_)) rfl) ?_)
 .rw [List.map_map];refine bL _ _ fun z hz=>⟨[.val (nN z), .val (.lst (ds.map nN))],rfl,rfl,?_⟩
  refine ay (a:= .lst (ds.map nN)) (b:= .int z) rfl rfl (tR ?_);have hlt:=h z hz;rw[List.getElem?_map,List.getElem?_eq_getElem hlt];show some (nN ds[z])=some (nN (ds.getD z 0));rw[List.getD_eq_getElem?_getD,List.getElem?_eq_getElem hlt];rfl
 .exact FE (by simpa using hw)
theorem Hl{δ:aw}{own:List Str}{m:Nat}{f:FD}(ho:own.length=1)(hm:m < 1000)(hf:f δ= .ok (.int m)):cZ (dU f) (aO 0) fw (eC (.int 0)) own [] δ= .ok ((List.replicate m 0).map nN):=by
 have hz:sizeLine=16777216:=sizeLine_eq;refine ck (ds:=eg 0 m) (fD hf (by omega)) (by rw[CS];omega) ?_
 have hc:oO own [] δ=[.un]:=by unfold oO;rw [ho];rfl
 rw[hc];have e:(List.replicate m 0).map nN=(eg 0 m).map fun _=>nN 0:=by
  rw[List.map_replicate,List.map_const',CS]
 rw[e];exact wR _ fun d hd=>⟨[.val d],rfl,rfl,rfl⟩
theorem Ey{n:Net}(N:yh n):fV [n.d]= .ok (.lst ((kj n.first n.g).map nN)):=by
 have hz:sizeLine=16777216:=sizeLine_eq;obtain⟨XQ,XN⟩:=N.fb;have hi6:=N.i6;have hg60:=N.g60;unfold fV;refine di ?_;unfold oZ;refine bK (CM (ds:=[]) rfl (by simp [dz,i5])) ?_
 obtain⟨dv,e1,a1,b1,c1,AD⟩:=lH (t:=ic 2 (cj (aO 2) (cj (aO 3) ig))) (body:=ju) (ds:=n.i.map iN)
  (fun i δ=>∃a b c,δ=[.val n.d, .bld ((List.replicate ((n.i.take i).map (·.2)).sum 0).map nN),a,b,c]) (δ:=[.val n.d, .bld [], .un, .un, .un]) ⟨.un, .un, .un,by simp⟩ (by
    rintro i d δ hd ⟨a,b,c,rfl⟩;obtain⟨x,hx,rfl⟩:=tM hd;have hxw:=N.iw x (List.mem_of_getElem? hx);have hb:=Bf (l:=n.i.take i) fun y hy=>N.iw y (List.mem_of_mem_take hy)
    have hbl:(n.i.take i).length<=6:=by rw[List.length_take];omega
    have et:n.i.take (i+1)=n.i.take i++[x]:=by rw[List.take_add_one,hx];rfl
    refine⟨[.val n.d, .bld ((List.replicate ((n.i.take (i+1)).map (·.2)).sum 0).map nN), .val (.str x.1), .val (.int x.2),c],?_,⟨_,_,_,rfl⟩⟩
    have et2:((n.i.take (i+1)).map (·.2)).sum=((n.i.take i).map (·.2)).sum+x.2:=by rw[et,List.map_append,List.sum_append];simp
    generalize hL:(List.replicate ((n.i.take i).map (·.2)).sum 0).map nN=L
    rw[show ic 2 (cj (aO 2) (cj (aO 3) ig)) (iN x) [.val n.d, .bld L,a,b,c]= .ok [.val n.d, .bld L, .val (.str x.1), .val (.int x.2),c] from rfl,R.aT]
    unfold ju J9;rw[Hl (m:=x.2) rfl (by omega) rfl,R.aT]
    rw[show uF [.val n.d, .bld L, .val (.str x.1), .val (.int x.2),c] 1= .ok L from rfl,R.aT]
    subst hL;rw[cw _ (by rw[List.length_map,List.length_map,List.length_replicate,List.length_replicate];omega),<-List.map_append,List.replicate_append_replicate,<-et2]
    rfl)
 refine bK (qM (ds:=n.i.map iN) rfl e1) ?_;have hfl:((n.i.take (n.i.map iN).length).map (·.2)).sum=n.first:=by rw[List.length_map,List.take_length];rfl
 rw[hfl] at AD;subst AD;obtain⟨eM,jm,a2,HU⟩:=lH (t:=aO 4) (body:=jn) (ds:=n.g.map gN)
  (fun i δ=>∃c,δ=[.val n.d, .bld ((kj n.first (n.g.take i)).map nN),a1,b1,c]) (δ:=[.val n.d, .bld ((List.replicate n.first 0).map nN),a1,b1,c1]) ⟨c1,by simp [kj]⟩ (by
    rintro i d δ hd ⟨c,rfl⟩;obtain⟨g,hg,rfl⟩:=tM hd;have hil:=(List.getElem?_eq_some_iff.mp hg).1;obtain⟨h1,h2,h3⟩:=yz N.gw i (by omega)
    have hw:=N.gw i g hg;have et:n.g.take (i+1)=n.g.take i++[g]:=by rw[List.take_add_one,hg];rfl
    refine⟨[.val n.d, .bld ((kj n.first (n.g.take (i+1))).map nN),a1,b1, .val (gN g)],?_,⟨_,rfl⟩⟩
    generalize hL:(kj n.first (n.g.take i)).map nN=L
    rw[show aO 4 (gN g) [.val n.d, .bld L,a1,b1,c]= .ok [.val n.d, .bld L,a1,b1, .val (gN g)] from rfl,R.aT]
    subst hL;unfold jn;rw[CV (d:=nN (1+mx (fun z=>(kj n.first (n.g.take i)).getD z 0) g.w)) (ds:=(kj n.first (n.g.take i)).map nN) ?_ rfl (by rw[List.length_map];omega)]
    .rw [et,zH,List.map_append];rfl
    .refine ay (a:= .int 1) (b:=nN (mx (fun z=>(kj n.first (n.g.take i)).getD z 0) g.w)) rfl ?_ rfl
     refine Hf (aA (ds:=[.lst ((kj n.first (n.g.take i)).map nN),wN g.w]) ?_ (uO hw.ne (by have:=hw.le;omega) fun z hz=>by have:=hw.lt z hz;omega)) rfl
     exact aq rfl (aq (ay (a:=gN g) (b:= .int 1) rfl rfl rfl) rfl))
 refine bK (qM (ds:=n.g.map gN) rfl jm) ?_;rw[List.length_map,List.take_length] at HU;subst HU;rfl
def A_(n:Net):Nat:=(n.g.filter fun g=>decide (g.k=Str.ofString "vote")).length
def A4(n:Net):Nat:=(n.g.filter fun g=>g.s).length
theorem JG{n:Net}(N:yh n):mw [n.d]= .ok (.tup [.int n.g.length, .int (A_ n), .int (A4 n), .int (deep n)]):=by
 have hz:sizeLine=16777216:=sizeLine_eq;have hg60:=N.g60;have Ug:=N.o6;unfold mw;refine di ?_;unfold Fx;refine bK (jM (d:= .lst ((n.g.filter fun g=>decide (g.k=Str.ofString "vote")).map gN)) (dt (ck (ds:=n.g.map gN) rfl (by rw[List.length_map];omega) ?_)) (by simp [dz,l9])) ?_
 .exact my _ _ _ fun g hg=>⟨[.val (gN g)],rfl,ie (a:= .str g.k) (b:= .str "vote") rfl rfl rfl,fun _=>rfl⟩
 refine bK (jM (d:= .lst ((n.g.filter fun g=>g.s).map gN)) (dt (ck (ds:=n.g.map gN) rfl (by rw[List.length_map];omega) ?_)) (by simp [dz,l9])) ?_
 .exact my _ _ _ fun g hg=>⟨[.val (gN g)],rfl,rfl,fun _=>rfl⟩
 refine bK (jM (d:= .lst ((kj n.first n.g).map nN)) (aA (ds:=[n.d]) rfl (Ey N)) (by simp [dz,l9])) ?_
 obtain⟨Qn,_,_⟩:=BV N;refine bK (jM (d:=nN (deep n)) (aA (ds:=[.lst ((n.o.map fun x=>mx (dep n) x.2).map nN)]) (aq (dt (ck (ds:=n.o.map oN) rfl (by rw[List.length_map];omega) ?_)) rfl) (FE ?_)) (by simp [dz,l9])) ?_
 .rw [List.map_map];refine bL _ _ fun x hx=>⟨[.val (.str x.1), .val (wN x.2), .val (.lst ((kj n.first n.g).map nN))],rfl,rfl,?_⟩
  have hw:=N.ow x hx;exact aA (ds:=[.lst ((kj n.first n.g).map nN),wN x.2]) rfl (uO hw.ne (by have:=hw.le;omega) fun z hz=>by have:=hw.lt z hz;omega)
 .have:=N.o1;intro e;have:=congrArg List.length e;rw[List.length_map] at this;simp at this;simp [this] at*
 refine cN (cH (aq (aA (ds:=[.lst (n.g.map gN)]) (aq (ay (a:=n.d) (b:= .int 1) rfl rfl rfl) rfl) (by rw[k5,List.length_map])) (aq (aA (ds:=[.lst ((n.g.filter fun g=>decide (g.k=Str.ofString "vote")).map gN)]) rfl (by rw[k5,List.length_map];rfl)) (aq (aA (ds:=[.lst ((n.g.filter fun g=>g.s).map gN)]) rfl (by rw[k5,List.length_map];rfl)) (aq rfl rfl)))) (by simp;omega))
def d5(ins:XZ)(gs:List MT.Gt)(os:X0):Net:=⟨ins,gs.map fun g=>⟨MT.kS g.1,g.2.1,g.2.2⟩,os⟩
theorem Kk(ins:XZ)(gs:List MT.Gt)(os:X0):(d5 ins gs os).d=MT.aJ ins gs os:=by
 unfold Net.d d5 MT.aJ;rw[List.map_map];rfl
end K31
end
section
set_option maxHeartbeats 400000
namespace K31
open PySem PySem.Spec PyProof.Rows L2 L3 MT
section
variable {c m:Nat} {ins:XZ} {gs:List Gt} {os:X0}
abbrev vK:Str:=Str.ofString "vote"
def IQ(gs:List Gt):Nat:=(gs.filter fun g=>decide (kS g.1=vK)).length
def JM(gs:List Gt):Nat:=(gs.filter fun g=>g.2.2).length
def dp(ins:XZ)(gs:List Gt)(os:X0)(z:Nat):Nat:=dep (d5 ins gs os) z
def BM(ins:XZ)(gs:List Gt)(os:X0):Nat:=deep (d5 ins gs os)
theorem P4(N:gU ins gs os)(h1:1<=ins.length)(h6:ins.length<=6)(hw:∀x∈ins,1<=x.2/\x.2<=3)(hg:gs.length<=60)(Kx:1<=os.length)(Ug:os.length<=6)(ho:∀x∈os,1<=x.2.length/\x.2.length<=3):yh (d5 ins gs os):=by
 have hf:(d5 ins gs os).first=js ins:=rfl
 have hb:=NT.Bf hw;have Kv:(d5 ins gs os).g.length=gs.length:=by show(gs.map _).length=_;rw [List.length_map]
 refine⟨by rw[hf];unfold js;omega,h6,hw,by rw[Kv];exact hg,fun p g hp=>?_,Kx,Ug,fun x hx=>?_⟩
 .have hp:(gs.map fun g=>(⟨kS g.1,g.2.1,g.2.2⟩:NT.Gt))[p]? =some g:=hp
  rw[List.getElem?_map] at hp;cases q:gs[p]? with
  | none=>rw [q] at hp;cases hp
  | some g'=>
    rw[q] at hp;cases hp;have:=N.g p g' q;have hal:=CG g'.1;have ha1:1<=ar g'.1:=by unfold ar;split <;> omega
    have hl:=this.2.1;exact⟨fun e=>by have e:g'.2.1=[]:=e;rw [e] at hl;simp at hl;omega,by show g'.2.1.length<=3;omega,this.2.2⟩
 .have:=ho x hx;exact⟨fun e=>by have e:x.2=[]:=e;rw [e] at this;simp at this,this.2,fun z hz=>by rw[hf,Kv];exact(N.o x hx).2 z hz⟩
theorem tZ(N:yh (d5 ins gs os)):mw [aJ ins gs os]= .ok (.tup [nI gs.length,nI (IQ gs),nI (JM gs),nI (BM ins gs os)]):=by
 have:=JG N;rw[Kk] at this;rw[this];have e1:(d5 ins gs os).g.length=gs.length:=by show(gs.map _).length=_;rw [List.length_map]
 have jm:A_ (d5 ins gs os)=IQ gs:=by
  unfold A_ IQ d5;rw[List.filter_map,List.length_map];rfl
 have e3:A4 (d5 ins gs os)=JM gs:=by
  unfold A4 JM d5;rw[List.filter_map,List.length_map];rfl
 rw[e1,jm,e3];rfl
theorem CZ(N:yh (d5 ins gs os)){z:Nat}(h:z < js ins):dp ins gs os z=0:=(BV N).2.1 z h
theorem qL(N:yh (d5 ins gs os)){i:Nat}{g:Gt}(h:gs[i]? =some g):dp ins gs os (js ins+i)=1+NT.mx (dp ins gs os) g.2.1:=by
 have:=(BV N).2.2 i ⟨kS g.1,g.2.1,g.2.2⟩ (by show(gs.map _)[i]? =_;rw [List.getElem?_map,h];rfl)
 exact this
theorem yj(f:Nat->Nat)(h:Nat->Nat)(w:List Nat):NT.mx f (w.map h)=NT.mx (fun z=>f (h z)) w:=by
 unfold NT.mx;rw[List.map_map];rfl
theorem nR{f:Nat->Nat}{v:Nat}{w:List Nat}(hw:w≠[])(h:∀z∈w,f z=v):NT.mx f w=v:=by
 obtain⟨z,hz,e⟩:=NT.O4 (f:=f) hw;rw[<-e,h z hz]
theorem Lf(P:Pl c ins gs os)(N:yh (d5 ins gs os))(N':yh (d5 (bC m ins) (dq m gs) (nK m os))):∀B w,w < B->w < ins.length+gs.length->∀k,k < m->dp (bC m ins) (dq m gs) (nK m os) (m*w+k)=dp ins gs os w
 | 0,w,hN,_,_,_=>absurd hN (by omega)
 | B+1,w,hB,hw,k,hk=>by
   by_cases hwi:w < ins.length
   .rw [CZ N (by rw[P.js];exact hwi),CZ N' ?_]
    rw[eT];have:=Nat.mul_le_mul_left m (show w+1<=ins.length by omega)
    rw[Nat.mul_add,Nat.mul_one] at this;omega
   .obtain⟨i,rfl⟩:∃i,w=ins.length+i:=⟨w - ins.length,by omega⟩
    have hi:i < gs.length:=by omega
    have qS:gs[i]? =some gs[i]:=List.getElem?_eq_getElem hi;have hok:=P.g i _ qS;have hr:=qL N qS;rw[P.js] at hr;have hl:=qL N' (oA qS hk);rw[eT] at hl;rw[Nat.mul_add,Nat.add_assoc,hl,hr];congr 1;show NT.mx _ (gs[i].2.1.map fun w=>m*w+k)=_
    rw[yj];exact NT.qp fun z hz=>Lf P N N' B z (by have:=hok.2.2 z hz;omega) (by have:=hok.2.2 z hz;omega) k hk
theorem tY:BM ins gs os=(os.map fun x=>NT.mx (dp ins gs os) x.2).foldl max 0:=rfl
theorem Dv(P:Pl c ins gs os)(N:yh (d5 ins gs os))(N':yh (d5 (bC m ins) (dq m gs) (nK m os)))(hm:1<=m):BM (bC m ins) (dq m gs) (nK m os)=BM ins gs os:=by
 have e:(nK m os).map (fun x=>NT.mx (dp (bC m ins) (dq m gs) (nK m os)) x.2)=os.map fun x=>NT.mx (dp ins gs os) x.2:=by
  conv=>lhs;arg 2;unfold nK
  rw[List.map_map];refine List.map_congr_left fun x hx=>?_
  obtain⟨w,hw⟩:=P.o1 x hx;have h2:=(P.no.o x hx).2 w (by rw[hw];simp)
  rw[P.js] at h2;show NT.mx _ ((List.range m).map fun k=>m*x.2.getD 0 0+k)=NT.mx _ x.2
  rw[hw,yj];refine(nR (by intro e;have:=congrArg List.length e;simp at this;omega) fun k hk=>Lf P N N' (w+1) w (by omega) h2 k (List.mem_range.mp hk)).trans ?_
  exact(nR (by simp) fun z hz=>by rw[List.mem_singleton.mp hz]).symm
 rw[tY,tY,e]
theorem Na(f:Nat->Nat)(w:List Nat):NT.mx (fun z=>2*f z) w=2*NT.mx f w:=by
 unfold NT.mx;have:∀(w:List Nat) (a:Nat),(w.map fun z=>2*f z).foldl max (2*a)=2*(w.map f).foldl max a:=fun w=>by
  induction w with
  | nil=>exact fun _=>rfl
  | cons x w ih=>
    intro a;rw[List.map_cons,List.map_cons,List.foldl_cons,List.foldl_cons,show max (2*a) (2*f x)=2*max a (f x) by omega]
    exact ih _
 exact this w 0
theorem KN(P:Pl c ins gs os)(N:yh (d5 ins gs os))(N':yh (d5 (bC 3 ins) (eA ins.length gs) (uQ ins.length os))):∀B w,w < B->w < ins.length+gs.length->∀j,j < 3->dp (bC 3 ins) (eA ins.length gs) (uQ ins.length os) (sQ ins.length w j)=2*dp ins gs os w
 | 0,w,hN,_,_,_=>absurd hN (by omega)
 | B+1,w,hB,hw,j,hj=>by
   have hwM:js (bC 3 ins)=3*ins.length:=eT;by_cases hwi:w < ins.length
   .rw [CZ N (by rw[P.js];exact hwi),CZ N' ?_]
    rw[hwM];unfold sQ;rw[if_pos hwi];omega
   .obtain⟨i,rfl⟩:∃i,w=ins.length+i:=⟨w - ins.length,by omega⟩
    have hi:i < gs.length:=by omega
    have qS:gs[i]? =some gs[i]:=List.getElem?_eq_getElem hi;have hok:=P.g i _ qS;have hr:=qL N qS;rw[P.js] at hr;have es:sQ ins.length (ins.length+i) j=js (bC 3 ins)+(6*i+(3+j)):=by
     unfold sQ;rw[if_neg (by omega),hwM];omega
    have hcp:∀k,k < 3->dp (bC 3 ins) (eA ins.length gs) (uQ ins.length os) (3*ins.length+6*i+k)=1+2*NT.mx (dp ins gs os) gs[i].2.1:=fun k hk=>by
     have ek:3*ins.length+6*i+k=js (bC 3 ins)+(6*i+k):=by rw[hwM];omega
     rw[ek,qL N' (yI qS hk),<-Na];congr 1;show NT.mx _ (gs[i].2.1.map fun w=>sQ ins.length w k)=_
     rw[yj];exact NT.qp fun z hz=>KN P N N' B z (by have:=hok.2.2 z hz;omega) (by have:=hok.2.2 z hz;omega) k hk
    rw[es,qL N' (yE qS hj),hr];have:NT.mx (dp (bC 3 ins) (eA ins.length gs) (uQ ins.length os)) (E9 ins.length i gs[i]).2.1=1+2*NT.mx (dp ins gs os) gs[i].2.1:=by
     refine nR (by simp [E9]) fun z hz=>?_
     simp only[E9,List.mem_cons,List.not_mem_nil,or_false] at hz;rcases hz with rfl | rfl | rfl
     .exact hcp 0 (by omega)
     .exact hcp 1 (by omega)
     .exact hcp 2 (by omega)
    rw[this];omega
theorem sR:∀(l:List Nat) (a:Nat),(l.map fun z=>2*z).foldl max (2*a)=2*l.foldl max a
 | [],_=>rfl
 | x ::l,a=>by
   rw[List.map_cons,List.foldl_cons,List.foldl_cons,show max (2*a) (2*x)=2*max a x by omega]
   exact sR l _
theorem IT(P:Pl c ins gs os)(N:yh (d5 ins gs os))(N':yh (d5 (bC 3 ins) (eA ins.length gs) (uQ ins.length os))):BM (bC 3 ins) (eA ins.length gs) (uQ ins.length os)=2*BM ins gs os:=by
 have e:(uQ ins.length os).map (fun x=>NT.mx (dp (bC 3 ins) (eA ins.length gs) (uQ ins.length os)) x.2)=(os.map fun x=>NT.mx (dp ins gs os) x.2).map fun z=>2*z:=by
  conv=>lhs;arg 2;unfold uQ
  rw[List.map_map,List.map_map];refine List.map_congr_left fun x hx=>?_
  obtain⟨w,hw⟩:=P.o1 x hx;have h2:=(P.no.o x hx).2 w (by rw[hw];simp)
  rw[P.js] at h2;show NT.mx _ ((List.range 3).map fun j=>sQ ins.length (x.2.getD 0 0) j)=2*NT.mx _ x.2
  rw[hw,yj];refine(nR (by simp) fun k hk=>KN P N N' (w+1) w (by omega) h2 k (List.mem_range.mp hk)).trans ?_
  rw[nR (f:=dp ins gs os) (v:=dp ins gs os w) (by simp) fun z hz=>by rw[List.mem_singleton.mp hz]]
 rw[tY,tY,e];exact sR _ 0
theorem B6(q:Gt->Bool)(hq:∀g k,q (Jq m g k)=q g):∀gs:List Gt,((dq m gs).filter q).length=m*(gs.filter q).length
 | []=>rfl
 | g ::gs=>by
   have h1:(((List.range m).map (Jq m g)).filter q).length=if q g then m else 0:=by
    rw[List.filter_map,List.length_map];have:(q ∘ Jq m g)=fun _=>q g:=funext fun k=>hq g k
    rw[this];cases q g with
    | true=>rw [List.filter_eq_self.mpr (fun _ _=>rfl),List.length_range];rfl
    | false=>rw [List.filter_eq_nil_iff.mpr (fun _ _=>by decide)];rfl
   show(((List.range m).map (Jq m g)++dq m gs).filter q).length=_;rw[List.filter_append,List.length_append,h1,B6 q hq gs,List.filter_cons];cases q g with
   | true=>rw [if_pos rfl,if_pos rfl,List.length_cons,Nat.mul_succ,Nat.add_comm]
   | false=>rw [if_neg (by decide),if_neg (by decide),Nat.zero_add]
theorem HJ:IQ (dq m gs)=m*IQ gs:=B6 _ (fun _ _=>rfl) gs
theorem Ht:JM (dq m gs)=m*JM gs:=B6 _ (fun _ _=>rfl) gs
theorem A7(n:Nat)(q:Gt->Bool)(a b:Gt->Nat)(h:∀i g,((Ip n i g).filter q).length=a g):∀(gs:List Gt) (i:Nat),((qd n i gs).filter q).length=(gs.map a).sum
 | [],_=>rfl
 | g ::gs,i=>by
   show((Ip n i g++qd n (i+1) gs).filter q).length=_;rw[List.filter_append,List.length_append,h,A7 n q a b h gs,List.map_cons,List.sum_cons]
theorem M7(n:Nat):IQ (eA n gs)=3*IQ gs+3*gs.length:=by
 unfold IQ eA;rw[A7 n _ (fun g=>(if decide (kS g.1=vK) then 3 else 0)+3) (fun _=>0) (fun i g=>?_)]
 .induction gs with
  | nil=>rfl
  | cons g gs ih=>
    rw[List.map_cons,List.sum_cons,ih,List.filter_cons,List.length_cons];cases decide (kS g.1=vK) with
    | true=>rw [if_pos rfl,if_pos rfl,List.length_cons];omega
    | false=>rw [if_neg (by decide),if_neg (by decide)];omega
 .unfold Ip;simp only[List.filter_cons,List.filter_nil];have h1:∀k,decide (kS (Mi n g k).1=vK)=decide (kS g.1=vK):=fun _=>rfl
  have h2:decide (kS (E9 n i g).1=vK)=true:=by show decide (kS 4=vK)=true;decide
  rw[h1,h1,h1,h2];cases decide (kS g.1=vK) <;> rfl
theorem Ma(n:Nat):JM (eA n gs)=6*JM gs:=by
 unfold JM eA;rw[A7 n _ (fun g=>if g.2.2 then 6 else 0) (fun _=>0) (fun i g=>?_)]
 .induction gs with
  | nil=>rfl
  | cons g gs ih=>
    rw[List.map_cons,List.sum_cons,ih,List.filter_cons];cases g.2.2 with
    | true=>rw [if_pos rfl,if_pos rfl,List.length_cons];omega
    | false=>rw [if_neg (by decide),if_neg (by decide)];omega
 .unfold Ip;simp only[List.filter_cons,List.filter_nil];show(if g.2.2=true then _ else _:List Gt).length=_
  have h1:∀k,(Mi n g k).2.2=g.2.2:=fun _=>rfl
  have h2:(E9 n i g).2.2=g.2.2:=rfl;simp only[h1,h2];cases g.2.2 <;> rfl
end
end K31
end
section
namespace K31
open PySem PySem.Spec PyProof.Rows L2 L3 MT
structure Made (m:Nat) (ins:XZ) (gs:List Gt) (os:X0) (eh:XZ) (m7:List Gt) (jw:X0) (s:Nat->Nat->Nat):Prop where
 no:gU eh m7 jw
 len:eh.length=ins.length
 o:jw=os.map fun x=>(x.1,(List.range m).map fun j=>s (x.2.getD 0 0) j)
 v:∀bits:List M,bits.length=ins.length->∀w,w < ins.length+gs.length->∀j,j < m->∀p,fk (dc eh m7 bits [] []) (s w j) p=fk (dc ins gs bits [] []) w p
 b:m=3->∀z,z < 3*ins.length->∀bits:List M,bits.length=ins.length->∃jb,∀w,w < ins.length+gs.length->∀j,j < 3->j≠jb->∀p,fk (dc eh m7 bits [] [(z:Int)]) (s w j) p=fk (dc ins gs bits [] []) w p
section
variable {c m:Nat} {ins eh:XZ} {gs m7:List Gt} {os jw:X0} {s:Nat->Nat->Nat} {S:aN}
theorem Dh(P:Pl c ins gs os)(hm:m<=6)(hg:gs.length<=60):Made m ins gs os (bC m ins) (dq m gs) (nK m os) fun w j=>m*w+j:=by
 refine⟨LR (by omega) P.no P.w1 P.o1 (by omega),fQ,rfl,fun bits hb w hw j hj p=>?_,fun h3 z hz bits hb=>⟨z % 3,fun w hw j hj Si p=>?_⟩⟩
 .have:=t5 (m:=m) (p:=p) (T:=[]) (bad:=[]) hb P.w1 P.g (w+1) w (by omega) hw j hj
  rw[qN,qN] at this;exact this
 .subst h3;have:=t5 (m:=3) (p:=p) (T:=[]) (bad:=[(z:Int)]) hb P.w1 P.g (w+1) w (by omega) hw j hj
  rw[qN] at this;have e:shr 3 j ins.length [(z:Int)]=[]:=by
   unfold shr;rw[List.filter_eq_nil_iff.mpr fun i _=>?_]
   .rfl
   .rw [List.contains_iff_mem,List.mem_singleton];intro h;have:=Int.ofNat_inj.mp h;omega
  rw[e] at this;exact this
theorem Kp(P:Pl c ins gs os)(hg:gs.length<=60):Made 3 ins gs os (bC 3 ins) (eA ins.length gs) (uQ ins.length os) (sQ ins.length):=by
 refine⟨MS P.no P.w1 P.o1 (by omega),fQ,rfl,fun bits hb w hw j hj p=>?_,fun _ z hz bits hb=>⟨z % 3,fun w hw j hj Si p=>?_⟩⟩
 .exact tO (w0:=0) (jb:=3) hb P.w1 P.g (fun i j _ _=>by simp) (fun i j _ _=>by simp) (fun w j _ _=>by simp) (w+1) w (by omega) hw j hj (by omega)
 .refine tO (w0:=z / 3) (jb:=z % 3) hb P.w1 P.g (fun i j _ _=>by simp) (fun i j _ _=>by simp) (fun w j hj rM=>?_) (w+1) w (by omega) hw j hj (by omega)
  refine Bool.eq_false_iff.mpr fun h=>rM ?_
  rw[List.contains_iff_mem,List.mem_singleton] at h;have:=Int.ofNat_inj.mp h;omega
theorem J5{v:Bool}(Ia:1<=m)(hm:m<=3){f:Nat->Bool}(h:∀j,j < m->f j=v):vZ ((List.range m).map f)=(!v,v):=by
 rcases(by omega:m=1\/m=2\/m=3) with rfl | rfl | rfl
 .show vZ [f 0]=_;rw[h 0 (by omega)];rfl
 .show vZ [f 0,f 1]=_;rw[h 0 (by omega),h 1 (by omega)];cases v <;> rfl
 .show vZ [f 0,f 1,f 2]=_;rw[h 0 (by omega),h 1 (by omega),h 2 (by omega)];cases v <;> rfl
theorem HP{v:Bool}{jb:Nat}{f:Nat->Bool}(h:∀j,j < 3->j≠jb->f j=v):vZ ((List.range 3).map f)=(!v,v):=by
 show(!((f 0 && f 1) || (f 0 && f 2) || (f 1 && f 2)),(f 0 && f 1) || (f 0 && f 2) || (f 1 && f 2))=_
 rw[NU (jb:=jb) (fun z=>h 0 (by omega) (Ne.symm z)) (fun z=>h 1 (by omega) (Ne.symm z)) (fun z=>h 2 (by omega) (Ne.symm z))]
theorem Made.pt(M:Made m ins gs os eh m7 jw s)(P:Pl c ins gs os)(Ia:1<=m)(hm:m<=3){x:Str × List Nat}(hx:x∈os)(p:Nat) :
 K31.pt (Wd c eh m7 [] []) (x.1,(List.range m).map fun j=>s (x.2.getD 0 0) j) p=K31.pt (Wd c ins gs [] []) x p:=by
 obtain⟨w,hw⟩:=P.o1 x hx;have h2:=(P.no.o x hx).2 w (by rw[hw];simp)
 rw[P.js] at h2;rw[xi hw];unfold K31.pt tell;rw[hw];show vZ ((((List.range m).map fun j=>s w j).map (fk _)).map (· p))=_
 rw[List.map_map,List.map_map];exact J5 Ia hm fun j hj=>M.v (vv c) (by rw[qJ,P.hc]) w h2 j hj p
theorem Made.col(M:Made m ins gs os eh m7 jw s)(P:Pl c ins gs os)(Ia:1<=m)(hm:m<=3):EM c eh m7 jw=EM c ins gs os:=by
 unfold EM;rw[M.o,List.map_map];congr 1;refine List.map_congr_left fun x hx=>?_
 show D.lst _=D.lst _;congr 1;refine List.map_congr_left fun p _=>?_
 rw[M.pt P Ia hm hx p]
theorem Kt{x:Str × List Nat}(h:∀p,(K31.pt (Wd c ins gs [] []) x p).2=!(K31.pt (Wd c ins gs [] []) x p).1):sB c ins gs x=true:=by
 unfold sB;rw[Kc,List.all_eq_true];intro p _;show(_ || _)=true
 rw[h p];cases(K31.pt (Wd c ins gs [] []) x p).1 <;> rfl
theorem Made.sound(M:Made m ins gs os eh m7 jw s)(P:Pl c ins gs os)(Ia:1<=m)(hm:m<=3):jw.all (sB c eh m7)=true:=by
 rw[M.o,List.all_map,List.all_eq_true];intro x hx;refine Kt fun p=>?_
 rw[M.pt P Ia hm hx p];obtain⟨w,hw⟩:=P.o1 x hx;rw[xi hw,Bool.not_not]
theorem Made.ow(M:Made m ins gs os eh m7 jw s)(Ia:1<=m)(hm:m<=3):∀x∈jw,1<=x.2.length/\x.2.length<=3:=fun x hx=>by
 rw[M.o] at hx;obtain⟨y,_,rfl⟩:=List.mem_map.mp hx;show 1<=((List.range m).map _).length/\((List.range m).map _).length<=3;rw[List.length_map,List.length_range];exact⟨Ia,hm⟩
theorem IX:gr 2 (EM c ins gs os):=by
 unfold EM;refine gr.lst fun d hd=>?_
 obtain⟨x,_,rfl⟩:=List.mem_map.mp hd;refine gr.lst fun d hd=>?_
 obtain⟨p,_,rfl⟩:=List.mem_map.mp hd;unfold tD;split
 .exact gr.int _
 .split
  .exact gr.int _
  .exact gr.de
theorem Ak(P:Pl c ins gs os)(W:List M):dA 1 os W=os.map fun x=> .tup [mI 1 (fk W (x.2.getD 0 0))]:=by
 unfold dA tell;refine List.map_congr_left fun x hx=>?_
 obtain⟨w,hw⟩:=P.o1 x hx;rw[hw];rfl
theorem Made.tells(M:Made m ins gs os eh m7 jw s)(P:Pl c ins gs os){bits:List MT.M}(hb:bits.length=ins.length):dA 1 jw (dc eh m7 bits [] [])=os.map fun x=> .tup (List.replicate m (mI 1 (fk (dc ins gs bits [] []) (x.2.getD 0 0)))):=by
 unfold dA tell;rw[M.o,List.map_map];refine List.map_congr_left fun x hx=>?_
 obtain⟨w,hw⟩:=P.o1 x hx;have h2:=(P.no.o x hx).2 w (by rw[hw];simp)
 rw[P.js] at h2;show D.tup ((((List.range m).map fun j=>s (x.2.getD 0 0) j).map (fk _)).map (mI 1))=_
 rw[hw,List.map_map,List.map_map];congr 1;show(List.range m).map _=List.replicate m (mI 1 (fk (dc ins gs bits [] []) w));rw[<-List.length_range (n:=m),<-List.map_const',List.length_range];exact List.map_congr_left fun j hj=>ud fun p _=>M.v bits hb w h2 j (List.mem_range.mp hj) p
theorem wx{α:Type}(d:α):∀m:Nat,(List.replicate m [d]).flatten=List.replicate m d
 | 0=>rfl
 | m+1=>by rw[List.replicate_succ,List.flatten_cons,wx d m];rfl
theorem xM{d e:D}{b:Bool}(h:GO d e= .ok b):l4 d e= .ok (.bl b):=by unfold l4;rw [h];rfl
def gE(nt md:D)(m:Nat)(a3 a4 a5 a6:Option V3):DE:=[some (.d nt),some (.d md),some (.d (nI m)),a3,a4,a5,a6]
theorem EJ{α:Type}(os:List α)(f:α->List D)(hf:∀x,∀d∈f x,∃i,d= .int i):gr 2 (.lst (os.map fun x=> .tup (f x))):=gr.lst fun d hd=>by
 obtain⟨x,_,rfl⟩:=List.mem_map.mp hd;exact gr.tup fun d hd=>by
  obtain⟨i,rfl⟩:=hf x d hd;exact gr.int _
theorem D5(M:Made 3 ins gs os eh m7 jw s)(P:Pl c ins gs os){bits:List Bool}(hb:bits.length=ins.length){z:Nat}(Pp:z < 3*ins.length)(hS:k6 S){a3:Option V3} :
 W3 (jE (gE (aJ ins gs os) (aJ eh m7 jw) 3 a3 (some (.d (.tup (bits.map bI)))) (some (.d (.lst (dA 1 os (dc ins gs (bits.map cM) [] []))))) (some (.d (nI z)))) S) fun o S2=>S2=S/\o= .nx (gE (aJ ins gs os) (aJ eh m7 jw) 3 a3 (some (.d (.tup (bits.map bI)))) (some (.d (.lst (dA 1 os (dc ins gs (bits.map cM) [] []))))) (some (.d (nI z)))):=by
 have hz:sizeLine=16777216:=sizeLine_eq;have hO:=M.no.ho;have hO1:=P.no.ho;have hbl:(bits.map cM).length=ins.length:=by rw[List.length_map,hb]
 obtain⟨jb,Si⟩:=M.b rfl z Pp (bits.map cM) hbl;unfold jE gE;have hto:∀x∈os,tD (vZ ((tell (dc eh m7 (bits.map cM) [] [(z:Int)]) (x.1,(List.range 3).map fun j=>s (x.2.getD 0 0) j)).map (· 0)))=bI (fk (dc ins gs (bits.map cM) [] []) (x.2.getD 0 0) 0):=fun x hx=>by
  obtain⟨w,hw⟩:=P.o1 x hx;have h2:=(P.no.o x hx).2 w (by rw[hw];simp)
  rw[P.js] at h2;unfold tell;rw[hw,List.map_map,List.map_map];show tD (vZ ((List.range 3).map fun j=>fk (dc eh m7 (bits.map cM) [] [(z:Int)]) (s w j) 0))=bI (fk (dc ins gs (bits.map cM) [] []) w 0)
  rw[HP (jb:=jb) fun j hj rM=>Si w h2 j hj rM 0]
  cases fk (dc ins gs (bits.map cM) [] []) w 0 <;> rfl
 refine mD <| y4 <| jG (fun j ds S2=>S2=S/\ds=(os.take j).map fun x=>bI (fk (dc ins gs (bits.map cM) [] []) (x.2.getD 0 0) 0)) ?_
 refine mz <| cI <| av <| bM (d:=aJ eh m7 jw) rfl <| av <| bM (d:= .tup (bits.map bI)) rfl <| av <| bM (d:= .tup (([]:List Int).map .int)) rfl <| av <| bM (d:= .tup ([(z:Int)].map .int)) (cH rfl (by simp;omega)) <| bz <| Bv M.no (by rw[hb,M.len]) hS ⟨_,rfl,?_,⟨rfl,by simp⟩,?_,?_⟩
 .rw [List.length_map,dA,List.length_map];omega
 .rintro j v ds S2 hv ⟨rfl,rfl⟩;rw[dA] at hv;obtain⟨x',Nm,rfl⟩:=NT.jr hv;rw[M.o,List.getElem?_map] at Nm;cases q:os[j]? with
  | none=>rw [q] at Nm;cases Nm
  | some x=>
    rw[q] at Nm;cases Nm;have hx:=List.mem_of_getElem? q;refine⟨[some (.d (.tup ((tell (dc eh m7 (bits.map cM) [] [(z:Int)]) (x.1,(List.range 3).map fun j=>s (x.2.getD 0 0) j)).map (mI 1))))],rfl,sg ?_⟩
    rw[if_pos rfl];refine bM (d:=bI (fk (dc ins gs (bits.map cM) [] []) (x.2.getD 0 0) 0)) (by rw[<-hto x hx];exact aA (ds:=[.tup ((tell (dc eh m7 (bits.map cM) [] [(z:Int)]) (x.1,(List.range 3).map fun j=>s (x.2.getD 0 0) j)).map (mI 1))]) rfl (Iz (by unfold tell;simp))) ⟨_,rfl,rfl,?_⟩
    rw[List.take_add_one,q,List.map_append];rfl
 .rintro ds S2 ⟨rfl,rfl⟩;have hl:((dA 1 jw (dc eh m7 (bits.map cM) [] [(z:Int)])).map V3.d).length=os.length:=by rw[List.length_map,dA,List.length_map,M.o,List.length_map]
  rw[hl,List.take_length];refine bM (d:= .lst (os.map fun x=>bI (fk (dc ins gs (bits.map cM) [] []) (x.2.getD 0 0) 0))) ?_ ⟨_,_,false,rfl,rfl,ja (xM (gr.Q6 (n:=1) (gr.lst fun d hd=>by obtain⟨x,_,rfl⟩:=List.mem_map.mp hd;exact gr.int _) (by omega))),?_⟩
  .rw [Ak P];refine dt (ck (ds:=os.map fun x=> .tup [mI 1 (fk (dc ins gs (bits.map cM) [] []) (x.2.getD 0 0))]) (k4 rfl) (by rw[List.length_map];omega) ?_)
   exact NT.bL (t:=aO 0) (c:=fw) (δ:=[.un]) _ _ fun x _=>⟨[.val (.tup [mI 1 (fk (dc ins gs (bits.map cM) [] []) (x.2.getD 0 0))])],rfl,rfl,ay (a:= .tup [mI 1 (fk (dc ins gs (bits.map cM) [] []) (x.2.getD 0 0))]) (b:= .int 0) rfl rfl (by rw[<-SX];rfl)⟩
  rw[if_neg (by decide)]
  exact ik ⟨rfl,rfl⟩
end
end K31
end
section
namespace K31
open PySem PySem.Spec PyProof.Rows L2 L3 MT
theorem Df{f g:FB}{δ:DE}{S:aN}{QB:Bool->aN->Prop}(h:W3 (f δ S) fun b S1=>(b=true/\QB true S1)\/(b=false/\W3 (g δ S1) QB)):W3 (NC f g δ S) QB:=W3.bind (h.mono fun b S1 h=>by
 rcases h with⟨rfl,q⟩ | ⟨rfl,q⟩
 .rw [if_pos rfl];exact W3.ok q
 .rw [if_neg (by decide)];exact q)
theorem E_:∀c p k,k < c->(lo c p).getD k false=p.testBit (c - 1 - k)
 | 0,_,_,h=>by omega
 | c+1,p,0,_=>rfl
 | c+1,p,k+1,h=>by
   show(lo c p).getD k false=_;rw[E_ c p k (by omega)]
   congr 1;omega
theorem LP(c p:Nat):((List.range c).map fun k=>bI (p.testBit (c - 1 - k)))=(lo c p).map bI:=by
 refine List.ext_getElem? fun k=>?_
 rw[List.getElem?_map,List.getElem?_map];by_cases h:k < c
 .rw [List.getElem?_range h,List.getElem?_eq_getElem (by rw[qW];exact h)]
  show some (bI (p.testBit (c - 1 - k)))=some (bI ((lo c p)[k]'(by rw[qW];exact h)))
  rw[<-E_ c p k h,List.getD_eq_getElem?_getD,List.getElem?_eq_getElem (by rw[qW];exact h)];rfl
 .rw [List.getElem?_eq_none (by simp;omega),List.getElem?_eq_none (by rw[qW];omega)];rfl
theorem QZ(a b:Nat):A8 (nI a) (nI b)= .ok (nI (a / 2 ^ b)):=by
 show R.bJ (decide ((0:Int)<=((b:Nat):Int))) (.ok (D.int ((a:Int) / 2 ^ ((b:Int)).toNat)))=_;rw[cw _ (by omega),Int.toNat_natCast]
 congr 2
theorem Ru(a n:Nat):De (nI (a / 2 ^ n)) (nI 1)= .ok (bI (a.testBit n)):=by
 show R.ok (D.int (Builtin.bitAnd ((a / 2 ^ n:Nat):Int) ((1:Nat):Int)))=_;rw[qg,Nat.and_one_is_mod,Nat.testBit_eq_decide_div_mod_eq];have:a / 2 ^ n % 2=0\/a / 2 ^ n % 2=1:=by omega
 rcases this with q | q <;> rw[q] <;> rfl
theorem Oy{a b:Nat}(h:b<=a):vy (nI a) (nI b)= .ok (nI (a - b)):=by
 show R.ok (D.int ((a:Int) - (b:Int)))=R.ok (D.int ((a - b:Nat):Int));congr 2;omega
section
variable {c m:Nat} {ins eh:XZ} {gs m7:List Gt} {os jw:X0} {s:Nat->Nat->Nat} {S:aN}
theorem Fz(d:D)(EX:2<=m)(Dz:m<=3):sx (.tup [d]) (nI m)= .ok (.tup (List.replicate m d)):=by
 have hz:sizeLine=16777216:=sizeLine_eq;unfold sx nI;have h:(2:Int)<=(m:Int)/\(m:Int) < 1000/\[d]≠[]/\[d].length*((m:Int)).toNat<=sizeLine:=⟨by omega,by omega,by simp,by rw[Int.toNat_natCast];simp;omega⟩
 show R.bJ (decide ((2:Int)<=(m:Int)/\(m:Int) < 1000/\[d]≠[]/\[d].length*((m:Int)).toNat<=sizeLine)) (.ok (D.tup (List.replicate ((m:Int)).toNat [d]).flatten))=_;rw[cw _ h,Int.toNat_natCast,wx]
theorem GX{δ:aw}{f:Str × List Nat->D}(hO:os.length < 1000)(EX:2<=m)(Dz:m<=3)(h5:ai 5 δ= .ok (.lst (os.map fun x=> .tup [f x])))(hc:oO ["one"] [2] δ=[.un, .val (nI m)]) :
 eNew (cZ (dy (ai 5)) (aO 0) fw (e2 sx (ai 0) (ai 1)) ["one"] [2]) δ= .ok (.lst (os.map fun x=> .tup (List.replicate m (f x)))):=by
 have hz:sizeLine=16777216:=sizeLine_eq;refine dt (ck (ds:=os.map fun x=>D.tup [f x]) (k4 h5) (by rw[List.length_map];omega) ?_)
 rw[hc];exact NT.bL (t:=aO 0) (c:=fw) (fun x=>D.tup [f x]) (fun x=>D.tup (List.replicate m (f x))) fun x _=>⟨[.val (D.tup [f x]), .val (nI m)],rfl,rfl,ay (a:=D.tup [f x]) (b:=nI m) rfl rfl (Fz _ EX Dz)⟩
theorem DT(M:Made m ins gs os eh m7 jw s)(P:Pl c ins gs os)(EX:2<=m)(Dz:m<=3){p:Nat}{bits:List Bool}(hb:bits.length=ins.length)(hS:k6 S){a6:Option V3} :
 W3 (yW (bP (b2 l4 (ai 2) (eC (.int 3)))) (lL (iP (dU (e2 sx (eC (.int 3)) (aQ eW (ak (e2 cy (ai 0) (eC (.int 0))) aP))))) (lJ 6) jE) oJ (gE (aJ ins gs os) (aJ eh m7 jw) m (some (.d (nI p))) (some (.d (.tup (bits.map bI)))) (some (.d (.lst (dA 1 os (dc ins gs (bits.map cM) [] []))))) a6) S) fun o S2=>S2=S/\∃b4 b5 b6,o= .nx (gE (aJ ins gs os) (aJ eh m7 jw) m (some (.d (nI p))) b4 b5 b6):=by
 have hz:sizeLine=16777216:=sizeLine_eq;have hi:=P.no.hi;have hlen:∀{δ:aw},ai 0 δ= .ok (aJ ins gs os)->aQ eW (ak (e2 cy (ai 0) (eC (.int 0))) aP) δ= .ok (nI ins.length):=fun hv=>aA (ds:=[.lst (ins.map MT.inD)]) (aq (ay (a:=aJ ins gs os) (b:= .int 0) hv rfl rfl) rfl) (by rw[k5,List.length_map];rfl)
 by_cases h3:m=3
 .subst h3;refine mD <| rg (b:=true) rfl ?_
  rw[if_pos rfl];refine jA <| rn (ds:=(List.range (3*ins.length)).map nI) ?_ ?_
  .rw [<-pE];refine fD (n:=3*ins.length) (ay (a:=nI 3) (b:=nI ins.length) rfl (hlen rfl) ?_) (by omega)
   exact(NT.JF (a:=3) (b:=ins.length) (by omega))
  refine(c9 (fun i δ S2=>S2=S/\∃b6,δ=gE (aJ ins gs os) (aJ eh m7 jw) 3 (some (.d (nI p))) (some (.d (.tup (bits.map bI)))) (some (.d (.lst (dA 1 os (dc ins gs (bits.map cM) [] []))))) b6)
   ⟨rfl,_,rfl⟩ ?_).mono fun o S2 ⟨eM,jm,AG,b6,hδ⟩=>by subst hδ;exact⟨AG,_,_,b6,jm⟩
  rintro i v δ S2 hv ⟨rfl,b6,rfl⟩;obtain⟨z,Pp,rfl⟩:=NT.jr hv;have NL:=List.mem_range.mp (List.mem_of_getElem? Pp);refine⟨gE (aJ ins gs os) (aJ eh m7 jw) 3 (some (.d (nI p))) (some (.d (.tup (bits.map bI)))) (some (.d (.lst (dA 1 os (dc ins gs (bits.map cM) [] []))))) (some (.d (nI z))),rfl,?_⟩;exact(D5 M P hb NL hS).mono fun o S3 ⟨e3,eo⟩=>⟨_,eo,e3,_,rfl⟩
 .refine mD <| rg (b:=false) (ie (a:=nI m) (b:= .int 3) rfl rfl ?_) ?_
  .show R.ok (D.bl (decide ((m:Int)=3)))=_;rw[decide_eq_false (by omega)]
  rw[if_neg (by decide)]
  exact ik ⟨rfl,_,_,_,rfl⟩
theorem zk(M:Made m ins gs os eh m7 jw s)(P:Pl c ins gs os)(EX:2<=m)(Dz:m<=3){p:Nat}(hS:k6 S){a4 a5 a6:Option V3} :
 W3 (ml (gE (aJ ins gs os) (aJ eh m7 jw) m (some (.d (nI p))) a4 a5 a6) S) fun o S2=>S2=S/\∃b4 b5 b6,o= .nx (gE (aJ ins gs os) (aJ eh m7 jw) m (some (.d (nI p))) b4 b5 b6):=by
 have hz:sizeLine=16777216:=sizeLine_eq;have hi:=P.no.hi;have hO:=P.no.ho;unfold ml gE;have hlen:∀{δ:aw},ai 0 δ= .ok (aJ ins gs os)->aQ eW (ak (e2 cy (ai 0) (eC (.int 0))) aP) δ= .ok (nI ins.length):=fun hv=>aA (ds:=[.lst (ins.map MT.inD)]) (aq (ay (a:=aJ ins gs os) (b:= .int 0) hv rfl rfl) rfl) (by rw[k5,List.length_map];rfl)
 have hlen1:∀{δ:aw},ai 1 δ= .ok (aJ ins gs os)->aQ eW (ak (e2 cy (ai 1) (eC (.int 0))) aP) δ= .ok (nI ins.length):=fun hv=>aA (ds:=[.lst (ins.map MT.inD)]) (aq (ay (a:=aJ ins gs os) (b:= .int 0) hv rfl rfl) rfl) (by rw[k5,List.length_map];rfl)
 have hb:(lo ins.length p).length=ins.length:=qW _ _;have hlm:=LP ins.length p;generalize lo ins.length p=bits at hb hlm;refine aV <| bU (by simp) <| bM (d:= .tup (bits.map bI)) (aA (ds:=[.lst (bits.map bI)]) (aq (dt (ck (ds:=(List.range ins.length).map nI) ?_ (by rw[List.length_map,List.length_range];omega) ?_)) rfl) rfl) ⟨_,rfl,?_⟩
 .rw [<-pE];exact fD (n:=ins.length) (hlen rfl) (by omega)
 .rw [<-hlm];exact NT.bL (t:=aO 0) (c:=fw) (δ:=[.un, .val (aJ ins gs os), .val (nI p)]) nI _ fun k hk=>⟨[.val (nI k), .val (aJ ins gs os), .val (nI p)],rfl,rfl,by
   rw[List.mem_range] at hk;exact ay (a:=nI (p / 2 ^ (ins.length - 1 - k))) (b:=nI 1) (ay (a:=nI p) (b:=nI (ins.length - 1 - k)) rfl (ay (a:=nI (ins.length - 1)) (b:=nI k) (ay (a:=nI ins.length) (b:=nI 1) (hlen1 rfl) rfl (Oy (by omega))) rfl (Oy (by omega))) (QZ _ _)) rfl (Ru _ _)⟩
 simp only[List.set];have hbl:(bits.map cM).length=ins.length:=by rw[List.length_map,hb]
 refine aV <| bU (by simp) <| cI <| av <| bM (d:=aJ ins gs os) rfl <| av <| bM (d:= .tup (bits.map bI)) rfl <| av <| bM (d:= .tup (([]:List Int).map .int)) rfl <| av <| bM (d:= .tup (([]:List Int).map .int)) rfl <| bz <| Bv P.no hb hS ⟨_,rfl,?_⟩
 simp only[List.set];refine nP <| mD <| y4 <| cI <| av <| bM (d:=aJ eh m7 jw) rfl <| av <| bM (d:= .tup (bits.map bI)) rfl <| av <| bM (d:= .tup (([]:List Int).map .int)) rfl <| av <| bM (d:= .tup (([]:List Int).map .int)) rfl <| bz <| Bv M.no (by rw[hb,M.len]) hS ?_
 rw[M.tells P hbl];have htimes:=fun(δ:aw) (h5:ai 5 δ= .ok (.lst (dA 1 os (dc ins gs (bits.map cM) [] [])))) (hc:oO ["one"] [2] δ=[.un, .val (nI m)])=>GX (os:=os) (δ:=δ) (f:=fun x=>mI 1 (fk (dc ins gs (bits.map cM) [] []) (x.2.getD 0 0))) hO EX Dz (by rw[h5,Ak P]) hc
 have hfit:gr 2 (.lst (os.map fun x=>D.tup (List.replicate m (mI 1 (fk (dc ins gs (bits.map cM) [] []) (x.2.getD 0 0)))))):=EJ os (fun x=>List.replicate m (mI 1 (fk (dc ins gs (bits.map cM) [] []) (x.2.getD 0 0)))) fun x d hd=>⟨_,(List.mem_replicate.mp hd).2⟩
 generalize (os.map fun x=>D.tup (List.replicate m (mI 1 (fk (dc ins gs (bits.map cM) [] []) (x.2.getD 0 0)))))=L at htimes hfit
 have rM:CU (.lst L) (.lst L)= .ok (.bl false):=ja (xM (gr.Q6 hfit (by omega)))
 refine bM (d:= .lst L) ?_ ⟨.lst L, .lst L,false,rfl,rfl,rM,?_⟩
 .exact htimes _ rfl rfl
 rw[if_neg (by decide)]
 refine ik ?_;exact DT M P EX Dz hb hS
theorem yr(M:Made m ins gs os eh m7 jw s)(P:Pl c ins gs os)(hc:c<=6)(EX:2<=m)(Dz:m<=3)(hS:k6 S){Q:V3->aN->Prop}(h:Q (.d (.bl true)) S):W3 (dH [.d (aJ ins gs os), .d (aJ eh m7 jw), .d (nI m)] S) Q:=by
 have hz:sizeLine=16777216:=sizeLine_eq;have hpow:2 ^ c<=64:=Nat.pow_le_pow_right (by omega) hc
 have hlc:eh.length=c:=by rw[M.len,P.hc]
 have how:=M.ow (by omega) Dz
 have Kx:∀x∈os,1<=x.2.length/\x.2.length<=3:=fun x hx=>by obtain⟨w,hw⟩:=P.o1 x hx;rw [hw];exact⟨by simp,by simp⟩
 unfold dH;refine ib hS (tK rfl ?_);simp only[cq,e8,List.map,List.length,List.replicate,List.cons_append,List.nil_append,Nat.reduceAdd,Nat.reduceSub];unfold pe;refine nP <| mD <| Df <| y4 <| cI <| av <| bM (d:=aJ eh m7 jw) rfl <| bz <| zB (c:=c) M.no hlc (by omega) how hS ?_
 rw[M.sound P (by omega) Dz]
 refine bM (d:= .bl true) rfl ⟨_,_,false,rfl,rfl,rfl, .inr ⟨rfl,?_⟩⟩;refine y4 <| cI <| av <| bM (d:=aJ eh m7 jw) rfl <| bz <| uu (c:=c) M.no hlc (by omega) how hS ?_
 rw[M.col P (by omega) Dz]
 refine cI <| av <| bM (d:=aJ ins gs os) rfl <| bz <| uu (c:=c) P.no P.hc (by omega) Kx hS ⟨_,_,false,rfl,rfl,ja (xM (gr.Q6 IX (by omega))),?_⟩
 rw[if_neg (by decide)]
 refine ik ?_;refine aV <| jA <| rn (ds:=(List.range (2 ^ c)).map nI) ?_ ?_
 .rw [<-pE];refine fD (n:=2 ^ c) (ay (a:= .int 1) (b:=nI c) rfl (aA (ds:=[.lst (ins.map MT.inD)]) (aq (ay (a:=aJ ins gs os) (b:= .int 0) rfl rfl rfl) rfl) (by rw[k5,List.length_map,P.hc];rfl)) (IE (by omega))) (by omega)
 refine(c9 (fun i δ S2=>S2=S/\∃a3 a4 a5 a6,δ=gE (aJ ins gs os) (aJ eh m7 jw) m a3 a4 a5 a6)
  ⟨rfl,_,_,_,_,rfl⟩ ?_).mono fun o S2 ⟨eM,jm,AG,a3,a4,a5,a6,hδ⟩=>⟨eM,jm,?_⟩
 .rintro i v δ S2 hv ⟨rfl,a3,a4,a5,a6,rfl⟩;obtain⟨p,hp,rfl⟩:=NT.jr hv;refine⟨gE (aJ ins gs os) (aJ eh m7 jw) m (some (.d (nI p))) a4 a5 a6,rfl,?_⟩;exact(zk M P EX Dz hS).mono fun o S3 ⟨e3,b4,b5,b6,eo⟩=>⟨_,eo,e3,_,b4,b5,b6,rfl⟩
 rw[AG];exact d9 <| bM (d:= .bl true) rfl ⟨_,rfl,by unfold eu;rfl,⟨[],by simp⟩, .bl true,by unfold res;rfl,h⟩
end
end K31
end
section
namespace K31
open PySem PySem.Spec PyProof.Rows L2 L3 MT
section
variable {c m:Nat} {ins:XZ} {gs:List Gt} {os:X0} {safe:Bool} {S:aN}
theorem G_(P:Pl c ins gs os){T:List Int}{w0 jb p w:Nat}{x:Str × List Nat}(hx:x∈os)(hw:x.2=[w])
 (Qq:∀i j,j < 3->j≠jb->T.contains ((6*i+j:Nat):Int)=false)
 (Qs:∀i j,j < 3->¬(ins.length+i=w0/\j=jb)->T.contains ((6*i+(3+j):Nat):Int)=false) :
 K31.pt (Wd c (bC 3 ins) (eA ins.length gs) T []) (x.1,(List.range 3).map fun j=>sQ ins.length (x.2.getD 0 0) j) p=(!(wv c ins gs [] w p),wv c ins gs [] w p):=by
 have h2:=(P.no.o x hx).2 w (by rw[hw];simp)
 rw[P.js] at h2;unfold K31.pt tell;rw[hw];show vZ ((((List.range 3).map fun j=>sQ ins.length w j).map (fk _)).map (· p))=_
 rw[List.map_map,List.map_map];refine HP (jb:=jb) fun j hj rM=>?_
 exact tO (w0:=w0) (jb:=jb) (bits:=vv c) (by rw[qJ,P.hc]) P.w1 P.g Qq Qs (fun w j _ _=>by simp) (w+1) w (by omega) h2 j hj (fun z=>rM z.2)
theorem OM(P:Pl c ins gs os){x p:Nat}:nO safe c (bC 3 ins) (eA ins.length gs) (uQ ins.length os) (nZ [x]) p=false:=by
 have h0:∀y:Str × List Nat,y∈os->∀w,y.2=[w]->K31.pt (Wd c (bC 3 ins) (eA ins.length gs) [] []) (y.1,(List.range 3).map fun j=>sQ ins.length (y.2.getD 0 0) j) p=(!(wv c ins gs [] w p),wv c ins gs [] w p):=fun y hy w hw=>G_ (w0:=0) (jb:=3) P hy hw (fun i j _ _=>by simp) (fun i j _ _=>by simp)
 have h1:∀y:Str × List Nat,y∈os->∀w,y.2=[w]->K31.pt (Wd c (bC 3 ins) (eA ins.length gs) (nZ [x]) []) (y.1,(List.range 3).map fun j=>sQ ins.length (y.2.getD 0 0) j) p=(!(wv c ins gs [] w p),wv c ins gs [] w p):=fun y hy w hw=>by
  have hc:∀n:Nat,(nZ [x]).contains (n:Int)=true->n=x:=fun n h=>by
   unfold nZ at h;rw[List.contains_iff_mem,List.map_cons,List.map_nil,List.mem_singleton] at h;exact Int.ofNat_inj.mp h
  by_cases hk:x % 6 < 3
  .refine G_ (w0:=ins.length+gs.length+x) (jb:=x % 6) P hy hw (fun i j hj rM=>?_) (fun i j hj _=>?_)
   .exact Bool.eq_false_iff.mpr fun h=>rM (by have:=hc _ h;omega)
   .exact Bool.eq_false_iff.mpr fun h=>by have:=hc _ h;omega
  .refine G_ (w0:=ins.length+x / 6) (jb:=x % 6 - 3) P hy hw (fun i j hj rM=>?_) (fun i j hj rM=>?_)
   .exact Bool.eq_false_iff.mpr fun h=>by have:=hc _ h;omega
   .exact Bool.eq_false_iff.mpr fun h=>rM (by have:=hc _ h;omega)
 unfold nO uQ;rw[List.any_map,List.any_eq_false];intro y hy;obtain⟨w,hw⟩:=P.o1 y hy;show ¬brk safe (K31.pt _ _ p) (K31.pt _ _ p)=true;rw[h0 y hy w hw,h1 y hy w hw];cases wv c ins gs [] w p <;> cases safe <;> decide
theorem F_(P:Pl c ins gs os)(hm:m<=1):bears safe c (bC 3 ins) (eA ins.length gs) (uQ ins.length os) m=gh:=mB fun s h1 h2 T hT p hp=>by
 have hl:=ph hT;obtain rfl:s=1:=by omega
 obtain⟨x,rfl⟩:=List.length_eq_one_iff.mp hl.1;exact OM P
theorem GY(P:Pl c ins gs os){T:List Int}{p:Nat}:nO true c ins gs os T p=nO false c ins gs os T p:=by
 rw[K2 P];unfold nO;refine mi fun x hx=>?_
 obtain⟨w,hw⟩:=P.o1 x hx;rw[xi hw,xi hw,hw];show brk true _ _=(wv c ins gs [] w p !=wv c ins gs T w p);cases wv c ins gs [] w p <;> cases wv c ins gs T w p <;> rfl
def loud(c:Nat)(ins:XZ)(gs:List Gt)(os:X0)(x:Nat):Bool:=decide (0 < yG c (nO true c ins gs os (nZ [x])))
theorem Ct(P:Pl c ins gs os)(x:Nat):loud c ins gs os x=(List.range (2 ^ c)).any (nO false c ins gs os (nZ [x])):=by
 unfold loud yG;rw[Bool.eq_iff_iff,decide_eq_true_iff,List.any_eq_true];constructor
 .intro h;obtain⟨p,hp⟩:=List.exists_mem_of_length_pos h;obtain⟨h1,h2⟩:=List.mem_filter.mp hp;exact⟨p,h1,by rw[<-GY P];exact h2⟩
 .rintro⟨p,h1,h2⟩;exact List.length_pos_of_mem (List.mem_filter.mpr ⟨h1,by rw[GY P];exact h2⟩)
theorem GB(P:Pl c ins gs os):((lA gs).filter (loud c ins gs os)).isEmpty=!sI c ins gs os:=by
 unfold sI;rw[Bool.eq_iff_iff,List.isEmpty_iff,List.filter_eq_nil_iff,Bool.not_eq_true',List.any_eq_false];exact⟨fun h x hx=>by rw[<-Ct P];exact h x hx,fun h x hx=>by rw[Ct P];exact h x hx⟩
theorem NW(s:List Nat):GO (.lst (s.map nI)) (.lst [])= .ok s.isEmpty:=by
 have f:gr 1 (.lst (s.map nI)):=gr.lst fun d hd=>by
  obtain⟨x,_,rfl⟩:=List.mem_map.mp hd;exact gr.int _
 have f2:gr 1 (.lst []):=gr.lst fun d hd=>by cases hd
 rw[G0,f.pl,f.sh (by omega),f2.pl,f2.sh (by omega)]
 cases s with
 | nil=>rfl
 | cons g gs=>rfl
theorem Pl.take(P:Pl c ins gs os)(k:Nat):Pl c ins gs (os.take k):=⟨⟨P.no.hi,P.no.hw,P.no.hg,P.no.g,by rw[List.length_take];have:=P.no.ho;omega,fun x hx=>P.no.o x (List.mem_of_mem_take hx)⟩,P.hc,P.w1,fun x hx=>P.o1 x (List.mem_of_mem_take hx)⟩
theorem kf{a b:Nat}(h:a < 1000):fB (.int a) (nI b)= .ok (nI (a*b)):=NT.JF h
theorem xS(a b d e:Nat):l4 (.tup [nI a,nI b,nI d,nI e]) (.tup [nI a,nI b,nI d,nI e])= .ok (.bl true):=NT.eq_self (n:=1) (gr.tup fun x hx=>by
 simp only[List.mem_cons,List.not_mem_nil,or_false] at hx;rcases hx with rfl | rfl | rfl | rfl <;> exact gr.int _) (by omega)
theorem IK{S:aN}{k:Nat}(p:BC k S){Q:V3->aN->Prop}(h:∀S1,Ev k S S1->Q (.d (.bl true)) S1):W3 (ny [.loc k] S) Q:=by
 have hz:sizeLine=16777216:=sizeLine_eq;unfold ny;refine Cn (tK rfl ?_);simp only[cq,j3,List.map,List.length,List.replicate,List.cons_append,List.nil_append,Nat.reduceAdd,Nat.reduceSub];unfold pA;refine aV <| bU (by simp) <| cI <| av <| w_var (v:= .loc k) rfl <| av <| bM (d:= .int 3) rfl <| av <| draw (k:=k) rfl p rfl (by omega) (by omega) fun r S0 h0 h1 v0=>bz ?_
 obtain⟨q,rfl⟩:=Int.eq_ofNat_of_zero_le h0;refine GL v0.p (by omega) fun ins gs jw S1 P' yS KD Kv VE VN v1=>⟨_,rfl,?_⟩
 simp only[List.set];have P:=P'.take 3;have Kx:1<=(jw.take 3).length:=by rw[List.length_take];omega
 have ho3:(jw.take 3).length<=3:=by rw[List.length_take];omega
 have hcut:L2.cutD (jw.map tj) none (some 3)=(jw.take 3).map tj:=by rw[List.map_take];exact BD (jw.map tj) (n:=3) (by omega)
 refine aV <| bU (by simp) <| bM (d:=aJ ins gs (jw.take 3)) (cH (ds:=[.lst (ins.map MT.inD), .lst (gs.map dS), .lst ((jw.take 3).map tj)]) (aq (ay (a:=aJ ins gs jw) (b:= .int 0) rfl rfl rfl) (aq (ay (a:=aJ ins gs jw) (b:= .int 1) rfl rfl rfl) (aq (xR (d:= .lst (jw.map tj)) (lo:=none) (hi:=some 3) (ay (a:=aJ ins gs jw) (b:= .int 2) rfl rfl rfl) rfl rfl (by show R.ok (D.lst (L2.cutD (jw.map tj) none (some 3)))=_;rw [hcut])) rfl))) (by simp;omega)) ⟨_,rfl,?_⟩
 simp only[List.set];generalize jw.take 3=os at P Kx ho3;have v2:=v0.trans v1;have hF:=v2.p.1;have hS:=hF.U5;have how:∀x∈os,1<=x.2.length/\x.2.length<=3:=fun x hx=>by obtain⟨w,hw⟩:=P.o1 x hx;rw [hw];exact⟨by simp,by simp⟩
 have M3:=Dh (m:=3) P (by omega) (by omega)
 have M2:=Dh (m:=2) P (by omega) (by omega)
 have MV:=Kp P (by omega)
 refine aV <| bU (by simp) <| cI <| av <| bM (d:=aJ ins gs os) rfl <| bz <| DH P (by omega) hS ⟨_,rfl,?_⟩
 simp only[List.set];refine aV <| bU (by simp) <| cI <| av <| bM (d:=aJ ins gs os) rfl <| bz <| GH P (by omega) hS ⟨_,rfl,?_⟩
 simp only[List.set];refine aV <| bU (by simp) <| cI <| av <| bM (d:=aJ ins gs os) rfl <| bz <| Ft P (by omega) hS ⟨_,rfl,?_⟩
 simp only[List.set];have g3:∀Q:V3->aN->Prop,Q (.d (.bl true)) S1->W3 (dH [.d (aJ ins gs os), .d (aJ (bC 3 ins) (dq 3 gs) (nK 3 os)), .d (nI 3)] S1) Q:=fun Q hq=>yr M3 P (by omega) (by omega) (by omega) hS hq
 have g2:∀Q:V3->aN->Prop,Q (.d (.bl true)) S1->W3 (dH [.d (aJ ins gs os), .d (aJ (bC 2 ins) (dq 2 gs) (nK 2 os)), .d (nI 2)] S1) Q:=fun Q hq=>yr M2 P (by omega) (by omega) (by omega) hS hq
 have gV:∀Q:V3->aN->Prop,Q (.d (.bl true)) S1->W3 (dH [.d (aJ ins gs os), .d (aJ (bC 3 ins) (eA ins.length gs) (uQ ins.length os)), .d (nI 3)] S1) Q:=fun Q hq=>yr MV P (by omega) (by omega) (by omega) hS hq
 have hgM:∀m,m<=3->(dq m gs).length<=60:=fun m hm=>by
  rw[jj];have:=Nat.mul_le_mul hm (show gs.length<=5 by omega)
  omega
 have hgV:(eA ins.length gs).length<=60:=by unfold eA;rw [nW];omega
 have hlM:∀m,(bC m ins).length=ins.length:=fun m=>fQ
 have b3:∀Q:V3->aN->Prop,Q (.d gh) S1->W3 (eY [.d (aJ (bC 3 ins) (dq 3 gs) (nK 3 os)), .d (nI 1), .d (.str (um false))] S1) Q:=fun Q hq=>by
  refine qQ (c:=ins.length) M3.no (hlM 3) (by omega) (M3.ow (by omega) (by omega)) (by have:=hgM 3 (by omega);omega) (by omega) hS ?_
  rw[Az P (by omega)];exact hq
 have bV:∀Q:V3->aN->Prop,Q (.d gh) S1->W3 (eY [.d (aJ (bC 3 ins) (eA ins.length gs) (uQ ins.length os)), .d (nI 1), .d (.str (um false))] S1) Q:=fun Q hq=>by
  refine qQ (c:=ins.length) MV.no (hlM 3) (by omega) (MV.ow (by omega) (by omega)) (by omega) (by omega) hS ?_
  rw[F_ P (by omega)];exact hq
 have b2s:∀Q:V3->aN->Prop,Q (.d gh) S1->W3 (eY [.d (aJ (bC 2 ins) (dq 2 gs) (nK 2 os)), .d (nI 1), .d (.str (um true))] S1) Q:=fun Q hq=>by
  refine qQ (c:=ins.length) M2.no (hlM 2) (by omega) (M2.ow (by omega) (by omega)) (by have:=hgM 2 (by omega);omega) (by omega) hS ?_
  rw[D4 P (by omega)];exact hq
 have b2r:∀Q:V3->aN->Prop,Q (.d (bears false ins.length (bC 2 ins) (dq 2 gs) (nK 2 os) 1)) S1->W3 (eY [.d (aJ (bC 2 ins) (dq 2 gs) (nK 2 os)), .d (nI 1), .d (.str (um false))] S1) Q:=fun Q hq=>qQ (c:=ins.length) M2.no (hlM 2) (by omega) (M2.ow (by omega) (by omega)) (by have:=hgM 2 (by omega);omega) (by omega) hS hq
 have hiw:∀m,1<=m->m<=3->∀x∈bC m ins,1<=x.2/\x.2<=3:=fun m h1 h3 x hx=>by rw[rC x hx];exact⟨h1,h3⟩
 have N0:yh (d5 ins gs os):=P4 P.no yS (by omega) (fun x hx=>by rw[P.w1 x hx];omega) (by omega) Kx (by omega) how
 have hoM:∀m,(nK m os).length=os.length:=fun m=>by unfold nK;rw [List.length_map]
 have N3:yh (d5 (bC 3 ins) (dq 3 gs) (nK 3 os)):=P4 M3.no (by rw[hlM];exact yS) (by rw[hlM];omega) (hiw 3 (by omega) (by omega)) (hgM 3 (by omega)) (by rw[hoM];exact Kx) (by rw[hoM];omega) (M3.ow (by omega) (by omega))
 have N2:yh (d5 (bC 2 ins) (dq 2 gs) (nK 2 os)):=P4 M2.no (by rw[hlM];exact yS) (by rw[hlM];omega) (hiw 2 (by omega) (by omega)) (hgM 2 (by omega)) (by rw[hoM];exact Kx) (by rw[hoM];omega) (M2.ow (by omega) (by omega))
 have hoV:(uQ ins.length os).length=os.length:=by unfold uQ;rw [List.length_map]
 have NV:yh (d5 (bC 3 ins) (eA ins.length gs) (uQ ins.length os)):=P4 MV.no (by rw[hlM];exact yS) (by rw[hlM];omega) (hiw 3 (by omega) (by omega)) hgV (by rw[hoV];exact Kx) (by rw[hoV];omega) (MV.ow (by omega) (by omega))
 have z0:=tZ N0;have z3:=tZ N3;rw[jj,HJ,Ht,Dv P N0 N3 (by omega)] at z3
 have z2:=tZ N2;rw[jj,HJ,Ht,Dv P N0 N2 (by omega)] at z2
 have zV:=tZ NV;rw[M7,Ma,IT P N0 NV,show(eA ins.length gs).length=6*gs.length from nW _ _ _] at zV
 have htw:=Eb P;have hqt:=GB P;have hmat:∀Q:V3->aN->Prop,Q (.d (.lst ((lA gs).map (uI ins.length ins gs os)))) S1->W3 (mE [.d (aJ ins gs os)] S1) Q:=fun Q hq=>D3 (c:=ins.length) P.no rfl (by omega) how (by omega) hS hq
 generalize hn3:aJ (bC 3 ins) (dq 3 gs) (nK 3 os)=n3 at g3 b3 z3;generalize Ky:aJ (bC 2 ins) (dq 2 gs) (nK 2 os)=n2 at g2 b2s b2r z2;generalize hnV:aJ (bC 3 ins) (eA ins.length gs) (uQ ins.length os)=nV at gV bV zV;generalize VO:aJ ins gs os=n0 at g3 g2 gV z0 hmat;refine nP <| mD <| Df <| w_not <| Dg <| cI <| av <| bM (d:=n0) rfl <| av <| bM (d:=n3) rfl <| av <| bM (d:=nI 3) rfl <| bz <| g3 _ ⟨_,true,rfl,rfl, .inr ⟨rfl,?_⟩⟩
 refine Df <| w_not <| Dg <| cI <| av <| bM (d:=n0) rfl <| av <| bM (d:=n2) rfl <| av <| bM (d:=nI 2) rfl <| bz <| g2 _ ⟨_,true,rfl,rfl, .inr ⟨rfl,?_⟩⟩
 refine w_not <| Dg <| cI <| av <| bM (d:=n0) rfl <| av <| bM (d:=nV) rfl <| av <| bM (d:=nI 3) rfl <| bz <| gV _ ⟨_,true,rfl,rfl,?_⟩
 rw[if_neg (by decide)]
 refine ik ?_;refine nP <| mD <| Df <| y4 <| cI <| av <| bM (d:=n3) rfl <| av <| bM (d:=nI 1) rfl <| av <| bM (d:= .str (um false)) rfl <| bz <| b3 _ <| bM (d:=gh) (cH rfl (by simp;omega)) ⟨_,_,false,rfl,rfl,ja tV, .inr ⟨rfl,?_⟩⟩
 refine y4 <| cI <| av <| bM (d:=nV) rfl <| av <| bM (d:=nI 1) rfl <| av <| bM (d:= .str (um false)) rfl <| bz <| bV _ <| bM (d:=gh) (cH rfl (by simp;omega)) ⟨_,_,false,rfl,rfl,ja tV,?_⟩
 rw[if_neg (by decide)]
 refine ik ?_;refine nP <| mD <| y4 <| cI <| av <| bM (d:=n2) rfl <| av <| bM (d:=nI 1) rfl <| av <| bM (d:= .str (um true)) rfl <| bz <| b2s _ <| bM (d:=gh) (cH rfl (by simp;omega)) ⟨_,_,false,rfl,rfl,ja tV,?_⟩
 rw[if_neg (by decide)]
 refine ik ?_;have hul:(lA gs).length<=5:=Nat.le_trans yy (by omega)
 refine aV <| bU (by simp) <| Ij <| jG (fun j ds S2=>S2=S1/\ds=(((lA gs).take j).filter (loud ins.length ins gs os)).map nI) ?_
 refine mz <| cI <| av <| bM (d:=n0) rfl <| bz <| hmat _ ⟨_,rfl,by rw[List.length_map,List.length_map];omega,⟨rfl,by simp⟩,?_,?_⟩
 .rintro j v ds S2 hv ⟨rfl,rfl⟩;obtain⟨x,hx,rfl⟩:=NT.jr hv;refine⟨[some (.d (nI x)),some (.d (nI (yG ins.length (nO true ins.length ins gs os (nZ [x]))))),some (.d (nI (yG ins.length (Rq ins.length ins gs os x))))],rfl,rg (b:=loud ins.length ins gs os x) (ie (a:=nI (yG ins.length (nO true ins.length ins gs os (nZ [x])))) (b:= .int 0) rfl rfl ?_) ?_⟩
  .unfold loud;show R.ok (D.bl (decide ((0:Int) < ((yG ins.length (nO true ins.length ins gs os (nZ [x])):Nat):Int))))=_;congr 2;rw[Bool.eq_iff_iff,decide_eq_true_iff,decide_eq_true_iff];omega
  rw[List.take_add_one,hx,show(some x).toList=[x] from rfl,List.filter_append,List.map_append,List.filter_cons]
  cases loud ins.length ins gs os x with
  | true=>rw [if_pos rfl];exact bM (d:=nI x) rfl ⟨_,rfl,rfl,rfl⟩
  | false=>rw [if_neg (by decide)];exact⟨rfl,by simp⟩
 rintro ds S2 ⟨rfl,rfl⟩;rw[List.length_map,List.length_map,List.take_length];refine bM (d:= .lst []) rfl ⟨_,_, .bl (!sI ins.length ins gs os),rfl,rfl,by rw[<-hqt];exact xM (NW _),_,rfl,?_⟩
 simp only[List.set];generalize sI ins.length ins gs os=sp at htw;refine nP <| mD <| y4 <| Ij <| cI <| av <| bM (d:=n2) rfl <| av <| bM (d:=nI 1) rfl <| av <| bM (d:= .str (um false)) rfl <| bz <| b2r _ <| bM (d:=gh) (cH rfl (by simp;omega)) ⟨_,_,_,rfl,rfl,htw,?_⟩
 refine bM (d:= .bl (!sp)) rfl ⟨_,_,false,rfl,rfl,by cases sp <;> rfl,?_⟩
 rw[if_neg (by decide)]
 refine ik ?_;generalize IQ gs=V at z0 z2 z3 zV;generalize JM gs=U at z0 z2 z3 zV;generalize BM ins gs os=W at z0 z2 z3 zV;generalize gs.length=G at z0 z2 z3 zV;refine aV <| OS <| bM (d:= .tup [nI G,nI V,nI U,nI W]) (aA (ds:=[n0]) rfl z0) ⟨_,rfl,_,rfl,?_⟩
 refine nP <| mD <| rg (b:=false) ?_ ?_
 .unfold P7;rw[ie (k:=false) (a:= .tup [nI (3*G),nI (3*V),nI (3*U),nI W]) (b:= .tup [nI (3*G),nI (3*V),nI (3*U),nI W]) (aA (ds:=[n3]) rfl z3) (cH (aq (ay (a:= .int 3) (b:=nI G) rfl rfl (kf (a:=3) (by omega))) (aq (ay (a:= .int 3) (b:=nI V) rfl rfl (kf (a:=3) (by omega))) (aq (ay (a:= .int 3) (b:=nI U) rfl rfl (kf (a:=3) (by omega))) (aq rfl rfl)))) (by simp;omega)) (ja (xS _ _ _ _)),R.aT,if_neg (by decide)]
  exact ie (k:=false) (a:= .tup [nI (2*G),nI (2*V),nI (2*U),nI W]) (b:= .tup [nI (2*G),nI (2*V),nI (2*U),nI W]) (aA (ds:=[n2]) rfl z2) (cH (aq (ay (a:= .int 2) (b:=nI G) rfl rfl (kf (a:=2) (by omega))) (aq (ay (a:= .int 2) (b:=nI V) rfl rfl (kf (a:=2) (by omega))) (aq (ay (a:= .int 2) (b:=nI U) rfl rfl (kf (a:=2) (by omega))) (aq rfl rfl)))) (by simp;omega)) (ja (xS _ _ _ _))
 rw[if_neg (by decide)]
 refine ik ?_;refine d9 <| bM (d:= .bl true) (ay (a:= .tup [nI (6*G),nI (3*V+3*G),nI (6*U),nI (2*W)]) (b:= .tup [nI (6*G),nI (3*V+3*G),nI (6*U),nI (2*W)]) (aA (ds:=[nV]) rfl zV) (cH (aq (ay (a:= .int 6) (b:=nI G) rfl rfl (kf (a:=6) (by omega))) (aq (ay (a:=nI (3*V)) (b:=nI (3*G)) (ay (a:= .int 3) (b:=nI V) rfl rfl (kf (a:=3) (by omega))) (ay (a:= .int 3) (b:=nI G) rfl rfl (kf (a:=3) (by omega))) (vk _ _)) (aq (ay (a:= .int 6) (b:=nI U) rfl rfl (kf (a:=6) (by omega))) (aq (ay (a:= .int 2) (b:=nI W) rfl rfl (kf (a:=2) (by omega))) rfl)))) (by simp;omega)) (xS _ _ _ _)) ⟨_,rfl,hF,by unfold eu;rfl, .bl true,by unfold res;rfl,?_⟩
 have hk:=p.lt;rw[<-v2.len,List.take_length];exact h _ v2
end
def HR(n:Nat)(S:aN):Prop:=Flat S/\S.length=n/\∀k,k < n->BC k S
theorem Jy(cs:List Int)(hc:cs.length<=63){Q:V3->aN->Prop}(h:∀(n:Nat) S1,0 < n->HR n S1->Q (.lst ((List.range n).map .loc)) S1):W3 (kR [.d (.lst (cs.map .int))] []) Q:=by
 have hz:sizeLine=16777216:=sizeLine_eq;unfold kR;refine tK rfl ?_;simp only[cq,j2,List.map,List.length,List.replicate,List.cons_append,List.nil_append,Nat.reduceAdd,Nat.reduceSub];unfold pf;cases cs with
 | nil=>
   refine Hi (mD (rg (b:=true) rfl ?_));rw[if_pos rfl];refine d9 (Oj (av (mX (ds:=[.int 0, .int 0]) (x9 rfl (by simp;omega)) (bz ⟨by simp;omega,_,rfl,_,rfl,?_⟩))))
   refine h 1 _ (by omega) ⟨Ld _,rfl,fun k hk=>⟨Ld _,0,0,?_⟩⟩
   .obtain rfl:k=0:=by omega
    rfl
 | cons c cs=>
   refine aV (mD (rg (b:=false) ?_ ?_))
   .refine ie (a:= .int ((c ::cs).length:Nat)) (b:= .int 0) ?_ rfl ?_
    .exact aA (ds:=[.lst ((c ::cs).map .int)]) rfl (by rw[k5,List.length_map])
    .have:¬(((c ::cs).length:Int)=0):=by rw[List.length_cons];omega
     show R.ok (D.bl (decide (((c ::cs).length:Int)=0)))=_;rw[decide_eq_false this]
   rw[if_neg (by decide)]
   refine ik ⟨_,rfl,d9 (Hv (rn (ds:=(c ::cs).map .int) ?_ ⟨by simp at hc ⊢;omega,?_⟩))⟩
   .refine k4 (xR (d:= .lst ((c ::cs).map .int)) (lo:=none) (hi:=some 63) rfl rfl rfl ?_);show R.ok (D.lst (L2.cutD _ none (some 63)))=_;rw[BD _ (by omega),List.take_of_length_le (by simp at hc ⊢;omega)]
   generalize hcc:c ::cs=cc at hc;have hpos:0 < cc.length:=by rw[<-hcc];simp
   refine(xf (fun i ys S=>ys=(List.range i).map V3.loc/\Flat S/\S.length=i/\∀k,k < i->∃a c,S[k]? =some (.lst [.int a, .int c])) ⟨rfl,(by intro o ho;cases ho),rfl,fun k hk=>(by omega)⟩ ?_).mono fun ys S2 ⟨e,hL,hl,hp⟩=>⟨_,rfl,?_⟩
   .rintro i v ys S hv ⟨rfl,hL,hl,hp⟩;obtain⟨d,hd,rfl⟩:=List.mem_map.mp (List.mem_of_getElem? hv);obtain⟨x,_,rfl⟩:=List.mem_map.mp hd;refine⟨_,rfl,sg ?_⟩;rw[if_pos rfl];refine mX (ds:=[.int x, .int 0]) (x9 rfl (by simp;omega)) ⟨?_,hL.push (w9 _),by simp [hl],fun k hk=>?_⟩
    .rw [List.range_succ,List.map_append,hl];rfl
    .by_cases hki:k < i
     .obtain⟨a,c,e⟩:=hp k hki;exact⟨a,c,by rw[List.getElem?_append_left (by omega)];exact e⟩
     .obtain rfl:k=i:=by omega
      refine⟨x,0,?_⟩;rw[<-hl];exact bG _ _
   .rw [List.length_map,List.length_map] at e hl hp;have hm:sk ys= .lst ((List.range cc.length).map .loc):=by
     rw[e];obtain⟨m,hm⟩:∃m,cc.length=m+1:=⟨cc.length - 1,by omega⟩
     rw[hm,List.range_succ_eq_map,List.map_cons];rfl
    rw[hm];exact h cc.length S2 hpos ⟨hL,hl,fun k hk=>⟨hL,hp k hk⟩⟩
theorem HR.ev{n k:Nat}{S S1:aN}(h:HR n S)(hk:k < n)(v:Ev k S S1):HR n S1:=⟨v.p.1,by rw[v.len];exact h.2.1,fun j hj=>by
 by_cases q:j=k
 .subst q;exact v.p
 .obtain⟨_,a,c,e⟩:=h.2.2 j hj;exact⟨v.p.1,a,c,by rw[v.oth j q];exact e⟩⟩
theorem E6(ns:List Int)(hn:ns.length<=63):Dp [.lst (ns.map D.int)]= .ok (.bl true):=by
 have hz:sizeLine=16777216:=sizeLine_eq;have key:W3 (oF uq wk [.d (.lst (ns.map .int))] []) fun v S1=>v= .d (.bl true)/\S1=[]:=by
  refine Cn (tK rfl ?_);simp only[cq,uq,List.map,List.length,List.replicate,List.cons_append,List.nil_append,Nat.reduceAdd,Nat.reduceSub];unfold wk;refine aV (jA (Kn (cI (av (bM (d:= .lst ((ns.take 2).map .int)) ?_ (bz (Jy _ ?_ fun n S1 VO hP=>⟨_,rfl,?_⟩)))))))
  .refine xR (d:= .lst (ns.map .int)) (lo:=none) (hi:=some 2) rfl rfl rfl ?_;show R.ok (D.lst (L2.cutD _ none (some 2)))=_;rw[BD _ (by omega),List.map_take]
   rfl
  .rw [List.length_take];omega
  refine(c9 (fun i δ S2=>(∃x,δ=[some (.d (.lst (ns.map .int))),x])/\HR n S2) ⟨⟨_,rfl⟩,hP⟩ ?_).mono fun o S2 ⟨eM,e,⟨x,hδ⟩,hP2⟩=>⟨eM,e,?_⟩
  .rintro i v δ S2 hv ⟨⟨x,rfl⟩,hP2⟩;obtain⟨k,hk,rfl⟩:=List.mem_map.mp (List.mem_of_getElem? hv);rw[List.mem_range] at hk;refine⟨_,rfl,?_⟩;unfold Dm;refine mD (w_not (Dg (cI (av (w_var (v:= .loc k) rfl (bz (IK (hP2.2.2 k hk) fun S3 v3=>⟨_,true,rfl,rfl,?_⟩)))))))
   rw[if_neg (by decide)]
   exact ik ⟨_,rfl,⟨_,rfl⟩,hP2.ev hk v3⟩
  .subst hδ;refine d9 (bM (d:= .bl true) rfl ⟨_,rfl,hP2.1,by unfold eu;rfl, .bl true,by unfold res;rfl,rfl,?_⟩)
   rfl
 obtain⟨v,S1,e,rfl,rfl⟩:=key;unfold Dp Qa;simp only[List.map_cons,List.map_nil];rw[e];rfl
end K31
end
open PySem PySem.W PyProof.Rows
set_option maxRecDepth 100000 in
set_option maxHeartbeats 0 in
theorem PySem.Challenge.cw_bearfaults_k31_whole_made_nets_bear_holds : PySem.Challenge.rw_bearfaults_k31_whole_made_nets_bear.Holds := by
 w_on;o_law;k_head;(case hw=>w_witness2)
 k_fill
 refine L2.O1 (l:=PySem.Challenge.rw_bearfaults_k31_whole_made_nets_bear) (n:=63) (k:=10) (x:="script") (g:=K31.Dp) rfl (by decide) rfl ⟨rfl,by decide,by decide⟩ (fun w h Y=>PySem.W.kIn_of Y) ?F K31.E6
 case F=>
  intro w mg fa h KX G Pw
  have mN:L2.Def (L2.eH KX) mg "has_widths" K31.gx:=by
   dsimp only[L2.eH]
   refine' L2.bX KX G ?a ?l ?c ?k
   (case a=>k_is);(case l=>k_is);(case c=>k_is);(case k=>k_is)
  have lr:L2.Def (L2.eH KX) mg "check_makes" K31.fP:=by
   dsimp only[L2.eH]
   refine' L2.bX KX G ?a ?l ?c ?k
   (case a=>k_is);(case l=>k_is);(case c=>k_is);(case k=>k_is)
  have mP:L2.Def (L2.eH KX) mg "next_wires" K31.gR:=by
   dsimp only[L2.eH]
   refine' L2.bX KX G ?a ?l ?c ?k
   (case a=>k_is);(case l=>k_is);(case c=>k_is);(case k=>k_is)
  have vC:L2.Def (L2.eH KX) mg "copied" K31.nF:=by
   dsimp only[L2.eH]
   refine' L2.bX KX G ?a ?l ?c ?k
   (case a=>k_is);(case l=>k_is);(case c=>k_is);(case k=>k_is)
  have om:L2.Def (L2.eH KX) mg "in_threes" K31.jd:=by
   dsimp only[L2.eH]
   refine' L2.bX KX G ?a ?l ?c ?k
   (case a=>k_is);(case l=>k_is);(case c=>k_is);(case k=>k_is)
  have pX:L2.Def (L2.eH KX) mg "in_pairs" K31.j_:=by
   dsimp only[L2.eH]
   refine' L2.bX KX G ?a ?l ?c ?k
   (case a=>k_is);(case l=>k_is);(case c=>k_is);(case k=>k_is)
  have mO:L2.Def (L2.eH KX) mg "with_votes" K31.gz:=by
   dsimp only[L2.eH]
   refine' L2.bX KX G ?a ?l ?c ?k
   (case a=>k_is);(case l=>k_is);(case c=>k_is);(case k=>k_is)
  have rR:L2.Def (L2.eH KX) mg "deepest" K31.lR:=by
   dsimp only[L2.eH]
   refine' L2.bX KX G ?a ?l ?c ?k
   (case a=>k_is);(case l=>k_is);(case c=>k_is);(case k=>k_is)
  have lq:L2.Def (L2.eH KX) mg "wire_depths" K31.fM:=by
   dsimp only[L2.eH]
   refine' L2.bX KX G ?a ?l ?c ?k
   (case a=>k_is);(case l=>k_is);(case c=>k_is);(case k=>k_is)
  have B7:L2.Def (L2.eH KX) mg "size" K31.uU:=by
   dsimp only[L2.eH]
   refine' L2.bX KX G ?a ?l ?c ?k
   (case a=>k_is);(case l=>k_is);(case c=>k_is);(case k=>k_is)
  have rT:L2.Def (L2.eH KX) mg "vote_of" K31.lF:=by
   dsimp only[L2.eH]
   refine' L2.bX KX G ?a ?l ?c ?k
   (case a=>k_is);(case l=>k_is);(case c=>k_is);(case k=>k_is)
  have oh:L2.Def (L2.eH KX) mg "gate_mask" K31.i8:=by
   dsimp only[L2.eH]
   refine' L2.bX KX G ?a ?l ?c ?k
   (case a=>k_is);(case l=>k_is);(case c=>k_is);(case k=>k_is)
  have jy:L2.Def (L2.eH KX) mg "in_wire_masks" K31.eD:=by
   dsimp only[L2.eH]
   refine' L2.bX KX G ?a ?l ?c ?k
   (case a=>k_is);(case l=>k_is);(case c=>k_is);(case k=>k_is)
  have pT:L2.Def (L2.eH KX) mg "masks_at" K31.kq:=by
   dsimp only[L2.eH]
   refine' L2.bX KX G ?a ?l ?c ?k
   (case a=>k_is);(case l=>k_is);(case c=>k_is);(case k=>k_is)
  have mL:L2.Def (L2.eH KX) mg "wire_masks" K31.gK:=by
   dsimp only[L2.eH]
   refine' L2.bX KX G ?a ?l ?c ?k
   (case a=>k_is);(case l=>k_is);(case c=>k_is);(case k=>k_is)
  have oy:L2.Def (L2.eH KX) mg "out_masks" K31.jh:=by
   dsimp only[L2.eH]
   refine' L2.bX KX G ?a ?l ?c ?k
   (case a=>k_is);(case l=>k_is);(case c=>k_is);(case k=>k_is)
  have Ic:L2.Def (L2.eH KX) mg "run" K31.zq:=by
   dsimp only[L2.eH]
   refine' L2.bX KX G ?a ?l ?c ?k
   (case a=>k_is);(case l=>k_is);(case c=>k_is);(case k=>k_is)
  have rP:L2.Def (L2.eH KX) mg "reading" K31.lP:=by
   dsimp only[L2.eH]
   refine' L2.bX KX G ?a ?l ?c ?k
   (case a=>k_is);(case l=>k_is);(case c=>k_is);(case k=>k_is)
  have vH:L2.Def (L2.eH KX) mg "bit_at" K31.nY:=by
   dsimp only[L2.eH]
   refine' L2.bX KX G ?a ?l ?c ?k
   (case a=>k_is);(case l=>k_is);(case c=>k_is);(case k=>k_is)
  have rZ:L2.Def (L2.eH KX) mg "read_at" K31.lB:=by
   dsimp only[L2.eH]
   refine' L2.bX KX G ?a ?l ?c ?k
   (case a=>k_is);(case l=>k_is);(case c=>k_is);(case k=>k_is)
  have Cd:L2.Def (L2.eH KX) mg "told" K31.vj:=by
   dsimp only[L2.eH]
   refine' L2.bX KX G ?a ?l ?c ?k
   (case a=>k_is);(case l=>k_is);(case c=>k_is);(case k=>k_is)
  have mR:L2.Def (L2.eH KX) mg "all_inputs" K31.gP:=by
   dsimp only[L2.eH]
   refine' L2.bX KX G ?a ?l ?c ?k
   (case a=>k_is);(case l=>k_is);(case c=>k_is);(case k=>k_is)
  have rV:L2.Def (L2.eH KX) mg "mask_of" K31.lD:=by
   dsimp only[L2.eH]
   refine' L2.bX KX G ?a ?l ?c ?k
   (case a=>k_is);(case l=>k_is);(case c=>k_is);(case k=>k_is)
  have r_:L2.Def (L2.eH KX) mg "in_mask" K31.lI:=by
   dsimp only[L2.eH]
   refine' L2.bX KX G ?a ?l ?c ?k
   (case a=>k_is);(case l=>k_is);(case c=>k_is);(case k=>k_is)
  have pU:L2.Def (L2.eH KX) mg "is_sound" K31.j9:=by
   dsimp only[L2.eH]
   refine' L2.bX KX G ?a ?l ?c ?k
   (case a=>k_is);(case l=>k_is);(case c=>k_is);(case k=>k_is)
  have rX:L2.Def (L2.eH KX) mg "columns" K31.lO:=by
   dsimp only[L2.eH]
   refine' L2.bX KX G ?a ?l ?c ?k
   (case a=>k_is);(case l=>k_is);(case c=>k_is);(case k=>k_is)
  have rS:L2.Def (L2.eH KX) mg "choices" K31.lC:=by
   dsimp only[L2.eH]
   refine' L2.bX KX G ?a ?l ?c ?k
   (case a=>k_is);(case l=>k_is);(case c=>k_is);(case k=>k_is)
  have yT:L2.Def (L2.eH KX) mg "bears" K31.qK:=by
   dsimp only[L2.eH]
   refine' L2.bX KX G ?a ?l ?c ?k
   (case a=>k_is);(case l=>k_is);(case c=>k_is);(case k=>k_is)
  have rY:L2.Def (L2.eH KX) mg "matters" K31.lE:=by
   dsimp only[L2.eH]
   refine' L2.bX KX G ?a ?l ?c ?k
   (case a=>k_is);(case l=>k_is);(case c=>k_is);(case k=>k_is)
  have pW:L2.Def (L2.eH KX) mg "_law_next" K31.kg:=by
   dsimp only[L2.eH]
   refine' L2.bX KX G ?a ?l ?c ?k
   (case a=>k_is);(case l=>k_is);(case c=>k_is);(case k=>k_is)
  have pZ:L2.Def (L2.eH KX) mg "_law_pots" K31.j0:=by
   dsimp only[L2.eH]
   refine' L2.bX KX G ?a ?l ?c ?k
   (case a=>k_is);(case l=>k_is);(case c=>k_is);(case k=>k_is)
  have ot:L2.Def (L2.eH KX) mg "_law_plain" K31.jf:=by
   dsimp only[L2.eH]
   refine' L2.bX KX G ?a ?l ?c ?k
   (case a=>k_is);(case l=>k_is);(case c=>k_is);(case k=>k_is)
  have p6:L2.Def (L2.eH KX) mg "_law_good" K31.kh:=by
   dsimp only[L2.eH]
   refine' L2.bX KX G ?a ?l ?c ?k
   (case a=>k_is);(case l=>k_is);(case c=>k_is);(case k=>k_is)
  have pY:L2.Def (L2.eH KX) mg "_law_case" K31.j6:=by
   dsimp only[L2.eH]
   refine' L2.bX KX G ?a ?l ?c ?k
   (case a=>k_is);(case l=>k_is);(case c=>k_is);(case k=>k_is)
  have D_law:L2.Def (L2.eH KX) mg "law" K31.Dt:=by
   dsimp only[L2.eH]
   refine' L2.bX KX G ?a ?l ?c ?k
   (case a=>k_is);(case l=>k_is);(case c=>k_is);(case k=>k_is)
  have yR:L2.Glob (L2.eH KX) mg "MOST_GATES" K31.gy:=by
   dsimp only[L2.eH]
   refine' L2.E8 KX G ?a
   (case a=>k_is)
  obtain⟨cl,CF⟩:∃cl,K31.Cf (L2.eH KX) mg cl:=by
   dsimp only[L2.eH]
   refine' K31.Pa KX G ?Se ?Sf ?Pq ?Sr ?SD ?R0 ?Ss ?Cc ?kz ?yP ?oi ?Su ?Sg ?Qn ?R7 ?Sq ?Sk ?SA ?vG ?vI ?rQ ?iO ?iH ?iT ?d7 ?iU ?lx ?ll ?lp ?fR ?i7 ?iS ?iR ?iQ ?d8 ?fG ?kr ?ku ?kA ?eV ?g8 ?iJ ?iL ?iK ?d3 ?iM ?gZ ?g7 ?hV ?dG ?eR ?g_ ?g9 ?hJ ?dF ?eQ
   (case Se=>k_is)
   (case Sf=>k_is)
   (case Pq=>k_is)
   (case Sr=>k_is)
   (case SD=>k_is)
   (case R0=>k_is)
   (case Ss=>k_is)
   (case Cc=>k_is)
   (case kz=>k_is)
   (case yP=>k_is)
   (case oi=>k_is)
   (case Su=>k_is)
   (case Sg=>k_is)
   (case Qn=>k_is)
   (case R7=>k_is)
   (case Sq=>k_is)
   (case Sk=>k_is)
   (case SA=>k_is)
   (case vG=>k_is)
   (case vI=>k_is)
   (case rQ=>k_is)
   (case iO=>k_is)
   (case iH=>k_is)
   (case iT=>k_is)
   (case d7=>k_is)
   (case iU=>k_is)
   (case lx=>k_is)
   (case ll=>k_is)
   (case lp=>k_is)
   (case fR=>k_is)
   (case i7=>k_is)
   (case iS=>k_is)
   (case iR=>k_is)
   (case iQ=>k_is)
   (case d8=>k_is)
   (case fG=>k_is)
   (case kr=>k_is)
   (case ku=>k_is)
   (case kA=>k_is)
   (case eV=>k_is)
   (case g8=>k_is)
   (case iJ=>k_is)
   (case iL=>k_is)
   (case iK=>k_is)
   (case d3=>k_is)
   (case iM=>k_is)
   (case gZ=>k_is)
   (case g7=>k_is)
   (case hV=>k_is)
   (case dG=>k_is)
   (case eR=>k_is)
   (case g_=>k_is)
   (case g9=>k_is)
   (case hJ=>k_is)
   (case dF=>k_is)
   (case eQ=>k_is)
  have ef:=CF.ef
  have fW:=CF.fW
  have d_:=CF.d_
  have fg:=CF.fg
  have ee:=CF.ee
  have dM:=CF.dM
  have dN:=CF.dN
  have T:K31.Tp (L2.eH KX) mg cl:=by
   dsimp only[L2.eH]
   refine' ⟨PySem.W.mg_none_of KX G ?z_all,PySem.W.mg_none_of KX G ?z_len,PySem.W.mg_none_of KX G ?z_range,PySem.W.mg_none_of KX G ?z_tuple,PySem.W.mg_none_of KX G ?z_max,PySem.W.mg_none_of KX G ?z_enumerate,PySem.W.mg_none_of KX G ?z_reversed,PySem.W.mg_none_of KX G ?z_zip,PySem.W.mg_none_of KX G ?z_min,yR,CF.C_Bench,CF.N_Bench_net,CF.N_Bench_many_inputs,CF.N_Bench_full,CF.N_Bench_in_masks,CF.M_Bench,CF.C_Trial,CF.N_Trial_bench,CF.N_Trial_plain,CF.N_Trial_unsure,CF.M_Trial⟩
   (case z_all=>k_is);(case z_len=>k_is);(case z_range=>k_is);(case z_tuple=>k_is);(case z_max=>k_is);(case z_enumerate=>k_is);(case z_reversed=>k_is);(case z_zip=>k_is);(case z_min=>k_is)
  obtain⟨fl,fd,Fl,hl⟩:=D_law
  have e0:=Pw.symm.trans hl
  cases e0
  refine' ⟨fd,?b,fun base kb nb=>K31.MX T mN lr mP vC om pX mO rR lq B7 rT oh jy pT mL oy Ic rP vH rZ Cd mR rV r_ ef fW d_ pU fg rX rS ee dM dN yT rY pW pZ ot p6 pY Fl⟩
  obtain⟨_,_,_,_,_,_,_,_,_,e,_,_⟩:=Fl.ex
  subst e
  exact fun s u=> .of_eq rfl
