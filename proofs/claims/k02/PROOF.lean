import PyProof.Rows.All
import Wide.All
import OpenK.AllK
import Wide.FinOn
import Lean
import PyProof.EqAt
import PyProof.EqKinds
import PyProof.TupleCall
import PyProof.Rows.StrJoin2
import PyProof.TupleOfGen
import PyProof.ListRange
import PyProof.Draws
import PyProof.Rows.StrClose3
import KE.KSortedM
import PyProof.Rows.SortWalk
import PyProof.WalkInts
import PyProof.Rows.Range3
import PyProof.ZipIter
import PyProof.ConsumeWalk
import PyProof.Rows.SeqMore
import KE.KRevIter
import KE.KRevSl
import KE.KUnpack
import KE.KDictSum
import KE.KTupSum
import KE.KSortTup
import KE.KDictOf
import OpenK.KRaise
import KE.KTryMore
import PyProof.ExcArgs
import PyProof.ExcBaseAll.ValueError
import PyProof.NsDelKeeps
import PyProof.AttrMissSeq
import PyProof.FString4
import PyProof.StrLawsRepr
import PyProof.Rows.StrSplitAre
import PyProof.Rows.StrNews2
import PyProof.StrLawsChain
import PyProof.StrLawsTight
import PySem.Challenge.RW_bearfaults_k02_whole_nets_read
noncomputable section
set_option bootstrap.genMatcherCode false
section
open PySem
abbrev WD:=List (Addr×Obj)
abbrev WG:=Value->Shared->Prop
abbrev WH:=List (Str×Nat)
abbrev WI:=List (Str×List Nat)
abbrev WJ:=List (List Nat)
abbrev WK:=Str->Option Value
abbrev WL:=Nat->Addr
end
def PySem.W.Fast.tw13146506912026003076:=0
def PySem.W.Fast.tw15544249948662016267:=0
def PySem.W.Fast.tw15516712468128962857:=0
def PySem.W.Fast.tw4137199741257864194:=0
def PySem.W.Fast.tw11952406411932247073:=0
def PySem.W.Fast.tw7638102500201695688:=0
def PySem.W.Fast.tw14387365941648255434:=0
def PySem.W.Fast.tw8968147585587202934:=0
def PySem.W.Fast.tw4909187542191518010:=0
def PySem.W.Fast.tw14107447912090901299:=0
def PySem.W.Fast.tw598179973542200722:=0
def PySem.W.Fast.tw3267909397550910842:=0
def PySem.W.Fast.tw14934967215304930915:=0
def PySem.W.Fast.tw131002400390042186:=0
def PySem.W.Fast.tw17921323753499662122:=0
def PySem.W.Fast.tw6957928444376401029:=0
def PySem.W.Fast.tw11514426645337916447:=0
def PySem.W.Fast.tw7390436149706501215:=0
def PySem.W.Fast.tw14294818636606099595:=0
def PySem.W.Fast.tw4719640964896600799:=0
def PySem.W.Fast.tw3871069619726894938:=0
def PySem.W.Fast.tw13839170942149734497:=0
def PySem.W.Fast.tw17354811116639282208:=0
def PySem.W.Fast.tw18252920688101090408:=0
def PySem.W.Fast.tw16954319271348696627:=0
def PySem.W.Fast.tw17555582877653841384:=0
def PySem.W.Fast.tw9827438161619048296:=0
def PySem.W.Fast.tw3181337497295192080:=0
def PySem.W.Fast.tw14863084074281723140:=0
def PySem.W.Fast.tw11470119933849985790:=0
def PySem.W.Fast.tw6446740959182413787:=0
def PySem.W.Fast.tw4588392632093395548:=0
def PySem.W.Fast.tw12908960705086160288:=0
def PySem.W.Fast.tw1516306644278728351:=0
def PySem.W.Fast.tw6143234287472813689:=0
def PySem.W.Fast.tw773284060706473707:=0
def PySem.W.Fast.tw13040201160527064601:=0
def PySem.W.Fast.tw259459331684250911:=0
def PySem.W.Fast.tw8710068496863443104:=0
def PySem.W.Fast.tw8992480187006985144:=0
set_option Elab.async false
set_option linter.all false
set_option maxRecDepth 100000
set_option maxHeartbeats 4000000
section
namespace L2
open PySem PySem.Spec PyProof.Rows
abbrev Key:=Sum Int Str
def sR:Key->Value->Bool
 | .inl k,v=>Value.isInt k v
 | .inr x,v=>Value.isStrOf x v
def Nm(w:World):Key->Int
 | .inl k=>hashInt k
 | .inr x=>hashStr w x
theorem cW:∀{k:Key} {v:Value},sR k v=true->(∃i t,k=Sum.inl i/\v=Value.int i t)\/(∃x t,k=Sum.inr x/\v=Value.str x t)
 | .inl i,v,h=>by
   obtain⟨t,e⟩:=Value.isInt_shape (k:=i) (v:=v) h;exact .inl ⟨i,t,rfl,e⟩
 | .inr x,v,h=>by
   obtain⟨t,e⟩:=Value.isStrOf_shape (x:=x) (v:=v) h;exact .inr ⟨x,t,rfl,e⟩
theorem zT(i:Int)(t:Tok):sR (.inl i) (.int i t)=true:=by simp [sR,Value.isInt]
theorem zQ(x:Str)(t:Tok):sR (.inr x) (.str x t)=true:=by simp [sR,Value.isStrOf]
theorem IM(a b:Int):decide ((Sum.inl a:Key)=Sum.inl b)=(a==b):=by
 by_cases e:a=b
 .subst e;simp
 .have h:¬(Sum.inl a:Key)=Sum.inl b:=fun q=>e (Sum.inl.inj q)
  rw[decide_eq_false h];exact(beq_eq_false_iff_ne.mpr e).symm
theorem IV(a b:Str):decide ((Sum.inr a:Key)=Sum.inr b)=decide (a=b):=by
 by_cases e:a=b
 .subst e;simp
 .have h:¬(Sum.inr a:Key)=Sum.inr b:=fun q=>e (Sum.inr.inj q)
  rw[decide_eq_false h,decide_eq_false e]
theorem HR(a:Int)(b:Str):decide ((Sum.inl a:Key)=Sum.inr b)=false:=decide_eq_false (fun q=>nomatch q)
theorem Hy(a:Str)(b:Int):decide ((Sum.inr a:Key)=Sum.inl b)=false:=decide_eq_false (fun q=>nomatch q)
def cL(prog:Program)(w:World):PySem.KeyKind prog w Key where
 is:=sR
 hash:=Nm w
 inj:=fun v a b ha hb=>by
  rcases cW ha with⟨i,t,rfl,rfl⟩ | ⟨x,t,rfl,rfl⟩
  .rcases cW hb with⟨j,u,rfl,e⟩ | ⟨y,u,rfl,e⟩
   .injection e with e1 _;rw [e1]
   .exact nomatch e
  .rcases cW hb with⟨j,u,rfl,e⟩ | ⟨y,u,rfl,e⟩
   .exact nomatch e
   .injection e with e1 _;rw [e1]
 byValue:=fun k v h=>by
  rcases cW h with⟨i,t,rfl,rfl⟩ | ⟨x,t,rfl,rfl⟩ <;> rfl
 pyHash:=fun hv h=>by
  rcases cW hv with⟨i,t,rfl,rfl⟩ | ⟨x,t,rfl,rfl⟩
  .exact wpAny_pyHash_int h
  .exact wpAny_pyHash_str h
 eqBool:=fun hu hv h=>by
  rcases cW hu with⟨i,t,rfl,rfl⟩ | ⟨x,t,rfl,rfl⟩
  .rcases cW hv with⟨j,u,rfl,rfl⟩ | ⟨y,u,rfl,rfl⟩
   .rw [IM] at h;exact wpAny_eqBool_int h
   .rw [HR] at h;exact SeqAt.EqAt.int_str i t y u _ _ _ _ h
  .rcases cW hv with⟨j,u,rfl,rfl⟩ | ⟨y,u,rfl,rfl⟩
   .rw [Hy] at h;exact SeqAt.EqAt.str_int x t j u _ _ _ _ h
   .rw [IV] at h;exact wpAny_eqBool_str h
 «strs»:=fun k x t v h=>by
  rcases cW h with⟨i,u,rfl,e⟩ | ⟨y,u,rfl,e⟩
  .exact nomatch e
  .injection e with e1 _
   subst e1;cases v <;> rfl
theorem uW(prog:Program)(w:World)(i:Int)(t:Tok):(cL prog w).is (.inl i) (.int i t)=true:=zT i t
theorem lS(prog:Program)(w:World)(x:Str)(t:Tok):(cL prog w).is (.inr x) (.str x t)=true:=zQ x t
inductive V where
 | cz | bl (b:Bool) | int (i:Int) | str (x:Str) | byt (b:Array UInt8) | flt (b:UInt64) | ref (a:Addr) | ty (n:String)
 deriving DecidableEq
def RelV:V->Value->Prop
 | .cz,u=>u=Value.none
 | .bl b,u=>u=Value.bool b
 | .int i,u=>∃t,u=Value.int i t
 | .str x,u=>∃t,u=Value.str x t
 | .byt b,u=>∃t,u=Value.bytes b t
 | .flt b,u=>∃t,u=Value.float b t
 | .ref a,u=>u=Value.ref a
 | .ty n,u=>u=Value.type n
abbrev Vals:List V->List Value->Prop:=Paired RelV
theorem Vals.length{xs:List V}{us:List Value}(r:Vals xs us):xs.length=us.length:=Paired.length r
theorem Vals.get:∀{xs:List V} {us:List Value} {i:Nat} {x:V},Vals xs us->xs[i]? =some x->∃u,us[i]? =some u/\RelV x u
 | _,_,_,_, .nil,e=>by simp at e
 | _,_,0,_, .cons r _,e=>by simp at e;subst e;exact⟨_,rfl,r⟩
 | _,_,i+1,x, .cons _ t,e=>by
   obtain⟨u,h1,h2⟩:=Vals.get (i:=i) (x:=x) t (by simpa using e)
   exact⟨u,by simpa using h1,h2⟩
theorem Vals.append:∀{xs ys:List V} {us ws:List Value},Vals xs us->Vals ys ws->Vals (xs++ys) (us++ws)
 | _,_,_,_, .nil,s=>s
 | _,_,_,_, .cons r t,s=> .cons r (Vals.append t s)
theorem Vals.take:∀{xs:List V} {us:List Value} (n:Nat),Vals xs us->Vals (xs.take n) (us.take n)
 | _,_,0,_=> .nil
 | _,_,_+1, .nil=> .nil
 | _,_,n+1, .cons r t=> .cons r (Vals.take n t)
theorem Vals.drop:∀{xs:List V} {us:List Value} (n:Nat),Vals xs us->Vals (xs.drop n) (us.drop n)
 | _,_,0,r=>r
 | _,_,_+1, .nil=> .nil
 | _,_,n+1, .cons _ t=>Vals.drop n t
def kh:Option V->Option Value->Prop
 | some v,some u=>RelV v u
 | none,none=>True
 | _,_=>False
def KV{κ:Type}:List (κ × V)->List (κ × Value)->Prop:=Paired fun(p:κ × V) (q:κ × Value)=>p.1=q.1/\RelV p.2 q.2
def kV:Key->V
 | .inl i=> .int i
 | .inr x=> .str x
inductive HO where
 | lst (xs:List V)
 | tup (xs:List V)
 | dK (ay:List (Key × V)) | dT (ay:List (List Key × V))
 | set (S:Int->Bool) (n:Nat)
 | ins (C dx:Addr) (fs:List (Str × V))
 | own (x:Addr)
 | xd (fs:List (Str × V))
 | met (f x:Addr)
 | rng (lo hi:Int)
 | kK (o:Obj) (u:HO)
 | tbl (ps:Array Value)
 | ext (φ:Heap->Prop)
abbrev Hp:=Addr->Option HO
def upd(H:Hp)(a:Addr)(o:HO):Hp:=fun b=>if b=a then some o else H b
theorem aX{a:Addr}{o:HO}:upd H a o a=some o:=by unfold upd;rw [if_pos rfl]
theorem bb{H:Hp}{a b:Addr}{o:HO}(h:b≠a):upd H a o b=H b:=by unfold upd;rw [if_neg h]
theorem Fg{a:Addr}{o u:HO}:upd (upd H a o) a u=upd H a u:=by
 funext b;unfold upd;split <;> rfl
theorem Lm{H:Hp}{a b:Addr}{o u:HO}(h:H a=some o)(h':H b=some u)(d:o≠u):a≠b:=by
 intro e;subst e;rw [h] at h';exact d (Option.some.inj h')
theorem b8{H:Hp}{a b:Addr}{o:HO}(h:H a=some o)(h':H b=none):a≠b:=by
 intro e;subst e;rw [h] at h';cases h'
section
variable (P:Program) (w:World)
def c_(H:Hp)(h:Heap)(a:Addr):HO->Prop
 | .lst xs=>xs.length<=sizeLine/\∃(its:List Value) (n:Nat),Vals xs its/\h.get? a=some {cls:= .type "list",data:= .seq its.toArray n}
 | .tup xs=>xs.length<=sizeLine/\∃its:List Value,Vals xs its/\IsTup h a its.toArray
 | .dK ay=>ay.length<=sizeLine/\(a==sysModules)=false/\∃vs,KV ay vs/\h.DictOf (cL P w) a vs
 | .dT ay=>ay.length<=sizeLine/\(a==sysModules)=false/\∃xs:List (List Key × Addr × Value),
    Paired (fun(p:List Key × V) (q:List Key × Addr × Value)=>p.1=q.1/\H q.2.1=some (.tup (p.1.map kV))/\RelV p.2 q.2.2) ay xs/\
    ∃o es ep,h.get? a=some o/\o.ExactDict/\o.data= .dict es ep/\es.toList=xs.map (entryOfKey (tupleKind (cL P w)))/\(xs.map (·.1)).Nodup
 | .set S n=>h.SetOf (intKind P w) a S n
 | .ins C dx fs=>H dx=some (.own a)/\fs.length<=1000/\dx≠a/\h.get? a=some (PySem.W.instObj C dx)/\
    ∃mA,h.Ns1 dx mA/\(∀f,kh (fs.lookup f) (mA f))/\PySem.Within mA (fs.map (·.1))
 | .own _=>∃o,h.get? a=some o
 | .xd fs=>∃mA,h.Ns1 a mA/\∀f,kh (fs.lookup f) (mA f)
 | .rng lo hi=>∃t u v,h.get? a=some {cls:= .type "range",data:= .fields #[.int lo t, .int hi u, .int 1 v]}
 | .kK o u=>h.get? a=some o/\c_ H h a u
 | .tbl ps=>h.get? a=some {cls:= .none,data:= .fields ps}
 | .met f x=>h.get? a=some (PySem.W.methodObj (.ref f) (.ref x))
 | .ext φ=>φ h/\(∃o,h.get? a=some o)/\∀h1 h2:Heap,φ h1->(∀o,h1.get? a=some o->h2.get? a=some o)->φ h2
def mh(H:Hp)(h:Heap):Prop:=∀a o,H a=some o->c_ P w H h a o
end
section
variable {P:Program} {w:World} {H H':Hp} {h h':Heap} {a:Addr} {o:HO}
theorem c_.lt(x:c_ P w H h a o):a < h.objs.size:=by
 cases o with
 | lst xs=>obtain⟨_,_,_,_,e⟩:=x;exact Heap.lt_size e
 | tup xs=>obtain⟨_,_,_,p⟩:=x;exact p.lt
 | dK ay=>obtain⟨_,_,_,_,o,_,_,e,_⟩:=x;exact Heap.lt_size e
 | dT ay=>obtain⟨_,_,_,_,o,_,_,e,_⟩:=x;exact Heap.lt_size e
 | set S n=>obtain⟨o,_,_,_,e,_⟩:=x;exact Heap.lt_size e
 | ins C dx fs=>obtain⟨_,_,_,e,_⟩:=x;exact Heap.lt_size e
 | own y=>obtain⟨_,e⟩:=x;exact Heap.lt_size e
 | xd fs=>obtain⟨_,⟨_,_,_,e,_⟩,_⟩:=x;exact Heap.lt_size e
 | rng lo hi=>obtain⟨_,_,_,e⟩:=x;exact Heap.lt_size e
 | kK ob u=>obtain⟨e,_⟩:=x;exact Heap.lt_size e
 | tbl ps=>exact Heap.lt_size (show h.get? a=some _ from x)
 | met f y=>exact Heap.lt_size (show h.get? a=some _ from x)
 | ext φ=>obtain⟨_,⟨_,e⟩,_⟩:=x;exact Heap.lt_size e
theorem Paired.JJ{α β:Type}{F G:α->β->Prop}:∀{Mt:List α} {Ms:List β},Paired F Mt Ms->(∀a b,F a b->G a b)->Paired G Mt Ms
 | _,_, .nil,_=> .nil
 | _,_, .cons r t,f=> .cons (f _ _ r) (Paired.JJ t f)
theorem c_.yg(x:c_ P w H h a o)(k:∀b u,(b=a\/H b=some (.own a))->h.get? b=some u->h'.get? b=some u)
 (ho:∀b,H b=some (.own a)->H' b=some (.own a)) (ht:∀b xs,H b=some (.tup xs)->H' b=some (.tup xs)):c_ P w H' h' a o:=by
 induction o with
 | lst xs=>obtain⟨z,its,n,r,e⟩:=x;exact⟨z,its,n,r,k _ _ (.inl rfl) e⟩
 | tup xs=>obtain⟨z,its,r,ob,e,c⟩:=x;exact⟨z,its,r,ob,k _ _ (.inl rfl) e,c⟩
 | dK ay=>obtain⟨z,y,vs,r,ob,es,ep,e,c⟩:=x;exact⟨z,y,vs,r,ob,es,ep,k _ _ (.inl rfl) e,c⟩
 | dT ay=>
   obtain⟨z,y,xs,r,ob,es,ep,e,c⟩:=x;exact⟨z,y,xs,Paired.JJ r fun p q z=>⟨z.1,ht _ _ z.2.1,z.2.2⟩,ob,es,ep,k _ _ (.inl rfl) e,c⟩
 | set S n=>obtain⟨ob,es,ep,t,e,c⟩:=x;exact⟨ob,es,ep,t,k _ _ (.inl rfl) e,c⟩
 | ins C dx fs=>
   obtain⟨d,z,ne,e,mA,⟨od,es,ep,e2,c⟩,r⟩:=x;exact⟨ho _ d,z,ne,k _ _ (.inl rfl) e,mA,⟨od,es,ep,k _ _ (.inr d) e2,c⟩,r⟩
 | own y=>obtain⟨ob,e⟩:=x;exact⟨ob,k _ _ (.inl rfl) e⟩
 | xd fs=>obtain⟨mA,⟨od,es,ep,e,c⟩,r⟩:=x;exact⟨mA,⟨od,es,ep,k _ _ (.inl rfl) e,c⟩,r⟩
 | rng lo hi=>obtain⟨t,u,v,e⟩:=x;exact⟨t,u,v,k _ _ (.inl rfl) e⟩
 | kK ob u ih=>obtain⟨e,q⟩:=x;exact⟨k _ _ (.inl rfl) e,ih q⟩
 | tbl ps=>
   have e:h.get? a=some {cls:= .none,data:= .fields ps}:=x;show h'.get? a=some {cls:= .none,data:= .fields ps};exact k a _ (.inl rfl) e
 | met f y=>
   have e:h.get? a=some (PySem.W.methodObj (.ref f) (.ref y)):=x;show h'.get? a=some (PySem.W.methodObj (.ref f) (.ref y));exact k a _ (.inl rfl) e
 | ext φ=>obtain⟨p,⟨o,e⟩,st⟩:=x;exact⟨st _ _ p fun o q=>k _ _ (.inl rfl) q,⟨o,k _ _ (.inl rfl) e⟩,st⟩
theorem mh.lt(x:mh P w H h)(e:H a=some o):a < h.objs.size:=(x a o e).lt
theorem mh.fresh(x:mh P w H h)(e:h.objs.size<=a):H a=none:=by
 cases q:H a with
 | none=>rfl
 | some u=>exact absurd (Nat.lt_of_lt_of_le (x.lt q) e) (Nat.lt_irrefl _)
theorem mh.kept(x:mh P w H h)(k:∀b u,h.get? b=some u->h'.get? b=some u):mh P w H h':=fun a o e=>
 (x a o e).yg (fun b u _ q=>k b u q) (fun _ q=>q) fun _ _ q=>q
theorem mh.laid(x:mh P w H h)(k:∀b u,h.get? b=some u->h'.get? b=some u)(hp:h.objs.size<=a)(new:c_ P w (upd H a o) h' a o):mh P w (upd H a o) h':=fun b u e=>by
 have hn:=x.fresh hp;by_cases hb:b=a
 .subst hb;rw [aX] at e;cases e;exact new
 .rw [bb hb] at e;exact(x b u e).yg (fun c v _ q=>k c v q) (fun c q=>by rw[bb (b8 q hn)];exact q) fun c xs q=>by rw[bb (b8 q hn)];exact q
end
def Rd(H:Hp)(a:Addr)(u:HO):Prop:=H a=some u\/∃o,H a=some (.kK o u)
theorem Rd.ok{a:Addr}{u:HO}(r:Rd H a u)(x:mh P w H h):c_ P w H h a u:=by
 rcases r with r | ⟨o,r⟩
 .exact x a u r
 .obtain⟨_,q⟩:=x a _ r;exact q
def KY:Option HO->Prop
 | some (.lst _)=>True
 | some (.dK _)=>True
 | some (.dT _)=>True
 | some (.set _ _)=>True
 | some (.ins _ _ _)=>True
 | some (.ext _)=>True
 | _=>False
section
variable {P:Program} {w:World} {H:Hp} {h h':Heap} {x e:Addr} {o':HO}
theorem mh.write(ok:mh P w H h)(mu:KY (H x))(he:e=x\/H e=some (.own x))(k:∀b u,b≠e->h.get? b=some u->h'.get? b=some u)(Hb:∃u,h'.get? e=some u)
 (new:c_ P w (upd H x o') h' x o'):mh P w (upd H x o') h':=fun b u q=>by
 have nown:∀c y,H c=some (.own y)->c≠x:=fun c y r z=>by subst z;rw [r] at mu;exact mu
 have ntup:∀c xs,H c=some (.tup xs)->c≠x:=fun c xs r z=>by subst z;rw [r] at mu;exact mu
 by_cases hb:b=x
 .subst hb;rw [aX] at q;cases q;exact new
 .rw [bb hb] at q;by_cases hbe:b=e
  .have q':H b=some (.own x):=by
    rcases he with z | z
    .exact absurd (hbe.trans z) hb
    .rw [hbe];exact z
   rw[q] at q';cases q';obtain⟨v,hv⟩:=Hb;exact⟨v,by rw[hbe];exact hv⟩
  .refine(ok b u q).yg (fun c v hc r=>k c v ?_ r) (fun c r=>by rw[bb (nown c b r)];exact r) fun c xs r=>by rw[bb (ntup c xs r)];exact r
   rcases hc with rfl | hc
   .exact hbe
   .rintro rfl;rcases he with z | z
    .exact nown c b hc z
    .rw [hc] at z;cases z;exact hb rfl
end
structure Un (fs ex:List Addr) (H H':Hp) (h h':Heap):Prop where
 keep:∀b o,h.get? b=some o->H b=none->b ∉ fs->b ∉ ex->h'.get? b=some o
 slot:∀b o,h.get? b=some o->H b=none->b∈fs->b ∉ ex->∃sl,h'.get? b=some {o with slots:=sl}
 free:∀b o,h.get? b=some o->H b=none->b ∉ ex->H' b=none
 there:∀b o,h.get? b=some o->b ∉ ex->∃o',h'.get? b=some o'
 tups:∀b xs,H b=some (.tup xs)->H' b=some (.tup xs)
 frzs:∀b o u,H b=some (.kK o u)->H' b=some (.kK o u)
 tbls:∀b ps,H b=some (.tbl ps)->∃more,H' b=some (.tbl (ps++more))
section
variable {fs Kn ex Wy:List Addr} {H H1 H2:Hp} {h h1 h2 h':Heap} {a x e:Addr} {o:HO}
theorem Un.any(u:Un fs ex H H1 h h1){b:Addr}{ob:Obj}(q:h.get? b=some ob)(n:H b=none)(hx:b ∉ ex):∃sl,h1.get? b=some {ob with slots:=sl}:=by
 by_cases hb:b∈fs
 .exact u.slot b ob q n hb hx
 .exact⟨ob.slots,u.keep b ob q n hb hx⟩
theorem Un.kept(k:∀b u,h.get? b=some u->h'.get? b=some u):Un fs ex H H h h':=
 ⟨fun b ob q _ _ _=>k b ob q,fun b ob q _ _ _=>⟨ob.slots,k b ob q⟩,fun _ _ _ n _=>n,fun b ob q _=>⟨ob,k b ob q⟩,fun _ _ q=>q,fun _ _ _ q=>q,fun _ ps q=>⟨#[],by rw[q];simp⟩⟩
theorem Un.refl:Un fs ex H H h h:=Un.kept fun _ _ q=>q
theorem Un.laid(k:∀b u,h.get? b=some u->h'.get? b=some u)(hp:h.objs.size<=a)(hn:H a=none):Un fs ex H (upd H a o) h h' where
 keep:=fun b u q _ _ _=>k b u q
 slot:=fun b u q _ _ _=>⟨u.slots,k b u q⟩
 free:=fun b u q n _=>by rw[bb (Nat.ne_of_lt (Nat.lt_of_lt_of_le (Heap.lt_size q) hp))];exact n
 there:=fun b u q _=>⟨u,k b u q⟩
 tups:=fun b xs q=>by rw[bb (b8 q hn)];exact q
 frzs:=fun b u xs q=>by rw[bb (b8 q hn)];exact q
 tbls:=fun b ps q=>⟨#[],by rw[bb (b8 q hn),q];simp⟩
theorem Un.write(mu:KY (H x))(he:e=x\/H e=some (.own x))(k:∀b u,b≠e->h.get? b=some u->h'.get? b=some u)(Hb:∃u,h'.get? e=some u):Un fs ex H (upd H x o) h h':=by
 have hx:∀b,H b=none->b≠x:=fun b n z=>by subst z;rw [n] at mu;exact mu
 have hb:∀b,H b=none->b≠e:=fun b n z=>by
  subst z;rcases he with r | r
  .exact hx b n r
  .rw [n] at r;cases r
 have hm:∀b u,H b=some u->¬KY (some u)->b≠x:=fun b u q nm z=>by subst z;rw [q] at mu;exact nm mu
 refine⟨fun b u q n _ _=>k b u (hb b n) q,fun b u q n _ _=>⟨u.slots,k b u (hb b n) q⟩,fun b u q n _=>by rw[bb (hx b n)];exact n,fun b u q _=>?_,
  fun b xs q=>by rw[bb (hm b _ q fun z=>z)];exact q,fun b u xs q=>by rw[bb (hm b _ q fun z=>z)];exact q,fun b ps q=>⟨#[],by rw[bb (hm b _ q fun z=>z),q];simp⟩⟩
 by_cases hbe:b=e
 .subst hbe;exact Hb
 .exact⟨u,k b u hbe q⟩
end
def IE(h:Heap)(H:Hp):List Addr:=(List.range h.objs.size).filter fun a=>(H a).isSome
def uu(h:Heap)(H:Hp):Heap:=PySem.W.hideAll h (IE h H)
theorem zN(h:Heap)(H:Hp):(uu h H).objs.size=h.objs.size:=PySem.W.hideAll_size _ _
theorem Ci{h:Heap}{H:Hp}{b:Addr}{o:Obj}(e:h.get? b=some o)(n:H b=none):(uu h H).get? b=some o:=
 PySem.W.hideAll_get _ e fun hm=>by
  have q:(H b).isSome=true:=(List.mem_filter.mp hm).2;rw[n] at q;simp at q
theorem FV{h:Heap}{H:Hp}{b:Addr}{o:Obj}(e:(uu h H).get? b=some o):h.get? b=some o/\H b=none:=by
 have e':h.get? b=some o:=PySem.W.of_hideAll (IE h H) e;refine⟨e',?_⟩;cases q:H b with
 | none=>rfl
 | some x=>
   have hm:b∈IE h H:=List.mem_filter.mpr ⟨List.mem_range.mpr (Heap.lt_size e'),by simp [q]⟩
   have z:(uu h H).get? b=none:=PySem.W.hideAll_none (IE h H) hm;rw[z] at e;cases e
def E8(g h:Heap)(L:Addr):WD:=(List.range h.objs.size).filterMap fun a=>if a=L\/(g.get? a).isSome=true then none else(h.get? a).map fun o=>(a,o)
def rest(g h:Heap)(L d:Addr):WD:=(E8 g h L).filter fun p=>decide (p.1≠d)
structure Mod (K:W.Frag) (mg:WK) (base:Heap):Prop where
 kin:K.In base
 glob:base.Ns mainGlobals mg
 blt:∃mb,base.Ns builtinsNs mb/\∀x:Str,x≠"__name__"->mb x=bootBuiltins x
 nolimit:base.NoLimit
structure Cx where
 prog:Program
 w:World
 K:W.Frag
 mg:WK
 base:Heap
 A:Around
 N:List Str
 s₀:Shared
 H₀:Hp
 env:Env
 outer:List Env
 stack:List Env
 ex:List Addr
 fn:Str->Bool
 calm:Bool
 pn:WD
 xe:WG
def pO(l:List Env):List Addr:=l.filterMap (·.frame)
abbrev Cx.fs(X:Cx):List Addr:=pO X.outer
def G7(sc:Scope)(x:Str):Prop:=sc.names.lookup x=some .local\/sc.names.lookup x=some .cell\/sc.names.lookup x=some .free
def Loc(sc:Scope)(x:Str):Prop:=sc.names.lookup x=some .local\/sc.names.lookup x=some .cell
def Look(env:Env)(h:Heap)(m:WK)(x:Str)(u:Value):Prop:=
 (env.kindOf x=some .local/\m x=some u)\/((env.kindOf x=some .cell\/env.kindOf x=some .free)/\∃c,env.cells.lookup x=some c/\h.IsCell c (some u))
structure Cx.Ok (X:Cx):Prop where
 mod:Mod X.K X.mg X.base
 kind:X.env.scope.kind= .function
 glob:X.env.globals=mainGlobals
 blt:X.env.builtins=builtinsNs
 above:X.s₀.heap.objs.size<=X.env.locals
 inj:∀x y c,X.env.cells.lookup x=some c->X.env.cells.lookup y=some c->x=y
 has:∀x,(X.env.kindOf x=some .cell\/X.env.kindOf x=some .free)->∃c,X.env.cells.lookup x=some c
 cab:∀x c,X.fn x=true->X.env.cells.lookup x=some c->X.s₀.heap.objs.size<=c
 hd:X.calm=true->X.A.handled=none
 frames:X.A.frames=some X.stack
 stk:X.stack=X.outer\/(X.stack=X.env ::X.outer/\X.env.frame=some X.env.locals)
 exf:∀b∈X.ex,b≠X.env.locals/\∀x c,X.env.cells.lookup x=some c->c≠b
 bs:∀b o,X.base.get? b=some o->X.s₀.heap.get? b=some o/\X.H₀ b=none
 bsz:X.base.objs.size<=X.s₀.heap.objs.size
 noex:∀b o,X.base.get? b=some o->b ∉ X.ex
 exfs:∀b∈X.ex,b ∉ X.fs
 oF:X.s₀.heap.FunFrames X.base X.outer
 frf:∀b∈X.fs,X.H₀ b=none
structure Inv (X:Cx) (pins:WD) (σ:List (Option V)) (H:Hp) (s:Shared):Prop where
 ok:X.Ok
 os:s.os=X.s₀.os
 bare:AllBare s.gens
 base:Un X.fs X.ex X.H₀ H X.s₀.heap s.heap
 loc:∃m,s.heap.Ns X.env.locals m/\∀(i:Nat) (x:Str) (v:V),X.N[i]? =some x->σ[i]? =some (some v)->G7 X.env.scope x->∃u,RelV v u/\Look X.env s.heap m x u
 cell:∀x c,X.env.cells.lookup x=some c->∃v,s.heap.IsCell c v
 free:H X.env.locals=none
 freeC:∀x c,X.env.cells.lookup x=some c->H c=none
 pin:∀p∈X.pn++pins,s.heap.get? p.1=some p.2/\H p.1=none/\p.1≠X.env.locals/\p.1 ∉ X.fs/\∀v,p.2.data≠ .cell v
 hok:mh X.prog X.w H s.heap
 len:σ.length=X.N.length
section
variable {X:Cx} {pins:WD} {σ:List (Option V)} {H H':Hp} {s:Shared} {h':Heap}
theorem Cx.Ok.NS(ok:X.Ok){b:Addr}{o:Obj}(e:X.base.get? b=some o):b ∉ X.fs:=fun hb=>by
 have:=(ok.oF.mem hb).1;rw[e] at this;cases this
theorem Inv.bs(I:Inv X pins σ H s):∀b o,X.base.get? b=some o->s.heap.get? b=some o/\H b=none:=fun b o e=>
 ⟨I.base.keep b o (I.ok.bs b o e).1 (I.ok.bs b o e).2 (I.ok.NS e) (I.ok.noex b o e),I.base.free b o (I.ok.bs b o e).1 (I.ok.bs b o e).2 (I.ok.noex b o e)⟩
theorem Inv.bk(I:Inv X pins σ H s):∀b o,X.base.get? b=some o->s.heap.get? b=some o:=fun b o e=>(I.bs b o e).1
theorem Inv.mod(I:Inv X pins σ H s):Mod X.K X.mg X.base:=I.ok.mod
theorem Inv.mS(I:Inv X pins σ H s):X.K.In s.heap:=I.ok.mod.kin.keeps I.bk
theorem Inv.lt(I:Inv X pins σ H s):X.env.locals < s.heap.objs.size:=let⟨_,hn,_⟩:=I.loc;hn.lt
theorem Inv.sz(I:Inv X pins σ H s):X.s₀.heap.objs.size<=s.heap.objs.size:=Nat.le_trans I.ok.above (Nat.le_of_lt I.lt)
theorem Inv.Nv(I:Inv X pins σ H s){a:Addr}(h:s.heap.objs.size<=a):a ∉ X.fs:=fun hb=>by
 obtain⟨_,o,ho,_⟩:=I.ok.oF.mem hb;exact absurd (Nat.lt_of_lt_of_le (Heap.lt_size ho) (Nat.le_trans I.sz h)) (Nat.lt_irrefl _)
theorem Inv.Jp(I:Inv X pins σ H s):∀x c,X.env.cells.lookup x=some c->c≠X.env.locals:=fun x c e z=>by
 obtain⟨v,o,ho,hd⟩:=I.cell x c e;obtain⟨m,⟨o',es,ep,wM,Gn,_⟩,_⟩:=I.loc;rw[z,wM] at ho;cases ho;rw [Gn] at hd;cases hd
theorem Inv.oF(I:Inv X pins σ H s):s.heap.FunFrames X.base X.outer:=by
 have all:∀(l:List Env),(∀b∈pO l,b∈X.fs)->X.s₀.heap.FunFrames X.base l->s.heap.FunFrames X.base l:=by
  intro l
  induction l with
  | nil=>intro _ _;trivial
  | cons env r ih=>
    intro hs hl;obtain⟨hk,⟨L,o,hf,hn,ho,hd⟩,hr⟩:=hl;have hL:L∈X.fs:=hs L (by unfold pO;rw [List.filterMap_cons,hf];exact List.mem_cons_self)
    obtain⟨sl,e⟩:=I.base.slot L o ho (I.ok.frf L hL) hL fun z=>I.ok.exfs L z hL
    exact⟨hk,⟨L,_,hf,hn,e,hd⟩,ih (fun b hb=>hs b (by unfold pO;rw [List.filterMap_cons,hf];exact List.mem_cons_of_mem _ hb)) hr⟩
 exact all X.outer (fun _ hb=>hb) I.ok.oF
theorem Inv.stack(I:Inv X pins σ H s):s.heap.FunFrames X.base X.stack:=by
 rcases I.ok.stk with e | ⟨e,hf⟩
 .rw [e];exact I.oF
 .rw [e];obtain⟨m,hn,_⟩:=I.loc;refine .cons (by rw[I.ok.kind];decide) hf hn ?_ I.oF
  exact Heap.get?_none_of_le (Nat.le_trans I.ok.bsz I.ok.above)
theorem Inv.xw(I:Inv X pins σ H s):∀b∈pO X.stack,b∈X.env.locals ::X.fs:=fun b hb=>by
 rcases I.ok.stk with e | ⟨e,hf⟩
 .rw [e] at hb;exact List.mem_cons_of_mem _ hb
 .rw [e] at hb;unfold pO at hb;rw[List.filterMap_cons,hf] at hb;exact hb
theorem Inv.p9(I:Inv X pins σ H s):∀b∈pO X.stack,H b=none:=fun b hb=>by
 rcases List.mem_cons.mp (I.xw b hb) with e | hb
 .rw [e];exact I.free
 .obtain⟨_,o,ho,_⟩:=I.ok.oF.mem hb;exact I.base.free b o ho (I.ok.frf b hb) fun z=>I.ok.exfs b z hb
theorem Inv.step{g':Array GenState}{t':Nat}{d':Drawn}{ch:List Addr}(I:Inv X pins σ H s)
 (D2:∀b∈ch,(b∈X.ex\/X.s₀.heap.objs.size<=b)/\b≠X.env.locals/\(∀x c,X.env.cells.lookup x=some c->c≠b)/\∀p∈X.pn++pins,p.1≠b)
 (keep:∀b o,b≠X.env.locals->b ∉ X.fs->b ∉ ch->s.heap.get? b=some o->H b=none->h'.get? b=some o)
 (slot:∀b o,b≠X.env.locals->b∈X.fs->b ∉ ch->s.heap.get? b=some o->H b=none->∃sl,h'.get? b=some {o with slots:=sl}) (free:∀b o,b ∉ ch->s.heap.get? b=some o->H b=none->H' b=none)
 (there:∀b o,b ∉ ch->s.heap.get? b=some o->∃o',h'.get? b=some o')
 (tups:∀b xs,H b=some (.tup xs)->H' b=some (.tup xs)) (frzs:∀b o u,H b=some (.kK o u)->H' b=some (.kK o u)) (tbls:∀b ps,H b=some (.tbl ps)->∃more,H' b=some (.tbl (ps++more)))
 (ns:∀m,s.heap.Ns X.env.locals m->h'.Ns X.env.locals m) (hok:mh X.prog X.w H' h') (hg:AllBare g') :
 Inv X pins σ H' {s with heap:=h',gens:=g',drawn:=d',toks:=t'}:=by
 have neL:∀b o,X.s₀.heap.get? b=some o->b≠X.env.locals:=fun b o e=>Nat.ne_of_lt (Nat.lt_of_lt_of_le (Heap.lt_size e) I.ok.above)
 have neC:∀b o,X.s₀.heap.get? b=some o->b ∉ X.ex->b ∉ ch:=fun b o e hx hb=>by
  rcases(D2 b hb).1 with z | z
  .exact hx z
  .exact absurd (Nat.lt_of_lt_of_le (Heap.lt_size e) z) (Nat.lt_irrefl _)
 have cellK:∀x c,X.env.cells.lookup x=some c->∀v,s.heap.IsCell c v->h'.IsCell c v:=fun x c e v ⟨o,ho,hd⟩=>by
  have nch:c ∉ ch:=fun z=>(D2 c z).2.2.1 x c e rfl
  by_cases hc:c∈X.fs
  .obtain⟨sl,q⟩:=slot c o (I.Jp x c e) hc nch ho (I.freeC x c e);exact⟨_,q,hd⟩
  .exact⟨o,keep c o (I.Jp x c e) hc nch ho (I.freeC x c e),hd⟩
 refine⟨I.ok,I.os,hg,⟨fun b o e n hb hx=>?_,fun b o e n hb hx=>?_,fun b o e n hx=>?_,fun b o e hx=>?_,fun b xs e=>tups b xs (I.base.tups b xs e),fun b o xs e=>frzs b o xs (I.base.frzs b o xs e),fun b ps e=>?_⟩,?_,fun x c e=>?_,?_,fun x c e=>?_,fun p hp=>?_,hok,I.len⟩
 .exact keep b o (neL b o e) hb (neC b o e hx) (I.base.keep b o e n hb hx) (I.base.free b o e n hx)
 .obtain⟨sl,e1⟩:=I.base.slot b o e n hb hx;obtain⟨VC,e2⟩:=slot b _ (neL b o e) hb (neC b o e hx) e1 (I.base.free b o e n hx);exact⟨VC,e2⟩
 .obtain⟨o',e1⟩:=I.base.there b o e hx;exact free b o' (neC b o e hx) e1 (I.base.free b o e n hx)
 .obtain⟨o',e1⟩:=I.base.there b o e hx;exact there b o' (neC b o e hx) e1
 .obtain⟨m1,e1⟩:=I.base.tbls b ps e;obtain⟨m2,e2⟩:=tbls b _ e1;exact⟨m1++m2,by rw[e2,Array.append_assoc]⟩
 .obtain⟨m,hn,hl⟩:=I.loc;refine⟨m,ns m hn,fun i x v e1 e2 e3=>?_⟩
  obtain⟨u,r,l⟩:=hl i x v e1 e2 e3;refine⟨u,r,?_⟩;rcases l with l | ⟨k,c,e,z⟩
  .exact .inl l
  .exact .inr ⟨k,c,e,cellK x c e _ z⟩
 .obtain⟨v,z⟩:=I.cell x c e;exact⟨v,cellK x c e v z⟩
 .obtain⟨m,⟨o,_,_,ho,_⟩,_⟩:=I.loc;exact free _ o (fun z=>(D2 _ z).2.1 rfl) ho I.free
 .obtain⟨v,o,ho,hd⟩:=I.cell x c e;exact free c o (fun z=>(D2 c z).2.2.1 x c e rfl) ho (I.freeC x c e)
 .obtain⟨e,n,ne,nf,d⟩:=I.pin p hp;have nch:p.1 ∉ ch:=fun z=>(D2 p.1 z).2.2.2 p hp rfl
  exact⟨keep p.1 p.2 ne nf nch e n,free p.1 p.2 nch e n,ne,nf,d⟩
theorem Inv.un{t':Nat}(I:Inv X pins σ H s)(u:Un X.fs [] H H' s.heap h')(hok:mh X.prog X.w H' h'):Inv X pins σ H' {s with heap:=h',toks:=t'}:=by
 obtain⟨m,⟨o,es,ep,ho,r⟩,_⟩:=id I.loc;obtain⟨sl,hL⟩:=u.any ho I.free (by simp)
 exact I.step (g':=s.gens) (d':=s.drawn) (ch:=[]) (fun _ z=>nomatch z) (fun b o _ hb _ e n=>u.keep b o e n hb (by simp)) (fun b o _ hb _ e n=>u.slot b o e n hb (by simp)) (fun b o _ e n=>u.free b o e n (by simp)) (fun b o _ e=>u.there b o e (by simp)) u.tups u.frzs u.tbls (fun m' hm=>by
  obtain⟨o',Pn,P0,wM,r'⟩:=hm;rw[ho] at wM;cases wM;exact⟨_,Pn,P0,hL,r'⟩) hok I.bare
theorem Inv.call{g':Array GenState}{t':Nat}{d':Drawn}{ch:List Addr}(I:Inv X pins σ H s)(u:Un (pO X.stack) ch H H' s.heap h')(hok:mh X.prog X.w H' h')(hg:AllBare g')
 (D2:∀b∈ch,(b∈X.ex\/X.s₀.heap.objs.size<=b)/\b≠X.env.locals/\(∀x c,X.env.cells.lookup x=some c->c≠b)/\∀p∈X.pn++pins,p.1≠b) :
 Inv X pins σ H' {s with heap:=h',gens:=g',drawn:=d',toks:=t'}:=by
 obtain⟨m,⟨o,es,ep,ho,r⟩,_⟩:=id I.loc;obtain⟨sl,hL⟩:=u.any ho I.free fun z=>(D2 _ z).2.1 rfl
 exact I.step (ch:=ch) D2 (fun b o hL hb hc e n=>u.keep b o e n (fun z=>(List.mem_cons.mp (I.xw b z)).elim hL hb) hc) (fun b o _ _ hc e n=>u.any e n hc) (fun b o hc e n=>u.free b o e n hc) (fun b o hc e=>u.there b o e hc) u.tups u.frzs u.tbls (fun m' hm=>by
  obtain⟨o',Pn,P0,wM,r'⟩:=hm;rw[ho] at wM;cases wM;exact⟨_,Pn,P0,hL,r'⟩) hok hg
theorem Inv.turned{t':Nat}{it:Addr}(I:Inv X pins σ H s)(k:∀b o,b≠it->s.heap.get? b=some o->h'.get? b=some o)(hn:H it=none)(hL:it≠X.env.locals)
 (h1:it∈X.ex\/X.s₀.heap.objs.size<=it) (h2:∀x c,X.env.cells.lookup x=some c->c≠it) (h3:∀p∈X.pn++pins,p.1≠it):Inv X pins σ H {s with heap:=h',toks:=t'}:=by
 have nit:∀b u,H b=some u->b≠it:=fun b u e z=>by rw[z,hn] at e;cases e
 refine I.step (g':=s.gens) (d':=s.drawn) (ch:=[it]) (fun b hb=>?_) (fun b o _ _ hc e _=>k b o (fun z=>hc (by simp [z])) e) (fun b o _ _ hc e _=>⟨o.slots,k b o (fun z=>hc (by simp [z])) e⟩) (fun _ _ _ _ n=>n)
  (fun b o hc e=>⟨o,k b o (fun z=>hc (by simp [z])) e⟩) (fun _ _ e=>e) (fun _ _ _ e=>e) (fun b ps e=>⟨#[],by rw[e];simp⟩) (fun m hm=>?_) (fun b u e=>?_) I.bare
 .have e:b=it:=by simpa using hb
  subst e;exact⟨h1,hL,h2,h3⟩
 .obtain⟨o,es,ep,ho,r⟩:=hm;exact⟨o,es,ep,k _ o (Ne.symm hL) ho,r⟩
 .refine(I.hok b u e).yg (fun c v hc q=>k c v ?_ q) (fun _ q=>q) fun _ _ q=>q
  rcases hc with z | z
  .rw [z];exact nit b u e
  .exact nit c _ z
theorem Inv.tok(I:Inv X pins σ H s)(t:Nat):Inv X pins σ H {s with toks:=t}:=I.un (h':=s.heap) (t':=t) Un.refl I.hok
theorem Inv.kept{t':Nat}(I:Inv X pins σ H s)(k:∀b u,s.heap.get? b=some u->h'.get? b=some u):Inv X pins σ H {s with heap:=h',toks:=t'}:=I.un (Un.kept k) (I.hok.kept k)
theorem Inv.laid{a:Addr}{o:HO}{t':Nat}(I:Inv X pins σ H s)(k:∀b u,s.heap.get? b=some u->h'.get? b=some u)(hp:s.heap.objs.size<=a)(new:c_ X.prog X.w (upd H a o) h' a o) :
 Inv X pins σ (upd H a o) {s with heap:=h',toks:=t'}:=I.un (Un.laid k hp (I.hok.fresh hp)) (I.hok.laid k hp new)
theorem Inv.write{x e:Addr}{o:HO}{t':Nat}(I:Inv X pins σ H s)(mu:KY (H x))(he:e=x\/H e=some (.own x))(k:∀b u,b≠e->s.heap.get? b=some u->h'.get? b=some u)(Hb:∃u,h'.get? e=some u)
 (new:c_ X.prog X.w (upd H x o) h' x o):Inv X pins σ (upd H x o) {s with heap:=h',toks:=t'}:=I.un (Un.write mu he k Hb) (I.hok.write mu he k Hb new)
theorem Inv.yu{DM:WD}(I:Inv X pins σ H s)(h:∀p∈DM,s.heap.get? p.1=some p.2/\H p.1=none/\p.1≠X.env.locals/\p.1 ∉ X.fs/\∀v,p.2.data≠ .cell v):Inv X DM σ H s:=
 ⟨I.ok,I.os,I.bare,I.base,I.loc,I.cell,I.free,I.freeC,fun p hp=>(List.mem_append.mp hp).elim (fun z=>I.pin p (List.mem_append_left _ z)) (h p),I.hok,I.len⟩
theorem i_{N:List Str}(hN:N.Nodup){i j:Nat}(a:N[i]? =some x)(b:N[j]? =some x):i=j:=by
 obtain⟨h1,e1⟩:=List.getElem?_eq_some_iff.mp a;obtain⟨h2,e2⟩:=List.getElem?_eq_some_iff.mp b;exact(List.getElem_inj hN).mp (e1.trans e2.symm)
theorem sC{M:Model}{A:Around}{E:WG}{i:Nat}{x:Str}{v:V}{u:Value}{Q:Unit->Shared->Prop}(I:Inv X pins σ H s)(hN:X.N.Nodup)(hi:X.N[i]? =some x)(hx:Loc X.env.scope x)(r:RelV v u)
 (h:∀s',Inv X pins (σ.set i (some v)) H s'->(∃a,Heap.SameBut a s.heap s'.heap/\(a=X.env.locals\/X.env.cells.lookup x=some a))->Q () s') (hf:X.fn x=true\/X.env.scope.names.lookup x=some .local:=by first | exact .inl rfl | exact .inr rfl | assumption):wpAny M A (storeName X.env x u) Q E s:=by
 obtain⟨m,hn,hl⟩:=id I.loc;have hcls:(X.env.scope.kind== .class || (X.env.scope.kind== .module && X.env.locals !=X.env.globals))=false:=by rw[I.ok.kind];rfl
 have hiσ:i < σ.length:=by rw[I.len];exact(List.getElem?_eq_some_iff.mp hi).1
 have Jp:=I.Jp;have tracked:∀{a:Addr} {h':Heap},(∃o,s.heap.get? a=some o/\H a=none)->Heap.SameBut a s.heap h'->mh X.prog X.w H h':=fun {a h'} ha hs b ob e=>by
  obtain⟨_,_,hfree⟩:=ha;refine(I.hok b ob e).yg (fun c w' hc q=>(hs.2 c ?_).trans q) (fun _ q=>q) fun _ _ q=>q
  rintro rfl;rcases hc with rfl | hc
  .rw [hfree] at e;cases e
  .rw [hfree] at hc;cases hc
 rcases hx with hk | hk
 .refine wpAny_storeName_local hk hn (fun h' Vx hs=>?_) hcls
  obtain⟨oL,_,_,hoL,_⟩:=id hn;refine h _ ⟨I.ok,I.os,I.bare,⟨fun b o e n hb hx=>?_,fun b o e n hb hx=>?_,I.base.free,fun b o e hx=>?_,I.base.tups,I.base.frzs,I.base.tbls⟩,⟨_,Vx,fun j y v' e1 e2 e3=>?_⟩,fun y c e=>?_,I.free,I.freeC,fun p hp=>?_,tracked ⟨oL,hoL,I.free⟩ hs,by simpa using I.len⟩ ⟨_,hs, .inl rfl⟩
  .exact(hs.2 b (Nat.ne_of_lt (Nat.lt_of_lt_of_le (Heap.lt_size e) I.ok.above))).trans (I.base.keep b o e n hb hx)
  .obtain⟨sl,e1⟩:=I.base.slot b o e n hb hx;exact⟨sl,(hs.2 b (Nat.ne_of_lt (Nat.lt_of_lt_of_le (Heap.lt_size e) I.ok.above))).trans e1⟩
  .obtain⟨o',e1⟩:=I.base.there b o e hx;exact⟨o',(hs.2 b (Nat.ne_of_lt (Nat.lt_of_lt_of_le (Heap.lt_size e) I.ok.above))).trans e1⟩
  .by_cases hj:j=i
   .subst hj;rw[hi] at e1;cases e1;rw[List.getElem?_set_self hiσ] at e2;cases e2;exact⟨u,r, .inl ⟨hk,by simp⟩⟩
   .rw [List.getElem?_set_ne (Ne.symm hj)] at e2;obtain⟨u',r',q⟩:=hl j y v' e1 e2 e3;refine⟨u',r',?_⟩;rcases q with⟨k,e⟩ | ⟨k,c,e,z⟩
    .refine .inl ⟨k,?_⟩;have:y≠x:=fun e=>hj (i_ hN e1 (e▸hi))
     simp [this,e]
    .exact .inr ⟨k,c,e,z.sameBut hs (Jp y c e)⟩
  .obtain⟨w',z⟩:=I.cell y c e;exact⟨w',z.sameBut hs (Jp y c e)⟩
  .obtain⟨e,n,ne,nf,d⟩:=I.pin p hp;exact⟨(hs.2 p.1 ne).trans e,n,ne,nf,d⟩
 .have hfn:X.fn x=true:=by
   rcases hf with z | z
   .exact z
   .rw [z] at hk;cases hk
  obtain⟨c,hc⟩:=I.ok.has x (.inl hk);obtain⟨w',z⟩:=I.cell x c hc;refine wpAny_storeName_cell I.ok.kind hk hc z (fun h' AN hs=>?_)
  obtain⟨oc,hoc,hocd⟩:=id z;refine h {s with heap:=h'} ⟨I.ok,I.os,I.bare,⟨fun b o e n hb hx=>?_,fun b o e n hb hx=>?_,I.base.free,fun b o e hx=>?_,I.base.tups,I.base.frzs,I.base.tbls⟩,⟨m,hn.sameBut hs (Ne.symm (Jp x c hc)),fun j y v' e1 e2 e3=>?_⟩,fun y c' e=>?_,I.free,I.freeC,fun p hp=>?_,tracked ⟨oc,hoc,I.freeC x c hc⟩ hs,by simpa using I.len⟩ ⟨c,hs, .inr hc⟩
  .exact(hs.2 b (Nat.ne_of_lt (Nat.lt_of_lt_of_le (Heap.lt_size e) (I.ok.cab x c hfn hc)))).trans (I.base.keep b o e n hb hx)
  .obtain⟨sl,e1⟩:=I.base.slot b o e n hb hx;exact⟨sl,(hs.2 b (Nat.ne_of_lt (Nat.lt_of_lt_of_le (Heap.lt_size e) (I.ok.cab x c hfn hc)))).trans e1⟩
  .obtain⟨o',e1⟩:=I.base.there b o e hx;exact⟨o',(hs.2 b (Nat.ne_of_lt (Nat.lt_of_lt_of_le (Heap.lt_size e) (I.ok.cab x c hfn hc)))).trans e1⟩
  .by_cases hj:j=i
   .subst hj;rw[hi] at e1;cases e1;rw[List.getElem?_set_self hiσ] at e2;cases e2;exact⟨u,r, .inr ⟨.inl hk,c,hc,AN⟩⟩
   .rw [List.getElem?_set_ne (Ne.symm hj)] at e2;obtain⟨u',r',q⟩:=hl j y v' e1 e2 e3;refine⟨u',r',?_⟩;rcases q with q | ⟨k,c',e,z'⟩
    .exact .inl q
    .refine .inr ⟨k,c',e,z'.sameBut hs ?_⟩;rintro rfl;exact hj (i_ hN e1 (I.ok.inj _ _ _ e hc▸hi))
  .by_cases hcc:c'=c
   .subst hcc;exact⟨_,AN⟩
   .obtain⟨w2,z2⟩:=I.cell y c' e;exact⟨w2,z2.sameBut hs hcc⟩
  .obtain⟨e,n,ne,nf,d⟩:=I.pin p hp;refine⟨(hs.2 p.1 ?_).trans e,n,ne,nf,d⟩;intro q;rw[q,hoc] at e;have q':oc=p.2:=Option.some.inj e;exact d w' (by rw[<-q'];exact hocd)
theorem wj{M:Model}{A:Around}{E:WG}{i:Nat}{x:Str}{v:V}{u:Value}{Q:Unit->Shared->Prop}(I:Inv X pins σ H s)(hN:X.N.Nodup)(hi:X.N[i]? =some x)(hx:Loc X.env.scope x)(r:RelV v u)
 (h:∀s',Inv X pins (σ.set i (some v)) H s'->Q () s') (hf:X.fn x=true\/X.env.scope.names.lookup x=some .local:=by first | exact .inl rfl | exact .inr rfl | assumption):wpAny M A (storeName X.env x u) Q E s:=
 sC I hN hi hx r (fun s' I' _=>h s' I') hf
theorem Inv.Kz{s':Shared}{ch:List Addr}(I:Inv X pins σ H s)(ho:s'.os=s.os)(u:Un (pO X.stack) ch H H' s.heap s'.heap)(hok:mh X.prog X.w H' s'.heap)(hg:AllBare s'.gens)
 (D2:∀b∈ch,(b∈X.ex\/X.s₀.heap.objs.size<=b)/\b≠X.env.locals/\(∀x c,X.env.cells.lookup x=some c->c≠b)/\∀p∈X.pn++pins,p.1≠b):Inv X pins σ H' s':=by
 obtain⟨h',g',d',t',o'⟩:=s';have e:o'=s.os:=ho;subst e;exact I.call (g':=g') (t':=t') (d':=d') u hok hg D2
end
abbrev XK:=Value->Option Addr->Hp->Prop
abbrev St:=List (Option V)
abbrev VK:=V->Hp->Prop
abbrev TE:=St->Hp->VK->Prop
abbrev TT:=St->Hp->(Bool->Hp->Prop)->Prop
abbrev TA:=St->Hp->(List V->Hp->Prop)->Prop
structure Ends where
 nx:St->Hp->Prop
 rt:VK
 bk:St->Hp->Prop:=fun _ _=>False
 ct:St->Hp->Prop:=fun _ _=>False
abbrev TS:=Ends->St->Hp->Prop
def EP(X:Cx)(pins:WD)(σ:St)(Q:VK)(u:Value)(s':Shared):Prop:=∃v H',Inv X pins σ H' s'/\RelV v u/\Q v H'
def TP(X:Cx)(pins:WD)(σ:St)(Q:Bool->Hp->Prop)(b:Bool)(s':Shared):Prop:=∃H',Inv X pins σ H' s'/\Q b H'
def AP(X:Cx)(pins:WD)(σ:St)(Q:List V->Hp->Prop)(us:List Value)(s':Shared):Prop:=∃vs H',Inv X pins σ H' s'/\Vals vs us/\Q vs H'
def SP(X:Cx)(pins:WD)(D:Ends)(f:Flow)(s':Shared):Prop:=
 match f with
 | .next=>∃cG H',Inv X pins cG H' s'/\D.nx cG H'
 | .brk=>∃cG H',Inv X pins cG H' s'/\D.bk cG H'
 | .cont=>∃cG H',Inv X pins cG H' s'/\D.ct cG H'
 | .ret u=>∃v cG H',Inv X pins cG H' s'/\RelV v u/\D.rt v H'
def PE(X:Cx)(e:Expr)(t:TE):Prop:=
 ∀(pins:WD) (s:Shared) (σ:St) (H:Hp) (Q:VK),Inv X pins σ H s->t σ H Q->wpAny (model X.prog X.w) X.A (eval e X.env) (EP X pins σ Q) X.xe s
def PT(X:Cx)(e:Expr)(t:TT):Prop:=
 ∀(pins:WD) (s:Shared) (σ:St) (H:Hp) (Q:Bool->Hp->Prop),Inv X pins σ H s->t σ H Q->wpAny (model X.prog X.w) X.A (isTrue e X.env (eval e X.env)) (TP X pins σ Q) X.xe s
def PW(X:Cx)(e:Expr)(t:TT):Prop:=
 ∀(whole:Sem Value) (pins:WD) (s:Shared) (σ:St) (H:Hp) (Q:Bool->Hp->Prop),Inv X pins σ H s->t σ H Q->wpAny (model X.prog X.w) X.A (isTrue e X.env whole) (TP X pins σ Q) X.xe s
theorem PW.pt{X:Cx}{t:TT}(h:PW X e t):PT X e t:=h _
def PA(X:Cx)(es:List Expr)(t:TA):Prop:=
 ∀(pos:Pos) (pins:WD) (s:Shared) (σ:St) (H:Hp) (Q:List V->Hp->Prop),Inv X pins σ H s->t σ H Q->wpAny (model X.prog X.w) X.A (spliced (backTo pos (starEach es X.env))) (AP X pins σ Q) X.xe s
def PS(X:Cx)(st:Stmt)(t:TS):Prop:=
 ∀(pins:WD) (s:Shared) (σ:St) (H:Hp) (D:Ends),Inv X pins σ H s->t D σ H->wpAny (model X.prog X.w) X.A (exec st X.env) (SP X pins D) X.xe s
def uo(X:Cx)(st:List Stmt)(t:TS):Prop:=
 ∀(pins:WD) (s:Shared) (σ:St) (H:Hp) (D:Ends),Inv X pins σ H s->t D σ H->wpAny (model X.prog X.w) X.A (execs st X.env) (SP X pins D) X.xe s
theorem cO{α:Type}{t:Sem α}{Q Q':α->Shared->Prop}{M:Model}{E:WG}{s:Shared}(h:wpAny M A t Q E s)(hQ:∀a s,Q a s->Q' a s):wpAny M A t Q' E s:=wpAny_mono h hQ fun _ _ x=>x
section
variable {X:Cx}
def NY(i:Nat):TE:=fun σ H Q=>∃v,σ[i]? =some (some v)/\Q v H
def tC(v:V):TE:=fun _ H Q=>Q v H
theorem t8{i:Nat}{pos:Pos}(hN:X.N[i]? =some x)(hv:G7 X.env.scope x)(hd:(x==("__debug__":Str))=false:=by decide)(rK:(x==("__classdict__":Str))=false:=by decide):PE X (.Name x pos) (NY i):=by
 intro pins s σ H Q I h;obtain⟨v,e,h⟩:=h;obtain⟨m,hn,hl⟩:=I.loc;obtain⟨u,r,l⟩:=hl i x v hN e hv;have fin:EP X pins σ Q u s:=⟨v,H,I,r,h⟩;rcases l with⟨hk,hm⟩ | ⟨hk,c,hc,hcell⟩
 .exact wpAny_Name (wpAny_loadName_local I.ok.kind hk hn hm fin) hd
 .rcases hk with hk | hk
  .exact wpAny_Name (wpAny_loadName_cell I.ok.kind hk hc hcell fin) hd
  .exact wpAny_Name (wpAny_loadName_free I.ok.kind hk hc hcell fin rK) hd
theorem qV{i j pos}:PE X (.Constant (.int i) j pos) (tC (.int i)):=fun _ _ _ H _ I h=>wpAny_Constant_int ⟨.int i,H,I.tok _,⟨_,rfl⟩,h⟩
theorem Lo{b j pos}:PE X (.Constant (.bool b) j pos) (tC (.bl b)):=fun _ _ _ H _ I h=>Constant_bool ⟨.bl b,H,I,rfl,h⟩
theorem qA{x j pos}:PE X (.Constant (.str x) j pos) (tC (.str x)):=fun _ _ _ H _ I h=>Calls.Constant_str ⟨.str x,H,I.tok _,⟨_,rfl⟩,h⟩
def Gl(X:Cx)(x:Str):Prop:=X.env.kindOf x=some .globalImplicit
theorem pV{E:WG}{pins:WD}{s:Shared}{σ:St}{H:Hp}{x:Str}{u:Value}{pos:Pos}{Q:WG}(I:Inv X pins σ H s)(hg:Gl X x)(hm:X.mg x=some u)(h:Q u s)
 (hd:(x==("__debug__":Str))=false:=by decide):wpAny (model X.prog X.w) X.A (eval (.Name x pos) X.env) Q E s:=
 Calls.Name_function_global I.ok.kind hg (Calls.loadGlobal_global (by rw[I.ok.glob];exact I.mod.glob.keeps I.bk) hm h) hd
theorem qZ{E:WG}{pins:WD}{s:Shared}{σ:St}{H:Hp}{x:Str}{u:Value}{pos:Pos}{Q:WG}(I:Inv X pins σ H s)(hg:Gl X x)(hm:X.mg x=none)(hv:bootBuiltins x=some u)(h:Q u s)
 (hn:x≠"__name__":=by decide) (hd:(x==("__debug__":Str))=false:=by decide):wpAny (model X.prog X.w) X.A (eval (.Name x pos) X.env) Q E s:=by
 obtain⟨mb,h1,h2⟩:=I.mod.blt;exact Calls.Name_function_global I.ok.kind hg (Calls.loadGlobal_builtin (by rw[I.ok.glob];exact I.mod.glob.keeps I.bk) hm (by rw[I.ok.blt];exact h1.keeps I.bk) ((h2 x hn).trans hv) h) hd
theorem yq{v:V}{u:Value}{pos:Pos}(hg:Gl X x)(hm:X.mg x=some u)(r:RelV v u)(hd:(x==("__debug__":Str))=false:=by decide):PE X (.Name x pos) (tC v):=
 fun _ _ _ H _ I h=>pV I hg hm ⟨v,H,I,r,h⟩ hd
theorem uF{v:V}{u:Value}{pos:Pos}(hg:Gl X x)(hm:X.mg x=none)(hv:bootBuiltins x=some u)(r:RelV v u)(hn:x≠"__name__":=by decide)(hd:(x==("__debug__":Str))=false:=by decide):PE X (.Name x pos) (tC v):=
 fun _ _ _ H _ I h=>qZ I hg hm hv ⟨v,H,I,r,h⟩ hn hd
def MM(ta tb:TE)(k:Int->Int->Hp->Prop):St->Hp->Prop:=fun σ H=>ta σ H fun x H1=>tb σ H1 fun y H2=>∃i j,x= .int i/\y= .int j/\k i j H2
def R9(ta tb:TE):TE:=fun σ H Q=>MM ta tb (fun i j H2=>Q (.int (i+j)) H2) σ H
def Ss(ta tb:TE):TE:=fun σ H Q=>MM ta tb (fun i j H2=>Q (.int (i - j)) H2) σ H
def Sg(ta tb:TE):TE:=fun σ H Q=>MM ta tb (fun i j H2=>(-(2 ^ 64) < i/\i < 2 ^ 64)/\Q (.int (i*j)) H2) σ H
variable {a b:Expr} {ta tb:TE} {pos:Pos}
def PC(X:Cx)(op:CmpOp)(a b:Expr)(t:TE):Prop:=
 ∀(pins:WD) (s:Shared) (σ:St) (H:Hp) (Q:VK),Inv X pins σ H s->t σ H Q->
  wpAny (model X.prog X.w) X.A (eval a X.env) (fun v s₁=>wpAny (model X.prog X.w) X.A (eval b X.env) (fun u wK=>wpAny (model X.prog X.w) X.A (compareOp op v u) (EP X pins σ Q) X.xe wK) X.xe s₁) X.xe s
def Ab(p:Int->Int->Bool)(ta tb:TE):TE:=fun σ H Q=>MM ta tb (fun i j H2=>Q (.bl (p i j)) H2) σ H
abbrev VN:TE->TE->TE:=Ab fun i j=>decide (i < j)
abbrev V8:TE->TE->TE:=Ab fun i j=>decide (i<=j)
abbrev We:TE->TE->TE:=Ab fun i j=>decide (j < i)
abbrev V4:TE->TE->TE:=Ab fun i j=>decide (j<=i)
abbrev SI:TE->TE->TE:=Ab fun i j=>decide (i=j)
abbrev SM:TE->TE->TE:=Ab fun i j=>!decide (i=j)
def Se(ta:TE):TE:=fun σ H Q=>ta σ H fun x H1=>Q (.bl (decide (x= .cz))) H1
def RA(ta:TE):TE:=fun σ H Q=>ta σ H fun x H1=>Q (.bl (!decide (x= .cz))) H1
def tB(t:TE):TT:=fun σ H Q=>t σ H fun x H1=>∃c,x= .bl c/\Q c H1
theorem IH{op:CmpOp}{t:TE}(h:PC X op a b t)(h1:behindInMarks op b=false:=by first | exact nobehind _ (by decide) (by decide) | rfl):PE X (.Compare a [op] [b] pos) t:=fun pins s σ H Q I hw=>wpAny_Compare1 (h pins s σ H Q I hw) h1
theorem xi{op:CmpOp}{t:TE}(h:PC X op a b t)(h1:behindInMarks op b=false:=by first | exact nobehind _ (by decide) (by decide) | rfl):PT X (.Compare a [op] [b] pos) (tB t):=by
 intro pins s σ H Q I hw;refine wpAny_isTrue_Compare1 (cO (h pins s σ H _ I hw) fun v s1 h1=>cO h1 fun u s2 h2=>cO h2 fun c s3 ⟨x,H1,I1,r1,q1⟩=>?_) h1
 obtain⟨d,rfl,q⟩:=q1;cases r1;exact wpAny_truthy_bool ⟨H1,I1,q⟩
variable {tA M0:TT} {rest:List Expr}
def Na(t u:TT):TT:=fun σ H Q=>t σ H fun c H1=>if c=true then u σ H1 Q else Q false H1
def Ti(t u:TT):TT:=fun σ H Q=>t σ H fun c H1=>if c=true then Q true H1 else u σ H1 Q
def N1(t:TT):TT:=fun σ H Q=>t σ H fun c H1=>Q (!c) H1
theorem F_(ha:PT X a tA):PW X (.BoolOp .And [a] pos) tA:=by
 intro wh pins s σ H Q I h;refine isTrue_and (cO (ha pins s σ H Q I h) fun c s1 e=>?_)
 cases c with
 | true=>exact isTrue_and_nil e
 | false=>exact e
theorem AX(ha:PT X a tA):PW X (.BoolOp .Or [a] pos) tA:=by
 intro wh pins s σ H Q I h;refine isTrue_or (cO (ha pins s σ H Q I h) fun c s1 e=>?_)
 cases c with
 | false=>exact isTrue_or_nil e
 | true=>exact e
theorem Jk(ha:PT X a tA)(hb:PW X (.BoolOp .And (b ::rest) pos) M0):PW X (.BoolOp .And (a ::b ::rest) pos) (Na tA M0):=by
 intro wh pins s σ H Q I h;refine isTrue_and (cO (ha pins s σ H _ I h) fun c s1 ⟨H1,I1,q1⟩=>?_)
 cases c with
 | true=>exact hb wh pins s1 σ H1 Q I1 q1
 | false=>exact⟨H1,I1,q1⟩
theorem G6(ha:PT X a tA)(hb:PW X (.BoolOp .Or (b ::rest) pos) M0):PW X (.BoolOp .Or (a ::b ::rest) pos) (Ti tA M0):=by
 intro wh pins s σ H Q I h;refine isTrue_or (cO (ha pins s σ H _ I h) fun c s1 ⟨H1,I1,q1⟩=>?_)
 cases c with
 | true=>exact⟨H1,I1,q1⟩
 | false=>exact hb wh pins s1 σ H1 Q I1 q1
theorem Dy(ha:PT X a tA):PT X (.UnaryOp .Not a pos) (N1 tA):=by
 intro pins s σ H Q I h;exact isTrue_not (ha pins s σ H (fun c H1=>Q (!c) H1) I h)
def Li(ta tb:TE):TE:=fun σ H Q=>ta σ H fun x H1=>∃c,x= .bl c/\if c=true then tb σ H1 Q else Q (.bl false) H1
def NF(ta tb:TE):TE:=fun σ H Q=>ta σ H fun x H1=>∃c,x= .bl c/\if c=true then Q (.bl true) H1 else tb σ H1 Q
def Q6(ta:TE):TE:=fun σ H Q=>ta σ H fun x H1=>∃c,x= .bl c/\Q (.bl (!c)) H1
theorem HD{op}{t:TE}(h:PE X a t):PE X (.BoolOp op [a] pos) t:=fun pins s σ H Q I hw=>BoolOp_one (h pins s σ H Q I hw)
theorem HK(ha:PE X a ta)(hb:PE X (.BoolOp .And (b ::rest) pos) tb):PE X (.BoolOp .And (a ::b ::rest) pos) (Li ta tb):=by
 intro pins s σ H Q I h;refine BoolOp_and (cO (ha pins s σ H _ I h) fun v s1 ⟨x,H1,I1,r1,q1⟩=>?_)
 obtain⟨c,rfl,q1⟩:=q1;cases r1;refine wpAny_truthy_bool ?_;cases c with
 | true=>exact hb pins s1 σ H1 Q I1 q1
 | false=>exact⟨.bl false,H1,I1,rfl,q1⟩
theorem Ls(ha:PE X a ta)(hb:PE X (.BoolOp .Or (b ::rest) pos) tb):PE X (.BoolOp .Or (a ::b ::rest) pos) (NF ta tb):=by
 intro pins s σ H Q I h;refine BoolOp_or (cO (ha pins s σ H _ I h) fun v s1 ⟨x,H1,I1,r1,q1⟩=>?_)
 obtain⟨c,rfl,q1⟩:=q1;cases r1;refine wpAny_truthy_bool ?_;cases c with
 | false=>exact hb pins s1 σ H1 Q I1 q1
 | true=>exact⟨.bl true,H1,I1,rfl,q1⟩
def VM(t:TT)(ta tb:TE):TE:=fun σ H Q=>t σ H fun c H1=>if c=true then ta σ H1 Q else tb σ H1 Q
end
def lr(K:W.Frag)(H:Hp)(a:Addr)(xs:List V):Prop:=
 Rd H a (.lst xs)\/
  ∃(o:Obj) (its:Array Value) (n:Nat),K.lookup a=some o/\o.cls= .type "list"/\o.dict=none/\o.data= .seq its n/\its.size<=sizeLine/\Vals xs its.toList
def oU(K:W.Frag)(H:Hp)(a:Addr)(xs:List V):Prop:=
 Rd H a (.tup xs)\/
  ∃(o:Obj) (its:Array Value) (n:Nat),K.lookup a=some o/\o.cls= .type "tuple"/\o.data= .seq its n/\its.size<=sizeLine/\Vals xs its.toList
def M5:Value->Option V
 | .none=>some .cz
 | .bool b=>some (.bl b)
 | .int i _=>some (.int i)
 | .str x _=>some (.str x)
 | .bytes b _=>some (.byt b)
 | .float b _=>some (.flt b)
 | .ref a=>some (.ref a)
 | .type n=>some (.ty n)
 | _=>none
theorem RelV.abs{x:V}{u:Value}(r:RelV x u):M5 u=some x:=by
 cases x with
 | cz=>cases r;rfl
 | bl _=>cases r;rfl
 | int _=>obtain⟨t,rfl⟩:=r;rfl
 | str _=>obtain⟨t,rfl⟩:=r;rfl
 | byt _=>obtain⟨t,rfl⟩:=r;rfl
 | flt _=>obtain⟨t,rfl⟩:=r;rfl
 | ref _=>cases r;rfl
 | ty _=>cases r;rfl
theorem RelV.inj{x y:V}{u:Value}(r:RelV x u)(q:RelV y u):x=y:=Option.some.inj (r.abs.symm.trans q.abs)
theorem Vals.inj:∀{xs ys:List V} {us:List Value},Vals xs us->Vals ys us->xs=ys
 | _,_,_, .nil, .nil=>rfl
 | _,_,_, .cons r t, .cons r' t'=>by rw[r.inj r',Vals.inj t t']
section
variable {X:Cx} {pins:WD} {σ:St} {H:Hp} {s:Shared} {a:Addr} {xs ys:List V}
theorem lr.of{K:W.Frag}(h:H a=some (.lst xs)):lr K H a xs:= .inl (.inl h)
theorem Inv.list(I:Inv X pins σ H s)(h:lr X.K H a xs):∃its:List Value,Vals xs its/\PlainL s.heap a its.toArray/\xs.length<=sizeLine:=by
 rcases h with h | ⟨o,its,n,hk,hc,hd,hs,hz,r⟩
 .obtain⟨z,its,n,r,e⟩:=h.ok I.hok;exact⟨its,r,⟨_,n,e,rfl,rfl,rfl⟩,z⟩
 .refine⟨its.toList,r,⟨o,n,I.mS a o hk,hc,hd,by simpa using hs⟩,?_⟩
  have e:=r.length;simp only[Array.length_toList] at e;omega
theorem Inv.tuple(I:Inv X pins σ H s)(h:oU X.K H a xs):∃its:List Value,Vals xs its/\IsTup s.heap a its.toArray/\xs.length<=sizeLine:=by
 rcases h with h | ⟨o,its,n,hk,hc,hs,hz,r⟩
 .obtain⟨z,its,r,p⟩:=h.ok I.hok;exact⟨its,r,p,z⟩
 .refine⟨its.toList,r,⟨o,I.mS a o hk,hc,n,by simpa using hs⟩,?_⟩
  have e:=r.length;simp only[Array.length_toList] at e;omega
theorem Inv.vf(I:Inv X pins σ H s)(h:lr X.K H a xs)(h':lr X.K H a ys):xs=ys:=by
 obtain⟨its,r,⟨o,n,e,_,_,d⟩,_⟩:=I.list h;obtain⟨its',r',⟨o',n',e',_,_,d'⟩,_⟩:=I.list h';rw[e] at e';cases e';rw[d] at d';injection d' with d1 _
 have:its=its':=by simpa using congrArg Array.toList d1
 subst this;exact r.inj r'
theorem Inv.An(I:Inv X pins σ H s)(h:oU X.K H a xs)(h':oU X.K H a ys):xs=ys:=by
 obtain⟨its,r,⟨o,e,_,n,d⟩,_⟩:=I.tuple h;obtain⟨its',r',⟨o',e',_,n',d'⟩,_⟩:=I.tuple h';rw[e] at e';cases e';rw[d] at d';injection d' with d1 _
 have:its=its':=by simpa using congrArg Array.toList d1
 subst this;exact r.inj r'
end
abbrev Cx.rV(X:Cx)(E:WG):Cx:={X with xe:=E}
abbrev Cx.F1(X:Cx):Cx:=X.rV fun _ _=>False
theorem Cx.Ok.rV{X:Cx}(ok:X.Ok)(E:WG):(X.rV E).Ok:=
 ⟨ok.mod,ok.kind,ok.glob,ok.blt,ok.above,ok.inj,ok.has,ok.cab,ok.hd,ok.frames,ok.stk,ok.exf,ok.bs,ok.bsz,ok.noex,ok.exfs,ok.oF,ok.frf⟩
theorem Cx.Ok.ll{X:Cx}{E:WG}(ok:(X.rV E).Ok):X.Ok:=
 ⟨ok.mod,ok.kind,ok.glob,ok.blt,ok.above,ok.inj,ok.has,ok.cab,ok.hd,ok.frames,ok.stk,ok.exf,ok.bs,ok.bsz,ok.noex,ok.exfs,ok.oF,ok.frf⟩
section
variable {X:Cx} {pins:WD} {σ:St} {H:Hp} {s:Shared} {E:WG}
theorem Inv.rV(I:Inv X pins σ H s)(E:WG):Inv (X.rV E) pins σ H s:=⟨I.ok.rV E,I.os,I.bare,I.base,I.loc,I.cell,I.free,I.freeC,I.pin,I.hok,I.len⟩
theorem Inv.ll(I:Inv (X.rV E) pins σ H s):Inv X pins σ H s:=⟨I.ok.ll,I.os,I.bare,I.base,I.loc,I.cell,I.free,I.freeC,I.pin,I.hok,I.len⟩
theorem SP.ll{D:Ends}{f:Flow}{s':Shared}(h:SP (X.rV E) pins D f s'):SP X pins D f s':=by
 cases f with
 | next=>obtain⟨cG,H',I,q⟩:=h;exact⟨cG,H',I.ll,q⟩
 | brk=>obtain⟨cG,H',I,q⟩:=h;exact⟨cG,H',I.ll,q⟩
 | cont=>obtain⟨cG,H',I,q⟩:=h;exact⟨cG,H',I.ll,q⟩
 | ret u=>obtain⟨v,cG,H',I,r,q⟩:=h;exact⟨v,cG,H',I.ll,r,q⟩
theorem uo.F1{st:List Stmt}{t:TS}(h:uo X.F1 st t):uo X st t:=fun pins s σ H D I hw=>
 wpAny_mono (h pins s σ H D (I.rV _) hw) (fun _ _ q=>q.ll) fun _ _ z=>False.elim z
end
section
variable {X:Cx} {st:Stmt} {rest:List Stmt} {t u:TS} {e:Expr} {te:TE} {pos:Pos}
def L9:TS:=fun D σ H=>D.nx σ H
def Lg(t u:TS):TS:=fun D σ H=>t {D with nx:=u D} σ H
theorem uh:uo X [] L9:=fun _ _ σ H _ I h=>wpAny_execs_nil ⟨σ,H,I,h⟩
theorem ql(h1:PS X st t)(h2:uo X rest u):uo X (st ::rest) (Lg t u):=by
 intro pins s σ H D I h;refine wpAny_execs_cons (cO (h1 pins s σ H {D with nx:=u D} I h) fun f s1 q=>?_)
 cases f with
 | next=>
   obtain⟨cG,H',I',q⟩:=q;exact h2 pins s1 cG H' D I' q
 | ret v=>exact q
 | brk=>exact q
 | cont=>exact q
theorem ui(h1:PS X st t):uo X [st] t:=by
 intro pins s σ H D I h;refine wpAny_execs_cons (cO (h1 pins s σ H D I h) fun f s1 q=>?_)
 cases f with
 | next=>exact wpAny_execs_nil q
 | ret v=>exact q
 | brk=>exact q
 | cont=>exact q
def N4:TS:=fun D σ H=>D.bk σ H
def Ra:TS:=fun D σ H=>D.ct σ H
theorem Inv.quiet{pins:WD}{s:Shared}(I:Inv X pins σ H s):interactive X.env=false:=by simp [interactive,I.ok.kind]
def KO(te:TE):TS:=fun D σ H=>te σ H fun _ H1=>D.nx σ H1
theorem nJ(he:PE X e te)(hs:swapsWith e none pos.line X.env=pure false:=by rfl):PS X (.Expr e pos) (KO te):=by
 intro pins s σ H D I h;exact wpAny_Expr_any (cO (he pins s σ H _ I h) fun v s1 ⟨x,H1,I1,r1,q1⟩=>⟨σ,H1,I1,q1⟩) I.quiet hs
def NN(te:TE):TS:=fun D σ H=>te σ H D.rt
theorem AS(he:PE X e te):PS X (.Return (some e) pos) (NN te):=by
 intro pins s σ H D I h;exact wpAny_Return_some (cO (he pins s σ H _ I h) fun v s1 ⟨x,H1,I1,r1,q1⟩=>⟨x,σ,H1,I1,r1,q1⟩)
def Q3:TS:=fun D _ H=>D.rt .cz H
def L5(c:TT)(t u:TS):TS:=fun D σ H=>c σ H fun b H1=>if b=true then t D σ H1 else u D σ H1
theorem Cg{tc:TT}(hc:PT X c tc)(ha:uo X a t)(hb:uo X b u):PS X (.If c a b pos) (L5 tc t u):=by
 intro pins s σ H D I h;refine wpAny_If (cO (hc pins s σ H _ I h) fun d s1 ⟨H1,I1,q1⟩=>?_)
 cases d with
 | true=>exact ha pins s1 σ H1 D I1 q1
 | false=>exact hb pins s1 σ H1 D I1 q1
def N0:TS:=fun _ _ _=>False
end
abbrev TG:=V->St->Hp->(St->Hp->Prop)->Prop
abbrev Ba:=List V->St->Hp->(St->Hp->Prop)->Prop
def PG(X:Cx)(target:Expr)(t:TG):Prop:=
 ∀(pins:WD) (s:Shared) (σ:St) (H:Hp) (v:V) (u:Value) (Q:St->Hp->Prop),Inv X pins σ H s->RelV v u->t v σ H Q->
  wpAny (model X.prog X.w) X.A (assign target X.env u) (fun _ s'=>∃cG H',Inv X pins cG H' s'/\Q cG H') X.xe s
def Ea(X:Cx)(ts:List Expr)(t:Ba):Prop:=
 ∀(pins:WD) (s:Shared) (σ:St) (H:Hp) (vs:List V) (us:List Value) (Q:St->Hp->Prop),Inv X pins σ H s->Vals vs us->t vs σ H Q->
  wpAny (model X.prog X.w) X.A (assignInOrder ((assignEach ts X.env).map (·.2)) us) (fun _ s'=>∃cG H',Inv X pins cG H' s'/\Q cG H') X.xe s
abbrev JF:=V->V->V->Hp->(Hp->Prop)->Prop
def Te(X:Cx)(t:JF):Prop:=
 ∀(pins:WD) (s:Shared) (σ:St) (H:Hp) (o i v:V) (ov iv u:Value) (Q:Hp->Prop),Inv X pins σ H s->RelV o ov->RelV i iv->RelV v u->t o i v H Q->
  wpAny (model X.prog X.w) X.A (setItem ov iv u) (fun _ s'=>∃H',Inv X pins σ H' s'/\Q H') X.xe s
abbrev MH:=V->V->Hp->VK->Prop
def V1(X:Cx)(op:Operator)(t:MH):Prop:=
 ∀(pins:WD) (s:Shared) (σ:St) (H:Hp) (x y:V) (v u:Value) (Q:VK),Inv X pins σ H s->RelV x v->RelV y u->t x y H Q->
  wpAny (model X.prog X.w) X.A (inplaceOp op v u) (EP X pins σ Q) X.xe s
section
variable {X:Cx} {pos:Pos}
def qB(i:Nat):TG:=fun v σ H Q=>Q (σ.set i (some v)) H
theorem zA{i:Nat}(hN:X.N.Nodup)(hi:X.N[i]? =some x)(hx:Loc X.env.scope x)(hf:X.fn x=true\/X.env.scope.names.lookup x=some .local:=by first | exact .inl rfl | exact .inr rfl | assumption):PG X (.Name x pos) (qB i):=by
 intro pins s σ H v u Q I r h;exact wpAny_assign_Name (wj I hN hi hx r (fun s' I'=>⟨_,H,I',h⟩) hf)
def Oi:Ba:=fun vs σ H Q=>vs=[]/\Q σ H
def LI(t:TG)(u:Ba):Ba:=fun vs σ H Q=>∃v r,vs=v ::r/\t v σ H fun cG H'=>u r cG H' Q
theorem E4:Ea X [] Oi:=by
 intro pins s σ H vs us Q I r h;obtain⟨e,h⟩:=h;subst e;cases r;exact assignInOrder_nil ⟨σ,H,I,h⟩
theorem B8{e:Expr}{es:List Expr}{t:TG}{u:Ba}(h1:PG X e t)(h2:Ea X es u)
 (hs:(assignEach (e ::es) X.env).map (·.2)=assign e X.env ::(assignEach es X.env).map (·.2):=by rfl):Ea X (e ::es) (LI t u):=by
 intro pins s σ H vs us Q I r h;obtain⟨v,vr,e1,h⟩:=h;subst e1;cases r with
 | cons r rr=>
   rw[hs];refine assignInOrder_cons (cO (h1 pins s σ H _ _ _ I r h) fun _ s1 ⟨Kq,H1,I1,q1⟩=>?_)
   exact h2 pins s1 Kq H1 _ _ Q I1 rr q1
def NX(K:W.Frag)(n:Nat)(t:Ba):TG:=fun v σ H Q=>∃a xs,v= .ref a/\oU K H a xs/\xs.length=n/\t xs σ H Q
theorem HP{es:List Expr}{k:Nat}{t:Ba}{n:Nat}(hc:X.calm=true)(h:Ea X es t)
 (hn:(assignEach es X.env).length=n:=by rfl) (DL:(assignEach es X.env).findIdx? (·.1)=none:=by rfl):PG X (.Tuple es k pos) (NX X.K n t):=by
 intro pins s σ H v u Q I r hw;obtain⟨a,xs,e1,hq,hl,hw⟩:=hw;subst e1;cases r;obtain⟨its,rv,ht,hz⟩:=I.tuple hq;refine assign_Tuple_tuple (I.ok.hd hc) ht (by simp [hn,<-hl,rv.length]) DL fun h' hx=>?_
 have I1:Inv X pins σ H {s with heap:=h'}:=I.kept (t':=s.toks) fun b o e=>hx b o (Nat.ne_of_lt (Heap.lt_size e)) e
 exact h pins _ σ H xs _ Q I1 (by simpa using rv) hw
def TK(to ti:TE)(t:JF):TG:=fun v σ H Q=>to σ H fun o H1=>ti σ H1 fun i H2=>t o i v H2 fun H3=>Q σ H3
def Ak(te:TE)(g:TG):TS:=fun D σ H=>te σ H fun x H1=>g x σ H1 D.nx
theorem HA{tg e:Expr}{te:TE}{g:TG}(he:PE X e te)(hg:PG X tg g)(hs:swapsWithSole [tg] e pos.line X.env=pure false:=by rfl)(hw:swappedStores [tg] e X.env=pure none:=by rfl)
 (h1:(assignEach [tg] X.env).map (·.2)=[assign tg X.env]:=by rfl):PS X (.Assign [tg] e pos) (Ak te g):=by
 intro pins s σ H D I h;refine wpAny_Assign_stores (cO (he pins s σ H _ I h) fun v s1 ⟨x,H1,I1,r1,q1⟩=>?_) hs hw
 rw[h1];exact cO (hg pins s1 σ H1 x v _ I1 r1 q1) fun _ s2 q=>q
theorem yi{i:Nat}{te:TE}(hN:X.N.Nodup)(hi:X.N[i]? =some x)(hx:Loc X.env.scope x)(he:PE X e te)(hs:swapsWith e (some (.Name x pos')) pos.line X.env=pure false:=by rfl)(hf:X.fn x=true\/X.env.scope.names.lookup x=some .local:=by first | exact .inl rfl | exact .inr rfl | assumption) :
 PS X (.Assign [.Name x pos'] e pos) (Ak te (qB i)):=by
 intro pins s σ H D I h;refine wpAny_Assign_Name (cO (he pins s σ H _ I h) fun v s1 ⟨y,H1,I1,r1,q1⟩=>?_) hs
 exact wj I1 hN hi hx r1 (fun s2 I2=>⟨_,H1,I2,q1⟩) hf
def Tr(i j:Nat)(ta:TA):TS:=fun D σ H=>ta σ H fun vs H1=>∃v w,vs=[v,w]/\D.nx ((σ.set i (some v)).set j (some w)) H1
def SU(i:Nat)(te:TE)(ti:MH):TS:=fun D σ H=>∃x,σ[i]? =some (some x)/\te σ H fun y H1=>ti x y H1 fun z H2=>D.nx (σ.set i (some z)) H2
def Ri(to ti te:TE)(OY:V->V->Hp->VK->Prop)(Vq:MH)(OC:JF):TS:=fun D σ H=>to σ H fun o H1=>ti σ H1 fun i H2=>OY o i H2 fun x H3=>te σ H3 fun y H4=>Vq x y H4 fun z H5=>OC o i z H5 fun H6=>D.nx σ H6
def Ug(X:Cx)(t:V->V->Hp->VK->Prop):Prop:=
 ∀(pins:WD) (s:Shared) (σ:St) (H:Hp) (o i:V) (ov iv:Value) (Q:VK),Inv X pins σ H s->RelV o ov->RelV i iv->t o i H Q->
  wpAny (model X.prog X.w) X.A (getItem ov iv) (EP X pins σ Q) X.xe s
def VZ(f:Int->Int->Int):MH:=fun x y H Q=>∃i j,x= .int i/\y= .int j/\Q (.int (f i j)) H
end
section
variable {X:Cx} {pos:Pos}
def NG(c:TT)(tb:TS):TS:=fun D σ H=>∃W:Nat->St->Hp->Prop,(∃m,W m σ H)/\∀m σ H,W m σ H->
 c σ H fun b H1=>if b=true then ∃N:St->Hp->Prop,(∀cG H',N cG H'->∃m',m' < m/\W m' cG H')/\tb {D with nx:=N,ct:=N,bk:=D.nx} σ H1 else D.nx σ H1
end
structure It where
 go:Nat->Hp->Prop
 yld:Nat->Hp->V->Hp->Prop
 stop:Nat->Hp->Prop
def pK(X:Cx)(pins:WD)(H:Hp)(b:Addr):Prop:=
 H b=none/\b≠X.env.locals/\b ∉ X.fs/\(b∈X.ex\/X.s₀.heap.objs.size<=b)/\(∀x c,X.env.cells.lookup x=some c->c≠b)/\∀p∈X.pn++pins,p.1≠b
theorem Inv.vJ{X:Cx}{pins:WD}{H H':Hp}{s:Shared}{b:Addr}(I:Inv X pins σ H s)(hb:s.heap.objs.size<=b)(hn:H' b=none):pK X pins H' b:=by
 refine⟨hn,Nat.ne_of_gt (Nat.lt_of_lt_of_le I.lt hb),I.Nv hb, .inr (Nat.le_trans I.sz hb),fun x c e z=>?_,fun p hp z=>?_⟩
 .obtain⟨v,q⟩:=I.cell x c e;exact absurd (Nat.lt_of_lt_of_le q.lt (by rw[z];exact hb)) (Nat.lt_irrefl _)
 .exact absurd (Nat.lt_of_lt_of_le (Heap.lt_size (I.pin p hp).1) (by rw[z];exact hb)) (Nat.lt_irrefl _)
structure Turn (P:Program) (w:World) (K:W.Frag) (tg:Expr) (J:It) (fp:List Addr) (it:Addr) (tn:Nat->Heap->Prop):Prop where
 mem:it∈fp
 obj:∀i h,tn i h->∀b∈fp,∃o,h.get? b=some o/\∀v,o.data≠ .cell v
 keep:∀i h h',tn i h->(∀b∈fp,∀o,h.get? b=some o->h'.get? b=some o)->tn i h'
 item:∀(X:Cx),X.prog=P->X.w=w->X.K=K->X.calm=true->∀(i:Nat) (pins:WD) (s:Shared) (σ:St) (H:Hp) (E:WG),Inv X pins σ H s->(∀b∈fp,pK X pins H b)->tn i s.heap->J.go i H->
  wpAny (model P w) X.A (pyNext (.ref it)) (fun r s1=>∃u,r=some u/\
   wpAny (model P w) X.A (letOwnedTupleGo tg (.ref it) u) (fun _ s2=>∃x H',Inv X pins σ H' s2/\RelV x u/\J.yld i H x H'/\tn (i+1) s2.heap/\∀b∈fp,H' b=none) E s1) E s
 done:∀(X:Cx),X.prog=P->X.w=w->X.K=K->X.calm=true->∀(i:Nat) (pins:WD) (s:Shared) (σ:St) (H:Hp) (E:WG),Inv X pins σ H s->(∀b∈fp,pK X pins H b)->tn i s.heap->J.stop i H->
  wpAny (model P w) X.A (pyNext (.ref it)) (fun r s1=>r=none/\Inv X pins σ H s1) E s
 self:∀(A:Around) (i:Nat) (s:Shared) (Q:WG) (E:WG),tn i s.heap->Q (.ref it) s->wpAny (model P w) A (pyIter (.ref it)) Q E s
abbrev TI:=St->Hp->(It->Hp->Prop)->Prop
def QM(X:Cx)(pins:WD)(σ:St)(tg:Expr)(R:It->Hp->Prop)(MY:Value)(s2:Shared):Prop:=
 ∃(it:Addr) (fp:List Addr) (tn:Nat->Heap->Prop) (J:It) (H':Hp),MY= .ref it/\Inv X pins σ H' s2/\Turn X.prog X.w X.K tg J fp it tn/\tn 0 s2.heap/\(∀b∈fp,pK X pins H' b)/\R J H'
def PI(X:Cx)(tg iter:Expr)(wi:TI):Prop:=
 ∀(pins:WD) (s:Shared) (σ:St) (H:Hp) (R:It->Hp->Prop),Inv X pins σ H s->wi σ H R->
  wpAny (model X.prog X.w) X.A (eval iter X.env) (fun v s1=>wpAny (model X.prog X.w) X.A (pyIter v) (QM X pins σ tg R) X.xe s1) X.xe s
theorem y_{M:Model}{A:Around}{E:WG}{s:Shared}{tg:Expr}{it:Addr}{u:Value}{o:Obj}{n:String}{vs:Array Value}{Q:Unit->Shared->Prop}(ho:s.heap.get? it=some o)(hc:o.cls= .type n)(hd:o.data= .fields vs)
 (hn:["enumerate","zip","dict_itemiterator","dict_reverseitemiterator","odict_iterator","itertools.zip_longest","itertools.pairwise"].contains n=false) (hQ:Q () s):wpAny M A (letOwnedTupleGo tg (.ref it) u) Q E s:=by
 unfold letOwnedTupleGo;cases tg <;> first
  | exact wpAny_pure hQ
  | (cases u <;> first
      | exact wpAny_pure hQ
      | (refine wpAny_bind (wpAny_load ho ?_)
         rw[hc,hd];show wpAny M A (if(["enumerate","zip","dict_itemiterator","dict_reverseitemiterator","odict_iterator","itertools.zip_longest","itertools.pairwise"].contains n && vs[0]? ==some (rawInt _))=true then _ else _) Q E s
         rw[if_neg (by intro h;rw [hn,Bool.false_and] at h;cases h)]
         exact wpAny_pure hQ))
def Qt(K:W.Frag)(a:Addr):It:=
 ⟨fun i H=>∃xs x,lr K H a xs/\xs[i]? =some x,fun i H x H'=>H'=H/\∀xs,lr K H a xs->xs[i]? =some x,fun i H=>∃xs,lr K H a xs/\xs.length<=i⟩
def QS(K:W.Frag)(a:Addr):It:=
 ⟨fun i H=>∃xs x,oU K H a xs/\xs[i]? =some x,fun i H x H'=>H'=H/\∀xs,oU K H a xs->xs[i]? =some x,fun i H=>∃xs,oU K H a xs/\xs.length<=i⟩
def L6(lo:Int)(n:Nat):It:=⟨fun i _=>i < n,fun i H x H'=>H'=H/\x= .int (lo+i),fun i _=>n<=i⟩
theorem zX{K:W.Frag}(a it:Addr):Turn P w K tg (Qt K a) [it] it (fun i h=>h.IsListIter it a i) where
 mem:=by simp
 obj:=fun i h st b hb=>by
  have e:b=it:=by simpa using hb
  subst e;obtain⟨o,e,c,d⟩:=st;exact⟨o,e,fun v z=>by rw[d] at z;cases z⟩
 keep:=fun i h h' st k=>st.at fun o e=>k it (by simp) o e
 item:=by
  intro X hP hw hK hc i pins s σ H E I hf st hg;subst hP hw hK;obtain⟨xs,x,hq,hx⟩:=hg;obtain⟨its,rv,p,hz⟩:=I.list hq;obtain⟨u,hu,ru⟩:=rv.get hx;obtain⟨f0,f1,f2,f3,f4,f5⟩:=hf it (by simp)
  refine wpAny_pyNext_list_item st p.isList (x:=u) (by simpa using hu) fun h' DK sb=>?_
  have I1:Inv X pins σ H {s with heap:=h'}:=I.turned (t':=s.toks) (fun b o hb e=>(sb.2 b hb).trans e) f0 f1 f3 f4 f5
  obtain⟨o,e,c,d⟩:=id DK;exact⟨u,rfl,y_ (s:={s with heap:=h'}) e c d (by decide) ⟨x,H,I1,ru,⟨rfl,fun ys hy=>by rw[I.vf hy hq];exact hx⟩,DK,fun b hb=>(hf b hb).1⟩⟩
 done:=by
  intro X hP hw hK hc i pins s σ H E I hf st hg;subst hP hw hK;obtain⟨xs,hq,hx⟩:=hg;obtain⟨its,rv,p,hz⟩:=I.list hq;obtain⟨f0,f1,f2,f3,f4,f5⟩:=hf it (by simp)
  have hl:=rv.length;exact wpAny_pyNext_list_end (I.ok.hd hc) st p.isList (by simp;omega) fun h' eb=>⟨rfl,I.turned (t':=s.toks) (fun b o hb e=>eb b o hb e) f0 f1 f3 f4 f5⟩
 self:=fun _ _ _ _ _ st h=>wpAny_pyIter_listiter st h
theorem rD{K:W.Frag}(a it:Addr):Turn P w K tg (QS K a) [it] it (fun i h=>h.IsTupleIter it a i) where
 mem:=by simp
 obj:=fun i h st b hb=>by
  have e:b=it:=by simpa using hb
  subst e;obtain⟨o,e,c,d⟩:=st;exact⟨o,e,fun v z=>by rw[d] at z;cases z⟩
 keep:=fun i h h' st k=>st.at fun o e=>k it (by simp) o e
 item:=by
  intro X hP hw hK hc i pins s σ H E I hf st hg;subst hP hw hK;obtain⟨xs,x,hq,hx⟩:=hg;obtain⟨its,rv,p,hz⟩:=I.tuple hq;obtain⟨u,hu,ru⟩:=rv.get hx;obtain⟨f0,f1,f2,f3,f4,f5⟩:=hf it (by simp)
  refine wpAny_pyNext_tuple_item st (show s.heap.IsTuple a its.toArray from p) (x:=u) (by simpa using hu) fun h' DK sb=>?_
  have I1:Inv X pins σ H {s with heap:=h'}:=I.turned (t':=s.toks) (fun b o hb e=>(sb.2 b hb).trans e) f0 f1 f3 f4 f5
  obtain⟨o,e,c,d⟩:=id DK;exact⟨u,rfl,y_ (s:={s with heap:=h'}) e c d (by decide) ⟨x,H,I1,ru,⟨rfl,fun ys hy=>by rw[I.An hy hq];exact hx⟩,DK,fun b hb=>(hf b hb).1⟩⟩
 done:=by
  intro X hP hw hK hc i pins s σ H E I hf st hg;subst hP hw hK;obtain⟨xs,hq,hx⟩:=hg;obtain⟨its,rv,p,hz⟩:=I.tuple hq;obtain⟨f0,f1,f2,f3,f4,f5⟩:=hf it (by simp)
  have hl:=rv.length;exact wpAny_pyNext_tuple_end (I.ok.hd hc) st (show s.heap.IsTuple a its.toArray from p) (by simp;omega) fun h' eb=>⟨rfl,I.turned (t':=s.toks) (fun b o hb e=>eb b o hb e) f0 f1 f3 f4 f5⟩
 self:=fun _ _ _ _ _ st h=>wpAny_pyIter_tupleiter st h
theorem xX{K:W.Frag}(it:Addr)(lo:Int)(n:Nat):Turn P w K tg (L6 lo n) [it] it (fun i h=>IsRangeIter h it (lo+(i:Nat)*1) ((n:Int) - (i:Nat)) 1) where
 mem:=by simp
 obj:=fun i h st b hb=>by
  have e:b=it:=by simpa using hb
  subst e;exact⟨_,st,fun v z=>by
   have z':Data.fields _=Data.cell v:=z;cases z'⟩
 keep:=fun i h h' st k=>k it (by simp) _ st
 item:=by
  intro X hP hw hK hc i pins s σ H E I hf st hg;subst hP hw hK;obtain⟨f0,f1,f2,f3,f4,f5⟩:=hf it (by simp)
  have W:=Walks.range (prog:=X.prog) (w:=X.w) (I.ok.hd hc) it lo 1 n;refine W.item i s _ _ hg st fun v h' tk hv DK kk=>?_
  obtain⟨t,rfl⟩:=hv;have I1:Inv X pins σ H {s with heap:=h',toks:=tk}:=I.turned (fun b o hb e=>kk b o (by simpa using hb) e) f0 f1 f3 f4 f5
  refine⟨_,rfl,y_ (s:={s with heap:=h',toks:=tk}) (n:="range_iterator") DK rfl rfl (by decide) ⟨.int (lo+i),H,I1,⟨t,?_⟩,⟨rfl,rfl⟩,DK,fun b hb=>(hf b hb).1⟩⟩
  rw[Int.mul_one]
 done:=by
  intro X hP hw hK hc i pins s σ H E I hf st hg;subst hP hw hK;obtain⟨f0,f1,f2,f3,f4,f5⟩:=hf it (by simp)
  exact wpAny_pyNext_range_end (I.ok.hd hc) st (by have:n<=i:=hg;omega) fun h' eb=>⟨rfl,I.turned (t':=s.toks) (fun b o hb e=>eb b o hb e) f0 f1 f3 f4 f5⟩
 self:=fun _ _ _ _ _ st h=>wpAny_pyIter_rangeiter st h
section
variable {X:Cx} {tg:Expr}
def QW(K:W.Frag)(tl:TE):TI:=fun σ H R=>tl σ H fun x H1=>∃a,x= .ref a/\(∃xs,lr K H1 a xs)/\R (Qt K a) H1
def A6(K:W.Frag)(tl:TE):TI:=fun σ H R=>tl σ H fun x H1=>∃a,x= .ref a/\(∃xs,oU K H1 a xs)/\R (QS K a) H1
theorem BQ{pins:WD}{σ:St}{H:Hp}{s:Shared}{R:It->Hp->Prop}{E:WG}{lo hi:Int}{t u v:Tok}{tk:Nat}(I:Inv X pins σ H s)(h1: -(2 ^ 62)<=lo)(h2:lo < 2 ^ 62)(h3: -(2 ^ 62)<=hi)(h4:hi < 2 ^ 62)
 (q:R (L6 lo (hi - lo).toNat) H):wpAny (model X.prog X.w) X.A (pyIter (.ref s.heap.objs.size)) (QM X pins σ tg R) E {s with heap:=s.heap.push {cls:= .type "range",data:= .fields #[.int lo t, .int hi u, .int 1 v]},toks:=tk}:=by
 refine wpAny_pyIter_range (IsRange.new ..) (small_one h1 h2 h3 h4) ?_;have I1:Inv X pins σ H {s with heap:=s.heap.push {cls:= .type "range",data:= .fields #[.int lo t, .int hi u, .int 1 v]},toks:=tk}:=I.kept fun b o e=>Heap.get?_push_of_some _ e
 refine⟨(s.heap.push {cls:= .type "range",data:= .fields #[.int lo t, .int hi u, .int 1 v]}).objs.size,[(s.heap.push {cls:= .type "range",data:= .fields #[.int lo t, .int hi u, .int 1 v]}).objs.size],_,_,H,rfl,
  I1.kept (t':=tk) fun b o e=>Heap.get?_push_of_some _ e,xX _ lo (hi - lo).toNat,?_,fun b hb=>?_,q⟩
 .have e1:lo+((0:Nat):Int)*1=lo:=by simp
  have e2:(((hi - lo).toNat:Nat):Int) - ((0:Nat):Int)=Builtin.Range.rangeSize lo hi 1:=by rw[rangeSize_one];split <;> omega
  show IsRangeIter _ _ (lo+((0:Nat):Int)*1) ((((hi - lo).toNat:Nat):Int) - ((0:Nat):Int)) 1;rw[e1,e2];exact Heap.get?_push_size _ rfl
 .have e:b=(s.heap.push {cls:= .type "range",data:= .fields #[.int lo t, .int hi u, .int 1 v]}).objs.size:=by simpa using hb
  subst e;exact I1.vJ (Nat.le_refl _) (I1.hok.fresh (Nat.le_refl _))
def G9(ta:TA):TI:=fun σ H R=>ta σ H fun vs H1=>∃j:Int,vs=[.int j]/\ -(2 ^ 62)<=j/\j < 2 ^ 62/\R (L6 0 j.toNat) H1
def Qv(ta:TA):TI:=fun σ H R=>ta σ H fun vs H1=>∃i j:Int,vs=[.int i, .int j]/\(-(2 ^ 62)<=i/\i < 2 ^ 62/\ -(2 ^ 62)<=j/\j < 2 ^ 62)/\R (L6 i (j - i).toNat) H1
theorem zH{ta:TA}{p pos:Pos}(hg:Gl X "range")(hm:X.mg "range"=none)(ha:PA X [a] ta)(hs:starEach [a] X.env=[(false,eval a X.env)]:=by rfl):PI X tg (.Call (.Name "range" p) [a] [] pos) (G9 ta):=by
 intro pins s σ H R I h;refine Call_ (qZ I hg hm boot_range (PyProof.Rows.callWith_type1 (cO (ha pos pins s σ H _ I h) fun us s1 ⟨vs,H1,I1,r1,q1⟩=>?_) hs rfl))
 obtain⟨j,e,q1,q2,q⟩:=q1;subst e;cases r1 with
 | cons r rr=>
   cases rr;obtain⟨t,rfl⟩:=r;exact call_range_1 (BQ I1 (by omega) (by omega) q1 q2 (by simpa using q))
def Ob(wi:TI)(g:TG)(tb:TS):TS:=fun D σ H=>wi σ H fun J H1=>∃W:Nat->Nat->St->Hp->Prop,(∃m,W 0 m σ H1)/\∀i m σ H,W i m σ H->
 (J.stop i H/\D.nx σ H)\/(J.go i H/\∃N:St->Hp->Prop,(∀cG H',N cG H'->∃m',m' < m/\W (i+1) m' cG H')/\∀x H',J.yld i H x H'->g x σ H' fun r9 H2=>tb {D with nx:=N,ct:=N,bk:=D.nx} r9 H2)
def mT(fp:List Addr)(h:Heap):WD:=fp.filterMap fun b=>(h.get? b).map fun o=>(b,o)
theorem j8{fp:List Addr}{h:Heap}{b:Addr}{o:Obj}(hb:b∈fp)(e:h.get? b=some o):(b,o)∈mT fp h:=List.mem_filterMap.mpr ⟨b,hb,by rw[e];rfl⟩
theorem zL{fp:List Addr}{h:Heap}{p:Addr × Obj}(hp:p∈mT fp h):p.1∈fp/\h.get? p.1=some p.2:=by
 obtain⟨b,hb,e⟩:=List.mem_filterMap.mp hp;cases q:h.get? b with
 | none=>rw [q] at e;cases e
 | some o=>
   rw[q] at e;have e':(b,o)=p:=Option.some.inj e;subst e';exact⟨hb,q⟩
theorem Inv.pinned{pins:WD}{s:Shared}{fp:List Addr}(I:Inv X pins σ H s)(hf:∀b∈fp,pK X pins H b)(ho:∀b∈fp,∃o,s.heap.get? b=some o/\∀v,o.data≠ .cell v):Inv X (pins++mT fp s.heap) σ H s:=
 I.yu fun p hp=>(List.mem_append.mp hp).elim (fun z=>I.pin p (List.mem_append_right _ z)) fun z=>by
  obtain⟨hb,e⟩:=zL z;obtain⟨f0,f1,f2,_⟩:=hf p.1 hb;obtain⟨o,e',d⟩:=ho p.1 hb;rw[e] at e';cases e';exact⟨e,f0,f1,f2,d⟩
theorem Inv.og{pins pl:WD}{s:Shared}(I:Inv X (pins++pl) σ H s):Inv X pins σ H s:=I.yu fun p hp=>I.pin p (List.mem_append_right _ (List.mem_append_left _ hp))
theorem xc{iter:Expr}{body:List Stmt}{wi:TI}{g:TG}{tb:TS}{pos:Pos}(hp:PassesOwn (model X.prog X.w) X.A X.env X.xe)(hc:X.calm=true)(hi:PI X tg iter wi)(hg:PG X tg g)(hb:uo X body tb)
 (hs:∀x,foldedSetIterable iter X.env x=pure x:=by intro _;rfl):PS X (.For tg iter body [] pos) (Ob wi g tb):=by
 intro pins s σ H D I h;refine wpAny_For (cO (hi pins s σ H _ I h) fun v s1 h1=>cO h1 fun MY s2 h2=>?_) hs
 obtain⟨it,fp,tn,J,H2,e,I2,T,J6,f2,W,⟨m0,w0⟩,turn⟩:=h2;subst e;have stat:∀{H':Hp},(∀b∈fp,H' b=none)->∀b∈fp,pK X pins H' b:=fun hn b hb=>⟨hn b hb,(f2 b hb).2⟩
 refine codeAny_forLoop_any (fun n s'=>∃i cG H',Inv X pins cG H' s'/\tn i s'.heap/\(∀b∈fp,H' b=none)/\W i n cG H') ?_ m0 ⟨0,σ,H2,I2,J6,fun b hb=>(f2 b hb).1,w0⟩
 rintro n s3 ⟨i,DZ,H3,I3,Gq,Mf,w3⟩;rcases turn i n DZ H3 w3 with⟨stop,qn⟩ | ⟨go,N,hN,step⟩
 .refine wpAny_passesOwn hp (cO (T.done X rfl rfl rfl hc i pins s3 DZ H3 X.xe I3 (stat Mf) Gq stop) fun r s4 ⟨hr,I4⟩=>?_)
  subst hr;exact wpAny_execs_nil ⟨DZ,H3,I4,qn⟩
 .refine wpAny_passesOwn hp (cO (T.item X rfl rfl rfl hc i pins s3 DZ H3 X.xe I3 (stat Mf) Gq go) fun r s4 ⟨u,hr,h4⟩=>?_)
  subst hr;refine wpAny_passesOwn hp (cO h4 fun _ s5 ⟨x,H5,I5,r5,y5,J7,OX⟩=>?_)
  have I5':=I5.pinned (stat OX) (T.obj _ _ J7);refine wpAny_passesOwn hp (cO (hg _ s5 DZ H5 x u _ I5' r5 (step x H5 y5)) fun _ s6 ⟨Mw,H6,I6,q6⟩=>?_)
  refine wpAny_passesOwn hp (cO (hb _ s6 Mw H6 _ I6 q6) fun f s7 q7=>?_)
  have again:∀{wH:St} {H7:Hp},Inv X (pins++mT fp s5.heap) wH H7 s7->N wH H7->∃m,m < n/\∃i cG H',Inv X pins cG H' s7/\tn i s7.heap/\(∀b∈fp,H' b=none)/\W i m cG H':=fun {wH H7} I7 n7=>by
   obtain⟨m',hm,w7⟩:=hN wH H7 n7;refine⟨m',hm,i+1,wH,H7,I7.og,T.keep _ _ _ J7 fun b hb o e=>(I7.pin (b,o) (List.mem_append_right _ (List.mem_append_right _ (j8 hb e)))).1,fun b hb=>?_,w7⟩
   obtain⟨o,e,d⟩:=T.obj _ _ J7 b hb;exact(I7.pin (b,o) (List.mem_append_right _ (List.mem_append_right _ (j8 hb e)))).2.1
  cases f with
  | next=>obtain⟨wH,H7,I7,n7⟩:=q7;exact again I7 n7
  | cont=>obtain⟨wH,H7,I7,n7⟩:=q7;exact again I7 n7
  | brk=>obtain⟨wH,H7,I7,q7⟩:=q7;exact⟨wH,H7,I7.og,q7⟩
  | ret v=>obtain⟨x7,wH,H7,I7,r7,q7⟩:=q7;exact⟨x7,wH,H7,I7.og,r7,q7⟩
end
abbrev R2:=V->V->Hp->VK->Prop
def mz(X:Cx)(f:Value->Value->Sem Value)(r:R2):Prop:=
 ∀(pins:WD) (s:Shared) (σ:St) (H:Hp) (x y:V) (v u:Value) (Q:VK),Inv X pins σ H s->RelV x v->RelV y u->r x y H Q->
  wpAny (model X.prog X.w) X.A (f v u) (EP X pins σ Q) X.xe s
def VS(X:Cx)(f:Value->Sem Value)(r:V->Hp->VK->Prop):Prop:=
 ∀(pins:WD) (s:Shared) (σ:St) (H:Hp) (x:V) (v:Value) (Q:VK),Inv X pins σ H s->RelV x v->r x H Q->
  wpAny (model X.prog X.w) X.A (f v) (EP X pins σ Q) X.xe s
def iI(X:Cx)(f:Value)(r:List V->Hp->VK->Prop):Prop:=
 ∀(pins:WD) (s:Shared) (σ:St) (H:Hp) (xs:List V) (us:List Value) (Q:VK),Inv X pins σ H s->Vals xs us->r xs H Q->
  wpAny (model X.prog X.w) X.A (call f us) (EP X pins σ Q) X.xe s
def Nx(X:Cx)(r:V->Hp->(Bool->Hp->Prop)->Prop):Prop:=
 ∀(pins:WD) (s:Shared) (σ:St) (H:Hp) (x:V) (v:Value) (Q:Bool->Hp->Prop),Inv X pins σ H s->RelV x v->r x H Q->
  wpAny (model X.prog X.w) X.A (truthy v) (TP X pins σ Q) X.xe s
def Kc(r:R2)(ta tb:TE):TE:=fun σ H Q=>ta σ H fun x H1=>tb σ H1 fun y H2=>r x y H2 Q
def Wn(r:V->Hp->VK->Prop)(ta:TE):TE:=fun σ H Q=>ta σ H fun x H1=>r x H1 Q
def rI(C:Int->Int->Prop)(g:Int->Int->V):R2:=fun x y H Q=>∃i j,x= .int i/\y= .int j/\C i j/\Q (g i j) H
def DW(g:Int->Int->V):R2:=fun x y H Q=>∃i j,x= .int i/\y= .int j/\Q (g i j) H
def rU(g:Int->V):V->Hp->VK->Prop:=fun x H Q=>∃i,x= .int i/\Q (g i) H
section
variable {X:Cx} {a b c:Expr} {ta tb tc:TE} {pos:Pos}
theorem Ji(ha:PE X a ta)(hb:PE X b tb){pins:WD}{s:Shared}{σ:St}{H:Hp}{R:V->V->Hp->Prop}(I:Inv X pins σ H s)
 (h:ta σ H fun x H1=>tb σ H1 fun y H2=>R x y H2) {Q:WG} {f:Value->Value->Sem Value}
 (hf:∀v u s2 x y H2,Inv X pins σ H2 s2->RelV x v->RelV y u->R x y H2->wpAny (model X.prog X.w) X.A (f v u) Q X.xe s2) :
 wpAny (model X.prog X.w) X.A (eval a X.env) (fun v s₁=>wpAny (model X.prog X.w) X.A (eval b X.env) (fun u wK=>wpAny (model X.prog X.w) X.A (f v u) Q X.xe wK) X.xe s₁) X.xe s:=by
 refine cO (ha pins s σ H _ I h) fun v s1 ⟨x,H1,I1,r1,q1⟩=>?_
 refine cO (hb pins s1 σ H1 _ I1 q1) fun u s2 ⟨y,H2,I2,r2,q2⟩=>?_
 exact hf v u s2 x y H2 I2 r1 r2 q2
theorem L0{op:Operator}{r:R2}(ho:mz X (binaryOp op) r)(ha:PE X a ta)(hb:PE X b tb):PE X (.BinOp a op b pos) (Kc r ta tb):=by
 intro pins s σ H Q I h;exact wpAny_BinOp (Ji ha hb I h fun v u s2 x y H2 I2 rx ry q=>ho pins s2 σ H2 x y v u Q I2 rx ry q)
theorem LO{f:Value->Value->Sem Value}{C:Int->Int->Prop}{g:Int->Int->Int}
 (rule:∀(i j:Int) (t u:Tok) (s:Shared) (Q:WG) (E:WG),C i j->Q (.int (g i j) s.toks) {s with toks:=s.toks+1}->wpAny (model X.prog X.w) X.A (f (.int i t) (.int j u)) Q E s) :
 mz X f (rI C fun i j=> .int (g i j)):=by
 intro pins s σ H x y v u Q I rx ry h;obtain⟨i,j,rfl,rfl,hc,q⟩:=h;obtain⟨t,rfl⟩:=rx;obtain⟨t',rfl⟩:=ry;exact rule i j t t' s _ _ hc ⟨.int (g i j),H,I.tok _,⟨_,rfl⟩,q⟩
theorem Ly{f:Value->Value->Sem Value}{g:Int->Int->Int}
 (rule:∀(i j:Int) (t u:Tok) (s:Shared) (Q:WG) (E:WG),Q (.int (g i j) s.toks) {s with toks:=s.toks+1}->wpAny (model X.prog X.w) X.A (f (.int i t) (.int j u)) Q E s) :
 mz X f (DW fun i j=> .int (g i j)):=by
 intro pins s σ H x y v u Q I rx ry h;obtain⟨i,j,rfl,rfl,q⟩:=h;obtain⟨t,rfl⟩:=rx;obtain⟨t',rfl⟩:=ry;exact rule i j t t' s _ _ ⟨.int (g i j),H,I.tok _,⟨_,rfl⟩,q⟩
theorem Ey{f:Value->Value->Sem Value}{g:Int->Int->Bool}
 (rule:∀(i j:Int) (t u:Tok) (s:Shared) (Q:WG) (E:WG),Q (.bool (g i j)) s->wpAny (model X.prog X.w) X.A (f (.int i t) (.int j u)) Q E s) :
 mz X f (DW fun i j=> .bl (g i j)):=by
 intro pins s σ H x y v u Q I rx ry h;obtain⟨i,j,rfl,rfl,q⟩:=h;obtain⟨t,rfl⟩:=rx;obtain⟨t',rfl⟩:=ry;exact rule i j t t' s _ _ ⟨.bl (g i j),H,I,rfl,q⟩
def NO(i j:Int):Prop:=0 < j/\j < 1073741824
def Q4(i j:Int):Prop:=j≠0/\j.natAbs < 1073741824
def Od(i j:Int):Prop:=0<=j/\j<=1000000/\i.natAbs < 2 ^ 64
def JU(i j:Int):Prop:=(-(2 ^ 64) < i/\i < 2 ^ 64)\/(-(2 ^ 64) < j/\j < 2 ^ 64)
theorem JU.ok{i j:Int}(h:JU i j):IntMulOk i j:=by
 rcases h with⟨h1,h2⟩ | ⟨h1,h2⟩
 .exact .of_left (intBits_le_64 h1 h2)
 .exact .of_right (intBits_le_64 h1 h2)
theorem xq(k:Nat):(0:Int)<=2 ^ k:=by
 rw[two_pow_cast];exact Int.natCast_nonneg _
theorem Hk:mz X (binaryOp .Add) (DW fun i j=> .int (i+j)):=Ly fun _ _ _ _ _ _ _ q=>add_int q
theorem Iu:mz X (binaryOp .Sub) (DW fun i j=> .int (i - j)):=Ly fun _ _ _ _ _ _ _ q=>sub_int q
theorem JS:mz X (binaryOp .Mult) (rI JU fun i j=> .int (i*j)):=LO fun _ _ _ _ _ _ _ hc q=>mul_int q hc.ok
theorem EW:mz X (binaryOp .FloorDiv) (rI NO fun i j=> .int (i / j)):=LO fun i j _ _ _ _ _ hc q=>by
 have h1:(0:Int) < j:=hc.1;have h2:j < 1073741824:=hc.2;exact floordiv_int (by omega) (by rw[Int.fdiv_eq_ediv_of_nonneg i (by omega)];exact q) (.inl (PyProof.noPylong_small (by omega)))
theorem JI:mz X (binaryOp .Mod) (rI (fun _ j=>0 < j) fun i j=> .int (i % j)):=LO fun i j _ _ _ _ _ hc q=>by
 have h1:(0:Int) < j:=hc;exact mod_int' (by omega) (by rw[Int.fmod_eq_emod_of_nonneg i (by omega)];exact q)
theorem Jv:mz X (binaryOp .Pow) (rI Od fun i j=> .int (i ^ j.toNat)):=LO fun _ _ _ _ _ _ _ hc q=>pow_int_small hc.1 hc.2.1 hc.2.2 q
theorem IK:mz X (binaryOp .RShift) (rI (fun _ j=>0<=j) fun i j=> .int (i / 2 ^ j.toNat)):=LO fun i j _ _ _ _ _ hc q=>
 rshift_int hc (by rw[Int.fdiv_eq_ediv_of_nonneg i (xq _)];exact q)
end
def LA:V->V->Bool
 | .cz, .cz=>true | .cz, .int _=>true | .int _, .cz=>true | .cz, .bl _=>true | .bl _, .cz=>true | .cz, .str _=>true | .str _, .cz=>true
 | .int _, .int _=>true | .bl _, .bl _=>true | .str _, .str _=>true | .byt _, .byt _=>true
 | .int _, .str _=>true | .str _, .int _=>true | .bl _, .str _=>true | .str _, .bl _=>true
 | _,_=>false
def Tf:R2:=fun x y H Q=>LA x y=true/\Q (.bl (decide (x=y))) H
def Su:R2:=fun x y H Q=>LA x y=true/\Q (.bl (!decide (x=y))) H
theorem yr{i j:Int}:decide (V.int i=V.int j)=(i==j):=by
 rw[Bool.eq_iff_iff];simp
theorem BW{i j:Bool}:decide (V.bl i=V.bl j)=(i==j):=by
 rw[Bool.eq_iff_iff];simp
theorem yZ:decide (V.str i=V.str j)=(i==j):=by
 rw[Bool.eq_iff_iff];simp
theorem yE{i j:Array UInt8}:decide (V.byt i=V.byt j)=(i.toList==j.toList):=by
 rw[Bool.eq_iff_iff];cases i;cases j;simp
section
variable {X:Cx} {a b c:Expr} {ta tb tc:TE} {pos:Pos}
theorem bM{pins:WD}{s:Shared}{Q:VK}{k k':Bool}(I:Inv X pins σ H s)(q:Q (.bl k) H)(e:k=k'):EP X pins σ Q (.bool k') s:=by
 subst e;exact⟨.bl k,H,I,rfl,q⟩
theorem Cm:mz X (compareOp .Eq) Tf:=by
 intro pins s σ H x y v u Q I rx ry h;obtain⟨hs,q⟩:=h;cases x with
 | cz=>
   cases rx;cases y with
   | cz=>cases ry;exact PySem.EqNone.eq_none_none (bM I q (by simp))
   | bl j=>cases ry;exact PySem.EqNone.eq_none_bool (bM I q (by simp))
   | int j=>obtain⟨t',rfl⟩:=ry;exact PySem.EqNone.eq_none_int (bM I q (by simp))
   | str j=>obtain⟨t',rfl⟩:=ry;exact PySem.EqNone.eq_none_str (bM I q (by simp))
   | _=>exact absurd (show false=true from hs) Bool.false_ne_true
 | bl i=>
   cases rx;cases y with
   | cz=>cases ry;exact PySem.EqNone.eq_bool_none (bM I q (by simp))
   | bl j=>cases ry;exact eq_bool (bM I q BW)
   | str j=>obtain⟨t',rfl⟩:=ry;exact PySem.EqMixed.eq_bool_str (bM I q (by simp))
   | _=>exact absurd (show false=true from hs) Bool.false_ne_true
 | int i=>
   obtain⟨t,rfl⟩:=rx;cases y with
   | cz=>cases ry;exact PySem.EqNone.eq_int_none (bM I q (by simp))
   | int j=>obtain⟨t',rfl⟩:=ry;exact eq_int (bM I q yr)
   | str j=>obtain⟨t',rfl⟩:=ry;exact PySem.EqMixed.eq_int_str (bM I q (by simp))
   | _=>exact absurd (show false=true from hs) Bool.false_ne_true
 | str i=>
   obtain⟨t,rfl⟩:=rx;cases y with
   | cz=>cases ry;exact PySem.EqNone.eq_str_none (bM I q (by simp))
   | bl j=>cases ry;exact PySem.EqMixed.eq_str_bool (bM I q (by simp))
   | int j=>obtain⟨t',rfl⟩:=ry;exact PySem.EqMixed.eq_str_int (bM I q (by simp))
   | str j=>obtain⟨t',rfl⟩:=ry;exact eq_str (bM I q yZ)
   | _=>exact absurd (show false=true from hs) Bool.false_ne_true
 | byt i=>
   obtain⟨t,rfl⟩:=rx;cases y with
   | byt j=>obtain⟨t',rfl⟩:=ry;exact PySem.W.eq_bytes (bM I q yE)
   | _=>exact absurd (show false=true from hs) Bool.false_ne_true
 | _=>cases y <;> exact absurd (show false=true from hs) Bool.false_ne_true
theorem De:mz X (compareOp .NotEq) Su:=by
 intro pins s σ H x y v u Q I rx ry h;obtain⟨hs,q⟩:=h;cases x with
 | cz=>
   cases rx;cases y with
   | cz=>cases ry;exact PySem.EqNone.ne_none_none (bM I q (by simp))
   | bl j=>cases ry;exact PySem.EqNone.ne_none_bool (bM I q (by simp))
   | int j=>obtain⟨t',rfl⟩:=ry;exact PySem.EqNone.ne_none_int (bM I q (by simp))
   | str j=>obtain⟨t',rfl⟩:=ry;exact PySem.EqNone.ne_none_str (bM I q (by simp))
   | _=>exact absurd (show false=true from hs) Bool.false_ne_true
 | bl i=>
   cases rx;cases y with
   | cz=>cases ry;exact PySem.EqNone.ne_bool_none (bM I q (by simp))
   | bl j=>cases ry;exact ne_bool (bM I q (congrArg not BW))
   | str j=>obtain⟨t',rfl⟩:=ry;exact PySem.EqMixed.ne_bool_str (bM I q (by simp))
   | _=>exact absurd (show false=true from hs) Bool.false_ne_true
 | int i=>
   obtain⟨t,rfl⟩:=rx;cases y with
   | cz=>cases ry;exact PySem.EqNone.ne_int_none (bM I q (by simp))
   | int j=>obtain⟨t',rfl⟩:=ry;exact ne_int (bM I q (congrArg not yr))
   | str j=>obtain⟨t',rfl⟩:=ry;exact PySem.EqMixed.ne_int_str (bM I q (by simp))
   | _=>exact absurd (show false=true from hs) Bool.false_ne_true
 | str i=>
   obtain⟨t,rfl⟩:=rx;cases y with
   | cz=>cases ry;exact PySem.EqNone.ne_str_none (bM I q (by simp))
   | bl j=>cases ry;exact PySem.EqMixed.ne_str_bool (bM I q (by simp))
   | int j=>obtain⟨t',rfl⟩:=ry;exact PySem.EqMixed.ne_str_int (bM I q (by simp))
   | str j=>obtain⟨t',rfl⟩:=ry;exact ne_str (bM I q (congrArg not yZ))
   | _=>exact absurd (show false=true from hs) Bool.false_ne_true
 | byt i=>
   obtain⟨t,rfl⟩:=rx;cases y with
   | byt j=>obtain⟨t',rfl⟩:=ry;exact PySem.W.ne_bytes (bM I q (congrArg not yE))
   | _=>exact absurd (show false=true from hs) Bool.false_ne_true
 | _=>cases y <;> exact absurd (show false=true from hs) Bool.false_ne_true
theorem Kr:mz X (compareOp .Lt) (DW fun i j=> .bl (decide (i < j))):=Ey fun _ _ _ _ _ _ _ q=>lt_int q
theorem Kt:mz X (compareOp .LtE) (DW fun i j=> .bl (decide (i<=j))):=Ey fun _ _ _ _ _ _ _ q=>le_int q
theorem LB:mz X (compareOp .Gt) (DW fun i j=> .bl (decide (j < i))):=Ey fun _ _ _ _ _ _ _ q=>gt_int q
theorem LD:mz X (compareOp .GtE) (DW fun i j=> .bl (decide (j<=i))):=Ey fun _ _ _ _ _ _ _ q=>ge_int q
theorem Ai:mz X (compareOp .In) (fun x y H Q=>∃i j,x= .str i/\y= .str j/\Q (.bl (!(Builtin.Str.occurrences j i 0 j.length 1).isEmpty)) H):=by
 intro pins s σ H x y v u Q I rx ry h;obtain⟨i,j,rfl,rfl,q⟩:=h;obtain⟨t,rfl⟩:=rx;obtain⟨t',rfl⟩:=ry;exact in_str (bM I q rfl)
theorem tZ:mz X (compareOp .NotIn) (fun x y H Q=>∃i j,x= .str i/\y= .str j/\Q (.bl (!(!(Builtin.Str.occurrences j i 0 j.length 1).isEmpty))) H):=by
 intro pins s σ H x y v u Q I rx ry h;obtain⟨i,j,rfl,rfl,q⟩:=h;obtain⟨t,rfl⟩:=rx;obtain⟨t',rfl⟩:=ry;exact notIn_str (bM I q rfl)
def isObj:HO->Bool
 | .lst _=>true
 | .ins _ _ _=>true
 | _=>false
theorem bC(b:Expr){op:CmpOp}(h:op≠ .In:=by decide)(h2:op≠ .NotIn:=by decide):behindInMarks op b=false:=by
 have e1:(op==CmpOp.In)=false:=by cases op <;> first | rfl | exact absurd rfl h
 have e2:(op==CmpOp.NotIn)=false:=by cases op <;> first | rfl | exact absurd rfl h2
 cases b <;> simp [behindInMarks,e1,e2]
theorem y9{op:CmpOp}{r:R2}(ho:mz X (compareOp op) r)(ha:PE X a ta)(hb:PE X b tb)(hm:behindInMarks op b=false):PE X (.Compare a [op] [b] pos) (Kc r ta tb):=by
 intro pins s σ H Q I h;exact wpAny_Compare1 (Ji ha hb I h fun v u s2 x y H2 I2 rx ry q=>ho pins s2 σ H2 x y v u Q I2 rx ry q) hm
def Ky(t:TE):TT:=fun σ H Q=>t σ H fun x H'=>∃k,x= .bl k/\Q k H'
theorem yS{op:CmpOp}{r:R2}(ho:mz X (compareOp op) r)(ha:PE X a ta)(hb:PE X b tb)(hm:behindInMarks op b=false):PT X (.Compare a [op] [b] pos) (Ky (Kc r ta tb)):=by
 intro pins s σ H Q I h;refine wpAny_isTrue_Compare1 (cO (ha pins s σ H _ I h) fun v s1 ⟨x,H1,I1,r1,q1⟩=>cO (hb pins s1 σ H1 _ I1 q1) fun u s2 ⟨y,H2,I2,r2,q2⟩=>
  cO (ho pins s2 σ H2 x y v u _ I2 r1 r2 q2) fun c s3 ⟨z,H3,I3,r3,k,e,q3⟩=>?_) hm
 subst e;cases r3;exact wpAny_truthy_bool ⟨H3,I3,q3⟩
def NC(r r':R2)(ta tb tc:TE):TE:=fun σ H Q=>ta σ H fun x H1=>tb σ H1 fun y H2=>r x y H2 fun z H3=>∃k,z= .bl k/\
 (if k=true then tc σ H3 fun w' H4=>r' y w' H4 Q else Q (.bl false) H3)
def Hv(K:W.Frag)(x:V)(H:Hp)(k:Bool):Prop:=
 match x with
 | .cz=>k=false
 | .bl b=>k=b
 | .int i=>k=(i !=0)
 | .str y=>y.length<=sizeLine/\k=((y.length:Int) !=0)
 | .byt y=>y.size<=sizeLine/\k=((y.size:Int) !=0)
 | .ref p=>(∃xs,lr K H p xs/\k=!xs.isEmpty)\/(∃xs,oU K H p xs/\k=!xs.isEmpty)\/∃ay,H p=some (.dK ay)/\k=!ay.isEmpty
 | _=>False
theorem xj{κ:Type}{ay:List (κ × V)}{vs:List (κ × Value)}(r:KV ay vs):(!vs.isEmpty)=!ay.isEmpty:=by
 cases r <;> rfl
theorem q9{xs:List V}{its:List Value}(r:Vals xs its):(!its.toArray.isEmpty)=!xs.isEmpty:=by
 cases r <;> simp
theorem oA:(sizeLine:Nat) < 2 ^ 63:=by rw[sizeLine_eq];decide
theorem HV:Nx X (fun x H Q=>∃k,Hv X.K x H k/\Q k H):=by
 intro pins s σ H x v Q I rx h;obtain⟨k,e,q⟩:=h;have hl:=oA;have hs:sizeLine=16777216:=sizeLine_eq;cases x with
 | cz=>
   cases rx;have e':k=false:=e;subst e';exact truthy_none ⟨H,I,q⟩
 | bl b=>
   cases rx;have e':k=b:=e;subst e';exact wpAny_truthy_bool ⟨H,I,q⟩
 | int i=>
   obtain⟨t,rfl⟩:=rx;have e':k=(i !=0):=e;subst e';exact PySem.P.truthy_int ⟨H,I,q⟩
 | str y=>
   obtain⟨t,rfl⟩:=rx;obtain⟨hy,e'⟩:y.length<=sizeLine/\k=((y.length:Int) !=0):=e;subst e';exact PySem.P.truthy_str (by omega) ⟨H,I.tok _,q⟩
 | byt y=>
   obtain⟨t,rfl⟩:=rx;obtain⟨hy,e'⟩:y.size<=sizeLine/\k=((y.size:Int) !=0):=e;subst e';exact PySem.W.truthy_bytes (by omega) ⟨H,I.tok _,q⟩
 | ref p=>
   cases rx;have e':(∃xs,lr X.K H p xs/\k=!xs.isEmpty)\/(∃xs,oU X.K H p xs/\k=!xs.isEmpty)\/∃ay,H p=some (.dK ay)/\k=!ay.isEmpty:=e;rcases e' with⟨xs,hx,e'⟩ | ⟨xs,hx,e'⟩ | ⟨ay,hx,e'⟩
   .subst e';obtain⟨its,r,pl,hz⟩:=I.list hx;have hlen:=r.length;exact wpAny_truthy_list pl.isList (by simp only[List.size_toArray];omega) ⟨H,I.tok _,by rw[q9 r];exact q⟩
   .subst e';obtain⟨its,r,pl,hz⟩:=I.tuple hx;have hlen:=r.length;exact truthy_tuple pl (by simp only[List.size_toArray];omega) ⟨H,I.tok _,by rw[q9 r];exact q⟩
   .subst e';obtain⟨hz,hS,vs,r,m⟩:ay.length<=sizeLine/\(p==sysModules)=false/\∃vs,KV ay vs/\s.heap.DictOf (cL X.prog X.w) p vs:=I.hok p _ hx;have hlen:ay.length=vs.length:=Paired.length r;exact wpAny_truthy_dict hS m (by omega) ⟨H,I.tok _,by rw[xj r];exact q⟩
 | _=>exact(show False from e).elim
theorem vp(ha:PE X a ta)(he:∀whole,isTrue a X.env whole=(do let v <-whole;standAt a.pos;holding [v] (truthy v))) :
 PT X a (fun σ H Q=>ta σ H fun x H'=>∃k,Hv X.K x H' k/\Q k H'):=by
 intro pins s σ H Q I h;exact isTrue_plain (cO (ha pins s σ H _ I h) fun v s1 ⟨x,H1,I1,r1,q1⟩=>HV pins s1 σ H1 x v Q I1 r1 q1) (he _)
theorem xD:mz X (binaryOp .Add) (fun x y H Q=>∃i j,x= .str i/\y= .str j/\i.length+j.length<=sizeLine/\Q (.str (i++j)) H):=by
 intro pins s σ H x y v u Q I rx ry h;obtain⟨i,j,rfl,rfl,hz,q⟩:=h;obtain⟨t,rfl⟩:=rx;obtain⟨t',rfl⟩:=ry;exact add_str (fun t' tk=>⟨.str (i++j),H,I.tok _,⟨_,rfl⟩,q⟩) hz
def KP(b:Expr):Prop:=∀o i,subscripted b false o i=operate [o,i] (getItem o i)
theorem vals1{x:V}{us:List Value}(r:Vals [x] us):∃u,us=[u]/\RelV x u:=by
 cases r with
 | cons r1 r2=>cases r2;exact⟨_,rfl,r1⟩
theorem vals2{x y:V}{us:List Value}(r:Vals [x,y] us):∃u w',us=[u,w']/\RelV x u/\RelV y w':=by
 cases r with
 | cons r1 r2=>
   cases r2 with
   | cons r3 r4=>cases r4;exact⟨_,_,rfl,r1,r3⟩
theorem Ax(hc:X.calm=true):iI X (.builtin "min") (fun xs H Q=>∃i j,xs=[.int i, .int j]/\Q (.int (if j < i then j else i)) H):=by
 intro pins s σ H xs us Q I r h;obtain⟨i,j,rfl,q⟩:=h;obtain⟨u,w',rfl,⟨t,rfl⟩,⟨t',rfl⟩⟩:=vals2 r;refine min_two_ints (I.ok.hd hc) fun h' tk k=>⟨_,H,I.kept k,?_,q⟩
 by_cases hj:j < i
 .rw [if_pos hj,if_pos hj];exact⟨_,rfl⟩
 .rw [if_neg hj,if_neg hj];exact⟨_,rfl⟩
theorem Av:iI X (.type "int") (fun xs H Q=>(∃i,xs=[.int i]/\Q (.int i) H)\/∃k,xs=[.bl k]/\Q (.int (if k then 1 else 0)) H):=by
 intro pins s σ H xs us Q I r h;rcases h with⟨i,rfl,q⟩ | ⟨k,rfl,q⟩
 .obtain⟨u,rfl,t,rfl⟩:=vals1 r;exact call_int_int ⟨.int i,H,I,⟨_,rfl⟩,q⟩
 .obtain⟨u,rfl,r1⟩:=vals1 r;cases r1;exact call_int_bool ⟨.int (if k then 1 else 0),H,I.tok _,⟨_,rfl⟩,q⟩
theorem uG:iI X (.type "str") (fun xs H Q=>∃i,xs=[.int i]/\i.natAbs.log2 < 1920/\Q (.str (toString i)) H):=by
 intro pins s σ H xs us Q I r h;obtain⟨i,rfl,hz,q⟩:=h;obtain⟨u,rfl,t,rfl⟩:=vals1 r;exact PySem.P.str_of_int hz ⟨.str _,H,I.tok _,⟨_,rfl⟩,q⟩
def Oj(K:W.Frag)(x:V)(H:Hp)(n:Nat):Prop:=
 match x with
 | .str y=>y.length<=sizeLine/\n=y.length
 | .byt y=>y.size<=sizeLine/\n=y.size
 | .ref p=>(∃xs,lr K H p xs/\n=xs.length)\/∃xs,oU K H p xs/\n=xs.length
 | _=>False
theorem A7:iI X (.builtin "len") (fun xs H Q=>∃x n,xs=[x]/\Oj X.K x H n/\Q (.int n) H):=by
 intro pins s σ H xs us Q I r h;obtain⟨x,n,rfl,e,q⟩:=h;obtain⟨u,rfl,rx⟩:=vals1 r;have hl:=oA;have hs:sizeLine=16777216:=sizeLine_eq;cases x with
 | str y=>
   obtain⟨t,rfl⟩:=rx;obtain⟨hy,e'⟩:y.length<=sizeLine/\n=y.length:=e;subst e';exact len_str (by omega) ⟨.int _,H,I.tok _,⟨_,rfl⟩,q⟩
 | byt y=>
   obtain⟨t,rfl⟩:=rx;obtain⟨hy,e'⟩:y.size<=sizeLine/\n=y.size:=e;subst e';exact PySem.W.len_bytes (by omega) ⟨.int _,H,I.tok _,⟨_,rfl⟩,q⟩
 | ref p=>
   cases rx;have e':(∃xs,lr X.K H p xs/\n=xs.length)\/∃xs,oU X.K H p xs/\n=xs.length:=e;rcases e' with⟨xs,hx,e'⟩ | ⟨xs,hx,e'⟩
   .subst e';obtain⟨its,r',pl,hz⟩:=I.list hx;have hlen:=r'.length;exact Calls.call_len_list pl.isList (by simp only[List.size_toArray];omega) ⟨.int xs.length,H,I.tok _,⟨_,by simp only[List.size_toArray];rw [hlen]⟩,q⟩
   .subst e';obtain⟨its,r',pl,hz⟩:=I.tuple hx;have hlen:=r'.length;exact len_tuple pl (by simp only[List.size_toArray];omega) ⟨.int xs.length,H,I.tok _,⟨_,by simp only[List.size_toArray];rw [hlen]⟩,q⟩
 | _=>exact(show False from e).elim
end
structure xu (h:Heap) (x dx C:Addr) (mA:WK):Prop where
 obj:h.get? x=some (PySem.W.instObj C dx)
 ns:h.Ns1 dx mA
 ne:dx≠x
theorem Ac{h:Heap}{dx:Addr}{mA:WK}(n:h.Ns1 dx mA):∃od,h.get? dx=some od/\∀name,PySem.W.lookIn name od=some (mA name):=by
 obtain⟨o,es,ep,ho,hd,hk,_,hm⟩:=n;refine⟨o,ho,fun name=>?_⟩
 have e:=hm name;unfold nsFind findBy at e;rw[<-Array.find?_toList] at e;unfold PySem.W.lookIn;rw[hd];dsimp only;split
 .rename_i y q;rw[q] at e;exact congrArg some e
 .rename_i q;rw[q] at e;have a:es.toList.any (·.refKey)=false:=by
   rw[List.any_eq_false];intro y hy;obtain⟨z,t,hkey⟩:=hk y (Array.mem_toList_iff.mp hy);simp [DictEntry.refKey,hkey]
  have a':¬es.toList.any (·.refKey)=true:=by rw[a];exact Bool.false_ne_true
  rw[if_neg a'];exact congrArg some e
theorem xu.look{x dx C:Addr}{mA:WK}(I:xu h x dx C mA):∃od,PySem.W.InstAt h x (PySem.W.instObj C dx) C (some od)/\∀name,PySem.W.lookIn name od=some (mA name):=
 let⟨od,ho,hl⟩:=Ac I.ns
 ⟨od,⟨I.obj,rfl,rfl,ho⟩,hl⟩
section
variable {prog:Program} {w:World} {A:Around} {E:WG} {s:Shared} {K:W.Frag} {x dx C f:Addr} {mA:WK} {name:Str} {v:Value}
theorem get_map{expr:Bool}{Q:WG}(X:K.In s.heap)(I:xu s.heap x dx C mA)(hg:PySem.W.plainGet K C name=true)(hh:PySem.W.hasDictIn K C=true)
 (ha:PySem.W.findIn K (.ref C) name=some none) (hv:mA name=some v) (UC:PySem.W.handedIn v=true) (h:Q v {s with toks:=s.toks+1}) :
 wpAny (model prog w) A (getAttr (.ref x) name expr) Q E s:=by
 obtain⟨od,J,hl⟩:=I.look;exact PySem.W.get_value X J (PySem.W.plainGet_of hg).1 (PySem.W.findObj_own hh ha rfl (by rw[hl,hv])) UC h
theorem BP{pl:Sem Bool}{Q:Value × List Value->Shared->Prop}(X:K.In s.heap)(I:xu s.heap x dx C mA)(hg:PySem.W.plainGet K C name=true)
 (hf:PySem.W.findIn K (.ref C) name=some (some (.ref f))) (ht:PySem.W.isFn K (.ref f)=true) (hv:mA name=none) (h:Q (.ref f,[.ref x]) s) :
 wpAny (model prog w) A (getMethod (.ref x) name pl) Q E s:=by
 obtain⟨od,J,hl⟩:=I.look;exact PySem.W.method_fn X J (PySem.W.plainGet_of hg).1 (PySem.W.plainGet_of hg).2 hf (beq_iff_eq.mp ht) (by show(PySem.W.lookIn name od).map (·.isSome)=some false;rw [hl,hv];rfl) h
theorem EL{ns:List Str}{Q:Unit->Shared->Prop}(X:K.In s.heap)(I:xu s.heap x dx C mA)
 (hs:PySem.W.findIn K (.ref C) "__setattr__"=some (some (.builtin "object.__setattr__"))) (hp:PySem.W.plainOver K C=true) (ht:PySem.W.takerIn K C name=some none) (hh:PySem.W.hasDictIn K C=true)
 (hw:PySem.Within mA ns) (hsz:ns.length<=sizeLine)
 (h:∀h',xu h' x dx C (fun y=>if y=name then some v else mA y)->Heap.SameBut dx s.heap h'->Q () {s with heap:=h',toks:=s.toks+2}) :
 wpAny (model prog w) A (setAttr (.ref x) name v) Q E s:=by
 obtain⟨od,J,hl⟩:=I.look;refine PySem.W.set_plain X J hs (PySem.W.osa_open (s:={s with toks:=s.toks+1}) (r:=none) X J hp ht fun b=>?_)
 obtain⟨cd,hc,Gn⟩:=PySem.W.any_some hh;have hx:s.heap.get? x=some ⟨.ref C,some dx, .plain,#[]⟩:=I.obj;refine wpAny_bind (wpAny_pure (wpAny_bind (wpAny_bind (wpAny_loadPart hx (wpAny_bind (PySem.W.Looks.here (s:={s with toks:=s.toks+1}) (PySem.W.looks_clsIn X hc) ?_))))))
 rw[Gn];refine wpAny_pure (a:=some dx) (wpAny_bind (wpAny_pure (wpAny_bind ?_)));refine wpAny_nsSet1 (s:={s with toks:=s.toks+1}) I.ns fun h' MZ RW=>?_
 obtain⟨oD,esD,epD,hoD,hdD,hcD⟩:=MZ.count (PySem.Within.cons name v hw);refine wpAny_bind (wpAny_lookBehind hoD (by rw[hdD];exact pastItsLine_dict (Nat.le_trans hcD (by rw[List.length_cons];omega))) ?_)
 exact wpAny_pure (h _ ⟨(RW.2 _ (Ne.symm I.ne)).trans I.obj,MZ,I.ne⟩ RW)
theorem CQ{R:Result->Shared->Prop}{vs:List Value}{kw:List (Str × Value)}(X:K.In s.heap)(hm:PySem.W.makesIn K C=true)
 (hi:PySem.W.findIn K (.ref C) "__init__"=some (some (.ref f))) (hf:PySem.W.typeIn K (.ref f)=some (.type "function"))
 (h:codeAny (model prog w) (A.under (.builtin "type.__call__" ⟨.ref C ::vs,kw⟩)) (.call (.ref f) ⟨.ref (s.heap.objs.size+1) ::vs,kw⟩) (PySem.W.InitBack (s.heap.objs.size+1) R)
   {s with heap:=(s.heap.push PySem.W.emptyDict).push (PySem.W.instObj C s.heap.objs.size)}) :
 codeAny (model prog w) A (.call (.ref C) ⟨vs,kw⟩) R s:=by
 obtain⟨hh,g,d,t,os⟩:=s;exact PySem.W.make_core (PySem.W.makes_of X hm) (PySem.W.looks_findIn X hi) (fun self=>PySem.W.bind_fn X self hf) (.inl rfl) h
end
def jz(f:Str)(v:V):List (Str × V)->List (Str × V)
 | []=>[(f,v)]
 | (g,x) ::r=>if g=f then(g,v) ::r else(g,x) ::jz f v r
theorem pE(f g:Str)(v:V):∀fs:List (Str × V),(jz f v fs).lookup g=if g=f then some v else fs.lookup g
 | []=>by
   show List.lookup g [(f,v)]=_;by_cases h:g=f
   .have hb:(g==f)=true:=beq_iff_eq.mpr h;simp only[List.lookup,hb,if_pos h]
   .have hb:(g==f)=false:=beq_eq_false_iff_ne.mpr h;simp only[List.lookup,hb,if_neg h]
 | (k,x) ::r=>by
   have ih:=pE f g v r;rw[show jz f v ((k,x) ::r)=(if k=f then(k,v) ::r else(k,x) ::jz f v r) from rfl]
   by_cases hk:k=f
   .rw [if_pos hk];by_cases h:g=k
    .have hb:(g==k)=true:=beq_iff_eq.mpr h;simp only[List.lookup,hb,if_pos (h.trans hk)]
    .have hb:(g==k)=false:=beq_eq_false_iff_ne.mpr h;simp only[List.lookup,hb,if_neg (fun e:g=f=>h (e.trans hk.symm))]
   .rw [if_neg hk];by_cases h:g=k
    .have hb:(g==k)=true:=beq_iff_eq.mpr h;simp only[List.lookup,hb,if_neg (fun e:g=f=>hk (h.symm.trans e))]
    .have hb:(g==k)=false:=beq_eq_false_iff_ne.mpr h;simp only[List.lookup,hb];exact ih
theorem oQ(f:Str)(v:V):∀fs:List (Str × V),f∈(jz f v fs).map (·.1)/\∀g,g∈fs.map (·.1)->g∈(jz f v fs).map (·.1)
 | []=>⟨by simp [jz],fun g h=>by simp at h⟩
 | (k,x) ::r=>by
   obtain⟨i1,i2⟩:=oQ f v r;rw[show jz f v ((k,x) ::r)=(if k=f then(k,v) ::r else(k,x) ::jz f v r) from rfl]
   by_cases hk:k=f
   .rw [if_pos hk];subst hk;exact⟨by simp,fun g h=>by simpa using h⟩
   .rw [if_neg hk];refine⟨?_,fun g h=>?_⟩
    .rw [List.map_cons];exact List.mem_cons_of_mem _ i1
    .rw [List.map_cons] at h ⊢;rcases List.mem_cons.mp h with e | e
     .exact List.mem_cons.mpr (.inl e)
     .exact List.mem_cons_of_mem _ (i2 g e)
theorem pz(f:Str)(v:V):∀fs:List (Str × V),(jz f v fs).length<=fs.length+1
 | []=>by simp [jz]
 | (k,x) ::r=>by
   have ih:=pz f v r;rw[show jz f v ((k,x) ::r)=(if k=f then(k,v) ::r else(k,x) ::jz f v r) from rfl]
   by_cases hk:k=f
   .rw [if_pos hk,List.length_cons,List.length_cons];omega
   .rw [if_neg hk,List.length_cons,List.length_cons];omega
theorem kh.some_of{v:V}{o:Option Value}(r:kh (some v) o):∃u,o=some u/\RelV v u:=by
 cases o with
 | none=>exact(show False from r).elim
 | some u=>exact⟨u,rfl,r⟩
theorem kh.none_of{o:Option Value}(r:kh none o):o=none:=by
 cases o with
 | none=>rfl
 | some u=>exact(show False from r).elim
theorem zF{v:V}{u:Value}(r:RelV v u):PySem.W.handedIn u=true:=by
 cases v with
 | cz=>cases(show u=Value.none from r);rfl
 | bl b=>cases(show u=Value.bool b from r);rfl
 | int i=>obtain⟨t,e⟩:=(show ∃t,u=Value.int i t from r);cases e;rfl
 | str x=>obtain⟨t,e⟩:=(show ∃t,u=Value.str x t from r);cases e;rfl
 | byt b=>obtain⟨t,e⟩:=(show ∃t,u=Value.bytes b t from r);cases e;rfl
 | flt b=>obtain⟨t,e⟩:=(show ∃t,u=Value.float b t from r);cases e;rfl
 | ref a=>cases(show u=Value.ref a from r);rfl
 | ty n=>cases(show u=Value.type n from r);rfl
section
variable {P:Program} {w:World} {H H':Hp} {h h':Heap} {a C dx:Addr} {fs Kn:List (Str × V)}
theorem p_(hok:mh P w H h)(e:H a=some (.ins C dx fs)):∃mA,xu h a dx C mA/\(∀f,kh (fs.lookup f) (mA f))/\PySem.Within mA (fs.map (·.1))/\fs.length<=1000/\H dx=some (.own a):=by
 obtain⟨d,z,ne,ob,mA,n,r,q⟩:=(show c_ P w H h a (.ins C dx fs) from hok a _ e)
 exact⟨mA,⟨ob,n,ne⟩,r,q,z,d⟩
end
structure vt (K:W.Frag) (C:Addr):Prop where
 pg:PySem.W.plainGet K C Str.empty=true
 hd:PySem.W.hasDictIn K C=true
 po:PySem.W.plainOver K C=true
 sa:PySem.W.findIn K (.ref C) "__setattr__"=some (some (.builtin "object.__setattr__"))
theorem vt.get{K:W.Frag}{C:Addr}(c:vt K C)(f:Str):PySem.W.plainGet K C f=true:=c.pg
def c9(K:W.Frag)(C:Addr)(f:Str):Prop:=PySem.W.findIn K (.ref C) f=some none
theorem c9.LP{K:W.Frag}{C:Addr}(n:c9 K C f):PySem.W.takerIn K C f=some none:=by
 unfold PySem.W.takerIn;rw[show PySem.W.findIn K (.ref C) f=some none from n]
 rfl
structure R7 (K:W.Frag) (C:Addr) (f:Str) (v:V) (u:Value):Prop where
 at_:PySem.W.findIn K (.ref C) f=some (some u)
 rel:RelV v u
 get:PySem.W.specialIn K u "__get__"=some none
 cp:PySem.W.copiedNames.contains f=false
structure Meth (K:W.Frag) (C:Addr) (m:Str) (f:Addr):Prop where
 at_:PySem.W.findIn K (.ref C) m=some (some (.ref f))
 fn:PySem.W.isFn K (.ref f)=true
 kp:PySem.W.keepIn K (.ref f)=true
section
variable {X:Cx} {pins:WD} {σ:St} {H:Hp} {s:Shared} {a C dx:Addr} {fs:List (Str × V)} {f:Str} {v:V} {A:Around} {E:WG}
theorem xW{b:Bool}{Q:WG}(I:Inv X pins σ H s)(e:H a=some (.ins C dx fs))(c:vt X.K C)(n:c9 X.K C f)(l:fs.lookup f=some v)
 (h:∀u s',Inv X pins σ H s'->RelV v u->Q u s'):wpAny (model X.prog X.w) A (getAttr (.ref a) f b) Q E s:=by
 obtain⟨mA,O,r,_,_,_⟩:=p_ I.hok e;obtain⟨u,hu,ru⟩:=kh.some_of (v:=v) (o:=mA f) (by rw[<-l];exact r f)
 exact get_map I.mS O (c.get f) c.hd n hu (zF ru) (h u _ (I.tok _) ru)
theorem xy{m:Str}{g:Addr}{pl:Sem Bool}{Q:Value × List Value->Shared->Prop}(I:Inv X pins σ H s)(e:H a=some (.ins C dx fs))(c:vt X.K C)(k:Meth X.K C m g)(l:fs.lookup m=none)
 (h:Q (.ref g,[.ref a]) s):wpAny (model X.prog X.w) A (getMethod (.ref a) m pl) Q E s:=by
 obtain⟨mA,O,r,_,_,_⟩:=p_ I.hok e;have hn:mA m=none:=kh.none_of (by rw[<-l];exact r m)
 exact BP I.mS O (c.get m) k.at_ k.fn hn h
theorem xn{y:V}{u:Value}{Q:Unit->Shared->Prop}(I:Inv X pins σ H s)(e:H a=some (.ins C dx fs))(c:vt X.K C)(n:c9 X.K C f)(hl:fs.length < 1000)(ry:RelV y u)
 (h:∀s',Inv X pins σ (upd H a (.ins C dx (jz f y fs))) s'->Q () s'):wpAny (model X.prog X.w) A (setAttr (.ref a) f u) Q E s:=by
 obtain⟨mA,O,r,wi,_,ho⟩:=p_ I.hok e;have hz:(fs.map (·.1)).length<=sizeLine:=by rw[List.length_map,sizeLine_eq];omega
 refine EL I.mS O c.sa c.po n.LP c.hd wi hz fun h' O' sb=>h _ ?_
 have hd:∃o,h'.get? dx=some o:=let⟨o,_,_,e',_⟩:=O'.ns;⟨o,e'⟩
 refine I.write (x:=a) (e:=dx) (by rw[e];exact True.intro) (.inr ho) (fun b q hb z=>(sb.2 b hb).trans z) hd ?_
 refine⟨by rw[bb O.ne];exact ho,?_,O.ne,O'.obj,_,O'.ns,fun g=>?_,fun g hg=>?_⟩
 .have:=pz f y fs;omega
 .show kh ((jz f y fs).lookup g) (if g=f then some u else mA g)
  rw[pE];by_cases q:g=f
  .rw [if_pos q,if_pos q];exact ry
  .rw [if_neg q,if_neg q];exact r g
 .by_cases q:g=f
  .rw [q];exact(oQ f y fs).1
  .refine(oQ f y fs).2 g (wi g fun z=>hg ?_)
   show(if g=f then some u else mA g)=none
   rw[if_neg q];exact z
theorem Inv.made(I:Inv X pins σ H s):Inv X pins σ (upd (upd H s.heap.objs.size (.own (s.heap.objs.size+1))) (s.heap.objs.size+1) (.ins C s.heap.objs.size []))
 {s with heap:=(s.heap.push PySem.W.emptyDict).push (PySem.W.instObj C s.heap.objs.size)}:=by
 have e1:(s.heap.push PySem.W.emptyDict).get? s.heap.objs.size=some PySem.W.emptyDict:=Heap.get?_push_size s.heap rfl;have e2:((s.heap.push PySem.W.emptyDict).push (PySem.W.instObj C s.heap.objs.size)).get? (s.heap.objs.size+1)=some (PySem.W.instObj C s.heap.objs.size):=by
  have:=Heap.get?_push_size (s.heap.push PySem.W.emptyDict) (o:=PySem.W.instObj C s.heap.objs.size) rfl
  rwa [Heap.size_push] at this
 have e3:(s.heap.push PySem.W.emptyDict).Ns s.heap.objs.size (fun _=>none):=⟨PySem.W.emptyDict,#[],_,e1,rfl,(fun e he=>absurd he (by simp)),fun _=>rfl⟩
 have I1:=I.laid (a:=s.heap.objs.size) (o:= .own (s.heap.objs.size+1)) (h':=s.heap.push PySem.W.emptyDict) (t':=s.toks) (fun b u q=>Heap.get?_push_of_some _ q) (Nat.le_refl _) ⟨_,e1⟩
 refine I1.laid (a:=s.heap.objs.size+1) (o:= .ins C s.heap.objs.size []) (t':=s.toks) (fun b u q=>Heap.get?_push_of_some _ q) (Nat.le_of_eq (Heap.size_push _ _)) ?_
 have ne:s.heap.objs.size≠s.heap.objs.size+1:=Nat.ne_of_lt (Nat.lt_succ_self _);refine⟨by rw[bb ne,aX],Nat.zero_le _,ne,e2,fun _=>none,(Heap.Ns1.of_empty e3).at fun o q=>Heap.get?_push_of_some _ q,fun _=>True.intro,fun y hy=>absurd rfl hy⟩
theorem EO{prog:Program}{w:World}{env:Env}{e:Expr}{f:Str}{pos:Pos}{s:Shared}{Q:WG}(hb:attributeBase e f env (eval e env)=eval e env)
 (h:wpAny (model prog w) A (eval e env) (fun o s₁=>wpAny (model prog w) A (getAttr o f true) Q E s₁) E s):wpAny (model prog w) A (eval (.Attribute e f pos) env) Q E s:=
 Attribute_any_ h (by rw[arm_eval_Attribute,hb])
end
def Nr(K:W.Frag)(ta:TE)(f:Str):TE:=fun σ H Q=>ta σ H fun x H1=>∃a C dx fs v,x= .ref a/\H1 a=some (.ins C dx fs)/\vt K C/\c9 K C f/\fs.lookup f=some v/\Q v H1
def TF(K:W.Frag)(ta:TE)(f:Str):TE:=fun σ H Q=>ta σ H fun x H1=>∃a C dx fs v u,x= .ref a/\H1 a=some (.ins C dx fs)/\vt K C/\R7 K C f v u/\fs.lookup f=none/\Q v H1
def NI(K:W.Frag)(ta tv:TE)(f:Str):TS:=fun D σ H=>tv σ H fun y H1=>ta σ H1 fun x H2=>∃a C dx fs,x= .ref a/\H2 a=some (.ins C dx fs)/\vt K C/\c9 K C f/\fs.length < 1000/\
 D.nx σ (upd H2 a (.ins C dx (jz f y fs)))
def Uo(X:Cx)(op:Operator)(rd:V->V->Hp->VK->Prop):Prop:=
 ∀(pins:WD) (s:Shared) (σ:St) (H:Hp) (x y:V) (u v:Value) (Q:VK),Inv X pins σ H s->RelV x u->RelV y v->rd x y H Q->wpAny (model X.prog X.w) X.A (inplaceOp op u v) (EP X pins σ Q) X.xe s
def MG(K:W.Frag)(ta tv:TE)(rd:V->V->Hp->VK->Prop)(f:Str):TS:=fun D σ H=>ta σ H fun x H1=>∃a C dx fs v,x= .ref a/\H1 a=some (.ins C dx fs)/\vt K C/\c9 K C f/\fs.lookup f=some v/\
 tv σ H1 fun y H2=>rd v y H2 fun z H3=>∃dx' Kn,H3 a=some (.ins C dx' Kn)/\Kn.length < 1000/\D.nx σ (upd H3 a (.ins C dx' (jz f z Kn)))
section
variable {X:Cx} {o e value:Expr} {f:Str} {pos pos' DI:Pos} {ta tv:TE}
theorem JB(he:PE X e ta)(hb:attributeBase e f X.env (eval e X.env)=eval e X.env):PE X (.Attribute e f pos) (Nr X.K ta f):=by
 intro pins s σ H Q I h;refine EO hb (cO (he pins s σ H _ I h) fun u s1 ⟨x,H1,I1,rx,a,C,dx,fs,v,ex,ea,c,n,l,q⟩=>?_)
 subst ex;obtain rfl:u=Value.ref a:=rx;exact xW I1 ea c n l fun u' s2 I2 ru=>⟨v,H1,I2,ru,q⟩
theorem Jd(ha:PE X o ta)(hv:PE X value tv)(hs:swapsWith value (some (.Attribute o f pos')) pos.line X.env=pure false):PS X (.Assign [.Attribute o f pos'] value pos) (NI X.K ta tv f):=by
 intro pins s σ H D I h;refine plainObj_wpAny_Assign_Attribute (cO (hv pins s σ H _ I h) fun u s1 ⟨y,H1,I1,ry,q⟩=>cO (ha pins s1 σ H1 _ I1 q) fun ov s2 ⟨x,H2,I2,rx,a,C,dx,fs,ex,ea,c,n,l,q2⟩=>?_) hs
 subst ex;obtain rfl:ov=Value.ref a:=rx;exact xn I2 ea c n l ry fun s3 I3=>⟨σ,_,I3,q2⟩
def R1:V->V->Hp->VK->Prop:=fun x y H Q=>∃i j,x= .int i/\y= .int j/\Q (.int (i+j)) H
def Sj:V->V->Hp->VK->Prop:=fun x y H Q=>∃i j,x= .int i/\y= .int j/\Q (.int (i - j)) H
end
section
variable {X:Cx} {pins:WD} {σ:St} {H:Hp} {s:Shared} {A:Around} {E:WG} {Q:WG} {c:Value} {b:Bool}
inductive pH (K:W.Frag) (H:Hp):V->Value->Prop where
 | cz:pH K H .cz (.type "NoneType")
 | bl (x:Bool):pH K H (.bl x) (.type "bool")
 | int (i:Int):pH K H (.int i) (.type "int")
 | str (x:Str):pH K H (.str x) (.type "str")
 | flt (x:UInt64):pH K H (.flt x) (.type "float")
 | lst {a:Addr} {xs:List V} (e:H a=some (.lst xs)):pH K H (.ref a) (.type "list")
 | kK {a:Addr} {o:Obj} {xs:List V} (e:H a=some (.kK o (.lst xs))):pH K H (.ref a) (.type "list")
 | tup {a:Addr} {xs:List V} (e:H a=some (.tup xs)):pH K H (.ref a) (.type "tuple")
 | dK {a:Addr} {ay:List (Key × V)} (e:H a=some (.dK ay)):pH K H (.ref a) (.type "dict")
 | dT {a:Addr} {ay:List (List Key × V)} (e:H a=some (.dT ay)):pH K H (.ref a) (.type "dict")
 | ins {a C dx:Addr} {fs:List (Str × V)} (e:H a=some (.ins C dx fs)) (cl:vt K C) (ha:PySem.W.findIn K (.ref C) "__class__"=some (some (.builtin "object.__class__")))
    (hn:PySem.W.specialIn K (.builtin "object.__class__") "__get__"=some (some (.builtin "getset_descriptor.__get__"))) (Hd:PySem.W.takesIn K (.builtin "object.__class__")=some true)
    (hm:PySem.W.mroIn K C (.type "object")=some true):pH K H (.ref a) (.ref C)
theorem mi{x:V}{u t:Value}(I:Inv X pins σ H s)(rx:RelV x u)(ty:pH X.K H x t)(e:PySem.W.kitOne X.K t c=some b)(h:∀tk,Q (.bool b) {s with toks:=tk}) :
 wpAny (model X.prog X.w) A (call (.builtin "isinstance") [u,c]) Q E s:=by
 cases ty with
 | cz=>cases(show u=Value.none from rx);exact PySem.W.kia_one PySem.W.kitx_none I.mS True.intro e (fun z=>nomatch z) h
 | bl y=>cases(show u=Value.bool y from rx);exact PySem.W.kia_one PySem.W.kitx_bool I.mS True.intro e (fun z=>nomatch z) h
 | int i=>obtain⟨t,q⟩:=(show ∃t,u=Value.int i t from rx);cases q;exact PySem.W.kia_one PySem.W.kitx_int I.mS True.intro e (fun z=>nomatch z) h
 | str y=>obtain⟨t,q⟩:=(show ∃t,u=Value.str y t from rx);cases q;exact PySem.W.kia_one PySem.W.kitx_str I.mS True.intro e (fun z=>nomatch z) h
 | flt y=>obtain⟨t,q⟩:=(show ∃t,u=Value.float y t from rx);cases q;exact PySem.W.kia_one PySem.W.kitx_float I.mS True.intro e (fun z=>nomatch z) h
 | @lst a xs ea=>
   cases(show u=Value.ref a from rx)
   obtain⟨_,_,n,_,h1⟩:=(show c_ X.prog X.w H s.heap a (.lst xs) from I.hok a _ ea)
   exact PySem.W.kia_one PySem.W.kitx_list I.mS ⟨_,h1,rfl⟩ e (fun z=>nomatch z) h
 | @kK a ob xs ea=>
   cases(show u=Value.ref a from rx)
   obtain⟨_,_,_,n,_,h1⟩:=(show c_ X.prog X.w H s.heap a (.kK ob (.lst xs)) from I.hok a _ ea)
   exact PySem.W.kia_one PySem.W.kitx_list I.mS ⟨_,h1,rfl⟩ e (fun z=>nomatch z) h
 | @tup a xs ea=>
   cases(show u=Value.ref a from rx)
   obtain⟨_,_,_,p⟩:=(show c_ X.prog X.w H s.heap a (.tup xs) from I.hok a _ ea)
   obtain⟨o,h1,h2,_⟩:=p;exact PySem.W.kia_one PySem.W.kitx_tuple I.mS ⟨o,h1,h2⟩ e (fun z=>nomatch z) h
 | @dK a ay ea=>
   cases(show u=Value.ref a from rx)
   obtain⟨_,_,vs,_,p⟩:=(show c_ X.prog X.w H s.heap a (.dK ay) from I.hok a _ ea)
   obtain⟨o,es,ep,h1,h2,_⟩:=p;exact PySem.W.kia_one PySem.W.kitx_dict I.mS ⟨o,h1,h2.1⟩ e (fun z=>nomatch z) h
 | @dT a ay ea=>
   cases(show u=Value.ref a from rx)
   obtain⟨_,_,xs,_,o,es,ep,h1,h2,_⟩:=(show c_ X.prog X.w H s.heap a (.dT ay) from I.hok a _ ea)
   exact PySem.W.kia_one PySem.W.kitx_dict I.mS ⟨o,h1,h2.1⟩ e (fun z=>nomatch z) h
 | @ins a C dx fs ea cl ha hn Hd hm=>
   cases(show u=Value.ref a from rx)
   obtain⟨mA,O,_⟩:=p_ I.hok ea;obtain⟨od,J,_⟩:=O.look;exact PySem.W.kia_one (PySem.W.kitx_own (cl.get _) cl.hd ha hn Hd hm) I.mS J e (fun z=>nomatch z) h
end
structure dP (k:Nat) (A:Around):Prop where
 hd:A.handled=none
 dp:A.depth+3*k+5 < recursionLimit
 un:A.units+16*k+200 < cLine
theorem dP.mono{j k:Nat}(r:dP k A)(h:j<=k):dP j A:=⟨r.hd,by have:=r.dp;omega,by have:=r.un;omega⟩
theorem dP.deeper{k:Nat}{A:Around}(r:dP (k+1) A)(env:Env):dP k (A.deeper env):=
 ⟨r.hd,by have:=r.dp;show A.depth+1+3*k+5 < _;omega,by have:=r.un;show A.units+3+16*k+200 < _;omega⟩
theorem w6{A:Around}{C:Addr}{us:List Value}{kw:List (Str × Value)}:(A.under (.builtin "type.__call__" ⟨.ref C ::us,kw⟩)).depth=A.depth+1:=by
 first | rfl | simp [Around.under,Code.weight,Code.isCreation,Code.isGuard,Code.isCaller,Code.frames,Code.isFrame,guardIds]
theorem w9{A:Around}{C:Addr}{us:List Value}{kw:List (Str × Value)}:(A.under (.builtin "type.__call__" ⟨.ref C ::us,kw⟩)).units=A.units+1:=by
 first | rfl | simp [Around.under,Code.cUnits,Code.frames,Code.isFrame]
theorem dP.make{k:Nat}{A:Around}(r:dP (k+1) A)(C:Addr)(us:List Value)(kw:List (Str × Value)):dP k (A.under (.builtin "type.__call__" ⟨.ref C ::us,kw⟩)):=
 ⟨r.hd,by have:=r.dp;rw [w6];omega,by have:=r.un;rw [w9];omega⟩
theorem dP.depth{k:Nat}{A:Around}(r:dP k A):A.depth < recursionLimit:=by have:=r.dp;omega
theorem dP.units{k:Nat}{A:Around}(r:dP k A):A.units+64 < cLine:=by have:=r.un;omega
def LU:TA:=fun _ H Q=>Q [] H
def Ku(ta:TE)(tr:TA):TA:=fun σ H Q=>ta σ H fun x H1=>tr σ H1 fun xs H2=>Q (x ::xs) H2
section
variable {X:Cx} {e:Expr} {es:List Expr} {te:TE} {t:TA} {pos:Pos}
theorem fZ:PA X [] LU:=fun _ _ _ _ H Q I h=>Calls.spliced_nil ⟨[],H,I, .nil,h⟩
theorem de(ha:PE X e te)(hr:PA X es t)(hs:starEach (e ::es) X.env=(false,eval e X.env) ::starEach es X.env:=by rfl):PA X (e ::es) (Ku te t):=by
 intro pos pins s σ H Q I h;rw[hs];show wpAny _ _ (spliced ((false,eval e X.env) ::backTo pos (starEach es X.env))) _ _ s;refine Calls.spliced_cons (cO (ha pins s σ H _ I h) fun u s1 ⟨x,H1,I1,r1,q1⟩=>?_)
 exact cO (hr pos pins s1 σ H1 _ I1 q1) fun us s2 ⟨xs,H2,I2,r2,q2⟩=>⟨x ::xs,H2,I2, .cons r1 r2,q2⟩
def Oq(t:TA):TE:=fun σ H Q=>t σ H fun xs H1=>xs.length<=sizeLine/\∀p,H1 p=none->Q (.ref p) (upd H1 p (.tup xs))
def Nz(t:TA):TE:=fun σ H Q=>t σ H fun xs H1=>xs.length<=sizeLine/\∀p,H1 p=none->Q (.ref p) (upd H1 p (.lst xs))
theorem uA{x1}(h:PA X es t):PE X (.Tuple es x1 pos) (Oq t):=by
 intro pins s σ H Q I hq;refine wpAny_Tuple_spliced (cO (h pos pins s σ H _ I hq) fun us s1 ⟨xs,H1,I1,r,z,q⟩=>⟨by rw[<-r.length];exact z,?_⟩)
 have hf:H1 s1.heap.objs.size=none:=I1.hok.fresh (Nat.le_refl _);refine⟨.ref s1.heap.objs.size,upd H1 s1.heap.objs.size (.tup xs),I1.laid (t':=s1.toks) (fun b u e=>Heap.get?_push_of_some _ e) (Nat.le_refl _) ?_,rfl,q _ hf⟩
 exact⟨z,us,r,⟨_,Heap.get?_push_size _ rfl,rfl,_,rfl⟩⟩
theorem Ht(h:PA X es t):PE X (.List es pos) (Nz t):=by
 intro pins s σ H Q I hq;refine wpAny_List_spliced (cO (h pos pins s σ H _ I hq) fun us s1 ⟨xs,H1,I1,r,z,q⟩=>⟨by rw[<-r.length];exact z,?_⟩)
 have hf:H1 s1.heap.objs.size=none:=I1.hok.fresh (Nat.le_refl _);refine⟨.ref s1.heap.objs.size,upd H1 s1.heap.objs.size (.lst xs),I1.laid (t':=s1.toks) (fun b u e=>Heap.get?_push_of_some _ e) (Nat.le_refl _) ?_,rfl,q _ hf⟩
 exact⟨z,us,0,r,Heap.get?_push_size _ rfl⟩
end
abbrev Sp:=List V->Hp->VK->XK->Prop
abbrev AK:=List Env->Hp->Shared->XK->Value->Shared->Prop
structure wO (P:Program) (w:World) (K:W.Frag) (mg:WK) (base:Heap) (A:Around) (outer:List Env) (s:Shared) (H:Hp):Prop where
 frames:A.frames=some outer
 mod:Mod K mg base
 bs:∀b o,base.get? b=some o->s.heap.get? b=some o/\H b=none
 bsz:base.objs.size<=s.heap.objs.size
 oF:s.heap.FunFrames base outer
 frf:∀b∈pO outer,H b=none
 hok:mh P w H s.heap
 bare:AllBare s.gens
def CE(outer:List Env)(P:Program)(w:World)(H:Hp)(s:Shared)(Q:VK)(u:Value)(s':Shared):Prop:=
 ∃v H',s'.os=s.os/\AllBare s'.gens/\Un (pO outer) [] H H' s.heap s'.heap/\mh P w H' s'.heap/\RelV v u/\Q v H'
def CR(CX:AK)(outer:List Env)(P:Program)(w:World)(H:Hp)(s:Shared)(Q:VK)(E:XK)(r:Result)(s':Shared):Prop:=
 match r with
 | .ok (.ret u)=>CE outer P w H s Q u s'
 | .ok _=>False
 | .error e=>CX outer H s E e s'
structure f9 (P:Program) (w:World) (K:W.Frag) (mg:WK) (base:Heap) (CX:AK) (k:Nat) (f:Addr) (fd:FuncData) (ps:List Str) (sp:Sp):Prop where
 len:∀vs H Q E,sp vs H Q E->vs.length=ps.length
 run:∀(A:Around) (outer:List Env) (s:Shared) (H:Hp) (args:Args) (us:List Value) (vs:List V) (Q:VK) (E:XK),dP k A->wO P w K mg base A outer s H->BindsTo s fd args (ps.zip us)->Vals vs us->sp vs H Q E->
  codeAny (model P w) A (.call (.ref f) args) (CR CX outer P w H s Q E) s
theorem f9.imp{P:Program}{w:World}{K:W.Frag}{mg:WK}{base:Heap}{CX:AK}{k:Nat}{f:Addr}{fd:FuncData}{ps:List Str}{sp RC:Sp}(F:f9 P w K mg base CX k f fd ps sp)
 (h:∀vs H Q E,RC vs H Q E->sp vs H Q E):f9 P w K mg base CX k f fd ps RC:=
 ⟨fun vs H Q E q=>F.len vs H Q E (h _ _ _ _ q),fun A outer s H args us vs Q E hr he hb hv hs=>F.run A outer s H args us vs Q E hr he hb hv (h _ _ _ _ hs)⟩
theorem wO.make{K:W.Frag}{mg:WK}{outer:List Env}{s:Shared}(e:wO P w K mg base A outer s H)(C:Addr)(us:List Value)(kw:List (Str × Value)) :
 wO P w K mg base (A.under (.builtin "type.__call__" ⟨.ref C ::us,kw⟩)) outer s H:=⟨by first | exact e.frames | (simpa [Around.under,Code.envs,Code.isFrame,pushEnvs] using e.frames),e.mod,e.bs,e.bsz,e.oF,e.frf,e.hok,e.bare⟩
section
variable {X:Cx} {pins:WD} {σ:St} {H:Hp} {s s':Shared}
theorem Inv.K3(I:Inv X pins σ H s):wO X.prog X.w X.K X.mg X.base X.A X.stack s H:=
 ⟨I.ok.frames,I.ok.mod,I.bs,Nat.le_trans I.ok.bsz I.sz,I.stack,I.p9,I.hok,I.bare⟩
theorem Inv.after{Q:VK}{u:Value}(I:Inv X pins σ H s)(h:CE X.stack X.prog X.w H s Q u s'):EP X pins σ Q u s':=by
 obtain⟨v,H',os,bare,un,hok,r,q⟩:=h;obtain⟨hh,g,d,t,J4⟩:=s';obtain rfl:J4=s.os:=os;exact⟨v,H',I.call (h':=hh) (g':=g) (d':=d) (t':=t) (ch:=[]) un hok bare (fun b z=>absurd z (by simp)),r,q⟩
end
def KJ(sp:Sp)(uO:List V)(E:XK)(t:TA):TE:=fun σ H Q=>t σ H fun vs H1=>sp (vs++uO) H1 Q E
def LX(C:Addr)(m:Str)(sp:Sp)(uO:List V)(E:XK)(ta:TE)(t:TA):TE:=fun σ H Q=>ta σ H fun x H1=>∃a dx fs,x= .ref a/\H1 a=some (.ins C dx fs)/\fs.lookup m=none/\
 t σ H1 fun vs H2=>sp (x ::(vs++uO)) H2 Q E
def LS(C:Addr)(sp:Sp)(uO:List V)(E:XK)(t:TA):TE:=fun σ H Q=>t σ H fun vs H1=>∀x dx,H1 x=none->H1 dx=none->dx≠x->
 sp (.ref x ::(vs++uO)) (upd (upd H1 dx (.own x)) x (.ins C dx [])) (fun v H2=>v= .cz/\Q (.ref x) H2) E
def Binds(K:W.Frag)(fd:FuncData)(ps:List Str)(ds:List Value):Prop:=
 ∀(s:Shared) (us:List Value),K.In s.heap->(us++ds).length=ps.length->BindsTo s fd ⟨us,[]⟩ (ps.zip (us++ds))
theorem Binds.all{K:W.Frag}{fd:FuncData}{ps:List Str}(h:∀us:List Value,us.length=ps.length->bindArgs fd ⟨us,[]⟩=pure (ps.zip us)):Binds K fd ps []:=fun s us _ hl=>by
 rw[List.append_nil] at hl ⊢;exact .of_eq (h us hl)
def Passes(CX:AK)(X:Cx)(E:XK):Prop:=∀(pins:WD) (σ:St) (H:Hp) (s:Shared) (e:Value) (s':Shared),Inv X pins σ H s->CX X.stack H s E e s'->X.xe e s'
section
variable {X:Cx} {CX:AK} {k:Nat} {f C:Addr} {fd:FuncData} {ps:List Str} {sp:Sp} {uO:List V} {ds:List Value} {E:XK} {x m:Str} {p pos apos:Pos} {e o:Expr} {es:List Expr} {ta:TE} {t:TA}
theorem Dl{pins:WD}{σ:St}{H:Hp}{s:Shared}{Q:VK}{us:List Value}{vs:List V}(F:f9 X.prog X.w X.K X.mg X.base CX k f fd ps sp)(hr:dP k X.A)(hb:Binds X.K fd ps ds)(hd:Vals uO ds)(hx:Passes CX X E)
 (I:Inv X pins σ H s) (r:Vals vs us) (h:sp (vs++uO) H Q E):wpAny (model X.prog X.w) X.A (call (.ref f) us) (EP X pins σ Q) X.xe s:=by
 have r2:Vals (vs++uO) (us++ds):=r.append hd;have hl:(us++ds).length=ps.length:=by rw[<-r2.length];exact F.len _ _ _ _ h
 refine wpAny_call (codeAny_mono (F.run X.A X.stack s H ⟨us,[]⟩ (us++ds) (vs++uO) Q E hr I.K3 (hb s us I.mS hl) r2 h) fun r s' hq=>?_)
 cases r with
 | error e=>exact hx pins σ H s e s' I hq
 | ok fl=>
   cases fl with
   | ret u=>exact I.after hq
   | next=>exact False.elim hq
   | brk=>exact False.elim hq
   | cont=>exact False.elim hq
theorem yX(F:f9 X.prog X.w X.K X.mg X.base CX k f fd ps sp)(hr:dP k X.A)(hg:Gl X x)(hm:X.mg x=some (.ref f))(hk:PySem.W.keepIn X.K (.ref f)=true)(hb:Binds X.K fd ps ds)(hd:Vals uO ds)(hx:Passes CX X E)
 (ha:PA X (e ::es) t) (jF:(x==("__debug__":Str))=false:=by decide) (he:starEach (e ::es) X.env=(false,eval e X.env) ::starEach es X.env:=by rfl) (kP:(backTo pos (starEach es X.env)).any (·.1)=false:=by rfl) :
 PE X (.Call (.Name x p) (e ::es) [] pos) (KJ sp uO E t):=by
 intro pins s σ H Q I h;refine wpAny_Call_Name_kw (pV I hg hm ?_ jF);refine PySem.W.callWith_K (h₀:=X.base) I.ok.mod.kin hk (cO (ha pos pins s σ H _ I h) fun us s1 ⟨vs,H1,I1,r,q⟩=>⟨I1.mS,?_⟩) he kP
 exact Dl F hr hb hd hx I1 r q
theorem Fz{pl:Sem Bool}(he:PE X o ta)(c:vt X.K C)(hm:Meth X.K C m f)(F:f9 X.prog X.w X.K X.mg X.base CX k f fd ps sp)(hr:dP k X.A)(hb:Binds X.K fd ps ds)(hd:Vals uO ds)(hx:Passes CX X E)(ha:PA X (e ::es) t)
 (DL:starEach (e ::es) X.env=(false,eval e X.env) ::starEach es X.env:=by rfl) (kP:(backTo pos (starEach es X.env)).any (·.1)=false:=by rfl)
 (ht:eval (.Call (.Attribute o m apos) (e ::es) [] pos) X.env=(do
   let ov <-eval o X.env
   standAt apos.atName
   let(f,first) <-holding [ov] (getMethod ov m pl)
   callWith pos f first (backTo pos (starEach (e ::es) X.env)) (backToKw pos (keywordEach [] X.env))):=by rfl) :
 PE X (.Call (.Attribute o m apos) (e ::es) [] pos) (LX C m sp uO E ta t):=by
 intro pins s σ H Q I h;refine PySem.W.methodCall_KW (pl:=pl) (cO (he pins s σ H _ I h) fun u s1 ⟨x,H1,I1,rx,a,dx,fs,ex,ea,l,q⟩=>?_) ht
 subst ex;obtain rfl:u=Value.ref a:=rx;refine xy I1 ea c hm l ?_;refine PySem.W.callWith_K (first:=[.ref a]) (h₀:=X.base) I.ok.mod.kin hm.kp (cO (ha pos pins s1 σ H1 _ I1 q) fun us s2 ⟨vs,H2,I2,r,q2⟩=>⟨I2.mS,?_⟩) DL kP
 exact Dl (us:= .ref a ::us) (vs:= .ref a ::vs) F hr hb hd hx I2 (.cons rfl r) q2
structure Mk (K:W.Frag) (C f:Addr):Prop where
 makes:PySem.W.makesIn K C=true
 init:PySem.W.findIn K (.ref C) "__init__"=some (some (.ref f))
 fn:PySem.W.isFn K (.ref f)=true
 kp:PySem.W.keepIn K (.ref C)=true
theorem Bz{pins:WD}{σ:St}{H:Hp}{s:Shared}{Q:VK}{us:List Value}{vs:List V}(M:Mk X.K C f)(F:f9 X.prog X.w X.K X.mg X.base CX k f fd ps sp)(hr:dP (k+1) X.A)(hb:Binds X.K fd ps ds)(hd:Vals uO ds)
 (hx:Passes CX X E) (I:Inv X pins σ H s) (r:Vals vs us)
 (h:∀x dx,H x=none->H dx=none->dx≠x->sp (.ref x ::(vs++uO)) (upd (upd H dx (.own x)) x (.ins C dx [])) (fun v H2=>v= .cz/\Q (.ref x) H2) E) :
 wpAny (model X.prog X.w) X.A (call (.ref C) us) (EP X pins σ Q) X.xe s:=by
 have hq:=h (s.heap.objs.size+1) s.heap.objs.size (I.hok.fresh (Nat.le_succ _)) (I.hok.fresh (Nat.le_refl _)) (Nat.ne_of_lt (Nat.lt_succ_self _));have I2:=Inv.made (C:=C) I;have r2:Vals (V.ref (s.heap.objs.size+1) ::(vs++uO)) (Value.ref (s.heap.objs.size+1) ::(us++ds)):= .cons rfl (r.append hd);have hl:(Value.ref (s.heap.objs.size+1) ::us++ds).length=ps.length:=by
  have e:=r2.length;rw[F.len _ _ _ _ hq] at e;exact e.symm
 refine wpAny_call (CQ (f:=f) I.mS M.makes M.init (beq_iff_eq.mp M.fn) (codeAny_mono (F.run _ X.stack _ _ ⟨Value.ref (s.heap.objs.size+1) ::us,[]⟩ (Value.ref (s.heap.objs.size+1) ::(us++ds)) _ _ E (hr.make C us [])
  (I2.K3.make C us []) (hb _ (Value.ref (s.heap.objs.size+1) ::us) I2.mS hl) r2 hq) fun r s' Mv=>?_))
 cases r with
 | error e=>exact hx pins σ _ _ e s' I2 Mv
 | ok fl=>
   cases fl with
   | ret u=>
     obtain⟨v,H',I3,rv,ev,q3⟩:=I2.after Mv;subst ev;exact⟨rv,⟨V.ref (s.heap.objs.size+1),H',I3,rfl,q3⟩⟩
   | next=>exact False.elim Mv
   | brk=>exact False.elim Mv
   | cont=>exact False.elim Mv
theorem BX(M:Mk X.K C f)(F:f9 X.prog X.w X.K X.mg X.base CX k f fd ps sp)(hr:dP (k+1) X.A)(hg:Gl X x)(hm:X.mg x=some (.ref C))(hb:Binds X.K fd ps ds)(hd:Vals uO ds)(hx:Passes CX X E)
 (jF:(x==("__debug__":Str))=false:=by decide):PE X (.Call (.Name x p) [] [] pos) (LS C sp uO E LU):=by
 intro pins s σ H Q I h;refine wpAny_Call_Name_kw (pV I hg hm ?_ jF);exact PySem.W.callWith_K0 I.mS M.kp (Bz (us:=[]) M F hr hb hd hx I .nil h)
end
def PK(X:Cx)(RN:List Keyword)(t:TA):Prop:=
 ∀(pos:Pos) (pins:WD) (s:Shared) (σ:St) (H:Hp) (Q:List V->Hp->Prop),Inv X pins σ H s->t σ H Q->wpAny (model X.prog X.w) X.A (evalAll ((backToKw pos (keywordEach RN X.env)).map (·.2))) (AP X pins σ Q) X.xe s
section
variable {X:Cx} {CX:AK} {k:Nat} {f C:Addr} {fd:FuncData} {ps ks:List Str} {sp:Sp} {E:XK} {x m:Str} {p pos apos UZ:Pos} {e o:Expr} {es:List Expr} {RN:List Keyword} {te ta:TE} {t tk:TA} {nm:Option Str}
structure Nu (K:W.Frag) (fd:FuncData) (ps ks:List Str) (g:List Value->List Value->List Value) (gV:List V->List V->List V):Prop where
 to:∀(s:Shared) (us ws:List Value),K.In s.heap->(g us ws).length=ps.length->BindsTo s fd ⟨us,ks.zip ws⟩ (ps.zip (g us ws))
 rel:∀{vs:List V} {us:List Value} {zs:List V} {ws:List Value},Vals vs us->Vals zs ws->Vals (gV vs zs) (g us ws)
def Nf(sp:Sp)(gV:List V->List V->List V)(E:XK)(t tk:TA):TE:=fun σ H Q=>t σ H fun vs H1=>tk σ H1 fun zs H2=>sp (gV vs zs) H2 Q E
variable {g:List Value->List Value->List Value} {gV:List V->List V->List V}
end
structure bc (N P:List Str) (sc:Scope):Prop where
 kind:sc.kind= .function
 co:sc.isCoroutine=false
 gen:sc.isGenerator=false
 nd:N.Nodup
 pre:N.take P.length=P
 par:∀x∈P,sc.names.lookup x=some .local\/sc.names.lookup x=some .cell
 nofree:∀y∈sc.names,y.2≠ .free
theorem sN{kindOf:Str->Option NameKind}:∀{binds:List (Str × Value)} {m:WK},(∀v,(x,v) ∉ binds)->bindL kindOf binds m x=m x
 | [],_,_=>rfl
 | (n,v) ::r,m,h=>by
   unfold bindL;rw[sN fun w hw=>h w (List.mem_cons_of_mem _ hw)]
   split
   .have:x≠n:=by rintro rfl;exact h v List.mem_cons_self
    simp [this]
   .rfl
theorem sj{kindOf:Str->Option NameKind}:∀{binds:List (Str × Value)} {m:WK},(∀v,(x,v) ∉ binds)->bindC kindOf binds m x=m x
 | [],_,_=>rfl
 | (n,v) ::r,m,h=>by
   unfold bindC;rw[sj fun w hw=>h w (List.mem_cons_of_mem _ hw)]
   split
   .rfl
   .have:x≠n:=by rintro rfl;exact h v List.mem_cons_self
    simp [this]
theorem sv{kindOf:Str->Option NameKind}{v:Value}:∀{P:List Str} {vs:List Value} {i:Nat} {m:WK},P.Nodup->P[i]? =some x->vs[i]? =some v->kindOf x=some .local->
 bindL kindOf (P.zip vs) m x=some v
 | [],_,_,_,_,h,_,_=>by simp at h
 | _ ::_,[],_,_,_,_,h,_=>by simp at h
 | p ::P,w ::vs,0,m,nd,h1,h2,hk=>by
   simp at h1 h2;subst h1;subst h2;show bindL kindOf ((p,w) ::P.zip vs) m p=_;unfold bindL;rw[sN fun v hv=>(List.nodup_cons.mp nd).1 (List.of_mem_zip hv).1,if_pos hk]
   simp
 | p ::P,w ::vs,i+1,m,nd,h1,h2,hk=>by
   show bindL kindOf ((p,w) ::P.zip vs) m x=_;unfold bindL;exact sv (i:=i) (List.nodup_cons.mp nd).2 (by simpa using h1) (by simpa using h2) hk
theorem sr{kindOf:Str->Option NameKind}{v:Value}:∀{P:List Str} {vs:List Value} {i:Nat} {m:WK},P.Nodup->P[i]? =some x->vs[i]? =some v->kindOf x≠some .local->
 bindC kindOf (P.zip vs) m x=some v
 | [],_,_,_,_,h,_,_=>by simp at h
 | _ ::_,[],_,_,_,_,h,_=>by simp at h
 | p ::P,w ::vs,0,m,nd,h1,h2,hk=>by
   simp at h1 h2;subst h1;subst h2;show bindC kindOf ((p,w) ::P.zip vs) m p=_;unfold bindC;rw[sj fun v hv=>(List.nodup_cons.mp nd).1 (List.of_mem_zip hv).1,if_neg hk]
   simp
 | p ::P,w ::vs,i+1,m,nd,h1,h2,hk=>by
   show bindC kindOf ((p,w) ::P.zip vs) m x=_;unfold bindC;exact sr (i:=i) (List.nodup_cons.mp nd).2 (by simpa using h1) (by simpa using h2) hk
def start(N:List Str)(vs:List V):St:=vs.map some++List.replicate (N.length - vs.length) none
def jZ(CX:AK)(P:Program)(w:World)(K:W.Frag)(mg:WK)(base:Heap)(N:List Str)(qual:Str)(scope:Scope)(f:Addr)(cd:Value)(A:Around)(outer:List Env)(s:Shared)(H:Hp)(E:XK):Cx where
 prog:=P
 w:=w
 K:=K
 mg:=mg
 base:=base
 A:=A.deeper (envOfC qual scope s.heap.objs.size f cd)
 N:=N
 s₀:=s
 H₀:=H
 env:=envOfC qual scope s.heap.objs.size f cd
 outer:=outer
 stack:=envOfC qual scope s.heap.objs.size f cd ::outer
 ex:=[]
 calm:=true
 fn:=fun _=>true
 pn:=[]
 xe:=fun e s'=>wpAny (model P w) (A.deeper (envOfC qual scope s.heap.objs.size f cd)) (leaving (envOfC qual scope s.heap.objs.size f cd) e) (fun _ PV=>CX outer H s E e PV) (fun e' PV=>CX outer H s E e' PV) s'
theorem qQ{sc:Scope}{n:Nat}(h:sc.names.lookup x=some .cell):∃c,(cellsFrom n sc.names []).lookup x=some c:=by
 have q:=PySem.W.cellsFrom_some sc.names n [] (.inl h);exact Option.isSome_iff_exists.mp q
theorem zW{CX:AK}{P:Program}{w:World}{K:W.Frag}{mg:WK}{base:Heap}{N ps:List Str}{qual:Str}{scope:Scope}{f:Addr}{cd:Value}{A:Around}{outer:List Env}{s s1:Shared}{H:Hp}{E:XK}{us:List Value}{vs:List V}
 (S:bc N ps scope) (hd:A.handled=none) (e0:wO P w K mg base A outer s H) (hl:vs.length=ps.length) (r:Vals vs us)
 (x:InCallC s s.heap.objs.size (bindL (envOfC qual scope s.heap.objs.size f cd).kindOf (ps.zip us) fun _=>none) (cellsFrom (s.heap.objs.size+1) scope.names []) (bindC (envOfC qual scope s.heap.objs.size f cd).kindOf (ps.zip us) fun _=>none) s1) :
 Inv (jZ CX P w K mg base N qual scope f cd A outer s H E) [] (start N vs) H s1:=by
 have kP:ps.length<=N.length:=by have:=congrArg List.length S.pre;rw [List.length_take] at this;omega
 obtain⟨h1,tk,rfl,hk⟩:=x.done;have noA:∀b:Addr,b ∉ (jZ CX P w K mg base N qual scope f cd A outer s H E).ex:=fun b z=>absurd (show b∈([]:List Addr) from z) (by simp)
 refine⟨⟨e0.mod,S.kind,rfl,rfl,Nat.le_refl _,fun y z c h1 h2=>?_,fun y hy=>?_,fun y c _ h=>?_,fun _=>hd,Around.frames_deeper e0.frames, .inr ⟨rfl,rfl⟩,fun b z=>absurd z (noA b),e0.bs,e0.bsz,fun b _ _=>noA b,fun b z=>absurd z (noA b),e0.oF,e0.frf⟩,
  rfl,e0.bare,Un.kept hk,⟨_,x.toInCall.ns,fun i y v h1 h2 h3=>?_⟩,fun y c h=>⟨_,x.cell y c h⟩,e0.hok.fresh (Nat.le_refl _),fun y c h=>?_,fun p hp=>absurd (show p∈([]:WD) from hp) (by simp),e0.hok.kept hk,?_⟩
 .exact name_of_addr x.apart (PySem.mem_of_lookup h1) (PySem.mem_of_lookup h2)
 .have hy:scope.names.lookup y=some .cell\/scope.names.lookup y=some .free:=hy;rcases hy with hy | hy
  .exact qQ hy
  .exact absurd rfl (S.nofree _ (PySem.mem_of_lookup hy))
 .exact Nat.le_of_lt (x.above y c (PySem.mem_of_lookup h))
 .have hi:i < vs.length:=by
   unfold start at h2;by_cases hi:i < vs.length
   .exact hi
   .rw [List.getElem?_append_right (by simpa using hi)] at h2
    rw[List.getElem?_replicate] at h2;split at h2 <;> cases h2
  have ha:vs[i]? =some v:=by
   unfold start at h2;rw[List.getElem?_append_left (by simpa using hi),List.getElem?_map] at h2
   cases e:vs[i]? with
   | none=>rw [e] at h2;cases h2
   | some a=>rw [e] at h2;cases h2;rfl
  obtain⟨u,hu,rv⟩:=r.get ha;have hp:ps[i]? =some y:=by
   rw[<-S.pre,List.getElem?_take_of_lt (by omega)];exact h1
  have ndP:ps.Nodup:=by rw[<-S.pre];exact S.nd.sublist (List.take_sublist _ _)
  refine⟨u,rv,?_⟩;rcases S.par y (List.mem_of_getElem? hp) with k | k
  .exact .inl ⟨k,sv ndP hp hu k⟩
  .obtain⟨c,e⟩:=qQ (n:=s.heap.objs.size+1) k;refine .inr ⟨.inl k,c,e,?_⟩;have q:=x.cell y c e;rw[sr ndP hp hu (by show scope.names.lookup y≠_;rw [k];decide)] at q
   exact q
 .exact e0.hok.fresh (Nat.le_of_lt (x.above y c (PySem.mem_of_lookup h)))
 .unfold start;show _=N.length;rw[List.length_append,List.length_map,List.length_replicate];omega
theorem GQ{CX:AK}{P:Program}{w:World}{K:W.Frag}{mg:WK}{base:Heap}{k:Nat}{f:Addr}{name qual:Str}{params:Arguments}{body:List Stmt}{scope:Scope}{dV kV doc pm dD ct oc:Value}{an od:Option Addr}
 {AM:Array (Option Value)} {N ps:List Str} {sp:Sp} (lk:K.lookup f=some ⟨oc,od, .func (PySem.W.fnOf name qual params body scope dV kV doc pm an dD ct),AM⟩) (rK:PySem.W.codeIn K dD qual=true) (S:bc N ps scope)
 (len:∀vs H Q E,sp vs H Q E->vs.length=ps.length)
 (jc:∀(A:Around) (outer:List Env) (s:Shared) (H:Hp) (vs:List V) (Q:VK) (E:XK),dP k (A.deeper (envOfC qual scope s.heap.objs.size f dD))->sp vs H Q E->
   ∃t,uo (jZ CX P w K mg base N qual scope f dD A outer s H E) body t/\t {nx:=fun _ H'=>Q .cz H',rt:=Q} (start N vs) H) :
 f9 P w K mg base CX (k+1) f (PySem.W.fnOf name qual params body scope dV kV doc pm an dD ct) ps sp:=by
 refine⟨len,fun A outer s H args us vs Q E hr e0 hb r Ha=>?_⟩
 have hl:=len _ _ _ _ Ha;have KX:K.In s.heap:=e0.mod.kin.keeps fun b o e=>(e0.bs b o e).1
 have lim:s.heap.NoLimit:=e0.mod.nolimit.keeps fun b o e=>(e0.bs b o e).1
 have hkind:∀y∈ps.zip us,scope.names.lookup y.1=some .local\/(scope.names.lookup y.1=some .cell/\((cellsFrom (s.heap.objs.size+1) scope.names []).lookup y.1).isSome=true):=fun⟨n,v⟩ hy=>by
  rcases S.par n (List.of_mem_zip hy).1 with q | q
  .exact .inl q
  .exact .inr ⟨q,PySem.W.cellsFrom_some _ _ _ (.inl q)⟩
 refine codeAny_call_function hr.depth (KX _ _ lk) rfl S.co S.gen rfl (PySem.W.codeRec_of KX rK) (hb _ _ _ _ ?_);refine wpAny_newFunctionEnv_cells S.kind hkind fun env he s1 x=>?_
 subst he;refine⟨lim.keeps x.toInCall.keep,codeAny_func ?_⟩;obtain⟨t,ht,hq⟩:=jc A outer s H vs Q E (hr.deeper _) Ha;have I:Inv (jZ CX P w K mg base N qual scope f dD A outer s H E) [] (start N vs) H s1:=zW S hr.hd e0 hl r x;refine wpAny_mono (ht [] s1 (start N vs) H _ I hq) (fun fl s' hs=>?_) fun e s' hs=>hs
 have fin:∀{cG:St} {H':Hp} {v:V} {u:Value},Inv (jZ CX P w K mg base N qual scope f dD A outer s H E) [] cG H' s'->RelV v u->Q v H'->CE outer P w H s Q u s':=
  fun {cG H' v u} J rv q=>⟨v,H',J.os,J.bare,J.base,J.hok,rv,q⟩
 cases fl with
 | ret u=>
   obtain⟨v,cG,H',J,rv,q⟩:=hs;exact fin J rv q
 | next=>
   obtain⟨cG,H',J,q⟩:=hs;exact fin (v:=V.cz) (u:=Value.none) J rfl q
 | brk=>
   obtain⟨_,_,_,q⟩:=hs;exact False.elim q
 | cont=>
   obtain⟨_,_,_,q⟩:=hs;exact False.elim q
section
variable {X:Cx} {x:Str} {p pos:Pos} {e:Expr} {es:List Expr} {t:TA} {id T:String} {r:List V->Hp->VK->Prop}
def QG(r:List V->Hp->VK->Prop)(t:TA):TE:=fun σ H Q=>t σ H fun vs H1=>r vs H1 Q
theorem nF(hc:iI X (.builtin id) r)(hg:Gl X x)(hm:X.mg x=none)(hv:bootBuiltins x=some (.builtin id))(ha:PA X (e ::es) t)(hn:x≠"__name__":=by decide)(jF:(x==("__debug__":Str))=false:=by decide)
 (he:starEach (e ::es) X.env=(false,eval e X.env) ::starEach es X.env:=by rfl) (kP:(backTo pos (starEach es X.env)).any (·.1)=false:=by rfl):PE X (.Call (.Name x p) (e ::es) [] pos) (QG r t):=by
 intro pins s σ H Q I h;refine wpAny_Call_Name_kw (qZ I hg hm hv ?_ hn jF);exact PyProof.Rows.callWith_builtin1 (cO (ha pos pins s σ H _ I h) fun us s1 ⟨vs,H1,I1,r1,q1⟩=>hc pins s1 σ H1 vs us Q I1 r1 q1) he kP
theorem sJ(hc:iI X (.type T) r)(hg:Gl X x)(hm:X.mg x=none)(hv:bootBuiltins x=some (.type T))(ha:PA X (e ::es) t)(hn:x≠"__name__":=by decide)(jF:(x==("__debug__":Str))=false:=by decide)
 (he:starEach (e ::es) X.env=(false,eval e X.env) ::starEach es X.env:=by rfl) (kP:(backTo pos (starEach es X.env)).any (·.1)=false:=by rfl):PE X (.Call (.Name x p) (e ::es) [] pos) (QG r t):=by
 intro pins s σ H Q I h;refine wpAny_Call_Name_kw (qZ I hg hm hv ?_ hn jF);exact PyProof.Rows.callWith_type1 (cO (ha pos pins s σ H _ I h) fun us s1 ⟨vs,H1,I1,r1,q1⟩=>hc pins s1 σ H1 vs us Q I1 r1 q1) he kP
end
section
variable {κ:Type} [DecidableEq κ]
def iV(ay:List (κ × V))(k:κ):Option V:=(ay.find? fun kv=>decide (kv.1=k)).map (·.2)
def putK(ay:List (κ × V))(k:κ)(v:V):List (κ × V):=
 if(ay.any fun kv=>decide (kv.1=k))=true then ay.map (fun kv=>if kv.1=k then(kv.1,v) else kv) else ay++[(k,v)]
def Bp(ay:List (κ × V))(k:κ):List (κ × V):=ay.filter fun kv=>decide (kv.1≠k)
theorem rB{p:κ × V}{r:List (κ × V)}{k:κ}(e:p.1=k):iV (p ::r) k=some p.2:=by simp [iV,List.find?_cons,e]
theorem qp{p:κ × V}{r:List (κ × V)}{k:κ}(e:¬p.1=k):iV (p ::r) k=iV r k:=by simp [iV,List.find?_cons,e]
theorem wc(k:κ):∀ay:List (κ × V),(ay.any fun kv=>decide (kv.1=k))=(iV ay k).isSome
 | []=>rfl
 | p ::r=>by
   rw[List.any_cons];by_cases e:p.1=k
   .simp only[rB e,decide_eq_true e,Bool.true_or,Option.isSome_some]
   .rw [qp e,decide_eq_false e,Bool.false_or];exact wc k r
theorem lW(ay:List (κ × V))(k:κ)(v:V):(putK ay k v).length<=ay.length+1:=by
 unfold putK;split
 .rw [List.length_map];omega
 .rw [List.length_append,List.length_cons,List.length_nil];omega
theorem kh.f7{o:Option V}{u:Option Value}(r:kh o u):o.isSome=u.isSome:=by
 cases o with
 | none=>cases u with
   | none=>rfl
   | some _=>exact(show False from r).elim
 | some _=>cases u with
   | none=>exact(show False from r).elim
   | some _=>rfl
theorem kh.getD{o:Option V}{u:Option Value}{d:V}{d':Value}(r:kh o u)(rd:RelV d d'):RelV (o.getD d) (u.getD d'):=by
 cases o with
 | none=>cases u with
   | none=>exact rd
   | some _=>exact(show False from r).elim
 | some _=>cases u with
   | none=>exact(show False from r).elim
   | some _=>exact r
theorem KV.val{ay:List (κ × V)}{vs:List (κ × Value)}(r:KV ay vs)(k:κ):kh (iV ay k) (valueAt vs k):=by
 unfold KV at r
 induction r with
 | nil=>exact True.intro
 | @cons p q ps qs h t ih=>
   obtain⟨h1,h2⟩:=h;by_cases e:p.1=k
   .have e':q.1=k:=h1.symm.trans e;have b:valueAt (q ::qs) k=some q.2:=by simp [valueAt,List.find?_cons,e']
    rw[rB e,b];exact h2
   .have e':¬q.1=k:=fun z=>e (h1.trans z)
    have b:valueAt (q ::qs) k=valueAt qs k:=by simp [valueAt,List.find?_cons,e']
    rw[qp e,b];exact ih
theorem KV.any{ay:List (κ × V)}{vs:List (κ × Value)}(r:KV ay vs)(k:κ):(ay.any fun kv=>decide (kv.1=k))=vs.any fun kv=>decide (kv.1=k):=by
 unfold KV at r
 induction r with
 | nil=>rfl
 | cons h t ih=>rw [List.any_cons,List.any_cons,ih,h.1]
theorem KV.Jl{ay:List (κ × V)}{vs:List (κ × Value)}(r:KV ay vs)(k:κ){y:V}{u:Value}(ry:RelV y u) :
 KV (ay.map fun kv=>if kv.1=k then(kv.1,y) else kv) (vs.map fun kv=>if kv.1=k then(kv.1,u) else kv):=by
 unfold KV at r ⊢
 induction r with
 | nil=>exact .nil
 | @cons p q ps qs h t ih=>
   rw[List.map_cons,List.map_cons];refine .cons ?_ ih;obtain⟨h1,h2⟩:=h;by_cases e:p.1=k
   .rw [if_pos e,if_pos (h1.symm.trans e)];exact⟨h1,ry⟩
   .rw [if_neg e,if_neg (fun z=>e (h1.trans z))];exact⟨h1,h2⟩
theorem KV.put{ay:List (κ × V)}{vs:List (κ × Value)}(r:KV ay vs)(k:κ){y:V}{u:Value}(ry:RelV y u):KV (putK ay k y) (stored vs k u):=by
 unfold putK stored;rw[r.any k];by_cases e:(vs.any fun kv=>decide (kv.1=k))=true
 .rw [if_pos e,if_pos e];exact r.Jl k ry
 .rw [if_neg e,if_neg e];exact Paired.snoc r ⟨rfl,ry⟩
theorem KV.length{ay:List (κ × V)}{vs:List (κ × Value)}(r:KV ay vs):ay.length=vs.length:=Paired.length r
end
theorem mP{k:Key}{u:Value}(r:RelV (kV k) u):(cL P w).is k u=true:=by
 cases k with
 | inl i=>obtain⟨t,e⟩:=(show ∃t,u=Value.int i t from r);subst e;exact uW P w i t
 | inr x=>obtain⟨t,e⟩:=(show ∃t,u=Value.str x t from r);subst e;exact lS P w x t
theorem sW:∀{ks:List Key} {us:List Value},Vals (ks.map kV) us->ItemsAre (cL P w) ks us
 | [],_,r=>by rw[List.map_nil] at r;cases r;exact .nil
 | k ::ks,_,r=>by
   rw[List.map_cons] at r;cases r with
   | cons h t=>exact .cons (mP h) (sW t)
abbrev KT(H:Hp):List (List Key × V)->List (List Key × Addr × Value)->Prop:=Paired fun p q=>p.1=q.1/\H q.2.1=some (.tup (p.1.map kV))/\RelV p.2 q.2.2
theorem KT.val{ay:List (List Key × V)}{xs:List (List Key × Addr × Value)}(r:KT H ay xs)(k:List Key):kh (iV ay k) ((atKey xs k).map (·.2)):=by
 induction r with
 | nil=>exact True.intro
 | @cons p q ps qs h t ih=>
   obtain⟨h1,_,h2⟩:=h;by_cases e:p.1=k
   .have e':q.1=k:=h1.symm.trans e;have b:atKey (q ::qs) k=some q.2:=by simp [atKey,List.find?_cons,e']
    rw[rB e,b];exact h2
   .have e':¬q.1=k:=fun z=>e (h1.trans z)
    have b:atKey (q ::qs) k=atKey qs k:=by simp [atKey,List.find?_cons,e']
    rw[qp e,b];exact ih
theorem KT.Jl{ay:List (List Key × V)}{xs:List (List Key × Addr × Value)}(r:KT H ay xs)(k:List Key){y:V}{u:Value}(ry:RelV y u) :
 KT H (ay.map fun kv=>if kv.1=k then(kv.1,y) else kv) (xs.map (putAt k u)):=by
 induction r with
 | nil=>exact .nil
 | @cons p q ps qs h t ih=>
   rw[List.map_cons,List.map_cons];refine .cons ?_ ih;obtain⟨h1,h2,h3⟩:=h;unfold putAt;by_cases e:p.1=k
   .rw [if_pos e,if_pos (h1.symm.trans e)];exact⟨h1,h2,ry⟩
   .rw [if_neg e,if_neg (fun z=>e (h1.trans z))];exact⟨h1,h2,h3⟩
theorem KT.put{H:Hp}{ay:List (List Key × V)}{xs:List (List Key × Addr × Value)}(r:KT H ay xs)(k:List Key){b:Addr}{y:V}{u:Value}(hb:H b=some (.tup (k.map kV)))(ry:RelV y u) :
 KT H (putK ay k y) (storedH xs k b u):=by
 have e:(ay.any fun kv=>decide (kv.1=k))=(atKey xs k).isSome:=by
  rw[wc,(r.val k).f7,Option.isSome_map]
 unfold putK storedH;rw[e];by_cases q:(atKey xs k).isSome=true
 .rw [if_pos q,if_pos q];exact r.Jl k ry
 .rw [if_neg q,if_neg q];exact Paired.snoc r ⟨rfl,hb,ry⟩
theorem KT.keeps{H H':Hp}{ay:List (List Key × V)}{xs:List (List Key × Addr × Value)}(r:KT H ay xs)(ht:∀b ys,H b=some (.tup ys)->H' b=some (.tup ys)):KT H' ay xs:=
 Paired.JJ r fun _ _ z=>⟨z.1,ht _ _ z.2.1,z.2.2⟩
section
variable {P:Program} {w:World} {H:Hp} {h:Heap} {a:Addr}
theorem Gv{u:HO}(ok:mh P w H h)(e:Rd H a u):c_ P w H h a u:=e.ok ok
theorem pC{ay:List (Key × V)}(ok:mh P w H h)(e:Rd H a (.dK ay)):ay.length<=sizeLine/\(a==sysModules)=false/\∃vs,KV ay vs/\h.DictOf (cL P w) a vs:=
 show c_ P w H h a (.dK ay) from Gv ok e
theorem GZ{ay:List (Key × V)}(ok:mh P w H h)(e:H a=some (.dK ay)):ay.length<=sizeLine/\(a==sysModules)=false/\∃vs,KV ay vs/\h.DictOf (cL P w) a vs:=pC ok (.inl e)
theorem oB{ks:List Key}(ok:mh P w H h)(e:H a=some (.tup (ks.map kV))):(tupleKind (cL P w)).is h ks a:=by
 obtain⟨_,its,r,o,h1,h2,n,h3⟩:=(show c_ P w H h a (.tup (ks.map kV)) from ok a _ e)
 exact⟨o,its.toArray,n,h1,h2,h3,by simpa using sW r⟩
theorem rh{ay:List (List Key × V)}(ok:mh P w H h)(e:Rd H a (.dT ay)):ay.length<=sizeLine/\(a==sysModules)=false/\
 ∃xs,KT H ay xs/\h.DictOfH (tupleKind (cL P w)) a xs:=by
 obtain⟨z,y,xs,r,o,es,ep,h1,h2,h3,h4,h5⟩:=(show c_ P w H h a (.dT ay) from Gv ok e)
 refine⟨z,y,xs,r,o,es,ep,h1,h2,h3,h4,fun x hx=>?_,h5⟩
 have all:∀{l:List (List Key × V)} {m:List (List Key × Addr × Value)},KT H l m->∀x∈m,(tupleKind (cL P w)).is h x.1 x.2.1:=by
  intro l m q
  induction q with
  | nil=>intro x hx;exact nomatch hx
  | @cons p q ps qs hq t ih=>
    intro x hx;rcases List.mem_cons.mp hx with e | hx
    .subst e;exact oB ok (by rw[<-hq.1];exact hq.2.1)
    .exact ih x hx
 exact all r x hx
theorem Kw{ay:List (List Key × V)}(ok:mh P w H h)(e:H a=some (.dT ay)):ay.length<=sizeLine/\(a==sysModules)=false/\
 ∃xs,KT H ay xs/\h.DictOfH (tupleKind (cL P w)) a xs:=rh ok (.inl e)
end
def mC(H:Hp)(a:Addr)(y:V)(r:Option V):Prop:=
 (∃ay k,Rd H a (.dK ay)/\y=kV k/\r=iV ay k)\/∃ay k b,Rd H a (.dT ay)/\y= .ref b/\H b=some (.tup (k.map kV))/\r=iV ay k
def Ao(H:Hp)(a:Addr)(y v:V)(H':Hp):Prop:=
 (∃ay k,H a=some (.dK ay)/\y=kV k/\ay.length < sizeLine/\H'=upd H a (.dK (putK ay k v)))\/
 ∃ay k b,H a=some (.dT ay)/\y= .ref b/\H b=some (.tup (k.map kV))/\ay.length < sizeLine/\H'=upd H a (.dT (putK ay k v))
theorem mC.k{H:Hp}{a:Addr}{ay:List (Key × V)}{k:Key}(e:H a=some (.dK ay)):mC H a (kV k) (iV ay k):= .inl ⟨ay,k, .inl e,rfl,rfl⟩
theorem Ao.k{H:Hp}{a:Addr}{ay:List (Key × V)}{k:Key}{v:V}(e:H a=some (.dK ay))(hl:ay.length < sizeLine):Ao H a (kV k) v (upd H a (.dK (putK ay k v))):= .inl ⟨ay,k,e,rfl,hl,rfl⟩
section
variable {X:Cx} {pins:WD} {σ:St} {H:Hp} {s:Shared} {a:Addr} {y v:V} {u r:Value} {o:Option V} {A:Around} {E:WG}
theorem Inv.big(I:Inv X pins σ H s):sysModules < s.heap.objs.size:=by
 have h:mainGlobals < s.heap.objs.size:=(I.mod.glob.keeps I.bk).lt;exact Nat.lt_trans (by decide) h
theorem Aa{Q:WG}(hu:A.units+1 < cLine)(I:Inv X pins σ H s)(g:mC H a y (some v))(ry:RelV y u)(h:∀w' s',Inv X pins σ H s'->RelV v w'->Q w' s') :
 wpAny (model X.prog X.w) A (getItem (.ref a) u) Q E s:=by
 rcases g with⟨ay,k,e,ey,l⟩ | ⟨ay,k,b,e,ey,eb,l⟩
 .subst ey;obtain⟨z,hd,vs,rel,dd⟩:=pC I.hok e;obtain⟨w',hw,wF⟩:=kh.some_of (v:=v) (o:=valueAt vs k) (by rw[l];exact rel.val k)
  exact wpAny_getItem_of (mP ry) dd.mapOf hw (h w' _ (I.tok _) wF)
 .subst ey;cases(show u=Value.ref b from ry)
  obtain⟨z,hd,xs,rel,dd⟩:=rh I.hok e;obtain⟨w',hw,wF⟩:=kh.some_of (v:=v) (o:=(atKey xs k).map (·.2)) (by rw[l];exact rel.val k)
  obtain⟨p,hp,VE⟩:=Option.map_eq_some_iff.mp hw;refine wpAny_getItem_heap (tupleKind_room_in1 hu) (oB I.hok eb) dd hp ?_;rw[VE];exact h w' _ (I.tok _) wF
theorem N_{Q:WG}(hu:A.units+1 < cLine)(I:Inv X pins σ H s)(g:mC H a y o)(ry:RelV y u)(h:∀s',Inv X pins σ H s'->Q (.bool o.isSome) s') :
 wpAny (model X.prog X.w) A (compareOp .In u (.ref a)) Q E s:=by
 rcases g with⟨ay,k,e,ey,l⟩ | ⟨ay,k,b,e,ey,eb,l⟩
 .subst ey;obtain⟨z,hd,vs,rel,dd⟩:=pC I.hok e;refine wpAny_in_of (mP ry) hd dd.mapOf ?_;rw[<-(rel.val k).f7,<-l];exact h _ (I.tok _)
 .subst ey;cases(show u=Value.ref b from ry)
  obtain⟨z,hd,xs,rel,dd⟩:=rh I.hok e;refine wpAny_in_heap (tupleKind_room_in1 hu) (oB I.hok eb) hd dd ?_;have q:=(rel.val k).f7;rw[Option.isSome_map] at q;rw[<-q,<-l];exact h _ (I.tok _)
theorem FE{Q:WG}(hu:A.units+1 < cLine)(I:Inv X pins σ H s)(g:mC H a y o)(ry:RelV y u)(h:∀s',Inv X pins σ H s'->Q (.bool (!o.isSome)) s') :
 wpAny (model X.prog X.w) A (compareOp .NotIn u (.ref a)) Q E s:=by
 rcases g with⟨ay,k,e,ey,l⟩ | ⟨ay,k,b,e,ey,eb,l⟩
 .subst ey;obtain⟨z,hd,vs,rel,dd⟩:=pC I.hok e;refine wpAny_notIn_of (mP ry) hd dd.mapOf ?_;rw[<-(rel.val k).f7,<-l];exact h _ (I.tok _)
 .subst ey;cases(show u=Value.ref b from ry)
  obtain⟨z,hd,xs,rel,dd⟩:=rh I.hok e;refine wpAny_notIn_heap (tupleKind_room_in1 hu) (oB I.hok eb) hd dd ?_;have q:=(rel.val k).f7;rw[Option.isSome_map] at q;rw[<-q,<-l];exact h _ (I.tok _)
theorem tL{h':Heap}{t':Nat}{ob:HO}(I:Inv X pins σ H s)(mu:KY (H a))(hs:Heap.SameBut a s.heap h')(he:∃q,h'.get? a=some q)(new:c_ X.prog X.w (upd H a ob) h' a ob) :
 Inv X pins σ (upd H a ob) {s with heap:=h',toks:=t'}:=
 I.write (x:=a) (e:=a) mu (.inl rfl) (fun b q hb z=>(hs.2 b hb).trans z) he new
theorem A5{H':Hp}{h':Heap}{ay:List (Key × V)}{vs:List (Key × Value)}(z:ay.length<=sizeLine)(hd:(a==sysModules)=false)(rel:KV ay vs)(dd:h'.DictOf (cL P w) a vs) :
 c_ P w H' h' a (.dK ay):=⟨z,hd,vs,rel,dd⟩
theorem Af{Q:Unit->Shared->Prop}(hu:A.units+1 < cLine)(I:Inv X pins σ H s)(g:Ao H a y v H')(ry:RelV y u)(rv:RelV v r)(h:∀s',Inv X pins σ H' s'->Q () s') :
 wpAny (model X.prog X.w) A (setItem (.ref a) u r) Q E s:=by
 rcases g with⟨ay,k,e,ey,l,eH⟩ | ⟨ay,k,b,e,ey,eb,l,eH⟩
 .subst ey eH;obtain⟨z,hd,vs,rel,dd⟩:=GZ I.hok e;have hz:vs.length<=sizeLine:=by rw[<-rel.length];exact z
  have hl:(putK ay k v).length<=sizeLine:=by have:=lW ay k v;omega
  refine wpAny_setItem_pairs (hsz:=hz) (mP ry) dd fun h' J9 hs=>h _ ?_
  have he:∃q,h'.get? a=some q:=let⟨q,_,_,hq,_⟩:=J9;⟨q,hq⟩
  exact tL I (by rw[e];exact True.intro) hs he (A5 hl hd (rel.put k rv) J9)
 .subst ey eH;cases(show u=Value.ref b from ry)
  obtain⟨z,hd,xs,rel,dd⟩:=Kw I.hok e;have hz:xs.length<=sizeLine:=by rw[<-Paired.length rel];exact z
  have hl:(putK ay k v).length<=sizeLine:=by have:=lW ay k v;omega
  refine wpAny_setItem_heap (hsz:=hz) (tupleKind_room_in1 hu) (oB I.hok eb) dd fun h' J9 hs=>h _ ?_
  obtain⟨q,es,ep,hq,h2,h3,h4,_,h5⟩:=J9;refine tL I (by rw[e];exact True.intro) hs ⟨q,hq⟩ ⟨hl,hd,_,(rel.put k eb rv).keeps fun c ys ec=>?_,q,es,ep,hq,h2,h3,h4,h5⟩
  rw[bb (Lm ec e (fun z=>nomatch z))]
  exact ec
end
section
variable {X:Cx} {pins:WD} {σ:St} {H:Hp} {s:Shared} {a:Addr} {ay:List (Key × V)} {k:Key} {u:Value} {A:Around} {E:WG}
theorem Lh{Q:WG}(I:Inv X pins σ H s)(e:Rd H a (.dK ay))(h:∀t s',Inv X pins σ H s'->Q (.int ay.length t) s'):wpAny (model X.prog X.w) A (call (.builtin "len") [.ref a]) Q E s:=by
 obtain⟨z,hd,vs,rel,dd⟩:=pC I.hok e;refine call_len_dict hd dd (by rw[<-rel.length];rw [sizeLine_eq] at z;omega) ?_
 rw[<-rel.length];exact h _ _ (I.tok _)
end
def F7(i:Expr):Prop:=∀ov iv,subscripted i false ov iv=operate [ov,iv] (getItem ov iv)
theorem y6{prog:Program}{w:World}{A:Around}{E:WG}{s:Shared}{env:Env}{value slice:Expr}{pos:Pos}{T id:String}{Q:WG}
 (hl:typeLookup (.type T) "__getitem__"=pure (some (.builtin id))) (hs:F7 slice)
 (h:wpAny (model prog w) A (eval value env) (fun o s₁=>wpAny (model prog w) A (eval slice env) (fun i wK=>wK.TypeIs o T/\wpAny (model prog w) A (getItem o i) Q E wK) E s₁) E s) :
 wpAny (model prog w) A (eval (.Subscript value slice pos) env) Q E s:=by
 refine Subscript_ (wpAny_mono h (fun o s₁ kT=>wpAny_mono kT (fun i wK uK=>?_) fun _ _ x=>x) fun _ _ x=>x)
 obtain⟨hT,uK⟩:=uK;unfold subscriptTail;refine wpAny_bind ?_;rw[getitemInPython_of_ne hT.not_modules];refine wpAny_bind (wpAny_specialOf hT hl ?_);have fin:wpAny (model prog w) A (subscripted slice false o i) (fun r Md=>wpAny (model prog w) A (letTemporaryGo value o r >>=fun _=>pure r) Q E Md) E wK:=by
  rw[hs o i];exact wpAny_operating (wpAny_mono uK (fun r Md P9=>wpAny_bind (wpAny_letTemporaryGo (wpAny_pure P9))) fun _ _ x=>x)
 first
  | exact wpAny_pure (wpAny_bind fin)
  | exact wpAny_bind (wpAny_pure (wpAny_bind fin))
  | exact wpAny_bind fin
theorem u_{X:Cx}{pins:WD}{s:Shared}{a:Addr}{y:V}{o:Option V}(I:Inv X pins σ H s)(g:mC H a y o):s.TypeIs (.ref a) "dict":=by
 rcases g with⟨ay,k,e,_,_⟩ | ⟨ay,k,b,e,_,_,_⟩
 .obtain⟨_,_,vs,_,dd⟩:=pC I.hok e;exact dd.typeIs
 .obtain⟨_,_,xs,_,dd⟩:=rh I.hok e;exact dd.typeIs
def Lq(td ty:TE):TE:=fun σ H Q=>td σ H fun x H1=>ty σ H1 fun y H2=>∃a v,x= .ref a/\mC H2 a y (some v)/\Q v H2
def NZ(ty td:TE):TE:=fun σ H Q=>ty σ H fun y H1=>td σ H1 fun x H2=>∃a o,x= .ref a/\mC H2 a y o/\Q (.bl o.isSome) H2
def EK(ty td:TE):TE:=fun σ H Q=>ty σ H fun y H1=>td σ H1 fun x H2=>∃a o,x= .ref a/\mC H2 a y o/\Q (.bl (!o.isSome)) H2
def LK(td ty tv:TE):TS:=fun D σ H=>tv σ H fun v H1=>td σ H1 fun x H2=>ty σ H2 fun y H3=>∃a H4,x= .ref a/\Ao H3 a y v H4/\D.nx σ H4
def Q1(td ty tv:TE)(rd:V->V->Hp->VK->Prop):TS:=fun D σ H=>td σ H fun x H1=>ty σ H1 fun y H2=>∃a v,x= .ref a/\mC H2 a y (some v)/\
 tv σ H2 fun y2 H3=>rd v y2 H3 fun z H4=>∃H5,Ao H4 a y z H5/\D.nx σ H5
def QQ(td ty:TE):TS:=fun D σ H=>td σ H fun x H1=>ty σ H1 fun y H2=>∃a ay k,x= .ref a/\H2 a=some (.dK ay)/\y=kV k/\(iV ay k).isSome=true/\D.nx σ (upd H2 a (.dK (Bp ay k)))
section
variable {X:Cx} {o i e value:Expr} {pos pos' DI:Pos} {td ty tv:TE}
theorem D_(hu:X.A.units+1 < cLine)(ho:PE X o td)(hi:PE X i ty)(hs:F7 i):PE X (.Subscript o i pos) (Lq td ty):=by
 intro pins s σ H Q I h;refine y6 PySem.F.slot_dict_getitem.lookup hs (cO (ho pins s σ H _ I h) fun u s1 ⟨x,H1,I1,rx,q1⟩=>cO (hi pins s1 σ H1 _ I1 q1) fun iv s2 ⟨y,H2,I2,ry,a,v,ex,g,q2⟩=>?_)
 subst ex;obtain rfl:u=Value.ref a:=rx;exact⟨u_ I2 g,Aa hu I2 g ry fun w' s3 I3 wF=>⟨v,H2,I3,wF,q2⟩⟩
theorem JR(hu:X.A.units+1 < cLine)(hi:PE X i ty)(ho:PE X o td):PC X .In i o (NZ ty td):=by
 intro pins s σ H Q I h;refine cO (hi pins s σ H _ I h) fun iv s1 ⟨y,H1,I1,ry,q1⟩=>cO (ho pins s1 σ H1 _ I1 q1) fun u s2 ⟨x,H2,I2,rx,a,ov,ex,g,q2⟩=>?_
 subst ex;obtain rfl:u=Value.ref a:=rx;exact N_ hu I2 g ry fun s3 I3=>⟨.bl ov.isSome,H2,I3,rfl,q2⟩
theorem As(hu:X.A.units+1 < cLine)(hi:PE X i ty)(ho:PE X o td):PC X .NotIn i o (EK ty td):=by
 intro pins s σ H Q I h;refine cO (hi pins s σ H _ I h) fun iv s1 ⟨y,H1,I1,ry,q1⟩=>cO (ho pins s1 σ H1 _ I1 q1) fun u s2 ⟨x,H2,I2,rx,a,ov,ex,g,q2⟩=>?_
 subst ex;obtain rfl:u=Value.ref a:=rx;exact FE hu I2 g ry fun s3 I3=>⟨.bl (!ov.isSome),H2,I3,rfl,q2⟩
theorem E_(hu:X.A.units+1 < cLine)(ho:PE X o td)(hi:PE X i ty)(hv:PE X value tv)(hs:swapsWith value (some (.Subscript o i pos')) pos.line X.env=pure false) :
 PS X (.Assign [.Subscript o i pos'] value pos) (LK td ty tv):=by
 intro pins s σ H D I h;refine wpAny_Assign_Subscript (cO (hv pins s σ H _ I h) fun r s1 ⟨v,H1,I1,rv,q1⟩=>cO (ho pins s1 σ H1 _ I1 q1) fun u s2 ⟨x,H2,I2,rx,q2⟩=>cO (hi pins s2 σ H2 _ I2 q2) fun iv s3 ⟨y,H3,I3,ry,a,H4,ex,g,q3⟩=>?_) hs
 subst ex;obtain rfl:u=Value.ref a:=rx;exact Af hu I3 g ry rv fun s4 I4=>⟨σ,H4,I4,q3⟩
end
theorem vy(h:Heap)(hb:sysModules < h.objs.size):c_ P w H (h.push {cls:= .type "dict",data:= .dict #[]}) h.objs.size (.dK []):=
 ⟨Nat.zero_le _,beq_eq_false_iff_ne.mpr (Ne.symm (Nat.ne_of_lt hb)),[], .nil,Heap.DictOf.new h⟩
def JY:TE:=fun _ H Q=>∀p,H p=none->Q (.ref p) (upd H p (.dK []))
def Nd:TE:=fun _ H Q=>∀p,H p=none->Q (.ref p) (upd H p (.dT []))
section
variable {X:Cx} {pos:Pos}
theorem CD:PE X (.Dict [] [] pos) JY:=fun pins s σ H Q I h=>
 wpAny_Dict_empty ⟨.ref s.heap.objs.size,_,I.laid (a:=s.heap.objs.size) (o:= .dK []) (t':=s.toks) (fun _ _ q=>Heap.get?_push_of_some _ q) (Nat.le_refl _) (vy s.heap I.big),rfl,h _ (I.hok.fresh (Nat.le_refl _))⟩
end
def oR:List (TE × TE)->St->Hp->(List (V × V)->Hp->Prop)->Prop
 | [],_,H,Q=>Q [] H
 | (tk,tv) ::r,σ,H,Q=>tk σ H fun x H1=>tv σ H1 fun y H2=>oR r σ H2 fun ps H3=>Q ((x,y) ::ps) H3
abbrev VV:List (V × V)->List (Value × Value)->Prop:=Paired fun p q=>RelV p.1 q.1/\RelV p.2 q.2
def HE(X:Cx)(pos:Pos)(keys:List (Option Expr))(values:List Expr)(tf:List (TE × TE)):Prop:=
 ∀(pins:WD) (s:Shared) (σ:St) (H:Hp) (Q:List (V × V)->Hp->Prop),Inv X pins σ H s->oR tf σ H Q->
  wpAny (model X.prog X.w) X.A (evalPairs (pairTrees keys values X.env pos)) (fun vs s'=>∃ps H',Inv X pins σ H' s'/\VV ps vs/\Q ps H') X.xe s
theorem y8{X:Cx}:HE X pos [] [] []:=fun pins s σ H Q I h=>pairTrees_nil_walk ⟨[],H,I, .nil,h⟩
theorem nY{X:Cx}{ks:List (Option Expr)}{tk tv:TE}{tf:List (TE × TE)}(hk:PE X k tk)(hv:PE X v tv)(hr:HE X pos ks vs tf) :
 HE X pos (some k ::ks) (v ::vs) ((tk,tv) ::tf):=fun pins s σ H Q I h=>
 pairTrees_cons_walk (cO (hk pins s σ H _ I h) fun u s1 ⟨x,H1,I1,rx,q1⟩=>cO (hv pins s1 σ H1 _ I1 q1) fun w2 s2 ⟨y,H2,I2,ry,q2⟩=>
  cO (hr pins s2 σ H2 _ I2 q2) fun ws s3 ⟨ps,H3,I3,rel,q3⟩=>⟨(x,y) ::ps,H3,I3, .cons ⟨rx,ry⟩ rel,q3⟩)
def kl(ay more:List (Key × V)):List (Key × V):=more.foldl (fun acc kv=>putK acc kv.1 kv.2) ay
theorem KV.merge:∀{more:List (Key × V)} {rs:List (Key × Value)} {ay:List (Key × V)} {vs:List (Key × Value)},KV more rs->KV ay vs->KV (kl ay more) (merged vs rs):=by
 intro more rs ay vs r;unfold KV at r
 induction r generalizing ay vs with
 | nil=>intro q;exact q
 | @cons p q ps qs h t ih=>
   intro r0;have e:KV (putK ay p.1 p.2) (stored vs q.1 q.2):=by
    have:=r0.put p.1 h.2;rw[<-h.1];exact this
   exact ih e
theorem mJ:∀(more ay:List (Key × V)),(kl ay more).length<=ay.length+more.length
 | [],ay=>by show ay.length<=ay.length+0;omega
 | p ::r,ay=>by
   have h1:=mJ r (putK ay p.1 p.2);have h2:=lW ay p.1 p.2;show(kl (putK ay p.1 p.2) r).length<=_;rw[List.length_cons];omega
theorem rg:∀{ay:List (Key × V)} {ws:List (Value × Value)},VV (ay.map fun kv=>(kV kv.1,kv.2)) ws->∃rs,Carries (cL P w) ws rs/\KV ay rs
 | [],_,r=>by rw[List.map_nil] at r;cases r;exact⟨[],True.intro, .nil⟩
 | p ::ay,_,r=>by
   rw[List.map_cons] at r;cases r with
   | @cons a b as bs h t=>
     obtain⟨rs,c,q⟩:=rg (P:=P) (w:=w) t;obtain⟨b1,b2⟩:=b;exact⟨(p.1,b2) ::rs,⟨mP h.1,rfl,c⟩, .cons ⟨rfl,h.2⟩ q⟩
def Br(tf:List (TE × TE)):TE:=fun σ H Q=>∀p,H p=none->oR tf σ (upd H p (.dK [])) fun ps H2=>H2 p=some (.dK [])/\∃ay:List (Key × V),ps=ay.map (fun kv=>(kV kv.1,kv.2))/\ay.length<=15/\Q (.ref p) (upd H2 p (.dK (kl [] ay)))
theorem FI{X:Cx}{pos:Pos}{keys:List (Option Expr)}{values:List Expr}{tf:List (TE × TE)}(h:HE X pos keys values tf)(AB:keys.all (·.isSome)=true)(hl:keys.length=values.length)(h0:keys≠[])
 (Vr:keys.length<=15):PE X (.Dict keys values pos) (Br tf):=by
 intro pins s σ H Q I q;have hn:=I.hok.fresh (Nat.le_refl s.heap.objs.size);have I1:=I.laid (a:=s.heap.objs.size) (o:= .dK []) (h':=s.heap.push {cls:= .type "dict",data:= .dict #[]}) (t':=s.toks) (fun _ _ q=>Heap.get?_push_of_some _ q) (Nat.le_refl _) (vy s.heap I.big)
 refine wpAny_Dict_walk (knd:=cL X.prog X.w) AB hl h0 Vr (cO (h pins _ σ _ _ I1 (q _ hn)) fun ws s2 ⟨ps,H2,I2,rel,e,ay,ep,lk,q2⟩=>?_)
 subst ep;obtain⟨rs,c,rk⟩:=rg (P:=X.prog) (w:=X.w) rel;obtain⟨z,hd,Wt,r0,dd⟩:=GZ I2.hok e;cases r0;refine⟨rs,c,dd,fun h' J9 hs=>⟨.ref s.heap.objs.size,_,?_,rfl,q2⟩⟩
 have hz:(kl [] ay).length<=sizeLine:=by
  have h1:=mJ ay [];rw[List.length_nil] at h1;rw[sizeLine_eq];omega
 have he:∃q,h'.get? s.heap.objs.size=some q:=let⟨q,_,_,hq,_⟩:=J9;⟨q,hq⟩
 exact tL I2 (by rw[e];exact True.intro) hs he (A5 hz hd (rk.merge .nil) J9)
structure M1 (X:Cx) (o:Expr) (m:Str) (apos:Pos) (e:Expr) (aZ:Pos):Prop where
 base:attributeBase o m X.env (eval o X.env)=eval o X.env
 few:((backTo aZ (starEach [e] X.env)).all (fun x=>!x.1) && (backToKw aZ (keywordEach [] X.env)).all (fun x=>x.1.isSome)
  && decide (([e]:List Expr).length+([]:List Keyword).length+(if([]:List Keyword).isEmpty then 0 else 1) < 30))=true
 line:(apos.endLine==aZ.line)=true
 trees:backTo aZ (starEach [e] X.env)=[(false,eval e X.env)]
structure M2 (X:Cx) (o:Expr) (m:Str) (apos:Pos) (e f:Expr) (aZ:Pos):Prop where
 base:attributeBase o m X.env (eval o X.env)=eval o X.env
 few:((backTo aZ (starEach [e,f] X.env)).all (fun x=>!x.1) && (backToKw aZ (keywordEach [] X.env)).all (fun x=>x.1.isSome)
  && decide (([e,f]:List Expr).length+([]:List Keyword).length+(if([]:List Keyword).isEmpty then 0 else 1) < 30))=true
 line:(apos.endLine==aZ.line)=true
 trees:backTo aZ (starEach [e,f] X.env)=[(false,eval e X.env),(false,eval f X.env)]
def KZ(H:Hp)(a:Addr):Prop:=(∃ay,Rd H a (.dK ay))\/∃ay,Rd H a (.dT ay)
theorem Jy{X:Cx}{pins:WD}{s:Shared}{a:Addr}(I:Inv X pins σ H s)(d:KZ H a) :
 s.TypeIs (.ref a) "dict"/\(∀b,Value.ref a= .ref b->∃ob,s.heap.get? b=some ob/\ob.dict=none)/\(a==sysModules)=false:=by
 rcases d with⟨ay,e⟩ | ⟨ay,e⟩
 .obtain⟨_,hd,vs,_,dd⟩:=pC I.hok e;refine⟨dd.typeIs,fun b q=>?_,hd⟩
  cases q;obtain⟨ob,_,_,h1,h2,_⟩:=dd;exact⟨ob,h1,h2.2.1⟩
 .obtain⟨_,hd,xs,_,dd⟩:=rh I.hok e;refine⟨dd.typeIs,fun b q=>?_,hd⟩
  cases q;obtain⟨ob,_,_,h1,h2,_⟩:=dd;exact⟨ob,h1,h2.2.1⟩
section
variable {X:Cx} {pins:WD} {σ:St} {H:Hp} {s:Shared} {a:Addr} {y d:V} {u r:Value} {o:Option V} {A:Around} {E:WG}
theorem Hi{Q:WG}(hu:A.units+1 < cLine)(I:Inv X pins σ H s)(g:mC H a y o)(ry:RelV y u)(rd:RelV d r)(h:∀w' s',Inv X pins σ H s'->RelV (o.getD d) w'->Q w' s') :
 wpAny (model X.prog X.w) A (call (.builtin "dict.get") [.ref a,u,r]) Q E s:=by
 rcases g with⟨ay,k,e,ey,l⟩ | ⟨ay,k,b,e,ey,eb,l⟩
 .subst ey;obtain⟨z,hd,vs,rel,dd⟩:=pC I.hok e;refine call_meetsIn PySem.F.slot_dict_get dd.typeIs PySem.F.entry_dict_get (PySem.F.args_dict_get_3 _ _ _) (meets_dict_get_default (cL X.prog X.w) a (mP ry) hd r) ⟨_,dd.mapOf,h _ _ (I.tok _) ?_⟩;rw[l];exact(rel.val k).getD rd
 .subst ey;cases(show u=Value.ref b from ry)
  obtain⟨z,hd,xs,rel,dd⟩:=rh I.hok e;refine call_meetsIn PySem.F.slot_dict_get dd.typeIs PySem.F.entry_dict_get (PySem.F.args_dict_get_3 _ _ _) (meetsH_dict_get_default (tupleKind (cL X.prog X.w)) a b hd r) ⟨tupleKind_room_in1 hu,k,xs,oB I.hok eb,dd,h _ _ (I.tok _) ?_⟩;rw[l];exact(rel.val k).getD rd
end
def Oo(td ty:TE):TE:=fun σ H Q=>td σ H fun x H1=>∃a,x= .ref a/\KZ H1 a/\ty σ H1 fun y H2=>∃o,mC H2 a y o/\Q (o.getD .cz) H2
def Jb(td ty tx:TE):TE:=fun σ H Q=>td σ H fun x H1=>∃a,x= .ref a/\KZ H1 a/\ty σ H1 fun y H2=>tx σ H2 fun z H3=>∃o,mC H3 a y o/\Q (o.getD z) H3
def NB(td ty:TE):TE:=fun σ H Q=>td σ H fun x H1=>∃a,x= .ref a/\KZ H1 a/\ty σ H1 fun y H2=>∃ay k v,H2 a=some (.dK ay)/\y=kV k/\iV ay k=some v/\Q v (upd H2 a (.dK (Bp ay k)))
def Og(td ty tx:TE):TE:=fun σ H Q=>td σ H fun x H1=>∃a,x= .ref a/\KZ H1 a/\ty σ H1 fun y H2=>tx σ H2 fun z H3=>∃ay k,H3 a=some (.dK ay)/\y=kV k/\
 (∀v,iV ay k=some v->Q v (upd H3 a (.dK (Bp ay k))))/\(iV ay k=none->Q z H3)
section
variable {X:Cx} {o e f:Expr} {apos aZ:Pos} {td ty tx:TE}
theorem CU(hu:X.A.units+1 < cLine)(ho:PE X o td)(he:PE X e ty)(hf:PE X f tx)(m:M2 X o "get" apos e f aZ):PE X (.Call (.Attribute o "get" apos) [e,f] [] aZ) (Jb td ty tx):=by
 intro pins s σ H Q I h;refine wpAny_Call_method m.base m.few m.line PySem.F.plainAttrs_dict PySem.F.slot_dict_get PySem.F.type_dict_get (cO (ho pins s σ H _ I h) fun u s1 ⟨x,H1,I1,rx,a,ex,d,q1⟩=>?_)
 subst ex;obtain rfl:u=Value.ref a:=rx;obtain⟨t1,t2,_⟩:=Jy I1 d;refine⟨t1,t2,?_⟩;rw[m.trees];refine Calls.callWith_builtin rfl (Calls.evalArgs_plain (Calls.spliced_cons (cO (he pins s1 σ H1 _ I1 q1) fun iv s2 ⟨y,H2,I2,ry,q2⟩=>
  Calls.spliced_cons (cO (hf pins s2 σ H2 _ I2 q2) fun fv s3 ⟨z,H3,I3,rz,ov,g,q3⟩=>Calls.spliced_nil ?_))))
 exact Hi hu I3 g ry rz fun w' s4 I4 wF=>⟨_,H3,I4,wF,q3⟩
end
section
variable {X:Cx} {pins:WD} {σ:St} {H:Hp} {s:Shared} {a:Addr} {ay:List (Key × V)} {A:Around} {E:WG}
end
section
variable {X:Cx} {pins:WD} {σ:St} {H:Hp} {s:Shared} {a:Addr} {y:V} {u:Value} {A:Around} {E:WG}
end
end L2
namespace HT
open PySem PyProof.Rows
def lexLt:List Int->List Int->Bool
 | [],[]=>false
 | [],_ ::_=>true
 | _ ::_,[]=>false
 | x ::xs,y ::ys=>if x=y then lexLt xs ys else decide (x < y)
section
open PySem.SeqAt
open PySem.AutoSeq1 (wpAny_loadPart')
open PySem.MeetsSeq PySem.MeetsSeq2 PySem.MeetsSeq3
end
section
variable {prog:Program} {w:World} {A:Around} {E:WG} {s:Shared}
def p7(n d:Nat):Option Int->Nat
 | none=>d
 | some v=>if v < 0 then(v+(n:Int)).toNat else min v.toNat n
theorem vv(n d:Nat):p7 n d none=d:=rfl
theorem pY(n d k:Nat):p7 n d (some (k:Int))=min k n:=by
 show(if(k:Int) < 0 then((k:Int)+(n:Int)).toNat else min (k:Int).toNat n)=min k n
 rw[if_neg (by omega),Int.toNat_natCast]
end
end HT
namespace L2
open PySem PySem.Spec PyProof.Rows
abbrev TO:=St->Hp->(Option Int->Hp->Prop)->Prop
def PO(X:Cx)(e:Option Expr)(t:TO):Prop:=
 ∀(pins:WD) (s:Shared) (σ:St) (H:Hp) (Q:Option Int->Hp->Prop),Inv X pins σ H s->t σ H Q->
  wpAny (model X.prog X.w) X.A (evalPart e X.env) (fun u s'=>∃o H',Inv X pins σ H' s'/\IsPart u o/\Q o H') X.xe s
def D4:TO:=fun _ H Q=>Q none H
def KA(t:TE):TO:=fun σ H Q=>t σ H fun x H1=>∃i,x= .int i/\Q (some i) H1
section
variable {X:Cx} {e:Expr} {te:TE} {lo hi:Option Expr} {tl th:TO} {pos p2:Pos}
theorem EB:PO X none D4:=by
 intro pins s σ H Q I h;rw[evalPart_none];exact wpAny_pure ⟨none,H,I, .none,h⟩
theorem EX(h:PE X e te):PO X (some e) (KA te):=by
 intro pins s σ H Q I hw;rw[evalPart_some];refine cO (h pins s σ H _ I hw) fun u s1 ⟨x,H1,I1,r1,q1⟩=>?_
 obtain⟨i,rfl,q⟩:=q1;obtain⟨t,rfl⟩:=r1;exact⟨some i,H1,I1, .int i t,q⟩
def JV(X:Cx)(r:V->Option Int->Option Int->Hp->VK->Prop):Prop:=
 ∀(pins:WD) (s:Shared) (σ:St) (H:Hp) (x:V) (v vl vu:Value) (lo hi:Option Int) (sl:Addr) (Q:VK),Inv X pins σ H s->RelV x v->s.heap.IsSliceOf sl vl vu .none->IsPart vl lo->IsPart vu hi->r x lo hi H Q->
  ∃T id,typeLookup (.type T) "__getitem__"=pure (some (.builtin id))/\s.TypeIs v T/\wpAny (model X.prog X.w) X.A (getItem v (.ref sl)) (EP X pins σ Q) X.xe s
theorem JV.or{r r':V->Option Int->Option Int->Hp->VK->Prop}(h:JV X r)(h':JV X r'):JV X (fun x lo hi H Q=>r x lo hi H Q\/r' x lo hi H Q):=by
 intro pins s σ H x v vl vu lo hi sl Q I rx hs pl pu q;rcases q with q | q
 .exact h pins s σ H x v vl vu lo hi sl Q I rx hs pl pu q
 .exact h' pins s σ H x v vl vu lo hi sl Q I rx hs pl pu q
def So(r:V->Option Int->Option Int->Hp->VK->Prop)(te:TE)(tl th:TO):TE:=fun σ H Q=>te σ H fun x H1=>tl σ H1 fun l H2=>th σ H2 fun u H3=>r x l u H3 Q
theorem BN{r:V->Option Int->Option Int->Hp->VK->Prop}(hr:JV X r)(he:PE X e te)(hl:PO X lo tl)(hu:PO X hi th):PE X (.Subscript e (.Slice lo hi none p2) pos) (So r te tl th):=by
 intro pins s σ H Q I h;refine Subscript_ (cO (he pins s σ H _ I h) fun v s1 ⟨x,H1,I1,r1,q1⟩=>?_)
 refine wpAny_Slice (cO (hl pins s1 σ H1 _ I1 q1) fun vl s2 ⟨l,H2,I2,pl,q2⟩=>cO (hu pins s2 σ H2 _ I2 q2) fun vu s3 ⟨u,H3,I3,pu,q3⟩=>?_)
 rw[evalPart_none];refine wpAny_pure ?_;have I4:Inv X pins σ H3 {s3 with heap:=s3.heap.push {cls:= .type "slice",data:= .fields #[vl,vu, .none]}}:=I3.kept (t':=s3.toks) fun b ob q=>Heap.get?_push_of_some _ q
 obtain⟨T,id,hT,ht,hg⟩:=hr pins {s3 with heap:=s3.heap.push {cls:= .type "slice",data:= .fields #[vl,vu, .none]}} σ H3 x v vl vu l u s3.heap.objs.size Q I4 r1 (Heap.IsSliceOf.new ..) pl pu q3
 show wpAny (model X.prog X.w) X.A (subscriptTail e (.Slice lo hi none p2) v (.ref s3.heap.objs.size)) (EP X pins σ Q) X.xe {s3 with heap:=s3.heap.push {cls:= .type "slice",data:= .fields #[vl,vu, .none]}}
 exact tail_any (ops:=[.ref s3.heap.objs.size,v]) ht hT hg (by with_unfolding_all rfl)
def xZ(xs:List V)(lo hi:Option Int):List V:=(xs.drop (HT.p7 xs.length 0 lo)).take (HT.p7 xs.length xs.length hi - HT.p7 xs.length 0 lo)
theorem vA(xs:List V)(lo hi:Option Int):(xZ xs lo hi).length<=xs.length:=by
 unfold xZ;rw[List.length_take,List.length_drop];omega
def RZ(K:W.Frag):V->Option Int->Option Int->Hp->VK->Prop:=fun x lo hi H Q=>∃a xs,x= .ref a/\oU K H a xs/\
 ¬(HT.p7 xs.length 0 lo=0/\HT.p7 xs.length xs.length hi=xs.length)/\∀p,H p=none->Q (.ref p) (upd H p (.tup (xZ xs lo hi)))
def T6(K:W.Frag):R2:=fun x y H Q=>∃a b ns ms,x= .ref a/\y= .ref b/\oU K H a (ns.map V.int)/\oU K H b (ms.map V.int)/\Q (.bl (HT.lexLt ns ms)) H
def Rr(K:W.Frag):R2:=fun x y H Q=>∃a b xs ys,x= .ref a/\y= .ref b/\oU K H a xs/\oU K H b ys/\xs≠[]/\xs.length+ys.length<=sizeLine/\
 (ys=[]->Q (.ref a) H)/\(ys≠[]->∀p,H p=none->Q (.ref p) (upd H p (.tup (xs++ys))))
end
def CK(n:Nat)(i:Int):Option Nat:=if 0<=i then(if i < n then some i.toNat else none) else if -(n:Int)<=i then some (i+n).toNat else none
def sI{α:Type}(xs:List α)(i:Int):Option α:=(CK xs.length i).bind fun j=>xs[j]?
theorem Et{n:Nat}{i:Int}{j:Nat}(h:CK n i=some j):seqIndex? i n=some j/\j < n/\ -(n:Int)<=i/\i < n:=by
 unfold CK at h;by_cases h0:0<=i
 .rw [if_pos h0] at h;by_cases h1:i < n
  .rw [if_pos h1] at h;have e:i.toNat=j:=Option.some.inj h;exact⟨by rw[seqIndex_of h0 h1,e],by omega,by omega,h1⟩
  .rw [if_neg h1] at h;cases h
 .rw [if_neg h0] at h;by_cases h1: -(n:Int)<=i
  .rw [if_pos h1] at h;have e:(i+n).toNat=j:=Option.some.inj h;exact⟨by rw[seqIndex_neg (by omega) h1,e],by omega,h1,by omega⟩
  .rw [if_neg h1] at h;cases h
theorem uf{α:Type}{xs:List α}{i:Int}{v:α}(h:sI xs i=some v):∃j,seqIndex? i xs.length=some j/\xs[j]? =some v/\j < xs.length/\ -(xs.length:Int)<=i/\i < xs.length:=by
 unfold sI at h;cases e:CK xs.length i with
 | none=>rw [e] at h;cases h
 | some j=>
   rw[e] at h;obtain⟨h1,h2,h3,h4⟩:=Et e;exact⟨j,h1,h,h2,h3,h4⟩
def uC(b:Expr):Prop:=∀o i,subscripted b false o i=operate [o,i] (getItem o i)
def FR(X:Cx)(r:R2):Prop:=
 ∀(value slice:Expr) (pins:WD) (s:Shared) (σ:St) (H:Hp) (x y:V) (v u:Value) (Q:VK),Inv X pins σ H s->RelV x v->RelV y u->r x y H Q->
  subscripted slice false v u=operate [v,u] (getItem v u)->wpAny (model X.prog X.w) X.A (subscriptTail value slice v u) (EP X pins σ Q) X.xe s
def QF(X:Cx)(id:String)(r:V->List V->Hp->VK->Prop):Prop:=
 ∀(pins:WD) (s:Shared) (σ:St) (H:Hp) (x:V) (xs:List V) (v:Value) (us:List Value) (Q:VK),Inv X pins σ H s->RelV x v->Vals xs us->r x xs H Q->
  wpAny (model X.prog X.w) X.A (call (.builtin id) (v ::us)) (EP X pins σ Q) X.xe s
section
variable {X:Cx} {a b:Expr} {ta tb:TE} {pos:Pos}
theorem FR.or{r r':R2}(h:FR X r)(h':FR X r'):FR X (fun x y H Q=>r x y H Q\/r' x y H Q):=by
 intro value slice pins s σ H x y v u Q I rx ry q hs;rcases q with q | q
 .exact h value slice pins s σ H x y v u Q I rx ry q hs
 .exact h' value slice pins s σ H x y v u Q I rx ry q hs
theorem Ln{r:R2}(hr:FR X r)(ha:PE X a ta)(hb:PE X b tb)(hs:uC b):PE X (.Subscript a b pos) (Kc r ta tb):=by
 intro pins s σ H Q I h;exact Subscript_ (Ji ha hb I h fun v u s2 x y H2 I2 rx ry q=>hr a b pins s2 σ H2 x y v u Q I2 rx ry q (hs _ _))
def KS(K:W.Frag):R2:=fun x y H Q=>∃p xs i v,x= .ref p/\y= .int i/\lr K H p xs/\sI xs i=some v/\Q v H
def KG(K:W.Frag):R2:=fun x y H Q=>∃p xs i v,x= .ref p/\y= .int i/\oU K H p xs/\sI xs i=some v/\Q v H
def KL:R2:=fun x y H Q=>∃z i c,x= .str z/\y= .int i/\z.length<=sizeLine/\sI z.cps.toList i=some c/\Q (.str ⟨#[c]⟩) H
theorem FU:FR X (KS X.K):=by
 intro value slice pins s σ H x y v u Q I rx ry h hs;obtain⟨p,xs,i,z,rfl,rfl,hq,he,q⟩:=h;cases rx;obtain⟨t,rfl⟩:=ry;obtain⟨its,r,pl,hz⟩:=I.list hq;obtain⟨j,h1,h2,h3,h4,h5⟩:=uf he;obtain⟨w,ew,wF⟩:=r.get h2;have hl:=r.length;have hn:=oA;have fin:EP X pins σ Q w s:=⟨z,H,I,wF,q⟩;by_cases h0:0<=i
 .have hj:i.toNat=j:=by
   rw[seqIndex_of h0 h5] at h1;exact Option.some.inj h1
  exact item_listR pl.isList h0 (by omega) (by rw[hj];simpa using ew) fin hs
 .have hj:(i+(its.toArray.size:Int)).toNat=j:=by
   rw[seqIndex_neg (by omega) h4] at h1
   rw[List.size_toArray,<-hl];exact Option.some.inj h1
  exact subscriptTail_builtinR (x:=w) pl.isList.typeIs slot_list_getitem.lookup
   (wpAny_getItem_list_neg (Q:=fun r s'=>r=w/\EP X pins σ Q r s') pl.isList (by omega) (by rw[List.size_toArray] <;> omega) (by omega) (by rw[hj];simpa using ew) ⟨rfl,fin⟩) hs
theorem JZ:FR X (KG X.K):=by
 intro value slice pins s σ H x y v u Q I rx ry h hs;obtain⟨p,xs,i,z,rfl,rfl,hq,he,q⟩:=h;cases rx;obtain⟨t,rfl⟩:=ry;obtain⟨its,r,pl,hz⟩:=I.tuple hq;obtain⟨j,h1,h2,h3,h4,h5⟩:=uf he;obtain⟨w,ew,wF⟩:=r.get h2;have hl:=r.length;have hn:=oA;have fin:EP X pins σ Q w s:=⟨z,H,I,wF,q⟩;exact subscriptTail_builtinR (x:=w) pl.typeIs slot_tuple_getitem.lookup
  (getItem_tuple (j:=j) (Q:=fun r s'=>r=w/\EP X pins σ Q r s') pl (by omega) (by omega) (by rw[List.size_toArray,<-hl];exact h1) (by simpa using ew) ⟨rfl,fin⟩) hs
theorem Ju:FR X KL:=by
 intro value slice pins s σ H x y v u Q I rx ry h hs;obtain⟨z,i,c,rfl,rfl,hz,he,q⟩:=h;obtain⟨t,rfl⟩:=rx;obtain⟨t',rfl⟩:=ry;obtain⟨j,h1,h2,h3,h4,h5⟩:=uf he;have hl:z.cps.toList.length=z.length:=by simp [Str.length]
 rw[hl] at h1 h4 h5;have hn:=oA;exact tail_any (typeIs_str s z t) slot_str_getitem.lookup (getItem_str (c:=c) (by
  have e1:decide (i < -(2 ^ 63:Int))=false:=decide_eq_false (by omega)
  have e2:decide (i>=2 ^ 63)=false:=decide_eq_false (by omega)
  rw[e1,e2,Bool.or_false]) (by rw[h1];simpa using h2) ⟨.str ⟨#[c]⟩,H,I.tok _,⟨_,rfl⟩,q⟩) hs
def Qr(K:W.Frag):R2:=fun x y H Q=>KS K x y H Q\/KG K x y H Q\/KL x y H Q
theorem Hq:FR X (Qr X.K):=FU.or (JZ.or Ju)
def Rm:V->V->V->Hp->(Hp->Prop)->Prop:=fun o i v H Q=>∃p xs k j,o= .ref p/\i= .int k/\H p=some (.lst xs)/\CK xs.length k=some j/\Q (upd H p (.lst (xs.set j v)))
theorem ub(lo hi:Option Int)(n:Nat):(sliceBounds lo hi none n).1=((HT.p7 n 0 lo:Nat):Int)/\(sliceBounds lo hi none n).2.1=((HT.p7 n n hi:Nat):Int)/\(sliceBounds lo hi none n).2.2=1:=by
 refine⟨?_,?_,rfl⟩
 .cases lo with
  | none=>simp [sliceBounds,HT.p7]
  | some i=>
    simp only[sliceBounds,HT.p7,Option.getD_none,show(1:Int) > 0 by decide,if_true]
    by_cases h:i < 0
    .simp only[h,if_true] <;> omega
    .simp only[h,if_false] <;> omega
 .cases hi with
  | none=>simp [sliceBounds,HT.p7]
  | some i=>
    simp only[sliceBounds,HT.p7,Option.getD_none,show(1:Int) > 0 by decide,if_true]
    by_cases h:i < 0
    .simp only[h,if_true] <;> omega
    .simp only[h,if_false] <;> omega
theorem rN(its:List Value)(lo hi:Option Int):slicePick its.toArray lo hi none=((its.drop (HT.p7 its.length 0 lo)).take (HT.p7 its.length its.length hi - HT.p7 its.length 0 lo)).toArray:=by
 obtain⟨h1,h2,h3⟩:=ub lo hi its.toArray.size;unfold slicePick;rw[h1,h2,h3];simp only[sliceRange_one,pick_run,List.size_toArray] <;> rfl
def NH(K:W.Frag):V->Option Int->Option Int->Hp->VK->Prop:=fun x lo hi H Q=>∃a xs,x= .ref a/\lr K H a xs/\∀p,H p=none->Q (.ref p) (upd H p (.lst (xZ xs lo hi)))
theorem E5:JV X (NH X.K):=by
 intro pins s σ H x v vl vu lo hi sl Q I rx hs pl pu h;obtain⟨a,xs,rfl,hx,q⟩:=h;cases rx;obtain⟨its,r,ht,hz⟩:=I.list hx;have hlen:=r.length;refine⟨"list",_,slot_list_getitem.lookup,ht.isList.typeIs,?_⟩;refine wpAny_getItem_list_slice ht.isList hs pl pu .none (by simp) ?_ (by rw[List.size_toArray] <;> omega)
 rw[rN,<-hlen];refine⟨.ref s.heap.objs.size,_,I.laid (t':=s.toks) (o:= .lst (xZ xs lo hi)) (fun b ob q=>Heap.get?_push_of_some _ q) (Nat.le_refl _) ?_,rfl,q _ (I.hok.fresh (Nat.le_refl _))⟩
 exact⟨Nat.le_trans (vA xs lo hi) hz,_,0,(r.drop (HT.p7 xs.length 0 lo)).take (HT.p7 xs.length xs.length hi - HT.p7 xs.length 0 lo),Heap.get?_push_size _ rfl⟩
def kM:V->Bool
 | .cz=>true
 | .bl _=>true
 | .int _=>true
 | .str _=>true
 | _=>false
def G8:V->V->Bool
 | .cz, .cz=>true
 | .bl a, .bl b=>a==b
 | .bl a, .int b=>(if a then 1 else 0)==b
 | .int a, .bl b=>a==(if b then 1 else 0)
 | .int a, .int b=>a==b
 | .str a, .str b=>a==b
 | _,_=>false
theorem IX{s:Shared}{y x:V}{u v:Value}(ry:RelV y u)(rx:RelV x v)(fy:kM y=true)(fx:kM x=true):SeqAt.EqAt A s u v (G8 y x):=by
 cases y with
 | cz=>
   cases ry;cases x with
   | cz=>cases rx;exact SeqAt.EqAt.same _
   | bl b=>cases rx;exact SeqAt.EqAt.none_bool b
   | int b=>obtain⟨t,rfl⟩:=rx;exact SeqAt.EqAt.none_int b t
   | str b=>obtain⟨t,rfl⟩:=rx;exact SeqAt.EqAt.none_str b t
   | _=>exact absurd (show false=true from fx) Bool.false_ne_true
 | bl a=>
   cases ry;cases x with
   | cz=>cases rx;exact SeqAt.EqAt.bool_none a
   | bl b=>cases rx;exact SeqAt.EqAt.bool_bool a b
   | int b=>obtain⟨t,rfl⟩:=rx;exact SeqAt.EqAt.bool_int a b t
   | str b=>obtain⟨t,rfl⟩:=rx;exact SeqAt.EqAt.bool_str a b t
   | _=>exact absurd (show false=true from fx) Bool.false_ne_true
 | int a=>
   obtain⟨t',rfl⟩:=ry;cases x with
   | cz=>cases rx;exact SeqAt.EqAt.int_none a t'
   | bl b=>cases rx;exact SeqAt.EqAt.int_bool a t' b
   | int b=>obtain⟨t,rfl⟩:=rx;exact SeqAt.EqAt.int_int a t' b t
   | str b=>obtain⟨t,rfl⟩:=rx;exact SeqAt.EqAt.int_str a t' b t
   | _=>exact absurd (show false=true from fx) Bool.false_ne_true
 | str a=>
   obtain⟨t',rfl⟩:=ry;cases x with
   | cz=>cases rx;exact SeqAt.EqAt.str_none a t'
   | bl b=>cases rx;exact SeqAt.EqAt.str_bool a t' b
   | int b=>obtain⟨t,rfl⟩:=rx;exact SeqAt.EqAt.str_int a t' b t
   | str b=>obtain⟨t,rfl⟩:=rx;exact SeqAt.EqAt.str_str a t' b t
   | _=>exact absurd (show false=true from fx) Bool.false_ne_true
 | _=>exact absurd (show false=true from fy) Bool.false_ne_true
def xg(x:V)(u:Value):Bool:=match u with
 | .none=>G8 .cz x
 | .bool b=>G8 (.bl b) x
 | .int i _=>G8 (.int i) x
 | .str z _=>G8 (.str z) x
 | _=>false
theorem Bd{x y:V}{u:Value}(r:RelV y u)(f:kM y=true):xg x u=G8 y x:=by
 cases y with
 | cz=>cases r;rfl
 | bl b=>cases r;rfl
 | int i=>obtain⟨t,rfl⟩:=r;rfl
 | str z=>obtain⟨t,rfl⟩:=r;rfl
 | _=>exact absurd (show false=true from f) Bool.false_ne_true
theorem n3{x:V}:∀{xs:List V} {us:List Value},Vals xs us->xs.all kM=true->us.any (xg x)=xs.any fun y=>G8 y x
 | _,_, .nil,_=>rfl
 | y ::xs,u ::us, .cons r t,f=>by
   rw[List.all_cons,Bool.and_eq_true] at f;rw[List.any_cons,List.any_cons,Bd r f.1,n3 t f.2]
theorem lb{s:Shared}{x:V}{v:Value}(rx:RelV x v)(fx:kM x=true):∀{xs:List V} {us:List Value},Vals xs us->xs.all kM=true->∀u∈us,SeqAt.EqAt A s u v (xg x u)
 | _,_, .nil,_=>fun u hu=>by cases hu
 | y ::xs,u ::us, .cons r t,f=>fun u' hu=>by
   rw[List.all_cons,Bool.and_eq_true] at f;rcases List.mem_cons.mp hu with rfl | hu
   .rw [Bd r f.1];exact IX r rx f.1 fx
   .exact lb rx fx t f.2 u' hu
def Gz(x:V)(xs:List V):Bool:=xs.any fun y=>G8 y x
def Nj(K:W.Frag)(neg:Bool):R2:=fun x y H Q=>∃p xs,y= .ref p/\(lr K H p xs\/oU K H p xs)/\kM x=true/\xs.all kM=true/\Q (.bl (if neg then !Gz x xs else Gz x xs)) H
theorem z7:mz X (compareOp .In) (Nj X.K false):=by
 intro pins s σ H x y v u Q I rx ry h;obtain⟨p,xs,rfl,hq,fx,fs,q⟩:=h;cases ry;rcases hq with hq | hq
 .obtain⟨its,r,pl,hz⟩:=I.list hq;refine SeqAt.in_listAt (xg x) pl.isList (fun w hw=>lb rx fx r fs w (by simpa using hw)) ⟨.bl _,H,I,rfl,?_⟩
  rw[show its.toArray.any (xg x)=its.any (xg x) by simp,n3 r fs]
  exact q
 .obtain⟨its,r,pl,hz⟩:=I.tuple hq;refine SeqAt.in_tupleAt (xg x) pl (fun w hw=>lb rx fx r fs w (by simpa using hw)) ⟨.bl _,H,I,rfl,?_⟩
  rw[show its.toArray.any (xg x)=its.any (xg x) by simp,n3 r fs]
  exact q
theorem uy:mz X (compareOp .NotIn) (Nj X.K true):=by
 intro pins s σ H x y v u Q I rx ry h;obtain⟨p,xs,rfl,hq,fx,fs,q⟩:=h;cases ry;rcases hq with hq | hq
 .obtain⟨its,r,pl,hz⟩:=I.list hq;refine SeqAt.notIn_listAt (xg x) pl.isList (fun w hw=>lb rx fx r fs w (by simpa using hw)) ⟨.bl _,H,I,rfl,?_⟩
  rw[show its.toArray.any (xg x)=its.any (xg x) by simp,n3 r fs]
  exact q
 .obtain⟨its,r,pl,hz⟩:=I.tuple hq;refine SeqAt.notIn_tupleAt (xg x) pl (fun w hw=>lb rx fx r fs w (by simpa using hw)) ⟨.bl _,H,I,rfl,?_⟩
  rw[show its.toArray.any (xg x)=its.any (xg x) by simp,n3 r fs]
  exact q
theorem tQ:iI X (.builtin "len") (fun xs H Q=>∃p ys,xs=[.ref p]/\(lr X.K H p ys\/oU X.K H p ys)/\Q (.int ys.length) H):=by
 intro pins s σ H xs us Q I r h;obtain⟨p,ys,rfl,hq,q⟩:=h;obtain⟨u,rfl,rx⟩:=vals1 r;cases rx;have hn:=oA;rcases hq with hq | hq
 .obtain⟨its,r',pl,hz⟩:=I.list hq;have hlen:=r'.length;exact Calls.call_len_list pl.isList (by simp only[List.size_toArray] <;> omega) ⟨.int ys.length,H,I.tok _,⟨s.toks+1,by rw[List.size_toArray,hlen]⟩,q⟩
 .obtain⟨its,r',pl,hz⟩:=I.tuple hq;have hlen:=r'.length;exact len_tuple pl (by simp only[List.size_toArray] <;> omega) ⟨.int ys.length,H,I.tok _,⟨s.toks+1,by rw[List.size_toArray,hlen]⟩,q⟩
theorem r6:iI X (.type "tuple") (fun xs H Q=>∃p ys,xs=[.ref p]/\((lr X.K H p ys/\∀l,H l=none->Q (.ref l) (upd H l (.tup ys)))\/(oU X.K H p ys/\Q (.ref p) H))):=by
 intro pins s σ H xs us Q I r h;obtain⟨p,ys,rfl,h⟩:=h;obtain⟨u,rfl,rx⟩:=vals1 r;cases rx;rcases h with⟨hq,q⟩ | ⟨hq,q⟩
 .obtain⟨its,r',pl,hz⟩:=I.list hq;have hlen:=r'.length;refine call_tuple_list pl.isList (fun h' kp=>?_) (by simp only[List.size_toArray] <;> omega)
  have I1:Inv X pins σ H {s with heap:=h'}:=I.kept (t':=s.toks) kp
  have I2:Inv X pins σ (upd H h'.objs.size (.tup ys)) {s with heap:=h'.push {cls:= .type "tuple",data:= .seq its.toArray}}:=
   I1.laid (t':=s.toks) (fun b o e=>Heap.get?_push_of_some _ e) (Nat.le_refl _) (show c_ X.prog X.w _ _ _ (.tup ys) from⟨hz,its,r',IsTup.new _ _⟩)
  exact⟨.ref h'.objs.size,_,I2,rfl,q _ (I1.hok.fresh (Nat.le_refl _))⟩
 .obtain⟨its,r',pl,hz⟩:=I.tuple hq;exact call_tuple_same pl ⟨.ref p,H,I,rfl,q⟩
def Oa(K:W.Frag)(T:String)(x:V)(H:Hp):Prop:=match x with
 | .str _=>T="str"
 | .int _=>T="int"
 | .ref p=>(T="list"/\∃xs,lr K H p xs)\/(T="tuple"/\∃o,K.lookup p=some o/\o.cls= .type "tuple"/\o.dict=none)\/
    (T="dict"/\((∃ay,H p=some (.dK ay))\/∃ay,H p=some (.dT ay)))\/(T="set"/\∃S n,H p=some (.set S n))
 | _=>False
theorem Iq{pins:WD}{s:Shared}{T:String}{x:V}{v:Value}(I:Inv X pins σ H s)(r:RelV x v)(ty:Oa X.K T x H) :
 s.TypeIs v T/\∀a,v= .ref a->∃ob,s.heap.get? a=some ob/\ob.dict=none:=by
 cases x with
 | str z=>
   obtain⟨t,rfl⟩:=r;cases(show T="str" from ty)
   exact⟨typeIs_str s z t,fun _ e=>nomatch e⟩
 | int i=>
   obtain⟨t,rfl⟩:=r;cases(show T="int" from ty)
   exact⟨typeIs_int s i t,fun _ e=>nomatch e⟩
 | ref p=>
   cases r;rcases ty with⟨rfl,xs,hq⟩ | ⟨rfl,o,hk,hc,hd⟩ | ⟨rfl,hk⟩ | ⟨rfl,S,n,hk⟩
   .obtain⟨its,_,pl,_⟩:=I.list hq;refine⟨pl.isList.typeIs,fun a e=>?_⟩
    cases e;obtain⟨o,n,e,c,hd,_⟩:=pl;exact⟨o,e,hd⟩
   .refine⟨⟨o,I.mS p o hk,hc⟩,fun a e=>?_⟩
    cases e;exact⟨o,I.mS _ o hk,hd⟩
   .have z:∃o,s.heap.get? p=some o/\o.ExactDict:=by
     rcases hk with⟨ay,hk⟩ | ⟨ay,hk⟩
     .obtain⟨_,_,_,_,o,_,_,e,ex,_⟩:=I.hok p _ hk;exact⟨o,e,ex⟩
     .obtain⟨_,_,_,_,o,_,_,e,ex,_⟩:=I.hok p _ hk;exact⟨o,e,ex⟩
    obtain⟨o,e,ex⟩:=z;refine⟨⟨o,e,ex.1⟩,fun a e2=>?_⟩
    cases e2;exact⟨o,e,ex.2.1⟩
   .obtain⟨o,_,_,_,e,ex,_⟩:=I.hok p _ hk;refine⟨⟨o,e,ex.1⟩,fun a e2=>?_⟩
    cases e2;exact⟨o,e,ex.2.1⟩
 | _=>exact False.elim ty
def TY(K:W.Frag)(T:String)(r:V->List V->Hp->VK->Prop)(to:TE):TE:=fun σ H Q=>to σ H fun x H1=>Oa K T x H1/\r x [] H1 Q
def Ut(K:W.Frag)(T:String)(r:V->List V->Hp->VK->Prop)(to:TE)(t:TA):TE:=fun σ H Q=>to σ H fun x H1=>Oa K T x H1/\t σ H1 fun xs H2=>r x xs H2 Q
variable {o e:Expr} {es:List Expr} {to:TE} {t:TA} {name:Str} {apos aZ:Pos} {T id:String} {r:V->List V->Hp->VK->Prop}
theorem wg(pa:PlainAttrs T)(slot:Slot T name id)(D1:typeOf (.builtin id)=pure (.type "method_descriptor"))(hm:QF X id r)(ho:PE X o to)(ha:PA X (e ::es) t)
 (eP:attributeBase o name X.env (eval o X.env)=eval o X.env:=by rfl)
 (jD:((backTo aZ (starEach (e ::es) X.env)).all (fun x=>!x.1) && (backToKw aZ (keywordEach [] X.env)).all (fun x=>x.1.isSome)
   && decide ((e ::es).length+([]:List Keyword).length+(if([]:List Keyword).isEmpty then 0 else 1) < 30))=true:=by rfl)
 (eO:(apos.endLine==aZ.line)=true:=by rfl) (hs:starEach (e ::es) X.env=(false,eval e X.env) ::starEach es X.env:=by rfl) (yj:(backTo aZ (starEach es X.env)).any (·.1)=false:=by rfl) :
 PE X (.Call (.Attribute o name apos) (e ::es) [] aZ) (Ut X.K T r to t):=by
 intro pins s σ H Q I h;refine wpAny_Call_method_late eP jD eO rfl (cO (ho pins s σ H _ I h) fun v s1 ⟨x,H1,I1,r1,ty,q1⟩=>?_)
 obtain⟨h1,h2⟩:=Iq I1 r1 ty;refine⟨T,id,pa,slot,D1,h1,h2,?_⟩;have hA:=ha aZ pins s1 σ H1 _ I1 q1;rw[hs] at hA ⊢;refine Calls.callWith_builtin (by show(false || (backTo aZ (starEach es X.env)).any (·.1))=false;rw [yj] <;> rfl) (Calls.evalArgs_plain ?_)
 exact cO hA fun us s2 ⟨vs,H2,I2,r2,q2⟩=>hm pins s2 σ H2 x vs v us Q I2 r1 r2 q2
end
def Sa(X:Cx)(id:String)(r:V->List V->Hp->VK->Prop):Prop:=
 ∀(pins:WD) (s:Shared) (σ:St) (H:Hp) (x:V) (xs:List V) (v:Value) (us:List Value) (Q:VK),Inv X pins σ H s->RelV x v->Vals xs us->r x xs H Q->
  wpAny (model X.prog X.w) X.A (call (.builtin id) (v ::us)) (EP X pins σ Q) X.xe s
theorem Vals.one:∀{x:V} {us:List Value},Vals [x] us->∃u,us=[u]/\RelV x u
 | _,_, .cons r .nil=>⟨_,rfl,r⟩
section
variable {X:Cx} {pins:WD} {σ:St} {H:Hp} {s:Shared} {l b:Addr} {xs ys zs:List V}
theorem Inv.Of{its its':List Value}{n:Nat}{f:Array Value->Array Value}{t':Nat}(I:Inv X pins σ H s)(hH:H l=some (.lst xs))
 (e:s.heap.get? l=some {cls:= .type "list",data:= .seq its.toArray n}) (hf:f its.toArray=its'.toArray) (hv:Vals ys its') (hz:ys.length<=sizeLine) :
 Inv X pins σ (upd H l (.lst ys)) {s with heap:=s.heap.update l (Obj.mapSeq f),toks:=t'}:=by
 have q:=PySem.IsL.update e f;rw[hf] at q;refine I.write (x:=l) (e:=l) (by rw[hH];exact trivial) (.inl rfl) (fun b' u hb hu=>(Heap.get?_update_other s.heap (Obj.mapSeq f) (Ne.symm hb)).trans hu) ⟨_,q⟩ ?_
 exact⟨hz,its',_,hv,q⟩
theorem Inv.JW{its:List Value}{t':Nat}(I:Inv X pins σ H s)(hv:Vals ys its)(hz:ys.length<=sizeLine) :
 Inv X pins σ (upd H s.heap.objs.size (.lst ys)) {s with heap:=s.heap.push {cls:= .type "list",data:= .seq its.toArray},toks:=t'}:=
 I.laid (fun _ _ q=>Heap.get?_push_of_some _ q) (Nat.le_refl _) ⟨hz,its,0,hv,Heap.get?_push_size _ rfl⟩
theorem Inv.fresh(I:Inv X pins σ H s):H s.heap.objs.size=none:=I.hok.fresh (Nat.le_refl _)
theorem Inv.M7(I:Inv X pins σ H s)(hH:H l=some (.lst xs)):xs.length<=sizeLine/\∃(its:List Value) (n:Nat),Vals xs its/\xs.length=its.length/\s.heap.get? l=some {cls:= .type "list",data:= .seq its.toArray n}:=by
 obtain⟨z,its,n,r,e⟩:=I.hok l _ hH;exact⟨z,its,n,r,r.length,e⟩
end
section
variable {X:Cx}
def Gg:V->List V->Hp->VK->Prop:=fun x vs H Q=>∃l xs y,x= .ref l/\vs=[y]/\H l=some (.lst xs)/\xs.length < sizeLine/\Q .cz (upd H l (.lst (xs++[y])))
theorem jX:Sa X "list.append" Gg:=by
 intro pins s σ H x vs v us Q I rx rv h;obtain⟨l,xs,y,rfl,rfl,hH,hz,q⟩:=h;cases rx;obtain⟨u,rfl,ru⟩:=rv.one;obtain⟨z,its,n,r,hl,e⟩:=I.M7 hH;refine call_meets F.slot_list_append ⟨_,e,rfl⟩ F.entry_list_append (F.args_list_append_2 _ _) (PySem.list_append l its.toArray n u (by rw[List.size_toArray];omega)) ⟨e,?_⟩
 refine⟨.cz,_,I.Of (its':=its++[u]) hH e (by simp) (r.append (.cons ru .nil)) ?_,rfl,q⟩
 rw[List.length_append,List.length_singleton];omega
def MK:V->List V->Hp->VK->Prop:=fun x vs H Q=>∃l b xs zs,x= .ref l/\vs=[.ref b]/\H l=some (.lst xs)/\H b=some (.lst zs)/\xs.length+zs.length<=sizeLine/\Q .cz (upd H l (.lst (xs++zs)))
def Uc:V->List V->Hp->VK->Prop:=fun x vs H Q=>∃l xs y,x= .ref l/\vs=[]/\H l=some (.lst xs)/\xs[xs.length - 1]? =some y/\Q y (upd H l (.lst xs.dropLast))
def Oc:V->List V->Hp->VK->Prop:=fun x vs H Q=>∃l xs i k y,x= .ref l/\vs=[.int i]/\H l=some (.lst xs)/\ -(2 ^ 63)<=i/\i < 2 ^ 63/\seqIndex? i xs.length=some k/\xs[k]? =some y/\Q y (upd H l (.lst (xs.eraseIdx k)))
def K4:V->List V->Hp->VK->Prop:=fun x vs H Q=>∃l xs,x= .ref l/\vs=[]/\H l=some (.lst xs)/\Q .cz (upd H l (.lst xs.reverse))
def Ol:V->List V->Hp->VK->Prop:=fun x vs H Q=>∃l xs,x= .ref l/\vs=[]/\H l=some (.lst xs)/\Q .cz (upd H l (.lst []))
def Ue:R2:=fun x y H Q=>∃l b xs zs,x= .ref l/\y= .ref b/\H l=some (.lst xs)/\H b=some (.lst zs)/\xs.length+zs.length<=sizeLine/\∀p,H p=none->Q (.ref p) (upd H p (.lst (xs++zs)))
def TZ:R2:=fun x y H Q=>∃l k xs,x= .ref l/\y= .int k/\H l=some (.lst xs)/\ -(2 ^ 63)<=k/\k < 2 ^ 63/\xs.length*k.toNat<=sizeLine/\
 ∀p,H p=none->Q (.ref p) (upd H p (.lst (List.replicate k.toNat xs).flatten))
end
section
variable {prog:Program} {w:World} {A:Around} {E:WG} {s:Shared}
set_option maxRecDepth 100000 in
end
section
variable {X:Cx}
end
end L2
namespace Att
open PySem PySem.W PySem.Calls PyProof.Rows
theorem pS{P:Params}:∀(ns:List Int) (vs:List Value),WellAll P h vs (ns.map WData.int)->IntsAre vs ns:=by
 intro ns
 induction ns with
 | nil=>
   intro vs w;rw[List.map_nil] at w;cases w;exact .nil
 | cons n ns ih=>
   intro vs w;rw[List.map_cons] at w;cases w with
   | cons a b=>
     cases a;exact .cons _ _ (ih _ b)
theorem z0{l:OpenLaw}{n:Nat}(hn:l.most=some n){P:Params}{h:Heap}{args:List WData}{vals:List Value}
 (Gi:l.row.toRowW.claim.pre args=true) (s_:WellAll P h vals args) :
 ∃a vs ns,vals=[Value.ref a]/\args=[WData.list (ns.map WData.int)]/\h.get? a=some {cls:= .type "list",data:= .seq vs.toArray}/\IntsAre vs ns/\ns.length<=n:=by
 have hsh:WShape.hasAll [] args [.list .int]=true:=(pre_splitW Gi).1;have hc:l.pre.holds [] {args:=args}=true:=(pre_splitW Gi).2;obtain⟨d,r,rfl,h1,h2⟩:=hasAllW_cons hsh;obtain rfl:=hasAllW_nil h2;obtain⟨xs,rfl,h3⟩:=hasW_list h1;obtain⟨ns,rfl⟩:=items_int h3;have hlen:ns.length<=n:=by
  unfold OpenLaw.pre at hc;have h4:(WTm.not (.lt (.lit (.int (n:Int))) (.len (.arg 0)))).holds [] {args:=[.list (ns.map .int)]}=true:=by
   have h4:=(holds_andW hc).1;rw[hn] at h4;exact h4
  have h5:=condW_of h4 (w_not (w_lt w_lit (w_len_list (w_arg rfl))));rw[List.length_map] at h5;refine Nat.le_of_not_lt fun q=>?_
  have q':(n:Int) < ((ns.length:Nat):Int):=by omega
  first
   | (rw [decide_eq_true q'] at h5;exact absurd h5 (by decide))
   | (simp at h5;omega)
 cases s_ with
 | cons w1 w2=>
   cases w2;cases w1 with
   | list ho AB=>exact⟨_,_,ns,rfl,rfl,ho,pS ns _ AB,hlen⟩
theorem Ae(l:OpenLaw)(args:List WData):l.row.toRowW.claim.post args (.bool true) args=true:=
 postW_of (r:=l.row.toRowW) (X:=(true==true))
  (show WShape.has [] (.bool true) .bool=true by first | rfl | decide | simp [WShape.has,WShape.arms,WShape.armsAll])
  (show(WTm.eq .res (.lit (.bool true))).value [] {args:=args,res:=some (.bool true),after:=args}=some (.bool (true==true)) from w_eq_bool (w_res rfl) w_lit) rfl
theorem vz{l:OpenLaw}{n:Nat}{q:Program}{loose:List Str}{XP:(Str->Option Value)->Heap->Prop}{YP:World->Heap->Prop}{d:DefRec}
 (hn:l.most=some n) (OB:d.params.defaults=[])
 (call:∀(w:World) (s₀ s₁:Shared) (mg mb:WK) (fa:Addr) (o:Obj) (pm cd doc:Value) (a:Addr) (vs:List Value) (ns:List Int),
   Ground q loose [] XP w s₀ mg mb s₁.heap->YP w s₁.heap->
   s₁.heap.get? fa=some o->o.data= .func (docDef d.name d.params d.body d.scope pm cd doc)->s₁.heap.CodeRec cd d.name->mg d.name=some (.ref fa)->
   s₁.heap.get? a=some {cls:= .type "list",data:= .seq vs.toArray}->IntsAre vs ns->ns.length<=n->s₁.gens=#[]->
   codeAny (model l.prog w) callerA (.call (.ref fa) ⟨[.ref a],[]⟩) (fun r s'=>r= .ok (.ret (.bool true))/\OldK s₁.heap s'.heap/\s'.os=s₁.os/\AllBare s'.gens) s₁) :
 WalkO q loose XP YP l.row.toRowW d [] (fun f vs=>PySem.call f vs):=by
 intro w s₀ s₁ mg mb G Y fa o pm cd doc dV kV ho hd rK hD Mq hg args vals as Gi hlay hrd s_ hlo;obtain rfl:dV= .none:=Dflts.none hD OB;obtain rfl:kV= .none:=Dflts.noKw hD;obtain⟨a,vs,ns,rfl,rfl,J1,hints,hlen⟩:=z0 hn Gi s_;refine enter_call (codeAny_mono (call w s₀ s₁ mg mb fa o pm cd doc a vs ns G Y ho (fd_plain hd) rK Mq J1 hints hlen hg) fun r s' hq=>?_)
 obtain⟨rfl,h2,h3,h4⟩:=hq;exact⟨.inl ⟨.bool true, .bool true,[],rfl,fun _=>rfl, .bool true,Ae l _,fun _=>⟨List.Pairwise.nil,fun _ hm=>(nomatch hm)⟩⟩,h2,h3,h4⟩
section
variable {prog:Program} {w:World} {A:Around} {E:WG} {s:Shared} {K:Frag}
def N5(h:Heap):Heap:={h with objs:=#[]}
def ledger(h:Heap)(L d:Addr):WD:=(List.range h.objs.size).filterMap fun a=>if a=L\/a=d then none else(h.get? a).map fun o=>(a,o)
end
end Att
namespace L2
open PySem PySem.Spec PyProof.Rows
theorem sV:∀{vs:List Value} {ns:List Int},IntsAre vs ns->Vals (ns.map V.int) vs
 | _,_, .nil=> .nil
 | _,_, .cons n t h=> .cons ⟨t,rfl⟩ (sV h)
def Le(H:Hp):Prop:=∀b,H b=none\/∃o xs,H b=some (.kK o (.lst xs))
abbrev eI{K:W.Frag}{h:Heap}(_:K.In h):W.Frag:=K
def inClass(s:Stmt)(j:Nat):Stmt:=match s with
 | .ClassDef _ _ _ body _ _ _ _ _ _ _=>body.getD j (.Pass ⟨0,0,0,0⟩)
 | _=> .Pass ⟨0,0,0,0⟩
def gx(s:Stmt):Arguments:=match s with
 | .FunctionDef _ a _ _ _ _ _ _ _ _=>a
 | _=>{posonlyargs:=[],args:=[],vararg:=none,kwonlyargs:=[],kw_defaults:=[],kwarg:=none,defaults:=[]}
def aR(s:Stmt):List Stmt:=match s with
 | .FunctionDef _ _ b _ _ _ _ _ _ _=>b
 | _=>[]
def aF(s:Stmt):Scope:=match s with
 | .FunctionDef _ _ _ _ _ _ sc _ _ _=>sc
 | _=>{kind:= .function,names:=[],isGenerator:=false,isCoroutine:=false}
abbrev rX:AK:=fun _ _ _ _ _ _=>False
abbrev E0:XK:=fun _ _ _=>False
theorem GY{X:Cx}:Passes rX X E0:=fun _ _ _ _ _ _ _ h=>h.elim
structure wW (K:W.Frag) (x qual:Str) (st:Stmt) (f:Addr) (fd:FuncData):Prop where
 ex:∃(oc:Value) (od:Option Addr) (kV doc pm:Value) (an:Option Addr) (dD ct:Value) (AM:Array (Option Value)),
  fd=PySem.W.fnOf x qual (gx st) (aR st) (aF st) .none kV doc pm an dD ct/\K.lookup f=some ⟨oc,od, .func fd,AM⟩/\PySem.W.codeIn K dD qual=true
 kp:PySem.W.keepIn K (.ref f)=true
section
variable {P:Program} {w:World} {K:W.Frag} {mg:WK} {base:Heap}
theorem wW.ok{x qual:Str}{st:Stmt}{f:Addr}{fd:FuncData}{N ps:List Str}{k:Nat}{sp:Sp}(F:wW K x qual st f fd)(S:bc N ps (aF st))(len:∀vs H Q E,sp vs H Q E->vs.length=ps.length)
 (jc:∀(dD:Value) (A:Around) (outer:List Env) (s:Shared) (H:Hp) (vs:List V) (Q:VK) (E:XK),dP k (A.deeper (envOfC qual (aF st) s.heap.objs.size f dD))->sp vs H Q E->
   ∃t,uo (jZ rX P w K mg base N qual (aF st) f dD A outer s H E).F1 (aR st) t/\t {nx:=fun _ H'=>Q .cz H',rt:=Q} (start N vs) H):f9 P w K mg base rX (k+1) f fd ps sp:=by
 obtain⟨oc,od,kV,doc,pm,an,dD,ct,AM,rfl,lk,rK⟩:=F.ex;refine GQ lk rK S len fun A outer s H vs Q E hr Ha=>?_
 obtain⟨t,h,q⟩:=jc dD A outer s H vs Q E hr Ha;exact⟨t,h.F1,q⟩
theorem wW.binds{x qual:Str}{st:Stmt}{f:Addr}{fd:FuncData}{ps:List Str}(F:wW K x qual st f fd)
 (h:∀(kV doc pm:Value) (an:Option Addr) (dD ct:Value) (us:List Value),us.length=ps.length->bindArgs (PySem.W.fnOf x qual (gx st) (aR st) (aF st) .none kV doc pm an dD ct) ⟨us,[]⟩=pure (ps.zip us)):Binds K fd ps []:=by
 obtain⟨oc,od,kV,doc,pm,an,dD,ct,AM,rfl,lk,rK⟩:=F.ex;exact .all (h kV doc pm an dD ct)
theorem oC{x qual:Str}{st:Stmt}{f:Addr}{oc:Value}{od an:Option Addr}{AM:Array (Option Value)}{kV doc pm dD ct:Value}(l:K.lookup f=some ⟨oc,od, .func (PySem.W.fnOf x qual (gx st) (aR st) (aF st) .none kV doc pm an dD ct),AM⟩)
 (c:PySem.W.codeIn K dD qual=true) (k:PySem.W.keepIn K (.ref f)=true):wW K x qual st f (PySem.W.fnOf x qual (gx st) (aR st) (aF st) .none kV doc pm an dD ct):=⟨⟨oc,od,kV,doc,pm,an,dD,ct,AM,rfl,l,c⟩,k⟩
end
theorem j6{A:Around}{k:Nat}(hr:dP k A):A.units+1 < cLine:=Nat.lt_of_le_of_lt (Nat.add_le_add_left (by decide:1<=64) _) hr.units
section
variable {X:Cx}
theorem zJ:iI X (.builtin "len") (fun xs H Q=>∃a ay,xs=[V.ref a]/\H a=some (.dK ay)/\Q (.int ay.length) H):=by
 intro pins s σ H xs us Q I r h;obtain⟨a,ay,rfl,ha,q⟩:=h;obtain⟨u,rfl,ru⟩:=vals1 r;cases ru;exact Lh I (.inl ha) fun t s' I'=>⟨.int ay.length,H,I',⟨t,rfl⟩,q⟩
end
theorem CG{A B:Prop}(h:B):if false=true then A else B:=by
 rw[if_neg Bool.false_ne_true];exact h
theorem C_{A B:Prop}(h:A):if true=true then A else B:=by
 rw[if_pos rfl];exact h
def aN(H H':Hp):Prop:=∀b o,H b=some o->H' b=some o
theorem aN.refl(H:Hp):aN H H:=fun _ _ h=>h
theorem aN.trans(a:aN H H1)(b:aN H1 H2):aN H H2:=fun c o h=>b c o (a c o h)
theorem aN.free{H H':Hp}(e:aN H H'){l:Addr}(h:H' l=Option.none):H l=Option.none:=by
 cases q:H l with
 | none=>rfl
 | some o=>
   rw[e l o q] at h;cases h
section
variable {κ:Type} [DecidableEq κ]
end
end L2
end
section
namespace L2
open PySem PySem.Spec PyProof.Rows
def mB(cells:List (Str × Addr)):List (Str × NameKind)->List (Str × Addr)->List (Str × Addr)
 | [],acc=>acc
 | (n,k) ::r,acc=>mB cells r (if k==NameKind.free then(n,(cells.lookup n).getD 0) ::acc else acc)
theorem kz{env:Env}:∀(names:List (Str × NameKind)) (acc:List (Str × Addr)),(∀y∈names,y.2= .free->∃c,env.cells.lookup y.1=some c)->
 (forIn names acc fun(x:Str × NameKind) (cs:List (Str × Addr))=>(match x with
   | (name,kind)=>if kind== .free then do let a <-cellOf env name;pure (ForInStep.yield ((name,a) ::cs)) else pure (ForInStep.yield cs):Sem (ForInStep (List (Str × Addr)))))=pure (mB env.cells names acc)
 | [],acc,_=>by simp [mB]
 | (n,k) ::r,acc,h=>by
   rw[List.forIn_cons];by_cases hk:k=NameKind.free
   .subst hk;obtain⟨c,hc⟩:=h (n, .free) List.mem_cons_self rfl;have e:cellOf env n=pure c:=by unfold cellOf;rw [hc]
    simp only[beq_self_eq_true,if_true,e,pure_bind,mB,hc,Option.getD_some];exact kz r _ fun y hy=>h y (List.mem_cons_of_mem _ hy)
   .have hb:(k==NameKind.free)=false:=by simpa using hk
    simp only[hb,Bool.false_eq_true,if_false,pure_bind,mB];exact kz r _ fun y hy=>h y (List.mem_cons_of_mem _ hy)
theorem kN{env:Env}{scope:Scope}(h:∀y∈scope.names,y.2= .free->∃c,env.cells.lookup y.1=some c):closureFor scope env=pure (mB env.cells scope.names []):=by
 unfold closureFor;have:=kz (env:=env) scope.names [] h;simp only[bind_pure];exact this
theorem jv{cells:List (Str × Addr)}:∀(names:List (Str × NameKind)) (acc:List (Str × Addr)) {x:Str} {c:Addr},(mB cells names acc).lookup x=some c->
 acc.lookup x=some c\/((x,NameKind.free)∈names/\c=(cells.lookup x).getD 0)
 | [],acc,x,c,h=> .inl h
 | (n,k) ::r,acc,x,c,h=>by
   rcases jv r _ h with q | ⟨q1,q2⟩
   .by_cases hk:k=NameKind.free
    .subst hk;simp only[beq_self_eq_true,if_true] at q;cases hx:x==n with
     | true=>
       have e:x=n:=by simpa using hx
       subst e;rw[List.lookup_cons,hx] at q;exact .inr ⟨List.mem_cons_self,(Option.some.inj q).symm⟩
     | false=>
       rw[List.lookup_cons,hx] at q;exact .inl q
    .have hb:(k==NameKind.free)=false:=by simpa using hk
     simp only[hb,Bool.false_eq_true,if_false] at q;exact .inl q
   .exact .inr ⟨List.mem_cons_of_mem _ q1,q2⟩
theorem vX{cells:List (Str × Addr)}:∀(names:List (Str × NameKind)) (acc:List (Str × Addr)) {x:Str},((x,NameKind.free)∈names\/∃c,acc.lookup x=some c)->∃c,(mB cells names acc).lookup x=some c
 | [],acc,x,h=>by
   rcases h with h | h
   .simp at h
   .exact h
 | (n,k) ::r,acc,x,h=>by
   refine vX r _ ?_;rcases h with h | ⟨c,h⟩
   .rcases List.mem_cons.mp h with e | e
    .cases e;exact .inr ⟨(cells.lookup n).getD 0,by simp [List.lookup_cons]⟩
    .exact .inl e
   .by_cases hk:k=NameKind.free
    .subst hk;simp only[beq_self_eq_true,if_true];cases hx:x==n with
     | true=>exact .inr ⟨(cells.lookup n).getD 0,by rw[List.lookup_cons,hx]⟩
     | false=>exact .inr ⟨c,by rw[List.lookup_cons,hx];exact h⟩
    .have hb:(k==NameKind.free)=false:=by simpa using hk
     simp only[hb,Bool.false_eq_true,if_false];exact .inr ⟨c,h⟩
theorem ux:∀(names:List (Str × NameKind)) (n:Nat) (acc:List (Str × Addr)) {x:Str},(x,NameKind.cell) ∉ names->(cellsFrom n names acc).lookup x=acc.lookup x
 | [],_,_,_,_=>rfl
 | (y,k) ::r,n,acc,x,h=>by
   unfold cellsFrom;split
   .rename_i hk;have hk:k= .cell:=by simpa using hk
    subst hk;rw[ux r _ _ fun z=>h (List.mem_cons_of_mem _ z),List.lookup_cons]
    cases hx:x==y with
    | true=>
      have e:x=y:=by simpa using hx
      subst e;exact absurd List.mem_cons_self h
    | false=>rfl
   .exact ux r _ _ fun z=>h (List.mem_cons_of_mem _ z)
theorem mU:∀(names:List (Str × NameKind)) (n:Nat) (acc:List (Str × Addr)),cellsFrom n names acc=cellsFrom n names []++acc
 | [],_,_=>rfl
 | (y,k) ::r,n,acc=>by
   unfold cellsFrom;split
   .rw [mU r (n+1) ((y,n) ::acc),mU r (n+1) [(y,n)],List.append_assoc];rfl
   .exact mU r n acc
theorem xM{a b:List (Str × Addr)}{c:Addr}(h:(a++b).lookup x=some c):(x,c)∈a\/b.lookup x=some c:=by
 induction a with
 | nil=>exact .inr h
 | cons y r ih=>
   obtain⟨n,v⟩:=y;rw[List.cons_append,List.lookup_cons] at h;cases hx:x==n with
   | true=>
     rw[hx] at h;have e:x=n:=by simpa using hx
     subst e;cases h;exact .inl List.mem_cons_self
   | false=>
     rw[hx] at h;exact(ih h).imp (List.mem_cons_of_mem _) id
theorem lu{a b:List (Str × Addr)}(h:∃c,b.lookup x=some c):∃c,(a++b).lookup x=some c:=by
 induction a with
 | nil=>exact h
 | cons y r ih=>
   rw[List.cons_append,List.lookup_cons];cases x==y.1 with
   | true=>exact⟨_,rfl⟩
   | false=>exact ih
theorem ug{a b:List (Str × Addr)}{c:Addr}(h:a.lookup x=some c):∃c,(a++b).lookup x=some c:=by
 induction a with
 | nil=>cases h
 | cons y r ih=>
   rw[List.cons_append,List.lookup_cons];rw[List.lookup_cons] at h;cases hx:x==y.1 with
   | true=>exact⟨_,rfl⟩
   | false=>rw [hx] at h;exact ih h
theorem sQ{M:Model}{A:Around}{E:WG}{s:Shared}{scope:Scope}{cl:List (Str × Addr)}{qual:Str}{env:Env}{Q:Env->Shared->Prop}(hQ:∀h',h'.Ns s.heap.objs.size (fun _=>none)->(∀b o,s.heap.get? b=some o->h'.get? b=some o)->CellsOk h' (s.heap.objs.size+1) (cellsFrom (s.heap.objs.size+1) scope.names [])->
 Q (newEnv scope s.heap.objs.size env.globals (cellsFrom (s.heap.objs.size+1) scope.names cl) qual none .none (some env) builtinsNs) {s with heap:=h'}) :
 wpAny M A (newFunctionEnv scope env.globals cl [] qual none .none (some env)) Q E s:=by
 simp only[newFunctionEnv,Option.isSome_some,if_true];refine wpAny_bind (wpAny_alloc ?_);refine wpAny_bind (wpAny_layCells _ (fun name kind cells=>by cases hkc:kind==NameKind.cell <;> simp [hkc]) _ _ _ _ ?_)
 have ok:=cellsFrom_ok scope.names (s.heap.push {cls:= .type "dict",data:= .dict #[]}) (s.heap.objs.size+1) [] ⟨fun _ _ hm=>(nomatch hm),List.Pairwise.nil⟩ (by rw[Heap.size_push];exact Nat.le_refl _)
 rw[Heap.size_push] at ok;rw[show({s with heap:=s.heap.push {cls:= .type "dict",data:= .dict #[]}}:Shared).heap.objs.size=s.heap.objs.size+1 from Heap.size_push ..]
 rw[List.forIn_nil];refine wpAny_bind (wpAny_pure (wpAny_pure ?_));exact hQ _ ((Heap.Ns.new s.heap (.type "dict")).keeps (pushCells_keeps _ _)) (fun b o e=>pushCells_keeps _ _ b o (Heap.get?_push_of_some _ e)) ok
def aW(X:Cx)(scope:Scope)(N':List Str)(fp:List Addr)(s:Shared)(H:Hp):Cx where
 prog:=X.prog
 w:=X.w
 K:=X.K
 mg:=X.mg
 base:=X.base
 A:=X.A
 N:=N'
 s₀:=s
 H₀:=H
 env:=compEnvC scope (cellsFrom (s.heap.objs.size+1) scope.names (mB X.env.cells scope.names [])) s.heap.objs.size X.env
 outer:=X.stack
 stack:=X.stack
 ex:=fp
 fn:=fun x=>scope.names.lookup x==some .cell
 calm:=X.calm
 pn:=[]
 xe:=fun _ _=>False
structure bG (X:Cx) (scope:Scope) (own:List Str) (kp:List Nat) (kn:List Str):Prop where
 kind:scope.kind= .function
 cel:∀y∈scope.names,y.2= .cell->scope.names.lookup y.1=some .cell
 nd:∀y∈scope.names,y.2= .local->scope.names.lookup y.1=some .local
 free:∀y∈scope.names,y.2= .free->X.env.kindOf y.1=some .cell\/X.env.kindOf y.1=some .free
 frl:∀y∈scope.names,y.2= .free->scope.names.lookup y.1=some .free
 names:kn.length=kp.length
 at_:∀(j i:Nat) (x:Str),kp[j]? =some i->kn[j]? =some x->X.N[i]? =some x
 isfree:∀x∈kn,scope.names.lookup x=some .free
def c8(own:List Str)(kp:List Nat)(σ:St):St:=List.replicate own.length none++kp.map fun i=>(σ[i]?).getD none
section
variable {X:Cx} {scope:Scope} {own:List Str} {kp:List Nat} {kn:List Str}
theorem d7{env:Env}:∀{names:List (Str × NameKind)} {x:Str} {k:NameKind},
 (names.map fun(n,k)=>if(k==NameKind.free && env.scope.kind== .function && env.kindOf n==some .cell) then(n,NameKind.cell) else(n,k)).lookup x=some k->
 names.lookup x=some k\/(k= .cell/\names.lookup x=some .free)
 | [],_,_,h=>by simp at h
 | (n,k) ::r,x,k',h=>by
   have ih:=@d7 env r x k';have h:List.lookup x ((if(k==NameKind.free && env.scope.kind== .function && env.kindOf n==some .cell)=true then(n,NameKind.cell) else(n,k)) ::_)=some k':=h
   by_cases hc:(k==NameKind.free && env.scope.kind== .function && env.kindOf n==some .cell)=true
   .rw [if_pos hc] at h;have hkf:k= .free:=by
     simp only[Bool.and_eq_true,beq_iff_eq] at hc;exact hc.1.1
    cases hx:x==n with
    | true=>
      rw[List.lookup_cons,hx] at h;cases h;exact .inr ⟨rfl,by rw[List.lookup_cons,hx,hkf]⟩
    | false=>
      rw[List.lookup_cons,hx] at h;rw[List.lookup_cons,hx];exact ih h
   .rw [if_neg hc] at h;cases hx:x==n with
    | true=>
      rw[List.lookup_cons,hx] at h;rw[List.lookup_cons,hx];exact .inl h
    | false=>
      rw[List.lookup_cons,hx] at h;rw[List.lookup_cons,hx];exact ih h
theorem nh{pins:WD}{s:Shared}(C:bG X scope own kp kn)(I:Inv X pins σ H s):∀y∈scope.names,y.2= .free->∃c,X.env.cells.lookup y.1=some c:=fun y hy hf=>
 I.ok.has y.1 (C.free y hy hf)
theorem AW{pins:WD}{σ:St}{H:Hp}{s:Shared}{fp:List Addr}{kT:Heap}{tk:Nat}(C:bG X scope own kp kn)(I:Inv X pins σ H s)(hf:∀b∈fp,pK X pins H b)(hb:∀b∈fp,b < s.heap.objs.size)
 (hn:kT.Ns s.heap.objs.size (fun _=>none)) (hk:∀b o,s.heap.get? b=some o->kT.get? b=some o) (hC:CellsOk kT (s.heap.objs.size+1) (cellsFrom (s.heap.objs.size+1) scope.names [])):Inv (aW X scope (own++kn) fp s H) [] (c8 own kp σ) H {s with heap:=kT,toks:=tk}:=by
 have cl:∀x c,(mB X.env.cells scope.names []).lookup x=some c->X.env.cells.lookup x=some c:=fun x c e=>by
  rcases jv scope.names [] e with q | ⟨q1,q2⟩
  .simp at q
  .obtain⟨c',AN⟩:=nh C I (x, .free) q1 rfl;have AN:X.env.cells.lookup x=some c':=AN;rw[AN] at q2;rw[AN,q2];rfl
 have clA:∀x c,(cellsFrom (s.heap.objs.size+1) scope.names (mB X.env.cells scope.names [])).lookup x=some c->(x,c)∈cellsFrom (s.heap.objs.size+1) scope.names []\/(mB X.env.cells scope.names []).lookup x=some c:=fun x c e=>by
  rw[mU] at e;exact xM e
 have old:∀x c,(mB X.env.cells scope.names []).lookup x=some c->c < s.heap.objs.size:=fun x c e=>by
  obtain⟨v,h⟩:=I.cell x c (cl x c e);exact h.lt
 have new:∀x c,(x,c)∈cellsFrom (s.heap.objs.size+1) scope.names []->s.heap.objs.size<=c:=fun x c e=>Nat.le_of_lt (hC.empty x c e).2
 have clh:∀x,scope.names.lookup x=some .free->∃c,(mB X.env.cells scope.names []).lookup x=some c:=fun x hx=>vX scope.names [] (.inl (PySem.mem_of_lookup hx))
 refine⟨⟨I.ok.mod,C.kind,I.ok.glob,I.ok.blt,Nat.le_refl _,fun x y c h1 h2=>?inj,fun x hx=>?_,fun x c hn h=>?cab,I.ok.hd,I.ok.frames, .inl rfl,fun b qg=>⟨Nat.ne_of_lt (hb b qg),fun x c e z=>?exf⟩,
  fun b o e=>I.bs b o e,Nat.le_trans I.ok.bsz I.sz,fun b o e qg=>?_,fun b qg hs=>?_,I.stack,I.p9⟩,
  rfl,I.bare,Un.kept hk,⟨_,hn,fun i x v h1 h2 h3=>?_⟩,fun x c e=>?_,I.hok.fresh (Nat.le_refl _),fun x c e=>?frc,fun p hp=>(by cases hp),I.hok.kept hk,?_⟩
 case inj=>
  rcases clA x c h1 with a | a <;> rcases clA y c h2 with b | b
  .exact name_of_addr hC.apart a b
  .exact absurd (Nat.lt_of_lt_of_le (old y c b) (new x c a)) (Nat.lt_irrefl _)
  .exact absurd (Nat.lt_of_lt_of_le (old x c a) (new y c b)) (Nat.lt_irrefl _)
  .exact I.ok.inj x y c (cl x c a) (cl y c b)
 case cab=>
  have hn:(scope.names.lookup x==some .cell)=true:=hn;rcases clA x c h with a | a
  .exact new x c a
  .rcases jv scope.names [] a with q | ⟨q1,q2⟩
   .simp at q
   .have hx:scope.names.lookup x=some .cell:=by simpa using hn
    have h7:scope.names.lookup x=some .free:=C.frl _ q1 rfl;rw[hx] at h7;cases h7
 case exf=>
  rcases clA x c e with a | a
  .subst z;exact absurd (Nat.lt_of_lt_of_le (hb _ qg) (new x _ a)) (Nat.lt_irrefl _)
  .exact(hf b qg).2.2.2.2.1 x c (cl x c a) z
 case frc=>
  rcases clA x c e with a | a
  .exact I.hok.fresh (new x c a)
  .exact I.freeC x c (cl x c a)
 .have hx:(relabel scope X.env).names.lookup x=some .cell\/(relabel scope X.env).names.lookup x=some .free:=hx;show ∃c,(cellsFrom (s.heap.objs.size+1) scope.names (mB X.env.cells scope.names [])).lookup x=some c;rcases hx with hx | hx
  .rcases d7 hx with q | ⟨_,q⟩
   .rw [mU];obtain⟨c,hc⟩:=qQ (n:=s.heap.objs.size+1) q;exact ug hc
   .rw [mU];exact lu (clh x q)
  .rcases d7 hx with q | ⟨q,_⟩
   .rw [mU];exact lu (clh x q)
   .cases q
 .rcases(hf b qg).2.2.2.1 with z | z
  .exact I.ok.noex b o e z
  .exact absurd (Nat.lt_of_lt_of_le (Heap.lt_size (I.ok.bs b o e).1) z) (Nat.lt_irrefl _)
 .rcases List.mem_cons.mp (I.xw b hs) with z | z
  .exact(hf b qg).2.1 z
  .exact(hf b qg).2.2.1 z
 .-- a kept name
  have h1:(own++kn)[i]? =some x:=h1;have h2:(c8 own kp σ)[i]? =some (some v):=h2;unfold c8 at h2;by_cases hi:i < own.length
  .rw [List.getElem?_append_left (by simpa using hi),List.getElem?_replicate] at h2
   split at h2 <;> cases h2
  .rw [List.getElem?_append_right (by simpa using hi),List.length_replicate,List.getElem?_map] at h2
   rw[List.getElem?_append_right (by simpa using hi)] at h1
   cases e:kp[i - own.length]? with
   | none=>rw [e] at h2;cases h2
   | some j=>
     rw[e] at h2;have h2:(σ[j]?).getD none=some v:=Option.some.inj h2;have hj:X.N[j]? =some x:=C.at_ _ j x e h1;have Gs:σ[j]? =some (some v):=by
      cases q:σ[j]? with
      | none=>rw [q] at h2;cases h2
      | some y=>rw [q] at h2;exact congrArg some h2
     have hfree:scope.names.lookup x=some .free:=C.isfree x (List.mem_of_getElem? h1);have hkind:=C.free (x, .free) (PySem.mem_of_lookup hfree) rfl;obtain⟨m,hm,hl⟩:=I.loc;obtain⟨u,r,l⟩:=hl j x v hj Gs (hkind.elim (fun q=>Or.inr (Or.inl q)) fun q=>Or.inr (Or.inr q))
     refine⟨u,r, .inr ⟨?_,?_⟩⟩
     .have h3:(relabel scope X.env).names.lookup x=some .local\/(relabel scope X.env).names.lookup x=some .cell\/(relabel scope X.env).names.lookup x=some .free:=h3;rcases h3 with q | q | q
      .rcases d7 q with z | ⟨z,_⟩
       .rw [hfree] at z;cases z
       .cases z
      .exact .inl q
      .exact .inr q
     .rcases l with⟨k,_⟩ | ⟨_,c,hc,hcell⟩
      .rcases hkind with q | q
       .rw [show X.env.kindOf x=some .cell from q] at k;cases k
       .rw [show X.env.kindOf x=some .free from q] at k;cases k
      .obtain⟨c',AN⟩:=clh x hfree;have:=cl x c' AN;rw[hc] at this;cases this;obtain⟨o,ho,hd⟩:=hcell;exact⟨c,(ux _ _ _ fun z=>by have:=C.cel _ z rfl;rw [hfree] at this;cases this).trans AN,o,hk c o ho,hd⟩
 .rcases clA x c e with a | a
  .exact⟨_,(hC.empty x c a).1⟩
  obtain⟨v,o,ho,hd⟩:=I.cell x c (cl x c a);exact⟨v,o,hk c o ho,hd⟩
 .show(c8 own kp σ).length=(own++kn).length;unfold c8;rw[List.length_append,List.length_replicate,List.length_map,List.length_append,C.names]
theorem qI{pins:WD}{s s':Shared}{fp:List Addr}{N':List Str}(I:Inv X pins σ H s)(hf:∀b∈fp,pK X pins H b)(J:Inv (aW X scope N' fp s H) [] cG H' s'):Inv X pins σ H' s':=
 I.Kz (ch:=fp) J.os J.base J.hok J.bare fun b hb=>⟨(hf b hb).2.2.2.1,(hf b hb).2.1,(hf b hb).2.2.2.2.1,(hf b hb).2.2.2.2.2⟩
end
def nR(X:Cx)(ifs:List Expr)(t:TT):Prop:=
 ∀(pins:WD) (s:Shared) (σ:St) (H:Hp) (Q:Bool->Hp->Prop),Inv X pins σ H s->t σ H Q->
  wpAny (model X.prog X.w) X.A (forIn ifs true fun c r=>if r=true then do let ok <-isTrue c X.env (eval c X.env);pure (ForInStep.yield ok) else pure (ForInStep.yield r)) (TP X pins σ Q) X.xe s
def N9:TT:=fun _ H Q=>Q true H
theorem vO{X:Cx}:nR X [] N9:=fun _ _ _ H _ I h=>wpAny_tests_nil ⟨H,I,h⟩
theorem A3{X:Cx}{t:TT}(h:PT X c t):nR X [c] t:=fun pins s σ H Q I hq=>wpAny_tests_one (h pins s σ H Q I hq)
def y7(wi:TI)(g:TG)(tc:TT)(te:TE)(own:List Str)(kp:List Nat):TE:=fun σ H Q=>wi σ H fun J H1=>∀D,H1 D=none->
 ∃W:Nat->Nat->List V->Hp->Prop,(∃m,W 0 m [] (upd H1 D (.lst [])))/\∀i m ys H,W i m ys H->
  (J.stop i H/\Q (.ref D) H)\/(J.go i H/\∀x H',J.yld i H x H'->g x (c8 own kp σ) H' fun r9 H2=>tc r9 H2 fun c H3=>
    if c=true then te r9 H3 fun y H4=>H4 D=some (.lst ys)/\ys.length < sizeLine/\∃m',m' < m/\W (i+1) m' (ys++[y]) (upd H4 D (.lst (ys++[y])))
    else ∃m',m' < m/\W (i+1) m' ys H3)
section
variable {X:Cx} {scope:Scope} {own:List Str} {kp:List Nat} {kn:List Str} {tg iter elt:Expr} {ifs:List Expr} {wi:TI} {g:TG} {tc:TT} {te:TE} {pos:Pos}
theorem vB{pins:WD}{σ:St}{H:Hp}{s:Shared}{fp:List Addr}{it D:Addr}{tn:Nat->Heap->Prop}{J:It}{Q:VK}{kT:Heap}{tk:Nat}{R:Result->Shared->Prop}
 (hc:X.calm=true) (C:bG X scope own kp kn) (I:Inv X pins σ H s) (hf:∀b∈fp,pK X pins H b) (hb:∀b∈fp,b < s.heap.objs.size) (T:Turn X.prog X.w X.K tg J fp it tn)
 (hg:PG (aW X scope (own++kn) fp s H) tg g) (hi:nR (aW X scope (own++kn) fp s H) ifs tc) (he:PE (aW X scope (own++kn) fp s H) elt te)
 (hn:kT.Ns s.heap.objs.size (fun _=>none)) (hk:∀b o,s.heap.get? b=some o->kT.get? b=some o) (hC:CellsOk kT (s.heap.objs.size+1) (cellsFrom (s.heap.objs.size+1) scope.names [])) (st:tn 0 s.heap)
 (W:Nat->Nat->List V->Hp->Prop) (w0:∃m,W 0 m [] H)
 (turn:∀i m ys H,W i m ys H->
   (J.stop i H/\Q (.ref D) H)\/(J.go i H/\∀x H',J.yld i H x H'->g x (c8 own kp σ) H' fun r9 H2=>tc r9 H2 fun c H3=>
     if c=true then te r9 H3 fun y H4=>H4 D=some (.lst ys)/\ys.length < sizeLine/\∃m',m' < m/\W (i+1) m' (ys++[y]) (upd H4 D (.lst (ys++[y])))
     else ∃m',m' < m/\W (i+1) m' ys H3))
 (hR:∀H' s' cG,Inv (aW X scope (own++kn) fp s H) [] cG H' s'->Q (.ref D) H'->R (.ok .next) s') :
 codeAny (model X.prog X.w) X.A (.compStart (.ListComp elt [⟨tg,iter,ifs,0⟩] scope pos) 0 (.ref it) (.ref D) (aW X scope (own++kn) fp s H).env) R {s with heap:=kT,toks:=tk}:=by
 have I1:Inv (aW X scope (own++kn) fp s H) [] (c8 own kp σ) H {s with heap:=kT,toks:=tk}:=AW C I hf hb hn hk hC
 have RT:tn 0 kT:=T.keep _ _ _ st fun b _ o e=>hk b o e
 have fp1:∀{H':Hp} {p:WD},(∀b∈fp,H' b=none)->(∀b∈fp,∀q∈p,q.1≠b)->∀b∈fp,pK (aW X scope (own++kn) fp s H) p H' b:=fun {H' p} hn hp b qg=>
  ⟨hn b qg,(I1.ok.exf b qg).1,I1.ok.exfs b qg, .inl qg,fun x c e=>(I1.ok.exf b qg).2 x c e,fun q hq=>hp b qg q hq⟩
 obtain⟨m0,w0⟩:=w0;have loop:codeAny (model X.prog X.w) X.A (.compLoop (.ListComp elt [⟨tg,iter,ifs,0⟩] scope pos) 0 (.ref it) (.ref D) (aW X scope (own++kn) fp s H).env) R {s with heap:=kT,toks:=tk}:=by
  refine codeAny_loop rfl (fun n s'=>∃i ys H',Inv (aW X scope (own++kn) fp s H) [] (c8 own kp σ) H' s'/\tn i s'.heap/\(∀b∈fp,H' b=none)/\W i n ys H') (fun n s' hI=>?_) m0 ⟨0,[],H,I1,RT,fun b qg=>(hf b qg).1,w0⟩
  obtain⟨i,ys,H3,I3,Gq,Mf,w3⟩:=hI;show wpAny _ _ ((compTurn (.ListComp elt [⟨tg,iter,ifs,0⟩] scope pos) 0 (.ref it) (.ref D) (aW X scope (own++kn) fp s H).env).onRaise (fun x=>do noteFrame x (aW X scope (own++kn) fp s H).env;theTreesLotGoes x)) _ _ s'
  refine wpAny_noted (wpAny_noRaise ?_);rw[compTurn_list];refine wpAny_bind (wpAny_standAt (wpAny_bind ?_));rcases turn i n ys H3 w3 with⟨stop,q⟩ | ⟨go,step⟩
  .refine cO (T.done (aW X scope (own++kn) fp s H) rfl rfl rfl hc i [] s' _ H3 _ I3 (fp1 Mf (fun _ _ q hq=>by cases hq)) Gq stop) fun r s4 ⟨hr,I4⟩=>?_
   subst hr;exact wpAny_pure (hR H3 s4 _ I4 q)
  .refine cO (T.item (aW X scope (own++kn) fp s H) rfl rfl rfl hc i [] s' _ H3 _ I3 (fp1 Mf (fun _ _ q hq=>by cases hq)) Gq go) fun r s4 ⟨u,hr,h4⟩=>?_
   subst hr;refine wpAny_bind (cO h4 fun _ s5 ⟨x,H5,I5,r5,y5,J7,OX⟩=>?_)
   have I5':=I5.pinned (fp1 OX (fun _ _ q hq=>by cases hq)) (T.obj _ _ J7)
   have keepIt:∀{wH:St} {H7:Hp} {s7:Shared},Inv (aW X scope (own++kn) fp s H) ([]++mT fp s5.heap) wH H7 s7->tn (i+1) s7.heap/\∀b∈fp,H7 b=none:=fun {wH H7 s7} I7=>by
    refine⟨T.keep _ _ _ J7 fun b hb o e=>(I7.pin (b,o) (List.mem_append_right _ (List.mem_append_right _ (j8 hb e)))).1,fun b hb=>?_⟩
    obtain⟨o,e,d⟩:=T.obj _ _ J7 b hb;exact(I7.pin (b,o) (List.mem_append_right _ (List.mem_append_right _ (j8 hb e)))).2.1
   have reset:∀{wH:St} {H7:Hp} {s7:Shared},Inv (aW X scope (own++kn) fp s H) ([]++mT fp s5.heap) wH H7 s7->Inv (aW X scope (own++kn) fp s H) [] (c8 own kp σ) H7 s7:=fun {wH H7 s7} I7=>by
    have I8:=I7.og;have hun:Un (pO X.stack) fp H H7 s.heap s7.heap:=I8.base;have I9:Inv X pins σ H7 s7:=qI I hf I8;refine⟨I8.ok,I8.os,I8.bare,I8.base,?_,I8.cell,I8.free,I8.freeC,I8.pin,I8.hok,I1.len⟩;obtain⟨m,hm,_⟩:=I8.loc;refine⟨m,hm,fun i x v h1 h2 h3=>?_⟩
    obtain⟨m1,Ww,Mx⟩:=I1.loc;obtain⟨u1,r1,l1⟩:=Mx i x v h1 h2 h3;have h1:(own++kn)[i]? =some x:=h1;have h2:(c8 own kp σ)[i]? =some (some v):=h2;unfold c8 at h2;by_cases hi:i < own.length
    .rw [List.getElem?_append_left (by simpa using hi),List.getElem?_replicate] at h2
     split at h2 <;> cases h2
    .rw [List.getElem?_append_right (by simpa using hi),List.length_replicate,List.getElem?_map] at h2
     rw[List.getElem?_append_right (by simpa using hi)] at h1
     cases e:kp[i - own.length]? with
     | none=>rw [e] at h2;cases h2
     | some j=>
       rw[e] at h2;have h2:(σ[j]?).getD none=some v:=Option.some.inj h2;have hj:X.N[j]? =some x:=C.at_ _ j x e h1;have Gs:σ[j]? =some (some v):=by
        cases q:σ[j]? with
        | none=>rw [q] at h2;cases h2
        | some y=>rw [q] at h2;exact congrArg some h2
       have hfree:scope.names.lookup x=some .free:=C.isfree x (List.mem_of_getElem? h1);have hkind:=C.free (x, .free) (PySem.mem_of_lookup hfree) rfl;obtain⟨m9,Wu,Uw⟩:=I9.loc;obtain⟨u,r,l⟩:=Uw j x v hj Gs (hkind.elim (fun q=>Or.inr (Or.inl q)) fun q=>Or.inr (Or.inr q))
       refine⟨u,r, .inr ?_⟩;rcases l1 with⟨k,k2⟩ | ⟨k,c,hc,hcell⟩
       .have k:(relabel scope X.env).names.lookup x=some .local:=k;rcases d7 k with z | ⟨z,_⟩
        .rw [hfree] at z;cases z
        .cases z
       .refine⟨k,c,hc,?_⟩;rcases l with⟨k',_⟩ | ⟨_,c',AN,J8⟩
        .rcases hkind with q | q
         .rw [show X.env.kindOf x=some .cell from q] at k';cases k'
         .rw [show X.env.kindOf x=some .free from q] at k';cases k'
        .have hcl:(mB X.env.cells scope.names []).lookup x=some c:=(ux _ _ _ fun z=>by have:=C.cel _ z rfl;rw [hfree] at this;cases this).symm.trans hc
         rcases jv scope.names [] hcl with q | ⟨q1,q2⟩
         .simp at q
         .rw [AN] at q2;have q2:c=c':=q2;rw[q2];exact J8
   have hmm:=hg ([]++mT fp s5.heap) s5 (c8 own kp σ) H5 x u _ I5' r5 (step x H5 y5);refine wpAny_bind (cO hmm fun _ s6 ⟨Mw,H6,I6,q6⟩=>?_)
   refine wpAny_bind (cO (hi _ s6 Mw H6 _ I6 q6) fun ok s7 ⟨H7,I7,q7⟩=>?_)
   cases ok with
   | false=>
     simp only[Bool.false_eq_true,if_false] at q7 ⊢;obtain⟨m',J3,w7⟩:=q7;obtain⟨a1,a2⟩:=keepIt I7;exact wpAny_pure ⟨rfl,m',J3,i+1,ys,H7,reset I7,a1,a2,w7⟩
   | true=>
     simp only[if_true] at q7 ⊢;refine wpAny_bind (wpAny_bind (cO (he _ s7 Mw H7 _ I7 q7) fun yv s8 ⟨y,H8,I8,r8,hD,hlt,m',J3,w8⟩=>wpAny_bind ?_))
     obtain⟨a1,a2⟩:=keepIt I8;refine cO (jX _ s8 Mw H8 (.ref D) [y] (.ref D) [yv] (fun v H9=>v= .cz/\H9=upd H8 D (.lst (ys++[y]))) I8 rfl (.cons r8 .nil) ⟨D,ys,y,rfl,rfl,hD,hlt,rfl,rfl⟩) fun _ s9 ⟨v9,H9,I9,_,_,e9⟩=>?_
     subst e9;obtain⟨b1,b2⟩:=keepIt I9;exact wpAny_pure (wpAny_pure ⟨rfl,m',J3,i+1,ys++[y],_,reset I9,b1,b2,w8⟩)
 exact codeAny_compStart_list loop (T.self _ _ _ _ _ RT loop)
theorem zk(hc:X.calm=true)(C:bG X scope own kp kn)(hi:PI X tg iter wi)(hg:∀fp s H,PG (aW X scope (own++kn) fp s H) tg g)(uL:∀fp s H,nR (aW X scope (own++kn) fp s H) ifs tc)
 (he:∀fp s H,PE (aW X scope (own++kn) fp s H) elt te) (hs:∀x,foldedSetIterable iter X.env x=pure x:=by intro _;rfl):PE X (.ListComp elt [⟨tg,iter,ifs,0⟩] scope pos) (y7 wi g tc te own kp):=by
 intro pins s σ H Q I h;rw[eval_ListComp];refine wpAny_comprehension_free (use:=none) rfl hs (kN (nh C I)) C.kind C.nd (cO (hi pins s σ H _ I h) fun v s1 h1=>cO h1 fun MY s2 h2=>?_)
 obtain⟨it,fp,tn,J,H2,e,I2,T,J6,f2,q⟩:=h2;subst e;refine wpAny_newObj_type ?_;have I3:Inv X pins σ (upd H2 s2.heap.objs.size (.lst [])) {s2 with heap:=s2.heap.push {cls:= .type "list",dict:=none,data:= .seq ([]:List Value).toArray}}:=I2.JW (its:=[]) (t':=s2.toks) .nil (Nat.zero_le _)
 obtain⟨W,w0,turn⟩:=q s2.heap.objs.size I2.fresh;have fne:∀b∈fp,b < s2.heap.objs.size:=fun b hb=>let⟨o,e,_⟩:=T.obj _ _ J6 b hb;Heap.lt_size e
 have f3:∀b∈fp,pK X pins (upd H2 s2.heap.objs.size (.lst [])) b:=fun b hb=>⟨by rw[bb (Nat.ne_of_lt (fne b hb))];exact(f2 b hb).1,(f2 b hb).2⟩
 generalize hs3:({s2 with heap:=s2.heap.push {cls:= .type "list",dict:=none,data:= .seq ([]:List Value).toArray}}:Shared)=s3 at I3 ⊢
 have Gq:tn 0 s3.heap:=by rw[<-hs3];exact T.keep _ _ _ J6 fun b _ o e=>Heap.get?_push_of_some _ e
 have fne3:∀b∈fp,b < s3.heap.objs.size:=fun b hb=>by rw[<-hs3];exact Nat.lt_of_lt_of_le (fne b hb) (by rw[Heap.size_push];exact Nat.le_succ _)
 refine sQ fun kT yl hk hC=>?_
 refine vB (D:=s2.heap.objs.size) hc C I3 f3 fne3 T (hg fp s3 _) (uL fp s3 _) (he fp s3 _) yl hk hC Gq W w0 turn fun H' s' cG J' hq=>?_
 have B:=qI I3 f3 J';obtain⟨m',J3,_⟩:=J'.loc;refine⟨m',J3,fun h' sb=>⟨.ref s2.heap.objs.size,H',?_,rfl,hq⟩⟩
 have fC:=I3.vJ (H':=H') (b:=s3.heap.objs.size) (Nat.le_refl _) J'.free;exact B.turned (it:=s3.heap.objs.size) (t':=s'.toks) (fun b o hb e=>(sb.2 b hb).trans e) fC.1 fC.2.1 fC.2.2.2.1 fC.2.2.2.2.1 fC.2.2.2.2.2
theorem nc{i:Nat}{x:Str}{pos' lZ:Pos}(hc:X.calm=true)(hN:X.N.Nodup)(hx:X.N[i]? =some x)(uM:X.env.scope.names.lookup x=some .local)(C:bG X scope own kp kn)(hi:PI X tg iter wi)
 (hg:∀fp s H,PG (aW X scope (own++kn) fp s H) tg g) (uL:∀fp s H,nR (aW X scope (own++kn) fp s H) ifs tc)
 (he:∀fp s H,PE (aW X scope (own++kn) fp s H) elt te)
 (rH:swapsWith (.ListComp elt [⟨tg,iter,ifs,0⟩] scope pos) (some (.Name x pos')) lZ.line X.env=pure true:=by rfl)
 (hs:∀x,foldedSetIterable iter X.env x=pure x:=by intro _;rfl) :
 PS X (.Assign [.Name x pos'] (.ListComp elt [⟨tg,iter,ifs,0⟩] scope pos) lZ) (Ak (y7 wi g tc te own kp) (qB i)):=by
 intro pins s σ H D I h;rw[exec_Assign_Name_used _ _ _ _ rH];refine wpAny_bind (wpAny_standAt (wpAny_bind ?_));show wpAny _ X.A (do let _ <-comprehension (.ListComp elt [⟨tg,iter,ifs,0⟩] scope pos) scope X.env _ (newList []) false (eval iter X.env) (some (assign (.Name x pos') X.env))) _ _ s
 refine wpAny_bind (wpAny_mono (wpAny_comprehension_free (use:=some (assign (.Name x pos') X.env)) (Q:=fun _ s'=>SP X pins D .next s') rfl hs (kN (nh C I)) C.kind C.nd
  (cO (hi pins s σ H _ I h) fun v s1 h1=>cO h1 fun MY s2 h2=>?_)) (fun _ s' hq=>wpAny_pure (wpAny_pure hq)) fun _ _ e=>e)
 obtain⟨it,fp,tn,J,H2,e,I2,T,J6,f2,q⟩:=h2;subst e;refine wpAny_newObj_type ?_;have I3:Inv X pins σ (upd H2 s2.heap.objs.size (.lst [])) {s2 with heap:=s2.heap.push {cls:= .type "list",dict:=none,data:= .seq ([]:List Value).toArray}}:=I2.JW (its:=[]) (t':=s2.toks) .nil (Nat.zero_le _)
 obtain⟨W,w0,turn⟩:=q s2.heap.objs.size I2.fresh;have fne:∀b∈fp,b < s2.heap.objs.size:=fun b hb=>let⟨o,e,_⟩:=T.obj _ _ J6 b hb;Heap.lt_size e
 have f3:∀b∈fp,pK X pins (upd H2 s2.heap.objs.size (.lst [])) b:=fun b hb=>⟨by rw[bb (Nat.ne_of_lt (fne b hb))];exact(f2 b hb).1,(f2 b hb).2⟩
 generalize hs3:({s2 with heap:=s2.heap.push {cls:= .type "list",dict:=none,data:= .seq ([]:List Value).toArray}}:Shared)=s3 at I3 ⊢
 have Gq:tn 0 s3.heap:=by rw[<-hs3];exact T.keep _ _ _ J6 fun b _ o e=>Heap.get?_push_of_some _ e
 have fne3:∀b∈fp,b < s3.heap.objs.size:=fun b hb=>by rw[<-hs3];exact Nat.lt_of_lt_of_le (fne b hb) (by rw[Heap.size_push];exact Nat.le_succ _)
 refine sQ fun kT yl hk hC=>?_
 refine vB (Q:=fun x H1=>qB i x σ H1 D.nx) (D:=s2.heap.objs.size) hc C I3 f3 fne3 T (hg fp s3 _) (uL fp s3 _) (he fp s3 _) yl hk hC Gq W w0 turn fun H' s' cG J' hq=>?_
 have B:=qI I3 f3 J';obtain⟨m',J3,_⟩:=J'.loc;have fC:=I3.vJ (H':=H') (b:=s3.heap.objs.size) (Nat.le_refl _) J'.free;show wpAny _ X.A (assign (.Name x pos') X.env (.ref s2.heap.objs.size)) _ _ s';refine wpAny_assign_Name (sC B hN hx (.inl uM) (v:= .ref s2.heap.objs.size) rfl (fun s4 I4 ⟨a,sb,ha⟩=>?_) (.inr uM))
 have ha':s3.heap.objs.size≠a:=by
  rcases ha with rfl | z
  .exact fC.2.1
  .exact fun e=>fC.2.2.2.2.1 x a z e.symm
 refine⟨m',J3.sameBut sb ha',fun h' Uy=>⟨_,H',?_,hq⟩⟩
 exact I4.turned (it:=s3.heap.objs.size) (t':=s4.toks) (fun b o hb e=>(Uy.2 b hb).trans e) fC.1 fC.2.1 fC.2.2.2.1 fC.2.2.2.2.1 fC.2.2.2.2.2
end
end L2
end
section
namespace L2
open PySem PySem.Spec PyProof.Rows
inductive D where
 | cz | bl (b:Bool) | int (i:Int) | str (x:Str) | lst (ds:List D) | tup (ds:List D) | dct (ks:List Key) (ds:List D)
inductive R (α:Type) where
 | ok (a:α) | ex (c:Nat) | no
def R.bind{α β:Type}:R α->(α->R β)->R β
 | .ok a,f=>f a
 | .ex c,_=> .ex c
 | .no,_=> .no
theorem R.ag{α β:Type}{r:R α}{f:α->R β}{b:β}(h:r.bind f= .ok b):∃a,r= .ok a/\f a= .ok b:=by
 cases r with
 | ok a=>exact⟨a,rfl,h⟩
 | ex c=>cases h
 | no=>cases h
@[simp] theorem R.aH{α β:Type}(a:α)(f:α->R β):(R.ok a).bind f=f a:=rfl
def R.aS{α:Type}(c:Bool)(r:R α):R α:=if c then r else .no
theorem R.aO{α:Type}{c:Bool}{r:R α}{a:α}(h:R.aS c r= .ok a):c=true/\r= .ok a:=by
 cases c with
 | true=>exact⟨rfl,h⟩
 | false=>cases h
@[simp] theorem R.Kh{α:Type}(r:R α):R.aS true r=r:=rfl
def uR(K:W.Frag)(B:List Addr)(H:Hp)(a:Addr)(xs:List V):Prop:=
 (a ∉ B/\Rd H a (.lst xs))\/∃(its:List Value) (n:Nat),K.lookup a=some {cls:= .type "list",data:= .seq its.toArray n}/\xs.length<=sizeLine/\Vals xs its
def vT(K:W.Frag)(B:List Addr)(H:Hp)(a:Addr)(xs:List V):Prop:=
 (a ∉ B/\Rd H a (.tup xs))\/∃(o:Obj) (its:Array Value) (n:Nat),K.lookup a=some o/\o.cls= .type "tuple"/\o.data= .seq its n/\its.size<=sizeLine/\Vals xs its.toList
theorem uR.sq{K:W.Frag}{B:List Addr}{a:Addr}{xs:List V}(h:uR K B H a xs):lr K H a xs:=by
 rcases h with z | ⟨its,n,hk,hz,r⟩
 .exact .inl z.2
 .exact .inr ⟨_,its.toArray,n,hk,rfl,rfl,rfl,by rw[List.size_toArray,<-r.length];exact hz,by simpa using r⟩
theorem vT.sq{K:W.Frag}{B:List Addr}{a:Addr}{xs:List V}(h:vT K B H a xs):oU K H a xs:=h.elim (fun z=> .inl z.2) .inr
mutual
def Rep(K:W.Frag)(B:List Addr)(H:Hp):D->V->Prop
 | .cz,v=>v= .cz
 | .bl b,v=>v= .bl b
 | .int i,v=>v= .int i
 | .str x,v=>v= .str x
 | .lst ds,v=>∃a xs,v= .ref a/\uR K B H a xs/\aD K B H ds xs
 | .tup ds,v=>∃a xs,v= .ref a/\vT K B H a xs/\aD K B H ds xs
 | .dct ks ds,v=>∃(a:Addr) (ay:List (Key × V)),v= .ref a/\(a ∉ B/\H a=some (.dK ay))/\ay.map (·.1)=ks/\aD K B H ds (ay.map (·.2))
def aD(K:W.Frag)(B:List Addr)(H:Hp):List D->List V->Prop
 | [],xs=>xs=[]
 | d ::ds,xs=>∃x r,xs=x ::r/\Rep K B H d x/\aD K B H ds r
end
def dw(B:List Addr)(H:Hp)(B':List Addr)(H':Hp):Prop:=∀b o,H b=some o->b ∉ B->H' b=some o/\b ∉ B'
theorem dw.rd{B B':List Addr}(p:dw B H B' H'){a:Addr}{u:HO}(h:Rd H a u)(n:a ∉ B):Rd H' a u/\a ∉ B':=by
 rcases h with e | ⟨o,e⟩
 .exact⟨.inl (p a _ e n).1,(p a _ e n).2⟩
 .exact⟨.inr ⟨o,(p a _ e n).1⟩,(p a _ e n).2⟩
theorem dw.trans{B B' Mi:List Addr}(p:dw B H B' H')(q:dw B' H' Mi mD):dw B H Mi mD:=fun b o e n=>
 let⟨e1,n1⟩:=p b o e n;q b o e1 n1
theorem dw.same{B:List Addr}(s:aN H H'):dw B H B H':=fun b o e n=>⟨s b o e,n⟩
theorem dw.refl(B:List Addr)(H:Hp):dw B H B H:=dw.same (aN.refl H)
theorem uR.ba{K:W.Frag}{B B':List Addr}(p:dw B H B' H'){a:Addr}{xs:List V}(l:uR K B H a xs):uR K B' H' a xs:=
 l.elim (fun z=> .inl ⟨(p.rd z.2 z.1).2,(p.rd z.2 z.1).1⟩) .inr
mutual
theorem Rep.ba{K:W.Frag}{B B':List Addr}(p:dw B H B' H'):∀{d:D} {v:V},Rep K B H d v->Rep K B' H' d v
 | .cz,_,h=>h
 | .bl _,_,h=>h
 | .int _,_,h=>h
 | .str _,_,h=>h
 | .lst ds,v,h=>by
   unfold Rep at h ⊢;obtain⟨a,xs,e,l,r⟩:=h;exact⟨a,xs,e,l.ba p,aD.ba p r⟩
 | .tup ds,v,h=>by
   unfold Rep at h ⊢;obtain⟨a,xs,e,l,r⟩:=h;exact⟨a,xs,e,l.elim (fun z=> .inl ⟨(p.rd z.2 z.1).2,(p.rd z.2 z.1).1⟩) .inr,aD.ba p r⟩
 | .dct ks ds,v,h=>by
   unfold Rep at h ⊢;obtain⟨a,ay,e,⟨n,l⟩,k,r⟩:=h;exact⟨a,ay,e,⟨(p a _ l n).2,(p a _ l n).1⟩,k,aD.ba p r⟩
theorem aD.ba{K:W.Frag}{B B':List Addr}(p:dw B H B' H'):∀{ds:List D} {xs:List V},aD K B H ds xs->aD K B' H' ds xs
 | [],_,h=>h
 | d ::ds,xs,h=>by
   unfold aD at h ⊢;obtain⟨x,r,e,h1,h2⟩:=h;exact⟨x,r,e,Rep.ba p h1,aD.ba p h2⟩
end
theorem Rep.same{K:W.Frag}{B:List Addr}{d:D}{v:V}(h:Rep K B H d v)(s:aN H H'):Rep K B H' d v:=h.ba (dw.same s)
theorem aD.same{K:W.Frag}{B:List Addr}{d:List D}{v:List V}(h:aD K B H d v)(s:aN H H'):aD K B H' d v:=h.ba (dw.same s)
theorem aD.nil{K:W.Frag}{B:List Addr}:aD K B H [] []:=by unfold aD;rfl
theorem aD.cons{K:W.Frag}{B:List Addr}{d:D}{ds:List D}{x:V}{xs:List V}(h:Rep K B H d x)(t:aD K B H ds xs):aD K B H (d ::ds) (x ::xs):=by
 unfold aD;exact⟨x,xs,rfl,h,t⟩
theorem aD.b6{K:W.Frag}{B:List Addr}{d:D}{ds:List D}{xs:List V}(h:aD K B H (d ::ds) xs):∃x r,xs=x ::r/\Rep K B H d x/\aD K B H ds r:=by
 unfold aD at h;exact h
theorem aD.length{K:W.Frag}{B:List Addr}:∀{ds:List D} {xs:List V},aD K B H ds xs->ds.length=xs.length
 | [],_,h=>by unfold aD at h;rw [h];rfl
 | d ::ds,xs,h=>by
   obtain⟨x,r,rfl,_,h2⟩:=h.b6;simp [h2.length]
theorem aD.get{K:W.Frag}{B:List Addr}:∀{ds:List D} {xs:List V} {i:Nat} {d:D},aD K B H ds xs->ds[i]? =some d->∃x,xs[i]? =some x/\Rep K B H d x
 | [],_,_,_,_,e=>by simp at e
 | d ::ds,xs,0,d',h,e=>by
   obtain⟨x,r,rfl,h1,h2⟩:=h.b6;simp at e;subst e;exact⟨x,rfl,h1⟩
 | d ::ds,xs,i+1,d',h,e=>by
   obtain⟨x,r,rfl,h1,h2⟩:=h.b6;obtain⟨y,e1,e2⟩:=aD.get (i:=i) h2 (by simpa using e)
   exact⟨y,by simpa using e1,e2⟩
theorem aD.append{K:W.Frag}{B:List Addr}:∀{ds es:List D} {xs ys:List V},aD K B H ds xs->aD K B H es ys->aD K B H (ds++es) (xs++ys)
 | [],_,_,_,h,t=>by unfold aD at h;subst h;exact t
 | d ::ds,es,xs,ys,h,t=>by
   obtain⟨x,r,rfl,h1,h2⟩:=h.b6;exact aD.cons h1 (aD.append h2 t)
theorem aD.drop{K:W.Frag}{B:List Addr}:∀{ds:List D} {xs:List V} (n:Nat),aD K B H ds xs->aD K B H (ds.drop n) (xs.drop n)
 | _,_,0,h=>h
 | [],_,n+1,h=>by unfold aD at h;subst h;exact aD.nil
 | d ::ds,xs,n+1,h=>by
   obtain⟨x,r,rfl,h1,h2⟩:=h.b6;exact aD.drop n h2
theorem aD.take{K:W.Frag}{B:List Addr}:∀{ds:List D} {xs:List V} (n:Nat),aD K B H ds xs->aD K B H (ds.take n) (xs.take n)
 | _,_,0,h=>aD.nil
 | [],_,n+1,h=>by unfold aD at h;subst h;exact aD.nil
 | d ::ds,xs,n+1,h=>by
   obtain⟨x,r,rfl,h1,h2⟩:=h.b6;exact aD.cons h1 (aD.take n h2)
def D.atom:D->Bool
 | .cz=>true | .bl _=>true | .int _=>true | .str _=>true | _=>false
theorem Rep.atom{K:W.Frag}{B B':List Addr}{d:D}{v:V}(a:d.atom=true)(h:Rep K B H d v):Rep K B' H' d v:=by
 cases d <;> first | exact h | cases a
inductive Sl where
 | un | val (d:D) | bld (ds:List D)
abbrev ak:=List Sl
structure dq (K:W.Frag) (Z B:List Addr) (H:Hp) (σ:St) (δ:ak):Prop where
 len:δ.length=σ.length
 bs:∀a∈B,∃o,H a=some o
 zb:∀a∈Z,a∈B
 val:∀(i:Nat) (d:D),δ[i]? =some (.val d)->∃v,σ[i]? =some (some v)/\Rep K B H d v
 bld:∀(i:Nat) (ds:List D),δ[i]? =some (.bld ds)->∃a xs,σ[i]? =some (some (.ref a))/\a∈B/\a ∉ Z/\H a=some (.lst xs)/\aD K B H ds xs
 dis:∀(i j:Nat) (a:Addr) (ds es:List D),δ[i]? =some (.bld ds)->δ[j]? =some (.bld es)->σ[i]? =some (some (.ref a))->σ[j]? =some (some (.ref a))->i=j
theorem dq.same{K:W.Frag}{Z B:List Addr}{δ:ak}(E:dq K Z B H σ δ)(s:aN H H'):dq K Z B H' σ δ where
 len:=E.len
 bs:=fun a ha=>let⟨o,e⟩:=E.bs a ha;⟨o,s a o e⟩
 zb:=E.zb
 val:=fun i d e=>let⟨v,h1,h2⟩:=E.val i d e;⟨v,h1,h2.same s⟩
 bld:=fun i ds e=>let⟨a,xs,h1,h2,h3,h4,h5⟩:=E.bld i ds e;⟨a,xs,h1,h2,h3,s a _ h4,h5.same s⟩
 dis:=E.dis
def my(δ:ak):ak:=δ.map fun x=>match x with | .bld ds=> .val (.lst ds) | y=>y
theorem dq.my{K:W.Frag}{Z B:List Addr}{δ:ak}(E:dq K Z B H σ δ):dq K [] [] H σ (my δ) where
 len:=by unfold L2.my;rw [List.length_map];exact E.len
 bs:=fun a ha=>by cases ha
 zb:=fun a ha=>by cases ha
 val:=fun i d e=>by
  unfold L2.my at e;rw[List.getElem?_map] at e;have p:dw B H [] H:=fun b o e _=>⟨e,by simp⟩
  cases q:δ[i]? with
  | none=>rw [q] at e;cases e
  | some x=>
    rw[q] at e;cases x with
    | un=>cases e
    | val d'=>cases e;obtain⟨v,h1,h2⟩:=E.val i d q;exact⟨v,h1,h2.ba p⟩
    | bld ds=>
      cases e;obtain⟨a,xs,h1,_,_,h4,h5⟩:=E.bld i ds q;refine⟨.ref a,h1,?_⟩;unfold Rep;exact⟨a,xs,rfl, .inl ⟨by simp, .inl h4⟩,h5.ba p⟩
 bld:=fun i ds e=>by
  unfold L2.my at e;rw[List.getElem?_map] at e;cases q:δ[i]? with
  | none=>rw [q] at e;cases e
  | some x=>rw [q] at e;cases x <;> cases e
 dis:=fun i j a ds es e=>by
  unfold L2.my at e;rw[List.getElem?_map] at e;cases q:δ[i]? with
  | none=>rw [q] at e;cases e
  | some x=>rw [q] at e;cases x <;> cases e
theorem PE.imp{X:Cx}{t t':TE}(h:PE X e t)(w:∀σ H Q,t' σ H Q->t σ H Q):PE X e t':=fun pins s σ H Q I hq=>h pins s σ H Q I (w σ H Q hq)
theorem PT.imp{X:Cx}{t t':TT}(h:PT X e t)(w:∀σ H Q,t' σ H Q->t σ H Q):PT X e t':=fun pins s σ H Q I hq=>h pins s σ H Q I (w σ H Q hq)
theorem PA.imp{X:Cx}{t t':TA}(h:PA X e t)(w:∀σ H Q,t' σ H Q->t σ H Q):PA X e t':=fun pos pins s σ H Q I hq=>h pos pins s σ H Q I (w σ H Q hq)
theorem PS.imp{X:Cx}{t t':TS}(h:PS X e t)(w:∀D σ H,t' D σ H->t D σ H):PS X e t':=fun pins s σ H D I hq=>h pins s σ H D I (w D σ H hq)
theorem uo.imp{X:Cx}{t t':TS}(h:uo X e t)(w:∀D σ H,t' D σ H->t D σ H):uo X e t':=fun pins s σ H D I hq=>h pins s σ H D I (w D σ H hq)
theorem PG.imp{X:Cx}{t t':TG}(h:PG X e t)(w:∀v σ H Q,t' v σ H Q->t v σ H Q):PG X e t':=fun pins s σ H v u Q I r hq=>h pins s σ H v u Q I r (w v σ H Q hq)
theorem PI.imp{X:Cx}{t t':TI}(h:PI X tg e t)(w:∀σ H Q,t' σ H Q->t σ H Q):PI X tg e t':=fun pins s σ H Q I hq=>h pins s σ H Q I (w σ H Q hq)
abbrev FD:=ak->R D
def tD(K:W.Frag)(f:FD):TE:=fun σ H Q=>∃Z B δ d,dq K Z B H σ δ/\f δ= .ok d/\∀v H',aN H H'->Rep K B H' d v->Q v H'
def tN(K:W.Frag)(f:ak->R (List D)):TE:=fun σ H Q=>∃Z B δ ds,dq K Z B H σ δ/\f δ= .ok ds/\∀a xs H',aN H H'->H a=none->H' a=some (.lst xs)->aD K (a ::B) H' ds xs->Q (.ref a) H'
def Es(K:W.Frag)(f:ak->R Bool):TT:=fun σ H Q=>∃Z B δ b,dq K Z B H σ δ/\f δ= .ok b/\∀H',aN H H'->Q b H'
def QE(K:W.Frag)(f:ak->R (List D)):TA:=fun σ H Q=>∃Z B δ ds,dq K Z B H σ δ/\f δ= .ok ds/\∀vs H',aN H H'->aD K B H' ds vs->Q vs H'
abbrev PD(X:Cx)(e:Expr)(f:FD):Prop:=PE X e (tD X.K f)
abbrev PN(X:Cx)(e:Expr)(f:ak->R (List D)):Prop:=PE X e (tN X.K f)
abbrev PB(X:Cx)(e:Expr)(f:ak->R Bool):Prop:=PT X e (Es X.K f)
abbrev AJ(X:Cx)(es:List Expr)(f:ak->R (List D)):Prop:=PA X es (QE X.K f)
section
variable {X:Cx}
def eNew(f:ak->R (List D)):FD:=fun δ=>(f δ).bind fun ds=> .ok (.lst ds)
theorem II{f:ak->R (List D)}(h:PN X e f):PD X e (eNew f):=h.imp fun σ H Q ⟨Z,B,δ,d,E,hf,q⟩=>by
 obtain⟨ds,h1,h2⟩:=R.ag hf;cases h2;refine⟨Z,B,δ,ds,E,h1,fun a xs H' s n e r=>q _ H' s ?_⟩
 unfold Rep;refine⟨a,xs,rfl, .inl ⟨fun ha=>?_, .inl e⟩,r.ba fun b o e nb=>⟨e,fun hb=>nb (List.mem_cons_of_mem _ hb)⟩⟩
 obtain⟨o,ho⟩:=E.bs a ha;rw[n] at ho;cases ho
theorem vR{B:List Addr}{H:Hp}{p:Addr}{o:HO}(h:H p=none):dw B H (p ::B) (upd H p o):=fun b u e nb=>
 ⟨by rw[bb (b8 e h)];exact e,fun hb=>by
   rcases List.mem_cons.mp hb with z | z
   .exact b8 e h z
   .exact nb z⟩
def lB(f:FD):FD:=fun δ=>(f (my δ)).bind fun d=>R.aS d.atom (.ok d)
theorem Ep(h:PD X e f):PD X e (lB f):=h.imp fun σ H Q ⟨Z,B,δ,d,E,hf,q⟩=>by
 obtain⟨d',h1,h2⟩:=R.ag hf;obtain⟨ha,h3⟩:=R.aO h2;cases h3;exact⟨[],[],L2.my δ,d,E.my,h1,fun v H' s r=>q v H' s (r.atom ha)⟩
def mH(f:ak->R Bool):ak->R Bool:=fun δ=>f (my δ)
theorem FK{f:ak->R Bool}(h:PB X e f):PB X e (mH f):=h.imp fun σ H Q ⟨Z,B,δ,d,E,hf,q⟩=>⟨[],[],L2.my δ,d,E.my,hf,q⟩
def af(i:Nat):FD:=fun δ=>match δ[i]? with | some (.val d)=> .ok d | _=> .no
def eC(d:D):FD:=fun _=> .ok d
theorem Hj(i:Nat){x:Str}{pos:Pos}(hN:X.N[i]? =some x:=by rfl)(hv:G7 X.env.scope x:=by first | exact Or.inl rfl | exact Or.inr (Or.inl rfl) | exact Or.inr (Or.inr rfl))(hd:(x==("__debug__":Str))=false:=by decide)
 (rK:(x==("__classdict__":Str))=false:=by decide):PD X (.Name x pos) (af i):=(t8 hN hv hd rK).imp fun σ H Q ⟨Z,B,δ,d,E,hf,q⟩=>by
 unfold af at hf;split at hf
 .rename_i d' e;cases hf;obtain⟨v,h1,h2⟩:=E.val i d e;exact⟨v,h1,q v H (aN.refl H) h2⟩
 .cases hf
theorem nQ{v:V}{d:D}(h:PE X e (tC v))(r:∀B H,Rep X.K B H d v):PD X e (eC d):=h.imp fun σ H Q ⟨Z,B,δ,d',E,hf,q⟩=>by
 cases hf;exact q v H (aN.refl H) (r B H)
theorem HJ{i j pos}:PD X (.Constant (.int i) j pos) (eC (.int i)):=nQ qV fun _ _=>by unfold Rep;rfl
theorem Ks{b j pos}:PD X (.Constant (.bool b) j pos) (eC (.bl b)):=nQ Lo fun _ _=>by unfold Rep;rfl
theorem Ik{x j pos}:PD X (.Constant (.str x) j pos) (eC (.str x)):=nQ qA fun _ _=>by unfold Rep;rfl
def Glob(K:W.Frag)(mg:WK)(x:Str)(d:D):Prop:=∃(u:Value) (v:V),mg x=some u/\RelV v u/\∀B H,Rep K B H d v
theorem Fq{d:D}{pos:Pos}(g:Glob X.K X.mg x d)(hg:Gl X x)(hd:(x==("__debug__":Str))=false:=by decide):PD X (.Name x pos) (eC d):=by
 obtain⟨u,v,hm,r,h⟩:=g;exact nQ (yq hg hm r hd) h
def aL:ak->R (List D):=fun _=> .ok []
def aj(f:FD)(g:ak->R (List D)):ak->R (List D):=fun δ=>(f δ).bind fun d=>(g δ).bind fun ds=> .ok (d ::ds)
theorem Fv:AJ X [] aL:=fZ.imp fun σ H Q ⟨Z,B,δ,d,E,hf,q⟩=>by
 cases hf;exact q [] H (aN.refl H) aD.nil
theorem Ds{g:ak->R (List D)}(h:PD X e f)(t:AJ X es g)(hs:starEach (e ::es) X.env=(false,eval e X.env) ::starEach es X.env:=by rfl):AJ X (e ::es) (aj f g):=
 (de h t hs).imp fun σ H Q ⟨Z,B,δ,d,E,hf,q⟩=>by
   obtain⟨d1,h1,h2⟩:=R.ag hf;obtain⟨ds,h3,h4⟩:=R.ag h2;cases h4;exact⟨Z,B,δ,d1,E,h1,fun v H1 s1 r1=>⟨Z,B,δ,ds,E.same s1,h3,fun vs H2 s2 r2=>q _ H2 (s1.trans s2) (aD.cons (r1.same s2) r2)⟩⟩
def n_(g:ak->R (List D)):FD:=fun δ=>(g δ).bind fun ds=>R.aS (decide (ds.length<=sizeLine)) (.ok (.tup ds))
def eG(g:ak->R (List D)):ak->R (List D):=fun δ=>(g δ).bind fun ds=>R.aS (decide (ds.length<=sizeLine)) (.ok ds)
theorem br{H:Hp}{p:Addr}{o:HO}(h:H p=none):aN H (upd H p o):=fun b u e=>by rw[bb (b8 e h)];exact e
theorem HW{g:ak->R (List D)}{x1 pos}(h:AJ X es g):PD X (.Tuple es x1 pos) (n_ g):=(uA h).imp fun σ H Q ⟨Z,B,δ,d,E,hf,q⟩=>by
 obtain⟨ds,h1,h2⟩:=R.ag hf;obtain⟨hl,h3⟩:=R.aO h2;cases h3;refine⟨Z,B,δ,ds,E,h1,fun vs H1 s1 r1=>⟨by rw[<-r1.length];exact of_decide_eq_true hl,fun p hp=>q _ _ (s1.trans (br hp)) ?_⟩⟩
 unfold Rep;refine⟨p,vs,rfl, .inl ⟨fun ha=>?_, .inl aX⟩,r1.same (br hp)⟩
 obtain⟨o,ho⟩:=(E.same s1).bs p ha;rw[hp] at ho;cases ho
theorem HU{g:ak->R (List D)}{pos}(h:AJ X es g):PN X (.List es pos) (eG g):=(Ht h).imp fun σ H Q ⟨Z,B,δ,d,E,hf,q⟩=>by
 obtain⟨ds,h1,h2⟩:=R.ag hf;obtain⟨hl,h3⟩:=R.aO h2;cases h3;exact⟨Z,B,δ,_,E,h1,fun vs H1 s1 r1=>⟨by rw[<-r1.length];exact of_decide_eq_true hl,fun p hp=>q p vs _ (s1.trans (br hp)) (s1.free hp) aX (r1.ba (vR hp))⟩⟩
def ml(X:Cx)(f:Value->Value->Sem Value)(g:D->D->R D):Prop:=
 ∀(pins:WD) (s:Shared) (σ:St) (H:Hp) (B:List Addr) (da db d:D) (x y:V) (v u:Value),Inv X pins σ H s->(∀a∈B,∃o,H a=some o)->RelV x v->RelV y u->Rep X.K B H da x->Rep X.K B H db y->g da db= .ok d->
  wpAny (model X.prog X.w) X.A (f v u) (EP X pins σ fun z H'=>aN H H'/\Rep X.K B H' d z) X.xe s
def e2(g:D->D->R D)(fa fb:FD):FD:=fun δ=>(fa δ).bind fun a=>(fb δ).bind fun b=>g a b
theorem ml.r{f:Value->Value->Sem Value}{g:D->D->R D}(h:ml X f g):mz X f (fun x y H Q=>∃B da db d,(∀a∈B,∃o,H a=some o)/\Rep X.K B H da x/\Rep X.K B H db y/\g da db= .ok d/\∀z H',aN H H'->Rep X.K B H' d z->Q z H'):=by
 intro pins s σ H x y v u Q I rx ry ⟨B,da,db,d,hb,ha,qg,hg,q⟩;exact cO (h pins s σ H B da db d x y v u I hb rx ry ha qg hg) fun z s' ⟨zv,H',I',r',s1,r1⟩=>⟨zv,H',I',r',q zv H' s1 r1⟩
theorem Hl{K:W.Frag}{g:D->D->R D}{Q:VK}(h:tD K (e2 g fa fb) σ H Q) :
 Kc (fun x y H Q=>∃B da db d,(∀a∈B,∃o,H a=some o)/\Rep K B H da x/\Rep K B H db y/\g da db= .ok d/\∀z H',aN H H'->Rep K B H' d z->Q z H') (tD K fa) (tD K fb) σ H Q:=by
 obtain⟨Z,B,δ,d,E,hf,q⟩:=h;obtain⟨d1,h1,h2⟩:=R.ag hf;obtain⟨d2,h3,h4⟩:=R.ag h2;exact⟨Z,B,δ,d1,E,h1,fun v1 H1 s1 r1=>⟨Z,B,δ,d2,E.same s1,h3,fun v2 H2 s2 r2=>⟨B,d1,d2,d,(E.same (s1.trans s2)).bs,r1.same s2,r2,h4,fun z H' s3 r3=>q z H' (s1.trans (s2.trans s3)) r3⟩⟩⟩
theorem LN{op:Operator}{g:D->D->R D}(ho:ml X (binaryOp op) g)(ha:PD X a fa)(hb:PD X b fb):PD X (.BinOp a op b pos) (e2 g fa fb):=
 (L0 ho.r ha hb).imp fun σ H Q h=>Hl h
theorem Ih{op:CmpOp}{g:D->D->R D}(ho:ml X (compareOp op) g)(ha:PD X a fa)(hb:PD X b fb)(hm:behindInMarks op b=false):PD X (.Compare a [op] [b] pos) (e2 g fa fb):=
 (y9 ho.r ha hb hm).imp fun σ H Q h=>Hl h
def b2(g:D->D->R D)(fa fb:FD):ak->R Bool:=fun δ=>(e2 g fa fb δ).bind fun d=>match d with | .bl b=> .ok b | _=> .no
theorem Ij{op:CmpOp}{g:D->D->R D}(ho:ml X (compareOp op) g)(ha:PD X a fa)(hb:PD X b fb)(hm:behindInMarks op b=false):PB X (.Compare a [op] [b] pos) (b2 g fa fb):=
 (yS ho.r ha hb hm).imp fun σ H Q ⟨Z,B,δ,b,E,hf,q⟩=>by
   obtain⟨d,h1,h2⟩:=R.ag hf;cases d with
   | bl k=>
     cases h2;exact Hl (g:=g) (Q:=fun x H'=>∃k,x= .bl k/\Q k H') ⟨Z,B,δ, .bl b,E,h1,fun v H' s r=>⟨b,by unfold Rep at r;exact r,q H' s⟩⟩
   | _=>cases h2
def N7(g g':D->D->R D)(fa fb fc:FD):FD:=fun δ=>(fa δ).bind fun a=>(fb δ).bind fun b=>(g a b).bind fun r=>match r with
 | .bl true=>(fc δ).bind fun c=>g' b c
 | .bl false=> .ok (.bl false)
 | _=> .no
def HF:D->R Bool
 | .cz=> .ok false
 | .bl b=> .ok b
 | .int i=> .ok (i !=0)
 | .str x=>R.aS (decide (x.length<=sizeLine)) (.ok ((x.length:Int) !=0))
 | .lst ds=> .ok (!ds.isEmpty)
 | .tup ds=> .ok (!ds.isEmpty)
 | .dct _ _=> .no
def nE(f:FD):ak->R Bool:=fun δ=>(f δ).bind HF
theorem aD.isEmpty{K:W.Frag}{B:List Addr}{ds:List D}{xs:List V}(h:aD K B H ds xs):ds.isEmpty=xs.isEmpty:=by
 have:=h.length;cases ds <;> cases xs <;> simp_all
theorem Iz{K:W.Frag}{B:List Addr}{d:D}{v:V}{b:Bool}(r:Rep K B H d v)(h:HF d= .ok b):Hv K v H b:=by
 cases d with
 | cz=>unfold Rep at r;subst r;cases h;exact rfl
 | bl k=>unfold Rep at r;subst r;cases h;exact rfl
 | int i=>unfold Rep at r;subst r;cases h;exact rfl
 | str x=>unfold Rep at r;subst r;obtain⟨h1,h2⟩:=R.aO h;cases h2;exact⟨of_decide_eq_true h1,rfl⟩
 | lst ds=>unfold Rep at r;obtain⟨a,xs,rfl,l,r⟩:=r;cases h;exact .inl ⟨xs,l.sq,by rw[r.isEmpty]⟩
 | tup ds=>unfold Rep at r;obtain⟨a,xs,rfl,l,r⟩:=r;cases h;exact .inr (.inl ⟨xs,l.sq,by rw[r.isEmpty]⟩)
 | dct _ _=>cases h
theorem Js{a:Expr}(ha:PD X a f)(he:∀whole,isTrue a X.env whole=(do let v <-whole;standAt a.pos;holding [v] (truthy v)):=by intro _;rfl):PB X a (nE f):=
 (vp ha he).imp fun σ H Q ⟨Z,B,δ,b,E,hf,q⟩=>by
   obtain⟨d,h1,h2⟩:=R.ag hf;exact⟨Z,B,δ,d,E,h1,fun v H' s r=>⟨b,Iz r h2,q H' s⟩⟩
def rR(f g:ak->R Bool):ak->R Bool:=fun δ=>(f δ).bind fun b=>if b then g δ else .ok false
def ya(f g:ak->R Bool):ak->R Bool:=fun δ=>(f δ).bind fun b=>if b then .ok true else g δ
def rW(f:ak->R Bool):ak->R Bool:=fun δ=>(f δ).bind fun b=> .ok (!b)
def DQ(X:Cx)(e:Expr)(f:ak->R Bool):Prop:=PW X e (Es X.K f)
theorem DQ.pb{f:ak->R Bool}(h:DQ X e f):PB X e f:=PW.pt h
theorem Cy{f:ak->R Bool}(h:PB X a f):DQ X (.BoolOp .And [a] pos) f:=F_ h
theorem Fe{f:ak->R Bool}(h:PB X a f):DQ X (.BoolOp .Or [a] pos) f:=AX h
theorem ES{rest:List Expr}{f g:ak->R Bool}(ha:PB X a f)(hb:DQ X (.BoolOp .And (b ::rest) pos) g):DQ X (.BoolOp .And (a ::b ::rest) pos) (rR f g):=by
 intro wh pins s σ H Q I ⟨Z,B,δ,k,E,hf,q⟩;refine Jk ha hb wh pins s σ H Q I ?_;obtain⟨c,h1,h2⟩:=R.ag hf;refine⟨Z,B,δ,c,E,h1,fun H1 s1=>?_⟩
 cases c with
 | true=>rw [if_pos rfl] at h2 ⊢;exact⟨Z,B,δ,k,E.same s1,h2,fun H' s2=>q H' (s1.trans s2)⟩
 | false=>rw [if_neg (by decide)] at h2 ⊢;cases h2;exact q H1 s1
theorem HX{rest:List Expr}{f g:ak->R Bool}(ha:PB X a f)(hb:DQ X (.BoolOp .Or (b ::rest) pos) g):DQ X (.BoolOp .Or (a ::b ::rest) pos) (ya f g):=by
 intro wh pins s σ H Q I ⟨Z,B,δ,k,E,hf,q⟩;refine G6 ha hb wh pins s σ H Q I ?_;obtain⟨c,h1,h2⟩:=R.ag hf;refine⟨Z,B,δ,c,E,h1,fun H1 s1=>?_⟩
 cases c with
 | true=>rw [if_pos rfl] at h2 ⊢;cases h2;exact q H1 s1
 | false=>rw [if_neg (by decide)] at h2 ⊢;exact⟨Z,B,δ,k,E.same s1,h2,fun H' s2=>q H' (s1.trans s2)⟩
theorem JK{f:ak->R Bool}(ha:PB X a f):PB X (.UnaryOp .Not a pos) (rW f):=(Dy ha).imp fun σ H Q ⟨Z,B,δ,k,E,hf,q⟩=>by
 obtain⟨c,h1,h2⟩:=R.ag hf;cases h2;exact⟨Z,B,δ,c,E,h1,fun H1 s1=>q H1 s1⟩
def Kf(f:FD):ak->R Bool:=fun δ=>(f δ).bind fun d=>match d with | .bl b=> .ok b | _=> .no
def pM(f g:FD):FD:=fun δ=>(Kf f δ).bind fun b=>if b then g δ else .ok (.bl false)
def Kv(f g:FD):FD:=fun δ=>(Kf f δ).bind fun b=>if b then .ok (.bl true) else g δ
def TB(f:FD):FD:=fun δ=>(Kf f δ).bind fun b=> .ok (.bl (!b))
theorem CZ{f:FD}{δ:ak}{b:Bool}(h:Kf f δ= .ok b):f δ= .ok (.bl b):=by
 obtain⟨d,h1,h2⟩:=R.ag h;cases d with
 | bl k=>cases h2;exact h1
 | _=>cases h2
theorem HY{op}(h:PD X a f):PD X (.BoolOp op [a] pos) f:=HD h
theorem IZ{rest:List Expr}(ha:PD X a f)(hb:PD X (.BoolOp .And (b ::rest) pos) g):PD X (.BoolOp .And (a ::b ::rest) pos) (pM f g):=(HK ha hb).imp fun σ H Q ⟨Z,B,δ,k,E,hf,q⟩=>by
 obtain⟨c,h1,h2⟩:=R.ag hf;refine⟨Z,B,δ, .bl c,E,CZ h1,fun v H1 s1 r1=>⟨c,by unfold Rep at r1;exact r1,?_⟩⟩
 cases c with
 | true=>rw [if_pos rfl] at h2 ⊢;exact⟨Z,B,δ,k,E.same s1,h2,fun v H' s2 r2=>q v H' (s1.trans s2) r2⟩
 | false=>rw [if_neg (by decide)] at h2 ⊢;cases h2;exact q _ H1 s1 (by unfold Rep;rfl)
theorem K9{rest:List Expr}(ha:PD X a f)(hb:PD X (.BoolOp .Or (b ::rest) pos) g):PD X (.BoolOp .Or (a ::b ::rest) pos) (Kv f g):=(Ls ha hb).imp fun σ H Q ⟨Z,B,δ,k,E,hf,q⟩=>by
 obtain⟨c,h1,h2⟩:=R.ag hf;refine⟨Z,B,δ, .bl c,E,CZ h1,fun v H1 s1 r1=>⟨c,by unfold Rep at r1;exact r1,?_⟩⟩
 cases c with
 | true=>rw [if_pos rfl] at h2 ⊢;cases h2;exact q _ H1 s1 (by unfold Rep;rfl)
 | false=>rw [if_neg (by decide)] at h2 ⊢;exact⟨Z,B,δ,k,E.same s1,h2,fun v H' s2 r2=>q v H' (s1.trans s2) r2⟩
def Wq(c:ak->R Bool)(f g:FD):FD:=fun δ=>(c δ).bind fun b=>if b then f δ else g δ
def cJ(X:Cx)(f:Value)(g:List D->R D):Prop:=
 ∀(pins:WD) (s:Shared) (σ:St) (H:Hp) (B:List Addr) (ds:List D) (d:D) (xs:List V) (us:List Value),Inv X pins σ H s->(∀a∈B,∃o,H a=some o)->Vals xs us->aD X.K B H ds xs->g ds= .ok d->
  wpAny (model X.prog X.w) X.A (call f us) (EP X pins σ fun z H'=>aN H H'/\Rep X.K B H' d z) X.xe s
def aM(g:List D->R D)(fs:ak->R (List D)):FD:=fun δ=>(fs δ).bind g
theorem cJ.r{f:Value}{g:List D->R D}(h:cJ X f g):iI X f (fun xs H Q=>∃B ds d,(∀a∈B,∃o,H a=some o)/\aD X.K B H ds xs/\g ds= .ok d/\∀z H',aN H H'->Rep X.K B H' d z->Q z H'):=by
 intro pins s σ H xs us Q I rx ⟨B,ds,d,hb,hr,hg,q⟩;exact cO (h pins s σ H B ds d xs us I hb rx hr hg) fun z s' ⟨zv,H',I',r',s1,r1⟩=>⟨zv,H',I',r',q zv H' s1 r1⟩
theorem zw{K:W.Frag}{g:List D->R D}{fs:ak->R (List D)}{Q:VK}(h:tD K (aM g fs) σ H Q) :
 QE K fs σ H fun vs H1=>∃B ds d,(∀a∈B,∃o,H1 a=some o)/\aD K B H1 ds vs/\g ds= .ok d/\∀z H',aN H1 H'->Rep K B H' d z->Q z H':=by
 obtain⟨Z,B,δ,d,E,hf,q⟩:=h;obtain⟨ds,h1,h2⟩:=R.ag hf;exact⟨Z,B,δ,ds,E,h1,fun vs H1 s1 r1=>⟨B,ds,d,(E.same s1).bs,r1,h2,fun z H' s2 r2=>q z H' (s1.trans s2) r2⟩⟩
theorem CJ{g:List D->R D}{x:Str}{id:String}{p pos:Pos}{e:Expr}{es:List Expr}{fs:ak->R (List D)}(hc:cJ X (.builtin id) g)(hg:Gl X x)(hm:X.mg x=none)(hv:bootBuiltins x=some (.builtin id))(ha:AJ X (e ::es) fs)(hn:x≠"__name__":=by decide)(jF:(x==("__debug__":Str))=false:=by decide)
 (he:starEach (e ::es) X.env=(false,eval e X.env) ::starEach es X.env:=by rfl) (kP:(backTo pos (starEach es X.env)).any (·.1)=false:=by rfl):PD X (.Call (.Name x p) (e ::es) [] pos) (aM g fs):=
 (nF hc.r hg hm hv ha hn jF he kP).imp fun σ H Q h=>zw h
theorem Au{g:List D->R D}{x:Str}{T:String}{p pos:Pos}{e:Expr}{es:List Expr}{fs:ak->R (List D)}(hc:cJ X (.type T) g)(hg:Gl X x)(hm:X.mg x=none)(hv:bootBuiltins x=some (.type T))(ha:AJ X (e ::es) fs)(hn:x≠"__name__":=by decide)(jF:(x==("__debug__":Str))=false:=by decide)
 (he:starEach (e ::es) X.env=(false,eval e X.env) ::starEach es X.env:=by rfl) (kP:(backTo pos (starEach es X.env)).any (·.1)=false:=by rfl):PD X (.Call (.Name x p) (e ::es) [] pos) (aM g fs):=
 (sJ hc.r hg hm hv ha hn jF he kP).imp fun σ H Q h=>zw h
def DX(K:W.Frag)(n:Nat)(g:List D->R D):Sp:=fun vs H Q _=>vs.length=n/\∃B ds d,(∀a∈B,∃o,H a=some o)/\aD K B H ds vs/\g ds= .ok d/\∀z H',aN H H'->Rep K B H' d z->Q z H'
theorem Fi{g:List D->R D}{k n:Nat}{f:Addr}{fd:FuncData}{ps:List Str}{x:Str}{p pos:Pos}{e:Expr}{es:List Expr}{fs:ak->R (List D)}
 (F:f9 X.prog X.w X.K X.mg X.base rX k f fd ps (DX X.K n g)) (hr:dP k X.A) (hg:Gl X x) (hm:X.mg x=some (.ref f)) (hk:PySem.W.keepIn X.K (.ref f)=true) (hb:Binds X.K fd ps []) (ha:AJ X (e ::es) fs)
 (hn:∀δ ds,fs δ= .ok ds->ds.length=n) (jF:(x==("__debug__":Str))=false:=by decide) (he:starEach (e ::es) X.env=(false,eval e X.env) ::starEach es X.env:=by rfl) (kP:(backTo pos (starEach es X.env)).any (·.1)=false:=by rfl) :
 PD X (.Call (.Name x p) (e ::es) [] pos) (aM g fs):=
 (yX F hr hg hm hk hb .nil GY ha jF he kP).imp fun σ H Q ⟨Z,B,δ,d,E,hf,q⟩=>by
   obtain⟨ds,h1,h2⟩:=R.ag hf;refine⟨Z,B,δ,ds,E,h1,fun vs H1 s1 r1=>?_⟩
   show DX X.K n g (vs++[]) H1 Q E0;rw[List.append_nil];exact⟨by rw[<-r1.length];exact hn δ ds h1,B,ds,d,(E.same s1).bs,r1,h2,fun z H' s2 r2=>q z H' (s1.trans s2) r2⟩
end
end L2
end
section
namespace L2
open PySem PySem.Spec PyProof.Rows
inductive Out where
 | nx (δ:ak) | rt (d:D)
abbrev FS:=ak->R Out
structure Ev (Z B:List Addr) (H:Hp) (B':List Addr) (H':Hp):Prop where
 ba:dw B H B' H'
 zs:∀b o,H b=some o->b∈Z->H' b=some o/\b∈B'
theorem Ev.refl(Z B:List Addr)(H:Hp)(zb:∀a∈Z,a∈B):Ev Z B H B H:=⟨dw.refl B H,fun b o e z=>⟨e,zb b z⟩⟩
theorem Ev.trans{Z B B' Mi:List Addr}(a:Ev Z B H B' H')(b:Ev Z B' H' Mi mD):Ev Z B H Mi mD:=
 ⟨a.ba.trans b.ba,fun c o e z=>let⟨e1,_⟩:=a.zs c o e z;b.zs c o e1 z⟩
theorem Ev.same{Z B:List Addr}(zb:∀a∈Z,a∈B)(s:aN H H'):Ev Z B H B H':=⟨dw.same s,fun b o e z=>⟨s b o e,zb b z⟩⟩
def yL(K:W.Frag)(Z B:List Addr)(H:Hp)(D:Ends):Out->Prop
 | .nx dC=>∀cG B' H',Ev Z B H B' H'->dq K Z B' H' cG dC->D.nx cG H'
 | .rt d=>∀v B' H',Ev Z B H B' H'->(∀a∈Z,a∈B')->Rep K B' H' d v->D.rt v H'
theorem yL.ev{K:W.Frag}{Z B B1:List Addr}{D:Ends}{o:Out}(q:yL K Z B H D o)(ev:Ev Z B H B1 H1):yL K Z B1 H1 D o:=by
 cases o with
 | nx dC=>exact fun cG B' H' DN E'=>q cG B' H' (ev.trans DN) E'
 | rt d=>exact fun v B' H' DN z r=>q v B' H' (ev.trans DN) z r
def sD(K:W.Frag)(F:FS):TS:=fun D σ H=>∃Z B δ o,dq K Z B H σ δ/\F δ= .ok o/\yL K Z B H D o
abbrev AI(X:Cx)(st:Stmt)(F:FS):Prop:=PS X st (sD X.K F)
abbrev pI(X:Cx)(st:List Stmt)(F:FS):Prop:=uo X st (sD X.K F)
section
variable {X:Cx}
def ku:FS:=fun δ=> .ok (.nx δ)
def bF(F G:FS):FS:=fun δ=>(F δ).bind fun o=>match o with | .nx dC=>G dC | .rt d=> .ok (.rt d)
theorem Ej:pI X [] ku:=uh.imp fun D σ H ⟨Z,B,δ,o,E,hf,q⟩=>by
 cases hf;exact q σ B H (Ev.refl Z B H E.zb) E
theorem Hu{K:W.Frag}{F G:FS}{D:Ends}(h:sD K (bF F G) D σ H):Lg (sD K F) (sD K G) D σ H:=by
 obtain⟨Z,B,δ,o,E,hf,q⟩:=h;obtain⟨o1,h1,h2⟩:=R.ag hf;refine⟨Z,B,δ,o1,E,h1,?_⟩;cases o1 with
 | nx δ1=>
   intro Kq B1 H1 ev E1;refine⟨Z,B1,δ1,o,E1,h2,?_⟩;cases o with
   | nx g9=>exact fun cG B' H' DN E'=>q cG B' H' (ev.trans DN) E'
   | rt d=>exact fun v B' H' DN z r=>q v B' H' (ev.trans DN) z r
 | rt d=>
   cases h2;exact q
theorem BJ{st:Stmt}{rest:List Stmt}{F G:FS}(h1:AI X st F)(h2:pI X rest G):pI X (st ::rest) (bF F G):=(ql h1 h2).imp fun D σ H h=>Hu h
theorem F8{st:Stmt}{F:FS}(h1:AI X st F):pI X [st] F:=ui h1
theorem dq.set{K:W.Frag}{Z B:List Addr}{σ:St}{δ:ak}(E:dq K Z B H σ δ){i:Nat}{d:D}{v:V}(hi:i < σ.length)(r:Rep K B H d v):dq K Z B H (σ.set i (some v)) (δ.set i (.val d)) where
 len:=by rw[List.length_set,List.length_set];exact E.len
 bs:=E.bs
 zb:=E.zb
 val:=fun j d' e=>by
  by_cases h:i=j
  .subst h;rw[List.getElem?_set_self (by rw[E.len];exact hi)] at e
   cases e;exact⟨v,List.getElem?_set_self hi,r⟩
  .rw [List.getElem?_set_ne h] at e ⊢;exact E.val j d' e
 bld:=fun j ds e=>by
  by_cases h:i=j
  .subst h;rw[List.getElem?_set_self (by rw[E.len];exact hi)] at e
   cases e
  .rw [List.getElem?_set_ne h] at e ⊢;exact E.bld j ds e
 dis:=fun j k a ds es e1 e2 e3 e4=>by
  by_cases h:i=j
  .subst h;rw[List.getElem?_set_self (by rw[E.len];exact hi)] at e1
   cases e1
  .by_cases h':i=k
   .subst h';rw[List.getElem?_set_self (by rw[E.len];exact hi)] at e2
    cases e2
   .rw [List.getElem?_set_ne h] at e1 e3;rw[List.getElem?_set_ne h'] at e2 e4;exact E.dis j k a ds es e1 e2 e3 e4
theorem dq.setB{K:W.Frag}{Z B:List Addr}{H:Hp}{σ:St}{δ:ak}(E:dq K Z B H σ δ){i:Nat}{ds:List D}{a:Addr}{xs:List V}(hi:i < σ.length)(hB:a∈B)(hZ:a ∉ Z)(hH:H a=some (.lst xs))(r:aD K B H ds xs)
 (new:∀j es,j≠i->δ[j]? =some (.bld es)->σ[j]?≠some (some (.ref a))):dq K Z B H (σ.set i (some (.ref a))) (δ.set i (.bld ds)) where
 len:=by rw[List.length_set,List.length_set];exact E.len
 bs:=E.bs
 zb:=E.zb
 val:=fun j d' e=>by
  by_cases h:i=j
  .subst h;rw[List.getElem?_set_self (by rw[E.len];exact hi)] at e
   cases e
  .rw [List.getElem?_set_ne h] at e ⊢;exact E.val j d' e
 bld:=fun j es e=>by
  by_cases h:i=j
  .subst h;rw[List.getElem?_set_self (by rw[E.len];exact hi)] at e
   cases e;exact⟨a,xs,List.getElem?_set_self hi,hB,hZ,hH,r⟩
  .rw [List.getElem?_set_ne h] at e ⊢;exact E.bld j es e
 dis:=fun j k b Mc Mr e1 e2 e3 e4=>by
  by_cases h:i=j
  .subst h;by_cases h':i=k
   .exact h'
   .rw [List.getElem?_set_self hi] at e3;cases e3;rw[List.getElem?_set_ne h'] at e2 e4;exact absurd e4 (new k Mr (Ne.symm h') e2)
  .by_cases h':i=k
   .subst h';rw[List.getElem?_set_self hi] at e4;cases e4;rw[List.getElem?_set_ne h] at e1 e3;exact absurd e3 (new j Mc (Ne.symm h) e1)
   .rw [List.getElem?_set_ne h] at e1 e3;rw[List.getElem?_set_ne h'] at e2 e4;exact E.dis j k b Mc Mr e1 e2 e3 e4
def cR(i:Nat)(f:FD):FS:=fun δ=>(f δ).bind fun d=>R.aS (decide (i < δ.length)) (.ok (.nx (δ.set i (.val d))))
theorem Cs{K:W.Frag}{i:Nat}{D:Ends}(h:sD K (cR i f) D σ H):Ak (tD K f) (qB i) D σ H:=by
 obtain⟨Z,B,δ,o,E,hf,q⟩:=h;obtain⟨d,h1,h2⟩:=R.ag hf;obtain⟨hi,h3⟩:=R.aO h2;cases h3;refine⟨Z,B,δ,d,E,h1,fun v H1 s1 r1=>?_⟩
 exact q _ B H1 (Ev.same E.zb s1) ((E.same s1).set (by rw[<-E.len];exact of_decide_eq_true hi) r1)
theorem Fj{i:Nat}{pos pos':Pos}(hN:X.N.Nodup)(hi:X.N[i]? =some x)(hx:Loc X.env.scope x)(he:PD X e f)(hs:swapsWith e (some (.Name x pos')) pos.line X.env=pure false:=by rfl)(hf:X.fn x=true\/X.env.scope.names.lookup x=some .local:=by first | exact .inl rfl | exact .inr rfl | assumption) :
 AI X (.Assign [.Name x pos'] e pos) (cR i f):=(yi hN hi hx he hs hf).imp fun D σ H h=>Cs h
def mY(i:Nat)(f:ak->R (List D)):FS:=fun δ=>(f δ).bind fun ds=>R.aS (decide (i < δ.length)) (.ok (.nx (δ.set i (.bld ds))))
theorem Bh{K:W.Frag}{i:Nat}{f:ak->R (List D)}{D:Ends}(h:sD K (mY i f) D σ H):Ak (tN K f) (qB i) D σ H:=by
 obtain⟨Z,B,δ,o,E,hf,q⟩:=h;obtain⟨ds,h1,h2⟩:=R.ag hf;obtain⟨hi,h3⟩:=R.aO h2;cases h3;refine⟨Z,B,δ,ds,E,h1,fun a xs H1 s1 n e r=>?_⟩
 have E1:=E.same s1;have aB:a ∉ B:=fun ha=>by obtain⟨o,ho⟩:=E.bs a ha;rw [n] at ho;cases ho
 have nZ:a ∉ Z:=fun ha=>aB (E.zb a ha)
 have p0:dw B H (a ::B) H1:=fun b o e' nb=>⟨s1 b o e',fun hb=>by
  rcases List.mem_cons.mp hb with z | z
  .subst z;rw [n] at e';cases e'
  .exact nb z⟩
 have E2:dq K Z (a ::B) H1 σ δ:={
  len:=E.len
  bs:=fun b hb=>by
   rcases List.mem_cons.mp hb with z | z
   .subst z;exact⟨_,e⟩
   .exact E1.bs b z
  zb:=fun b hb=>List.mem_cons_of_mem _ (E.zb b hb)
  val:=fun j d e=>let⟨v,q1,q2⟩:=E.val j d e;⟨v,q1,q2.ba p0⟩
  bld:=fun j es e=>let⟨b,ys,q1,q2,q3,q4,q5⟩:=E.bld j es e;⟨b,ys,q1,List.mem_cons_of_mem _ q2,q3,s1 b _ q4,q5.ba p0⟩
  dis:=E.dis}
 refine q _ (a ::B) H1 ⟨p0,fun b o e' hb=>⟨s1 b o e',List.mem_cons_of_mem _ (E.zb b hb)⟩⟩ (E2.setB (by rw[<-E.len];exact of_decide_eq_true hi) List.mem_cons_self nZ e r fun j es hj ej Gs=>?_)
 obtain⟨b,ys,q1,_,_,q4,_⟩:=E.bld j es ej;rw[Gs] at q1;cases q1;rw[n] at q4;cases q4
theorem EJ{i:Nat}{f:ak->R (List D)}{pos pos':Pos}(hN:X.N.Nodup)(hi:X.N[i]? =some x)(hx:Loc X.env.scope x)(he:PN X e f)(hs:swapsWith e (some (.Name x pos')) pos.line X.env=pure false:=by rfl)(hf:X.fn x=true\/X.env.scope.names.lookup x=some .local:=by first | exact .inl rfl | exact .inr rfl | assumption) :
 AI X (.Assign [.Name x pos'] e pos) (mY i f):=(yi hN hi hx he hs hf).imp fun D σ H h=>Bh h
theorem dq.grow{K:W.Frag}{Z B:List Addr}{H:Hp}{σ:St}{δ:ak}(E:dq K Z B H σ δ){i:Nat}{ds es:List D}{a:Addr}{xs ys:List V}(hd:δ[i]? =some (.bld ds))(Gs:σ[i]? =some (some (.ref a)))(hB:a∈B)(hH:H a=some (.lst xs))(r:aD K B H es ys) :
 dq K Z B (upd H a (.lst ys)) σ (δ.set i (.bld es))/\dw B H B (upd H a (.lst ys)):=by
 have p:dw B H B (upd H a (.lst ys)):=fun b o e nb=>⟨by rw[bb (fun(z:b=a)=>nb (by rw[z];exact hB))];exact e,nb⟩
 have hi:i < δ.length:=(List.getElem?_eq_some_iff.mp hd).1;refine⟨{
  len:=by rw[List.length_set];exact E.len
  bs:=fun b hb=>by
   by_cases z:b=a
   .subst z;exact⟨_,aX⟩
   .rw [bb z];exact E.bs b hb
  zb:=E.zb
  val:=fun j d e=>by
   by_cases h:i=j
   .subst h;rw [List.getElem?_set_self hi] at e;cases e
   .rw [List.getElem?_set_ne h] at e;obtain⟨v,q1,q2⟩:=E.val j d e;exact⟨v,q1,q2.ba p⟩
  bld:=fun j fs e=>by
   by_cases h:i=j
   .subst h;rw [List.getElem?_set_self hi] at e;cases e;obtain⟨b,zs,q1,q2,q3,_,_⟩:=E.bld i ds hd;rw[Gs] at q1;cases q1;exact⟨a,ys,Gs,hB,q3,aX,r.ba p⟩
   .rw [List.getElem?_set_ne h] at e;obtain⟨b,zs,q1,q2,q3,q4,q5⟩:=E.bld j fs e;have ne:b≠a:=fun z=>by subst z;exact h (E.dis i j b ds fs hd e Gs q1)
    exact⟨b,zs,q1,q2,q3,by rw[bb ne];exact q4,q5.ba p⟩
  dis:=fun j k b Mc Mr e1 e2 e3 e4=>by
   have f1:∃fs,δ[j]? =some (.bld fs):=by
    by_cases h:i=j
    .subst h;exact⟨ds,hd⟩
    .rw [List.getElem?_set_ne h] at e1;exact⟨_,e1⟩
   have f2:∃fs,δ[k]? =some (.bld fs):=by
    by_cases h:i=k
    .subst h;exact⟨ds,hd⟩
    .rw [List.getElem?_set_ne h] at e2;exact⟨_,e2⟩
   obtain⟨_,f1⟩:=f1;obtain⟨_,f2⟩:=f2;exact E.dis j k b _ _ f1 f2 e3 e4},p⟩
theorem Ev.grow{Z B:List Addr}{a:Addr}{o:HO}(zb:∀a∈Z,a∈B)(hZ:a ∉ Z)(p:dw B H B (upd H a o)):Ev Z B H B (upd H a o):=
 ⟨p,fun b u e hb=>⟨by rw[bb (fun(z:b=a)=>hZ (by rw[<-z];exact hb))];exact e,zb b hb⟩⟩
def rE(δ:ak)(i:Nat):R (List D):=match δ[i]? with | some (.bld ds)=> .ok ds | _=> .no
theorem Bi{δ:ak}{i:Nat}{ds:List D}(h:rE δ i= .ok ds):δ[i]? =some (.bld ds):=by
 unfold rE at h;split at h
 .rename_i q;cases h;exact q
 .cases h
def nW(i:Nat)(f:FD):FS:=fun δ=>(f δ).bind fun d=>(rE δ i).bind fun ds=>R.aS (decide (ds.length < sizeLine)) (.ok (.nx (δ.set i (.bld (ds++[d])))))
theorem El{i:Nat}{x:Str}{e:Expr}{f:FD}{l6 apos aZ pos:Pos}(hN:X.N[i]? =some x)(hv:G7 X.env.scope x)(he:PD X e f)
 (hd:(x==("__debug__":Str))=false:=by decide) (rK:(x==("__classdict__":Str))=false:=by decide)
 (hs:starEach [e] X.env=(false,eval e X.env) ::starEach [] X.env:=by rfl) (eO:(apos.endLine==aZ.line)=true:=by rfl)
 (jD:((backTo aZ (starEach [e] X.env)).all (fun x=>!x.1) && (backToKw aZ (keywordEach [] X.env)).all (fun x=>x.1.isSome)
   && decide (([e]:List Expr).length+([]:List Keyword).length+(if([]:List Keyword).isEmpty then 0 else 1) < 30))=true:=by rfl)
 (rH:swapsWith (.Call (.Attribute (.Name x l6) "append" apos) [e] [] aZ) none pos.line X.env=pure false:=by rfl)
 (eP:attributeBase (.Name x l6) "append" X.env (eval (.Name x l6) X.env)=eval (.Name x l6) X.env:=by rfl) :
 AI X (.Expr (.Call (.Attribute (.Name x l6) "append" apos) [e] [] aZ) pos) (nW i f):=by
 refine(nJ (wg (X:=X) PySem.F.plainAttrs_list PySem.F.slot_list_append PySem.F.type_list_append jX (t8 hN hv hd rK) (de he fZ hs) eP jD eO hs) rH).imp fun D σ H ⟨Z,B,δ,o,E,hf,q⟩=>?_
 obtain⟨d,h1,h2⟩:=R.ag hf;obtain⟨ds,h3,h4⟩:=R.ag h2;obtain⟨hl,h5⟩:=R.aO h4;cases h5;have hb:=Bi h3;obtain⟨a,xs,q1,q2,q3,q4,q5⟩:=E.bld i ds hb;refine⟨.ref a,q1, .inl ⟨rfl,xs,lr.of q4⟩,⟨Z,B,δ,d,E,h1,fun v H1 s1 r1=>?_⟩⟩
 have E1:=E.same s1;refine⟨a,xs,v,rfl,rfl,s1 a _ q4,by rw[<-q5.length];exact of_decide_eq_true hl,?_⟩
 obtain⟨E2,p2⟩:=E1.grow (es:=ds++[d]) (ys:=xs++[v]) hb q1 q2 (s1 a _ q4) ((q5.same s1).append (aD.cons r1 aD.nil));exact q σ B _ ((Ev.same E.zb s1).trans (Ev.grow E.zb q3 p2)) E2
def Sv(i:Nat)(f:ak->R (List D)):FS:=fun δ=>(f δ).bind fun es=>(rE δ i).bind fun ds=>R.aS (decide (ds.length+es.length<=sizeLine)) (.ok (.nx (δ.set i (.bld (ds++es)))))
def kK(i:Nat)(δ:ak):ak:=match δ[i]? with | some (.bld ds)=>δ.set i (.val (.lst ds)) | _=>δ
theorem dq.kK{K:W.Frag}{Z B:List Addr}{δ:ak}(E:dq K Z B H σ δ)(i:Nat):∃B',Ev Z B H B' H/\dq K Z B' H σ (kK i δ):=by
 unfold L2.kK;cases hd:δ[i]? with
 | none=>exact⟨B,Ev.refl Z B H E.zb,E⟩
 | some x=>
   cases x with
   | un=>exact⟨B,Ev.refl Z B H E.zb,E⟩
   | val d=>exact⟨B,Ev.refl Z B H E.zb,E⟩
   | bld ds=>
     obtain⟨a,xs,q1,q2,q3,q4,q5⟩:=E.bld i ds hd;have hi:i < δ.length:=(List.getElem?_eq_some_iff.mp hd).1;have p:dw B H (B.filter fun b=>decide (b≠a)) H:=fun b o e nb=>⟨e,fun hb=>nb (List.mem_filter.mp hb).1⟩
     have zb:∀b∈Z,b∈B.filter fun b=>decide (b≠a):=fun b hb=>List.mem_filter.mpr ⟨E.zb b hb,decide_eq_true fun z=>q3 (z▸hb)⟩
     refine⟨B.filter fun b=>decide (b≠a),⟨p,fun b o e hb=>⟨e,zb b hb⟩⟩,{
      len:=by rw[List.length_set];exact E.len
      bs:=fun b hb=>E.bs b (List.mem_filter.mp hb).1
      zb:=zb
      val:=fun j d e=>by
       by_cases h:i=j
       .subst h;rw [List.getElem?_set_self hi] at e;cases e;refine⟨.ref a,q1,?_⟩;unfold Rep;exact⟨a,xs,rfl, .inl ⟨fun hb=>by simpa using(List.mem_filter.mp hb).2, .inl q4⟩,q5.ba p⟩
       .rw [List.getElem?_set_ne h] at e;obtain⟨v,z1,z2⟩:=E.val j d e;exact⟨v,z1,z2.ba p⟩
      bld:=fun j fs e=>by
       by_cases h:i=j
       .subst h;rw [List.getElem?_set_self hi] at e;cases e
       .rw [List.getElem?_set_ne h] at e;obtain⟨b,zs,z1,z2,z3,z4,z5⟩:=E.bld j fs e;exact⟨b,zs,z1,List.mem_filter.mpr ⟨z2,decide_eq_true fun z=>by subst z;exact h (E.dis i j b ds fs hd e q1 z1)⟩,z3,z4,z5.ba p⟩
      dis:=fun j k b Mc Mr e1 e2 e3 e4=>by
       by_cases h:i=j
       .subst h;rw [List.getElem?_set_self hi] at e1;cases e1
       .by_cases h':i=k
        .subst h';rw [List.getElem?_set_self hi] at e2;cases e2
        .rw [List.getElem?_set_ne h] at e1;rw[List.getElem?_set_ne h'] at e2;exact E.dis j k b Mc Mr e1 e2 e3 e4}⟩
def pJ(i:Nat)(F:FS):FS:=fun δ=>F (kK i δ)
theorem Jh{K:W.Frag}{i:Nat}{F:FS}{D:Ends}(h:sD K (pJ i F) D σ H):sD K F D σ H:=by
 obtain⟨Z,B,δ,o,E,hf,q⟩:=h;obtain⟨B1,ev,E1⟩:=E.kK i;refine⟨Z,B1,L2.kK i δ,o,E1,hf,?_⟩;cases o with
 | nx dC=>exact fun cG B' H' DN E'=>q cG B' H' (ev.trans DN) E'
 | rt d=>exact fun v B' H' DN z r=>q v B' H' (ev.trans DN) z r
theorem Eg(i:Nat){F:FS}(h:pI X Mu F):pI X Mu (pJ i F):=h.imp fun D σ H h=>Jh h
def eK(f:FD):FS:=fun δ=>(f δ).bind fun d=> .ok (.rt d)
theorem F4(he:PD X e f):AI X (.Return (some e) pos) (eK f):=(AS he).imp fun D σ H ⟨Z,B,δ,o,E,hf,q⟩=>by
 obtain⟨d,h1,h2⟩:=R.ag hf;cases h2;exact⟨Z,B,δ,d,E,h1,fun v H1 s1 r1=>q v B H1 (Ev.same E.zb s1) E.zb r1⟩
def q8(c:ak->R Bool)(F G:FS):FS:=fun δ=>(c δ).bind fun b=>if b then F δ else G δ
theorem Hg{fc:ak->R Bool}{F G:FS}(hc:PB X c fc)(ha:pI X a F)(hb:pI X b G):AI X (.If c a b pos) (q8 fc F G):=(Cg hc ha hb).imp fun D σ H ⟨Z,B,δ,o,E,hf,q⟩=>by
 obtain⟨k,h1,h2⟩:=R.ag hf;refine⟨Z,B,δ,k,E,h1,fun H1 s1=>?_⟩
 have q':=q.ev (Ev.same E.zb s1);cases k with
 | true=>rw [if_pos rfl] at h2;exact C_ ⟨Z,B,δ,o,E.same s1,h2,q'⟩
 | false=>rw [if_neg (by decide)] at h2;exact CG ⟨Z,B,δ,o,E.same s1,h2,q'⟩
abbrev FT:=D->ak->R ak
def gD(K:W.Frag)(t:FT):TG:=fun v σ H Q=>∃Z B δ d dC,dq K Z B H σ δ/\Rep K B H d v/\t d δ= .ok dC/\∀cG H',aN H H'->dq K Z B H' cG dC->cG.length=σ.length->Q cG H'
abbrev Ew(X:Cx)(tg:Expr)(t:FT):Prop:=PG X tg (gD X.K t)
def aA(i:Nat):FT:=fun d δ=>R.aS (decide (i < δ.length)) (.ok (δ.set i (.val d)))
theorem Dk{i:Nat}{pos:Pos}(hN:X.N.Nodup)(hi:X.N[i]? =some x)(hx:Loc X.env.scope x)(hf:X.fn x=true\/X.env.scope.names.lookup x=some .local:=by first | exact .inl rfl | exact .inr rfl | assumption):Ew X (.Name x pos) (aA i):=
 (zA hN hi hx hf).imp fun v σ H Q ⟨Z,B,δ,d,dC,E,r,ht,q⟩=>by
   obtain⟨hi,h⟩:=R.aO ht;cases h;exact q _ H (aN.refl H) (E.set (by rw[<-E.len];exact of_decide_eq_true hi) r) (List.length_set ..)
abbrev AO:=List D->ak->R ak
def TM(K:W.Frag)(t:AO):Ba:=fun vs σ H Q=>∃Z B δ ds dC,dq K Z B H σ δ/\aD K B H ds vs/\t ds δ= .ok dC/\∀cG H',aN H H'->dq K Z B H' cG dC->cG.length=σ.length->Q cG H'
abbrev Bg(X:Cx)(ts:List Expr)(t:AO):Prop:=Ea X ts (TM X.K t)
theorem Ea.imp{X:Cx}{t t':Ba}(h:Ea X e t)(w:∀v σ H Q,t' v σ H Q->t v σ H Q):Ea X e t':=fun pins s σ H v u Q I r hq=>h pins s σ H v u Q I r (w v σ H Q hq)
def fO:AO:=fun ds δ=>match ds with | []=> .ok δ | _=> .no
def bq(t:FT)(u:AO):AO:=fun ds δ=>match ds with | d ::r=>(t d δ).bind fun dC=>u r dC | []=> .no
theorem AY:Bg X [] fO:=E4.imp fun vs σ H Q ⟨Z,B,δ,ds,dC,E,r,ht,q⟩=>by
 cases ds with
 | nil=>unfold aD at r;cases ht;exact⟨r,q σ H (aN.refl H) E rfl⟩
 | cons=>cases ht
theorem zS{u:AO}(h1:Ew X e t)(h2:Bg X es u)(hs:(assignEach (e ::es) X.env).map (·.2)=assign e X.env ::(assignEach es X.env).map (·.2):=by rfl):Bg X (e ::es) (bq t u):=
 (B8 h1 h2 hs).imp fun vs σ H Q ⟨Z,B,δ,ds,dC,E,r,ht,q⟩=>by
   cases ds with
   | nil=>cases ht
   | cons d ds=>
     obtain⟨x,xs,rfl,r1,r2⟩:=r.b6;obtain⟨δ1,h1,h2⟩:=R.ag ht;exact⟨x,xs,rfl,Z,B,δ,d,δ1,E,r1,h1,fun Kq H1 s1 E1 l1=>⟨Z,B,δ1,ds,dC,E1,r2.same s1,h2,fun r9 H2 s2 E2 l2=>q r9 H2 (s1.trans s2) E2 (l2.trans l1)⟩⟩
def fF(n:Nat)(t:AO):FT:=fun d δ=>match d with | .tup ds=>R.aS (decide (ds.length=n)) (t ds δ) | _=> .no
theorem EE{k:Nat}{t:AO}{n:Nat}{pos:Pos}(hc:X.calm=true)(h:Bg X es t)(hn:(assignEach es X.env).length=n:=by rfl)(DL:(assignEach es X.env).findIdx? (·.1)=none:=by rfl):Ew X (.Tuple es k pos) (fF n t):=
 (HP hc h hn DL).imp fun v σ H Q ⟨Z,B,δ,d,dC,E,r,ht,q⟩=>by
   cases d with
   | tup ds=>
     unfold Rep at r;obtain⟨a,xs,rfl,l,r⟩:=r;obtain⟨hl,h⟩:=R.aO ht;exact⟨a,xs,rfl,l.sq,by rw[<-r.length];exact of_decide_eq_true hl,Z,B,δ,ds,dC,E,r,h,q⟩
   | _=>cases ht
def Hx(f:FD)(t:FT):FS:=fun δ=>(f δ).bind fun d=>(t d δ).bind fun dC=> .ok (.nx dC)
theorem EY{tg e:Expr}{f:FD}{t:FT}{pos:Pos}(he:PD X e f)(hg:Ew X tg t)(hs:swapsWithSole [tg] e pos.line X.env=pure false:=by rfl)(hw:swappedStores [tg] e X.env=pure none:=by rfl)
 (h1:(assignEach [tg] X.env).map (·.2)=[assign tg X.env]:=by rfl):AI X (.Assign [tg] e pos) (Hx f t):=(HA he hg hs hw h1).imp fun D σ H ⟨Z,B,δ,o,E,hf,q⟩=>by
 obtain⟨d,h1,h2⟩:=R.ag hf;obtain⟨δ1,h3,h4⟩:=R.ag h2;cases h4;exact⟨Z,B,δ,d,E,h1,fun v H1 s1 r1=>⟨Z,B,δ,d,δ1,E.same s1,r1,h3,fun cG H2 s2 E2 _=>q cG B H2 (Ev.same E.zb (s1.trans s2)) E2⟩⟩
def BS(K:W.Frag)(B:List Addr)(H:Hp)(J:It)(ds:List D):Prop:=∀B' H',dw B H B' H'->(∀(i:Nat) (d:D),ds[i]? =some d->J.go i H'/\∀x mD,J.yld i H' x mD->(∀a∈B',∃o,H' a=some o)->aN H' mD/\Rep K B' mD d x)/\J.stop ds.length H'
def iD(K:W.Frag)(f:ak->R (List D)):TI:=fun σ H R=>∃Z B δ ds,dq K Z B H σ δ/\f δ= .ok ds/\∀J H1,aN H H1->BS K B H1 J ds->R J H1
abbrev Fp(X:Cx)(tg e:Expr)(f:ak->R (List D)):Prop:=PI X tg e (iD X.K f)
def cP(f:FD):ak->R (List D):=fun δ=>(f δ).bind fun d=>match d with | .lst ds=> .ok ds | .tup ds=> .ok ds | _=> .no
theorem Gd(h:PD X e f):Fp X tg e (cP f):=by
 intro pins s σ H RR I ⟨Z,B,δ,ds,E,hf,q⟩;obtain⟨d,h1,h2⟩:=R.ag hf;refine cO (h pins s σ H (fun v H1=>aN H H1/\Rep X.K B H1 d v) I ⟨Z,B,δ,d,E,h1,fun v H1 s1 r1=>⟨s1,r1⟩⟩) fun v s1 ⟨x,H1,I1,r1,ss,rr⟩=>?_
 cases d with
 | lst es=>
   cases h2;unfold Rep at rr;obtain⟨a,xs,rfl,l,rr⟩:=rr;cases r1;obtain⟨its,rv,p,hz⟩:=I1.list l.sq;refine wpAny_pyIter_list p.isList ?_;refine⟨s1.heap.objs.size,[s1.heap.objs.size],_,_,H1,rfl,I1.kept (t':=s1.toks) fun b o e=>Heap.get?_push_of_some _ e,zX a _,⟨_,Heap.get?_push_size _ rfl,rfl,rfl⟩,fun b hb=>?_,q _ H1 ss fun B' H' pr=>?_⟩
   .have e:b=s1.heap.objs.size:=by simpa using hb
    subst e;exact I1.vJ (Nat.le_refl _) (I1.hok.fresh (Nat.le_refl _))
   .have l':uR X.K B' H' a xs:=l.ba pr;have rr':=rr.ba pr;refine⟨fun i d hd=>?_,⟨xs,l'.sq,by rw[rr.length];exact Nat.le_refl _⟩⟩
    obtain⟨x,hx,rx⟩:=rr'.get hd;exact⟨⟨xs,x,l'.sq,hx⟩,fun y mD ⟨e1,e2⟩ _=>by
     subst e1;have:=e2 xs l'.sq;rw[hx] at this;cases this;exact⟨aN.refl _,rx⟩⟩
 | tup es=>
   cases h2;unfold Rep at rr;obtain⟨a,xs,rfl,l,rr⟩:=rr;cases r1;obtain⟨its,rv,p,hz⟩:=I1.tuple l.sq;refine wpAny_pyIter_tuple (show s1.heap.IsTuple a its.toArray from p) ?_
   refine⟨s1.heap.objs.size,[s1.heap.objs.size],_,_,H1,rfl,I1.kept (t':=s1.toks) fun b o e=>Heap.get?_push_of_some _ e,rD a _,⟨_,Heap.get?_push_size _ rfl,rfl,rfl⟩,fun b hb=>?_,q _ H1 ss fun B' H' pr=>?_⟩
   .have e:b=s1.heap.objs.size:=by simpa using hb
    subst e;exact I1.vJ (Nat.le_refl _) (I1.hok.fresh (Nat.le_refl _))
   .have l':vT X.K B' H' a xs:=l.elim (fun z=> .inl ⟨(pr.rd z.2 z.1).2,(pr.rd z.2 z.1).1⟩) .inr
    have rr':=rr.ba pr;refine⟨fun i d hd=>?_,⟨xs,l'.sq,by rw[rr.length];exact Nat.le_refl _⟩⟩
    obtain⟨x,hx,rx⟩:=rr'.get hd;exact⟨⟨xs,x,l'.sq,hx⟩,fun y mD ⟨e1,e2⟩ _=>by
     subst e1;have:=e2 xs l'.sq;rw[hx] at this;cases this;exact⟨aN.refl _,rx⟩⟩
 | _=>cases h2
def pQ(lo:Int)(n:Nat):List D:=(List.range n).map fun(i:Nat)=>D.int (lo+i)
theorem Jm{K:W.Frag}{B:List Addr}(lo:Int)(n:Nat):BS K B H (L6 lo n) (pQ lo n):=fun B' H' _=>by
 refine⟨fun i d hd=>?_,?_⟩
 .unfold pQ at hd;rw[List.getElem?_map] at hd;cases e:(List.range n)[i]? with
  | none=>rw [e] at hd;cases hd
  | some j=>
    rw[e] at hd;cases hd;obtain⟨hi,ej⟩:=List.getElem?_eq_some_iff.mp e;rw[List.getElem_range] at ej;subst ej;rw[List.length_range] at hi;exact⟨hi,fun x mD ⟨e1,e2⟩ _=>by subst e1 e2;exact⟨aN.refl _,by unfold Rep;rfl⟩⟩
 .show n<=(pQ lo n).length;unfold pQ;rw[List.length_map,List.length_range];exact Nat.le_refl _
def d8(f:FD):ak->R (List D):=fun δ=>(f δ).bind fun d=>match d with | .int j=>R.aS (decide (-(2 ^ 62)<=j/\j < 2 ^ 62)) (.ok (pQ 0 j.toNat)) | _=> .no
theorem xo{tg a:Expr}{p pos:Pos}(h:PD X a f)(hg:Gl X "range")(hm:X.mg "range"=none)(hs:starEach [a] X.env=[(false,eval a X.env)]:=by rfl):Fp X tg (.Call (.Name "range" p) [a] [] pos) (d8 f):=
 (zH hg hm (de h fZ hs) hs).imp fun σ H RR ⟨Z,B,δ,ds,E,hf,q⟩=>by
   obtain⟨d,h1,h2⟩:=R.ag hf;cases d with
   | int j=>
     obtain⟨hb,h3⟩:=R.aO h2;cases h3;have hb:=of_decide_eq_true hb;refine⟨Z,B,δ, .int j,E,h1,fun v H1 s1 r1=>⟨j,?_,hb.1,hb.2,q _ H1 s1 (Jm 0 _)⟩⟩
     unfold Rep at r1;rw[r1]
   | _=>cases h2
def Om(f g:FD):ak->R (List D):=fun δ=>(f δ).bind fun d=>(g δ).bind fun e=>match d,e with
 | .int i, .int j=>R.aS (decide (-(2 ^ 62)<=i/\i < 2 ^ 62/\ -(2 ^ 62)<=j/\j < 2 ^ 62)) (.ok (pQ i (j - i).toNat)) | _,_=> .no
def pk(t:FT)(body:FS):List D->FS
 | [],δ=> .ok (.nx δ)
 | d ::ds,δ=>(t d δ).bind fun δ1=>(body δ1).bind fun o=>match o with | .nx g9=>pk t body ds g9 | .rt r=> .ok (.rt r)
def oV(it:ak->R (List D))(t:FT)(body:FS):FS:=fun δ=>(it δ).bind fun ds=>pk t body ds δ
theorem EG{tg iter:Expr}{body:List Stmt}{it:ak->R (List D)}{t:FT}{F:FS}{pos:Pos}(hp:PassesOwn (model X.prog X.w) X.A X.env X.xe)(hc:X.calm=true)(hi:Fp X tg iter it)(hg:Ew X tg t)(hb:pI X body F)
 (hs:∀x,foldedSetIterable iter X.env x=pure x:=by intro _;rfl):AI X (.For tg iter body [] pos) (oV it t F):=(xc hp hc hi hg hb hs).imp fun D σ H ⟨Z,B,δ,o,E,hf,q⟩=>by
 obtain⟨ds,h1,h2⟩:=R.ag hf;refine⟨Z,B,δ,ds,E,h1,fun J H1 s1 ir=>?_⟩
 refine⟨fun i m cG H'=>m=ds.length - i/\i<=ds.length/\∃B' dC,Ev Z B H1 B' H'/\dq X.K Z B' H' cG dC/\pk t F (ds.drop i) dC= .ok o,⟨ds.length,rfl,Nat.zero_le _,B,δ,Ev.refl Z B H1 E.zb,E.same s1,by simpa using h2⟩,?_⟩
 rintro i m cG H' ⟨rfl,hi,B',dC,ev,E',hl⟩;obtain⟨go,stop⟩:=ir B' H' ev.ba;by_cases hlt:i < ds.length
 .have hd:ds[i]? =some ds[i]:=List.getElem?_eq_getElem hlt;have hdrop:ds.drop i=ds[i] ::ds.drop (i+1):=List.drop_eq_getElem_cons hlt;rw[hdrop] at hl;obtain⟨δ1,h3,h4⟩:=R.ag hl;obtain⟨o1,h5,h6⟩:=R.ag h4;obtain⟨g1,g2⟩:=go i _ hd;refine .inr ⟨g1,fun r9 H2=>∃B2 g9,Ev Z B H1 B2 H2/\dq X.K Z B2 H2 r9 g9/\pk t F (ds.drop (i+1)) g9= .ok o,fun r9 H2 n=>⟨ds.length - (i+1),by omega,rfl,hlt,n⟩,fun x mD y=>?_⟩
  obtain⟨ss,rr⟩:=g2 x mD y E'.bs;refine⟨Z,B',dC,ds[i],δ1,E'.same ss,rr,h3,fun r9 H2 s2 E2 l2=>⟨Z,B',δ1,o1,E2,h5,?_⟩⟩
  have ev2:Ev Z B H1 B' H2:=ev.trans (Ev.same E'.zb (ss.trans s2));cases o1 with
  | nx g9=>exact fun DZ B3 H3 Pe E3=>⟨B3,g9,ev2.trans Pe,E3,h6⟩
  | rt d=>
    cases h6;exact fun v B3 H3 Pe z r=>q v B3 H3 ((Ev.same E.zb s1).trans (ev2.trans Pe)) z r
 .have e:i=ds.length:=by omega
  subst e;rw[List.drop_length] at hl;cases hl;exact .inl ⟨stop,q cG B' H' ((Ev.same E.zb s1).trans ev) E'⟩
def Cw(c:ak->R Bool)(body:FS):Nat->FS
 | 0,_=> .no
 | n+1,δ=>(c δ).bind fun b=>if b then(body δ).bind fun o=>match o with | .nx g9=>Cw c body n g9 | .rt r=> .ok (.rt r) else .ok (.nx δ)
def NV(n:Nat)(c:ak->R Bool)(body:FS):FS:=fun δ=>Cw c body n δ
def qX(δ:ak)(i:Nat):Sl:=match δ[i]? with | some (.val d)=> .val d | _=> .un
def oE(own:List Str)(kp:List Nat)(δ:ak):ak:=List.replicate own.length .un++kp.map (qX δ)
def nL(t:FT)(c:ak->R Bool)(f:FD)(δ:ak):List D->R (List D)
 | []=> .ok []
 | d ::ds=>(t d δ).bind fun δ1=>(c δ1).bind fun b=>if b then(f δ1).bind fun y=>(nL t c f δ ds).bind fun ys=> .ok (y ::ys) else nL t c f δ ds
def cx(it:ak->R (List D))(t:FT)(c:ak->R Bool)(f:FD)(own:List Str)(kp:List Nat):ak->R (List D):=fun δ=>(it δ).bind fun ds=>R.aS (decide (ds.length<=sizeLine)) (nL t c f (oE own kp δ) ds)
theorem Ip{K:W.Frag}{Z B B':List Addr}{H H':Hp}{δ:ak}{own:List Str}{kp:List Nat}(E:dq K Z B H σ δ)(p:dw B H B' H')(hB:∀a∈B',∃o,H' a=some o):dq K [] B' H' (c8 own kp σ) (oE own kp δ) where
 len:=by unfold c8 oE;simp
 bs:=hB
 zb:=fun a ha=>by cases ha
 val:=fun i d e=>by
  unfold oE at e;unfold c8;by_cases hi:i < own.length
  .rw [List.getElem?_append_left (by simpa using hi),List.getElem?_replicate] at e
   split at e <;> cases e
  .rw [List.getElem?_append_right (by simpa using hi),List.length_replicate,List.getElem?_map] at e ⊢
   cases q:kp[i - own.length]? with
   | none=>rw [q] at e;cases e
   | some j=>
     rw[q] at e;have e:qX δ j= .val d:=Option.some.inj e;unfold qX at e;split at e
     .rename_i d' ed;cases e;obtain⟨v,h1,h2⟩:=E.val j d ed;exact⟨v,by simp [h1],h2.ba p⟩
     .cases e
 bld:=fun i ds e=>by
  unfold oE at e;by_cases hi:i < own.length
  .rw [List.getElem?_append_left (by simpa using hi),List.getElem?_replicate] at e
   split at e <;> cases e
  .rw [List.getElem?_append_right (by simpa using hi),List.length_replicate,List.getElem?_map] at e
   cases q:kp[i - own.length]? with
   | none=>rw [q] at e;cases e
   | some j=>
     rw[q] at e;have e:qX δ j= .bld ds:=Option.some.inj e;unfold qX at e;split at e <;> cases e
 dis:=fun i j a ds es e=>by
  unfold oE at e;by_cases hi:i < own.length
  .rw [List.getElem?_append_left (by simpa using hi),List.getElem?_replicate] at e
   split at e <;> cases e
  .rw [List.getElem?_append_right (by simpa using hi),List.length_replicate,List.getElem?_map] at e
   cases q:kp[i - own.length]? with
   | none=>rw [q] at e;cases e
   | some j=>
     rw[q] at e;have e:qX δ j= .bld ds:=Option.some.inj e;unfold qX at e;split at e <;> cases e
theorem uz{K:W.Frag}{it:ak->R (List D)}{c:ak->R Bool}{own:List Str}{kp:List Nat}{Q:VK}(h:tN K (cx it t c f own kp) σ H Q) :
 y7 (iD K it) (gD K t) (Es K c) (tD K f) own kp σ H Q:=by
 obtain⟨Z,B,δ,ds,E,hf,q⟩:=h;obtain⟨es,h1,h2⟩:=R.ag hf;obtain⟨hl,h3⟩:=R.aO h2;have hl:=of_decide_eq_true hl;refine⟨Z,B,δ,es,E,h1,fun J H1 s1 ir Dd hD=>?_⟩
 have E1:=E.same s1;have pD:dw B H1 (Dd ::B) (upd H1 Dd (.lst [])):=vR hD;refine⟨fun i m ys H'=>m=es.length - i/\i<=es.length/\ys.length<=i/\H' Dd=some (.lst ys)/\aN H1 H'/\∃done rest,ds=done++rest/\aD K (Dd ::B) H' done ys/\nL t c f (oE own kp δ) (es.drop i)= .ok rest,
  ⟨es.length,rfl,Nat.zero_le _,Nat.le_refl _,aX,br hD,[],ds,rfl,aD.nil,by simpa using h3⟩,?_⟩
 rintro i m ys H' ⟨rfl,hi,hy,hDl,ss,done,rest,rfl,rd,hc⟩;have dB:Dd ∉ B:=fun hb=>by obtain⟨o,ho⟩:=E1.bs Dd hb;rw [hD] at ho;cases ho
 have p':dw B H1 (Dd ::B) H':=fun b o e nb=>⟨ss b o e,fun hb=>by
  rcases List.mem_cons.mp hb with z | z
  .exact b8 e hD z
  .exact nb z⟩
 have MX:∀a∈Dd ::B,∃o,H' a=some o:=fun a ha=>by
  rcases List.mem_cons.mp ha with z | z
  .subst z;exact⟨_,hDl⟩
  .obtain⟨o,ho⟩:=E1.bs a z;exact⟨o,ss a o ho⟩
 obtain⟨go,stop⟩:=ir (Dd ::B) H' p';by_cases hlt:i < es.length
 .have hd:es[i]? =some es[i]:=List.getElem?_eq_getElem hlt;have hdrop:es.drop i=es[i] ::es.drop (i+1):=List.drop_eq_getElem_cons hlt;rw[hdrop] at hc;obtain⟨δ1,h4,h5⟩:=R.ag hc;obtain⟨b,h6,h7⟩:=R.ag h5;obtain⟨g1,g2⟩:=go i _ hd;refine .inr ⟨g1,fun x H2 y=>?_⟩
  obtain⟨sy,ry⟩:=g2 x H2 y MX;have Ec:dq K [] (Dd ::B) H2 (c8 own kp σ) (oE own kp δ):=Ip E1 (p'.trans (dw.same sy)) fun a ha=>let⟨o,ho⟩:=MX a ha;⟨o,sy a o ho⟩
  refine⟨[],Dd ::B,oE own kp δ,es[i],δ1,Ec,ry,h4,fun DZ H3 s3 E3 _=>⟨[],Dd ::B,δ1,b,E3,h6,fun H4 s4=>?_⟩⟩
  have sAll:aN H' H4:=sy.trans (s3.trans s4);cases b with
  | true=>
    rw[if_pos rfl] at h7;refine C_ ?_;obtain⟨yv,h8,h9⟩:=R.ag h7;obtain⟨rs,OW,ON⟩:=R.ag h9;cases ON;refine⟨[],Dd ::B,δ1,yv,E3.same s4,h8,fun v H5 s5 r5=>?_⟩
    have s':aN H' H5:=sAll.trans s5;have OU:H5 Dd=some (.lst ys):=s' Dd _ hDl;have pu:dw (Dd ::B) H5 (Dd ::B) (upd H5 Dd (.lst (ys++[v]))):=fun b o e nb=>⟨by rw[bb (fun(z:b=Dd)=>nb (by rw[z];exact List.mem_cons_self))];exact e,nb⟩
    refine⟨OU,by omega,es.length - (i+1),by omega,rfl,hlt,by rw[List.length_append,List.length_singleton];omega,aX,fun b o e=>?_,done++[yv],rs,by simp,((rd.same s').append (aD.cons r5 aD.nil)).ba pu,OW⟩
    rw[bb (b8 e hD)];exact s' b o (ss b o e)
  | false=>
    rw[if_neg (by decide)] at h7
    refine CG ?_;exact⟨es.length - (i+1),by omega,rfl,hlt,by omega,sAll Dd _ hDl,ss.trans sAll,done,rest,rfl,rd.same sAll,h7⟩
 .have e:i=es.length:=by omega
  subst e;rw[List.drop_length] at hc;cases hc;rw[List.append_nil] at q;exact .inl ⟨stop,q Dd ys H' (s1.trans ss) (s1.free hD) hDl rd⟩
theorem Ex{scope:Scope}{own:List Str}{kp:List Nat}{kn:List Str}{tg iter elt:Expr}{ifs:List Expr}{it:ak->R (List D)}{t:FT}{c:ak->R Bool}{f:FD}{pos:Pos}(hc:X.calm=true)(C:bG X scope own kp kn)(hi:Fp X tg iter it)
 (hg:∀fp s H,Ew (aW X scope (own++kn) fp s H) tg t) (uL:∀fp s H,nR (aW X scope (own++kn) fp s H) ifs (Es X.K c)) (he:∀fp s H,PD (aW X scope (own++kn) fp s H) elt f)
 (hs:∀x,foldedSetIterable iter X.env x=pure x:=by intro _;rfl):PN X (.ListComp elt [⟨tg,iter,ifs,0⟩] scope pos) (cx it t c f own kp):=
 (zk hc C hi hg uL he hs).imp fun σ H Q h=>uz h
def jB:ak->R Bool:=fun _=> .ok true
theorem Cb:nR X [] (Es X.K jB):=fun pins s σ H Q I ⟨Z,B,δ,b,E,hf,q⟩=>vO pins s σ H Q I (by cases hf;exact q H (aN.refl H))
theorem Fy{c:ak->R Bool}(h:PB X e c):nR X [e] (Es X.K c):=A3 h
theorem vg{i:Nat}{x:Str}{pos' lZ:Pos}{scope:Scope}{own:List Str}{kp:List Nat}{kn:List Str}{tg iter elt:Expr}{ifs:List Expr}{it:ak->R (List D)}{t:FT}{c:ak->R Bool}{f:FD}{pos:Pos}(hc:X.calm=true)
 (hN:X.N.Nodup) (hx:X.N[i]? =some x) (uM:X.env.scope.names.lookup x=some .local) (C:bG X scope own kp kn) (hi:Fp X tg iter it)
 (hg:∀fp s H,Ew (aW X scope (own++kn) fp s H) tg t) (uL:∀fp s H,nR (aW X scope (own++kn) fp s H) ifs (Es X.K c)) (he:∀fp s H,PD (aW X scope (own++kn) fp s H) elt f)
 (rH:swapsWith (.ListComp elt [⟨tg,iter,ifs,0⟩] scope pos) (some (.Name x pos')) lZ.line X.env=pure true:=by rfl)
 (hs:∀x,foldedSetIterable iter X.env x=pure x:=by intro _;rfl):AI X (.Assign [.Name x pos'] (.ListComp elt [⟨tg,iter,ifs,0⟩] scope pos) lZ) (cR i (eNew (cx it t c f own kp))):=
 (nc hc hN hx uM C hi hg uL he rH hs).imp fun D σ H h=>by
   have h1:=Cs h;obtain⟨Z,B,δ,d,E,hf,q⟩:=h1;obtain⟨ds,h2,h3⟩:=R.ag hf;cases h3;refine uz ⟨Z,B,δ,ds,E,h2,fun a xs H' s n e r=>q _ H' s ?_⟩
   unfold Rep;refine⟨a,xs,rfl, .inl ⟨fun ha=>?_, .inl e⟩,r.ba fun b o e nb=>⟨e,fun hb=>nb (List.mem_cons_of_mem _ hb)⟩⟩
   obtain⟨o,ho⟩:=E.bs a ha;rw[n] at ho;cases ho
theorem u0{i:Nat}{x:Str}{pos' lZ:Pos}{scope:Scope}{own:List Str}{kp:List Nat}{kn:List Str}{tg iter elt:Expr}{ifs:List Expr}{it:ak->R (List D)}{t:FT}{c:ak->R Bool}{f:FD}{pos:Pos}(hc:X.calm=true)
 (hN:X.N.Nodup) (hx:X.N[i]? =some x) (uM:X.env.scope.names.lookup x=some .local) (C:bG X scope own kp kn) (hi:Fp X tg iter it)
 (hg:∀fp s H,Ew (aW X scope (own++kn) fp s H) tg t) (uL:∀fp s H,nR (aW X scope (own++kn) fp s H) ifs (Es X.K c)) (he:∀fp s H,PD (aW X scope (own++kn) fp s H) elt f)
 (rH:swapsWith (.ListComp elt [⟨tg,iter,ifs,0⟩] scope pos) (some (.Name x pos')) lZ.line X.env=pure true:=by rfl)
 (hs:∀x,foldedSetIterable iter X.env x=pure x:=by intro _;rfl):AI X (.Assign [.Name x pos'] (.ListComp elt [⟨tg,iter,ifs,0⟩] scope pos) lZ) (mY i (cx it t c f own kp)):=
 (nc hc hN hx uM C hi hg uL he rH hs).imp fun D σ H h=>uz (Bh h)
end
def bW(N:List Str)(ds:List D):ak:=ds.map .val++List.replicate (N.length - ds.length) .un
def qe(N:List Str)(F:FS):List D->R D:=fun ds=>(F (bW N ds)).bind fun o=>match o with | .rt d=> .ok d | .nx _=> .ok .cz
theorem Ge{K:W.Frag}{B:List Addr}{H:Hp}{N:List Str}{ds:List D}{vs:List V}(hB:∀a∈B,∃o,H a=some o)(r:aD K B H ds vs):dq K B B H (start N vs) (bW N ds) where
 len:=by unfold start bW;simp [r.length]
 bs:=hB
 zb:=fun a ha=>ha
 val:=fun i d e=>by
  unfold bW at e;unfold start;by_cases hi:i < ds.length
  .rw [List.getElem?_append_left (by simpa using hi),List.getElem?_map] at e
   cases q:ds[i]? with
   | none=>rw [q] at e;cases e
   | some d'=>
     rw[q] at e;cases e;obtain⟨x,h1,h2⟩:=r.get q;exact⟨x,by rw[List.getElem?_append_left (by rw[List.length_map,<-r.length];exact hi),List.getElem?_map,h1];rfl,h2⟩
  .rw [List.getElem?_append_right (by simpa using hi),List.getElem?_replicate] at e
   split at e <;> cases e
 bld:=fun i es e=>by
  unfold bW at e;by_cases hi:i < ds.length
  .rw [List.getElem?_append_left (by simpa using hi),List.getElem?_map] at e
   cases q:ds[i]? with
   | none=>rw [q] at e;cases e
   | some d'=>rw [q] at e;cases e
  .rw [List.getElem?_append_right (by simpa using hi),List.getElem?_replicate] at e
   split at e <;> cases e
 dis:=fun i j a es fs e=>by
  unfold bW at e;by_cases hi:i < ds.length
  .rw [List.getElem?_append_left (by simpa using hi),List.getElem?_map] at e
   cases q:ds[i]? with
   | none=>rw [q] at e;cases e
   | some d'=>rw [q] at e;cases e
  .rw [List.getElem?_append_right (by simpa using hi),List.getElem?_replicate] at e
   split at e <;> cases e
theorem ET{P:Program}{w:World}{K:W.Frag}{mg:WK}{base:Heap}{x qual:Str}{st:Stmt}{f:Addr}{fd:FuncData}{N ps:List Str}{k:Nat}{F:FS}(Fn:wW K x qual st f fd)(S:bc N ps (aF st))
 (jc:∀(dD:Value) (A:Around) (outer:List Env) (s:Shared) (H:Hp) (E:XK),dP k (A.deeper (envOfC qual (aF st) s.heap.objs.size f dD))->
   pI (jZ rX P w K mg base N qual (aF st) f dD A outer s H E).F1 (aR st) F):f9 P w K mg base rX (k+1) f fd ps (DX K ps.length (qe N F)):=by
 refine Fn.ok S (fun vs H Q E h=>h.1) (fun dD A outer s H vs Q E hr h=>⟨_,jc dD A outer s H E hr,?_⟩)
 obtain⟨_,B,ds,d,hB,r,hg,q⟩:=h;obtain⟨o,h1,h2⟩:=R.ag hg;refine⟨B,B,bW N ds,o,Ge hB r,h1,?_⟩;have sm:∀{B':List Addr} {H':Hp},Ev B B H B' H'->aN H H':=fun {B' H'} ev b u e=>by
  by_cases hb:b∈B
  .exact(ev.zs b u e hb).1
  .exact(ev.ba b u e hb).1
 cases o with
 | nx dC=>
   cases h2;exact fun cG B' H' ev _=>q _ H' (sm ev) (by unfold Rep;rfl)
 | rt d'=>
   cases h2;exact fun v B' H' ev z rr=>q v H' (sm ev) (rr.ba fun b o e nb=>⟨e,fun hb=>nb (z b hb)⟩)
end L2
end
section
namespace L2
open PySem PySem.Spec PyProof.Rows
theorem Rep.int{K:W.Frag}{B:List Addr}{i:Int}{v:V}:Rep K B H (.int i) v↔v= .int i:=by unfold Rep;exact Iff.rfl
theorem Rep.bl{K:W.Frag}{B:List Addr}{i:Bool}{v:V}:Rep K B H (.bl i) v↔v= .bl i:=by unfold Rep;exact Iff.rfl
theorem Rep.str{K:W.Frag}{B:List Addr}{v:V}:Rep K B H (.str i) v↔v= .str i:=by unfold Rep;exact Iff.rfl
theorem Rep.cz{K:W.Frag}{B:List Addr}{v:V}:Rep K B H .cz v↔v= .cz:=by unfold Rep;exact Iff.rfl
theorem Rep.lst{K:W.Frag}{B:List Addr}{ds:List D}{v:V}:Rep K B H (.lst ds) v↔∃a xs,v= .ref a/\uR K B H a xs/\aD K B H ds xs:=by rw[Rep]
theorem Rep.tup{K:W.Frag}{B:List Addr}{ds:List D}{v:V}:Rep K B H (.tup ds) v↔∃a xs,v= .ref a/\vT K B H a xs/\aD K B H ds xs:=by rw[Rep]
section
variable {X:Cx}
theorem ml.of{f:Value->Value->Sem Value}{r:R2}{g:D->D->R D}(h:mz X f r)
 (w:∀(B:List Addr) (H:Hp) (da db d:D) (x y:V) (Q:VK),(∀a∈B,∃o,H a=some o)->Rep X.K B H da x->Rep X.K B H db y->g da db= .ok d->(∀z H',aN H H'->Rep X.K B H' d z->Q z H')->r x y H Q):ml X f g:=by
 intro pins s σ H B da db d x y v u I hb rx ry ra rb hg;exact h pins s σ H x y v u _ I rx ry (w B H da db d x y _ hb ra rb hg fun z H' s1 r1=>⟨s1,r1⟩)
theorem cJ.of{f:Value}{r:List V->Hp->VK->Prop}{g:List D->R D}(h:iI X f r)
 (w:∀(B:List Addr) (H:Hp) (ds:List D) (d:D) (xs:List V) (Q:VK),(∀a∈B,∃o,H a=some o)->aD X.K B H ds xs->g ds= .ok d->(∀z H',aN H H'->Rep X.K B H' d z->Q z H')->r xs H Q):cJ X f g:=by
 intro pins s σ H B ds d xs us I hb rx rs hg;exact h pins s σ H xs us _ I rx (w B H ds d xs _ hb rs hg fun z H' s1 r1=>⟨s1,r1⟩)
theorem cJ.or{f:Value}{g g1 g2:List D->R D}(h1:cJ X f g1)(h2:cJ X f g2)(e:∀a d,g a= .ok d->g1 a= .ok d\/g2 a= .ok d):cJ X f g:=by
 intro pins s σ H B ds d xs us I hb rx rs hg;rcases e ds d hg with q | q
 .exact h1 pins s σ H B ds d xs us I hb rx rs q
 .exact h2 pins s σ H B ds d xs us I hb rx rs q
def DT(C:Int->Int->Bool)(g:Int->Int->Int):D->D->R D
 | .int i, .int j=>R.aS (C i j) (.ok (.int (g i j)))
 | _,_=> .no
theorem yY{f:Value->Value->Sem Value}{C:Int->Int->Bool}{Cp:Int->Int->Prop}{g:Int->Int->Int}(h:mz X f (rI Cp fun i j=> .int (g i j)))(hc:∀i j,C i j=true->Cp i j):ml X f (DT C g):=
 ml.of h fun B H da db d x y Q _ ra rb hg q=>by
  unfold DT at hg;split at hg
  .obtain⟨h1,h2⟩:=R.aO hg;cases h2;exact⟨_,_,Rep.int.mp ra,Rep.int.mp rb,hc _ _ h1,q _ H (aN.refl H) (Rep.int.mpr rfl)⟩
  .cases hg
def Am(g:Int->Int->Int):D->D->R D
 | .int i, .int j=> .ok (.int (g i j))
 | _,_=> .no
theorem Jf{f:Value->Value->Sem Value}{g:Int->Int->Int}(h:mz X f (DW fun i j=> .int (g i j))):ml X f (Am g):=
 ml.of h fun B H da db d x y Q _ ra rb hg q=>by
  unfold Am at hg;split at hg
  .cases hg;exact⟨_,_,Rep.int.mp ra,Rep.int.mp rb,q _ H (aN.refl H) (Rep.int.mpr rfl)⟩
  .cases hg
def Ka(g:Int->Int->Bool):D->D->R D
 | .int i, .int j=> .ok (.bl (g i j))
 | _,_=> .no
theorem yH{f:Value->Value->Sem Value}{g:Int->Int->Bool}(h:mz X f (DW fun i j=> .bl (g i j))):ml X f (Ka g):=
 ml.of h fun B H da db d x y Q _ ra rb hg q=>by
  unfold Ka at hg;split at hg
  .cases hg;exact⟨_,_,Rep.int.mp ra,Rep.int.mp rb,q _ H (aN.refl H) (Rep.bl.mpr rfl)⟩
  .cases hg
abbrev zU:D->D->R D:=Am fun i j=>i - j
theorem zj:ml X (binaryOp .Sub) zU:=Jf Iu
abbrev dH:D->D->R D:=DT (fun _ j=>decide (0 < j/\j < 1073741824)) fun i j=>i / j
theorem i9:ml X (binaryOp .FloorDiv) dH:=yY EW fun i j h=>(of_decide_eq_true h:0 < j/\j < 1073741824)
abbrev dG:D->D->R D:=DT (fun _ j=>decide (0 < j)) fun i j=>i % j
theorem dS:ml X (binaryOp .Mod) dG:=yY JI fun i j h=>of_decide_eq_true h
abbrev z9:D->D->R D:=DT (fun i j=>decide (0<=j/\j<=1000000/\i.natAbs < 2 ^ 64)) fun i j=>i ^ j.toNat
theorem Bb:ml X (binaryOp .Pow) z9:=yY Jv fun i j h=>(of_decide_eq_true h:0<=j/\j<=1000000/\i.natAbs < 2 ^ 64)
abbrev KC:D->D->R D:=DT (fun _ j=>decide (0<=j)) fun i j=>i / 2 ^ j.toNat
theorem KI:ml X (binaryOp .RShift) KC:=yY IK fun i j h=>of_decide_eq_true h
abbrev Ws:D->D->R D:=Am fun i j=>Builtin.bitAnd i j
abbrev V0:D->D->R D:=Am fun i j=>Builtin.bitOr i j
abbrev Wa:D->D->R D:=Am fun i j=>Builtin.bitXor i j
abbrev Kl:D->D->R D:=Ka fun i j=>decide (i < j)
theorem ED:ml X (compareOp .Lt) Kl:=yH Kr
abbrev NA:D->D->R D:=Ka fun i j=>decide (i<=j)
theorem Ox:ml X (compareOp .LtE) NA:=yH Kt
abbrev Io:D->D->R D:=Ka fun i j=>decide (j < i)
theorem CM:ml X (compareOp .Gt) Io:=yH LB
abbrev Hn:D->D->R D:=Ka fun i j=>decide (j<=i)
theorem EU:ml X (compareOp .GtE) Hn:=yH LD
theorem uR.Cz{K:W.Frag}{B:List Addr}{H:Hp}{a:Addr}{xs:List V}(h:H a=some (.lst xs))(n:a ∉ B):uR K B H a xs:= .inl ⟨n, .inl h⟩
theorem Inv.Ee{pins:WD}{s:Shared}{a:Addr}{xs:List V}{B:List Addr}(I:Inv X pins σ H s)(h:uR X.K B H a xs):∃(its:List Value) (n:Nat),Vals xs its/\s.heap.get? a=some {cls:= .type "list",data:= .seq its.toArray n}/\xs.length<=sizeLine:=by
 rcases h with⟨_,h⟩ | ⟨its,n,hk,hz,r⟩
 .obtain⟨z,its,n,r,e⟩:=h.ok I.hok;exact⟨its,n,r,e,z⟩
 .exact⟨its,n,r,I.mS a _ hk,hz⟩
theorem EI:mz X (binaryOp .Add) (fun x y H Q=>∃B l b xs zs,x= .ref l/\y= .ref b/\uR X.K B H l xs/\uR X.K B H b zs/\xs.length+zs.length<=sizeLine/\∀p,H p=none->Q (.ref p) (upd H p (.lst (xs++zs)))):=by
 intro pins s σ H x y v u Q I rx ry h;obtain⟨B,l,b,xs,zs,rfl,rfl,hH,hB,hz,q⟩:=h;cases rx;cases ry;obtain⟨its,n,r,e,_⟩:=I.Ee hH;obtain⟨Gj,n2,r2,e2,_⟩:=I.Ee hB;have l1:=r.length;have l2:=r2.length;refine PySem.P.add_list e e2 ?_ (by rw[List.size_toArray,List.size_toArray];omega)
 have ea:its.toArray++Gj.toArray=(its++Gj).toArray:=by simp
 rw[ea];exact⟨.ref _,_,I.JW (t':=s.toks) (r.append r2) (by rw[List.length_append];omega),rfl,q _ I.fresh⟩
def cN:D->D->R D
 | .int i, .int j=> .ok (.int (i+j))
 | .str a, .str b=>R.aS (decide (a.length+b.length<=sizeLine)) (.ok (.str (a++b)))
 | .lst a, .lst b=>R.aS (decide (a.length+b.length<=sizeLine)) (.ok (.lst (a++b)))
 | _,_=> .no
theorem dj:ml X (binaryOp .Add) cN:=by
 intro pins s σ H B da db d x y v u I hb rx ry ra rb hg;unfold cN at hg;split at hg
 .cases hg;exact Hk pins s σ H x y v u _ I rx ry ⟨_,_,Rep.int.mp ra,Rep.int.mp rb,aN.refl H,Rep.int.mpr rfl⟩
 .obtain⟨h1,h2⟩:=R.aO hg;cases h2;exact xD pins s σ H x y v u _ I rx ry ⟨_,_,Rep.str.mp ra,Rep.str.mp rb,of_decide_eq_true h1,aN.refl H,Rep.str.mpr rfl⟩
 .obtain⟨h1,h2⟩:=R.aO hg;cases h2;obtain⟨a1,UE,rfl,l1,r1⟩:=Rep.lst.mp ra;obtain⟨a2,Vy,rfl,l2,r2⟩:=Rep.lst.mp rb;refine EI pins s σ H _ _ v u _ I rx ry ⟨B,a1,a2,UE,Vy,rfl,rfl,l1,l2,by rw[<-r1.length,<-r2.length];exact of_decide_eq_true h1,fun p hp=>⟨br hp,Rep.lst.mpr ⟨p,_,rfl, .Cz aX fun ha=>?_,(r1.append r2).same (br hp)⟩⟩⟩
  obtain⟨o,ho⟩:=hb p ha;rw[hp] at ho;cases ho
 .cases hg
theorem D7:mz X (binaryOp .Mult) (fun x y H Q=>∃z n,x= .str z/\y= .int n/\MulOk z n/\Q (.str (Txt.mul z n)) H):=by
 intro pins s σ H x y v u Q I rx ry h;obtain⟨z,n,rfl,rfl,hm,q⟩:=h;obtain⟨t,rfl⟩:=rx;obtain⟨t',rfl⟩:=ry;exact SB.mul hm fun t2 k=>⟨.str _,H,I.tok _,⟨_,rfl⟩,q⟩
end
end L2
end
section
namespace L2
open PySem PySem.Spec PyProof.Rows
section
variable {X:Cx}
theorem mulOk_of{x:Str}{n:Int}(h1: -(2 ^ 63)<=n)(h2:n < 2 ^ 63)(h3:x.length*n.toNat<=sizeLine):MulOk x n:=by
 refine⟨by simp only[Bool.or_eq_false_iff,decide_eq_false_iff_not];omega,fun hn _=>?_,fun hn _=>?_⟩
 .have hz:sizeLine=16777216:=sizeLine_eq;have e:(n.toNat:Int)=n:=by omega
  have h4:(x.length:Int)*n<=16777216:=by
   have:((x.length*n.toNat:Nat):Int)<=((16777216:Nat):Int):=Int.ofNat_le.mpr (by omega)
   rw[Int.natCast_mul,e] at this;exact this
  have:(x.length:Int)<=(2 ^ 63 - 1) / n:=(Int.le_ediv_iff_mul_le (by omega)).mpr (by omega)
  omega
 .unfold Builtin.Str.tooLong;exact decide_eq_false (by omega)
def mw:D->D->R D
 | .int i, .int j=>R.aS (decide ((-(2 ^ 64) < i/\i < 2 ^ 64)\/(-(2 ^ 64) < j/\j < 2 ^ 64))) (.ok (.int (i*j)))
 | .str x, .int n=>R.aS (decide (-(2 ^ 63)<=n/\n < 2 ^ 63/\x.length*n.toNat<=sizeLine)) (.ok (.str (Txt.mul x n)))
 | _,_=> .no
theorem rA:ml X (binaryOp .Mult) mw:=by
 intro pins s σ H B da db d x y v u I hb rx ry ra rb hg;unfold mw at hg;split at hg
 .obtain⟨h1,h2⟩:=R.aO hg;cases h2;have h1:=of_decide_eq_true h1;exact JS pins s σ H x y v u _ I rx ry ⟨_,_,Rep.int.mp ra,Rep.int.mp rb,h1,aN.refl H,Rep.int.mpr rfl⟩
 .obtain⟨h1,h2⟩:=R.aO hg;cases h2;have h1:=of_decide_eq_true h1;exact D7 pins s σ H x y v u _ I rx ry ⟨_,_,Rep.str.mp ra,Rep.int.mp rb,mulOk_of h1.1 h1.2.1 h1.2.2,aN.refl H,Rep.str.mpr rfl⟩
 .cases hg
mutual
def toPy:D->PyData
 | .cz=> .none
 | .bl b=> .bool b
 | .int i=> .int i
 | .str x=> .str x
 | .lst ds=> .list (i4 ds)
 | .tup ds=> .tuple (i4 ds)
 | .dct _ _=> .dict []
def i4:List D->List PyData
 | []=>[]
 | d ::ds=>toPy d ::i4 ds
end
mutual
def cA:D->Bool
 | .dct _ _=>false
 | .lst ds=>fD ds
 | .tup ds=>fD ds
 | _=>true
def fD:List D->Bool
 | []=>true
 | d ::ds=>cA d && fD ds
end
mutual
theorem Rep.reads{pins:WD}{s:Shared}{B:List Addr}(I:Inv X pins σ H s):∀{d:D} {v:V} {u:Value},cA d=true->Rep X.K B H d v->RelV v u->∃as,Reads s.heap u (toPy d) as
 | .cz,v,u,_,r,q=>by rw[Rep.cz.mp r] at q;cases q;unfold toPy;exact⟨_, .none⟩
 | .bl b,v,u,_,r,q=>by rw[Rep.bl.mp r] at q;cases q;unfold toPy;exact⟨_, .bool b⟩
 | .int i,v,u,_,r,q=>by rw[Rep.int.mp r] at q;obtain⟨t,rfl⟩:=q;unfold toPy;exact⟨_, .int i t⟩
 | .str x,v,u,_,r,q=>by rw[Rep.str.mp r] at q;obtain⟨t,rfl⟩:=q;unfold toPy;exact⟨_, .str x t⟩
 | .lst ds,v,u,hp,r,q=>by
   obtain⟨a,xs,rfl,l,rs⟩:=Rep.lst.mp r;cases q;obtain⟨its,rv,⟨o,n,e,hc,hd,he⟩,_⟩:=I.list l.sq;obtain⟨as,ra⟩:=aD.reads I (by unfold cA at hp;exact hp) rs rv
   unfold toPy;exact⟨_, .list e hc he (by simpa using ra)⟩
 | .tup ds,v,u,hp,r,q=>by
   obtain⟨a,xs,rfl,l,rs⟩:=Rep.tup.mp r;cases q;obtain⟨its,rv,⟨o,e,hc,n,hd⟩,_⟩:=I.tuple l.sq;obtain⟨as,ra⟩:=aD.reads I (by unfold cA at hp;exact hp) rs rv
   unfold toPy;exact⟨_, .tuple e hc hd (by simpa using ra)⟩
 | .dct _ _,v,u,hp,r,q=>by unfold cA at hp;cases hp
theorem aD.reads{pins:WD}{s:Shared}{B:List Addr}(I:Inv X pins σ H s):∀{ds:List D} {vs:List V} {us:List Value},fD ds=true->aD X.K B H ds vs->Vals vs us->∃as,ReadsAll s.heap us (i4 ds) as
 | [],vs,us,_,r,q=>by unfold aD at r;subst r;cases q;unfold i4;exact⟨_, .nil⟩
 | d ::ds,vs,us,hp,r,q=>by
   obtain⟨x,xs,rfl,r1,r2⟩:=r.b6;cases q with
   | cons q1 q2=>
     unfold fD at hp;obtain⟨h1,h2⟩:=Bool.and_eq_true_iff.mp hp;obtain⟨as,a1⟩:=Rep.reads I h1 r1 q1;obtain⟨bs,a2⟩:=aD.reads I h2 r2 q2;unfold i4;exact⟨_, .cons a1 a2⟩
end
def DV:D->D->R Bool
 | .int i, .int j=> .ok (decide (i=j))
 | .str x, .str y=> .ok (decide (x=y))
 | .bl a, .bl b=> .ok (decide (a=b))
 | d,e=>R.aS (cA d && cA e && SeqAt.shaped (toPy d) && SeqAt.shaped (toPy e)) (.ok (PyData.eqv (toPy d) (toPy e)))
def pF(d e:D):R D:=(DV d e).bind fun b=> .ok (.bl b)
def yN(d e:D):R D:=(DV d e).bind fun b=> .ok (.bl (!b))
theorem m5(hu:X.A.units+64 < cLine):ml X (compareOp .Eq) pF:=by
 intro pins s σ H B da db d x y v u I hb rx ry ra rb hg;obtain⟨b,h1,h2⟩:=R.ag hg;cases h2;unfold DV at h1;split at h1
 .cases h1;rename_i i j;have:=Cm pins s σ H x y v u (fun z H'=>aN H H'/\Rep X.K B H' (.bl (decide (i=j))) z) I rx ry
  rw[Rep.int.mp ra,Rep.int.mp rb] at this;refine this ⟨rfl,aN.refl H,Rep.bl.mpr ?_⟩;simp [V.int.injEq]
 .cases h1;rename_i i j;have:=Cm pins s σ H x y v u (fun z H'=>aN H H'/\Rep X.K B H' (.bl (decide (i=j))) z) I rx ry
  rw[Rep.str.mp ra,Rep.str.mp rb] at this;refine this ⟨rfl,aN.refl H,Rep.bl.mpr ?_⟩;simp [V.str.injEq]
 .cases h1;rename_i i j;have:=Cm pins s σ H x y v u (fun z H'=>aN H H'/\Rep X.K B H' (.bl (decide (i=j))) z) I rx ry
  rw[Rep.bl.mp ra,Rep.bl.mp rb] at this;refine this ⟨rfl,aN.refl H,Rep.bl.mpr ?_⟩;simp [V.bl.injEq]
 .obtain⟨h3,h4⟩:=R.aO h1;cases h4;simp only[Bool.and_eq_true] at h3;obtain⟨⟨⟨p1,p2⟩,s1⟩,s2⟩:=h3;obtain⟨as,r1⟩:=ra.reads I p1 rx;obtain⟨bs,r2⟩:=rb.reads I p2 ry;exact eq_dataH r1 r2 s1 s2 hu ⟨.bl _,H,I,rfl,aN.refl H,Rep.bl.mpr rfl⟩
theorem Dj(hu:X.A.units+64 < cLine):ml X (compareOp .NotEq) yN:=by
 intro pins s σ H B da db d x y v u I hb rx ry ra rb hg;obtain⟨b,h1,h2⟩:=R.ag hg;cases h2;unfold DV at h1;split at h1
 .cases h1;rename_i i j;have:=De pins s σ H x y v u (fun z H'=>aN H H'/\Rep X.K B H' (.bl (!decide (i=j))) z) I rx ry
  rw[Rep.int.mp ra,Rep.int.mp rb] at this;refine this ⟨rfl,aN.refl H,Rep.bl.mpr ?_⟩;simp [V.int.injEq]
 .cases h1;rename_i i j;have:=De pins s σ H x y v u (fun z H'=>aN H H'/\Rep X.K B H' (.bl (!decide (i=j))) z) I rx ry
  rw[Rep.str.mp ra,Rep.str.mp rb] at this;refine this ⟨rfl,aN.refl H,Rep.bl.mpr ?_⟩;simp [V.str.injEq]
 .cases h1;rename_i i j;have:=De pins s σ H x y v u (fun z H'=>aN H H'/\Rep X.K B H' (.bl (!decide (i=j))) z) I rx ry
  rw[Rep.bl.mp ra,Rep.bl.mp rb] at this;refine this ⟨rfl,aN.refl H,Rep.bl.mpr ?_⟩;simp [V.bl.injEq]
 .obtain⟨h3,h4⟩:=R.aO h1;cases h4;simp only[Bool.and_eq_true] at h3;obtain⟨⟨⟨p1,p2⟩,s1⟩,s2⟩:=h3;obtain⟨as,r1⟩:=ra.reads I p1 rx;obtain⟨bs,r2⟩:=rb.reads I p2 ry;exact ne_dataH r1 r2 s1 s2 hu ⟨.bl _,H,I,rfl,aN.refl H,Rep.bl.mpr rfl⟩
def strs?:List D->Option (List Str)
 | []=>some []
 | .str x ::ds=>(strs? ds).map (x ::·)
 | _ ::_=>none
theorem iC{K:W.Frag}{B:List Addr}:∀{ds:List D} {xs:List V} {ss:List Str},aD K B H ds xs->strs? ds=some ss->xs=ss.map V.str
 | [],xs,ss,r,h=>by unfold aD at r;subst r;cases h;rfl
 | d ::ds,xs,ss,r,h=>by
   obtain⟨x,r',rfl,r1,r2⟩:=r.b6;cases d with
   | str z=>
     unfold strs? at h;cases e:strs? ds with
     | none=>rw [e] at h;cases h
     | some tt=>
       rw[e] at h;cases h;rw[Rep.str.mp r1,iC r2 e];rfl
   | _=>cases h
def ints?:List D->Option (List Int)
 | []=>some []
 | .int x ::ds=>(ints? ds).map (x ::·)
 | _ ::_=>none
theorem eY{K:W.Frag}{B:List Addr}:∀{ds:List D} {xs:List V} {ss:List Int},aD K B H ds xs->ints? ds=some ss->xs=ss.map V.int
 | [],xs,ss,r,h=>by unfold aD at r;subst r;cases h;rfl
 | d ::ds,xs,ss,r,h=>by
   obtain⟨x,r',rfl,r1,r2⟩:=r.b6;cases d with
   | int z=>
     unfold ints? at h;cases e:ints? ds with
     | none=>rw [e] at h;cases h
     | some tt=>
       rw[e] at h;cases h;rw[Rep.int.mp r1,eY r2 e];rfl
   | _=>cases h
def inD(d e:D):R Bool:=match d,e with
 | .str x, .lst ds=>(match strs? ds with | some ss=> .ok (ss.contains x) | none=> .no)
 | .str x, .tup ds=>(match strs? ds with | some ss=> .ok (ss.contains x) | none=> .no)
 | .str x, .str y=> .ok (!(Builtin.Str.occurrences y x 0 y.length 1).isEmpty)
 | .int x, .lst ds=>(match ints? ds with | some ss=> .ok (ss.contains x) | none=> .no)
 | .int x, .tup ds=>(match ints? ds with | some ss=> .ok (ss.contains x) | none=> .no)
 | _,_=> .no
def yt(d e:D):R D:=(inD d e).bind fun b=> .ok (.bl b)
def jy(d e:D):R D:=(inD d e).bind fun b=> .ok (.bl (!b))
theorem qk(x:Str):∀ss:List Str,Gz (.str x) (ss.map V.str)=ss.contains x
 | []=>rfl
 | y ::ss=>by
   unfold Gz;rw[List.map_cons,List.any_cons];have ih:=qk x ss;unfold Gz at ih;rw[ih];show(y==x || ss.contains x)=_
   rw[List.contains_cons];congr 1;exact Bool.eq_iff_iff.mpr ⟨fun h=>by simpa using(beq_iff_eq.mp h).symm,fun h=>by simpa using(beq_iff_eq.mp h).symm⟩
theorem rC(x:Int):∀ss:List Int,Gz (.int x) (ss.map V.int)=ss.contains x
 | []=>rfl
 | y ::ss=>by
   unfold Gz;rw[List.map_cons,List.any_cons];have ih:=rC x ss;unfold Gz at ih;rw[ih];show(y==x || ss.contains x)=_
   rw[List.contains_cons];congr 1;exact Bool.eq_iff_iff.mpr ⟨fun h=>by simpa using(beq_iff_eq.mp h).symm,fun h=>by simpa using(beq_iff_eq.mp h).symm⟩
theorem se(ss:List Int):(ss.map V.int).all kM=true:=by
 rw[List.all_map];simp [List.all_eq_true,kM]
theorem sg(ss:List Str):(ss.map V.str).all kM=true:=by
 rw[List.all_map];simp [List.all_eq_true,kM]
theorem BR{neg:Bool}{op:CmpOp}{g:D->D->R D}(h1:mz X (compareOp op) (Nj X.K neg))(h2:mz X (compareOp op) (fun x y H Q=>∃i j,x= .str i/\y= .str j/\Q (.bl (if neg then !(!(Builtin.Str.occurrences j i 0 j.length 1).isEmpty) else(!(Builtin.Str.occurrences j i 0 j.length 1).isEmpty))) H))
 (hg:∀d e r,g d e= .ok r->∃b,inD d e= .ok b/\r= .bl (if neg then !b else b)):ml X (compareOp op) g:=by
 intro pins s σ H B da db d x y v u I hb rx ry ra rb hg';obtain⟨b,hi,rfl⟩:=hg da db d hg';unfold inD at hi;split at hi
 .rename_i z ds;split at hi
  .rename_i ss e;cases hi;obtain⟨a,xs,rfl,l,rs⟩:=Rep.lst.mp rb;refine h1 pins s σ H x _ v u _ I rx ry ⟨a,xs,rfl, .inl l.sq,by rw[Rep.str.mp ra];rfl,by rw[iC rs e];exact sg _,aN.refl H,Rep.bl.mpr ?_⟩
   rw[iC rs e,Rep.str.mp ra,qk]
  .cases hi
 .rename_i z ds;split at hi
  .rename_i ss e;cases hi;obtain⟨a,xs,rfl,l,rs⟩:=Rep.tup.mp rb;refine h1 pins s σ H x _ v u _ I rx ry ⟨a,xs,rfl, .inr l.sq,by rw[Rep.str.mp ra];rfl,by rw[iC rs e];exact sg _,aN.refl H,Rep.bl.mpr ?_⟩
   rw[iC rs e,Rep.str.mp ra,qk]
  .cases hi
 .cases hi;exact h2 pins s σ H x y v u _ I rx ry ⟨_,_,Rep.str.mp ra,Rep.str.mp rb,aN.refl H,Rep.bl.mpr rfl⟩
 .rename_i z ds;split at hi
  .rename_i ss e;cases hi;obtain⟨a,xs,rfl,l,rs⟩:=Rep.lst.mp rb;refine h1 pins s σ H x _ v u _ I rx ry ⟨a,xs,rfl, .inl l.sq,by rw[Rep.int.mp ra];rfl,by rw[eY rs e];exact se _,aN.refl H,Rep.bl.mpr ?_⟩
   rw[eY rs e,Rep.int.mp ra,rC]
  .cases hi
 .rename_i z ds;split at hi
  .rename_i ss e;cases hi;obtain⟨a,xs,rfl,l,rs⟩:=Rep.tup.mp rb;refine h1 pins s σ H x _ v u _ I rx ry ⟨a,xs,rfl, .inr l.sq,by rw[Rep.int.mp ra];rfl,by rw[eY rs e];exact se _,aN.refl H,Rep.bl.mpr ?_⟩
   rw[eY rs e,Rep.int.mp ra,rC]
  .cases hi
 .cases hi
theorem z_:ml X (compareOp .In) yt:=BR (neg:=false) z7 Ai fun d e r h=>by
 obtain⟨b,h1,h2⟩:=R.ag h;cases h2;exact⟨b,h1,rfl⟩
theorem qa:ml X (compareOp .NotIn) jy:=BR (neg:=true) uy tZ fun d e r h=>by
 obtain⟨b,h1,h2⟩:=R.ag h;cases h2;exact⟨b,h1,rfl⟩
def df(d e:D):R D:=match d,e with
 | .lst ds, .int i=>(match sI ds i with | some x=> .ok x | none=> .no)
 | .tup ds, .int i=>(match sI ds i with | some x=> .ok x | none=> .no)
 | .str x, .int i=>R.aS (decide (x.length<=sizeLine)) (match sI x.cps.toList i with | some c=> .ok (.str ⟨#[c]⟩) | none=> .no)
 | _,_=> .no
theorem vG{K:W.Frag}{B:List Addr}{ds:List D}{xs:List V}{i:Int}{d:D}(r:aD K B H ds xs)(h:sI ds i=some d):∃x,sI xs i=some x/\Rep K B H d x:=by
 unfold sI at h ⊢;rw[<-r.length];cases e:CK ds.length i with
 | none=>rw [e] at h;cases h
 | some j=>
   rw[e] at h;exact r.get h
theorem L_(ha:PD X a fa)(hb:PD X b fb)(hs:uC b):PD X (.Subscript a b pos) (e2 df fa fb):=by
 refine(Ln (r:=Qr X.K) Hq ha hb hs).imp fun σ H Q ⟨Z,B,δ,d,E,hf,q⟩=>?_
 obtain⟨d1,h1,h2⟩:=R.ag hf;obtain⟨d2,h3,h4⟩:=R.ag h2;refine⟨Z,B,δ,d1,E,h1,fun v1 H1 s1 r1=>⟨Z,B,δ,d2,E.same s1,h3,fun v2 H2 s2 r2=>?_⟩⟩
 have zD:=r1.same s2;unfold df at h4;split at h4
 .split at h4
  .rename_i e;cases h4;obtain⟨p,xs,rfl,l,rs⟩:=Rep.lst.mp zD;obtain⟨y,e1,e2⟩:=vG rs e;exact .inl ⟨p,xs,_,y,rfl,Rep.int.mp r2,l.sq,e1,q y H2 (s1.trans s2) e2⟩
  .cases h4
 .split at h4
  .rename_i e;cases h4;obtain⟨p,xs,rfl,l,rs⟩:=Rep.tup.mp zD;obtain⟨y,e1,e2⟩:=vG rs e;exact .inr (.inl ⟨p,xs,_,y,rfl,Rep.int.mp r2,l.sq,e1,q y H2 (s1.trans s2) e2⟩)
  .cases h4
 .obtain⟨hl,h5⟩:=R.aO h4;split at h5
  .rename_i e;cases h5;exact .inr (.inr ⟨_,_,_,Rep.str.mp zD,Rep.int.mp r2,of_decide_eq_true hl,e,q _ H2 (s1.trans s2) (Rep.str.mpr rfl)⟩)
  .cases h5
 .cases h4
abbrev FO:=ak->R (Option Int)
def SV(K:W.Frag)(f:FO):TO:=fun σ H Q=>∃Z B δ o,dq K Z B H σ δ/\f δ= .ok o/\∀H',aN H H'->Q o H'
theorem PO.imp{X:Cx}{e:Option Expr}{t t':TO}(h:PO X e t)(w:∀σ H Q,t' σ H Q->t σ H Q):PO X e t':=fun pins s σ H Q I hq=>h pins s σ H Q I (w σ H Q hq)
abbrev PP(X:Cx)(e:Option Expr)(f:FO):Prop:=PO X e (SV X.K f)
def kL:FO:=fun _=> .ok none
def ib(f:FD):FO:=fun δ=>(f δ).bind fun d=>match d with | .int i=> .ok (some i) | _=> .no
theorem EC:PP X none kL:=EB.imp fun σ H Q ⟨Z,B,δ,o,E,hf,q⟩=>by cases hf;exact q H (aN.refl H)
theorem Eb(h:PD X e f):PP X (some e) (ib f):=(EX h).imp fun σ H Q ⟨Z,B,δ,o,E,hf,q⟩=>by
 obtain⟨d,h1,h2⟩:=R.ag hf;cases d with
 | int i=>cases h2;exact⟨Z,B,δ, .int i,E,h1,fun v H1 s1 r1=>⟨i,Rep.int.mp r1,q H1 s1⟩⟩
 | _=>cases h2
theorem HN:JV X (fun x lo hi H Q=>∃z,x= .str z/\z.length<=sizeLine/\Q (.str (Txt.slice z lo hi)) H):=by
 intro pins s σ H x v vl vu lo hi sl Q I rx hs pl pu h;obtain⟨z,rfl,hz,q⟩:=h;obtain⟨t,rfl⟩:=rx;refine⟨"str",_,F.slot_str_getitem.lookup,typeIs_str _ _ _,?_⟩;have fin:∀t' k,EP X pins σ Q (.str (Txt.slice z lo hi) t') {s with toks:=k}:=fun t' k=>⟨.str _,H,I.tok _,⟨_,rfl⟩,q⟩
 obtain⟨o,ho,hc,hd⟩:=hs;cases pl with
 | none=>
   cases pu with
   | none=>exact wpAny_getItem_str_slice (l:=none) (u:=none) (st:=none) ⟨o,ho,hc,hd⟩ rfl (post_val_or_str ⟨Nat.le_trans (Txt.slice_le z _ _) hz,fin⟩)
   | int j u=>exact wpAny_getItem_str_slice (l:=none) (u:=some (j,u)) (st:=none) ⟨o,ho,hc,hd⟩ rfl (post_val_or_str ⟨Nat.le_trans (Txt.slice_le z _ _) hz,fin⟩)
 | int i t1=>
   cases pu with
   | none=>exact wpAny_getItem_str_slice (l:=some (i,t1)) (u:=none) (st:=none) ⟨o,ho,hc,hd⟩ rfl (post_val_or_str ⟨Nat.le_trans (Txt.slice_le z _ _) hz,fin⟩)
   | int j u=>exact wpAny_getItem_str_slice (l:=some (i,t1)) (u:=some (j,u)) (st:=none) ⟨o,ho,hc,hd⟩ rfl (post_val_or_str ⟨Nat.le_trans (Txt.slice_le z _ _) hz,fin⟩)
def cutD{α:Type}(xs:List α)(lo hi:Option Int):List α:=(xs.drop (HT.p7 xs.length 0 lo)).take (HT.p7 xs.length xs.length hi - HT.p7 xs.length 0 lo)
def GS(d:D)(lo hi:Option Int):R D:=match d with
 | .str x=>R.aS (decide (x.length<=sizeLine)) (.ok (.str (Txt.slice x lo hi)))
 | .lst ds=> .ok (.lst (cutD ds lo hi))
 | _=> .no
theorem CP{K:W.Frag}{B:List Addr}{ds:List D}{xs:List V}(r:aD K B H ds xs)(lo hi:Option Int):aD K B H (cutD ds lo hi) (xZ xs lo hi):=by
 unfold cutD xZ;rw[<-r.length];exact(r.drop _).take _
def xK(f:FD)(fl fh:FO):FD:=fun δ=>(f δ).bind fun d=>(fl δ).bind fun lo=>(fh δ).bind fun hi=>GS d lo hi
theorem Ld{lo hi:Option Expr}{fl fh:FO}(he:PD X e f)(hl:PP X lo fl)(hh:PP X hi fh):PD X (.Subscript e (.Slice lo hi none p2) pos) (xK f fl fh):=by
 refine(BN (HN.or E5) he hl hh).imp fun σ H Q ⟨Z,B,δ,d,E,hf,q⟩=>?_
 obtain⟨d1,h1,h2⟩:=R.ag hf;obtain⟨l,h3,h4⟩:=R.ag h2;obtain⟨h,h5,h6⟩:=R.ag h4;refine⟨Z,B,δ,d1,E,h1,fun v1 H1 s1 r1=>⟨Z,B,δ,l,E.same s1,h3,fun H2 s2=>⟨Z,B,δ,h,(E.same s1).same s2,h5,fun H3 s3=>?_⟩⟩⟩
 have sA:aN H H3:=s1.trans (s2.trans s3);have zD:=r1.same (s2.trans s3);unfold GS at h6;split at h6
 .obtain⟨hz,h7⟩:=R.aO h6;cases h7;exact .inl ⟨_,Rep.str.mp zD,of_decide_eq_true hz,q _ H3 sA (Rep.str.mpr rfl)⟩
 .cases h6;obtain⟨a,xs,rfl,ls,rs⟩:=Rep.lst.mp zD;refine .inr ⟨a,xs,rfl,ls.sq,fun p hp=>q _ _ (sA.trans (br hp)) (Rep.lst.mpr ⟨p,_,rfl, .Cz aX fun ha=>?_,(CP rs l h).same (br hp)⟩)⟩
  obtain⟨o,ho⟩:=(E.same sA).bs p ha;rw[hp] at ho;cases ho
 .cases h6
end
end L2
end
section
namespace L2
open PySem PySem.Spec PyProof.Rows
section
variable {X:Cx}
theorem aD.one{K:W.Frag}{B:List Addr}{d:D}{xs:List V}(h:aD K B H [d] xs):∃x,xs=[x]/\Rep K B H d x:=by
 obtain⟨x,r,rfl,h1,h2⟩:=h.b6;unfold aD at h2;subst h2;exact⟨x,rfl,h1⟩
theorem aD.two{K:W.Frag}{B:List Addr}{d e:D}{xs:List V}(h:aD K B H [d,e] xs):∃x y,xs=[x,y]/\Rep K B H d x/\Rep K B H e y:=by
 obtain⟨x,r,rfl,h1,h2⟩:=h.b6;obtain⟨y,rfl,h3⟩:=h2.one;exact⟨x,y,rfl,h1,h3⟩
def fN:List D->R D
 | [.str x]=>R.aS (decide (x.length<=sizeLine)) (.ok (.int x.length))
 | [.lst ds]=> .ok (.int ds.length)
 | [.tup ds]=> .ok (.int ds.length)
 | _=> .no
theorem fu:cJ X (.builtin "len") fN:=cJ.of A7 fun B H ds d xs Q _ rs hg q=>by
 unfold fN at hg;split at hg
 .obtain⟨h1,h2⟩:=R.aO hg;cases h2;obtain⟨x,rfl,r⟩:=rs.one;exact⟨x,_,rfl,by rw[Rep.str.mp r];exact⟨of_decide_eq_true h1,rfl⟩,q _ H (aN.refl H) (Rep.int.mpr rfl)⟩
 .cases hg;obtain⟨x,rfl,r⟩:=rs.one;obtain⟨a,ys,rfl,l,r⟩:=Rep.lst.mp r;exact⟨_,_,rfl, .inl ⟨ys,l.sq,rfl⟩,q _ H (aN.refl H) (Rep.int.mpr (by rw[r.length]))⟩
 .cases hg;obtain⟨x,rfl,r⟩:=rs.one;obtain⟨a,ys,rfl,l,r⟩:=Rep.tup.mp r;exact⟨_,_,rfl, .inr ⟨ys,l.sq,rfl⟩,q _ H (aN.refl H) (Rep.int.mpr (by rw[r.length]))⟩
 .cases hg
def cInt:List D->R D
 | [.int i]=> .ok (.int i)
 | [.bl b]=> .ok (.int (if b then 1 else 0))
 | _=> .no
theorem LY:cJ X (.type "int") cInt:=cJ.of Av fun B H ds d xs Q _ rs hg q=>by
 unfold cInt at hg;split at hg
 .cases hg;obtain⟨x,rfl,r⟩:=rs.one;exact .inl ⟨_,by rw[Rep.int.mp r],q _ H (aN.refl H) (Rep.int.mpr rfl)⟩
 .cases hg;obtain⟨x,rfl,r⟩:=rs.one;exact .inr ⟨_,by rw[Rep.bl.mp r],q _ H (aN.refl H) (Rep.int.mpr rfl)⟩
 .cases hg
def cStr:List D->R D
 | [.int i]=>R.aS (decide (i.natAbs.log2 < 1920)) (.ok (.str (toString i)))
 | _=> .no
theorem LJ:cJ X (.type "str") cStr:=cJ.of uG fun B H ds d xs Q _ rs hg q=>by
 unfold cStr at hg;split at hg
 .obtain⟨h1,h2⟩:=R.aO hg;cases h2;obtain⟨x,rfl,r⟩:=rs.one;exact⟨_,by rw[Rep.int.mp r],of_decide_eq_true h1,q _ H (aN.refl H) (Rep.str.mpr rfl)⟩
 .cases hg
def A8:List D->R D
 | [.int i, .int j]=> .ok (.int (if j < i then j else i))
 | _=> .no
theorem K2(hc:X.calm=true):cJ X (.builtin "min") A8:=cJ.of (Ax hc) fun B H ds d xs Q _ rs hg q=>by
 unfold A8 at hg;split at hg
 .cases hg;obtain⟨x,y,rfl,r1,r2⟩:=rs.two;exact⟨_,_,by rw[Rep.int.mp r1,Rep.int.mp r2],q _ H (aN.refl H) (Rep.int.mpr rfl)⟩
 .cases hg
def NJ:List D->R D
 | [.int i, .int j]=> .ok (.int (if j > i then j else i))
 | _=> .no
def um:List D->R D
 | [.lst ds]=> .ok (.tup ds)
 | [.tup ds]=> .ok (.tup ds)
 | _=> .no
theorem yC:cJ X (.type "tuple") um:=cJ.of r6 fun B H ds d xs Q hb rs hg q=>by
 unfold um at hg;split at hg
 .cases hg;obtain⟨x,rfl,r⟩:=rs.one;obtain⟨a,ys,rfl,l,r⟩:=Rep.lst.mp r;refine⟨a,ys,rfl, .inl ⟨l.sq,fun p hp=>q _ _ (br hp) (Rep.tup.mpr ⟨p,ys,rfl, .inl ⟨fun ha=>?_, .inl aX⟩,r.same (br hp)⟩)⟩⟩
  obtain⟨o,ho⟩:=hb p ha;rw[hp] at ho;cases ho
 .cases hg;obtain⟨x,rfl,r⟩:=rs.one;have r0:=r;obtain⟨a,ys,rfl,l,r⟩:=Rep.tup.mp r;exact⟨a,ys,rfl, .inr ⟨l.sq,q _ H (aN.refl H) r0⟩⟩
 .cases hg
def QY:List D->R D
 | [.lst ds]=> .ok (.lst ds)
 | [.tup ds]=> .ok (.lst ds)
 | _=> .no
def cAbs:List D->R D
 | [.int i]=> .ok (.int (if i < 0 then -i else i))
 | _=> .no
def Hr:List D->R D
 | [.lst ds]=>(match ints? ds with | some ns=> .ok (.int ns.sum) | none=> .no)
 | _=> .no
theorem gC:∀{ns:List Int} {us:List Value},Vals (ns.map V.int) us->∃l:List (Int × Tok),us=l.map (fun p=>Value.int p.1 p.2)/\l.map (·.1)=ns
 | [],_, .nil=>⟨[],rfl,rfl⟩
 | n ::ns,_, .cons r t=>by
   obtain⟨l,rfl,e⟩:=gC t;obtain⟨tk,rfl⟩:=r;exact⟨(n,tk) ::l,rfl,by rw[List.map_cons,e]⟩
theorem K0(hc:X.calm=true):cJ X (.builtin "sum") Hr:=by
 intro pins s σ H B ds d xs us I hb rx rs hg;unfold Hr at hg;split at hg
 .split at hg
  .rename_i es ns e;cases hg;obtain⟨x,rfl,r⟩:=rs.one;obtain⟨a,ys,rfl,l,r⟩:=Rep.lst.mp r;obtain⟨u,rfl,ru⟩:=vals1 rx;cases ru;obtain⟨its,n,rv,e1,hz⟩:=I.Ee l;rw[eY r e] at rv;obtain⟨ps,rfl,rfl⟩:=gC rv;have hl:s.heap.IsList a (intItems ps.toArray):=⟨_,e1,rfl,n,by simp [intItems]⟩
   refine sum_intListG (I.ok.hd hc) hl fun h' tk t' k=>⟨.int _,H,I.kept k,⟨t',rfl⟩,aN.refl H,Rep.int.mpr ?_⟩
   rw[preSum_eq,List.take_of_length_le (by simp)]
  .cases hg
 .cases hg
def tyName:D->String
 | .cz=>"NoneType" | .bl _=>"bool" | .int _=>"int" | .str _=>"str" | .lst _=>"list" | .tup _=>"tuple" | .dct _ _=>"dict"
def SJ(T:String)(f:FD):FD:=fun δ=>(f δ).bind fun d=>R.aS (tyName d==T && d.atom) (.ok (.bl true))
def Kg(X:Cx)(id:String)(g:D->List D->R D):Prop:=
 ∀(pins:WD) (s:Shared) (σ:St) (H:Hp) (B:List Addr) (da d:D) (ds:List D) (x:V) (xs:List V) (v:Value) (us:List Value),Inv X pins σ H s->(∀a∈B,∃o,H a=some o)->RelV x v->Vals xs us->Rep X.K B H da x->aD X.K B H ds xs->g da ds= .ok d->
  wpAny (model X.prog X.w) X.A (call (.builtin id) (v ::us)) (EP X pins σ fun z H'=>aN H H'/\Rep X.K B H' d z) X.xe s
def wL(T:String)(g:D->List D->R D)(f:FD)(fs:ak->R (List D)):FD:=fun δ=>(f δ).bind fun d=>R.aS (tyName d==T && (d.atom || T=="list")) ((fs δ).bind fun ds=>g d ds)
theorem Kg.r{id:String}{g:D->List D->R D}(h:Kg X id g):QF X id (fun x xs H Q=>∃B da ds d,(∀a∈B,∃o,H a=some o)/\Rep X.K B H da x/\aD X.K B H ds xs/\g da ds= .ok d/\∀z H',aN H H'->Rep X.K B H' d z->Q z H'):=by
 intro pins s σ H x xs v us Q I rx rxs ⟨B,da,ds,d,hb,ra,rs,hg,q⟩;exact cO (h pins s σ H B da d ds x xs v us I hb rx rxs ra rs hg) fun z s' ⟨zv,H',I',r',s1,r1⟩=>⟨zv,H',I',r',q zv H' s1 r1⟩
theorem Bt{T id:String}{name:Str}{g:D->List D->R D}{o e:Expr}{es:List Expr}{f:FD}{fs:ak->R (List D)}{apos aZ:Pos}(pa:PlainAttrs T)(slot:Slot T name id)(D1:typeOf (.builtin id)=pure (.type "method_descriptor"))(hm:Kg X id g)(ho:PD X o f)(ha:AJ X (e ::es) fs)
 (hT:T="str"\/T="int"\/T="list")
 (eP:attributeBase o name X.env (eval o X.env)=eval o X.env:=by rfl)
 (jD:((backTo aZ (starEach (e ::es) X.env)).all (fun x=>!x.1) && (backToKw aZ (keywordEach [] X.env)).all (fun x=>x.1.isSome)
   && decide ((e ::es).length+([]:List Keyword).length+(if([]:List Keyword).isEmpty then 0 else 1) < 30))=true:=by rfl)
 (eO:(apos.endLine==aZ.line)=true:=by rfl) (hs:starEach (e ::es) X.env=(false,eval e X.env) ::starEach es X.env:=by rfl) (yj:(backTo aZ (starEach es X.env)).any (·.1)=false:=by rfl) :
 PD X (.Call (.Attribute o name apos) (e ::es) [] aZ) (wL T g f fs):=by
 refine(wg pa slot D1 hm.r ho ha eP jD eO hs yj).imp fun σ H Q ⟨Z,B,δ,d,E,hf,q⟩=>?_
 obtain⟨d1,h1,h2⟩:=R.ag hf;obtain⟨h3,h4⟩:=R.aO h2;obtain⟨ds,h5,h6⟩:=R.ag h4;obtain⟨h7,h8⟩:=Bool.and_eq_true_iff.mp h3;have h7:tyName d1=T:=by simpa using h7
 refine⟨Z,B,δ,d1,E,h1,fun v1 H1 s1 r1=>⟨?_,Z,B,δ,ds,E.same s1,h5,fun vs H2 s2 r2=>⟨B,d1,ds,d,(E.same (s1.trans s2)).bs,r1.same s2,r2,h6,fun z H' s3 r3=>q z H' (s1.trans (s2.trans s3)) r3⟩⟩⟩
 cases d1 with
 | str z=>rw [Rep.str.mp r1];exact h7.symm
 | int i=>rw [Rep.int.mp r1];exact h7.symm
 | lst es=>obtain⟨a,xs,rfl,l,_⟩:=Rep.lst.mp r1;exact .inl ⟨h7.symm,xs,l.sq⟩
 | cz=>rcases hT with z | z | z <;> (rw [z] at h7;exact absurd (show("NoneType":String)=_ from h7) (by decide))
 | bl _=>rcases hT with z | z | z <;> (rw [z] at h7;exact absurd (show("bool":String)=_ from h7) (by decide))
 | tup _=>rcases hT with z | z | z <;> (rw [z] at h7;exact absurd (show("tuple":String)=_ from h7) (by decide))
 | dct _ _=>rcases hT with z | z | z <;> (rw [z] at h7;exact absurd (show("dict":String)=_ from h7) (by decide))
theorem sY:∀{ss:List Str} {us:List Value},Vals (ss.map V.str) us->∃l:List (Str × Tok),us=strValues l/\l.map (·.1)=ss
 | [],_, .nil=>⟨[],rfl,rfl⟩
 | n ::ns,_, .cons r t=>by
   obtain⟨l,rfl,e⟩:=sY t;obtain⟨tk,rfl⟩:=r;exact⟨(n,tk) ::l,rfl,by rw[List.map_cons,e]⟩
def ie(d:D)(ds:List D):R D:=match d,ds with
 | .str sep,[.lst es]=>(match strs? es with | some ss=>R.aS (JoinOk sep ss) (.ok (.str (Str.join sep ss))) | none=> .no)
 | _,_=> .no
theorem Ir:Kg X "str.join" ie:=by
 intro pins s σ H B da d ds x xs v us I hb rx rxs ra rs hg;unfold ie at hg;split at hg
 .split at hg
  .rename_i sep es ss e;obtain⟨h1,h2⟩:=R.aO hg;cases h2;rw[Rep.str.mp ra] at rx;obtain⟨t,rfl⟩:=rx;obtain⟨y,rfl,r⟩:=rs.one;obtain⟨a,ys,rfl,l,r⟩:=Rep.lst.mp r;obtain⟨u,rfl,ru⟩:=vals1 rxs;cases ru;obtain⟨its,n,rv,e1,hz⟩:=I.Ee l;rw[iC r e] at rv;obtain⟨ps,rfl,rfl⟩:=sY rv;refine SC.join (D:=a) (l:=ps) ⟨_,e1,rfl,n,rfl⟩ rfl h1 fun t' k=>⟨.str _,H,I.tok _,⟨t',rfl⟩,aN.refl H,Rep.str.mpr ?_⟩
   rw[<-StrLaws.glued_eq_join];rfl
  .cases hg
 .cases hg
theorem Fb{o e:Expr}{f:FD}{fs:ak->R (List D)}{apos aZ:Pos}(ho:PD X o f)(ha:AJ X [e] fs)
 (eP:attributeBase o "join" X.env (eval o X.env)=eval o X.env:=by rfl)
 (jD:((backTo aZ (starEach [e] X.env)).all (fun x=>!x.1) && (backToKw aZ (keywordEach [] X.env)).all (fun x=>x.1.isSome)
   && decide (([e]:List Expr).length+([]:List Keyword).length+(if([]:List Keyword).isEmpty then 0 else 1) < 30))=true:=by rfl)
 (eO:(apos.endLine==aZ.line)=true:=by rfl) (hs:starEach [e] X.env=(false,eval e X.env) ::starEach [] X.env:=by rfl) :
 PD X (.Call (.Attribute o "join" apos) [e] [] aZ) (wL "str" ie f fs):=Bt F.plainAttrs_str F.slot_str_join F.type_str_join Ir ho ha (.inl rfl) eP jD eO hs
abbrev PJ(X:Cx)(es:List Expr)(f:ak->R (List Str)):Prop:=
 ∀(pins:WD) (s:Shared) (σ:St) (H:Hp) (Z B:List Addr) (δ:ak) (acc:Str) (ss:List Str) (Q:VK),Inv X pins σ H s->dq X.K Z B H σ δ->f δ= .ok ss->(ss.foldl (·++·) acc).length<=sizeLine->(∀H',aN H H'->Q (.str (ss.foldl (·++·) acc)) H')->
  wpAny (model X.prog X.w) X.A (joinParts acc (evalEach es X.env)) (EP X pins σ Q) X.xe s
theorem sZ:∀(ss:List Str) (acc:Str),acc.length<=(ss.foldl (·++·) acc).length
 | [],acc=>Nat.le_refl _
 | s ::ss,acc=>Nat.le_trans (by rw[Str.length_append];exact Nat.le_add_right _ _) (sZ ss (acc++s))
def m4:ak->R (List Str):=fun _=> .ok []
def bO(f:FD)(g:ak->R (List Str)):ak->R (List Str):=fun δ=>(f δ).bind fun d=>match d with | .str x=>(g δ).bind fun ss=> .ok (x ::ss) | _=> .no
theorem JE:PJ X [] m4:=by
 intro pins s σ H Z B δ acc ss Q I E hf hl q;cases hf;exact joinParts_nil ⟨.str _,H,I.tok _,⟨_,rfl⟩,q H (aN.refl H)⟩ hl
theorem EF{g:ak->R (List Str)}(he:PD X e f)(hr:PJ X es g)(OR:evalEach (e ::es) X.env=eval e X.env ::evalEach es X.env:=by rfl):PJ X (e ::es) (bO f g):=by
 intro pins s σ H Z B δ acc ss Q I E hf hl q;rw[OR];obtain⟨d,h1,h2⟩:=R.ag hf;cases d with
 | str x=>
   obtain⟨RV,h3,h4⟩:=R.ag h2;cases h4;refine joinParts_cons (cO (he pins s σ H (fun v H'=>aN H H'/\v= .str x) I ⟨Z,B,δ, .str x,E,h1,fun v H' s1 r1=>⟨s1,Rep.str.mp r1⟩⟩) fun v s1 ⟨xv,H1,I1,r1,J5,e1⟩=>?_)
   subst e1;obtain⟨t,rfl⟩:=r1;exact⟨Nat.le_trans (sZ RV (acc++x)) hl,hr pins s1 σ H1 Z B δ (acc++x) RV Q I1 (E.same J5) h3 hl fun H' s2=>q H' (J5.trans s2)⟩
 | _=>cases h2
def c3(g:ak->R (List Str)):FD:=fun δ=>(g δ).bind fun ss=>R.aS (decide ((ss.foldl (·++·) Str.empty).length<=sizeLine)) (.ok (.str (ss.foldl (·++·) Str.empty)))
theorem Ay{rest:List Expr}{g:ak->R (List Str)}(h:PJ X (DH ::DJ ::rest) g):PD X (.JoinedStr (DH ::DJ ::rest) pos) (c3 g):=by
 intro pins s σ H Q I ⟨Z,B,δ,d,E,hf,q⟩;obtain⟨ss,h1,h2⟩:=R.ag hf;obtain⟨h3,h4⟩:=R.aO h2;cases h4;rw[arm_eval_JoinedStr];exact h pins s σ H Z B δ Str.empty ss Q I E h1 (of_decide_eq_true h3) fun H' s1=>q _ H' s1 (Rep.str.mpr rfl)
def Fu:D->R D
 | .str x=>R.aS (decide (x.length<=sizeLine)) (.ok (.str x))
 | .int i=>R.aS (decide (i.natAbs.log2 < 1920)) (.ok (.str (toString i)))
 | _=> .no
def jR(f:FD):FD:=fun δ=>(f δ).bind Fu
theorem Jt(h:PD X e f):PD X (.FormattedValue e (-1) none pos) (jR f):=by
 intro pins s σ H Q I ⟨Z,B,δ,d,E,hf,q⟩;obtain⟨d1,h1,h2⟩:=R.ag hf;refine FormattedValue_plain (cO (h pins s σ H (fun v H'=>aN H H'/\Rep X.K B H' d1 v) I ⟨Z,B,δ,d1,E,h1,fun v H' s1 r1=>⟨s1,r1⟩⟩) fun v s1 ⟨xv,H1,I1,r1,J5,e1⟩=>?_)
 unfold Fu at h2;split at h2
 .obtain⟨h3,h4⟩:=R.aO h2;cases h4;rw[Rep.str.mp e1] at r1;obtain⟨t,rfl⟩:=r1;exact formatField_str (fun t' tk=>⟨.str _,H1,I1.tok _,⟨_,rfl⟩,q _ H1 J5 (Rep.str.mpr rfl)⟩) (of_decide_eq_true h3)
 .obtain⟨h3,h4⟩:=R.aO h2;cases h4;rw[Rep.int.mp e1] at r1;obtain⟨t,rfl⟩:=r1;exact formatField_int_small (of_decide_eq_true h3) ⟨.str _,H1,I1.tok _,⟨_,rfl⟩,q _ H1 J5 (Rep.str.mpr rfl)⟩
 .cases h2
def L4:List (D × D)->Str->R (Option D)
 | [],_=> .ok none
 | (.str y,d) ::r,x=>(L4 r x).bind fun o=> .ok (match o with | some e=>some e | none=>if y=x then some d else none)
 | _ ::_,_=> .no
def yx(x:Str):List D:=x.cps.toList.map fun c=> .str ⟨#[c]⟩
def Tv(x:Str):It:=⟨fun i _=>i < x.cps.size,fun i H v H'=>H'=H/\∃c,x.cps[i]? =some c/\v= .str ⟨#[c]⟩,fun i _=>x.cps.size<=i⟩
theorem B4{K:W.Frag}(it:Addr)(x:Str)(t:Tok)(ty:String)(D1:ty="str_ascii_iterator"\/ty="str_iterator"):Turn P w K tg (Tv x) [it] it (fun i h=>h.IsStrIter it ty x t i/\i<=x.cps.size) where
 mem:=by simp
 obj:=fun i h st b hb=>by
  have e:b=it:=by simpa using hb
  subst e;obtain⟨o,e,c,d⟩:=st.1;exact⟨o,e,fun v z=>by rw[d] at z;cases z⟩
 keep:=fun i h h' st k=>⟨let⟨o,ho,r⟩:=st.1;⟨o,k it (by simp) o ho,r⟩,st.2⟩
 item:=by
  intro X hP hw hK hc i pins s σ H E I hf st hg;subst hP hw hK;obtain⟨f0,f1,f2,f3,f4,f5⟩:=hf it (by simp)
  have W:Walks X.prog X.w X.A it [it] [it] x.cps.size (SignAt x) (fun i h=>h.IsStrIter it ty x t i):=by
   rcases D1 with rfl | rfl
   .exact Walks.strAscii (I.ok.hd hc) it x t
   .exact Walks.strWide (I.ok.hd hc) it x t
  refine W.item i s _ _ hg st.1 fun v h' tk hv DK kk=>?_
  obtain⟨c,u,e1,rfl⟩:=hv;have I1:Inv X pins σ H {s with heap:=h',toks:=tk}:=I.turned (fun b o hb e=>kk b o (by simpa using hb) e) f0 f1 f3 f4 f5
  obtain⟨o,e,cl,d⟩:=id DK;refine⟨_,rfl,y_ (s:={s with heap:=h',toks:=tk}) (n:=ty) e cl d ?_ ⟨.str ⟨#[c]⟩,H,I1,⟨u,rfl⟩,⟨rfl,c,e1,rfl⟩,⟨DK,hg⟩,fun b hb=>(hf b hb).1⟩⟩
  rcases D1 with rfl | rfl <;> decide
 done:=by
  intro X hP hw hK hc i pins s σ H E I hf st hg;subst hP hw hK;obtain⟨f0,f1,f2,f3,f4,f5⟩:=hf it (by simp)
  have W:Walks X.prog X.w X.A it [it] [it] x.cps.size (SignAt x) (fun i h=>h.IsStrIter it ty x t i):=by
   rcases D1 with rfl | rfl
   .exact Walks.strAscii (I.ok.hd hc) it x t
   .exact Walks.strWide (I.ok.hd hc) it x t
  have e:i=x.cps.size:=Nat.le_antisymm st.2 hg;exact W.done s _ _ (e▸st.1) fun h' tk kk=>⟨rfl,I.turned (fun b o hb e=>kk b o (by simpa using hb) e) f0 f1 f3 f4 f5⟩
 self:=fun A i s Q E st h=>by
  rcases D1 with rfl | rfl
  .exact wpAny_pyIter_striter_ascii st.1 h
  .exact wpAny_pyIter_striter_wide st.1 h
def DC(f:FD):ak->R (List D):=fun δ=>(f δ).bind fun d=>match d with | .str x=> .ok (yx x) | _=> .no
theorem EZ(h:PD X e f):Fp X tg e (DC f):=by
 intro pins s σ H RR I ⟨Z,B,δ,ds,E,hf,q⟩;obtain⟨d,h1,h2⟩:=R.ag hf;refine cO (h pins s σ H (fun v H1=>aN H H1/\Rep X.K B H1 d v) I ⟨Z,B,δ,d,E,h1,fun v H1 s1 r1=>⟨s1,r1⟩⟩) fun v s1 ⟨x,H1,I1,r1,ss,rr⟩=>?_
 cases d with
 | str z=>
   cases h2;rw[Rep.str.mp rr] at r1;obtain⟨t,rfl⟩:=r1;refine wpAny_pyIter_strU ?_;have D1:strIterType z="str_ascii_iterator"\/strIterType z="str_iterator":=by
    unfold strIterType;split
    .exact .inl rfl
    .exact .inr rfl
   refine⟨s1.heap.objs.size,[s1.heap.objs.size],_,_,H1,rfl,I1.kept (t':=s1.toks) fun b o e=>Heap.get?_push_of_some _ e,B4 _ z t (strIterType z) D1,⟨⟨_,Heap.get?_push_size _ rfl,rfl,rfl⟩,Nat.zero_le _⟩,fun b hb=>?_,q _ H1 ss fun B' H' pr=>?_⟩
   .have e:b=s1.heap.objs.size:=by simpa using hb
    subst e;exact I1.vJ (Nat.le_refl _) (I1.hok.fresh (Nat.le_refl _))
   .refine⟨fun i d hd=>?_,?_⟩
    .unfold yx at hd;rw[List.getElem?_map] at hd;cases e:z.cps.toList[i]? with
     | none=>rw [e] at hd;cases hd
     | some c=>
       rw[e] at hd;cases hd;have e':z.cps[i]? =some c:=by simpa using e
       exact⟨(Array.getElem?_eq_some_iff.mp e').1,fun x mD ⟨e1,c',e2,e3⟩ _=>by
        subst e1;rw[e'] at e2;cases e2;exact⟨aN.refl _,Rep.str.mpr e3⟩⟩
    .show z.cps.size<=(yx z).length;unfold yx;simp
 | _=>cases h2
def Ua(K:W.Frag)(a:Addr):It:=
 ⟨fun i H=>∃xs x,lr K H a xs/\xs[i]? =some x,fun i H v H'=>∃p x,H p=none/\v= .ref p/\(∀xs,lr K H a xs->xs[i]? =some x)/\H'=upd H p (.tup [.int i,x]),fun i H=>∃xs,lr K H a xs/\xs.length<=i⟩
theorem zK{K:W.Frag}{k:Nat}(a e it:Addr)(RE:e≠it):Turn P w K (.Tuple elts k pos) (Ua K a) [e,it] e (fun i h=>(∃old,IsEnum h e it ((i:Nat):Int) old)/\h.IsListIter it a i) where
 mem:=by simp
 obj:=fun i h st b hb=>by
  obtain⟨⟨old,he⟩,o,ho,c,d⟩:=st;rcases List.mem_cons.mp hb with rfl | hb
  .exact⟨_,he,fun v z=>by cases z⟩
  .have e:b=it:=by simpa using hb
   subst e;exact⟨o,ho,fun v z=>by rw[d] at z;cases z⟩
 keep:=fun i h h' st k=>by
  obtain⟨⟨old,he⟩,hi⟩:=st;exact⟨⟨old,k e (by simp) _ he⟩,hi.at fun o x=>k it (by simp) o x⟩
 item:=by
  intro X hP hw hK hc i pins s σ H E I hf st hg;subst hP hw hK;obtain⟨xs,x,hq,hx⟩:=hg;obtain⟨its,rv,p,hz⟩:=I.list hq;obtain⟨u,hu,ru⟩:=rv.get hx;obtain⟨⟨old,he⟩,hit⟩:=st;obtain⟨f0,f1,f2,f3,f4,f5⟩:=hf e (by simp)
  obtain⟨g0,g1,g2,g3,g4,g5⟩:=hf it (by simp)
  refine wpAny_pyNext_enum_item he hit p.isList (x:=u) (by simpa using hu) RE fun kT Hb J2 Me RB Mj=>⟨_,rfl,?_⟩
  refine wpAny_letOwnedTupleGo_enum Hb fun uK Mn wJ=>?_
  replace wJ:Heap.SameBut e kT uK:=wJ
  have hel:e < s.heap.objs.size:=Heap.lt_size he;have My:uK.get? s.heap.objs.size=some {cls:= .type "tuple",data:= .seq #[.int i s.toks,u]}:=(wJ.2 _ (Nat.ne_of_gt hel)).trans Me;have kk:∀b o,b≠e->b≠it->s.heap.get? b=some o->uK.get? b=some o:=fun b o h1 h2 q=>(wJ.2 b h1).trans (Mj b o h1 h2 q)
  have hn:H s.heap.objs.size=none:=I.fresh;have sm:aN H (upd H s.heap.objs.size (.tup [.int i,x])):=br hn;have nit:∀b o,H b=some o->b≠e/\b≠it:=fun b o q=>⟨fun z=>(by rw[z,f0] at q;cases q),fun z=>(by rw[z,g0] at q;cases q)⟩
  have hok:mh X.prog X.w (upd H s.heap.objs.size (.tup [.int i,x])) uK:=fun b ob q=>by
   by_cases hb:b=s.heap.objs.size
   .subst hb;rw[aX] at q;cases q;exact⟨by show 2<=sizeLine;decide,[.int i s.toks,u], .cons ⟨_,rfl⟩ (.cons ru .nil),⟨_,My,rfl,_,rfl⟩⟩
   .rw [bb hb] at q;refine(I.hok b ob q).yg (fun c v hc z=>?_) (fun c z=>sm c _ z) fun c ys z=>sm c _ z
    rcases hc with rfl | hc
    .exact kk c v (nit c _ q).1 (nit c _ q).2 z
    .exact kk c v (nit c _ hc).1 (nit c _ hc).2 z
  have nch:∀b,b ∉ [e,it]->b≠e/\b≠it:=fun b hb=>⟨fun z=>hb (by simp [z]),fun z=>hb (by simp [z])⟩
  have I2:Inv X pins σ (upd H s.heap.objs.size (.tup [.int i,x])) {s with heap:=uK,toks:=s.toks+1}:=by
   refine I.step (g':=s.gens) (d':=s.drawn) (ch:=[e,it]) (fun b hb=>?_) (fun b o _ _ hb q _=>kk b o (nch b hb).1 (nch b hb).2 q) (fun b o _ _ hb q _=>⟨o.slots,kk b o (nch b hb).1 (nch b hb).2 q⟩)
    (fun b o hb q n=>by rw[bb (Nat.ne_of_lt (Heap.lt_size q))];exact n) (fun b o hb q=>⟨o,kk b o (nch b hb).1 (nch b hb).2 q⟩) (fun b ys z=>sm b _ z) (fun b o u z=>sm b _ z) (fun b ps z=>⟨#[],by rw[sm b _ z];simp⟩) (fun m hm=>?_) hok I.bare
   .rcases List.mem_cons.mp hb with rfl | hb
    .exact⟨f3,f1,f4,f5⟩
    .have z:b=it:=by simpa using hb
     subst z;exact⟨g3,g1,g4,g5⟩
   .obtain⟨o,es,ep,ho,r⟩:=hm;exact⟨o,es,ep,kk _ o (Ne.symm f1) (Ne.symm g1) ho,r⟩
  refine⟨.ref s.heap.objs.size,_,I2,rfl,⟨s.heap.objs.size,x,hn,rfl,fun ys hy=>(by rw[I.vf hy hq];exact hx),rfl⟩,⟨⟨_,by simpa using Mn⟩,J2.at fun o q=>(wJ.2 it (Ne.symm RE)).trans q⟩,fun b hb=>?_⟩
  rcases List.mem_cons.mp hb with rfl | hb
  .rw [bb (Nat.ne_of_lt hel)];exact f0
  .have z:b=it:=by simpa using hb
   subst z;obtain⟨o,ho,_⟩:=hit;rw[bb (Nat.ne_of_lt (Heap.lt_size ho))];exact g0
 done:=by
  intro X hP hw hK hc i pins s σ H E I hf st hg;subst hP hw hK;obtain⟨xs,hq,hx⟩:=hg;obtain⟨its,rv,p,hz⟩:=I.list hq;obtain⟨⟨old,he⟩,hit⟩:=st;obtain⟨g0,g1,g2,g3,g4,g5⟩:=hf it (by simp)
  have hl:=rv.length;exact wpAny_pyNext_enum_end (I.ok.hd hc) he hit p.isList (by simp;omega) fun h' eb=>⟨rfl,I.turned (t':=s.toks) (fun b o hb q=>eb b o hb q) g0 g1 g3 g4 g5⟩
 self:=fun A i s Q E st h=>let⟨⟨_,he⟩,_⟩:=st;wpAny_pyIter_enum he h
def mR(ds:List D):List D:=ds.zipIdx.map fun p=> .tup [.int p.2,p.1]
def rm(f:FD):ak->R (List D):=fun δ=>(f δ).bind fun d=>match d with | .lst ds=> .ok (mR ds) | _=> .no
theorem C9{elts:List Expr}{k:Nat}{DI:Pos}{p pos:Pos}(h:PD X a f)(hg:Gl X "enumerate")(hm:X.mg "enumerate"=none)(hs:starEach [a] X.env=[(false,eval a X.env)]:=by rfl):Fp X (.Tuple elts k DI) (.Call (.Name "enumerate" p) [a] [] pos) (rm f):=by
 intro pins s σ H RR I ⟨Z,B,δ,ds,E,hf,q⟩;obtain⟨d,h1,h2⟩:=R.ag hf;have hA:=de h fZ hs pos pins s σ H (fun vs H1=>aN H H1/\∃v,vs=[v]/\Rep X.K B H1 d v) I ⟨Z,B,δ,d,E,h1,fun v H1 s1 r1=>⟨s1,v,rfl,r1⟩⟩
 refine Call_ (qZ I hg hm boot_enumerate (PyProof.Rows.callWith_type1 (cO hA fun us s1 ⟨vs,H1,I1,r1,ss,v,ev,rr⟩=>?_) hs rfl))
 subst ev;obtain⟨u,rfl,ru⟩:=vals1 r1;cases d with
 | lst es=>
   cases h2;obtain⟨b,xs,rfl,l,rs⟩:=Rep.lst.mp rr;cases ru;obtain⟨its,n,rv,e1,hz⟩:=I1.Ee l;refine call_enumerate_list (items:=its.toArray) ⟨_,e1,rfl,n,rfl⟩ fun h' he hit hsz kk=>wpAny_pyIter_enum he ?_
   have I2:Inv X pins σ H1 {s1 with heap:=h'}:=I1.kept (t':=s1.toks) kk
   refine⟨s1.heap.objs.size+1,[s1.heap.objs.size+1,s1.heap.objs.size],_,_,H1,rfl,I2,zK b (s1.heap.objs.size+1) s1.heap.objs.size (Nat.succ_ne_self _),⟨⟨_,he⟩,hit⟩,fun c hc=>?_,q _ H1 ss fun B' H' pr=>?_⟩
   .have hle:s1.heap.objs.size<=c:=by
     rcases List.mem_cons.mp hc with z | hc
     .rw [z];exact Nat.le_succ _
     .have z:c=s1.heap.objs.size:=by simpa using hc
      rw[z];exact Nat.le_refl _
    exact I1.vJ hle (I1.hok.fresh hle)
   .have l':uR X.K B' H' b xs:=l.ba pr;have rs':=rs.ba pr;refine⟨fun i d hd=>?_,⟨xs,l'.sq,by rw[<-rs.length];unfold mR;simp⟩⟩
    unfold mR at hd;rw[List.getElem?_map,List.getElem?_zipIdx] at hd;cases e:es[i]? with
    | none=>rw [e] at hd;cases hd
    | some d0=>
      rw[e] at hd;have hd:D.tup [.int ((0+i:Nat):Int),d0]=d:=Option.some.inj hd;rw[Nat.zero_add] at hd;obtain⟨x,hx,rx⟩:=rs'.get e;refine⟨⟨xs,x,l'.sq,hx⟩,fun v mD y MX=>?_⟩
      obtain⟨p,y,hp,rfl,hy,rfl⟩:=y;refine⟨br hp,?_⟩;subst hd;have hy2:=hy xs l'.sq;rw[hx] at hy2;cases hy2;refine Rep.tup.mpr ⟨p,_,rfl, .inl ⟨fun ha=>?_, .inl aX⟩,aD.cons (Rep.int.mpr rfl) (aD.cons (rx.same (br hp)) aD.nil)⟩
      obtain⟨o,ho⟩:=MX p ha;rw[hp] at ho;cases ho
 | _=>cases h2
end
end L2
end
section
namespace L2
open PySem PySem.Spec PyProof.Rows
def Def(K:W.Frag)(mg:WK)(x:Str)(st:Stmt):Prop:=∃f fd,wW K x x st f fd/\mg x=some (.ref f)
def Callee(P:Program)(w:World)(K:W.Frag)(mg:WK)(base:Heap)(k:Nat)(x:Str)(n:Nat)(g:List D->R D):Prop:=
 ∃f fd ps,f9 P w K mg base rX k f fd ps (DX K n g)/\mg x=some (.ref f)/\PySem.W.keepIn K (.ref f)=true/\Binds K fd ps []
theorem aQ:∀(δ:ak) (ds:List D),aL δ= .ok ds->ds.length=0:=fun δ ds h=>by cases h;rfl
theorem ao{g:ak->R (List D)}{n:Nat}(h:∀(δ:ak) (ds:List D),g δ= .ok ds->ds.length=n):∀(δ:ak) (ds:List D),aj f g δ= .ok ds->ds.length=n+1:=fun δ ds e=>by
 obtain⟨d,h1,h2⟩:=R.ag e;obtain⟨es,h3,h4⟩:=R.ag h2;cases h4;rw[List.length_cons,h δ es h3]
theorem Dx{P:Program}{w:World}{K:W.Frag}{mg:WK}{base:Heap}{x qual:Str}{st:Stmt}{f:Addr}{fd:FuncData}{N ps:List Str}{k:Nat}{F:FS}{b:List Stmt}{sc:Scope}(hb:aR st=b)(hs:aF st=sc)(Fn:wW K x qual st f fd)(S:bc N ps sc)
 (jc:∀(dD:Value) (A:Around) (outer:List Env) (s:Shared) (H:Hp) (E:XK),dP k (A.deeper (envOfC qual sc s.heap.objs.size f dD))->
   pI (jZ rX P w K mg base N qual sc f dD A outer s H E).F1 b F):f9 P w K mg base rX (k+1) f fd ps (DX K ps.length (qe N F)):=by
 subst hb hs;exact ET Fn S jc
section
variable {X:Cx}
theorem BF{g:List D->R D}{k j n:Nat}{x:Str}{p pos:Pos}{e:Expr}{es:List Expr}{fs:ak->R (List D)}(C:Callee X.prog X.w X.K X.mg X.base k x n g)(hr:dP j X.A)(Gh:k<=j)(hg:Gl X x)(ha:AJ X (e ::es) fs)
 (hn:∀δ ds,fs δ= .ok ds->ds.length=n) (jF:(x==("__debug__":Str))=false:=by decide) (he:starEach (e ::es) X.env=(false,eval e X.env) ::starEach es X.env:=by rfl) (kP:(backTo pos (starEach es X.env)).any (·.1)=false:=by rfl) :
 PD X (.Call (.Name x p) (e ::es) [] pos) (aM g fs):=by
 obtain⟨f,fd,ps,F,hm,hk,hb⟩:=C;exact Fi F (hr.mono Gh) hg hm hk hb ha hn jF he kP
def K5(sc:Scope)(N:List Str)(scope:Scope)(kp:List Nat)(kn:List Str):Bool:=
 decide (scope.kind= .function) && scope.names.all (fun y=>decide (y.2= .cell->scope.names.lookup y.1=some .cell)) && scope.names.all (fun y=>decide (y.2= .local->scope.names.lookup y.1=some .local))
  && scope.names.all (fun y=>decide (y.2= .free->(sc.names.lookup y.1=some .cell\/sc.names.lookup y.1=some .free))) && scope.names.all (fun y=>decide (y.2= .free->scope.names.lookup y.1=some .free)) && decide (kn.length=kp.length)
  && (List.range kp.length).all (fun j=>decide ((kp[j]?).bind (N[·]?)=kn[j]?)) && kn.all (fun x=>decide (scope.names.lookup x=some .free))
theorem bG.of{own:List Str}{kp:List Nat}{kn:List Str}{N:List Str}(h1:X.env.scope=sc)(h2:X.N=N)(h:K5 sc N scope kp kn=true):bG X scope own kp kn:=by
 unfold K5 at h;simp only[Bool.and_eq_true,decide_eq_true_eq,List.all_eq_true] at h;obtain⟨⟨⟨⟨⟨⟨⟨a1,a2⟩,a3⟩,a4⟩,a8⟩,a5⟩,a6⟩,a7⟩:=h;refine⟨a1,a2,a3,fun y hy hf=>?_,a8,a5,fun j i x hj hx=>?_,a7⟩
 .have:=a4 y hy hf;unfold Env.kindOf;rw[h1];exact this
 .have hlt:j < kp.length:=(List.getElem?_eq_some_iff.mp hj).1;have:=a6 j (List.mem_range.mpr hlt);rw[hj] at this;rw[h2];exact this.trans hx
def Dp(ay:List (Key × V))(f g:FD):FD:=fun δ=>(f δ).bind fun k=>(g δ).bind fun d=>match k with
 | .str x=>(match iV (kl [] ay) (Sum.inr x) with | some (.int i)=> .ok (.int i) | none=> .ok d | _=> .no)
 | _=> .no
theorem Ia{keys:List (Option Expr)}{values:List Expr}{tf:List (TE × TE)}{uP apos aZ:Pos}{e f:Expr}{fe ff:FD}{ay:List (Key × V)}(hu:X.A.units+1 < cLine)(h:HE X uP keys values tf)(AB:keys.all (·.isSome)=true)(hl:keys.length=values.length)(h0:keys≠[])
 (hc:∀σ H Q,Q (ay.map fun kv=>(kV kv.1,kv.2)) H->oR tf σ H Q) (hlen:ay.length<=15) (he:PD X e fe) (hf:PD X f ff) (m:M2 X (.Dict keys values uP) "get" apos e f aZ)
 (hd:PE X (.Dict keys values uP) (Br tf)):PD X (.Call (.Attribute (.Dict keys values uP) "get" apos) [e,f] [] aZ) (Dp ay fe ff):=by
 refine(CU hu hd he hf m).imp fun σ H Q ⟨Z,B,δ,d,E,hfd,q⟩=>?_
 obtain⟨k,h1,h2⟩:=R.ag hfd;obtain⟨dd,h3,h4⟩:=R.ag h2;intro p hp;refine hc σ _ _ ⟨aX,ay,rfl,hlen,p,rfl, .inl ⟨_, .inl aX⟩,?_⟩;rw[Fg];have s0:aN H (upd H p (.dK (kl [] ay))):=br hp;refine⟨Z,B,δ,k,E.same s0,h1,fun v1 H1 s1 r1=>⟨Z,B,δ,dd,(E.same s0).same s1,h3,fun v2 H2 s2 r2=>?_⟩⟩
 have hH2:H2 p=some (.dK (kl [] ay)):=s2 p _ (s1 p _ aX);have sA:aN H H2:=s0.trans (s1.trans s2);split at h4
 .rename_i x;refine⟨iV (kl [] ay) (Sum.inr x),?_,?_⟩
  .rw [Rep.str.mp r1];exact mC.k (k:=Sum.inr x) hH2
  .split at h4
   .rename_i i e1;cases h4;rw[e1];exact q _ H2 sA (Rep.int.mpr rfl)
   .rename_i e1;cases h4;rw[e1];exact q _ H2 sA r2
   .cases h4
 .cases h4
def QC(i:Nat)(f:FD):FS:=fun δ=>(f δ).bind fun d=>match d with
 | .lst es=>(rE δ i).bind fun ds=>R.aS (decide (ds.length+es.length<=sizeLine)) (.ok (.nx (δ.set i (.bld (ds++es)))))
 | _=> .no
end
end L2
end
section
namespace L2
open PySem PySem.Spec PyProof.Rows
structure QD (X:Cx) (e:Expr) (f:FD):Prop where
 h:PD X e f
structure QN (X:Cx) (e:Expr) (f:ak->R (List D)):Prop where
 h:PN X e f
structure QB (X:Cx) (e:Expr) (f:ak->R Bool):Prop where
 h:PB X e f
structure Jz (X:Cx) (e:Expr) (f:ak->R Bool):Prop where
 h:DQ X e f
structure CV (X:Cx) (e:List Expr) (f:ak->R (List D)):Prop where
 h:AJ X e f
structure A2 (X:Cx) (e:Stmt) (f:FS):Prop where
 h:AI X e f
structure rZ (X:Cx) (e:List Stmt) (f:FS):Prop where
 h:pI X e f
structure GF (X:Cx) (e:Expr) (f:FT):Prop where
 h:Ew X e f
structure Ei (X:Cx) (e:List Expr) (f:AO):Prop where
 h:Bg X e f
structure Eo (X:Cx) (tg e:Expr) (f:ak->R (List D)):Prop where
 h:Fp X tg e f
structure QP (X:Cx) (e:Option Expr) (f:FO):Prop where
 h:PP X e f
structure QJ (X:Cx) (e:List Expr) (f:ak->R (List Str)):Prop where
 h:PJ X e f
structure Cr (X:Cx) (e:List Expr) (c:ak->R Bool):Prop where
 h:nR X e (Es X.K c)
section
variable {X:Cx}
theorem bA{f:ak->R (List D)}(h:QN X e f):QD X e (eNew f):=⟨II h.1⟩
theorem oa(h:QD X e f):QD X e (lB f):=⟨Ep h.1⟩
theorem qN{f:ak->R Bool}(h:QB X e f):QB X e (mH f):=⟨FK h.1⟩
theorem aa(i:Nat){pos:Pos}(hN:X.N[i]? =some x:=by rfl)(hv:G7 X.env.scope x:=by first | exact Or.inl rfl | exact Or.inr (Or.inl rfl) | exact Or.inr (Or.inr rfl))(hd:(x==("__debug__":Str))=false:=by decide)(rK:(x==("__classdict__":Str))=false:=by decide):QD X (.Name x pos) (af i):=⟨Hj i hN hv hd rK⟩
theorem ai{i j pos}:QD X (.Constant (.int i) j pos) (eC (.int i)):=⟨HJ⟩
theorem i3{b j pos}:QD X (.Constant (.bool b) j pos) (eC (.bl b)):=⟨Ks⟩
theorem ax{x j pos}:QD X (.Constant (.str x) j pos) (eC (.str x)):=⟨Ik⟩
theorem fq{d:D}{pos:Pos}(g:Glob X.K X.mg x d)(hg:Gl X x)(hd:(x==("__debug__":Str))=false:=by decide):QD X (.Name x pos) (eC d):=⟨Fq g hg hd⟩
theorem ah:CV X [] aL:=⟨Fv⟩
theorem ae{g:ak->R (List D)}(h:QD X e f)(t:CV X es g)(hs:starEach (e ::es) X.env=(false,eval e X.env) ::starEach es X.env:=by rfl):CV X (e ::es) (aj f g):=⟨Ds h.1 t.1 hs⟩
theorem gu{g:ak->R (List D)}{x1 pos}(h:CV X es g):QD X (.Tuple es x1 pos) (n_ g):=⟨HW h.1⟩
theorem bV{g:ak->R (List D)}{pos}(h:CV X es g):QN X (.List es pos) (eG g):=⟨HU h.1⟩
theorem aC{op:Operator}{g:D->D->R D}(ho:ml X (binaryOp op) g)(ha:QD X a fa)(hb:QD X b fb):QD X (.BinOp a op b pos) (e2 g fa fb):=⟨LN ho ha.1 hb.1⟩
theorem dM{op:CmpOp}{g:D->D->R D}(ho:ml X (compareOp op) g)(ha:QD X a fa)(hb:QD X b fb)(hm:behindInMarks op b=false):QD X (.Compare a [op] [b] pos) (e2 g fa fb):=⟨Ih ho ha.1 hb.1 hm⟩
theorem bH{op:CmpOp}{g:D->D->R D}(ho:ml X (compareOp op) g)(ha:QD X a fa)(hb:QD X b fb)(hm:behindInMarks op b=false):QB X (.Compare a [op] [b] pos) (b2 g fa fb):=⟨Ij ho ha.1 hb.1 hm⟩
theorem iz{a:Expr}(ha:QD X a f)(he:∀whole,isTrue a X.env whole=(do let v <-whole;standAt a.pos;holding [v] (truthy v)):=by intro _;rfl):QB X a (nE f):=⟨Js ha.1 he⟩
theorem ij{f:ak->R Bool}(h:Jz X e f):QB X e f:=⟨DQ.pb h.1⟩
theorem oZ{f:ak->R Bool}(h:QB X a f):Jz X (.BoolOp .And [a] pos) f:=⟨Cy h.1⟩
theorem jW{f:ak->R Bool}(h:QB X a f):Jz X (.BoolOp .Or [a] pos) f:=⟨Fe h.1⟩
theorem qz{rest:List Expr}{f g:ak->R Bool}(ha:QB X a f)(hb:Jz X (.BoolOp .And (b ::rest) pos) g):Jz X (.BoolOp .And (a ::b ::rest) pos) (rR f g):=⟨ES ha.1 hb.1⟩
theorem ig{rest:List Expr}{f g:ak->R Bool}(ha:QB X a f)(hb:Jz X (.BoolOp .Or (b ::rest) pos) g):Jz X (.BoolOp .Or (a ::b ::rest) pos) (ya f g):=⟨HX ha.1 hb.1⟩
theorem n5{f:ak->R Bool}(ha:QB X a f):QB X (.UnaryOp .Not a pos) (rW f):=⟨JK ha.1⟩
theorem mf{op}(h:QD X a f):QD X (.BoolOp op [a] pos) f:=⟨HY h.1⟩
theorem jk{rest:List Expr}(ha:QD X a f)(hb:QD X (.BoolOp .And (b ::rest) pos) g):QD X (.BoolOp .And (a ::b ::rest) pos) (pM f g):=⟨IZ ha.1 hb.1⟩
theorem Ib{rest:List Expr}(ha:QD X a f)(hb:QD X (.BoolOp .Or (b ::rest) pos) g):QD X (.BoolOp .Or (a ::b ::rest) pos) (Kv f g):=⟨K9 ha.1 hb.1⟩
theorem bo{g:List D->R D}{id:String}{p pos:Pos}{fs:ak->R (List D)}(hc:cJ X (.builtin id) g)(hg:Gl X x)(hm:X.mg x=none)(hv:bootBuiltins x=some (.builtin id))(ha:CV X (e ::es) fs)(hn:x≠"__name__":=by decide)(jF:(x==("__debug__":Str))=false:=by decide)(he:starEach (e ::es) X.env=(false,eval e X.env) ::starEach es X.env:=by rfl)(kP:(backTo pos (starEach es X.env)).any (·.1)=false:=by rfl):QD X (.Call (.Name x p) (e ::es) [] pos) (aM g fs):=⟨CJ hc hg hm hv ha.1 hn jF he kP⟩
theorem iH{g:List D->R D}{T:String}{p pos:Pos}{fs:ak->R (List D)}(hc:cJ X (.type T) g)(hg:Gl X x)(hm:X.mg x=none)(hv:bootBuiltins x=some (.type T))(ha:CV X (e ::es) fs)(hn:x≠"__name__":=by decide)(jF:(x==("__debug__":Str))=false:=by decide)(he:starEach (e ::es) X.env=(false,eval e X.env) ::starEach es X.env:=by rfl)(kP:(backTo pos (starEach es X.env)).any (·.1)=false:=by rfl):QD X (.Call (.Name x p) (e ::es) [] pos) (aM g fs):=⟨Au hc hg hm hv ha.1 hn jF he kP⟩
theorem cZ:rZ X [] ku:=⟨Ej⟩
theorem au{st:Stmt}{rest:List Stmt}{F G:FS}(h1:A2 X st F)(h2:rZ X rest G):rZ X (st ::rest) (bF F G):=⟨BJ h1.1 h2.1⟩
theorem aK{st:Stmt}{F:FS}(h1:A2 X st F):rZ X [st] F:=⟨F8 h1.1⟩
theorem bf{i:Nat}{pos pos':Pos}(hN:X.N.Nodup)(hi:X.N[i]? =some x)(hx:Loc X.env.scope x)(he:QD X e f)(hs:swapsWith e (some (.Name x pos')) pos.line X.env=pure false:=by rfl)(hf:X.fn x=true\/X.env.scope.names.lookup x=some .local:=by first | exact .inl rfl | exact .inr rfl | assumption):A2 X (.Assign [.Name x pos'] e pos) (cR i f):=⟨Fj hN hi hx he.1 hs hf⟩
theorem iQ{i:Nat}{f:ak->R (List D)}{pos pos':Pos}(hN:X.N.Nodup)(hi:X.N[i]? =some x)(hx:Loc X.env.scope x)(he:QN X e f)(hs:swapsWith e (some (.Name x pos')) pos.line X.env=pure false:=by rfl)(hf:X.fn x=true\/X.env.scope.names.lookup x=some .local:=by first | exact .inl rfl | exact .inr rfl | assumption):A2 X (.Assign [.Name x pos'] e pos) (mY i f):=⟨EJ hN hi hx he.1 hs hf⟩
theorem fm{i:Nat}{x:Str}{e:Expr}{f:FD}{l6 apos aZ pos:Pos}(hN:X.N[i]? =some x)(hv:G7 X.env.scope x)(he:QD X e f)(hd:(x==("__debug__":Str))=false:=by decide)(rK:(x==("__classdict__":Str))=false:=by decide)(hs:starEach [e] X.env=(false,eval e X.env) ::starEach [] X.env:=by rfl)(eO:(apos.endLine==aZ.line)=true:=by rfl)(jD:((backTo aZ (starEach [e] X.env)).all (fun x=>!x.1) && (backToKw aZ (keywordEach [] X.env)).all (fun x=>x.1.isSome)
 && decide (([e]:List Expr).length+([]:List Keyword).length+(if([]:List Keyword).isEmpty then 0 else 1) < 30))=true:=by rfl) (rH:swapsWith (.Call (.Attribute (.Name x l6) "append" apos) [e] [] aZ) none pos.line X.env=pure false:=by rfl) (eP:attributeBase (.Name x l6) "append" X.env (eval (.Name x l6) X.env)=eval (.Name x l6) X.env:=by rfl):A2 X (.Expr (.Call (.Attribute (.Name x l6) "append" apos) [e] [] aZ) pos) (nW i f):=⟨El hN hv he.1 hd rK hs eO jD rH eP⟩
theorem gH(i:Nat){F:FS}(h:rZ X Mu F):rZ X Mu (pJ i F):=⟨Eg i h.1⟩
theorem bh(he:QD X e f):A2 X (.Return (some e) pos) (eK f):=⟨F4 he.1⟩
theorem dN{fc:ak->R Bool}{F G:FS}(hc:QB X c fc)(ha:rZ X a F)(hb:rZ X b G):A2 X (.If c a b pos) (q8 fc F G):=⟨Hg hc.1 ha.1 hb.1⟩
theorem aI{i:Nat}{pos:Pos}(hN:X.N.Nodup)(hi:X.N[i]? =some x)(hx:Loc X.env.scope x)(hf:X.fn x=true\/X.env.scope.names.lookup x=some .local:=by first | exact .inl rfl | exact .inr rfl | assumption):GF X (.Name x pos) (aA i):=⟨Dk hN hi hx hf⟩
theorem e7:Ei X [] fO:=⟨AY⟩
theorem bu{u:AO}(h1:GF X e t)(h2:Ei X es u)(hs:(assignEach (e ::es) X.env).map (·.2)=assign e X.env ::(assignEach es X.env).map (·.2):=by rfl):Ei X (e ::es) (bq t u):=⟨zS h1.1 h2.1 hs⟩
theorem gP{k:Nat}{t:AO}{n:Nat}{pos:Pos}(hc:X.calm=true)(h:Ei X es t)(hn:(assignEach es X.env).length=n:=by rfl)(DL:(assignEach es X.env).findIdx? (·.1)=none:=by rfl):GF X (.Tuple es k pos) (fF n t):=⟨EE hc h.1 hn DL⟩
theorem Dv{pos:Pos}(he:QD X e f)(hg:GF X tg t)(hs:swapsWithSole [tg] e pos.line X.env=pure false:=by rfl)(hw:swappedStores [tg] e X.env=pure none:=by rfl)(h1:(assignEach [tg] X.env).map (·.2)=[assign tg X.env]:=by rfl):A2 X (.Assign [tg] e pos) (Hx f t):=⟨EY he.1 hg.1 hs hw h1⟩
theorem bZ(h:QD X e f):Eo X tg e (cP f):=⟨Gd h.1⟩
theorem c2{tg a:Expr}{p pos:Pos}(h:QD X a f)(hg:Gl X "range")(hm:X.mg "range"=none)(hs:starEach [a] X.env=[(false,eval a X.env)]:=by rfl):Eo X tg (.Call (.Name "range" p) [a] [] pos) (d8 f):=⟨xo h.1 hg hm hs⟩
theorem ft{it:ak->R (List D)}{F:FS}{pos:Pos}(hp:PassesOwn (model X.prog X.w) X.A X.env X.xe)(hc:X.calm=true)(hi:Eo X tg iter it)(hg:GF X tg t)(hb:rZ X body F)(hs:∀x,foldedSetIterable iter X.env x=pure x:=by intro _;rfl):A2 X (.For tg iter body [] pos) (oV it t F):=⟨EG hp hc hi.1 hg.1 hb.1 hs⟩
theorem dk{own:List Str}{kp:List Nat}{kn:List Str}{it:ak->R (List D)}{c:ak->R Bool}{pos:Pos}(hc:X.calm=true)(C:bG X scope own kp kn)(hi:Eo X tg iter it)(hg:∀fp s H,GF (aW X scope (own++kn) fp s H) tg t)(uL:∀fp s H,Cr (aW X scope (own++kn) fp s H) ifs c)(he:∀fp s H,QD (aW X scope (own++kn) fp s H) elt f)(hs:∀x,foldedSetIterable iter X.env x=pure x:=by intro _;rfl):QN X (.ListComp elt [⟨tg,iter,ifs,0⟩] scope pos) (cx it t c f own kp):=⟨Ex hc C hi.1 (fun fp s H=>(hg fp s H).1) (fun fp s H=>(uL fp s H).1) (fun fp s H=>(he fp s H).1) hs⟩
theorem cC:Cr X [] jB:=⟨Cb⟩
theorem qm{c:ak->R Bool}(h:QB X e c):Cr X [e] c:=⟨Fy h.1⟩
theorem n0{i:Nat}{pos' lZ:Pos}{own:List Str}{kp:List Nat}{kn:List Str}{it:ak->R (List D)}{c:ak->R Bool}(hc:X.calm=true)(hN:X.N.Nodup)(hx:X.N[i]? =some x)(uM:X.env.scope.names.lookup x=some .local)(C:bG X scope own kp kn)(hi:Eo X tg iter it)(hg:∀fp s H,GF (aW X scope (own++kn) fp s H) tg t)(uL:∀fp s H,Cr (aW X scope (own++kn) fp s H) ifs c)(he:∀fp s H,QD (aW X scope (own++kn) fp s H) elt f)(rH:swapsWith (.ListComp elt [⟨tg,iter,ifs,0⟩] scope pos) (some (.Name x pos')) lZ.line X.env=pure true:=by rfl)(hs:∀x,foldedSetIterable iter X.env x=pure x:=by intro _;rfl):A2 X (.Assign [.Name x pos'] (.ListComp elt [⟨tg,iter,ifs,0⟩] scope pos) lZ) (cR i (eNew (cx it t c f own kp))):=⟨vg hc hN hx uM C hi.1 (fun fp s H=>(hg fp s H).1) (fun fp s H=>(uL fp s H).1) (fun fp s H=>(he fp s H).1) rH hs⟩
theorem tj{i:Nat}{pos' lZ:Pos}{own:List Str}{kp:List Nat}{kn:List Str}{it:ak->R (List D)}{c:ak->R Bool}(hc:X.calm=true)(hN:X.N.Nodup)(hx:X.N[i]? =some x)(uM:X.env.scope.names.lookup x=some .local)(C:bG X scope own kp kn)(hi:Eo X tg iter it)(hg:∀fp s H,GF (aW X scope (own++kn) fp s H) tg t)(uL:∀fp s H,Cr (aW X scope (own++kn) fp s H) ifs c)(he:∀fp s H,QD (aW X scope (own++kn) fp s H) elt f)(rH:swapsWith (.ListComp elt [⟨tg,iter,ifs,0⟩] scope pos) (some (.Name x pos')) lZ.line X.env=pure true:=by rfl)(hs:∀x,foldedSetIterable iter X.env x=pure x:=by intro _;rfl):A2 X (.Assign [.Name x pos'] (.ListComp elt [⟨tg,iter,ifs,0⟩] scope pos) lZ) (mY i (cx it t c f own kp)):=⟨u0 hc hN hx uM C hi.1 (fun fp s H=>(hg fp s H).1) (fun fp s H=>(uL fp s H).1) (fun fp s H=>(he fp s H).1) rH hs⟩
theorem aV(ha:QD X a fa)(hb:QD X b fb)(hs:uC b):QD X (.Subscript a b pos) (e2 df fa fb):=⟨L_ ha.1 hb.1 hs⟩
theorem ja:QP X none kL:=⟨EC⟩
theorem fB(h:QD X e f):QP X (some e) (ib f):=⟨Eb h.1⟩
theorem lO{lo hi:Option Expr}{fl fh:FO}(he:QD X e f)(hl:QP X lo fl)(hh:QP X hi fh):QD X (.Subscript e (.Slice lo hi none p2) pos) (xK f fl fh):=⟨Ld he.1 hl.1 hh.1⟩
theorem lh{o e:Expr}{f:FD}{fs:ak->R (List D)}{apos aZ:Pos}(ho:QD X o f)(ha:CV X [e] fs)(eP:attributeBase o "join" X.env (eval o X.env)=eval o X.env:=by rfl)(jD:((backTo aZ (starEach [e] X.env)).all (fun x=>!x.1) && (backToKw aZ (keywordEach [] X.env)).all (fun x=>x.1.isSome)
 && decide (([e]:List Expr).length+([]:List Keyword).length+(if([]:List Keyword).isEmpty then 0 else 1) < 30))=true:=by rfl) (eO:(apos.endLine==aZ.line)=true:=by rfl) (hs:starEach [e] X.env=(false,eval e X.env) ::starEach [] X.env:=by rfl):QD X (.Call (.Attribute o "join" apos) [e] [] aZ) (wL "str" ie f fs):=⟨Fb ho.1 ha.1 eP jD eO hs⟩
theorem fj:QJ X [] m4:=⟨JE⟩
theorem aU{g:ak->R (List Str)}(he:QD X e f)(hr:QJ X es g)(OR:evalEach (e ::es) X.env=eval e X.env ::evalEach es X.env:=by rfl):QJ X (e ::es) (bO f g):=⟨EF he.1 hr.1 OR⟩
theorem cI{rest:List Expr}{g:ak->R (List Str)}(h:QJ X (DH ::DJ ::rest) g):QD X (.JoinedStr (DH ::DJ ::rest) pos) (c3 g):=⟨Ay h.1⟩
theorem fH(h:QD X e f):QD X (.FormattedValue e (-1) none pos) (jR f):=⟨Jt h.1⟩
theorem A9(h:QD X e f):Eo X tg e (DC f):=⟨EZ h.1⟩
theorem zM{elts:List Expr}{k:Nat}{DI:Pos}{p pos:Pos}(h:QD X a f)(hg:Gl X "enumerate")(hm:X.mg "enumerate"=none)(hs:starEach [a] X.env=[(false,eval a X.env)]:=by rfl):Eo X (.Tuple elts k DI) (.Call (.Name "enumerate" p) [a] [] pos) (rm f):=⟨C9 h.1 hg hm hs⟩
theorem bS{P:Program}{w:World}{K:W.Frag}{mg:WK}{base:Heap}{x qual:Str}{st:Stmt}{f:Addr}{fd:FuncData}{N ps:List Str}{k:Nat}{F:FS}{b:List Stmt}{sc:Scope}(hb:aR st=b)(hs:aF st=sc)(Fn:wW K x qual st f fd)(S:bc N ps sc)(jc:∀(dD:Value) (A:Around) (outer:List Env) (s:Shared) (H:Hp) (E:XK),dP k (A.deeper (envOfC qual sc s.heap.objs.size f dD))->
 rZ (jZ rX P w K mg base N qual sc f dD A outer s H E).F1 b F):f9 P w K mg base rX (k+1) f fd ps (DX K ps.length (qe N F)):=Dx hb hs Fn S (fun dD A outer s H E hr=>(jc dD A outer s H E hr).1)
theorem aJ{g:List D->R D}{k j n:Nat}{p pos:Pos}{fs:ak->R (List D)}(C:Callee X.prog X.w X.K X.mg X.base k x n g)(hr:dP j X.A)(Gh:k<=j)(hg:Gl X x)(ha:CV X (e ::es) fs)(hn:∀δ ds,fs δ= .ok ds->ds.length=n)(jF:(x==("__debug__":Str))=false:=by decide)(he:starEach (e ::es) X.env=(false,eval e X.env) ::starEach es X.env:=by rfl)(kP:(backTo pos (starEach es X.env)).any (·.1)=false:=by rfl):QD X (.Call (.Name x p) (e ::es) [] pos) (aM g fs):=⟨BF C hr Gh hg ha.1 hn jF he kP⟩
theorem E9{keys:List (Option Expr)}{values:List Expr}{tf:List (TE × TE)}{ay:List (Key × V)}(hu:X.A.units+1 < cLine)(h:HE X uP keys values tf)(AB:keys.all (·.isSome)=true)(hl:keys.length=values.length)(h0:keys≠[])(hc:∀σ H Q,Q (ay.map fun kv=>(kV kv.1,kv.2)) H->oR tf σ H Q)(hlen:ay.length<=15)(he:QD X e fe)(hf:QD X f ff)(m:M2 X (.Dict keys values uP) "get" apos e f aZ)(hd:PE X (.Dict keys values uP) (Br tf)):QD X (.Call (.Attribute (.Dict keys values uP) "get" apos) [e,f] [] aZ) (Dp ay fe ff):=⟨Ia hu h AB hl h0 hc hlen he.1 hf.1 m hd⟩
end
end L2
end
section
namespace L2
open PySem PySem.Spec PyProof.Rows
theorem zO{P:Program}{w:World}{K:W.Frag}{mg mb:WK}{CX:AK}{k:Nat}{fa a:Addr}{fd:FuncData}{x:Str}{sp:Sp}{s₁:Shared}{vs:List Value}{ns:List Int}
 (KX:K.In s₁.heap) (RF:s₁.heap.Ns mainGlobals mg) (hb:s₁.heap.Ns builtinsNs mb) (U6:∀x:Str,x≠"__name__"->mb x=bootBuiltins x) (P8:s₁.heap.NoLimit) (hg:s₁.gens=#[])
 (ha:s₁.heap.get? a=some {cls:= .type "list",data:= .seq vs.toArray}) (hi:IntsAre vs ns) (hl:ns.length<=sizeLine) (hr:dP k callerA)
 (F:∀base:Heap,K.In base->base.Ns mainGlobals mg->f9 P w K mg base CX k fa fd [x] sp) (Mg:∀(s:Shared) (u:Value),BindsTo s fd ⟨[u],[]⟩ [(x,u)])
 (Ha:∀H:Hp,Le H->uR K [] H a (ns.map V.int)->sp [.ref a] H (fun v _=>v= .bl true) fun _ _ _=>False)
 (U8:∀H e s',CX [] H s₁ (fun _ _ _=>False) e s'->False) :
 codeAny (model P w) callerA (.call (.ref fa) ⟨[.ref a],[]⟩) (fun r s'=>r= .ok (.ret (.bool true))/\OldK s₁.heap s'.heap/\s'.os=s₁.os/\AllBare s'.gens) s₁:=by
 have rv:=sV hi;have lenV:=hi.length;have core:∀H:Hp,Le H->uR K [] H a (ns.map V.int)->mh P w H s₁.heap->(∀b,H b≠none->b=a)->(H a≠none->K.lookup a=none)->
  codeAny (model P w) callerA (.call (.ref fa) ⟨[.ref a],[]⟩) (fun r s'=>r= .ok (.ret (.bool true))/\OldK s₁.heap s'.heap/\s'.os=s₁.os/\AllBare s'.gens) s₁:=by
  intro H hO hS hok hA hK;have zC:∀{b:Addr} {o:Obj},s₁.heap.get? b=some o->H b=none->(uu s₁.heap H).get? b=some o:=fun e n=>Ci e n
  have noA:∀{b:Addr} {o:Obj} {es:Array DictEntry} {ep:Nat},s₁.heap.get? b=some o->o.data= .dict es ep->H b=none:=fun {b o es ep} e d=>by
   cases q:H b with
   | none=>rfl
   | some u=>
     have e':b=a:=hA b (by rw[q];simp)
     subst e';rw[ha] at e;cases e;have d':Data.seq vs.toArray _=Data.dict es ep:=d;cases d'
  have nsK:∀{b:Addr} {m:WK},s₁.heap.Ns b m->(uu s₁.heap H).Ns b m:=fun {b m} ⟨o,es,ep,e,d,r⟩=>⟨o,es,ep,zC e (noA e d),d,r⟩
  have hKb:K.In (uu s₁.heap H):=fun b o e=>zC (KX b o e) (by
   cases q:H b with
   | none=>rfl
   | some u=>
     have e':b=a:=hA b (by rw[q];simp)
     subst e';rw[hK (by rw[q];simp)] at e;cases e)
  have hM:Mod K mg (uu s₁.heap H):=⟨hKb,nsK RF,⟨mb,nsK hb,U6⟩,let⟨mc,h1,h2⟩:=P8;⟨mc,nsK h1,h2⟩⟩
  have e0:wO P w K mg (uu s₁.heap H) callerA [] s₁ H:=⟨rfl,hM,fun b o e=>FV e,Nat.le_of_eq (zN _ _),trivial,fun b hb=>absurd (show b∈([]:List Addr) from hb) (by simp),hok, .of_eq hg⟩
  refine codeAny_mono ((F _ hKb (nsK RF)).run callerA [] s₁ H ⟨[.ref a],[]⟩ [.ref a] [.ref a] _ _ hr e0 (Mg s₁ (.ref a)) (.cons rfl .nil) (Ha H hO hS)) fun r s' h=>?_
  cases r with
  | error e=>exact(U8 H e s' h).elim
  | ok fl=>
    cases fl with
    | next=>exact False.elim h
    | brk=>exact False.elim h
    | cont=>exact False.elim h
    | ret u=>
      obtain⟨v,H',os,bare,un,Ph,r',q⟩:=h;have q':v= .bl true:=q;subst q';obtain rfl:u=Value.bool true:=r';refine⟨rfl,OldK.of_keep fun b o e=>?_,os,bare⟩
      cases q:H b with
      | none=>exact un.keep b o e q (by intro z;exact absurd (show b∈([]:List Addr) from z) (by simp)) (by simp)
      | some u=>
        rcases hO b with z | ⟨ob,xs,z⟩
        .rw [q] at z;cases z
        .have z2:=un.frzs b ob _ z;obtain⟨e1,_⟩:=hok b _ z;obtain⟨e2,_⟩:=Ph b _ z2;rw[e] at e1;cases e1;exact e2
 cases hk:K.lookup a with
 | some o=>
   have e:=KX a o hk;rw[ha] at e;cases e;refine core (fun _=>none) (fun _=> .inl rfl) (.inr ⟨vs,_,hk,by rw[List.length_map];exact hl,rv⟩) (fun b u z=>by have z':(none:Option HO)=some u:=z;cases z') (fun b z=>absurd rfl z) fun z=>absurd rfl z
 | none=>
   refine core (fun b=>if b=a then some (.kK {cls:= .type "list",data:= .seq vs.toArray} (.lst (ns.map V.int))) else none) (fun b=>?_) (.inl ⟨by simp, .inr ⟨{cls:= .type "list",data:= .seq vs.toArray},if_pos rfl⟩⟩) (fun b u z=>?_) (fun b z=>?_) fun _=>hk
   .by_cases hb:b=a
    .exact .inr ⟨_,_,if_pos hb⟩
    .exact .inl (if_neg hb)
   .by_cases hb:b=a
    .have z':=(if_pos hb).symm.trans z;cases z';subst hb;exact⟨ha,by rw[List.length_map];exact hl,vs,_,rv,ha⟩
    .have z':=(if_neg hb).symm.trans z;cases z'
   .by_cases hb:b=a
    .exact hb
    .exact absurd (if_neg hb) z
theorem ints_rep{K:W.Frag}{B:List Addr}:∀ns:List Int,aD K B H (ns.map D.int) (ns.map V.int)
 | []=>aD.nil
 | n ::ns=>aD.cons (Rep.int.mpr rfl) (ints_rep ns)
theorem La{l:PySem.W.OpenLaw}{n k:Nat}{q:Program}{loose:List Str}{XP:(Str->Option Value)->Heap->Prop}{YP:World->Heap->Prop}{d:DefRec}{K:Params->W.Frag}{x:Str}{g:List D->R D}
 (hn:l.most=some n) (MZ:n<=sizeLine) (OB:d.params.defaults=[]) (hr:dP k callerA) (hY:∀(w:World) (h:Heap),YP w h->(K w.params).In h)
 (F:∀(w:World) (mg:WK) (fa:Addr) (h:Heap),(K w.params).In h->h.Ns mainGlobals mg->mg d.name=some (.ref fa)->
   ∃fd:FuncData,(∀(s:Shared) (u:Value),BindsTo s fd ⟨[u],[]⟩ [(x,u)])/\∀base:Heap,(K w.params).In base->base.Ns mainGlobals mg->f9 l.prog w (K w.params) mg base rX k fa fd [x] (DX (K w.params) 1 g))
 (hg:∀ns:List Int,ns.length<=n->g [.lst (ns.map D.int)]= .ok (.bl true)):PySem.W.WalkO q loose XP YP l.row.toRowW d [] (fun f vs=>PySem.call f vs):=by
 refine Att.vz hn OB fun w s₀ s₁ mg mb fa o pm cd doc a vs ns G Y ho hd rK Mq J1 hints hlen OA=>?_
 have KX:=hY w _ Y;obtain⟨fd,hb,hF⟩:=F w mg fa _ KX G.T.g Mq;refine zO KX G.T.g G.T.b G.T.builtins G.T.nolimit OA J1 hints (Nat.le_trans hlen MZ) hr hF hb (fun H hO hS=>?_) fun H e s' h=>h
 refine⟨rfl,[],[.lst (ns.map D.int)], .bl true,fun b hb=>(by cases hb),aD.cons (Rep.lst.mpr ⟨_,_,rfl,hS,ints_rep ns⟩) aD.nil,hg ns hlen,fun z H' _ r=>Rep.bl.mp r⟩
theorem dn{K:W.Frag}{h:Heap}{mg:WK}{x:Str}{st:Stmt}{f:Addr}{oc:Value}{od an:Option Addr}{AM:Array (Option Value)}{kV doc pm dD ct:Value}(X:K.In h)(G:h.Ns mainGlobals mg)(a:PySem.W.nsIn K mainGlobals x=some (some (.ref f)))
 (l:K.lookup f=some ⟨oc,od, .func (PySem.W.fnOf x x (gx st) (aR st) (aF st) .none kV doc pm an dD ct),AM⟩) (c:PySem.W.codeIn K dD x=true) (k:PySem.W.keepIn K (.ref f)=true):Def K mg x st:=
 ⟨f,_,oC l c k,PySem.W.mg_of X G a⟩
theorem Dn{K:W.Frag}{h:Heap}{mg:WK}(X:K.In h)(G:h.Ns mainGlobals mg){t:Tok}(a:PySem.W.nsIn K mainGlobals x=some (some (.str y t))):Glob K mg x (.str y):=
 ⟨_, .str y,PySem.W.mg_of X G a,⟨t,rfl⟩,fun _ _=>Rep.str.mpr rfl⟩
theorem jL{K:W.Frag}{h:Heap}{mg:WK}(X:K.In h)(G:h.Ns mainGlobals mg){i:Int}{t:Tok}(a:PySem.W.nsIn K mainGlobals x=some (some (.int i t))):Glob K mg x (.int i):=
 ⟨_, .int i,PySem.W.mg_of X G a,⟨t,rfl⟩,fun _ _=>Rep.int.mpr rfl⟩
theorem n4{K:W.Frag}{B:List Addr}:∀ss:List Str,aD K B H (ss.map D.str) (ss.map V.str)
 | []=>aD.nil
 | n ::ns=>aD.cons (Rep.str.mpr rfl) (n4 ns)
theorem wb{K:W.Frag}{h:Heap}{mg:WK}(X:K.In h)(G:h.Ns mainGlobals mg){x:Str}{a:Addr}{o:Obj}{its:Array Value}{n:Nat}(ss:List Str)(e:PySem.W.nsIn K mainGlobals x=some (some (.ref a)))(l:K.lookup a=some o)(hc:o.cls= .type "tuple")(hd:o.data= .seq its n)
 (hz:its.size<=sizeLine) (r:Vals (ss.map V.str) its.toList):Glob K mg x (.tup (ss.map D.str)):=
 ⟨_, .ref a,PySem.W.mg_of X G e,rfl,fun B H=>Rep.tup.mpr ⟨a,_,rfl, .inr ⟨o,its,n,l,hc,hd,hz,r⟩,n4 ss⟩⟩
end L2
end
section
namespace L2
open PySem PySem.Spec PyProof.Rows
theorem qE{t:FT}{body:FS}:∀(ds:List D) (n:Nat) (P:Nat->ak->Prop) {δ:ak},P n δ->
 (∀i d δ,ds[i]? =some d->P (n+i) δ->∃dC,((t d δ).bind body)= .ok (.nx dC)/\P (n+i+1) dC)->∃dC,pk t body ds δ= .ok (.nx dC)/\P (n+ds.length) dC
 | [],n,P,δ,h0,_=>⟨δ,rfl,h0⟩
 | d ::ds,n,P,δ,h0,hs=>by
   obtain⟨δ1,e1,p1⟩:=hs 0 d δ rfl h0;obtain⟨g9,e2,p2⟩:=qE ds (n+1) P p1 (fun i d' dC hi hp=>by
    have:=hs (i+1) d' dC (by simpa using hi) (by rw[show n+(i+1)=n+1+i by omega];exact hp)
    rw[show n+(i+1)+1=n+1+i+1 by omega] at this
    exact this)
   refine⟨g9,?_,by rw[List.length_cons,show n+(ds.length+1)=n+1+ds.length by omega];exact p2⟩
   obtain⟨Wv,h1,h2⟩:=R.ag e1;show(t d δ).bind (fun δ1=>(body δ1).bind fun o=>match o with | .nx g9=>pk t body ds g9 | .rt r=> .ok (.rt r))=_
   rw[h1,R.aH,h2,R.aH];exact e2
theorem er{t:FT}{body:FS}{ds:List D}(P:Nat->ak->Prop){δ:ak}(h0:P 0 δ)
 (hs:∀i d δ,ds[i]? =some d->P i δ->∃dC,((t d δ).bind body)= .ok (.nx dC)/\P (i+1) dC):∃dC,pk t body ds δ= .ok (.nx dC)/\P ds.length dC:=by
 have:=qE (t:=t) (body:=body) ds 0 P h0 (fun i d δ hi hp=>by simpa using hs i d δ hi (by simpa using hp))
 simpa using this
theorem Dz{α:Type} [DecidableEq α]:∀(L F:List α),L.Nodup->(∀x∈L,x∈F)->L.length<=F.length
 | [],_,_,_=>Nat.zero_le _
 | x ::L,F,hn,hs=>by
   obtain⟨h1,h2⟩:=List.nodup_cons.mp hn;have hx:x∈F:=hs x List.mem_cons_self;have ih:=Dz L (F.erase x) h2 (fun y hy=>(List.mem_erase_of_ne (fun(e:y=x)=>h1 (by rw[<-e];exact hy))).mpr (hs y (List.mem_cons_of_mem _ hy)))
   rw[List.length_erase_of_mem hx] at ih;have:0 < F.length:=List.length_pos_of_mem hx;rw[List.length_cons];omega
theorem wZ{α:Type}{xs:List α}{i:Int}(h0:0<=i)(h:i.toNat < xs.length):sI xs i=some xs[i.toNat]:=by
 unfold sI CK;rw[if_pos h0,if_pos (by omega)]
 simp [h]
theorem strs_map:∀ss:List Str,strs? (ss.map D.str)=some ss
 | []=>rfl
 | s ::ss=>by show(strs? (ss.map D.str)).map (s ::·)=_;rw [strs_map ss];rfl
theorem ints_map:∀ss:List Int,ints? (ss.map D.int)=some ss
 | []=>rfl
 | s ::ss=>by show(ints? (ss.map D.int)).map (s ::·)=_;rw [ints_map ss];rfl
theorem iq{a b:Str}(h:a.cps.toList=b.cps.toList):a=b:=by
 obtain⟨a⟩:=a;obtain⟨b⟩:=b;congr 1;exact Array.toList_inj.mp h
theorem c0(a b:Str):(a++b).cps.toList=a.cps.toList++b.cps.toList:=by
 show(a.cps++b.cps).toList=_;simp
theorem Ap(a b c:Str):a++b++c=a++(b++c):=iq (by rw[c0,c0,c0,c0,List.append_assoc])
theorem empty_app(a:Str):Str.empty++a=a:=iq (by rw[c0];rfl)
theorem az{F G:FS}{δ δ1:ak}{r:R Out}(h:F δ= .ok (.nx δ1))(h2:G δ1=r):bF F G δ=r:=by unfold bF;rw [h,R.aH];exact h2
theorem bJ{f:ak->R (List D)}{δ:ak}{ds:List D}(h:f δ= .ok ds):eNew f δ= .ok (.lst ds):=by unfold eNew;rw [h];rfl
theorem mO{c:ak->R Bool}{F G:FS}{δ:ak}{r:R Out}(h:c δ= .ok true)(h2:F δ=r):q8 c F G δ=r:=by unfold q8;rw [h,R.aH,if_pos rfl];exact h2
theorem kI{c:ak->R Bool}{F G:FS}{δ:ak}{r:R Out}(h:c δ= .ok false)(h2:G δ=r):q8 c F G δ=r:=by unfold q8;rw [h,R.aH,if_neg (by decide)];exact h2
theorem iu{it:ak->R (List D)}{F:FS}{δ:ak}{ds:List D}{r:R Out}(h:it δ= .ok ds)(h2:pk t F ds δ=r):oV it t F δ=r:=by unfold oV;rw [h,R.aH];exact h2
theorem cw{f:FD}{δ:ak}{d:D}(h:f δ= .ok d):eK f δ= .ok (.rt d):=by unfold eK;rw [h];rfl
theorem c7{N:List Str}{F:FS}{ds:List D}{d:D}(h:F (bW N ds)= .ok (.rt d)):qe N F ds= .ok d:=by unfold qe;rw [h];rfl
theorem bK{α:Type}{p:Prop} [Decidable p](r:R α)(h:p):R.aS (decide p) r=r:=by rw[decide_eq_true h];rfl
theorem bt{i:Nat}{f:FD}{δ:ak}{d:D}(h:f δ= .ok d)(hi:i < δ.length):cR i f δ= .ok (.nx (δ.set i (.val d))):=by unfold cR;rw [h,R.aH,bK _ hi]
theorem ju{i:Nat}{f:ak->R (List D)}{δ:ak}{ds:List D}(h:f δ= .ok ds)(hi:i < δ.length):mY i f δ= .ok (.nx (δ.set i (.bld ds))):=by unfold mY;rw [h,R.aH,bK _ hi]
theorem ip{i:Nat}{f:FD}{δ:ak}{d:D}{ds:List D}(h:f δ= .ok d)(hb:δ[i]? =some (.bld ds))(hl:ds.length < sizeLine):nW i f δ= .ok (.nx (δ.set i (.bld (ds++[d])))):=by unfold nW rE;rw [h,R.aH,hb];show R.aS _ _=_;rw [bK _ hl]
theorem cK{it:ak->R (List D)}{c:ak->R Bool}{own:List Str}{kp:List Nat}{δ:ak}{ds ys:List D}(h1:it δ= .ok ds)(h2:ds.length<=sizeLine)(h3:nL t c f (oE own kp δ) ds= .ok ys):cx it t c f own kp δ= .ok ys:=by unfold cx;rw [h1,R.aH,bK _ h2,h3]
theorem HC{ds:List D}{i:Int}{d:D}(h:sI ds i=some d):df (.lst ds) (.int i)= .ok d:=by unfold df;simp only[h]
theorem HQ{ds:List D}{i:Int}{d:D}(h:sI ds i=some d):df (.tup ds) (.int i)= .ok d:=by unfold df;simp only[h]
theorem xJ{x:Str}{i:Int}{c:Nat}(hz:x.length<=sizeLine)(h:sI x.cps.toList i=some c):df (.str x) (.int i)= .ok (.str ⟨#[c]⟩):=by unfold df;simp only[h,bK _ hz]
end L2
end
section
namespace L2
open PySem PySem.Spec PyProof.Rows
theorem aw{g:D->D->R D}{fa fb:FD}{δ:ak}{a b:D}{r:R D}(ha:fa δ= .ok a)(hb:fb δ= .ok b)(h:g a b=r):e2 g fa fb δ=r:=by unfold e2;rw [ha,R.aH,hb,R.aH];exact h
theorem cY{g:D->D->R D}{fa fb:FD}{δ:ak}{a b:D}{k:Bool}(ha:fa δ= .ok a)(hb:fb δ= .ok b)(h:g a b= .ok (.bl k)):b2 g fa fb δ= .ok k:=by unfold b2;rw [aw ha hb h];rfl
theorem aq{f:FD}{g:ak->R (List D)}{δ:ak}{d:D}{ds:List D}(h:f δ= .ok d)(h2:g δ= .ok ds):aj f g δ= .ok (d ::ds):=by unfold aj;rw [h,R.aH,h2];rfl
theorem av{g:List D->R D}{fs:ak->R (List D)}{δ:ak}{ds:List D}{r:R D}(h:fs δ= .ok ds)(h2:g ds=r):aM g fs δ=r:=by unfold aM;rw [h,R.aH];exact h2
theorem n8{f:FD}{δ:ak}{d:D}(h:f (my δ)= .ok d)(ha:d.atom=true):lB f δ= .ok d:=by unfold lB;rw [h,R.aH,ha];rfl
theorem ko{g:ak->R (List D)}{δ:ak}{ds:List D}(h:g δ= .ok ds)(hl:ds.length<=sizeLine):n_ g δ= .ok (.tup ds):=by unfold n_;rw [h,R.aH,bK _ hl]
theorem cM{g:ak->R (List D)}{δ:ak}{ds:List D}(h:g δ= .ok ds)(hl:ds.length<=sizeLine):eG g δ= .ok ds:=by unfold eG;rw [h,R.aH,bK _ hl]
theorem jo{g:D->List D->R D}{f:FD}{fs:ak->R (List D)}{δ:ak}{ds:List D}{r:R D}(h:f δ= .ok (.str x))(h2:fs δ= .ok ds)(h3:g (.str x) ds=r):wL "str" g f fs δ=r:=by
 unfold wL;rw [h,R.aH,h2,R.aH];exact h3
theorem lp{f:FD}{fl fh:FO}{δ:ak}{d:D}{lo hi:Option Int}{r:R D}(h:f δ= .ok d)(h1:fl δ= .ok lo)(h2:fh δ= .ok hi)(h3:GS d lo hi=r):xK f fl fh δ=r:=by unfold xK;rw [h,R.aH,h1,R.aH,h2,R.aH];exact h3
theorem fM{f:FD}{δ:ak}{i:Int}(h:f δ= .ok (.int i)):ib f δ= .ok (some i):=by unfold ib;rw [h];rfl
theorem DB{x:Str}{lo hi:Option Int}(h:x.length<=sizeLine):GS (.str x) lo hi= .ok (.str (Txt.slice x lo hi)):=by unfold GS;exact bK _ h
theorem mq{a b:Str}(h:a.length+b.length<=sizeLine):cN (.str a) (.str b)= .ok (.str (a++b)):=by unfold cN;exact bK _ h
theorem qc{a b:List D}(h:a.length+b.length<=sizeLine):cN (.lst a) (.lst b)= .ok (.lst (a++b)):=by unfold cN;exact bK _ h
theorem qw{a b:Int}(h:0 < b):dG (.int a) (.int b)= .ok (.int (a % b)):=by unfold dG DT;exact bK _ h
theorem yW{a b:Int}(h:0 < b)(h2:b < 1073741824):dH (.int a) (.int b)= .ok (.int (a / b)):=by unfold dH DT;exact bK _ ⟨h,h2⟩
theorem FJ{a:Str}{n:Int}(h0:0<=n)(h1:n < 1000)(hl:a.length*n.toNat<=sizeLine):mw (.str a) (.int n)= .ok (.str (Txt.mul a n)):=by unfold mw;exact bK _ ⟨by omega,by omega,hl⟩
theorem F9{f:FD}{δ:ak}{n:Nat}(h:f δ= .ok (.int n))(hn:n < 1000000):d8 f δ= .ok (pQ 0 n):=by
 unfold d8;rw [h,R.aH];show R.aS (decide (-(2 ^ 62)<=(n:Int)/\(n:Int) < 2 ^ 62)) _=_;rw[bK _ ⟨by omega,by omega⟩,Int.toNat_natCast]
theorem eW{f:FD}{δ:ak}{ds:List D}(h:f δ= .ok (.lst ds)):cP f δ= .ok ds:=by unfold cP;rw [h];rfl
theorem AZ{f:FD}{δ:ak}{ds:List D}(h:f δ= .ok (.tup ds)):cP f δ= .ok ds:=by unfold cP;rw [h];rfl
theorem Hz{f:FD}{δ:ak}{ds:List D}(h:f δ= .ok (.lst ds)):rm f δ= .ok (mR ds):=by unfold rm;rw [h];rfl
theorem BY{f:FD}{δ:ak}{b:Bool}(h:f δ= .ok (.bl b)):Kf f δ= .ok b:=by unfold Kf;rw [h];rfl
theorem gE{f:FD}{g:ak->R (List Str)}{δ:ak}{ss:List Str}(h:f δ= .ok (.str x))(h2:g δ= .ok ss):bO f g δ= .ok (x ::ss):=by unfold bO;rw [h,R.aH];show(g δ).bind _=_;rw [h2];rfl
theorem vW{f:FD}{δ:ak}{x:Str}(h:f δ= .ok (.str x))(hl:x.length<=sizeLine):jR f δ= .ok (.str x):=by unfold jR;rw [h,R.aH];unfold Fu;exact bK _ hl
theorem qF{f:FD}{δ:ak}{i:Int}(h:f δ= .ok (.int i))(hl:i.natAbs.log2 < 1920):jR f δ= .ok (.str (toString i)):=by unfold jR;rw [h,R.aH];unfold Fu;exact bK _ hl
theorem ni{g:ak->R (List Str)}{δ:ak}{ss:List Str}(h:g δ= .ok ss)(hl:(ss.foldl (·++·) Str.empty).length<=sizeLine):c3 g δ= .ok (.str (ss.foldl (·++·) Str.empty)):=by unfold c3;rw [h,R.aH,bK _ hl]
theorem LR(ds:List D):fN [.lst ds]= .ok (.int ds.length):=rfl
theorem tG{i:Int}(h:i.natAbs.log2 < 1920):cStr [.int i]= .ok (.str (toString i)):=by unfold cStr;exact bK _ h
end L2
end
section
namespace L3
open PySem PySem.Spec PyProof.Rows L2
inductive V3 where
 | d (x:D) | loc (k:Nat) | lst (vs:List V3) | tup (vs:List V3) | fn (x:Str)
inductive SO where
 | lst (ds:List D) | dct (ay:List (Key × D)) | ins (c:Nat) (fs:List (Str × V3)) | kK | exc (c:Nat)
abbrev aP:=List SO
inductive R3 (α:Type) where
 | ok (a:α) (S:aP) | ex (c:Nat) (S:aP) | no
def R3.bind{α β:Type}:R3 α->(α->aP->R3 β)->R3 β
 | .ok a S,f=>f a S
 | .ex c S,_=> .ex c S
 | .no,_=> .no
theorem R3.ag{α β:Type}{r:R3 α}{f:α->aP->R3 β}{b:β}{S':aP}(h:r.bind f= .ok b S'):∃a S,r= .ok a S/\f a S= .ok b S':=by
 cases r with
 | ok a S=>exact⟨a,S,rfl,h⟩
 | ex c S=>cases h
 | no=>cases h
@[simp] theorem R3.aH{α β:Type}(a:α)(S:aP)(f:α->aP->R3 β):(R3.ok a S).bind f=f a S:=rfl
def R3.aS{α:Type}(c:Bool)(r:R3 α):R3 α:=if c then r else .no
theorem R3.aO{α:Type}{c:Bool}{r:R3 α}{a:α}{S:aP}(h:R3.aS c r= .ok a S):c=true/\r= .ok a S:=by
 cases c with
 | true=>exact⟨rfl,h⟩
 | false=>cases h
def R3.of{α:Type}(r:R α)(S:aP):R3 α:=match r with | .ok a=> .ok a S | _=> .no
theorem R3.of_ok{α:Type}{r:R α}{S S':aP}{a:α}(h:R3.of r S= .ok a S'):r= .ok a/\S'=S:=by
 cases r with
 | ok b=>cases h;exact⟨rfl,rfl⟩
 | ex c=>cases h
 | no=>cases h
structure P3 where
 r:List Addr
 z:List Addr
 f:List Addr
def P3.b(ρ:P3):List Addr:=ρ.r.filter (fun a=>!ρ.f.contains a)++ρ.z
theorem P3.eD{ρ:P3}{a:Addr}:a∈ρ.b↔(a∈ρ.r/\a ∉ ρ.f)\/a∈ρ.z:=by
 unfold P3.b;rw[List.mem_append,List.mem_filter];simp
def P3.push(ρ:P3)(a:Addr):P3:=⟨ρ.r++[a],ρ.z,ρ.f⟩
def P3.cut(ρ:P3)(n:Nat):P3:=⟨ρ.r.take n,ρ.z,ρ.f⟩
mutual
def aT(K:W.Frag)(ρ:P3)(H:Hp):V3->V->Prop
 | .d x,v=>Rep K ρ.b H x v
 | .loc k,v=>∃a,ρ.r[k]? =some a/\v= .ref a
 | .lst vs,v=>∃a xs,v= .ref a/\uR K ρ.b H a xs/\aE K ρ H vs xs
 | .tup vs,v=>∃a xs,v= .ref a/\vT K ρ.b H a xs/\aE K ρ H vs xs
 | .fn x,v=>∃a,PySem.W.nsIn K mainGlobals x=some (some (.ref a))/\v= .ref a
def aE(K:W.Frag)(ρ:P3)(H:Hp):List V3->List V->Prop
 | [],xs=>xs=[]
 | d ::ds,xs=>∃x r,xs=x ::r/\aT K ρ H d x/\aE K ρ H ds r
end
structure Pre (ρ:P3) (H:Hp) (bz:P3) (H':Hp):Prop where
 ba:dw ρ.b H bz.b H'
 zz:bz.z=ρ.z
 zs:∀(b:Addr) (o:HO),b∈ρ.z->H b=some o->H' b=some o
 ext:∀(k:Nat) (a:Addr),ρ.r[k]? =some a->bz.r[k]? =some a
theorem Pre.refl(ρ:P3)(H:Hp):Pre ρ H ρ H:=⟨dw.refl ρ.b H,rfl,fun _ _ _ h=>h,fun _ _ h=>h⟩
theorem Pre.trans(a:Pre ρ H bz H')(b:Pre bz H' DF mD):Pre ρ H DF mD:=⟨a.ba.trans b.ba,b.zz.trans a.zz,fun c o hc h=>b.zs c o (by rw[a.zz];exact hc) (a.zs c o hc h),fun k x h=>b.ext k x (a.ext k x h)⟩
theorem Pre.same(s:aN H H'):Pre ρ H ρ H':=⟨dw.same s,rfl,fun b o _ h=>s b o h,fun _ _ h=>h⟩
theorem vT.ba{K:W.Frag}{B B':List Addr}(p:dw B H B' H'){a:Addr}{xs:List V}(l:vT K B H a xs):vT K B' H' a xs:=
 l.elim (fun z=> .inl ⟨(p.rd z.2 z.1).2,(p.rd z.2 z.1).1⟩) .inr
mutual
theorem aT.pre{K:W.Frag}(p:Pre ρ H bz H'):∀{d:V3} {v:V},aT K ρ H d v->aT K bz H' d v
 | .d x,v,h=>by unfold aT at h ⊢;exact h.ba p.ba
 | .loc k,v,h=>by unfold aT at h ⊢;obtain⟨a,h1,h2⟩:=h;exact⟨a,p.ext k a h1,h2⟩
 | .lst vs,v,h=>by unfold aT at h ⊢;obtain⟨a,xs,e,l,r⟩:=h;exact⟨a,xs,e,l.ba p.ba,aE.pre p r⟩
 | .tup vs,v,h=>by unfold aT at h ⊢;obtain⟨a,xs,e,l,r⟩:=h;exact⟨a,xs,e,vT.ba p.ba l,aE.pre p r⟩
 | .fn x,v,h=>by unfold aT at h ⊢;exact h
theorem aE.pre{K:W.Frag}(p:Pre ρ H bz H'):∀{ds:List V3} {xs:List V},aE K ρ H ds xs->aE K bz H' ds xs
 | [],_,h=>by unfold aE at h ⊢;exact h
 | d ::ds,xs,h=>by
   unfold aE at h ⊢;obtain⟨x,r,e,h1,h2⟩:=h;exact⟨x,r,e,aT.pre p h1,aE.pre p h2⟩
end
structure PW (ρ:P3) (H:Hp) (bz:P3) (H':Hp):Prop where
 ba:dw ρ.b H bz.b H'
 ext:∀(k:Nat) (a:Addr),ρ.r[k]? =some a->bz.r[k]? =some a
theorem Pre.pw(p:Pre ρ H bz H'):PW ρ H bz H':=⟨p.ba,p.ext⟩
theorem PW.trans(a:PW ρ H bz H')(b:PW bz H' DF mD):PW ρ H DF mD:=⟨a.ba.trans b.ba,fun k x h=>b.ext k x (a.ext k x h)⟩
mutual
theorem aT.pw{K:W.Frag}(p:PW ρ H bz H'):∀{d:V3} {v:V},aT K ρ H d v->aT K bz H' d v
 | .d x,v,h=>by unfold aT at h ⊢;exact h.ba p.ba
 | .loc k,v,h=>by unfold aT at h ⊢;obtain⟨a,h1,h2⟩:=h;exact⟨a,p.ext k a h1,h2⟩
 | .lst vs,v,h=>by unfold aT at h ⊢;obtain⟨a,xs,e,l,r⟩:=h;exact⟨a,xs,e,l.ba p.ba,aE.pw p r⟩
 | .tup vs,v,h=>by unfold aT at h ⊢;obtain⟨a,xs,e,l,r⟩:=h;exact⟨a,xs,e,vT.ba p.ba l,aE.pw p r⟩
 | .fn x,v,h=>by unfold aT at h ⊢;exact h
theorem aE.pw{K:W.Frag}(p:PW ρ H bz H'):∀{ds:List V3} {xs:List V},aE K ρ H ds xs->aE K bz H' ds xs
 | [],_,h=>by unfold aE at h ⊢;exact h
 | d ::ds,xs,h=>by
   unfold aE at h ⊢;obtain⟨x,r,e,h1,h2⟩:=h;exact⟨x,r,e,aT.pw p h1,aE.pw p h2⟩
end
theorem aE.nil{K:W.Frag}:aE K ρ H [] []:=by unfold aE;rfl
theorem aE.cons{K:W.Frag}{d:V3}{ds:List V3}{x:V}{xs:List V}(h:aT K ρ H d x)(t:aE K ρ H ds xs):aE K ρ H (d ::ds) (x ::xs):=by
 unfold aE;exact⟨x,xs,rfl,h,t⟩
theorem aE.b6{K:W.Frag}{d:V3}{ds:List V3}{xs:List V}(h:aE K ρ H (d ::ds) xs):∃x r,xs=x ::r/\aT K ρ H d x/\aE K ρ H ds r:=by
 unfold aE at h;exact h
theorem aE.length{K:W.Frag}:∀{ds:List V3} {xs:List V},aE K ρ H ds xs->ds.length=xs.length
 | [],_,h=>by unfold aE at h;rw [h];rfl
 | d ::ds,xs,h=>by
   obtain⟨x,r,rfl,_,h2⟩:=h.b6;simp [h2.length]
theorem aE.of{K:W.Frag}{ρ:P3}:∀{ds:List D} {xs:List V},aD K ρ.b H ds xs->aE K ρ H (ds.map .d) xs
 | [],_,h=>by unfold aD at h;subst h;exact aE.nil
 | d ::ds,xs,h=>by
   obtain⟨x,r,rfl,h1,h2⟩:=h.b6;exact aE.cons (by unfold aT;exact h1) (aE.of h2)
theorem aE.to{K:W.Frag}{ρ:P3}:∀{ds:List D} {xs:List V},aE K ρ H (ds.map .d) xs->aD K ρ.b H ds xs
 | [],_,h=>by unfold aE at h;subst h;exact aD.nil
 | d ::ds,xs,h=>by
   obtain⟨x,r,rfl,h1,h2⟩:=aE.b6 h;unfold aT at h1;exact aD.cons h1 (aE.to h2)
def isExc(C b:Addr):Heap->Prop:=fun h=>∃o,h.get? b=some o/\o.cls= .ref C
def CH(K:W.Frag)(cl:WL)(ρ:P3)(H:Hp):SO->Option HO->Prop
 | .lst ds,h=>∃xs,h=some (.lst xs)/\aD K ρ.b H ds xs
 | .dct ay,h=>∃ys,h=some (.dK ys)/\ys.map (·.1)=ay.map (·.1)/\aD K ρ.b H (ay.map (·.2)) (ys.map (·.2))
 | .ins c fs,h=>∃dx ys,h=some (.ins (cl c) dx ys)/\ys.map (·.1)=fs.map (·.1)/\aE K ρ H (fs.map (·.2)) (ys.map (·.2))
 | .kK,h=>∃u,h=some u
 | .exc c,h=>∃b,h=some (.ext (isExc (cl c) b))
theorem CH.pre{K:W.Frag}{cl:WL}(p:Pre ρ H bz H'){o:SO}{h:Option HO}(r:CH K cl ρ H o h):CH K cl bz H' o h:=by
 cases o with
 | lst ds=>obtain⟨xs,e,q⟩:=r;exact⟨xs,e,q.ba p.ba⟩
 | dct ay=>obtain⟨ys,e,e2,q⟩:=r;exact⟨ys,e,e2,q.ba p.ba⟩
 | ins c fs=>obtain⟨dx,ys,e,e2,q⟩:=r;exact⟨dx,ys,e,e2,q.pre p⟩
 | kK=>exact r
 | exc c=>exact r
theorem CH.pw{K:W.Frag}{cl:WL}(p:PW ρ H bz H'){o:SO}{h:Option HO}(r:CH K cl ρ H o h):CH K cl bz H' o h:=by
 cases o with
 | lst ds=>obtain⟨xs,e,q⟩:=r;exact⟨xs,e,q.ba p.ba⟩
 | dct ay=>obtain⟨ys,e,e2,q⟩:=r;exact⟨ys,e,e2,q.ba p.ba⟩
 | ins c fs=>obtain⟨dx,ys,e,e2,q⟩:=r;exact⟨dx,ys,e,e2,q.pw p⟩
 | kK=>exact r
 | exc c=>exact r
theorem CH.some{K:W.Frag}{cl:WL}{o:SO}{h:Option HO}(r:CH K cl ρ H o h):∃u,h=some u:=by
 cases o with
 | lst ds=>obtain⟨xs,e,q⟩:=r;exact⟨_,e⟩
 | dct ay=>obtain⟨ys,e,e2,q⟩:=r;exact⟨_,e⟩
 | ins c fs=>obtain⟨dx,ys,e,e2,q⟩:=r;exact⟨_,e⟩
 | kK=>exact r
 | exc c=>obtain⟨b,e⟩:=r;exact⟨_,e⟩
structure SW (K:W.Frag) (cl:WL) (ρ:P3) (H:Hp) (S:aP):Prop where
 len:ρ.r.length=S.length
 nd:∀(i j:Nat) (a:Addr),ρ.r[i]? =some a->ρ.r[j]? =some a->i=j
 ob:∀(k:Nat) (a:Addr) (o:SO),ρ.r[k]? =some a->S[k]? =some o->CH K cl ρ H o (H a)
 zb:∀b∈ρ.z,(∃xs,H b=some (.lst xs))/\b ∉ ρ.r
 fz:∀(k:Nat) (a:Addr),ρ.r[k]? =some a->S[k]?≠some .kK->a ∉ ρ.f
 ff:∀a∈ρ.f,∃o,H a=some o
 fi:∀(k:Nat) (a:Addr),ρ.r[k]? =some a->S[k]? =some .kK->a∈ρ.f
theorem SW.rs{K:W.Frag}{cl:WL}{ρ:P3}{H:Hp}{S:aP}(w:SW K cl ρ H S):∀a∈ρ.r,∃o,H a=some o:=fun a z=>by
 obtain⟨k,hk⟩:=List.getElem?_of_mem z;have hl:=(List.getElem?_eq_some_iff.mp hk).1;exact(w.ob k a _ hk (List.getElem?_eq_getElem (by rw[<-w.len];exact hl))).some
theorem SW.bs{K:W.Frag}{cl:WL}{ρ:P3}{H:Hp}{S:aP}(w:SW K cl ρ H S):∀a∈ρ.b,∃o,H a=some o:=fun a ha=>by
 rcases P3.eD.mp ha with z | z
 .exact w.rs a z.1
 .obtain⟨xs,h⟩:=(w.zb a z).1;exact⟨_,h⟩
theorem SW.same{K:W.Frag}{cl:WL}{S:aP}(w:SW K cl ρ H S)(s:aN H H'):SW K cl ρ H' S:=
 ⟨w.len,w.nd,fun k a o h1 h2=>by
   have r:=w.ob k a o h1 h2;obtain⟨u,hu⟩:=r.some;rw[s a u hu,<-hu];exact r.pre (Pre.same s),fun b hb=>let⟨⟨o,ho⟩,n⟩:=w.zb b hb;⟨⟨o,s b _ ho⟩,n⟩,w.fz,fun a ha=>let⟨o,ho⟩:=w.ff a ha;⟨o,s a o ho⟩,w.fi⟩
theorem P3.mem_push{ρ:P3}{a b:Addr}(h:b∈(ρ.push a).b):b∈ρ.b\/b=a:=by
 rcases P3.eD.mp h with⟨z,n⟩ | z
 .rcases List.mem_append.mp z with y | y
  .exact .inl (P3.eD.mpr (.inl ⟨y,n⟩))
  .exact .inr (List.mem_singleton.mp y)
 .exact .inl (P3.eD.mpr (.inr z))
theorem SW.new{K:W.Frag}{cl:WL}{ρ:P3}{H H':Hp}{S:aP}(w:SW K cl ρ H S){a:Addr}{o:SO}(s:aN H H')(n:H a=none)(r:CH K cl (ρ.push a) H' o (H' a))(qh:o≠SO.kK:=by intro h;cases h) :
 SW K cl (ρ.push a) H' (S++[o])/\Pre ρ H (ρ.push a) H':=by
 have na:a ∉ ρ.b:=fun ha=>by obtain⟨o,ho⟩:=w.bs a ha;rw [n] at ho;cases ho
 have nr:a ∉ ρ.r:=fun ha=>by obtain⟨o,ho⟩:=w.rs a ha;rw [n] at ho;cases ho
 have nf:a ∉ ρ.f:=fun ha=>by obtain⟨o,ho⟩:=w.ff a ha;rw [n] at ho;cases ho
 have p:Pre ρ H (ρ.push a) H':=⟨fun b u e nb=>⟨s b u e,fun hb=>by
  rcases P3.mem_push hb with z | z
  .exact nb z
  .subst z;rw [n] at e;cases e⟩,rfl,fun b o _ h=>s b o h,fun k x hx=>by
   show(ρ.r++[a])[k]? =_;rw[List.getElem?_append_left (List.getElem?_eq_some_iff.mp hx).1];exact hx⟩
 have last:∀(i:Nat) (b:Addr),(ρ.push a).r[i]? =some b->(i < ρ.r.length/\ρ.r[i]? =some b)\/(i=ρ.r.length/\b=a):=fun i b h=>by
  have h:(ρ.r++[a])[i]? =some b:=h;by_cases q:i < ρ.r.length
  .rw [List.getElem?_append_left q] at h;exact .inl ⟨q,h⟩
  .rw [List.getElem?_append_right (by omega)] at h
   have h0:i - ρ.r.length=0:=by
    have:=(List.getElem?_eq_some_iff.mp h).1;simp at this;omega
   rw[h0] at h;cases h;exact .inr ⟨by omega,rfl⟩
 refine⟨⟨by show(ρ.r++[a]).length=_;rw [List.length_append,List.length_append,w.len];rfl,fun i j b hi hj=>?_,fun k b u hk hu=>?_,fun b hb=>?_,fun k b hk hu=>?_,fun b hb=>?_,fun k b hk hu=>?_⟩,p⟩
 .rcases last i b hi with⟨q1,q2⟩ | ⟨q1,rfl⟩
  .rcases last j b hj with⟨z1,z2⟩ | ⟨z1,rfl⟩
   .exact w.nd i j b q2 z2
   .exact absurd (List.mem_of_getElem? q2) nr
  .rcases last j b hj with⟨z1,z2⟩ | ⟨z1,z3⟩
   .exact absurd (List.mem_of_getElem? z2) nr
   .omega
 .rcases last k b hk with⟨q1,q2⟩ | ⟨q1,rfl⟩
  .rw [List.getElem?_append_left (by rw[<-w.len];exact q1)] at hu
   have r0:=w.ob k b u q2 hu;obtain⟨x,hx⟩:=r0.some;rw[s b x hx,<-hx];exact r0.pre p
  .rw [List.getElem?_append_right (by rw[<-w.len];omega),q1,w.len,Nat.sub_self] at hu
   cases hu;exact r
 .obtain⟨⟨o,ho⟩,nb⟩:=w.zb b hb;refine⟨⟨o,s b _ ho⟩,fun h=>?_⟩
  rcases List.mem_append.mp h with y | y
  .exact nb y
  .rw [List.mem_singleton] at y;subst y;rw [n] at ho;cases ho
 .rcases last k b hk with⟨q1,q2⟩ | ⟨q1,rfl⟩
  .rw [List.getElem?_append_left (by rw[<-w.len];exact q1)] at hu
   exact w.fz k b q2 hu
  .exact nf
 .obtain⟨o,ho⟩:=w.ff b hb;exact⟨o,s b o ho⟩
 .rcases last k b hk with⟨q1,q2⟩ | ⟨q1,rfl⟩
  .rw [List.getElem?_append_left (by rw[<-w.len];exact q1)] at hu
   exact w.fi k b q2 hu
  .rw [List.getElem?_append_right (by rw[<-w.len];omega),q1,w.len,Nat.sub_self] at hu
   cases hu;exact absurd rfl qh
theorem SW.put{K:W.Frag}{cl:WL}{ρ:P3}{S:aP}(w:SW K cl ρ H S){k:Nat}{a:Addr}{o:SO}{u:HO}(hk:ρ.r[k]? =some a)(hf:a ∉ ρ.f)(r:CH K cl ρ H o (some u))(qh:o≠SO.kK:=by intro h;cases h) :
 SW K cl ρ (upd H a u) (S.set k o)/\Pre ρ H ρ (upd H a u):=by
 have ha:a∈ρ.r:=List.mem_of_getElem? hk;have hb:a∈ρ.b:=P3.eD.mpr (.inl ⟨ha,hf⟩);have nz:∀b∈ρ.z,b≠a:=fun b hb z=>(w.zb b hb).2 (by rw[z];exact ha)
 have p:Pre ρ H ρ (upd H a u):=⟨fun b x e nb=>⟨by rw[bb (fun(z:b=a)=>nb (by rw[z];exact hb))];exact e,nb⟩,rfl,fun b o hb h=>by rw[bb (nz b hb)];exact h,fun _ _ h=>h⟩
 have hl:k < S.length:=by rw[<-w.len];exact(List.getElem?_eq_some_iff.mp hk).1
 refine⟨⟨by rw[List.length_set];exact w.len,w.nd,fun j b x hj hx=>?_,fun b hb=>?_,fun j b hj hx=>?_,fun b hb=>?_,fun j b hj hx=>?_⟩,p⟩
 .by_cases q:k=j
  .subst q;rw[hk] at hj;cases hj;rw[List.getElem?_set_self hl] at hx;cases hx;rw[aX];exact r.pre p
  .rw [List.getElem?_set_ne q] at hx;have ne:b≠a:=fun z=>by subst z;exact q (w.nd k j b hk hj)
   rw[bb ne];exact(w.ob j b x hj hx).pre p
 .obtain⟨⟨o,ho⟩,nb⟩:=w.zb b hb;exact⟨⟨o,by rw[bb (nz b hb)];exact ho⟩,nb⟩
 .by_cases q:k=j
  .subst q;rw[hk] at hj;cases hj;exact hf
  .rw [List.getElem?_set_ne q] at hx;exact w.fz j b hj hx
 .obtain⟨o,ho⟩:=w.ff b hb;exact⟨o,by rw[bb (fun z=>hf (by rw[<-z];exact hb))];exact ho⟩
 .by_cases q:k=j
  .subst q;rw[List.getElem?_set_self hl] at hx;cases hx;exact absurd rfl qh
  .rw [List.getElem?_set_ne q] at hx;exact w.fi j b hj hx
mutual
def yb:D->Bool
 | .lst _=>false
 | .dct _ _=>false
 | .tup ds=>wa ds
 | _=>true
def wa:List D->Bool
 | []=>true
 | d ::ds=>yb d && wa ds
end
mutual
theorem Rep.za{K:W.Frag}{B:List Addr}(hB:∀b∈B,∀xs,¬Rd H b (.tup xs)):∀{d:D} {v:V},yb d=true->Rep K [] H d v->Rep K B H d v
 | .cz,v,_,r=>Rep.cz.mpr (Rep.cz.mp r)
 | .bl _,v,_,r=>Rep.bl.mpr (Rep.bl.mp r)
 | .int _,v,_,r=>Rep.int.mpr (Rep.int.mp r)
 | .str _,v,_,r=>Rep.str.mpr (Rep.str.mp r)
 | .lst _,v,h,_=>by unfold yb at h;cases h
 | .dct _ _,v,h,_=>by unfold yb at h;cases h
 | .tup ds,v,h,r=>by
   unfold yb at h;obtain⟨a,xs,rfl,l,rs⟩:=Rep.tup.mp r;exact Rep.tup.mpr ⟨a,xs,rfl,l.elim (fun z=> .inl ⟨fun hb=>hB a hb xs z.2,z.2⟩) .inr,aD.za hB h rs⟩
theorem aD.za{K:W.Frag}{B:List Addr}(hB:∀b∈B,∀xs,¬Rd H b (.tup xs)):∀{ds:List D} {vs:List V},wa ds=true->aD K [] H ds vs->aD K B H ds vs
 | [],_,_,r=>by unfold aD at r;subst r;exact aD.nil
 | d ::ds,vs,h,r=>by
   unfold wa at h;obtain⟨h1,h2⟩:=Bool.and_eq_true_iff.mp h;obtain⟨x,xs,rfl,r1,r2⟩:=r.b6;exact aD.cons (Rep.za hB h1 r1) (aD.za hB h2 r2)
end
abbrev DE:=List (Option V3)
structure d6 (K:W.Frag) (cl:WL) (ρ:P3) (H:Hp) (S:aP) (σ:L2.St) (δ:DE):Prop where
 len:δ.length=σ.length
 sw:SW K cl ρ H S
 val:∀(i:Nat) (d:V3),δ[i]? =some (some d)->∃v,σ[i]? =some (some v)/\aT K ρ H d v
theorem d6.to{K:W.Frag}{cl:WL}{S S':aP}{σ:L2.St}{δ:DE}(E:d6 K cl ρ H S σ δ)(p:Pre ρ H bz H')(w:SW K cl bz H' S'):d6 K cl bz H' S' σ δ:=
 ⟨E.len,w,fun i d e=>let⟨v,h1,h2⟩:=E.val i d e;⟨v,h1,h2.pre p⟩⟩
theorem d6.set{K:W.Frag}{cl:WL}{S:aP}{σ:L2.St}{δ:DE}(E:d6 K cl ρ H S σ δ){i:Nat}{d:V3}{v:V}(hi:i < σ.length)(r:aT K ρ H d v):d6 K cl ρ H S (σ.set i (some v)) (δ.set i (some d)):=
 ⟨by rw[List.length_set,List.length_set];exact E.len,E.sw,fun j d' e=>by
   by_cases h:i=j
   .subst h;rw[List.getElem?_set_self (by rw[E.len];exact hi)] at e
    cases e;exact⟨v,List.getElem?_set_self hi,r⟩
   .rw [List.getElem?_set_ne h] at e ⊢;exact E.val j d' e⟩
def down(δ:DE):ak:=δ.map fun x=>match x with | some (.d d)=> .val d | _=> .un
theorem d6.down{K:W.Frag}{cl:WL}{ρ:P3}{S:aP}{σ:L2.St}{δ:DE}(E:d6 K cl ρ H S σ δ):dq K [] ρ.b H σ (down δ) where
 len:=by unfold L3.down;rw [List.length_map];exact E.len
 bs:=E.sw.bs
 zb:=fun a ha=>by cases ha
 val:=fun i d e=>by
  unfold L3.down at e;rw[List.getElem?_map] at e;cases q:δ[i]? with
  | none=>rw [q] at e;cases e
  | some x=>
    rw[q] at e
    match x,e,q with
    | some (.d y),e,q=>
      cases e;obtain⟨v,h1,h2⟩:=E.val i _ q;unfold aT at h2;exact⟨v,h1,h2⟩
    | some (.loc k),e,q=>cases e
    | some (.lst k),e,q=>cases e
    | some (.tup k),e,q=>cases e
    | none,e,q=>cases e
 bld:=fun i ds e=>by
  unfold L3.down at e;rw[List.getElem?_map] at e;cases q:δ[i]? with
  | none=>rw [q] at e;cases e
  | some x=>
    rw[q] at e
    match x,e with
    | some (.d y),e=>cases e
    | some (.loc k),e=>cases e
    | some (.lst k),e=>cases e
    | some (.tup k),e=>cases e
    | none,e=>cases e
 dis:=fun i j a ds es e=>by
  unfold L3.down at e;rw[List.getElem?_map] at e;cases q:δ[i]? with
  | none=>rw [q] at e;cases e
  | some x=>
    rw[q] at e
    match x,e with
    | some (.d y),e=>cases e
    | some (.loc k),e=>cases e
    | some (.lst k),e=>cases e
    | some (.tup k),e=>cases e
    | none,e=>cases e
mutual
def res(S:aP):V3->Option D
 | .d x=>some x
 | .loc k=>(match S[k]? with | some (.lst ds)=>some (.lst ds) | some (.dct ay)=>some (.dct (ay.map (·.1)) (ay.map (·.2))) | _=>none)
 | .lst vs=>(wY S vs).map D.lst
 | .tup vs=>(wY S vs).map D.tup
 | .fn _=>none
def wY(S:aP):List V3->Option (List D)
 | []=>some []
 | v ::vs=>(res S v).bind fun d=>(wY S vs).map (d ::·)
end
def k_(S:aP)(δ:DE):ak:=δ.map fun x=>match x with | some v=>(match res S v with | some d=> .val d | none=> .un) | none=> .un
theorem oW{α β:Type}{o:Option α}{f:α->β}{b:β}(h:o.map f=some b):∃a,o=some a/\f a=b:=by
 cases o with
 | none=>cases h
 | some a=>cases h;exact⟨a,rfl,rfl⟩
theorem ye{α β:Type}{o:Option α}{f:α->Option β}{b:β}(h:o.bind f=some b):∃a,o=some a/\f a=some b:=by
 cases o with
 | none=>cases h
 | some a=>exact⟨a,rfl,h⟩
mutual
def lI(n:Nat):V3->Bool
 | .d _=>true
 | .loc k=>decide (n<=k)
 | .lst vs=>pj n vs
 | .tup vs=>pj n vs
 | .fn _=>true
def pj(n:Nat):List V3->Bool
 | []=>true
 | v ::vs=>lI n v && pj n vs
end
mutual
theorem aT.resB{K:W.Frag}{cl:WL}{ρ:P3}{S:aP}{B':List Addr}{n:Nat}(w:SW K cl ρ H S)(p:dw ρ.b H B' H)(hn:∀(k:Nat) (a:Addr),n<=k->ρ.r[k]? =some a->a ∉ B'):∀{v:V3} {d:D} {x:V},lI n v=true->res S v=some d->aT K ρ H v x->Rep K B' H d x
 | .d y,d,x,_,h,r=>by unfold L3.res at h;cases h;unfold aT at r;exact r.ba p
 | .fn y,d,x,_,h,r=>by unfold L3.res at h;cases h
 | .loc k,d,x,g,h,r=>by
   unfold L3.res at h;unfold aT at r;unfold lI at g;obtain⟨a,h1,rfl⟩:=r;split at h
   .rename_i ds e;cases h;obtain⟨xs,e2,q⟩:=w.ob k a _ h1 e;unfold Rep;exact⟨a,xs,rfl, .inl ⟨hn k a (of_decide_eq_true g) h1, .inl e2⟩,q.ba p⟩
   .rename_i ay e;cases h;obtain⟨ys,e2,e3,q⟩:=w.ob k a _ h1 e;unfold Rep;exact⟨a,ys,rfl,⟨hn k a (of_decide_eq_true g) h1,e2⟩,e3,q.ba p⟩
   .cases h
 | .lst vs,d,x,g,h,r=>by
   unfold L3.res at h;unfold lI at g;obtain⟨ds,e,rfl⟩:=oW h;unfold aT at r;obtain⟨a,xs,rfl,l,r⟩:=r;unfold Rep;exact⟨a,xs,rfl,l.ba p,aE.resB w p hn g e r⟩
 | .tup vs,d,x,g,h,r=>by
   unfold L3.res at h;unfold lI at g;obtain⟨ds,e,rfl⟩:=oW h;unfold aT at r;obtain⟨a,xs,rfl,l,r⟩:=r;unfold Rep;exact⟨a,xs,rfl,vT.ba p l,aE.resB w p hn g e r⟩
theorem aE.resB{K:W.Frag}{cl:WL}{ρ:P3}{S:aP}{B':List Addr}{n:Nat}(w:SW K cl ρ H S)(p:dw ρ.b H B' H)(hn:∀(k:Nat) (a:Addr),n<=k->ρ.r[k]? =some a->a ∉ B'):∀{vs:List V3} {ds:List D} {xs:List V},pj n vs=true->wY S vs=some ds->aE K ρ H vs xs->aD K B' H ds xs
 | [],ds,xs,_,h,r=>by unfold wY at h;cases h;unfold aE at r;subst r;exact aD.nil
 | v ::vs,ds,xs,g,h,r=>by
   unfold wY at h;unfold pj at g;obtain⟨g1,g2⟩:=Bool.and_eq_true_iff.mp g;obtain⟨d,e1,h2⟩:=ye h;obtain⟨es,e2,rfl⟩:=oW h2;obtain⟨y,ys,rfl,r1,r2⟩:=r.b6;exact aD.cons (aT.resB w p hn g1 e1 r1) (aE.resB w p hn g2 e2 r2)
end
mutual
theorem sG:∀v:V3,lI 0 v=true
 | .d _=>by unfold lI;rfl
 | .loc k=>by unfold lI;exact decide_eq_true (Nat.zero_le _)
 | .lst vs=>by unfold lI;exact mZ vs
 | .tup vs=>by unfold lI;exact mZ vs
 | .fn _=>by unfold lI;rfl
theorem mZ:∀vs:List V3,pj 0 vs=true
 | []=>by unfold pj;rfl
 | v ::vs=>by unfold pj;rw [sG v,mZ vs];rfl
end
theorem aT.res{K:W.Frag}{cl:WL}{S:aP}(w:SW K cl ρ H S){v:V3}{d:D}{x:V}(h:res S v=some d)(r:aT K ρ H v x):Rep K [] H d x:=
 r.resB w (fun b o e _=>⟨e,by simp⟩) (n:=0) (fun _ _ _ _=>by simp) (sG v) h
theorem oO{S:aP}{δ:DE}{i:Nat}{y:Sl}(e:(k_ S δ)[i]? =some y):(∃v d,δ[i]? =some (some v)/\res S v=some d/\y= .val d)\/y= .un:=by
 unfold k_ at e;rw[List.getElem?_map] at e;cases q:δ[i]? with
 | none=>rw [q] at e;cases e
 | some x=>
   rw[q] at e;cases x with
   | none=>cases e;exact .inr rfl
   | some v=>
     cases z:res S v with
     | none=>
       have e:some (match res S v with | some d=>Sl.val d | none=> .un)=some y:=e
       rw[z] at e;cases e;exact .inr rfl
     | some d=>
       have e:some (match res S v with | some d=>Sl.val d | none=> .un)=some y:=e
       rw[z] at e;cases e;exact .inl ⟨v,d,rfl,z,rfl⟩
theorem d6.k_{K:W.Frag}{cl:WL}{S:aP}{σ:L2.St}{δ:DE}(E:d6 K cl ρ H S σ δ):dq K [] [] H σ (k_ S δ) where
 len:=by unfold L3.k_;rw [List.length_map];exact E.len
 bs:=fun a ha=>by cases ha
 zb:=fun a ha=>by cases ha
 val:=fun i d e=>by
  rcases oO e with⟨v,d',h1,h2,h3⟩ | h
  .cases h3;obtain⟨x,q1,q2⟩:=E.val i v h1;exact⟨x,q1,q2.res E.sw h2⟩
  .cases h
 bld:=fun i ds e=>by
  rcases oO e with⟨v,d',h1,h2,h3⟩ | h
  .cases h3
  .cases h
 dis:=fun i j a ds es e=>by
  rcases oO e with⟨v,d',h1,h2,h3⟩ | h
  .cases h3
  .cases h
abbrev FX:=DE->aP->R3 V3
abbrev FB:=DE->aP->R3 Bool
abbrev FA:=DE->aP->R3 (List V3)
def tX(K:W.Frag)(cl:WL)(f:FX):TE:=fun σ H Q=>∃ρ S δ v S',d6 K cl ρ H S σ δ/\f δ S= .ok v S'/\∀u bz H',Pre ρ H bz H'->SW K cl bz H' S'->aT K bz H' v u->Q u H'
def HZ(K:W.Frag)(cl:WL)(f:FB):TT:=fun σ H Q=>∃ρ S δ b S',d6 K cl ρ H S σ δ/\f δ S= .ok b S'/\∀bz H',Pre ρ H bz H'->SW K cl bz H' S'->Q b H'
def Qy(K:W.Frag)(cl:WL)(f:FA):TA:=fun σ H Q=>∃ρ S δ vs S',d6 K cl ρ H S σ δ/\f δ S= .ok vs S'/\∀us bz H',Pre ρ H bz H'->SW K cl bz H' S'->aE K bz H' vs us->Q us H'
structure PX (X:Cx) (cl:WL) (e:Expr) (f:FX):Prop where
 go:PE X e (tX X.K cl f)
structure zV (X:Cx) (cl:WL) (e:Expr) (f:FB):Prop where
 go:PT X e (HZ X.K cl f)
structure JL (X:Cx) (cl:WL) (es:List Expr) (f:FA):Prop where
 go:PA X es (Qy X.K cl f)
section
variable {X:Cx} {cl:WL}
def xP(f:FD):FX:=fun δ S=>(R3.of (f (down δ)) S).bind fun d S=> .ok (.d d) S
theorem aG(h:QD X e f):PX X cl e (xP f):=⟨h.1.imp fun σ H Q ⟨ρ,S,δ,v,S',E,hf,q⟩=>by
 obtain⟨d,S1,h1,h2⟩:=R3.ag hf;obtain⟨h3,e3⟩:=R3.of_ok h1;cases h2;subst e3;exact⟨[],ρ.b,down δ,d,E.down,h3,fun v H' s r=>q v ρ H' (Pre.same s) (E.sw.same s) (by unfold aT;exact r)⟩⟩
def xT(f:FD):FX:=fun δ S=>(R3.of (f (k_ S δ)) S).bind fun d S=>R3.aS (yb d) (.ok (.d d) S)
def bP(f:ak->R Bool):FB:=fun δ S=>R3.of (f (down δ)) S
theorem lR{f:ak->R Bool}(h:QB X e f):zV X cl e (bP f):=⟨h.1.imp fun σ H Q ⟨ρ,S,δ,v,S',E,hf,q⟩=>by
 obtain⟨h1,e3⟩:=R3.of_ok hf;subst e3;exact⟨[],ρ.b,down δ,v,E.down,h1,fun H' s=>q ρ H' (Pre.same s) (E.sw.same s)⟩⟩
def bT(f:ak->R Bool):FB:=fun δ S=>R3.of (f (k_ S δ)) S
theorem uZ{f:ak->R Bool}(h:QB X e f):zV X cl e (bT f):=⟨h.1.imp fun σ H Q ⟨ρ,S,δ,v,S',E,hf,q⟩=>by
 obtain⟨h1,e3⟩:=R3.of_ok hf;subst e3;exact⟨[],[],k_ _ δ,v,E.k_,h1,fun H' s=>q ρ H' (Pre.same s) (E.sw.same s)⟩⟩
def cy(i:Nat):FX:=fun δ S=>match δ[i]? with | some (some v)=> .ok v S | _=> .no
theorem bj(i:Nat){x:Str}{pos:Pos}(hN:X.N[i]? =some x:=by rfl)(hv:G7 X.env.scope x:=by first | exact Or.inl rfl | exact Or.inr (Or.inl rfl) | exact Or.inr (Or.inr rfl))(hd:(x==("__debug__":Str))=false:=by decide)
 (rK:(x==("__classdict__":Str))=false:=by decide):PX X cl (.Name x pos) (cy i):=⟨(t8 hN hv hd rK).imp fun σ H Q ⟨ρ,S,δ,v,S',E,hf,q⟩=>by
 unfold cy at hf;split at hf
 .rename_i d' e;cases hf;obtain⟨u,h1,h2⟩:=E.val i _ e;exact⟨u,h1,q u ρ H (Pre.refl ρ H) E.sw h2⟩
 .cases hf⟩
def Bk(f:ak->R (List D)):FX:=fun δ S=>(R3.of (f (down δ)) S).bind fun ds S=> .ok (.loc S.length) (S++[.lst ds])
theorem xr{f:ak->R (List D)}(h:QN X e f):PX X cl e (Bk f):=⟨h.1.imp fun σ H Q ⟨ρ,S,δ,v,S',E,hf,q⟩=>by
 obtain⟨ds,S1,h1,h2⟩:=R3.ag hf;obtain⟨h3,e3⟩:=R3.of_ok h1;cases h2;subst e3;refine⟨[],ρ.b,down δ,ds,E.down,h3,fun a xs H' s n e r=>?_⟩
 have r':aD X.K (ρ.push a).b H' ds xs:=r.ba fun b o e nb=>⟨e,fun hb=>nb (by
  rcases P3.mem_push hb with z | z
  .exact List.mem_cons_of_mem _ z
  .subst z;exact List.mem_cons_self)⟩
 obtain⟨w,p⟩:=E.sw.new (o:= .lst ds) s n ⟨xs,e,r'⟩;exact q _ _ H' p w (by unfold aT;exact⟨a,by show(ρ.r++[a])[_]? =_;rw [<-E.sw.len,List.getElem?_append_right (by omega),Nat.sub_self];rfl,rfl⟩)⟩
end
end L3
end
section
namespace L3
open PySem PySem.Spec PyProof.Rows L2
section
variable {X:Cx} {cl:WL}
def ee:FA:=fun _ S=> .ok [] S
def bE(f:FX)(g:FA):FA:=fun δ S=>(f δ S).bind fun v S1=>(g δ S1).bind fun vs S2=> .ok (v ::vs) S2
theorem bY:JL X cl [] ee:=⟨fZ.imp fun σ H Q ⟨ρ,S,δ,v,S',E,hf,q⟩=>by
 cases hf;exact q [] ρ H (Pre.refl ρ H) E.sw aE.nil⟩
theorem aY(h:PX X cl e f)(t:JL X cl es g)(hs:starEach (e ::es) X.env=(false,eval e X.env) ::starEach es X.env:=by rfl):JL X cl (e ::es) (bE f g):=
 ⟨(de h.1 t.1 hs).imp fun σ H Q ⟨ρ,S,δ,v,S',E,hf,q⟩=>by
   obtain⟨v1,S1,h1,h2⟩:=R3.ag hf;obtain⟨vs,S2,h3,h4⟩:=R3.ag h2;cases h4;exact⟨ρ,S,δ,v1,S1,E,h1,fun u bx H1 p1 w1 r1=>⟨bx,S1,δ,vs,_,E.to p1 w1,h3,fun us ox H2 p2 w2 r2=>q _ ox H2 (p1.trans p2) w2 (aE.cons (r1.pre p2) r2)⟩⟩⟩
def oz:List V3->Option (List D)
 | []=>some []
 | .d x ::r=>(oz r).map (x ::·)
 | _ ::_=>none
theorem md:∀{vs:List V3} {ds:List D},oz vs=some ds->vs=ds.map .d
 | [],ds,h=>by cases h;rfl
 | .d x ::r,ds,h=>by
   cases e:oz r with
   | none=>have h:(oz r).map (x ::·)=some ds:=h;rw [e] at h;cases h
   | some es=>
     have h:(oz r).map (x ::·)=some ds:=h
     rw[e] at h;cases h;rw[md e];rfl
 | .loc _ ::_,_,h=>by cases h
 | .lst _ ::_,_,h=>by cases h
 | .tup _ ::_,_,h=>by cases h
 | .fn _ ::_,_,h=>by cases h
theorem qG:∀ds:List D,oz (ds.map .d)=some ds
 | []=>rfl
 | d ::ds=>by show(oz (ds.map .d)).map (d ::·)=_;rw [qG ds];rfl
def u7(vs:List V3):V3:=match oz vs with | some ds=> .d (.tup ds) | none=> .tup vs
def sM(vs:List V3):V3:=match oz vs with | some ds=> .d (.lst ds) | none=> .lst vs
def wR(g:FA):FX:=fun δ S=>(g δ S).bind fun vs S=>R3.aS (decide (vs.length<=sizeLine)) (.ok (u7 vs) S)
theorem qb{H:Hp}{p:Addr}{o:HO}(hp:H p=none):Pre ρ H ρ (upd H p o):=Pre.same (br hp)
theorem sO{K:W.Frag}{ρ:P3}{vs:List V3}{xs:List V}{a:Addr}(l:vT K ρ.b H a xs)(r:aE K ρ H vs xs):aT K ρ H (u7 vs) (.ref a):=by
 unfold u7;split
 .rename_i ds e;rw[md e] at r;unfold aT Rep;exact⟨a,xs,rfl,l,r.to⟩
 .unfold aT;exact⟨a,xs,rfl,l,r⟩
theorem Ag{K:W.Frag}{ρ:P3}{vs:List V3}{xs:List V}{a:Addr}(l:uR K ρ.b H a xs)(r:aE K ρ H vs xs):aT K ρ H (sM vs) (.ref a):=by
 unfold sM;split
 .rename_i ds e;rw[md e] at r;unfold aT Rep;exact⟨a,xs,rfl,l,r.to⟩
 .unfold aT;exact⟨a,xs,rfl,l,r⟩
theorem JN{x1 pos}(h:JL X cl es g):PX X cl (.Tuple es x1 pos) (wR g):=⟨(uA h.1).imp fun σ H Q ⟨ρ,S,δ,v,S',E,hf,q⟩=>by
 obtain⟨vs,S1,h1,h2⟩:=R3.ag hf;obtain⟨hl,h3⟩:=R3.aO h2;cases h3;refine⟨ρ,S,δ,vs,_,E,h1,fun us bx H1 p1 w1 r1=>⟨by rw[<-r1.length];exact of_decide_eq_true hl,fun p hp=>q _ bx _ (p1.trans (qb hp)) (w1.same (br hp)) ?_⟩⟩
 refine sO (.inl ⟨fun ha=>?_, .inl aX⟩) (r1.pre (qb hp))
 obtain⟨o,ho⟩:=w1.bs p ha;rw[hp] at ho;cases ho⟩
def T4(g:FA):FX:=fun δ S=>(g δ S).bind fun vs S=>R3.aS (decide (vs.length<=sizeLine)) (.ok (sM vs) S)
def x2(g:D->D->R D)(fa fb:FX):FX:=fun δ S=>(fa δ S).bind fun a S1=>(fb δ S1).bind fun b S2=>match a,b with
 | .d x, .d y=>(R3.of (g x y) S2).bind fun d S=> .ok (.d d) S
 | _,_=> .no
theorem Lk{K:W.Frag}{g:D->D->R D}{σ:L2.St}{Q:VK}(h:tX K cl (x2 g fa fb) σ H Q) :
 Kc (fun x y H Q=>∃B da db d,(∀a∈B,∃o,H a=some o)/\Rep K B H da x/\Rep K B H db y/\g da db= .ok d/\∀z H',aN H H'->Rep K B H' d z->Q z H') (tX K cl fa) (tX K cl fb) σ H Q:=by
 obtain⟨ρ,S,δ,v,S',E,hf,q⟩:=h;obtain⟨a,S1,h1,h2⟩:=R3.ag hf;obtain⟨b,S2,h3,h4⟩:=R3.ag h2
 match a,b,h1,h3,h4 with
 | .d x, .d y,h1,h3,h4=>
   obtain⟨d,S3,h5,h6⟩:=R3.ag h4;obtain⟨h7,e⟩:=R3.of_ok h5;cases h6;subst e;refine⟨ρ,S,δ, .d x,S1,E,h1,fun u1 bx H1 p1 w1 r1=>⟨bx,S1,δ, .d y,_,E.to p1 w1,h3,fun u2 ox H2 p2 w2 r2=>?_⟩⟩
   have zD:=r1.pre p2;unfold aT at zD r2;exact⟨ox.b,x,y,d,w2.bs,zD,r2,h7,fun z H' s r=>q z ox H' (p1.trans (p2.trans (Pre.same s))) (w2.same s) (by unfold aT;exact r)⟩
 | .d x, .loc _,_,_,h4=>cases h4
 | .d x, .lst _,_,_,h4=>cases h4
 | .d x, .tup _,_,_,h4=>cases h4
 | .d x, .fn _,_,_,h4=>cases h4
 | .loc _,_,_,_,h4=>cases h4
 | .lst _,_,_,_,h4=>cases h4
 | .tup _,_,_,_,h4=>cases h4
 | .fn _,_,_,_,h4=>cases h4
theorem Jg{op:CmpOp}{g:D->D->R D}(ho:ml X (compareOp op) g)(ha:PX X cl a fa)(hb:PX X cl b fb)(hm:behindInMarks op b=false):PX X cl (.Compare a [op] [b] pos) (x2 g fa fb):=
 ⟨(y9 ho.r ha.1 hb.1 hm).imp fun σ H Q h=>Lk h⟩
def Lu(g:D->D->R D)(fa fb:FX):FB:=fun δ S=>(x2 g fa fb δ S).bind fun v S=>match v with | .d (.bl b)=> .ok b S | _=> .no
theorem uD{op:CmpOp}{g:D->D->R D}(ho:ml X (compareOp op) g)(ha:PX X cl a fa)(hb:PX X cl b fb)(hm:behindInMarks op b=false):zV X cl (.Compare a [op] [b] pos) (Lu g fa fb):=
 ⟨(yS ho.r ha.1 hb.1 hm).imp fun σ H Q ⟨ρ,S,δ,b,S',E,hf,q⟩=>by
   obtain⟨v,S1,h1,h2⟩:=R3.ag hf;have hv:v= .d (.bl b)/\S1=S':=by
    match v,h2 with
    | .d (.bl k),h2=>cases h2;exact⟨rfl,rfl⟩
    | .d .cz,h2=>cases h2
    | .d (.int _),h2=>cases h2
    | .d (.str _),h2=>cases h2
    | .d (.lst _),h2=>cases h2
    | .d (.tup _),h2=>cases h2
    | .d (.dct _ _),h2=>cases h2
    | .loc _,h2=>cases h2
    | .lst _,h2=>cases h2
    | .tup _,h2=>cases h2
    | .fn _,h2=>cases h2
   obtain⟨rfl,rfl⟩:=hv;exact Lk (g:=g) (Q:=fun x H'=>∃k,x= .bl k/\Q k H') ⟨ρ,S,δ,_,_,E,h1,fun u bz H' p w r=>⟨b,by unfold aT Rep at r;exact r,q bz H' p w⟩⟩⟩
inductive Ou where
 | nx (δ:DE) | rt (v:V3)
abbrev FZ:=DE->aP->R3 Ou
def vc(K:W.Frag)(cl:WL)(ρ:P3)(H:Hp)(D:Ends)(S':aP):Ou->Prop
 | .nx dC=>∀cG bz H',Pre ρ H bz H'->d6 K cl bz H' S' cG dC->D.nx cG H'
 | .rt v=>∀u bz H',Pre ρ H bz H'->SW K cl bz H' S'->aT K bz H' v u->D.rt u H'
theorem vc.pre{K:W.Frag}{D:Ends}{S':aP}{o:Ou}(q:vc K cl ρ H D S' o)(p:Pre ρ H bx H1):vc K cl bx H1 D S' o:=by
 cases o with
 | nx dC=>exact fun cG bz H' p' E'=>q cG bz H' (p.trans p') E'
 | rt d=>exact fun v bz H' p' w r=>q v bz H' (p.trans p') w r
def sX(K:W.Frag)(cl:WL)(F:FZ):TS:=fun D σ H=>∃ρ S δ o S',d6 K cl ρ H S σ δ/\F δ S= .ok o S'/\vc K cl ρ H D S' o
structure PZ (X:Cx) (cl:WL) (st:Stmt) (F:FZ):Prop where
 go:PS X st (sX X.K cl F)
structure DR (X:Cx) (cl:WL) (st:List Stmt) (F:FZ):Prop where
 go:uo X st (sX X.K cl F)
def km:FZ:=fun δ S=> .ok (.nx δ) S
def dc(F G:FZ):FZ:=fun δ S=>(F δ S).bind fun o S1=>match o with | .nx dC=>G dC S1 | .rt d=> .ok (.rt d) S1
theorem tY:DR X cl [] km:=⟨uh.imp fun D σ H ⟨ρ,S,δ,o,S',E,hf,q⟩=>by
 cases hf;exact q σ ρ H (Pre.refl ρ H) E⟩
theorem cg{st:Stmt}{rest:List Stmt}(h1:PZ X cl st F)(h2:DR X cl rest G):DR X cl (st ::rest) (dc F G):=⟨(ql h1.1 h2.1).imp fun D σ H ⟨ρ,S,δ,o,S',E,hf,q⟩=>by
 obtain⟨o1,S1,h1,h2⟩:=R3.ag hf;refine⟨ρ,S,δ,o1,S1,E,h1,?_⟩;cases o1 with
 | nx δ1=>
   intro Kq bx H1 p1 E1;exact⟨bx,S1,δ1,o,S',E1,h2,q.pre p1⟩
 | rt d=>
   cases h2;exact q⟩
theorem eT{st:Stmt}(h1:PZ X cl st F):DR X cl [st] F:=⟨ui h1.1⟩
def oT(i:Nat)(f:FX):FZ:=fun δ S=>(f δ S).bind fun v S=>R3.aS (decide (i < δ.length)) (.ok (.nx (δ.set i (some v))) S)
theorem lT{i:Nat}{pos pos':Pos}(hN:X.N.Nodup)(hi:X.N[i]? =some x)(hx:Loc X.env.scope x)(he:PX X cl e f)(hs:swapsWith e (some (.Name x pos')) pos.line X.env=pure false:=by rfl)(hf:X.fn x=true\/X.env.scope.names.lookup x=some .local:=by first | exact .inl rfl | exact .inr rfl | assumption) :
 PZ X cl (.Assign [.Name x pos'] e pos) (oT i f):=⟨(yi hN hi hx he.1 hs hf).imp fun D σ H ⟨ρ,S,δ,o,S',E,hf,q⟩=>by
 obtain⟨v,S1,h1,h2⟩:=R3.ag hf;obtain⟨hi,h3⟩:=R3.aO h2;cases h3;refine⟨ρ,S,δ,v,_,E,h1,fun u bx H1 p1 w1 r1=>?_⟩
 exact q _ bx H1 p1 ((E.to p1 w1).set (by rw[<-E.len];exact of_decide_eq_true hi) r1)⟩
def uE(f:FX):FZ:=fun δ S=>(f δ S).bind fun v S=> .ok (.rt v) S
theorem qO(he:PX X cl e f):PZ X cl (.Return (some e) pos) (uE f):=⟨(AS he.1).imp fun D σ H ⟨ρ,S,δ,o,S',E,hf,q⟩=>by
 obtain⟨v,S1,h1,h2⟩:=R3.ag hf;cases h2;exact⟨ρ,S,δ,v,_,E,h1,fun u bx H1 p1 w1 r1=>q u bx H1 p1 w1 r1⟩⟩
def rL(c:FB)(F G:FZ):FZ:=fun δ S=>(c δ S).bind fun b S=>if b then F δ S else G δ S
theorem CT(hc:zV X cl c fc)(ha:DR X cl a F)(hb:DR X cl b G):PZ X cl (.If c a b pos) (rL fc F G):=⟨(Cg hc.1 ha.1 hb.1).imp fun D σ H ⟨ρ,S,δ,o,S',E,hf,q⟩=>by
 obtain⟨k,S1,h1,h2⟩:=R3.ag hf;refine⟨ρ,S,δ,k,S1,E,h1,fun bx H1 p1 w1=>?_⟩
 cases k with
 | true=>rw [if_pos rfl] at h2;exact C_ ⟨bx,S1,δ,o,S',E.to p1 w1,h2,q.pre p1⟩
 | false=>rw [if_neg (by decide)] at h2;exact CG ⟨bx,S1,δ,o,S',E.to p1 w1,h2,q.pre p1⟩⟩
def si(f:FX):FZ:=fun δ S=>(f δ S).bind fun _ S=> .ok (.nx δ) S
def yU(c:FB)(body:FZ):Nat->FZ
 | 0,_,_=> .no
 | n+1,δ,S=>(c δ S).bind fun b S=>if b then(body δ S).bind fun o S=>match o with | .nx g9=>yU c body n g9 S | .rt r=> .ok (.rt r) S else .ok (.nx δ) S
def Nb(n:Nat)(c:FB)(body:FZ):FZ:=fun δ S=>yU c body n δ S
end
end L3
end
section
namespace L3
open PySem PySem.Spec PyProof.Rows L2
theorem aE.get{K:W.Frag}:∀{ds:List V3} {xs:List V} {i:Nat} {d:V3},aE K ρ H ds xs->ds[i]? =some d->∃x,xs[i]? =some x/\aT K ρ H d x
 | [],_,_,_,_,e=>by simp at e
 | d ::ds,xs,0,d',h,e=>by
   obtain⟨x,r,rfl,h1,h2⟩:=h.b6;simp at e;subst e;exact⟨x,rfl,h1⟩
 | d ::ds,xs,i+1,d',h,e=>by
   obtain⟨x,r,rfl,h1,h2⟩:=h.b6;obtain⟨y,e1,e2⟩:=aE.get (i:=i) h2 (by simpa using e)
   exact⟨y,by simpa using e1,e2⟩
def ME(K:W.Frag)(ρ:P3)(H:Hp)(J:It)(vs:List V3):Prop:=∀bz H',PW ρ H bz H'->(∀a∈bz.b,∃o,H' a=some o)->(∀(i:Nat) (d:V3),vs[i]? =some d->J.go i H'/\∀x mD,J.yld i H' x mD->aN H' mD/\aT K bz mD d x)/\J.stop vs.length H'
theorem ME.of{K:W.Frag}{ρ:P3}{J:It}{ds:List D}(h:BS K ρ.b H J ds):ME K ρ H J (ds.map .d):=fun bz H' p bs=>by
 obtain⟨h1,h2⟩:=h bz.b H' p.ba;refine⟨fun i v hv=>?_,by rw[List.length_map];exact h2⟩
 rw[List.getElem?_map] at hv;cases e:ds[i]? with
 | none=>rw [e] at hv;cases hv
 | some d=>
   rw[e] at hv;cases hv;obtain⟨g1,g2⟩:=h1 i d e;exact⟨g1,fun x mD y=>let⟨s,r⟩:=g2 x mD y bs;⟨s,by unfold aT;exact r⟩⟩
def Rq(K:W.Frag)(cl:WL)(f:FA):TI:=fun σ H R=>∃ρ S δ vs S',d6 K cl ρ H S σ δ/\f δ S= .ok vs S'/\∀J bx H1,Pre ρ H bx H1->SW K cl bx H1 S'->ME K bx H1 J vs->R J H1
structure Ke (X:Cx) (cl:WL) (tg e:Expr) (f:FA):Prop where
 go:PI X tg e (Rq X.K cl f)
section
variable {X:Cx} {cl:WL}
def iP(f:ak->R (List D)):FA:=fun δ S=>(R3.of (f (down δ)) S).bind fun ds S=> .ok (ds.map .d) S
theorem nX{f:ak->R (List D)}(h:Eo X tg e f):Ke X cl tg e (iP f):=⟨h.1.imp fun σ H Q ⟨ρ,S,δ,vs,S',E,hf,q⟩=>by
 obtain⟨ds,S1,h1,h2⟩:=R3.ag hf;obtain⟨h3,e3⟩:=R3.of_ok h1;cases h2;subst e3;exact⟨[],ρ.b,down δ,ds,E.down,h3,fun J H1 s r=>q J ρ H1 (Pre.same s) (E.sw.same s) (ME.of r)⟩⟩
def G9(f:FX):FA:=fun δ S=>(f δ S).bind fun v S=>match v with | .d (.int j)=>R3.aS (decide (-(2 ^ 62)<=j/\j < 2 ^ 62)) (.ok ((pQ 0 j.toNat).map .d) S) | _=> .no
def Tx(f:FX):FA:=fun δ S=>(f δ S).bind fun v S=>match v with | .d (.lst ds)=> .ok (ds.map .d) S | .lst vs=> .ok vs S | _=> .no
abbrev FG:=V3->DE->Option DE
abbrev Iy:=List V3->DE->Option DE
def gX(K:W.Frag)(cl:WL)(t:FG):TG:=fun v σ H Q=>∃ρ S δ x dC,d6 K cl ρ H S σ δ/\aT K ρ H x v/\t x δ=some dC/\∀cG H',aN H H'->d6 K cl ρ H' S cG dC->Q cG H'
def TQ(K:W.Frag)(cl:WL)(t:Iy):Ba:=fun v σ H Q=>∃ρ S δ x dC,d6 K cl ρ H S σ δ/\aE K ρ H x v/\t x δ=some dC/\∀cG H',aN H H'->d6 K cl ρ H' S cG dC->Q cG H'
structure KD (X:Cx) (cl:WL) (tg:Expr) (t:FG):Prop where
 go:PG X tg (gX X.K cl t)
structure Ur (X:Cx) (cl:WL) (tg:List Expr) (t:Iy):Prop where
 go:Ea X tg (TQ X.K cl t)
theorem d6.same{K:W.Frag}{S:aP}{σ:L2.St}{δ:DE}(E:d6 K cl ρ H S σ δ)(s:aN H H'):d6 K cl ρ H' S σ δ:=E.to (Pre.same s) (E.sw.same s)
def ER(i:Nat):FG:=fun d δ=>if i < δ.length then some (δ.set i (some d)) else none
theorem jH{i:Nat}{pos:Pos}(hN:X.N.Nodup)(hi:X.N[i]? =some x)(hx:Loc X.env.scope x)(hf:X.fn x=true\/X.env.scope.names.lookup x=some .local:=by first | exact .inl rfl | exact .inr rfl | assumption):KD X cl (.Name x pos) (ER i):=
 ⟨(zA hN hi hx hf).imp fun v σ H Q ⟨ρ,S,δ,d,dC,E,r,ht,q⟩=>by
   unfold ER at ht;split at ht
   .rename_i hi;cases ht;exact q _ H (aN.refl H) (E.set (by rw[<-E.len];exact hi) r)
   .cases ht⟩
def VR:Iy:=fun ds δ=>match ds with | []=>some δ | _=>none
def Wc(t:FG)(u:Iy):Iy:=fun ds δ=>match ds with | d ::r=>(t d δ).bind fun dC=>u r dC | []=>none
def VT(n:Nat)(t:Iy):FG:=fun d δ=>match d with
 | .d (.tup ds)=>if ds.length=n then t (ds.map .d) δ else none
 | .tup vs=>if vs.length=n then t vs δ else none
 | _=>none
def Th(f:FX)(t:FG):FZ:=fun δ S=>(f δ S).bind fun d S=>match t d δ with | some dC=> .ok (.nx dC) S | none=> .no
def eB(t:FG)(body:FZ):List V3->FZ
 | [],δ,S=> .ok (.nx δ) S
 | d ::ds,δ,S=>match t d δ with
   | none=> .no
   | some δ1=>(body δ1 S).bind fun o S=>match o with | .nx g9=>eB t body ds g9 S | .rt r=> .ok (.rt r) S
def wm(it:FA)(t:FG)(body:FZ):FZ:=fun δ S=>(it δ S).bind fun vs S=>eB t body vs δ S
theorem BD{tg iter:Expr}{body:List Stmt}{it:FA}{t:FG}{F:FZ}{pos:Pos}(hp:PassesOwn (model X.prog X.w) X.A X.env X.xe)(hc:X.calm=true)(hi:Ke X cl tg iter it)(hg:KD X cl tg t)(hb:DR X cl body F)
 (hs:∀x,foldedSetIterable iter X.env x=pure x:=by intro _;rfl):PZ X cl (.For tg iter body [] pos) (wm it t F):=⟨(xc hp hc hi.1 hg.1 hb.1 hs).imp fun D σ H ⟨ρ,S,δ,o,S',E,hf,q⟩=>by
 obtain⟨ds,S0,h1,h2⟩:=R3.ag hf;refine⟨ρ,S,δ,ds,S0,E,h1,fun J bx H1 p1 w1 ir=>?_⟩
 refine⟨fun i m cG H'=>m=ds.length - i/\i<=ds.length/\∃bz S1 dC,Pre bx H1 bz H'/\d6 X.K cl bz H' S1 cG dC/\eB t F (ds.drop i) dC S1= .ok o S',⟨ds.length,rfl,Nat.zero_le _,bx,S0,δ,Pre.refl bx H1,E.to p1 w1,by simpa using h2⟩,?_⟩
 rintro i m cG H' ⟨rfl,hi,bz,S1,dC,pv,E',hl⟩;obtain⟨go,stop⟩:=ir bz H' pv.pw E'.sw.bs;by_cases hlt:i < ds.length
 .have hd:ds[i]? =some ds[i]:=List.getElem?_eq_getElem hlt;have hdrop:ds.drop i=ds[i] ::ds.drop (i+1):=List.drop_eq_getElem_cons hlt;rw[hdrop] at hl;unfold eB at hl;split at hl
  .cases hl
  .rename_i δ1 h3;obtain⟨o1,S2,h5,h6⟩:=R3.ag hl;obtain⟨g1,g2⟩:=go i _ hd;refine .inr ⟨g1,fun r9 H2=>∃ox S2 g9,Pre bx H1 ox H2/\d6 X.K cl ox H2 S2 r9 g9/\eB t F (ds.drop (i+1)) g9 S2= .ok o S',fun r9 H2 n=>⟨ds.length - (i+1),by omega,rfl,hlt,n⟩,fun x mD y=>?_⟩
   obtain⟨ss,rr⟩:=g2 x mD y;refine⟨bz,S1,dC,ds[i],δ1,E'.same ss,rr,h3,fun r9 H2 s2 E2=>⟨bz,S1,δ1,o1,S2,E2,h5,?_⟩⟩
   have pv2:Pre bx H1 bz H2:=pv.trans (Pre.same (ss.trans s2));cases o1 with
   | nx g9=>exact fun DZ AE H3 p3 E3=>⟨AE,S2,g9,pv2.trans p3,E3,h6⟩
   | rt d=>
     cases h6;exact fun v AE H3 p3 w r=>q v AE H3 (p1.trans (pv2.trans p3)) w r
 .have e:i=ds.length:=by omega
  subst e;rw[List.drop_length] at hl;cases hl;exact .inl ⟨stop,q cG bz H' (p1.trans pv) E'⟩⟩
end
end L3
end
section
namespace L3
open PySem PySem.Spec PyProof.Rows L2
mutual
def ve(n:Nat):V3->Bool
 | .d _=>true
 | .loc k=>decide (k < n)
 | .lst vs=>oy n vs
 | .tup vs=>oy n vs
 | .fn _=>true
def oy(n:Nat):List V3->Bool
 | []=>true
 | v ::vs=>ve n v && oy n vs
end
def vC(n:Nat):SO->Bool
 | .ins _ fs=>oy n (fs.map (·.2))
 | _=>true
theorem Gf{ρ:P3}{n:Nat}{b:Addr}(h:b∈(ρ.cut n).b):b∈ρ.b:=by
 rcases P3.eD.mp h with z | z
 .exact P3.eD.mpr (.inl ⟨List.mem_of_mem_take z.1,z.2⟩)
 .exact P3.eD.mpr (.inr z)
theorem gM{ρ:P3}(n:Nat):dw ρ.b H (ρ.cut n).b H:=fun b o e nb=>⟨e,fun hb=>nb (Gf hb)⟩
mutual
theorem aT.cut{K:W.Frag}{ρ:P3}{n:Nat}:∀{v:V3} {x:V},ve n v=true->aT K ρ H v x->aT K (ρ.cut n) H v x
 | .fn y,x,_,h=>by unfold aT at h ⊢;exact h
 | .d y,x,_,h=>by unfold aT at h ⊢;exact h.ba (gM n)
 | .loc k,x,o,h=>by
   unfold aT at h ⊢;unfold ve at o;obtain⟨a,h1,h2⟩:=h;exact⟨a,by show(ρ.r.take n)[k]? =_;rw [List.getElem?_take_of_lt (of_decide_eq_true o)];exact h1,h2⟩
 | .lst vs,x,o,h=>by
   unfold aT at h ⊢;unfold ve at o;obtain⟨a,xs,e,l,r⟩:=h;exact⟨a,xs,e,l.ba (gM n),aE.cut o r⟩
 | .tup vs,x,o,h=>by
   unfold aT at h ⊢;unfold ve at o;obtain⟨a,xs,e,l,r⟩:=h;exact⟨a,xs,e,vT.ba (gM n) l,aE.cut o r⟩
theorem aE.cut{K:W.Frag}{ρ:P3}{n:Nat}:∀{vs:List V3} {xs:List V},oy n vs=true->aE K ρ H vs xs->aE K (ρ.cut n) H vs xs
 | [],_,_,h=>by unfold aE at h ⊢;exact h
 | v ::vs,xs,o,h=>by
   unfold oy at o;obtain⟨o1,o2⟩:=Bool.and_eq_true_iff.mp o;obtain⟨x,r,rfl,h1,h2⟩:=h.b6;exact aE.cons (aT.cut o1 h1) (aE.cut o2 h2)
end
theorem SW.cut{K:W.Frag}{cl:WL}{ρ:P3}{S:aP}(w:SW K cl ρ H S){n:Nat}(ok:(S.take n).all (vC n)=true):SW K cl (ρ.cut n) H (S.take n):=
 ⟨by show(ρ.r.take n).length=_;rw [List.length_take,List.length_take,w.len],fun i j a hi hj=>by
   have hi:(ρ.r.take n)[i]? =some a:=hi;have hj:(ρ.r.take n)[j]? =some a:=hj;have gi:ρ.r[i]? =some a:=by
    rw[List.getElem?_take] at hi;split at hi
    .exact hi
    .cases hi
   have gj:ρ.r[j]? =some a:=by
    rw[List.getElem?_take] at hj;split at hj
    .exact hj
    .cases hj
   exact w.nd i j a gi gj,fun k a o hk ho=>by
   have hk:(ρ.r.take n)[k]? =some a:=hk;have gk:ρ.r[k]? =some a:=by
    rw[List.getElem?_take] at hk;split at hk
    .exact hk
    .cases hk
   have go:S[k]? =some o:=by
    rw[List.getElem?_take] at ho;split at ho
    .exact ho
    .cases ho
   have r:=w.ob k a o gk go;have oo:vC n o=true:=List.all_eq_true.mp ok o (List.mem_of_getElem? ho);cases o with
   | lst ds=>obtain⟨xs,e,q⟩:=r;exact⟨xs,e,q.ba (gM n)⟩
   | dct ay=>obtain⟨ys,e,e2,q⟩:=r;exact⟨ys,e,e2,q.ba (gM n)⟩
   | ins c fs=>obtain⟨dx,ys,e,e2,q⟩:=r;exact⟨dx,ys,e,e2,q.cut oo⟩
   | exc c=>exact r
   | kK=>exact r,fun b hb=>let⟨h1,h2⟩:=w.zb b hb;⟨h1,fun h=>h2 (List.mem_of_mem_take h)⟩,(fun k a hk ho=>by
   have hk:(ρ.r.take n)[k]? =some a:=hk;rw[List.getElem?_take] at hk;split at hk
   .rename_i hlt;rw[List.getElem?_take_of_lt hlt] at ho;exact w.fz k a hk ho
   .cases hk),w.ff,(fun k a hk ho=>by
   have hk:(ρ.r.take n)[k]? =some a:=hk;rw[List.getElem?_take] at hk;split at hk
   .rename_i hlt;rw[List.getElem?_take_of_lt hlt] at ho;exact w.fi k a hk ho
   .cases hk)⟩
theorem SW.Bs{K:W.Frag}{cl:WL}{ρ bz:P3}{n:Nat}(hn:ρ.r.length<=n)(p:Pre ρ H bz H'):Pre ρ H (bz.cut n) H':=
 ⟨p.ba.trans (gM n),p.zz,p.zs,fun k a h=>by show(bz.r.take n)[k]? =_;rw [List.getElem?_take_of_lt (Nat.lt_of_lt_of_le (List.getElem?_eq_some_iff.mp h).1 hn)];exact p.ext k a h⟩
section
variable {X:Cx} {cl:WL}
def cq(S:aP)(k:Nat):Option (List D):=match S[k]? with | some (.lst ds)=>some ds | _=>none
theorem dA{S:aP}{k:Nat}{ds:List D}(h:cq S k=some ds):S[k]? =some (.lst ds):=by
 unfold cq at h;split at h
 .rename_i e;cases h;exact e
 .cases h
def j7(δ:DE)(i:Nat):Option Nat:=match δ[i]? with | some (some (.loc k))=>some k | _=>none
theorem xF{δ:DE}{i k:Nat}(h:j7 δ i=some k):δ[i]? =some (some (.loc k)):=by
 unfold j7 at h;split at h
 .rename_i e;cases h;exact e
 .cases h
def BM(i:Nat)(f:FX):FZ:=fun δ S=>match j7 δ i with
 | none=> .no
 | some k=>match cq S k with
   | none=> .no
   | some _=>(f δ S).bind fun v S1=>match v with
     | .d d=>(match cq S1 k with | some ds=>R3.aS (decide (ds.length < sizeLine)) (.ok (.nx δ) (S1.set k (.lst (ds++[d])))) | none=> .no)
     | _=> .no
theorem HL{i:Nat}{x:Str}{e:Expr}{f:FX}{l6 apos aZ pos:Pos}(hN:X.N[i]? =some x)(hv:G7 X.env.scope x)(he:PX X cl e f)
 (hd:(x==("__debug__":Str))=false:=by decide) (rK:(x==("__classdict__":Str))=false:=by decide)
 (hs:starEach [e] X.env=(false,eval e X.env) ::starEach [] X.env:=by rfl) (eO:(apos.endLine==aZ.line)=true:=by rfl)
 (jD:((backTo aZ (starEach [e] X.env)).all (fun x=>!x.1) && (backToKw aZ (keywordEach [] X.env)).all (fun x=>x.1.isSome)
   && decide (([e]:List Expr).length+([]:List Keyword).length+(if([]:List Keyword).isEmpty then 0 else 1) < 30))=true:=by rfl)
 (rH:swapsWith (.Call (.Attribute (.Name x l6) "append" apos) [e] [] aZ) none pos.line X.env=pure false:=by rfl)
 (eP:attributeBase (.Name x l6) "append" X.env (eval (.Name x l6) X.env)=eval (.Name x l6) X.env:=by rfl) :
 PZ X cl (.Expr (.Call (.Attribute (.Name x l6) "append" apos) [e] [] aZ) pos) (BM i f):=by
 refine⟨(nJ (wg (X:=X) PySem.F.plainAttrs_list PySem.F.slot_list_append PySem.F.type_list_append jX (t8 hN hv hd rK) (de he.1 fZ hs) eP jD eO hs) rH).imp fun D σ H ⟨ρ,S,δ,o,S',E,hf,q⟩=>?_⟩
 unfold BM at hf;split at hf
 .cases hf
 .rename_i k hk;split at hf
  .cases hf
  .rename_i AL h0;obtain⟨v,S1,h1,h2⟩:=R3.ag hf;split at h2
   .rename_i d;split at h2
    .rename_i ds h3;obtain⟨hl,h4⟩:=R3.aO h2;cases h4;obtain⟨u,u1,u2⟩:=E.val i _ (xF hk);unfold aT at u2;obtain⟨a,a1,rfl⟩:=u2;obtain⟨Mh,x0,_⟩:=E.sw.ob k a _ a1 (dA h0);refine⟨.ref a,u1, .inl ⟨rfl,Mh,lr.of x0⟩,⟨ρ,S,δ, .d d,S1,E,h1,fun y bx H1 p1 w1 r1=>?_⟩⟩
     have b1:=p1.ext k a a1;obtain⟨xs,x1,x2⟩:=w1.ob k a _ b1 (dA h3);refine⟨a,xs,y,rfl,rfl,x1,by rw[<-x2.length];exact of_decide_eq_true hl,?_⟩
     unfold aT at r1;obtain⟨w2,p2⟩:=w1.put (o:= .lst (ds++[d])) (u:= .lst (xs++[y])) b1 (w1.fz k a b1 (by rw[dA h3];intro h;cases h)) ⟨xs++[y],rfl,x2.append (aD.cons r1 aD.nil)⟩
     exact q σ bx _ (p1.trans p2) (E.to (p1.trans p2) w2)
    .cases h2
   .cases h2
def S6(fo fi fe:FX):FZ:=fun δ S=>(fe δ S).bind fun v S1=>(fo δ S1).bind fun o S2=>(fi δ S2).bind fun j S3=>match v,o,j with
 | .d d, .loc k, .d (.int n)=>(match cq S3 k with
   | some ds=>(match CK ds.length n with | some m=> .ok (.nx δ) (S3.set k (.lst (ds.set m d))) | none=> .no)
   | none=> .no)
 | _,_,_=> .no
def GC(K:W.Frag)(cl:WL)(n:Nat)(g:List V3->aP->R3 V3):Sp:=fun vs H Q _=>vs.length=n/\∃ρ S xs v S',SW K cl ρ H S/\aE K ρ H xs vs/\g xs S= .ok v S'/\∀u bz H',Pre ρ H bz H'->SW K cl bz H' S'->aT K bz H' v u->Q u H'
def qo(g:List V3->aP->R3 V3)(fs:FA):FX:=fun δ S=>(fs δ S).bind g
def MN(P:Program)(w:World)(K:W.Frag)(mg:WK)(base:Heap)(cl:WL)(k:Nat)(x:Str)(n:Nat)(g:List V3->aP->R3 V3):Prop:=
 ∃(f:Addr) (fd:FuncData) (ps:List Str),f9 P w K mg base rX k f fd ps (GC K cl n g)/\mg x=some (.ref f)/\PySem.W.keepIn K (.ref f)=true/\Binds K fd ps []
end
def dZ(N:List Str)(vs:List V3):DE:=vs.map some++List.replicate (N.length - vs.length) none
theorem v8{K:W.Frag}{cl:WL}{S:aP}{N:List Str}{ds:List V3}{vs:List V}(w:SW K cl ρ H S)(r:aE K ρ H ds vs):d6 K cl ρ H S (L2.start N vs) (dZ N ds) where
 len:=by unfold L2.start dZ;simp [r.length]
 sw:=w
 val:=fun i d e=>by
  unfold dZ at e;unfold L2.start;by_cases hi:i < ds.length
  .rw [List.getElem?_append_left (by simpa using hi),List.getElem?_map] at e
   cases q:ds[i]? with
   | none=>rw [q] at e;cases e
   | some d'=>
     rw[q] at e;cases e;obtain⟨x,h1,h2⟩:=r.get q;exact⟨x,by rw[List.getElem?_append_left (by rw[List.length_map,<-r.length];exact hi),List.getElem?_map,h1];rfl,h2⟩
  .rw [List.getElem?_append_right (by simpa using hi),List.getElem?_replicate] at e
   split at e <;> cases e
def sL(N:List Str)(F:FZ):List V3->aP->R3 V3:=fun vs S=>(F (dZ N vs) S).bind fun o S'=>match o with | .rt v=> .ok v S' | .nx _=> .ok (.d .cz) S'
def yG(N:List Str)(F:FZ):List V3->aP->R3 V3:=fun vs S=>(sL N F vs S).bind fun v S'=>match res S' v with
 | some d=>R3.aS ((S'.take S.length).all (vC S.length) && lI S.length v) (.ok (.d d) (S'.take S.length))
 | none=> .no
theorem Fw{P:Program}{w:World}{K:W.Frag}{mg:WK}{base:Heap}{cl:WL}{x qual:Str}{st:Stmt}{f:Addr}{fd:FuncData}{N ps:List Str}{k:Nat}{F:FZ}(Fn:wW K x qual st f fd)(S:bc N ps (aF st))
 (jc:∀(dD:Value) (A:Around) (outer:List Env) (s:Shared) (H:Hp) (E:XK),dP k (A.deeper (envOfC qual (aF st) s.heap.objs.size f dD))->
   DR (jZ rX P w K mg base N qual (aF st) f dD A outer s H E).F1 cl (aR st) F):f9 P w K mg base rX (k+1) f fd ps (GC K cl ps.length (sL N F)):=by
 refine Fn.ok S (fun vs H Q E h=>h.1) (fun dD A outer s H vs Q E hr h=>⟨_,(jc dD A outer s H E hr).1,?_⟩)
 obtain⟨_,ρ,S,ds,v,S',w,r,hg,q⟩:=h;obtain⟨o,S1,h1,h2⟩:=R3.ag hg;refine⟨ρ,S,dZ N ds,o,S1,v8 w r,h1,?_⟩;cases o with
 | nx dC=>
   cases h2;exact fun cG bz H' p' E'=>q _ bz H' p' E'.sw (by unfold aT Rep;rfl)
 | rt d'=>
   cases h2;exact fun u bz H' p' w' r'=>q u bz H' p' w' r'
theorem HG{K:W.Frag}{cl:WL}{N:List Str}{n:Nat}{vs:List V}{Q:VK}{E:XK}(h:GC K cl n (yG N F) vs H Q E):GC K cl n (sL N F) vs H Q E:=by
 obtain⟨hl,ρ,S,xs,v,S',w,r,hg,q⟩:=h;obtain⟨v1,S1,h1,h2⟩:=R3.ag hg;refine⟨hl,ρ,S,xs,v1,S1,w,r,h1,fun u bx H1 p1 w1 r1=>?_⟩
 have pc:Pre ρ H (bx.cut S.length) H1:=SW.Bs (K:=K) (cl:=cl) (by rw[w.len];exact Nat.le_refl _) p1
 split at h2
 .rename_i d e;obtain⟨ok,h3⟩:=R3.aO h2;obtain⟨ok,hk⟩:=Bool.and_eq_true_iff.mp ok;cases h3;refine q u _ H1 pc (w1.cut ok) ?_;unfold aT;refine r1.resB w1 (gM _) (fun k a hk a1 ha=>?_) hk e
  rcases P3.eD.mp ha with⟨z,_⟩ | z
  .obtain⟨j,hj⟩:=List.getElem?_of_mem z;have hj:(bx.r.take S.length)[j]? =some a:=hj;rw[List.getElem?_take] at hj;split at hj
   .rename_i hjl;have:=w1.nd j k a hj a1;omega
   .cases hj
  .exact(w1.zb a z).2 (List.mem_of_getElem? a1)
 .cases h2
end L3
end
section
namespace L3
open PySem PySem.Spec PyProof.Rows L2
section
variable {X:Cx} {cl:WL}
def kX(δ:DE)(i:Nat):Option V3:=match δ[i]? with | some (some v)=>some v | _=>none
def mM(own:List Str)(kp:List Nat)(δ:DE):DE:=List.replicate own.length none++kp.map (kX δ)
theorem EH{K:W.Frag}{S S':aP}{σ:L2.St}{δ:DE}{own:List Str}{kp:List Nat}(E:d6 K cl ρ H S σ δ)(p:PW ρ H bz H')(w:SW K cl bz H' S'):d6 K cl bz H' S' (c8 own kp σ) (mM own kp δ) where
 len:=by unfold c8 mM;simp
 sw:=w
 val:=fun i d e=>by
  unfold mM at e;unfold c8;by_cases hi:i < own.length
  .rw [List.getElem?_append_left (by simpa using hi),List.getElem?_replicate] at e
   split at e <;> cases e
  .rw [List.getElem?_append_right (by simpa using hi),List.length_replicate,List.getElem?_map] at e ⊢
   cases q:kp[i - own.length]? with
   | none=>rw [q] at e;cases e
   | some j=>
     rw[q] at e;have e:kX δ j=some d:=Option.some.inj e;unfold kX at e;split at e
     .rename_i d' ed;cases e;obtain⟨v,h1,h2⟩:=E.val j d ed;exact⟨v,by simp [h1],h2.pw p⟩
     .cases e
def lJ(t:FG)(c:FB)(f:FX)(δ:DE):List V3->aP->R3 (List V3)
 | [],S=> .ok [] S
 | v ::vs,S=>match t v δ with
   | none=> .no
   | some δ1=>(c δ1 S).bind fun b S1=>if b then(f δ1 S1).bind fun y S2=>(lJ t c f δ vs S2).bind fun ys S3=> .ok (y ::ys) S3 else lJ t c f δ vs S1
def qR(it:FA)(t:FG)(c:FB)(f:FX)(own:List Str)(kp:List Nat):FX:=fun δ S=>(it δ S).bind fun vs S1=>R3.aS (decide (vs.length<=sizeLine)) ((lJ t c f (mM own kp δ) vs S1).bind fun ys S2=> .ok (sM ys) S2)
theorem aE.append{K:W.Frag}:∀{ds es:List V3} {xs ys:List V},aE K ρ H ds xs->aE K ρ H es ys->aE K ρ H (ds++es) (xs++ys)
 | [],_,_,_,h,t=>by unfold aE at h;subst h;exact t
 | d ::ds,es,xs,ys,h,t=>by
   obtain⟨x,r,rfl,h1,h2⟩:=h.b6;exact aE.cons h1 (aE.append h2 t)
theorem zh{K:W.Frag}{own:List Str}{kp:List Nat}{σ:L2.St}{Q:VK}(h:tX K cl (qR it t c f own kp) σ H Q) :
 y7 (Rq K cl it) (gX K cl t) (HZ K cl c) (tX K cl f) own kp σ H Q:=by
 obtain⟨ρ,S,δ,v,SF,E,hf,q⟩:=h;obtain⟨es,S1,h1,h2⟩:=R3.ag hf;obtain⟨hl,h3⟩:=R3.aO h2;have hl:=of_decide_eq_true hl;obtain⟨vs,S2,h4,h5⟩:=R3.ag h3;cases h5;refine⟨ρ,S,δ,es,S1,E,h1,fun J bx H1 p1 w1 ir Dd hD=>?_⟩
 have nDz:Dd ∉ bx.b:=fun hb=>by obtain⟨o,ho⟩:=w1.bs Dd hb;rw [hD] at ho;cases ho
 have nDr:Dd ∉ bx.r:=fun hb=>by obtain⟨o,ho⟩:=w1.rs Dd hb;rw [hD] at ho;cases ho
 have toZ:∀{r' f':List Addr} {H':Hp},Pre bx H1 ⟨r',bx.z,f'⟩ H'->PW bx H1 ⟨r',Dd ::bx.z,f'⟩ H':=fun {r' f' H'} p=>⟨fun b o e nb=>⟨(p.ba b o e nb).1,fun hb=>by
  rcases P3.eD.mp hb with z | z
  .exact(p.ba b o e nb).2 (P3.eD.mpr (.inl z))
  .rcases List.mem_cons.mp z with y | y
   .exact b8 e hD y
   .exact(p.ba b o e nb).2 (P3.eD.mpr (.inr y))⟩,p.ext⟩
 have w0:SW K cl ⟨bx.r,Dd ::bx.z,bx.f⟩ (upd H1 Dd (.lst [])) S1:=by
  have s0:aN H1 (upd H1 Dd (.lst [])):=br hD;have ws:=w1.same s0;refine⟨ws.len,ws.nd,fun k a o hk ho=>?_,fun b hb=>?_,ws.fz,ws.ff,ws.fi⟩
  .have r:=w1.ob k a o hk ho;obtain⟨u,hu⟩:=r.some;rw[s0 a u hu,<-hu];exact r.pw (toZ (Pre.same s0))
  .rcases List.mem_cons.mp hb with y | y
   .subst y;exact⟨⟨_,aX⟩,nDr⟩
   .exact ws.zb b y
 refine⟨fun i m ys H'=>m=es.length - i/\i<=es.length/\ys.length<=i/\H' Dd=some (.lst ys)/\∃r' f' S' done rest,Pre bx H1 ⟨r',bx.z,f'⟩ H'/\SW K cl ⟨r',Dd ::bx.z,f'⟩ H' S'/\vs=done++rest/\aE K ⟨r',Dd ::bx.z,f'⟩ H' done ys/\lJ t c f (mM own kp δ) (es.drop i) S'= .ok rest SF,
  ⟨es.length,rfl,Nat.zero_le _,Nat.le_refl _,aX,bx.r,bx.f,S1,[],vs,Pre.same (br hD),w0,rfl,aE.nil,by simpa using h4⟩,?_⟩
 rintro i m ys H' ⟨rfl,hi,hy,hDl,r',f',S',done,rest,pv,w',rfl,rd,hc⟩;obtain⟨go,stop⟩:=ir ⟨r',Dd ::bx.z,f'⟩ H' (toZ pv) w'.bs;have unZ:∀{G_:P3} {H4:Hp},Pre ⟨r',Dd ::bx.z,f'⟩ H' G_ H4->Pre bx H1 ⟨G_.r,bx.z,G_.f⟩ H4:=fun {G_ H4} p4=>⟨fun b o e nb=>by
  obtain⟨e1,n1⟩:=(toZ pv).ba b o e nb;obtain⟨pG,n2⟩:=p4.ba b o e1 n1;refine⟨pG,fun hb=>n2 ?_⟩
  rcases P3.eD.mp hb with z | z
  .exact P3.eD.mpr (.inl z)
  .exact P3.eD.mpr (.inr (by rw[p4.zz];exact List.mem_cons_of_mem _ z)),rfl,fun b o hb h=>p4.zs b o (List.mem_cons_of_mem _ hb) (pv.zs b o hb h),fun k a h=>p4.ext k a (pv.ext k a h)⟩
 by_cases hlt:i < es.length
 .have hd:es[i]? =some es[i]:=List.getElem?_eq_getElem hlt;have hdrop:es.drop i=es[i] ::es.drop (i+1):=List.drop_eq_getElem_cons hlt;rw[hdrop] at hc;unfold lJ at hc;split at hc
  .cases hc
  .rename_i δ1 h6;obtain⟨b,T1,h7,h8⟩:=R3.ag hc;obtain⟨g1,g2⟩:=go i _ hd;refine .inr ⟨g1,fun x H2 y=>?_⟩
   obtain⟨sy,ry⟩:=g2 x H2 y;have Ec:d6 K cl ⟨r',Dd ::bx.z,f'⟩ H2 S' (c8 own kp σ) (mM own kp δ):=EH E (p1.pw.trans ((toZ pv).trans (Pre.same sy).pw)) (w'.same sy);refine⟨⟨r',Dd ::bx.z,f'⟩,S',mM own kp δ,es[i],δ1,Ec,ry,h6,fun DZ H3 s3 E3=>⟨⟨r',Dd ::bx.z,f'⟩,S',δ1,b,T1,E3,h7,fun G_ H4 p4 w4=>?_⟩⟩
   have Ml:Pre ⟨r',Dd ::bx.z,f'⟩ H' G_ H4:=(Pre.same (sy.trans s3)).trans p4;cases b with
   | true=>
     rw[if_pos rfl] at h8;refine C_ ?_;obtain⟨yv,T2,h9,OW⟩:=R3.ag h8;obtain⟨rs,T3,ON,U1⟩:=R3.ag OW;cases U1;refine⟨G_,T1,δ1,yv,T2,E3.to p4 w4,h9,fun v5 RP H5 p5 w5 r5=>?_⟩
     have pv5:Pre ⟨r',Dd ::bx.z,f'⟩ H' RP H5:=Ml.trans p5;have OU:H5 Dd=some (.lst ys):=pv5.zs Dd _ List.mem_cons_self hDl;have u5:=unZ pv5;obtain⟨M3,z5,f5⟩:=RP;have ez:z5=Dd ::bx.z:=pv5.zz;subst ez;have nr:Dd ∉ M3:=(w5.zb Dd List.mem_cons_self).2;have pw:PW ⟨M3,Dd ::bx.z,f5⟩ H5 ⟨M3,Dd ::bx.z,f5⟩ (upd H5 Dd (.lst (ys++[v5]))):=⟨fun b o e nb=>⟨by rw[bb (fun(z:b=Dd)=>nb (by rw[z];exact P3.eD.mpr (.inr List.mem_cons_self)))];exact e,nb⟩,fun _ _ h=>h⟩
     refine⟨OU,by omega,es.length - (i+1),by omega,rfl,hlt,by rw[List.length_append,List.length_singleton];omega,aX,M3,f5,T2,done++[yv],rs,?_,?_,by simp,aE.append ((rd.pre pv5).pw pw) (aE.cons (r5.pw pw) aE.nil),ON⟩
     .refine⟨fun b o e nb=>⟨by rw[bb (b8 e hD)];exact(u5.ba b o e nb).1,(u5.ba b o e nb).2⟩,rfl,fun b o hb h=>?_,u5.ext⟩
      rw[bb (b8 h hD)];exact u5.zs b o hb h
     .refine⟨w5.len,w5.nd,fun k a o hk ho=>?_,fun b hb=>?_,w5.fz,fun b hb=>?_,w5.fi⟩
      .have ne:a≠Dd:=fun z=>nr (by rw[<-z];exact List.mem_of_getElem? hk)
       rw[bb ne];exact(w5.ob k a o hk ho).pw pw
      .obtain⟨⟨o,ho⟩,n⟩:=w5.zb b hb;refine⟨?_,n⟩;by_cases z:b=Dd
       .subst z;exact⟨_,aX⟩
       .rw [bb z];exact⟨o,ho⟩
      .obtain⟨o,ho⟩:=w5.ff b hb;by_cases z:b=Dd
       .subst z;exact⟨_,aX⟩
       .rw [bb z];exact⟨o,ho⟩
   | false=>
     rw[if_neg (by decide)] at h8
     refine CG ?_;have Vu:H4 Dd=some (.lst ys):=Ml.zs Dd _ List.mem_cons_self hDl;have u4:=unZ Ml;obtain⟨U7,z4,f4⟩:=G_;have ez:z4=Dd ::bx.z:=Ml.zz;subst ez;exact⟨es.length - (i+1),by omega,rfl,hlt,by omega,Vu,U7,f4,T1,done,rest,u4,w4,rfl,rd.pre Ml,h8⟩
 .have e:i=es.length:=by omega
  subst e;rw[List.drop_length] at hc;cases hc;rw[List.append_nil] at q;refine .inl ⟨stop,?_⟩;have back:PW ⟨r',Dd ::bx.z,f'⟩ H' ⟨r',bx.z,f'⟩ H':=⟨fun b o e nb=>⟨e,fun hb=>nb (by
   rcases P3.eD.mp hb with z | z
   .exact P3.eD.mpr (.inl z)
   .exact P3.eD.mpr (.inr (List.mem_cons_of_mem _ z)))⟩,fun _ _ h=>h⟩
  have wB:SW K cl ⟨r',bx.z,f'⟩ H' _:=⟨w'.len,w'.nd,fun k a o hk ho=>(w'.ob k a o hk ho).pw back,fun b hb=>w'.zb b (List.mem_cons_of_mem _ hb),w'.fz,w'.ff,w'.fi⟩
  refine q _ ⟨r',bx.z,f'⟩ H' (p1.trans pv) wB (Ag (.inl ⟨fun hb=>?_, .inl hDl⟩) (rd.pw back))
  rcases P3.eD.mp hb with z | z
  .exact(w'.zb Dd List.mem_cons_self).2 z.1
  .exact nDz (P3.eD.mpr (.inr z))
end
end L3
end
section
namespace L3
open PySem PySem.Spec PyProof.Rows L2
section
variable {X:Cx} {cl:WL}
theorem FL{scope:Scope}{own:List Str}{kp:List Nat}{kn:List Str}{tg iter elt:Expr}{ifs:List Expr}{it:FA}{t:FG}{c:FB}{f:FX}{pos:Pos}(hc:X.calm=true)(C:bG X scope own kp kn)(hi:Ke X cl tg iter it)
 (hg:∀fp s H,KD (aW X scope (own++kn) fp s H) cl tg t) (uL:∀fp s H,nR (aW X scope (own++kn) fp s H) ifs (HZ X.K cl c)) (he:∀fp s H,PX (aW X scope (own++kn) fp s H) cl elt f)
 (hs:∀x,foldedSetIterable iter X.env x=pure x:=by intro _;rfl):PX X cl (.ListComp elt [⟨tg,iter,ifs,0⟩] scope pos) (qR it t c f own kp):=
 ⟨(zk hc C hi.1 (fun fp s H=>(hg fp s H).1) uL (fun fp s H=>(he fp s H).1) hs).imp fun σ H Q h=>zh h⟩
def F0:FB:=fun _ S=> .ok true S
theorem sf:nR X [] (HZ X.K cl F0):=fun pins s σ H Q I ⟨ρ,S,δ,b,S',E,hf,q⟩=>vO pins s σ H Q I (by cases hf;exact q ρ H (Pre.refl ρ H) E.sw)
theorem HB{K:W.Frag}{i:Nat}{D:Ends}{σ:L2.St}(h:sX K cl (oT i f) D σ H):Ak (tX K cl f) (qB i) D σ H:=by
 obtain⟨ρ,S,δ,o,S',E,hf,q⟩:=h;obtain⟨v,S1,h1,h2⟩:=R3.ag hf;obtain⟨hi,h3⟩:=R3.aO h2;cases h3;refine⟨ρ,S,δ,v,_,E,h1,fun u bx H1 p1 w1 r1=>?_⟩
 exact q _ bx H1 p1 ((E.to p1 w1).set (by rw[<-E.len];exact of_decide_eq_true hi) r1)
theorem xE{i:Nat}{x:Str}{pos' lZ:Pos}{scope:Scope}{own:List Str}{kp:List Nat}{kn:List Str}{tg iter elt:Expr}{ifs:List Expr}{it:FA}{t:FG}{c:FB}{f:FX}{pos:Pos}(hc:X.calm=true)
 (hN:X.N.Nodup) (hx:X.N[i]? =some x) (uM:X.env.scope.names.lookup x=some .local) (C:bG X scope own kp kn) (hi:Ke X cl tg iter it)
 (hg:∀fp s H,KD (aW X scope (own++kn) fp s H) cl tg t) (uL:∀fp s H,nR (aW X scope (own++kn) fp s H) ifs (HZ X.K cl c)) (he:∀fp s H,PX (aW X scope (own++kn) fp s H) cl elt f)
 (rH:swapsWith (.ListComp elt [⟨tg,iter,ifs,0⟩] scope pos) (some (.Name x pos')) lZ.line X.env=pure true:=by rfl)
 (hs:∀x,foldedSetIterable iter X.env x=pure x:=by intro _;rfl):PZ X cl (.Assign [.Name x pos'] (.ListComp elt [⟨tg,iter,ifs,0⟩] scope pos) lZ) (oT i (qR it t c f own kp)):=
 ⟨(nc hc hN hx uM C hi.1 (fun fp s H=>(hg fp s H).1) uL (fun fp s H=>(he fp s H).1) rH hs).imp fun D σ H h=>zh (HB h)⟩
def V_(g:FA):FX:=fun δ S=>(g δ S).bind fun vs S1=>match oz vs with
 | some ds=>R3.aS (decide (ds.length<=sizeLine)) (.ok (.loc S1.length) (S1++[.lst ds]))
 | none=> .no
end
end L3
end
section
namespace L3
open PySem PySem.Spec PyProof.Rows L2
section
variable {X:Cx} {cl:WL}
def tW(g:List D->R D)(fs:FA):FX:=fun δ S=>(fs δ S).bind fun vs S1=>match oz vs with
 | some ds=>(R3.of (g ds) S1).bind fun d S=> .ok (.d d) S
 | none=> .no
theorem Dm{K:W.Frag}{g:List D->R D}{σ:L2.St}{Q:VK}(h:tX K cl (tW g fs) σ H Q) :
 Qy K cl fs σ H fun vs H1=>∃B ds d,(∀a∈B,∃o,H1 a=some o)/\aD K B H1 ds vs/\g ds= .ok d/\∀z H',aN H1 H'->Rep K B H' d z->Q z H':=by
 obtain⟨ρ,S,δ,v,S',E,hf,q⟩:=h;obtain⟨vs,S1,h1,h2⟩:=R3.ag hf;split at h2
 .rename_i ds e;obtain⟨d,S2,h3,h4⟩:=R3.ag h2;obtain⟨h5,e5⟩:=R3.of_ok h3;cases h4;subst e5;refine⟨ρ,S,δ,vs,_,E,h1,fun us bx H1 p1 w1 r1=>?_⟩
  rw[md e] at r1;exact⟨bx.b,ds,d,w1.bs,r1.to,h5,fun z H' s r=>q z bx H' (p1.trans (Pre.same s)) (w1.same s) (by unfold aT;exact r)⟩
 .cases h2
theorem zE{g:List D->R D}{x:Str}{T:String}{p pos:Pos}{e:Expr}{es:List Expr}{fs:FA}(hc:cJ X (.type T) g)(hg:Gl X x)(hm:X.mg x=none)(hv:bootBuiltins x=some (.type T))(ha:JL X cl (e ::es) fs)(hn:x≠"__name__":=by decide)(jF:(x==("__debug__":Str))=false:=by decide)
 (he:starEach (e ::es) X.env=(false,eval e X.env) ::starEach es X.env:=by rfl) (kP:(backTo pos (starEach es X.env)).any (·.1)=false:=by rfl):PX X cl (.Call (.Name x p) (e ::es) [] pos) (tW g fs):=
 ⟨(sJ hc.r hg hm hv ha.1 hn jF he kP).imp fun σ H Q h=>Dm h⟩
def Wg(c:FB)(f g:FX):FX:=fun δ S=>(c δ S).bind fun b S=>if b then f δ S else g δ S
theorem gZ:∀(δ:DE) (S:aP) (ds:List V3) (S':aP),ee δ S= .ok ds S'->ds.length=0:=fun δ S ds S' h=>by cases h;rfl
theorem cu{g:FA}{n:Nat}(h:∀(δ:DE) (S:aP) (ds:List V3) (S':aP),g δ S= .ok ds S'->ds.length=n):∀(δ:DE) (S:aP) (ds:List V3) (S':aP),bE f g δ S= .ok ds S'->ds.length=n+1:=fun δ S ds S' e=>by
 obtain⟨v,S1,h1,h2⟩:=R3.ag e;obtain⟨vs,S2,h3,h4⟩:=R3.ag h2;cases h4;rw[List.length_cons,h δ S1 vs _ h3]
end
end L3
end
section
namespace L3
open PySem PySem.Spec PyProof.Rows L2
section
variable {X:Cx} {cl:WL}
def VJ(fa fb:FX):FX:=fun δ S=>(fa δ S).bind fun a S1=>(fb δ S1).bind fun b S2=>match a,b with
 | .d x, .d y=>(R3.of (df x y) S2).bind fun d S=> .ok (.d d) S
 | .lst vs, .d (.int i)=>(match sI vs i with | some v=> .ok v S2 | none=> .no)
 | .tup vs, .d (.int i)=>(match sI vs i with | some v=> .ok v S2 | none=> .no)
 | _,_=> .no
end
end L3
end
section
namespace L3
open PySem PySem.Spec PyProof.Rows L2
section
variable {X:Cx} {cl:WL}
structure HS (X:Cx) (cl:WL) (e:Expr) (f:FB):Prop where
 go:L2.PW X e (HZ X.K cl f)
theorem HS.pb(h:HS X cl e f):zV X cl e f:=⟨L2.PW.pt h.1⟩
def T8(f g:FB):FB:=fun δ S=>(f δ S).bind fun b S=>if b then g δ S else .ok false S
def LM(f g:FB):FB:=fun δ S=>(f δ S).bind fun b S=>if b then .ok true S else g δ S
def CW(f:FB):FB:=fun δ S=>(f δ S).bind fun b S=> .ok (!b) S
theorem yy(h:zV X cl a f):HS X cl (.BoolOp .Or [a] pos) f:=⟨AX h.1⟩
theorem Cd{rest:List Expr}(ha:zV X cl a f)(hb:HS X cl (.BoolOp .Or (b ::rest) pos) g):HS X cl (.BoolOp .Or (a ::b ::rest) pos) (LM f g):=⟨by
 intro wh pins s σ H Q I ⟨ρ,S,δ,k,S',E,hf,q⟩;refine G6 ha.1 hb.1 wh pins s σ H Q I ?_;obtain⟨c,S1,h1,h2⟩:=R3.ag hf;refine⟨ρ,S,δ,c,S1,E,h1,fun bx H1 p1 w1=>?_⟩
 cases c with
 | true=>rw [if_pos rfl] at h2 ⊢;cases h2;exact q bx H1 p1 w1
 | false=>rw [if_neg (by decide)] at h2 ⊢;exact⟨bx,S1,δ,k,S',E.to p1 w1,h2,fun ox H' p2 w2=>q ox H' (p1.trans p2) w2⟩⟩
theorem yO(ha:zV X cl a f):zV X cl (.UnaryOp .Not a pos) (CW f):=⟨(Dy ha.1).imp fun σ H Q ⟨ρ,S,δ,k,S',E,hf,q⟩=>by
 obtain⟨c,S1,h1,h2⟩:=R3.ag hf;cases h2;exact⟨ρ,S,δ,c,_,E,h1,fun bx H1 p1 w1=>q bx H1 p1 w1⟩⟩
def Uv(f:FX):FB:=fun δ S=>(f δ S).bind fun v S=>match v with | .d d=>R3.of (HF d) S | _=> .no
abbrev Kj:=DE->aP->R3 (Option Int)
def Ta(K:W.Frag)(cl:WL)(f:Kj):TO:=fun σ H Q=>∃ρ S δ o S',d6 K cl ρ H S σ δ/\f δ S= .ok o S'/\∀bz H',Pre ρ H bz H'->SW K cl bz H' S'->Q o H'
structure VO (X:Cx) (cl:WL) (e:Option Expr) (f:Kj):Prop where
 go:PO X e (Ta X.K cl f)
def ND:Kj:=fun _ S=> .ok none S
def Ng(f:FX):Kj:=fun δ S=>(f δ S).bind fun v S=>match v with | .d (.int i)=> .ok (some i) S | _=> .no
def Wh(f:FX)(fl fh:Kj):FX:=fun δ S=>(f δ S).bind fun v S1=>(fl δ S1).bind fun lo S2=>(fh δ S2).bind fun hi S3=>match v with
 | .d d=>(R3.of (GS d lo hi) S3).bind fun r S=> .ok (.d r) S
 | _=> .no
end
end L3
end
section
namespace L2
open PySem PySem.Spec PyProof.Rows
section
variable {X:Cx}
def lM(t T:String):Bool:=t==T || (t=="bool" && T=="int")
theorem la{K:W.Frag}(t T:String)(ht:t∈["NoneType","bool","int","str","list","tuple"])(hT:T∈["bool","int","str","list","tuple"]):PySem.W.kitOne K (.type t) (.type T)=some (lM t T):=by
 simp only[List.mem_cons,List.not_mem_nil,or_false] at ht hT;rcases ht with rfl | rfl | rfl | rfl | rfl | rfl <;> rcases hT with rfl | rfl | rfl | rfl | rfl <;> rfl
def Ca(T:String)(f:FD):FD:=fun δ=>(f δ).bind fun d=>match d with | .dct _ _=> .no | _=> .ok (.bl (lM (tyName d) T))
theorem pZ{T:Str}{Ts:String}{p p2 pos:Pos}{e:Expr}{f:FD}(he:QD X e f)(hT:Ts∈["bool","int","str","list","tuple"])(hg:Gl X "isinstance")(hm:X.mg "isinstance"=none)(O0:Gl X T)(OM:X.mg T=none)(Pk:bootBuiltins T=some (.type Ts))(Pw:T≠"__name__":=by decide)(O4:(T==("__debug__":Str))=false:=by decide)
 (hs:starEach [e, .Name T p2] X.env=(false,eval e X.env) ::starEach [.Name T p2] X.env:=by rfl) (kP:(backTo pos (starEach [.Name T p2] X.env)).any (·.1)=false:=by rfl):QD X (.Call (.Name "isinstance" p) [e, .Name T p2] [] pos) (Ca Ts f):=by
 have hc:iI X (.builtin "isinstance") (fun xs H Q=>∃B d x,Rep X.K B H d x/\(∀a b,d≠ .dct a b)/\xs=[x, .ty Ts]/\Q (.bl (lM (tyName d) Ts)) H):=by
  intro pins s σ H xs us Q I r h;obtain⟨B,d,x,rd,ha,rfl,q⟩:=h;obtain⟨u,w',rfl,ru,wF⟩:=vals2 r;cases wF;have fin:∀tk,EP X pins σ Q (.bool (lM (tyName d) Ts)) {s with toks:=tk}:=fun tk=>⟨.bl _,H,I.tok _,rfl,q⟩
  cases d with
  | cz=>exact mi I ru (by rw[Rep.cz.mp rd];exact .cz) (la "NoneType" Ts (by decide) hT) fin
  | bl b=>exact mi I ru (by rw[Rep.bl.mp rd];exact .bl b) (la "bool" Ts (by decide) hT) fin
  | int i=>exact mi I ru (by rw[Rep.int.mp rd];exact .int i) (la "int" Ts (by decide) hT) fin
  | str z=>exact mi I ru (by rw[Rep.str.mp rd];exact .str z) (la "str" Ts (by decide) hT) fin
  | lst es=>
    obtain⟨a,ys,rfl,l,_⟩:=Rep.lst.mp rd;cases(show u=Value.ref a from ru)
    obtain⟨Gj,n2,r2,h1,z2⟩:=I.Ee l;exact PySem.W.kia_one PySem.W.kitx_list I.mS ⟨_,h1,rfl⟩ (la "list" Ts (by decide) hT) (fun z=>nomatch z) fin
  | tup es=>
    obtain⟨a,ys,rfl,l,_⟩:=Rep.tup.mp rd;cases(show u=Value.ref a from ru)
    obtain⟨its,rv,p,hz⟩:=I.tuple l.sq;obtain⟨o,h1,h2,_⟩:=p;exact PySem.W.kia_one PySem.W.kitx_tuple I.mS ⟨o,h1,h2⟩ (la "tuple" Ts (by decide) hT) (fun z=>nomatch z) fin
  | dct a b=>exact absurd rfl (ha a b)
 refine⟨(nF hc hg hm boot_isinstance (de he.1 (de (uF (v:= .ty Ts) O0 OM Pk rfl Pw O4) fZ) hs) (by decide) (by decide) hs kP).imp fun σ H Q ⟨Z,B,δ,d,E,hf,q⟩=>?_⟩
 obtain⟨d1,h1,h2⟩:=R.ag hf;have key:(∀a b,d1≠ .dct a b)/\d= .bl (lM (tyName d1) Ts):=by
  cases d1 with
  | dct a b=>cases h2
  | _=>cases h2;exact⟨fun _ _ z=>(by cases z),rfl⟩
 obtain⟨k1,rfl⟩:=key;exact⟨Z,B,δ,d1,E,h1,fun v H1 s1 r1=>⟨B,d1,v,r1,k1,rfl,q _ H1 s1 (Rep.bl.mpr rfl)⟩⟩
def nList(f:FD):ak->R (List D):=fun δ=>(f δ).bind fun d=>match d with | .lst ds=> .ok ds | .tup ds=> .ok ds | _=> .no
end
end L2
namespace L3
open PySem PySem.Spec PyProof.Rows L2
theorem wD{P:Program}{w:World}{K:W.Frag}{mg:WK}{base:Heap}{cl:WL}{x qual:Str}{st:Stmt}{f:Addr}{fd:FuncData}{N ps:List Str}{k:Nat}{F:FZ}{b:List Stmt}{sc:Scope}(hb:aR st=b)(hs:aF st=sc)(Fn:wW K x qual st f fd)(S:bc N ps sc)
 (jc:∀(dD:Value) (A:Around) (outer:List Env) (s:Shared) (H:Hp) (E:XK),dP k (A.deeper (envOfC qual sc s.heap.objs.size f dD))->
   DR (jZ rX P w K mg base N qual sc f dD A outer s H E).F1 cl b F):f9 P w K mg base rX (k+1) f fd ps (GC K cl ps.length (sL N F)):=by
 subst hb hs;exact Fw Fn S jc
def MF(N:List Str)(F:FZ):List D->R D:=fun ds=>match yG N F (ds.map .d) [] with
 | .ok (.d d) []=>R.aS d.atom (.ok d)
 | _=> .no
theorem ID{K:W.Frag}{cl:WL}{N:List Str}{n:Nat}{vs:List V}{Q:VK}{E:XK}(h:DX K n (MF N F) vs H Q E):GC K cl n (sL N F) vs H Q E:=by
 obtain⟨hl,B,ds,d,hb,r,hg,q⟩:=h;unfold MF at hg;split at hg
 .rename_i d' e;obtain⟨ha,h2⟩:=R.aO hg;cases h2;have r0:aD K (⟨[],[],[]⟩:P3).b H ds vs:=r.ba fun b o e _=>⟨e,by simp [P3.b]⟩
  refine HG ⟨hl,⟨[],[],[]⟩,[],ds.map .d, .d d,[],⟨rfl,fun i j a hi=>by simp at hi,fun k a o hk=>by simp at hk,fun b hb=>by simp at hb,fun k a hk=>by simp at hk,fun b hb=>by simp at hb,fun k a hk=>by simp at hk⟩,aE.of r0,e,fun u bz H' p w' r'=>q u H' (fun b o eb=>?_) ?_⟩
  .exact(p.ba b o eb (by simp [P3.b])).1
  .unfold aT at r';exact r'.atom ha
 .cases hg
section
variable {X:Cx} {cl:WL}
def A6(f:FX):FA:=fun δ S=>(f δ S).bind fun v S=>match v with | .d (.tup ds)=> .ok (ds.map .d) S | .tup vs=> .ok vs S | _=> .no
theorem yJ(h:PX X cl e f):Ke X cl tg e (A6 f):=⟨by
 intro pins s σ H RR I ⟨ρ,S,δ,vs,S',E,hf,q⟩;obtain⟨v,S1,h1,h2⟩:=R3.ag hf;refine cO (h.1 pins s σ H (fun u H1=>∃bx,Pre ρ H bx H1/\SW X.K cl bx H1 S1/\aT X.K bx H1 v u) I ⟨ρ,S,δ,v,S1,E,h1,fun u bx H1 p1 w1 r1=>⟨bx,p1,w1,r1⟩⟩) fun u s1 ⟨x,H1,I1,r1,bx,p1,w1,rr⟩=>?_
 have key:S1=S'/\∃a xs,x= .ref a/\vT X.K bx.b H1 a xs/\aE X.K bx H1 vs xs:=by
  split at h2
  .cases h2;unfold aT Rep at rr;obtain⟨a,xs,e,l,r⟩:=rr;exact⟨rfl,a,xs,e,l,aE.of r⟩
  .cases h2;unfold aT at rr;exact⟨rfl,rr⟩
  .cases h2
 obtain⟨rfl,a,xs,rfl,l,rr⟩:=key;cases r1;obtain⟨its,rv,p,hz⟩:=I1.tuple l.sq;refine wpAny_pyIter_tuple (show s1.heap.IsTuple a its.toArray from p) ?_
 refine⟨s1.heap.objs.size,[s1.heap.objs.size],_,_,H1,rfl,I1.kept (t':=s1.toks) fun b o e=>Heap.get?_push_of_some _ e,rD a _,⟨_,Heap.get?_push_size _ rfl,rfl,rfl⟩,fun b hb=>?_,q _ bx H1 p1 w1 fun bz H' pr bs=>?_⟩
 .have e:b=s1.heap.objs.size:=by simpa using hb
  subst e;exact I1.vJ (Nat.le_refl _) (I1.hok.fresh (Nat.le_refl _))
 .have l':vT X.K bz.b H' a xs:=vT.ba pr.ba l;have rr':=rr.pw pr;refine⟨fun i d hd=>?_,⟨xs,l'.sq,by rw[rr.length];exact Nat.le_refl _⟩⟩
  obtain⟨x,hx,rx⟩:=rr'.get hd;exact⟨⟨xs,x,l'.sq,hx⟩,fun y mD ⟨e1,e2⟩=>by
   subst e1;have:=e2 xs l'.sq;rw[hx] at this;cases this;exact⟨aN.refl _,rx⟩⟩⟩
end
end L3
end
section
namespace L3
open PySem PySem.Spec PyProof.Rows L2
def W3{α:Type}(r:R3 α)(Q:α->aP->Prop):Prop:=∃a S,r= .ok a S/\Q a S
section
variable {α β:Type} {Q Q':α->aP->Prop} {S:aP} {δ:DE}
theorem W3.ok{a:α}(h:Q a S):W3 (.ok a S) Q:=⟨a,S,rfl,h⟩
theorem W3.bind{Q:β->aP->Prop}{r:R3 α}{f:α->aP->R3 β}(h:W3 r fun a S=>W3 (f a S) Q):W3 (r.bind f) Q:=by
 obtain⟨a,S1,e1,b,S2,h2,q⟩:=h;exact⟨b,S2,by rw[e1];exact h2,q⟩
theorem W3.mono{r:R3 α}(h:W3 r Q)(m:∀a S,Q a S->Q' a S):W3 r Q':=let⟨a,S,e,q⟩:=h;⟨a,S,e,m a S q⟩
theorem W3.wh{c:Bool}{r:R3 α}(hc:c=true)(h:W3 r Q):W3 (R3.aS c r) Q:=by rw[hc];exact h
theorem W3.of{r:R α}{a:α}(e:r= .ok a)(h:Q a S):W3 (R3.of r S) Q:=by rw[e];exact⟨a,S,rfl,h⟩
end
section
variable {S:aP} {δ:DE} {QV:V3->aP->Prop} {QB:Bool->aP->Prop} {QA:List V3->aP->Prop} {QO:Ou->aP->Prop}
theorem iO{f:FD}{d:D}(e:f (down δ)= .ok d)(h:QV (.d d) S):W3 (xP f δ S) QV:=W3.bind (W3.of e (W3.ok h))
theorem Cc{f:ak->R Bool}{b:Bool}(e:f (down δ)= .ok b)(h:QB b S):W3 (bP f δ S) QB:=W3.of e h
theorem LG{f:ak->R Bool}{b:Bool}(e:f (k_ S δ)= .ok b)(h:QB b S):W3 (bT f δ S) QB:=W3.of e h
theorem w_var{i:Nat}{v:V3}(e:δ[i]? =some (some v))(h:QV v S):W3 (cy i δ S) QV:=by unfold cy;rw [e];exact W3.ok h
theorem DA{f:ak->R (List D)}{ds:List D}(e:f (down δ)= .ok ds)(h:QV (.loc S.length) (S++[.lst ds])):W3 (Bk f δ S) QV:=W3.bind (W3.of e (W3.ok h))
theorem iF(h:QA [] S):W3 (ee δ S) QA:=W3.ok h
theorem cQ{f:FX}{g:FA}(h:W3 (f δ S) fun v S1=>W3 (g δ S1) fun vs S2=>QA (v ::vs) S2):W3 (bE f g δ S) QA:=W3.bind (h.mono fun _ _ h=>W3.bind (h.mono fun _ _ h=>W3.ok h))
theorem LL{g:FA}(h:W3 (g δ S) fun vs S1=>vs.length<=sizeLine/\QV (u7 vs) S1):W3 (wR g δ S) QV:=W3.bind (h.mono fun _ _ h=>W3.wh (decide_eq_true h.1) (W3.ok h.2))
theorem Q8{g:D->D->R D}{fa fb:FX}(h:W3 (fa δ S) fun a S1=>W3 (fb δ S1) fun b S2=>∃x y d,a= .d x/\b= .d y/\g x y= .ok d/\QV (.d d) S2):W3 (x2 g fa fb δ S) QV:=
 W3.bind (h.mono fun _ _ h=>W3.bind (h.mono fun _ _ ⟨_,_,_,e1,e2,e3,q⟩=>by subst e1 e2;exact W3.bind (W3.of e3 (W3.ok q))))
theorem Ho{g:D->D->R D}{fa fb:FX}(h:W3 (fa δ S) fun a S1=>W3 (fb δ S1) fun b S2=>∃x y k,a= .d x/\b= .d y/\g x y= .ok (.bl k)/\QB k S2):W3 (Lu g fa fb δ S) QB:=
 W3.bind (Q8 (h.mono fun _ _ h=>h.mono fun _ _ ⟨x,y,k,e1,e2,e3,q⟩=>⟨x,y, .bl k,e1,e2,e3,W3.ok q⟩))
theorem AR{g:List V3->aP->R3 V3}{fs:FA}(h:W3 (fs δ S) fun vs S1=>W3 (g vs S1) QV):W3 (qo g fs δ S) QV:=W3.bind h
theorem Er{g:List D->R D}{fs:FA}(h:W3 (fs δ S) fun vs S1=>∃ds d,vs=ds.map .d/\g ds= .ok d/\QV (.d d) S1):W3 (tW g fs δ S) QV:=
 W3.bind (h.mono fun _ _ ⟨ds,_,e1,e2,q⟩=>by subst e1;rw [qG];exact W3.bind (W3.of e2 (W3.ok q)))
theorem Cn{it:FA}{own:List Str}{kp:List Nat}(h:W3 (it δ S) fun vs S1=>vs.length<=sizeLine/\W3 (lJ t c f (mM own kp δ) vs S1) fun ys S2=>QV (sM ys) S2):W3 (qR it t c f own kp δ S) QV:=
 W3.bind (h.mono fun _ _ h=>W3.wh (decide_eq_true h.1) (W3.bind (h.2.mono fun _ _ h=>W3.ok h)))
theorem g7{F G:FZ}(h:W3 (F δ S) fun o S1=>∃δ1,o= .nx δ1/\W3 (G δ1 S1) QO):W3 (dc F G δ S) QO:=W3.bind (h.mono fun _ _ ⟨_,e,h⟩=>by subst e;exact h)
theorem nD{i:Nat}{f:FX}(hi:i < δ.length)(h:W3 (f δ S) fun v S1=>QO (.nx (δ.set i (some v))) S1):W3 (oT i f δ S) QO:=W3.bind (h.mono fun _ _ h=>W3.wh (decide_eq_true hi) (W3.ok h))
theorem B9{f:FX}(h:W3 (f δ S) fun v S1=>QO (.rt v) S1):W3 (uE f δ S) QO:=W3.bind (h.mono fun _ _ h=>W3.ok h)
theorem Jw{c:FB}{F G:FZ}(h:W3 (c δ S) fun b S1=>if b then W3 (F δ S1) QO else W3 (G δ S1) QO):W3 (rL c F G δ S) QO:=W3.bind (h.mono fun b _ h=>by cases b <;> exact h)
theorem tV(h:QO (.nx δ) S):W3 (km δ S) QO:=W3.ok h
theorem FF{f:ak->R (List D)}{ds:List D}(e:f (down δ)= .ok ds)(h:QA (ds.map .d) S):W3 (iP f δ S) QA:=W3.bind (W3.of e (W3.ok h))
theorem Ck{f:FX}(h:W3 (f δ S) fun v S1=>∃vs,v= .tup vs/\QA vs S1):W3 (A6 f δ S) QA:=W3.bind (h.mono fun _ _ ⟨n,e,q⟩=>by subst e;exact W3.ok q)
theorem G1{it:FA}(h:W3 (it δ S) fun vs S1=>W3 (eB t F vs δ S1) QO):W3 (wm it t F δ S) QO:=W3.bind h
theorem BG{i k:Nat}{f:FX}(hk:δ[i]? =some (some (.loc k)))(h0:∃ds,S[k]? =some (.lst ds))(h:W3 (f δ S) fun v S1=>∃d ds,v= .d d/\S1[k]? =some (.lst ds)/\ds.length < sizeLine/\QO (.nx δ) (S1.set k (.lst (ds++[d])))):W3 (BM i f δ S) QO:=by
 obtain⟨es,h0⟩:=h0;unfold BM;have e1:j7 δ i=some k:=by unfold j7;rw [hk]
 have e2:cq S k=some es:=by unfold cq;simp only[h0]
 rw[e1];show W3 (match cq S k with | none=>_ | some _=>_) _
 rw[e2];refine W3.bind (h.mono fun v S1 ⟨d,ds,e,h1,hl,q⟩=>?_)
 subst e;have e3:cq S1 k=some ds:=by unfold cq;simp only[h1]
 show W3 (match cq S1 k with | some ds=>_ | none=>_) _
 rw[e3];exact W3.wh (decide_eq_true hl) (W3.ok q)
theorem rf{t:FG}{body:FZ}:∀(vs:List V3) (n:Nat) (P:Nat->DE->aP->Prop) {δ:DE} {S:aP},P n δ S->
 (∀i v δ S,vs[i]? =some v->P (n+i) δ S->∃δ1,t v δ=some δ1/\W3 (body δ1 S) fun o S1=>∃g9,o= .nx g9/\P (n+i+1) g9 S1)->W3 (eB t body vs δ S) fun o S1=>∃g9,o= .nx g9/\P (n+vs.length) g9 S1
 | [],n,P,δ,S,h0,_=>W3.ok ⟨δ,rfl,h0⟩
 | v ::vs,n,P,δ,S,h0,hs=>by
   obtain⟨δ1,e1,o,S1,e2,g9,rfl,p2⟩:=hs 0 v δ S rfl h0;have ih:=rf vs (n+1) P p2 (fun i v' dC S' hi hp=>by
    have:=hs (i+1) v' dC S' (by simpa using hi) (by rw[show n+(i+1)=n+1+i by omega];exact hp)
    rw[show n+(i+1)+1=n+1+i+1 by omega] at this
    exact this)
   rw[show n+1+vs.length=n+(v ::vs).length by rw[List.length_cons];omega] at ih
   unfold eB;rw[e1];refine W3.bind ⟨_,_,e2,?_⟩;exact ih
theorem Al{t:FG}{body:FZ}{vs:List V3}(P:Nat->DE->aP->Prop){δ:DE}{S:aP}(h0:P 0 δ S)
 (hs:∀i v δ S,vs[i]? =some v->P i δ S->∃δ1,t v δ=some δ1/\W3 (body δ1 S) fun o S1=>∃g9,o= .nx g9/\P (i+1) g9 S1):W3 (eB t body vs δ S) fun o S1=>∃g9,o= .nx g9/\P vs.length g9 S1:=by
 have:=rf (t:=t) (body:=body) vs 0 P h0 (fun i v δ S hi hp=>by simpa using hs i v δ S hi (by simpa using hp))
 simpa using this
theorem qL{t:FG}{c:FB}{f:FX}{δ:DE}:∀(vs:List V3) (n:Nat) (P:Nat->List V3->aP->Prop) {ys:List V3} {S:aP},P n ys S->
 (∀i v ys S,vs[i]? =some v->P (n+i) ys S->∃δ1,t v δ=some δ1/\W3 (c δ1 S) fun b S1=>if b then W3 (f δ1 S1) fun y S2=>P (n+i+1) (ys++[y]) S2 else P (n+i+1) ys S1)->W3 (lJ t c f δ vs S) fun zs S1=>P (n+vs.length) (ys++zs) S1
 | [],n,P,ys,S,h0,_=>W3.ok (by rw[List.append_nil];exact h0)
 | v ::vs,n,P,ys,S,h0,hs=>by
   obtain⟨δ1,e1,b,S1,e2,h2⟩:=hs 0 v ys S rfl h0;have ih:∀{Mm S'},P (n+1) Mm S'->W3 (lJ t c f δ vs S') fun zs S1=>P (n+(v ::vs).length) (Mm++zs) S1:=fun {Mm S'} p=>by
    have:=qL (t:=t) (c:=c) (f:=f) (δ:=δ) vs (n+1) P p (fun i v' Mm S' hi hp=>by
     have:=hs (i+1) v' Mm S' (by simpa using hi) (by rw[show n+(i+1)=n+1+i by omega];exact hp)
     rw[show n+(i+1)+1=n+1+i+1 by omega] at this
     exact this)
    rw[show n+1+vs.length=n+(v ::vs).length by rw[List.length_cons];omega] at this
    exact this
   unfold lJ;rw[e1];refine W3.bind ⟨b,S1,e2,?_⟩;cases b with
   | true=>
     rw[if_pos rfl] at h2 ⊢;exact W3.bind (h2.mono fun y S2 p=>W3.bind ((ih p).mono fun zs S3 q=>W3.ok (by rw[List.append_assoc] at q;exact q)))
   | false=>rw [if_neg (by decide)] at h2 ⊢;exact ih h2
theorem Aj{t:FG}{c:FB}{f:FX}{δ:DE}{vs:List V3}(P:Nat->List V3->aP->Prop){S:aP}(h0:P 0 [] S)
 (hs:∀i v ys S,vs[i]? =some v->P i ys S->∃δ1,t v δ=some δ1/\W3 (c δ1 S) fun b S1=>if b then W3 (f δ1 S1) fun y S2=>P (i+1) (ys++[y]) S2 else P (i+1) ys S1):W3 (lJ t c f δ vs S) fun zs S1=>P vs.length zs S1:=by
 have:=qL (t:=t) (c:=c) (f:=f) (δ:=δ) vs 0 P h0 (fun i v ys S hi hp=>by simpa using hs i v ys S hi (by simpa using hp))
 simpa using this
theorem Lz{QB:Bool->aP->Prop}(h:QB true S):W3 (F0 δ S) QB:=W3.ok h
theorem TU{N:List Str}{F:FZ}{vs:List V3}{δ:DE}(e:dZ N vs=δ)(h:W3 (F δ S) fun o S1=>∃v,o= .rt v/\QV v S1):W3 (sL N F vs S) QV:=by
 subst e;exact W3.bind (h.mono fun _ _ ⟨_,e,q⟩=>by subst e;exact W3.ok q)
def Rl(S:aP):Prop:=∀o∈S,∃ds,o=SO.lst ds
end
section
variable {S:aP} {δ:DE} {QV:V3->aP->Prop}
theorem Fc{it:FA}{t:FG}{c:FB}{f:FX}{own:List Str}{kp:List Nat}(P:Nat->List D->aP->Prop)(h:W3 (it δ S) fun vs S1=>vs.length<=sizeLine/\P 0 [] S1/\
 (∀i v ds S2,vs[i]? =some v->P i ds S2->∃δ1,t v (mM own kp δ)=some δ1/\W3 (c δ1 S2) fun b S3=>if b then W3 (f δ1 S3) fun y S4=>∃d,y= .d d/\P (i+1) (ds++[d]) S4 else P (i+1) ds S3)/\
 ∀ds S2,P vs.length ds S2->QV (.d (.lst ds)) S2):W3 (qR it t c f own kp δ S) QV:=by
 refine Cn (h.mono fun vs S1 ⟨hl,h0,hs,hq⟩=>⟨hl,?_⟩)
 refine(Aj (fun i ys S=>∃ds,ys=ds.map V3.d/\P i ds S) ⟨[],rfl,h0⟩ ?_).mono fun zs S2 ⟨ds,e,p⟩=>?_
 .rintro i v ys S2 hv ⟨ds,rfl,p⟩;obtain⟨δ1,e1,h1⟩:=hs i v ds S2 hv p;refine⟨δ1,e1,h1.mono fun b S3 h3=>?_⟩
  cases b with
  | true=>
    rw[if_pos rfl] at h3 ⊢;exact h3.mono fun y S4 ⟨d,e,p⟩=>by subst e;exact⟨ds++[d],by simp,p⟩
  | false=>rw [if_neg (by decide)] at h3 ⊢;exact⟨ds,rfl,h3⟩
 .subst e;unfold sM;rw[qG];exact hq ds S2 p
structure g_ (n:Nat) (d:D):Prop where
 pl:cA d=true
 ly:(toPy d).canLay0=true
 dp:(toPy d).depth<=n
theorem g_.int(i:Int):g_ 0 (.int i):=⟨by unfold cA;rfl,by unfold toPy PyData.canLay0;rfl,by unfold toPy PyData.depth;omega⟩
theorem g_.bl(b:Bool):g_ 0 (.bl b):=⟨by unfold cA;rfl,by unfold toPy PyData.canLay0;rfl,by unfold toPy PyData.depth;omega⟩
theorem g_.str(h:(PyData.str s).canLay0=true):g_ 0 (.str s):=⟨by unfold cA;rfl,by unfold toPy;exact h,by unfold toPy PyData.depth;omega⟩
theorem g_.mono{n m:Nat}{d:D}(h:g_ n d)(hm:n<=m):g_ m d:=⟨h.pl,h.ly,Nat.le_trans h.dp hm⟩
theorem g_.all{n:Nat}:∀{ds:List D},(∀d∈ds,g_ n d)->fD ds=true/\PyData.canLayAll0 (i4 ds)=true/\PyData.depthAll (i4 ds)<=n
 | [],_=>⟨by unfold fD;rfl,by unfold i4 PyData.canLayAll0;rfl,by unfold i4 PyData.depthAll;omega⟩
 | d ::ds,h=>by
   obtain⟨h1,h2,h3⟩:=g_.all (ds:=ds) fun x hx=>h x (List.mem_cons_of_mem _ hx)
   have f:=h d List.mem_cons_self;refine⟨by unfold fD;rw [f.pl,h1];rfl,by unfold i4 PyData.canLayAll0;rw [f.ly,h2];rfl,?_⟩
   unfold i4 PyData.depthAll;have:=f.dp;omega
theorem g_.lst{n:Nat}{ds:List D}(h:∀d∈ds,g_ n d):g_ (n+1) (.lst ds):=by
 obtain⟨h1,h2,h3⟩:=g_.all h;exact⟨by unfold cA;exact h1,by unfold toPy PyData.canLay0;exact h2,by unfold toPy PyData.depth;omega⟩
theorem g_.tup{n:Nat}{ds:List D}(h:∀d∈ds,g_ n d):g_ (n+1) (.tup ds):=by
 obtain⟨h1,h2,h3⟩:=g_.all h;exact⟨by unfold cA;exact h1,by unfold toPy PyData.canLay0;exact h2,by unfold toPy PyData.depth;omega⟩
theorem g_.sh{n:Nat}{d:D}(h:g_ n d)(hn:n<=64):SeqAt.shaped (toPy d)=true:=by
 unfold SeqAt.shaped;rw[h.ly,decide_eq_true (Nat.le_trans h.dp hn)];rfl
theorem IP{d e:List D}:DV (.lst d) (.lst e)=R.aS (cA (.lst d) && cA (.lst e) && SeqAt.shaped (toPy (.lst d)) && SeqAt.shaped (toPy (.lst e))) (.ok (PyData.eqv (toPy (.lst d)) (toPy (.lst e)))):=rfl
theorem Jq{d e:List D}:DV (.tup d) (.tup e)=R.aS (cA (.tup d) && cA (.tup e) && SeqAt.shaped (toPy (.tup d)) && SeqAt.shaped (toPy (.tup e))) (.ok (PyData.eqv (toPy (.tup d)) (toPy (.tup e)))):=rfl
theorem g_.eqT{n:Nat}{ds:List D}(h:g_ n (.tup ds))(hn:n<=64):DV (.tup ds) (.tup ds)= .ok true:=by
 rw[Jq,h.pl,h.sh hn,SeqAt.eqv_refl _ h.ly];rfl
theorem g_.TL{n:Nat}{ds:List D}(h:g_ n (.lst ds))(hn:n<=64):DV (.lst ds) (.lst ds)= .ok true:=by
 rw[IP,h.pl,h.sh hn,SeqAt.eqv_refl _ h.ly];rfl
end
end L3
end
section
namespace L2
open PySem PySem.Spec PyProof.Rows
section
variable {X:Cx}
def GX:D->Bool | .cz=>true | _=>false
def VP(d e:D):R D:=match e with | .cz=> .ok (.bl (GX d)) | _=> .no
def SN(d e:D):R D:=match e with | .cz=> .ok (.bl (!GX d)) | _=> .no
theorem Ad:iI X (.type "int") (fun xs H Q=>∃x n,xs=[.str x]/\PySem.intText? x=some n/\x.length<=640/\Q (.int n) H):=by
 intro pins s σ H xs us Q I r h;obtain⟨x,n,rfl,h1,h2,q⟩:=h;obtain⟨u,rfl,ru⟩:=vals1 r;obtain⟨t,rfl⟩:=ru;exact PySem.W.KIN.call_text h1 h2 ⟨.int n,H,I.tok _,⟨_,rfl⟩,q⟩
def BO:List D->R D
 | [.str x]=>R.aS (decide (x.length<=640)) (match PySem.intText? x with | some n=> .ok (.int n) | none=> .no)
 | _=> .no
theorem Jn:cJ X (.type "int") BO:=cJ.of Ad fun B H ds d xs Q _ rs hg q=>by
 unfold BO at hg;split at hg
 .obtain⟨h1,h2⟩:=R.aO hg;split at h2
  .rename_i e;cases h2;obtain⟨x,rfl,r⟩:=rs.one;exact⟨_,_,by rw[Rep.str.mp r],e,of_decide_eq_true h1,q _ H (aN.refl H) (Rep.int.mpr rfl)⟩
  .cases h2
 .cases hg
def vd(ds:List D):R D:=match ds with | [.str _]=>BO ds | _=>cInt ds
theorem xx:cJ X (.type "int") vd:=cJ.or Jn LY fun a d h=>by
 unfold vd at h;split at h
 .exact .inl h
 .exact .inr h
def Ud(f:FD):FD:=fun δ=>(f δ).bind fun d=>match d with | .int i=> .ok (.int (-i)) | _=> .no
def Rp(d:D)(ds:List D):R D:=match d,ds with
 | .str x,[.str y]=> .ok (.int (Txt.find x y))
 | _,_=> .no
def Td(ay:List (Str × Str)):D:= .dct (ay.map fun p=>Sum.inr p.1) (ay.map fun p=> .str p.2)
def V7(ay:List (Str × Str)):List (Key × V):=ay.map fun p=>((Sum.inr p.1:Key),V.str p.2)
def Sq(d k:D):R D:=match d,k with
 | .dct ks ds, .str x=>(match (ks.zip ds).find? fun p=>decide (p.1=Sum.inr x) with | some p=> .ok p.2 | none=> .no)
 | _,_=> .no
end
theorem KQ{K:W.Frag}{mg:WK}{k n:Nat}{f:Addr}{fd:FuncData}{ps:List Str}:f9 P w K mg base rX k f fd ps (DX K n fun _=> .no):=
 ⟨fun vs H Q E h=>(by obtain⟨_,_,_,_,_,_,h,_⟩:=h;cases h),fun A outer s H args us vs Q E _ _ _ _ h=>(by obtain⟨_,_,_,_,_,_,h,_⟩:=h;cases h)⟩
end L2
namespace L3
open PySem PySem.Spec PyProof.Rows L2
section
variable {X:Cx} {cl:WL}
def Q9(f:FX):FB:=fun δ S=>(f δ S).bind fun v S=>match v with | .d (.bl b)=> .ok b S | _=> .no
def Ul(f g:FX):FX:=fun δ S=>(Q9 f δ S).bind fun b S=>if b then g δ S else .ok (.d (.bl false)) S
def VQ(f g:FX):FX:=fun δ S=>(Q9 f δ S).bind fun b S=>if b then .ok (.d (.bl true)) S else g δ S
def R8(i:Nat)(F:FZ):FZ:=fun δ S=>match j7 δ i with
 | some k=>(match cq S k with | some ds=>F (δ.set i (some (.d (.lst ds)))) (S.set k .kK) | none=> .no)
 | none=> .no
end
def Flat(S:aP):Prop:=∀o∈S,∀n,vC n o=true
theorem Flat.nil:Flat []:=fun o ho=>by cases ho
end L3
end
section
namespace PySem
open Sem (wp)
open AutoSeq1 (wpAny_loadPart')
section
variable {prog:Program} {w:World} {A:Around} {E:WG} {s:Shared}
end
end PySem
namespace L2
open PySem PySem.Spec PyProof.Rows
section
variable {X:Cx}
def Mz(f:FD):FD:=fun δ=>(f δ).bind fun d=>match d with
 | .int j=>R.aS (decide (-(2 ^ 62)<=j/\j < 16777216)) (.ok (.tup (pQ 0 j.toNat)))
 | _=> .no
end
end L2
end
section
namespace PySem
open Sem (wp)
open AutoSeq1 (wpAny_loadPart')
section
variable {prog:Program} {w:World} {A:Around} {E:WG} {s:Shared}
end
end PySem
namespace L2
open PySem PySem.Spec PyProof.Rows
def SQ(K:W.Frag)(a:Addr):It:=
 ⟨fun i H=>∃xs x,oU K H a xs/\xs[i]? =some x,fun i H v H'=>∃p x,H p=none/\v= .ref p/\(∀xs,oU K H a xs->xs[i]? =some x)/\H'=upd H p (.tup [.int i,x]),fun i H=>∃xs,oU K H a xs/\xs.length<=i⟩
section
variable {X:Cx}
def MJ(f:FD):ak->R (List D):=fun δ=>(f δ).bind fun d=>match d with | .tup ds=> .ok (mR ds) | _=> .no
end
end L2
end
section
namespace L2
open PySem PySem.Spec PyProof.Rows
section
variable {X:Cx}
abbrev QZ:D->D->R D:=DT (fun _ j=>decide (0 < j/\j.natAbs.log2 < 9000)) fun i j=>i / j
def SE(f:ak->R (List D))(g:FD):ak->R (List D):=fun δ=>(f δ).bind fun ds=>(g δ).bind fun d=>match d with
 | .int k=>R.aS (decide (0<=k/\k < 1000000/\ds.length*k.toNat<=sizeLine)) (.ok (List.replicate k.toNat ds).flatten)
 | _=> .no
def Bq(ns:List Int):List Int:=ns.mergeSort fun a b=>decide (a<=b)
def MC:List D->R D
 | [.lst ds]=>(match ints? ds with | some ns=>R.aS (decide (ns.length < 64)) (.ok (.lst ((Bq ns).map .int))) | none=> .no)
 | _=> .no
theorem getD_in{l:List Int}{i:Nat}(h:i < l.length):l.getD i 0∈l:=by
 have e:l.getD i 0=l[i]:=by simp [h]
 rw[e];exact List.getElem_mem h
theorem fold_min:∀(ns:List Int) (n:Int),ns.foldl min n∈n ::ns/\∀a∈n ::ns,ns.foldl min n<=a
 | [],n=>⟨by simp,fun a ha=>by simp at ha;subst ha;exact Int.le_refl _⟩
 | x ::ns,n=>by
   obtain⟨h1,h2⟩:=fold_min ns (min n x);rw[List.foldl_cons];refine⟨?_,fun a ha=>?_⟩
   .rcases List.mem_cons.mp h1 with z | z
    .rw [z];by_cases hc:n<=x
     .rw [Int.min_eq_left hc];simp
     .rw [Int.min_eq_right (by omega)];simp
    .exact List.mem_cons_of_mem _ (List.mem_cons_of_mem _ z)
   .have hm:=h2 _ List.mem_cons_self;rcases List.mem_cons.mp ha with z | z
    .subst z;omega
    .rcases List.mem_cons.mp z with z | z
     .subst z;omega
     .exact h2 a (List.mem_cons_of_mem _ z)
def yw:List D->R D
 | [.lst ds]=>(match ints? ds with | some (n ::ns)=> .ok (.int (ns.foldl min n)) | _=> .no)
 | ds=>A8 ds
def Rc:List D->R D
 | [.lst ds]=>(match ints? ds with | some (n ::ns)=> .ok (.int (ns.foldl max n)) | _=> .no)
 | ds=>NJ ds
theorem JH(hc:X.calm=true):cJ X (.builtin "min") yw:=by
 intro pins s σ H B ds d xs us I hb rx rs hg;unfold yw at hg;split at hg
 .split at hg
  .rename_i es n ns e;cases hg;obtain⟨x,rfl,r⟩:=rs.one;obtain⟨a,ys,rfl,l,r⟩:=Rep.lst.mp r;obtain⟨u,rfl,ru⟩:=vals1 rx;cases ru;obtain⟨its,k,rv,e1,hz⟩:=I.Ee l;rw[eY r e] at rv;obtain⟨ps,rfl,hps⟩:=gC rv;have hl:s.heap.IsList a (intItems ps.toArray):=⟨_,e1,rfl,k,by simp [intItems]⟩
   have hlp:ps.length=ns.length+1:=by have:=congrArg List.length hps;simpa using this
   refine min_intList (I.ok.hd hc) hl (by simp;omega) fun v h' tk hv hk=>?_
   obtain⟨t,rfl⟩:=intItems_at hv;obtain⟨b1,b2⟩:=argBest_lt (numAt ps.toArray) (ps.toArray.size - 1);refine⟨.int _,H,I.kept hk,⟨t,rfl⟩,aN.refl H,Rep.int.mpr ?_⟩;obtain⟨m1,m2⟩:=fold_min ns n;have hge:∀j,j < ps.length->numAt ps.toArray j=(n ::ns).getD j 0:=fun j hj=>by rw[numAt_eq,<-hps]
   have hin:numAt ps.toArray (argBest (fun i j=>decide (numAt ps.toArray i < numAt ps.toArray j)) (ps.toArray.size - 1))∈n ::ns:=by
    rw[hge _ (by simp at b1 ⊢;omega)];exact getD_in (by simp at b1 ⊢;omega)
   have hle:=m2 _ hin;obtain⟨j,hj,ej⟩:=List.getElem_of_mem m1;have hj':j < ns.length+1:=by simpa using hj
   have h3:=b2 j (by simp;omega)
   rw[hge j (by omega)] at h3
   have h4:(n ::ns).getD j 0=ns.foldl min n:=by rw[<-ej,List.getD_eq_getElem?_getD,List.getElem?_eq_getElem hj];rfl
   rw[h4] at h3;congr 1;omega
  .cases hg
 .exact K2 hc pins s σ H B _ d xs us I hb rx rs hg
end
end L2
namespace L3
open PySem PySem.Spec PyProof.Rows L2
def Lb(S:aP):V3->Option (List D)
 | .d (.lst ds)=>some ds
 | .loc k=>cq S k
 | _=>none
section
variable {X:Cx} {cl:WL}
def Ui(fa fb:FX):FX:=fun δ S=>(fa δ S).bind fun a S1=>(fb δ S1).bind fun b S2=>match Lb S2 a,Lb S2 b with
 | some ds,some es=>R3.aS (decide (ds.length+es.length<=sizeLine)) (.ok (.loc S2.length) (S2++[.lst (ds++es)]))
 | _,_=> .no
def Sb(i:Nat):FZ:=fun δ S=>match j7 δ i with
 | none=> .no
 | some k=>(match cq S k with | some _=> .ok (.nx δ) (S.set k (.lst [])) | none=> .no)
end
end L3
end
section
namespace L3
open PySem PySem.Spec PyProof.Rows L2
def jV(S:aP)(c k:Nat):Option (List (Str × V3)):=match S[k]? with | some (.ins c' fs)=>(if c'=c then some fs else none) | _=>none
theorem kr{S:aP}{c k:Nat}{fs:List (Str × V3)}(h:jV S c k=some fs):S[k]? =some (.ins c fs):=by
 unfold jV at h;split at h
 .rename_i c' Kn e;split at h
  .rename_i hc;cases h;rw [e,hc]
  .cases h
 .cases h
theorem zp{K:W.Frag}{v:V3}:∀{fs:List (Str × V3)} {ys:List (Str × V)},ys.map (·.1)=fs.map (·.1)->aE K ρ H (fs.map (·.2)) (ys.map (·.2))->fs.lookup f=some v->∃x,ys.lookup f=some x/\aT K ρ H v x
 | [],ys,_,_,h=>by simp at h
 | (g,w) ::fs,[],e,_,_=>by simp at e
 | (g,w) ::fs,(g',y) ::ys,e,r,h=>by
   obtain⟨e1,pG⟩:=List.cons.inj e;have e1:g'=g:=e1;subst e1;obtain⟨x,xs,ex,r1,r2⟩:=r.b6;cases ex;rw[List.lookup_cons] at h ⊢;cases hq:f==g' with
   | true=>rw [hq] at h;cases h;exact⟨y,rfl,r1⟩
   | false=>rw [hq] at h;exact zp pG r2 h
theorem vm:∀{fs:List (Str × V3)} {ys:List (Str × V)},ys.map (·.1)=fs.map (·.1)->fs.lookup f=none->ys.lookup f=none
 | [],[],_,_=>rfl
 | [],_ ::_,e,_=>by simp at e
 | _ ::_,[],e,_=>by simp at e
 | (g,w) ::fs,(g',y) ::ys,e,h=>by
   obtain⟨e1,pG⟩:=List.cons.inj e;have e1:g'=g:=e1;subst e1;rw[List.lookup_cons] at h ⊢;cases hq:f==g' with
   | true=>rw [hq] at h;cases h
   | false=>rw [hq] at h;exact vm pG h
def ue(f:Str)(v:V3):List (Str × V3)->List (Str × V3)
 | []=>[(f,v)]
 | (g,x) ::r=>if g=f then(g,v) ::r else(g,x) ::ue f v r
theorem yV{K:W.Frag}{f:Str}{v:V3}{u:V}(rv:aT K ρ H v u):∀{fs:List (Str × V3)} {ys:List (Str × V)},ys.map (·.1)=fs.map (·.1)->aE K ρ H (fs.map (·.2)) (ys.map (·.2))->
 (jz f u ys).map (·.1)=(ue f v fs).map (·.1)/\aE K ρ H ((ue f v fs).map (·.2)) ((jz f u ys).map (·.2))
 | [],[],_,_=>⟨rfl,aE.cons rv aE.nil⟩
 | [],_ ::_,e,_=>by simp at e
 | _ ::_,[],e,_=>by simp at e
 | (g,w) ::fs,(g',y) ::ys,e,r=>by
   obtain⟨e1,pG⟩:=List.cons.inj e;have e1:g'=g:=e1;subst e1;obtain⟨x,xs,ex,r1,r2⟩:=r.b6;cases ex;unfold ue jz;by_cases hg:g'=f
   .rw [if_pos hg,if_pos hg];exact⟨by rw[List.map_cons,List.map_cons,pG],aE.cons rv r2⟩
   .rw [if_neg hg,if_neg hg];obtain⟨h1,h2⟩:=yV rv pG r2;exact⟨by rw[List.map_cons,List.map_cons,h1],aE.cons r1 h2⟩
section
variable {X:Cx} {cl:WL}
def eE(c:Nat)(f:Str)(g:FX):FX:=fun δ S=>(g δ S).bind fun v S1=>match v with
 | .loc k=>(match jV S1 c k with | some fs=>(match fs.lookup f with | some v=> .ok v S1 | none=> .no) | none=> .no)
 | _=> .no
theorem cf{c:Nat}{pos:Pos}(hC:vt X.K (cl c))(hn:c9 X.K (cl c) f)(he:PX X cl e g)(hb:attributeBase e f X.env (eval e X.env)=eval e X.env:=by rfl):PX X cl (.Attribute e f pos) (eE c f g):=⟨(JB he.1 hb).imp fun σ H Q ⟨ρ,S,δ,v,S',E,hf,q⟩=>by
 obtain⟨o,S1,h1,h2⟩:=R3.ag hf;split at h2
 .rename_i k;split at h2
  .rename_i fs e1;split at h2
   .rename_i w pG;cases h2;refine⟨ρ,S,δ, .loc k,_,E,h1,fun u bx H1 p1 w1 r1=>?_⟩
    unfold aT at r1;obtain⟨a,a1,rfl⟩:=r1;obtain⟨dx,ys,ey,ek,rs⟩:=w1.ob k a _ a1 (kr e1);obtain⟨x,hx,rx⟩:=zp ek rs pG;exact⟨a,cl c,dx,ys,x,rfl,ey,hC,hn,hx,q x bx H1 p1 w1 rx⟩
   .cases h2
  .cases h2
 .cases h2⟩
theorem w_fld{c k:Nat}{g:FX}{δ:DE}{S:aP}{Q:V3->aP->Prop}(h:W3 (g δ S) fun v S1=>∃fs w,v= .loc k/\S1[k]? =some (.ins c fs)/\fs.lookup f=some w/\Q w S1):W3 (eE c f g δ S) Q:=
 W3.bind (h.mono fun v S1 ⟨fs,w,e1,pG,e3,q⟩=>by
  subst e1;have e4:jV S1 c k=some fs:=by unfold jV;simp only[pG,if_true]
  simp only[e4,e3];exact W3.ok q)
def Q2(P:Program)(w:World)(K:W.Frag)(mg:WK)(base:Heap)(cl:WL)(k c:Nat)(m:Str)(n:Nat)(g:List V3->aP->R3 V3):Prop:=
 ∃(f:Addr) (fd:FuncData) (ps:List Str),vt K (cl c)/\Meth K (cl c) m f/\f9 P w K mg base rX k f fd ps (GC K cl (n+1) g)/\Binds K fd ps []
def nO(c:Nat)(m:Str)(g:List V3->aP->R3 V3)(fo:FX)(fs:FA):FX:=fun δ S=>(fo δ S).bind fun o S1=>match o with
 | .loc k=>(match jV S1 c k with | some ys=>(match ys.lookup m with | none=>(fs δ S1).bind fun vs S2=>g (.loc k ::vs) S2 | some _=> .no) | none=> .no)
 | _=> .no
def BE(P:Program)(w:World)(K:W.Frag)(mg:WK)(base:Heap)(cl:WL)(k c:Nat)(x:Str)(n:Nat)(g:List V3->aP->R3 V3):Prop:=
 ∃(f:Addr) (fd:FuncData) (ps:List Str),Mk K (cl c) f/\f9 P w K mg base rX k f fd ps (GC K cl (n+1) g)/\mg x=some (.ref (cl c))/\Binds K fd ps []
def Bm(c:Nat)(g:List V3->aP->R3 V3)(fs:FA):FX:=fun δ S=>(fs δ S).bind fun vs S1=>(g (.loc S1.length ::vs) (S1++[.ins c []])).bind fun v S2=>match v with
 | .d .cz=> .ok (.loc S1.length) S2
 | _=> .no
def ur(c:Nat)(f:Str)(fo fe:FX):FZ:=fun δ S=>(fe δ S).bind fun v S1=>(fo δ S1).bind fun o S2=>match o with
 | .loc k=>(match jV S2 c k with | some fs=>R3.aS (decide (fs.length < 1000)) (.ok (.nx δ) (S2.set k (.ins c (ue f v fs)))) | none=> .no)
 | _=> .no
theorem o7{c:Nat}{pos pos':Pos}(hC:vt X.K (cl c))(hn:c9 X.K (cl c) f)(ho:PX X cl o fo)(he:PX X cl value fe)(hs:swapsWith value (some (.Attribute o f pos')) pos.line X.env=pure false:=by rfl) :
 PZ X cl (.Assign [.Attribute o f pos'] value pos) (ur c f fo fe):=⟨(Jd ho.1 he.1 hs).imp fun D σ H ⟨ρ,S,δ,ou,S',E,hf,q⟩=>by
 obtain⟨v,S1,h1,h2⟩:=R3.ag hf;obtain⟨vo,S2,h3,h4⟩:=R3.ag h2;split at h4
 .rename_i k;split at h4
  .rename_i fs e1;obtain⟨hl,h5⟩:=R3.aO h4;cases h5;refine⟨ρ,S,δ,v,S1,E,h1,fun u bx H1 p1 w1 r1=>⟨bx,S1,δ, .loc k,S2,E.to p1 w1,h3,fun u2 ox H2 p2 w2 r2=>?_⟩⟩
   unfold aT at r2;obtain⟨a,a1,rfl⟩:=r2;obtain⟨dx,ys,ey,ek,rs⟩:=w2.ob k a _ a1 (kr e1);have hlen:ys.length=fs.length:=by have:=congrArg List.length ek;simpa using this
   obtain⟨k1,k2⟩:=yV (f:=f) (r1.pre p2) ek rs;obtain⟨w3,p3⟩:=w2.put (o:= .ins c (ue f v fs)) (u:= .ins (cl c) dx (jz f u ys)) a1 (w2.fz k a a1 (by rw[kr e1];intro h;cases h)) ⟨dx,_,rfl,k1,k2⟩
   exact⟨a,cl c,dx,ys,rfl,ey,hC,hn,by rw[hlen];exact of_decide_eq_true hl,q σ ox _ (p1.trans (p2.trans p3)) (E.to (p1.trans (p2.trans p3)) w3)⟩
  .cases h4
 .cases h4⟩
theorem jO{c k:Nat}{fo fe:FX}{δ:DE}{S:aP}{QO:Ou->aP->Prop}(h:W3 (fe δ S) fun v S1=>W3 (fo δ S1) fun o S2=>∃fs,o= .loc k/\S2[k]? =some (.ins c fs)/\fs.length < 1000/\QO (.nx δ) (S2.set k (.ins c (ue f v fs)))):W3 (ur c f fo fe δ S) QO:=
 W3.bind (h.mono fun v S1 h=>W3.bind (h.mono fun o S2 ⟨fs,e1,pG,hl,q⟩=>by
  subst e1;have e4:jV S2 c k=some fs:=by unfold jV;simp only[pG,if_true]
  simp only[e4];exact W3.wh (decide_eq_true hl) (W3.ok q)))
theorem JX{c:Nat}{g:List V3->aP->R3 V3}{fs:FA}{δ:DE}{S:aP}{Q:V3->aP->Prop}(h:W3 (fs δ S) fun vs S1=>W3 (g (.loc S1.length ::vs) (S1++[.ins c []])) fun v S2=>v= .d .cz/\Q (.loc S1.length) S2):W3 (Bm c g fs δ S) Q:=
 W3.bind (h.mono fun vs S1 h=>W3.bind (h.mono fun v S2 ⟨e,q⟩=>by subst e;exact W3.ok q))
end
end L3
end
section
namespace PySem
open Sem (wp)
def SD(t:Bool)(h:Heap)(i l:Addr)(k:Nat):Prop:=cond t (h.IsTupleIter i l k) (h.IsListIter i l k)
def TV(t:Bool)(h:Heap)(l:Addr)(xs:Array Value):Prop:=cond t (h.IsTuple l xs) (h.IsList l xs)
def AQ(t:Bool):String:=cond t "tuple_iterator" "list_iterator"
section
variable {prog:Program} {w:World} {A:Around} {E:WG} {s:Shared}
end
abbrev Qx(t:Bool)(h:Heap)(l1:Addr):Heap:=h.push {cls:= .type (AQ t),data:= .fields #[.ref l1, .int 0 0]}
abbrev Rb(t u:Bool)(h:Heap)(l1 l2:Addr):Heap:=(Qx t h l1).push {cls:= .type (AQ u),data:= .fields #[.ref l2, .int 0 0]}
abbrev Q0(t u:Bool)(h:Heap)(l1 l2:Addr):Heap:=(Rb t u h l1 l2).push {cls:= .type "tuple",data:= .seq #[.ref h.objs.size, .ref (Qx t h l1).objs.size]}
abbrev Uk(t u:Bool)(h:Heap)(l1 l2:Addr):Heap:=(Q0 t u h l1 l2).push {cls:= .type "tuple",data:= .seq #[.none, .none]}
abbrev VW(t u:Bool)(h:Heap)(l1 l2:Addr):Heap:=(Uk t u h l1 l2).push {cls:= .type "zip",data:= .fields #[.none, .bool false, .bool false, .ref (Rb t u h l1 l2).objs.size, .ref (Q0 t u h l1 l2).objs.size]}
end PySem
namespace L2
open PySem PySem.Spec PyProof.Rows
def Kk(t:Bool)(K:W.Frag)(H:Hp)(a:Addr)(xs:List V):Prop:=cond t (oU K H a xs) (lr K H a xs)
def Wk(K:W.Frag)(t u:Bool)(a b:Addr):It:=
 ⟨fun i H=>∃xs ys x y,Kk t K H a xs/\Kk u K H b ys/\xs[i]? =some x/\ys[i]? =some y,
  fun i H v H'=>∃p x y,H p=none/\v= .ref p/\(∀xs,Kk t K H a xs->xs[i]? =some x)/\(∀ys,Kk u K H b ys->ys[i]? =some y)/\H'=upd H p (.tup [x,y]),
  fun i H=>∃xs ys,Kk t K H a xs/\Kk u K H b ys/\(xs.length<=i\/ys.length<=i)⟩
section
variable {X:Cx}
def L7(ds es:List D):List D:=(ds.zip es).map fun p=> .tup [p.1,p.2]
def seqD?:D->Option (List D)
 | .lst ds=>some ds
 | .tup ds=>some ds
 | _=>none
def Rz(f g:FD):ak->R (List D):=fun δ=>(f δ).bind fun d=>(g δ).bind fun e=>match seqD? d,seqD? e with | some ds,some es=> .ok (L7 ds es) | _,_=> .no
def yQ(T U:String)(f:FD):FD:=fun δ=>(f δ).bind fun d=>match d with | .dct _ _=> .no | _=> .ok (.bl (lM (tyName d) T || lM (tyName d) U))
theorem CA{K:W.Frag}(t T U:String)(ht:t∈["NoneType","bool","int","str","list","tuple"])(hT:T∈["bool","int","str","list","tuple"])(hU:U∈["bool","int","str","list","tuple"]):PySem.W.kitAny K (.type t) [.type T, .type U]=some (lM t T || lM t U):=by
 unfold PySem.W.kitAny;rw[la t T ht hT];cases lM t T with
 | true=>rfl
 | false=>
   show PySem.W.kitAny K (.type t) [.type U]=_;unfold PySem.W.kitAny;rw[la t U ht hU];cases lM t U <;> rfl
theorem qT{T U:Str}{Ts Us:String}{p p2 p3 p4 pos:Pos}{x1}{e:Expr}{f:FD}(he:QD X e f)(hT:Ts∈["bool","int","str","list","tuple"])(hU:Us∈["bool","int","str","list","tuple"])(hg:Gl X "isinstance")(hm:X.mg "isinstance"=none)(O0:Gl X T)(OM:X.mg T=none)(Pk:bootBuiltins T=some (.type Ts))
 (UH:Gl X U) (Vw:X.mg U=none) (UN:bootBuiltins U=some (.type Us)) (Pw:T≠"__name__":=by decide) (O4:(T==("__debug__":Str))=false:=by decide) (Vs:U≠"__name__":=by decide) (Vp:(U==("__debug__":Str))=false:=by decide)
 (hs:starEach [e, .Tuple [.Name T p2, .Name U p3] x1 p4] X.env=(false,eval e X.env) ::starEach [.Tuple [.Name T p2, .Name U p3] x1 p4] X.env:=by rfl) (kP:(backTo pos (starEach [.Tuple [.Name T p2, .Name U p3] x1 p4] X.env)).any (·.1)=false:=by rfl):QD X (.Call (.Name "isinstance" p) [e, .Tuple [.Name T p2, .Name U p3] x1 p4] [] pos) (yQ Ts Us f):=by
 have hc:iI X (.builtin "isinstance") (fun xs H Q=>∃B d x a,Rep X.K B H d x/\(∀a b,d≠ .dct a b)/\xs=[x, .ref a]/\H a=some (.tup [.ty Ts, .ty Us])/\Q (.bl (lM (tyName d) Ts || lM (tyName d) Us)) H):=by
  intro pins s σ H xs us Q I r h;obtain⟨B,d,x,a,rd,ha,rfl,hta,q⟩:=h;obtain⟨u,w',rfl,ru,wF⟩:=vals2 r;cases wF;obtain⟨_,its,rv,o,ho,hoc,n,hod⟩:=I.hok a _ hta;obtain⟨v1,v2,rfl,UM,Vt⟩:=vals2 rv;cases UM;cases Vt;obtain⟨oc,odc,oda,AM⟩:=o;have hoc:oc= .type "tuple":=hoc;have hod:oda= .seq #[.type Ts, .type Us] n:=hod;subst hoc hod;have fin:∀tk,EP X pins σ Q (.bool (lM (tyName d) Ts || lM (tyName d) Us)) {s with toks:=tk}:=fun tk=>⟨.bl _,H,I.tok _,rfl,q⟩
  have kt:∀{t:String} {x:Value} {Hh:Heap->Prop},PySem.W.KitX X.K x (.type t) Hh->Hh s.heap->t∈["NoneType","bool","int","str","list","tuple"]->t=tyName d->x≠ .builtin "__main__.__loader__#opaque"->wpAny (model X.prog X.w) X.A (call (.builtin "isinstance") [x, .ref a]) (EP X pins σ Q) X.xe s:=fun Z hp ht e hx=>
   PySem.W.kia_tup (its:=[.type Ts, .type Us]) Z I.mS hp ho (CA _ Ts Us ht hT hU) hx (by rw[e];exact fin)
  cases d with
  | cz=>cases(show u=Value.none from(by rw[Rep.cz.mp rd] at ru;exact ru));exact kt PySem.W.kitx_none True.intro (by decide) rfl (fun z=>nomatch z)
  | bl b=>cases(show u=Value.bool b from(by rw[Rep.bl.mp rd] at ru;exact ru));exact kt PySem.W.kitx_bool True.intro (by decide) rfl (fun z=>nomatch z)
  | int i=>obtain⟨t,hh⟩:=(show ∃t,u=Value.int i t from(by rw[Rep.int.mp rd] at ru;exact ru));subst hh;exact kt PySem.W.kitx_int True.intro (by decide) rfl (fun z=>nomatch z)
  | str z=>obtain⟨t,hh⟩:=(show ∃t,u=Value.str z t from(by rw[Rep.str.mp rd] at ru;exact ru));subst hh;exact kt PySem.W.kitx_str True.intro (by decide) rfl (fun z=>nomatch z)
  | lst es=>
    obtain⟨b,ys,rfl,l,_⟩:=Rep.lst.mp rd;cases(show u=Value.ref b from ru)
    obtain⟨Gj,n2,r2,h1,z2⟩:=I.Ee l;exact kt PySem.W.kitx_list ⟨_,h1,rfl⟩ (by decide) rfl (fun z=>nomatch z)
  | tup es=>
    obtain⟨b,ys,rfl,l,_⟩:=Rep.tup.mp rd;cases(show u=Value.ref b from ru)
    obtain⟨its,rv,p,hz⟩:=I.tuple l.sq;obtain⟨o,h1,h2,_⟩:=p;exact kt PySem.W.kitx_tuple ⟨o,h1,h2⟩ (by decide) rfl (fun z=>nomatch z)
  | dct a b=>exact absurd rfl (ha a b)
 refine⟨(nF hc hg hm boot_isinstance (de he.1 (de (uA (de (uF (v:= .ty Ts) O0 OM Pk rfl Pw O4) (de (uF (v:= .ty Us) UH Vw UN rfl Vs Vp) fZ))) fZ) hs) (by decide) (by decide) hs kP).imp fun σ H Q ⟨Z,B,δ,d,E,hf,q⟩=>?_⟩
 obtain⟨d1,h1,h2⟩:=R.ag hf;have key:(∀a b,d1≠ .dct a b)/\d= .bl (lM (tyName d1) Ts || lM (tyName d1) Us):=by
  cases d1 with
  | dct a b=>cases h2
  | _=>cases h2;exact⟨fun _ _ z=>(by cases z),rfl⟩
 obtain⟨k1,rfl⟩:=key;exact⟨Z,B,δ,d1,E,h1,fun v H1 s1 r1=>⟨by show 2<=sizeLine;decide,fun pa RS=>⟨B,d1,v,pa,r1.same (br RS),k1,rfl,aX,q _ _ (s1.trans (br RS)) (Rep.bl.mpr rfl)⟩⟩⟩
def V9(lo:Int)(n:Nat):It:=⟨fun i _=>i < n,fun i H x H'=>H'=H/\x= .int (lo - i),fun i _=>n<=i⟩
def Nl(lo:Int)(n:Nat):List D:=(List.range n).map fun(i:Nat)=>D.int (lo - i)
def Rk(f g h:FD):ak->R (List D):=fun δ=>(f δ).bind fun d=>(g δ).bind fun e=>(h δ).bind fun k=>match d,e,k with
 | .int i, .int j, .int m=>R.aS (decide (m= -1/\ -(2 ^ 60)<=i/\i < 2 ^ 60/\ -(2 ^ 60)<=j/\j < 2 ^ 60)) (.ok (Nl i (i - j).toNat)) | _,_,_=> .no
def bls?:List D->Option (List Bool)
 | []=>some []
 | .bl b ::ds=>(bls? ds).map (b ::·)
 | _ ::_=>none
theorem vw{K:W.Frag}{B:List Addr}:∀{ds:List D} {xs:List V} {bs:List Bool},aD K B H ds xs->bls? ds=some bs->xs=bs.map V.bl
 | [],xs,bs,r,h=>by unfold aD at r;subst r;cases h;rfl
 | d ::ds,xs,bs,r,h=>by
   obtain⟨x,q,rfl,r1,r2⟩:=r.b6;cases d with
   | bl b=>
     have h:(bls? ds).map (b ::·)=some bs:=h
     cases e:bls? ds with
     | none=>rw [e] at h;cases h
     | some cs=>
       rw[e] at h;cases h;rw[Rep.bl.mp r1,vw r2 e];rfl
   | _=>cases h
theorem zg:∀bs:List Bool,bls? (bs.map D.bl)=some bs
 | []=>rfl
 | b ::bs=>by show(bls? (bs.map D.bl)).map (b ::·)=_;rw [zg bs];rfl
theorem qq:∀{bs:List Bool} {us:List Value},Vals (bs.map V.bl) us->us=bs.map Value.bool
 | [],us,h=>by cases h;rfl
 | b ::bs,us,h=>by
   cases h with
   | cons r t=>rw [qq t,show _=Value.bool b from r];rfl
theorem range_all(bs:List Bool):(List.range bs.length).all (fun i=>bs.getD i false)=bs.all id:=by
 rw[Bool.eq_iff_iff];simp only[List.all_eq_true,List.mem_range,id];constructor
 .intro h b hb;obtain⟨i,hi,rfl⟩:=List.getElem_of_mem hb;have:=h i hi;rw[List.getD_eq_getElem?_getD,List.getElem?_eq_getElem hi] at this;exact this
 .intro h i hi;rw[List.getD_eq_getElem?_getD,List.getElem?_eq_getElem hi];exact h _ (List.getElem_mem hi)
def BZ:List D->R D
 | [.lst ds]=>(match bls? ds with | some bs=> .ok (.bl (bs.all id)) | none=> .no)
 | _=> .no
def T5:List D->R D
 | [.lst ds]=>(match bls? ds with | some bs=> .ok (.bl (bs.any id)) | none=> .no)
 | _=> .no
theorem Lr{bs:List Bool}{i:Nat}{v:Value}(h:((bs.map Value.bool).toArray)[i]? =some v):v= .bool (bs.getD i false):=by
 rw[List.getElem?_toArray,List.getElem?_map] at h;rw[List.getD_eq_getElem?_getD];cases e:bs[i]? with
 | none=>rw [e] at h;cases h
 | some b=>rw [e] at h;cases h;rfl
theorem GU(hc:X.calm=true):cJ X (.builtin "all") BZ:=by
 intro pins s σ H B ds d xs us I hb rx rs hg;unfold BZ at hg;split at hg
 .split at hg
  .rename_i es bs e;cases hg;obtain⟨x,rfl,r⟩:=rs.one;obtain⟨a,ys,rfl,l,r⟩:=Rep.lst.mp r;obtain⟨u,rfl,ru⟩:=vals1 rx;cases ru;obtain⟨its,n,rv,e1,hz⟩:=I.Ee l;rw[vw r e] at rv;obtain rfl:=qq rv;have hl:s.heap.IsList a (bs.map Value.bool).toArray:=⟨_,e1,rfl,n,rfl⟩;have hlt:a < s.heap.objs.size:=Heap.lt_size e1;refine call_all_walk (wpAny_pyIter_list hl ?_);refine⟨_,_,_,_,_,_,fun i=>bs.getD i false,rfl,Walks.list (A:=X.A.in1) (I.ok.hd hc) _ a (Nat.ne_of_lt hlt) _,⟨⟨_,Heap.get?_push_size _ rfl,rfl,rfl⟩,hl.push _⟩,?_,fun h' tk hk=>?_⟩
   .intro i v s Q E hP hQ;rw[Lr hP];exact wpAny_truthy_bool hQ
   .refine⟨.bl (bs.all id),H,I.kept (old_kept hk),?_,aN.refl H,Rep.bl.mpr rfl⟩;show Value.bool _=Value.bool _;rw[<-range_all];simp
  .cases hg
 .cases hg
end
end L2
end
section
namespace L2
open PySem PySem.Spec PyProof.Rows
section
variable {X:Cx}
def Wr:FS:=fun _=> .no
def Qw(f:FD):FS:=fun δ=>(f δ).bind fun _=> .ok (.nx δ)
end
end L2
namespace L3
open PySem PySem.Spec PyProof.Rows L2
section
variable {X:Cx} {cl:WL}
def VI:FZ:=fun _ _=> .no
def QU(f:ak->R (List D)):FX:=fun δ S=>(R3.of (f (k_ S δ)) S).bind fun ds S=>R3.aS (wa ds) (.ok (.loc S.length) (S++[.lst ds]))
def SR(i:Nat)(f:FX):FZ:=fun δ S=>match j7 δ i with
 | none=> .no
 | some k=>match cq S k with
   | none=> .no
   | some _=>(f δ S).bind fun v S1=>match v with
     | .d (.lst es)=>(match cq S1 k with
       | some ds=>R3.aS (decide (ds.length+es.length<=sizeLine)) (.ok (.nx δ) (S1.set k (.lst (ds++es))))
       | none=> .no)
     | _=> .no
end
end L3
end
section
namespace L2
open PySem PySem.Spec PyProof.Rows
section
variable {X:Cx}
def QX(d e:D):R D:=match d,e with
 | .tup a, .tup b=>R.aS (decide (a.length+b.length<=sizeLine)) (.ok (.tup (a++b)))
 | d,e=>cN d e
def MO(f:FD):ak->R (List D):=fun δ=>(f δ).bind fun d=>match d with | .lst ds=> .ok (mR ds) | .tup ds=> .ok (mR ds) | _=> .no
def VU(K:W.Frag)(a:Addr)(n:Nat):It:=
 ⟨fun i H=>∃xs x,lr K H a xs/\xs.length=n/\i < n/\xs[n - 1 - i]? =some x,fun i H v H'=>H'=H/\∀xs,lr K H a xs->xs[n - 1 - i]? =some v,fun i H=>(∃xs,lr K H a xs)/\i=n⟩
def Rf(f:FD):ak->R (List D):=fun δ=>(f δ).bind fun d=>match d with | .lst ds=> .ok ds.reverse | _=> .no
def pL(K:W.Frag)(C:Addr)(m qual:Str)(st:Stmt):Prop:=∃f fd,wW K m qual st f fd/\Meth K C m f
def Jx(K:W.Frag)(C:Addr)(m qual:Str)(st:Stmt):Prop:=∃f fd,wW K m qual st f fd/\Mk K C f
end
end L2
namespace L3
open PySem PySem.Spec PyProof.Rows L2
section
variable {X:Cx} {cl:WL}
end
end L3
end
section
namespace L2
open PySem PySem.Spec PyProof.Rows
section
variable {X:Cx}
def R6(f:FD):ak->R (List D):=fun δ=>(f δ).bind fun d=>match d with | .int j=>R.aS (decide (-(2 ^ 62)<=j/\j < 16777216)) (.ok (pQ 0 j.toNat)) | _=> .no
def Tj(f:FD):FD:=fun δ=>(f δ).bind fun d=>match d with | .lst ds=> .ok (.lst ds.reverse) | _=> .no
end
end L2
end
section
namespace L2
open PySem PySem.Spec PyProof.Rows
section
variable {X:Cx}
def Sd(K:W.Frag)(n:Nat)(t:Ba):TG:=fun v σ H Q=>∃a xs,v= .ref a/\lr K H a xs/\xs.length=n/\t xs σ H Q
end
end L2
namespace L3
open PySem PySem.Spec PyProof.Rows L2
section
variable {X:Cx} {cl:WL}
def VX(n:Nat)(t:Iy):FG:=fun d δ=>match d with
 | .d (.lst ds)=>if ds.length=n then t (ds.map .d) δ else none
 | .lst vs=>if vs.length=n then t vs δ else none
 | _=>none
def TC(f g:FX):FA:=fun δ S=>(bE f (bE g ee) δ S).bind fun vs S1=>match vs with
 | [.d d, .d e]=>(match seqD? d,seqD? e with | some ds,some es=> .ok ((L7 ds es).map .d) S1 | _,_=> .no)
 | _=> .no
def Nn(S:aP):Prop:=∀o∈S,vC S.length o=true
theorem Flat.T7{S:aP}(h:Flat S):Nn S:=fun o ho=>h o ho _
theorem Lc{N:List Str}{vs:List V3}{S:aP}{QV:V3->aP->Prop}(h:W3 (sL N F vs S) fun v S1=>(∀o∈S1.take S.length,vC S.length o=true)/\lI S.length v=true/\∃d,res S1 v=some d/\QV (.d d) (S1.take S.length)):W3 (yG N F vs S) QV:=
 W3.bind (h.mono fun v S1 ⟨hl,hg,d,e,q⟩=>by
  rw[e];exact W3.wh (by rw[List.all_eq_true.mpr hl,hg];rfl) (W3.ok q))
theorem KU{N:List Str}{vs:List V3}{S:aP}{QV:V3->aP->Prop}(hS:Nn S)(h:W3 (sL N F vs S) fun v S1=>lI S.length v=true/\(∃T,S1=S++T)/\∃d,res S1 v=some d/\QV (.d d) S):W3 (yG N F vs S) QV:=
 Lc (h.mono fun v S1 ⟨hg,⟨T,e1⟩,d,e,q⟩=>by
  subst e1;rw[List.take_append_of_le_length (Nat.le_refl _),List.take_length];exact⟨hS,hg,d,e,q⟩)
end
end L3
end
section
namespace L2
open PySem PySem.Spec PyProof.Rows
section
variable {X:Cx}
def ois?:List D->Option (List (Option Int))
 | []=>some []
 | .int i ::ds=>(ois? ds).map (some i ::·)
 | .cz ::ds=>(ois? ds).map (none ::·)
 | _ ::_=>none
def Wd:Option Int->V | some i=> .int i | none=> .cz
def Uq(d e:D):R Bool:=match d,e with
 | .cz, .lst ds=>(match ois? ds with | some ss=> .ok (ss.any (·.isNone)) | none=> .no)
 | _,_=> .no
def Sy(d e:D):R D:=(Uq d e).bind fun b=> .ok (.bl b)
end
end L2
end
section
namespace L2
open PySem PySem.Spec PyProof.Rows
section
variable {X:Cx}
def Ny(d:D)(ds:List D):R D:=match d,ds with
 | .lst es,[.int k]=>(match ints? es with | some ss=> .ok (.int (ss.count k:Nat)) | none=> .no)
 | _,_=> .no
end
end L2
end
section
namespace L2
open PySem PySem.Spec PyProof.Rows
section
variable {X:Cx}
abbrev Sn:D->D->R D:=DT (fun i j=>decide (0<=j/\j < 1000/\ -1000 < i/\i < 1000)) fun i j=>i*2 ^ j.toNat
def Qo(d e:D):R D:=match d,e with | .bl a, .bl b=> .ok (.bl (a !=b)) | _,_=> .no
end
end L2
namespace L3
open PySem PySem.Spec PyProof.Rows L2
section
variable {X:Cx} {cl:WL}
def kD(fo f:FX):FZ:=fun δ S=>(fo δ S).bind fun o S0=>match o with
 | .loc k=>(match cq S0 k with
   | none=> .no
   | some _=>(f δ S0).bind fun v S1=>match v with
     | .d d=>(match cq S1 k with | some ds=>R3.aS (decide (ds.length < sizeLine)) (.ok (.nx δ) (S1.set k (.lst (ds++[d])))) | none=> .no)
     | _=> .no)
 | _=> .no
theorem FH{o e:Expr}{fo f:FX}{apos aZ pos:Pos}(ho:PX X cl o fo)(he:PX X cl e f)
 (hs:starEach [e] X.env=(false,eval e X.env) ::starEach [] X.env:=by rfl) (eO:(apos.endLine==aZ.line)=true:=by rfl)
 (jD:((backTo aZ (starEach [e] X.env)).all (fun x=>!x.1) && (backToKw aZ (keywordEach [] X.env)).all (fun x=>x.1.isSome)
   && decide (([e]:List Expr).length+([]:List Keyword).length+(if([]:List Keyword).isEmpty then 0 else 1) < 30))=true:=by rfl)
 (rH:swapsWith (.Call (.Attribute o "append" apos) [e] [] aZ) none pos.line X.env=pure false:=by rfl)
 (eP:attributeBase o "append" X.env (eval o X.env)=eval o X.env:=by rfl) :
 PZ X cl (.Expr (.Call (.Attribute o "append" apos) [e] [] aZ) pos) (kD fo f):=by
 refine⟨(nJ (wg (X:=X) PySem.F.plainAttrs_list PySem.F.slot_list_append PySem.F.type_list_append jX ho.1 (de he.1 fZ hs) eP jD eO hs) rH).imp fun D σ H ⟨ρ,S,δ,oo,S',E,hf,q⟩=>?_⟩
 unfold kD at hf;obtain⟨vo,S0,g1,g2⟩:=R3.ag hf;split at g2
 .rename_i k;split at g2
  .cases g2
  .rename_i AL h0;obtain⟨v,S1,h1,h2⟩:=R3.ag g2;split at h2
   .rename_i d;split at h2
    .rename_i ds h3;obtain⟨hl,h4⟩:=R3.aO h2;cases h4;refine⟨ρ,S,δ, .loc k,S0,E,g1,fun u PR H0 p0 w0 r0=>?_⟩
     unfold aT at r0;obtain⟨a,a1,rfl⟩:=r0;obtain⟨Mh,x0,_⟩:=w0.ob k a _ a1 (dA h0);refine⟨.inl ⟨rfl,Mh,lr.of x0⟩,⟨PR,S0,δ, .d d,S1,E.to p0 w0,h1,fun y bx H1 p1 w1 r1=>?_⟩⟩
     have b1:=p1.ext k a a1;obtain⟨xs,x1,x2⟩:=w1.ob k a _ b1 (dA h3);refine⟨a,xs,y,rfl,rfl,x1,by rw[<-x2.length];exact of_decide_eq_true hl,?_⟩
     unfold aT at r1;obtain⟨w2,p2⟩:=w1.put (o:= .lst (ds++[d])) (u:= .lst (xs++[y])) b1 (w1.fz k a b1 (by rw[dA h3];intro h;cases h)) ⟨xs++[y],rfl,x2.append (aD.cons r1 aD.nil)⟩
     exact q σ bx _ (p0.trans (p1.trans p2)) (E.to (p0.trans (p1.trans p2)) w2)
    .cases h2
   .cases h2
 .cases g2
theorem JA{fo f:FX}{δ:DE}{S:aP}{k:Nat}{QO:Ou->aP->Prop}(h:W3 (fo δ S) fun o S0=>o= .loc k/\(∃ds,S0[k]? =some (.lst ds))/\W3 (f δ S0) fun v S1=>∃d ds,v= .d d/\S1[k]? =some (.lst ds)/\ds.length < sizeLine/\QO (.nx δ) (S1.set k (.lst (ds++[d])))):W3 (kD fo f δ S) QO:=by
 unfold kD;refine W3.bind (h.mono fun o S0 ⟨e,⟨AL,h0⟩,h⟩=>?_)
 subst e;have e0:cq S0 k=some AL:=by unfold cq;rw [h0]
 simp only[e0];refine W3.bind (h.mono fun v S1 ⟨d,ds,e1,pG,hl,q⟩=>?_)
 subst e1;have e3:cq S1 k=some ds:=by unfold cq;rw [pG]
 simp only[e3];exact W3.wh (decide_eq_true hl) (W3.ok q)
def QR(f:FX):FA:=fun δ S=>(bE f ee δ S).bind fun vs S1=>match vs with
 | [.d (.lst ds)]=> .ok ((mR ds).map .d) S1
 | _=> .no
end
end L3
end
section
namespace L2
open PySem PySem.Spec PyProof.Rows
section
variable {X:Cx}
end
end L2
end
section
namespace L3
open PySem PySem.Spec PyProof.Rows L2
section
variable {cl:WL}
def NR(it:FA)(t:FG)(c:FB)(f:FX)(own:List Str)(kp:List Nat):FX:=fun δ S=>(it δ S).bind fun vs S1=>R3.aS (decide (vs.length<=sizeLine)) ((lJ t c f (mM own kp δ) vs S1).bind fun ys S2=>match oz ys with | some ds=> .ok (.loc S2.length) (S2++[.lst ds]) | none=> .no)
end
section
variable {X:Cx} {cl:WL}
end
end L3
end
section
namespace L3
open PySem PySem.Spec PyProof.Rows L2
section
variable {X:Cx} {cl:WL}
def Nc(g:List D->R D)(fs:FA):FX:=fun δ S=>(fs δ S).bind fun vs S1=>match wY S1 vs with
 | some ds=>(R3.of (g ds) S1).bind fun d S=>R3.aS (yb d) (.ok (.d d) S)
 | none=> .no
end
end L3
end
section
namespace L2
open PySem PySem.Spec PyProof.Rows
section
variable {X:Cx}
def R5(f:FD):FD:=fun δ=>(f δ).bind fun d=>match d with | .int i=> .ok (.int (-i - 1)) | _=> .no
def S7(d:D)(lo hi:Option Int):R D:=match d with
 | .tup ds=>R.aS (decide (¬(HT.p7 ds.length 0 lo=0/\HT.p7 ds.length ds.length hi=ds.length))) (.ok (.tup (cutD ds lo hi)))
 | _=> .no
def Uj(f:FD)(fl fh:FO):FD:=fun δ=>(f δ).bind fun d=>(fl δ).bind fun lo=>(fh δ).bind fun hi=>S7 d lo hi
end
end L2
namespace L3
open PySem PySem.Spec PyProof.Rows L2
section
variable {X:Cx} {cl:WL}
structure Wl (X:Cx) (cl:WL) (st:List Stmt) (F:FZ):Prop where
 go:uo X st (fun D σ H=>D.ct=D.nx/\sX X.K cl F D σ H)
end
end L3
end
section
namespace L2
open PySem PySem.Spec PyProof.Rows
end L2
namespace L3
open PySem PySem.Spec PyProof.Rows L2
section
variable {X:Cx} {cl:WL}
def Um(i:Nat)(f:FX):FX:=fun δ S=>match j7 δ i with
 | none=> .no
 | some k=>match cq S k with
   | none=> .no
   | some _=>(f δ S).bind fun v S1=>match v with
     | .d (.int j)=>(match cq S1 k with
       | some ds=>(match CK ds.length j with
         | some p=>(match ds[p]? with | some d=>R3.aS (decide (-(2 ^ 63)<=j/\j < 2 ^ 63)) (.ok (.d d) (S1.set k (.lst (ds.eraseIdx p)))) | none=> .no)
         | none=> .no)
       | none=> .no)
     | _=> .no
end
end L3
end
section
namespace L3
open PySem PySem.Spec PyProof.Rows L2
section
variable {X:Cx} {cl:WL}
def Sf(f:FX)(fl fh:Kj):FX:=fun δ S=>(f δ S).bind fun v S1=>(fl δ S1).bind fun lo S2=>(fh δ S2).bind fun hi S3=>match v with
 | .lst vs=> .ok (.lst (L2.cutD vs lo hi)) S3
 | _=> .no
end
end L3
end
section
namespace L2
open PySem PySem.Spec PyProof.Rows
section
variable {X:Cx}
def N8:List V->Hp->VK->Prop:=fun xs H Q=>∃a ay ns,xs=[V.ref a]/\H a=some (.dK ay)/\ay.map (·.1)=ns.map Sum.inl/\ns.length < 64/\∀p,H p=none->Q (.ref p) (upd H p (.lst ((Bq ns).map V.int)))
end
end L2
end
section
namespace L3
open PySem PySem.Spec PyProof.Rows L2
section
variable {X:Cx} {cl:WL}
def mX(ay:List (Key × D))(k:Key)(d:D):List (Key × D):=if(ay.any fun kv=>decide (kv.1=k))=true then ay.map (fun kv=>if kv.1=k then(kv.1,d) else kv) else ay++[(k,d)]
def om(S:aP)(k:Nat):Option (List (Key × D)):=match S[k]? with | some (.dct ay)=>some ay | _=>none
theorem qC{S:aP}{k:Nat}{ay:List (Key × D)}(h:om S k=some ay):S[k]? =some (.dct ay):=by
 unfold om at h;split at h
 .rename_i e;cases h;exact e
 .cases h
theorem zy{α β:Type}(k:Key):∀{a:List (Key × α)} {b:List (Key × β)},a.map (·.1)=b.map (·.1)->(a.any fun kv=>decide (kv.1=k))=b.any fun kv=>decide (kv.1=k)
 | [],[],_=>rfl
 | [],_ ::_,h=>by simp at h
 | _ ::_,[],h=>by simp at h
 | x ::a,y ::b,h=>by
   rw[List.map_cons,List.map_cons] at h;obtain⟨h1,h2⟩:=List.cons.inj h;rw[List.any_cons,List.any_cons,zy k h2,h1]
theorem yR{K:W.Frag}{B:List Addr}{k:Key}{d:D}{v:V}(rv:Rep K B H d v):∀{ay:List (Key × D)} {ys:List (Key × V)},ys.map (·.1)=ay.map (·.1)->aD K B H (ay.map (·.2)) (ys.map (·.2))->
 (ys.map fun kv=>if kv.1=k then(kv.1,v) else kv).map (·.1)=(ay.map fun kv=>if kv.1=k then(kv.1,d) else kv).map (·.1)/\aD K B H ((ay.map fun kv=>if kv.1=k then(kv.1,d) else kv).map (·.2)) ((ys.map fun kv=>if kv.1=k then(kv.1,v) else kv).map (·.2))
 | [],[],_,_=>⟨rfl,aD.nil⟩
 | [],_ ::_,h,_=>by simp at h
 | _ ::_,[],h,_=>by simp at h
 | (k1,d1) ::ay,(k2,v2) ::ys,h,r=>by
   obtain⟨h1,h2⟩:=List.cons.inj h;have h1:k2=k1:=h1;subst h1;obtain⟨x,r',e,q1,q2⟩:=aD.b6 r;cases e;obtain⟨i1,i2⟩:=yR rv h2 q2;simp only[List.map_cons];by_cases hk:k2=k
   .rw [if_pos hk,if_pos hk];exact⟨by rw[i1],aD.cons rv i2⟩
   .rw [if_neg hk,if_neg hk];exact⟨by rw[i1],aD.cons q1 i2⟩
theorem LH{K:W.Frag}{B:List Addr}{k:Key}{d:D}{v:V}(rv:Rep K B H d v){ay:List (Key × D)}{ys:List (Key × V)}(h:ys.map (·.1)=ay.map (·.1))(r:aD K B H (ay.map (·.2)) (ys.map (·.2))) :
 (putK ys k v).map (·.1)=(mX ay k d).map (·.1)/\aD K B H ((mX ay k d).map (·.2)) ((putK ys k v).map (·.2)):=by
 unfold putK mX;rw[zy k h];split
 .exact yR rv h r
 .rw [List.map_append,List.map_append,List.map_append,List.map_append,h];exact⟨rfl,r.append (aD.cons rv aD.nil)⟩
def wx:FX:=fun δ S=> .ok (.loc S.length) (S++[.dct []])
theorem tS:PX X cl (.Dict [] [] pos) wx:=⟨CD.imp fun σ H Q ⟨ρ,S,δ,v,S',E,hf,q⟩=>by
 cases hf;intro p hp;obtain⟨w,pr⟩:=E.sw.new (a:=p) (o:= .dct []) (br (o:= .dK []) hp) hp ⟨[],aX,rfl,aD.nil⟩;exact q _ _ _ pr w (by unfold aT;exact⟨p,by show(ρ.r++[p])[_]? =_;rw [<-E.sw.len,List.getElem?_append_right (by omega),Nat.sub_self];rfl,rfl⟩)⟩
def Q5(fo fi fe:FX):FZ:=fun δ S=>(fe δ S).bind fun v S1=>(fo δ S1).bind fun o S2=>(fi δ S2).bind fun j S3=>match v,o,j with
 | .d d, .loc k, .d (.int n)=>(match om S3 k with | some ay=>R3.aS (decide (ay.length < sizeLine)) (.ok (.nx δ) (S3.set k (.dct (mX ay (Sum.inl n) d)))) | none=> .no)
 | _,_,_=> .no
def Si(fa fo:FX):FX:=fun δ S=>(fa δ S).bind fun j S1=>(fo δ S1).bind fun o S2=>match j,o with
 | .d (.int n), .loc k=>(match om S2 k with | some ay=> .ok (.d (.bl (ay.any fun kv=>decide (kv.1=Sum.inl n)))) S2 | none=> .no)
 | _,_=> .no
def intK?:List Key->Option (List Int)
 | []=>some []
 | .inl n ::ks=>(intK? ks).map (n ::·)
 | .inr _ ::_=>none
def M9(f:FX):FX:=fun δ S=>(f δ S).bind fun o S1=>match o with
 | .loc k=>(match om S1 k with
   | some ay=>(match intK? (ay.map (·.1)) with | some ns=>R3.aS (decide (ns.length < 64)) (.ok (.d (.lst ((Bq ns).map .int))) S1) | none=> .no)
   | none=> .no)
 | _=> .no
theorem wU{δ:DE}{S:aP}{QV:V3->aP->Prop}(h:QV (.loc S.length) (S++[.dct []])):W3 (wx δ S) QV:=W3.ok h
end
end L3
end
section
namespace L2
open PySem PySem.Spec PyProof.Rows
section
variable {X:Cx}
def MA:V->List V->Hp->VK->Prop:=fun x vs H Q=>∃(l:Addr) (xs:List V) (j:Int) (i:Nat) (y:V),x= .ref l/\vs=[.int j,y]/\H l=some (.lst xs)/\j=i/\i<=xs.length/\xs.length < sizeLine/\Q .cz (upd H l (.lst (xs.take i++y ::xs.drop i)))
end
end L2
namespace L3
open PySem PySem.Spec PyProof.Rows L2
section
variable {X:Cx} {cl:WL}
def SY(i:Nat)(f g:FX):FZ:=fun δ S=>match j7 δ i with
 | none=> .no
 | some k=>match cq S k with
   | none=> .no
   | some _=>(f δ S).bind fun v S1=>match v with
     | .d (.int j)=>(g δ S1).bind fun w S2=>(match w with
       | .d d=>(match cq S2 k with
         | some ds=>R3.aS (decide (0<=j/\j.toNat<=ds.length/\ds.length < sizeLine)) (.ok (.nx δ) (S2.set k (.lst (ds.take j.toNat++d ::ds.drop j.toNat))))
         | none=> .no)
       | _=> .no)
     | _=> .no
end
end L3
end
section
namespace L3
open PySem PySem.Spec PyProof.Rows L2
section
variable {X:Cx} {cl:WL}
structure Wb (X:Cx) (pos:Pos) (keys:List (Option Expr)) (values:List Expr) (ks:List Str) (g:ak->R (List D)):Prop where
 h:∃tf,HE X pos keys values tf/\∀(σ:L2.St) (H:Hp) (Q:List (V × V)->Hp->Prop),(∃Z B δ ds,dq X.K Z B H σ δ/\g δ= .ok ds/\∀vs H',aN H H'->aD X.K B H' ds vs->Q ((ks.zip vs).map fun p=>(V.str p.1,p.2)) H')->oR tf σ H Q
def Iw(ks:List Str)(ns:List Int):List (Key × D):=(ks.zip ns).foldl (fun acc p=>mX acc (Sum.inr p.1) (.int p.2)) []
def Ow(ks:List Str)(g:ak->R (List D)):FX:=fun δ S=>(R3.of (g (down δ)) S).bind fun ds S=>match ints? ds with
 | some ns=>R3.aS (decide (ns.length=ks.length/\ks.length<=15)) (.ok (.loc S.length) (S++[.dct (Iw ks ns)]))
 | none=> .no
def NW(ay:List (Key × D))(k:Key):Option D:=(ay.find? fun kv=>decide (kv.1=k)).map (·.2)
def Q7(i:Nat)(f g:FD):FX:=fun δ S=>match j7 δ i with
 | none=> .no
 | some k=>match om S k with
   | none=> .no
   | some ay=>(R3.of (f (down δ)) S).bind fun kd S=>(R3.of (g (down δ)) S).bind fun d S=>match kd with
     | .str x=> .ok (.d ((NW ay (Sum.inr x)).getD d)) S
     | _=> .no
end
end L3
end
section
namespace L2
open PySem PySem.Spec PyProof.Rows
section
variable {X:Cx}
def vL:List D->R D
 | [.tup ds]=>(match ints? ds with | some ns=> .ok (.int ns.sum) | none=> .no)
 | ds=>Hr ds
theorem Ii(hc:X.calm=true):cJ X (.builtin "sum") vL:=by
 intro pins s σ H B ds d xs us I hb rx rs hg;unfold vL at hg;split at hg
 .split at hg
  .rename_i es ns e;cases hg;obtain⟨x,rfl,r⟩:=rs.one;obtain⟨a,ys,rfl,l,r⟩:=Rep.tup.mp r;obtain⟨u,rfl,ru⟩:=vals1 rx;cases ru;obtain⟨its,rv,ht,hz⟩:=I.tuple l.sq;rw[eY r e] at rv;obtain⟨ps,rfl,rfl⟩:=gC rv;have hl:s.heap.IsTuple a (intItems ps.toArray):=by
    have ht:s.heap.IsTuple a (ps.map fun p=>Value.int p.1 p.2).toArray:=ht
    simpa [intItems] using ht
   refine PySem.W.ktm_sumG (I.ok.hd hc) hl fun h' tk t' k=>⟨.int _,H,I.kept k,⟨t',rfl⟩,aN.refl H,Rep.int.mpr ?_⟩
   rw[preSum_eq,List.take_of_length_le (by simp)]
  .cases hg
 .exact K0 hc pins s σ H B ds d xs us I hb rx rs hg
end
end L2
end
section
namespace L2
open PySem PySem.Spec PyProof.Rows
section
variable {X:Cx}
def Rx(d e:D):R D:=match d,e with
 | .tup a, .int k=>R.aS (decide (2<=k/\k < 1000/\a≠[]/\a.length*k.toNat<=sizeLine)) (.ok (.tup (List.replicate k.toNat a).flatten))
 | d,e=>mw d e
end
end L2
end
section
namespace L2
open PySem PySem.Spec PyProof.Rows
def uS(P:Program)(w:World):AK:=fun outer H s E e s'=>
 ∃(a:Addr) (B:Heap) (cls a0:Value) (H':Hp),e= .ref a/\s'.os=s.os/\AllBare s'.gens/\Un (pO outer) [] H H' s.heap s'.heap/\mh P w H' s'.heap/\Heap.FlyingW B outer a cls a0 s'.heap/\
  (∀b o,s'.heap.get? b=some o->b ∉ pO outer->((∃u,s.heap.get? b=some u)\/∃u,H' b=some u)->B.get? b=some o)/\E cls none H'
section
variable {X:Cx} {pins:WD} {σ:St} {H1 H':Hp} {s1 s':Shared} {B Kp:Heap} {a:Addr} {cls a0:Value} {E:XK}
theorem A0{H:Hp}{h:Heap}{b:Addr}{o:HO}(k:mh P w H h)(e:H b=some o):∃u,h.get? b=some u:=by
 have hx:=k b o e
 induction o with
 | lst xs=>obtain⟨_,_,_,_,e⟩:=hx;exact⟨_,e⟩
 | tup xs=>obtain⟨_,_,_,o,e,_⟩:=hx;exact⟨_,e⟩
 | dK ay=>obtain⟨_,_,_,_,o,_,_,e,_⟩:=hx;exact⟨_,e⟩
 | dT ay=>obtain⟨_,_,_,_,o,_,_,e,_⟩:=hx;exact⟨_,e⟩
 | set S n=>obtain⟨o,_,_,_,e,_⟩:=hx;exact⟨_,e⟩
 | ins C dx fs=>obtain⟨_,_,_,e,_⟩:=hx;exact⟨_,e⟩
 | own y=>exact hx
 | xd fs=>obtain⟨_,⟨o,_,_,e,_⟩,_⟩:=hx;exact⟨_,e⟩
 | rng lo hi=>obtain⟨_,_,_,e⟩:=hx;exact⟨_,e⟩
 | kK o u _=>exact⟨_,hx.1⟩
 | tbl ps=>exact⟨_,hx⟩
 | met f x=>exact⟨_,hx⟩
 | ext φ=>exact hx.2.1
theorem Dw(I:Inv X pins σ H1 s1)(DL:X.stack=X.env ::X.outer)(hf:X.env.frame=some X.env.locals)(hex:X.ex=[])(os:s'.os=s1.os)(bare:AllBare s'.gens)(un:Un (pO X.stack) [] H1 H' s1.heap s'.heap)(hok:mh X.prog X.w H' s'.heap)
 (FQ:∀b o,s'.heap.get? b=some o->b ∉ pO X.stack->((∃u,s1.heap.get? b=some u)\/∃u,H' b=some u)->B.get? b=some o) (fl:Heap.FlyingW B X.outer a cls a0 Kp) (up:s'.heap.UpToSlots Kp) (e:E cls none H') :
 uS X.prog X.w X.outer X.H₀ X.s₀ E (.ref a) {s' with heap:=Kp}:=by
 have hfr:∀b,b∈pO X.stack↔b=X.env.locals\/b∈pO X.outer:=fun b=>by
  rw[DL];unfold pO;rw [List.filterMap_cons,hf];exact List.mem_cons
 have hfree:∀b,b∈pO X.stack->H' b=none:=fun b hb=>by
  obtain⟨_,o,ho,_⟩:=I.stack.mem hb;exact un.free b o ho (I.p9 b hb) (by simp)
 have old:∀b o,X.s₀.heap.get? b=some o->b≠X.env.locals:=fun b o q=>Nat.ne_of_lt (Nat.lt_of_lt_of_le (Heap.lt_size q) I.ok.above)
 have thr:∀b o,X.s₀.heap.get? b=some o->∃u,s1.heap.get? b=some u:=fun b o q=>I.base.there b o q (by rw[hex];simp)
 have thr2:∀b o,s1.heap.get? b=some o->∃u,s'.heap.get? b=some u:=fun b o q=>un.there b o q (by simp)
 have stB:∀b o,B.get? b=some o->Kp.get? b=some o:=fl.1;have IE:∀b o,H' b=some o->∀u,s'.heap.get? b=some u->Kp.get? b=some u:=fun b o q u hu=>stB b u (FQ b u hu (fun hb=>by rw[hfree b hb] at q;cases q) (.inr ⟨o,q⟩))
 refine⟨a,B,cls,a0,H',rfl,os.trans I.os,bare,⟨fun b o q n hb _=>?_,fun b o q n hb _=>?_,fun b o q n _=>?_,fun b o q _=>?_,fun b xs q=>un.tups b xs (I.base.tups b xs q),fun b o u q=>un.frzs b o u (I.base.frzs b o u q),fun b ps q=>?_⟩,fun b o q=>?_,fl,fun b o q hb M4=>?_,e⟩
 .have h1:=I.base.keep b o q n hb (by rw[hex];simp)
  have n1:=I.base.free b o q n (by rw[hex];simp)
  have qg:b ∉ pO X.stack:=fun z=>((hfr b).mp z).elim (old b o q) hb
  have h2:=un.keep b o h1 n1 qg (by simp)
  exact stB b o (FQ b o h2 qg (.inl ⟨o,h1⟩))
 .obtain⟨sl,h1⟩:=I.base.slot b o q n hb (by rw[hex];simp)
  have n1:=I.base.free b o q n (by rw[hex];simp)
  obtain⟨RJ,h2⟩:=un.slot b _ h1 n1 ((hfr b).mpr (.inr hb)) (by simp)
  obtain⟨_,o',wM,hd⟩:=I.ok.oF.mem hb;rw[q] at wM;cases wM;obtain⟨MS,h3⟩:=up b _ h2 hd;exact⟨MS,h3⟩
 .obtain⟨u,h1⟩:=thr b o q;exact un.free b u h1 (I.base.free b o q n (by rw[hex];simp)) (by simp)
 .obtain⟨u,h1⟩:=thr b o q;obtain⟨u2,h2⟩:=thr2 b u h1;by_cases hb:b∈pO X.outer
  .obtain⟨_,o',wM,hd⟩:=I.stack.mem ((hfr b).mpr (.inr hb));obtain⟨sl,h3⟩:=un.slot b o' wM (I.p9 b ((hfr b).mpr (.inr hb))) ((hfr b).mpr (.inr hb)) (by simp)
   obtain⟨MS,h4⟩:=up b _ h3 hd;exact⟨_,h4⟩
  .exact⟨u2,stB b u2 (FQ b u2 h2 (fun z=>((hfr b).mp z).elim (old b o q) hb) (.inl ⟨u,h1⟩))⟩
 .obtain⟨m1,e1⟩:=I.base.tbls b ps q;obtain⟨m2,e2⟩:=un.tbls b _ e1;exact⟨m1++m2,by rw[e2,Array.append_assoc]⟩
 .refine(hok b o q).yg (fun c u hc hu=>?_) (fun c z=>z) (fun c xs z=>z)
  rcases hc with rfl | hc
  .exact IE c o q u hu
  .exact IE c _ hc u hu
 .have qg:b≠X.env.locals:=fun z=>by
   subst z;rcases M4 with⟨u,hu⟩ | ⟨u,hu⟩
   .exact old _ u hu rfl
   .rw [hfree _ ((hfr _).mpr (.inl rfl))] at hu;cases hu
  have hb2:b ∉ pO X.stack:=fun z=>((hfr b).mp z).elim qg hb
  have:(∃u,s1.heap.get? b=some u)\/∃u,H' b=some u:=M4.imp (fun⟨u,hu⟩=>thr b u hu) id
  obtain⟨u,hu⟩:∃u,s'.heap.get? b=some u:=this.elim (fun⟨u,hu⟩=>thr2 b u hu) fun⟨u,hu⟩=>A0 hok hu
  have h3:=FQ b u hu hb2 this;have h4:=stB b u h3;rw[q] at h4;cases h4;exact h3
end
section
variable {P:Program} {w:World} {K:W.Frag} {mg:WK} {base:Heap} {N:List Str} {qual:Str} {scope:Scope} {f:Addr} {cd:Value} {A:Around} {outer:List Env} {s:Shared} {H:Hp} {E:XK}
theorem L1:Passes (uS P w) (jZ (uS P w) P w K mg base N qual scope f cd A outer s H E) E:=by
 intro pins σ H1 s1 e s' I hc;obtain⟨a,B,cls,a0,H',rfl,os,bare,un,hok,fl,FQ,hE⟩:=hc;exact wpAny_leaves_onW (env:=envOfC qual scope s.heap.objs.size f cd) (outer:=outer) (L:=s.heap.objs.size) I.ok.frames rfl fl fun h' f1 up=>Dw I rfl rfl rfl os bare un hok FQ f1 up hE
theorem JD{pins:WD}{s1:Shared}{a:Addr}{cls:Value}{vs:List Value}(I:Inv (jZ (uS P w) P w K mg base N qual scope f cd A outer s H E) pins σ H1 s1)(hx:Heap.MadeExcOf s1.heap h' a cls vs)(hE:E cls none H1) :
 (jZ (uS P w) P w K mg base N qual scope f cd A outer s H E).xe (.ref a) {s1 with heap:=h'}:=by
 have hin:∀env∈(envOfC qual scope s.heap.objs.size f cd ::outer),∀b,env.frame=some b->b∈pO (envOfC qual scope s.heap.objs.size f cd ::outer):=fun env he b hb=>List.mem_filterMap.mpr ⟨env,he,hb⟩
 have ff:s1.heap.FunFrames base (envOfC qual scope s.heap.objs.size f cd ::outer):=I.stack;refine wpAny_leaves_madeW (env:=envOfC qual scope s.heap.objs.size f cd) (outer:=outer) (L:=s.heap.objs.size) (base:=PySem.W.hideAll s1.heap (pO (envOfC qual scope s.heap.objs.size f cd ::outer))) (h:=s1.heap) (s:={s1 with heap:=h'}) I.ok.frames rfl (fun b o q=>PySem.W.of_hideAll _ q) (PySem.W.funFrames_hide ff hin) hx fun Kp t x1 x2 x3 x4=>?_
 exact Dw (s':={s1 with heap:=h'}) I rfl rfl rfl rfl I.bare (Un.kept hx.keeps) (I.hok.kept hx.keeps) (fun b o q hb M4=>by
  obtain⟨u,hu⟩:∃u,s1.heap.get? b=some u:=M4.elim id fun⟨u,hu⟩=>A0 I.hok hu
  have h2:=hx.keeps b u hu;have q:h'.get? b=some o:=q;rw[q] at h2;cases h2;exact PySem.W.hideAll_get _ hu hb) x1 x4 hE
end
end L2
end
section
namespace L2
open PySem PySem.Spec PyProof.Rows
def Dt:List Value:=[.type "ValueError", .type "Exception", .type "BaseException", .type "object"]
structure XC (K:W.Frag) (C:Addr):Prop where
 ex:PySem.W.excIn K C Dt "ValueError.__new__"=true
 ga:PySem.W.findIn K (.ref C) "__getattribute__"=some (some (.builtin "BaseException.__getattribute__"))
 gt:PySem.W.findIn K (.ref C) "__getattr__"=some none
 co:PySem.W.findIn K (.ref C) "__class__"=some (some (.builtin "object.__class__"))
 gs:PySem.W.specialIn K (.builtin "object.__class__") "__get__"=some (some (.builtin "getset_descriptor.__get__"))
 tk:PySem.W.takesIn K (.builtin "object.__class__")=some true
 mo:PySem.W.mroIn K C (.type "object")=some true
 mb:PySem.W.mroIn K C (.type "BaseException")=some true
 ic:(PySem.W.clsIn K C).isSome=true
def T_(x C:Addr)(h:Heap):Prop:=∃o,h.get? x=some o/\o.cls= .ref C
section
variable {prog:Program} {w:World} {A:Around} {E:WG} {s:Shared} {K:W.Frag} {x C:Addr}
theorem E7(X:K.In h)(q:PySem.W.excIn K C Dt "ValueError.__new__"=true):∃bm N nm qn bs hdct sn sub ab col dd k0 k1 k2 k3 k5 mN,
 h.get? C=some (excClassObj nm qn C N bs bm hdct sn sub ab col dd k0 k1 k2 k3 k5 "ValueError.__new__")/\h.Ns N mN/\mN "__init__"=none/\OwnTail h Dt bm:=by
 unfold PySem.W.excIn at q;split at q
 .rename_i dd cd sl ho;split at q
  .rename_i C' bm k0 k1 k2 k3 n k5 hm hs;simp only[Bool.and_eq_true,beq_iff_eq,Bool.not_eq_true'] at q;obtain⟨⟨⟨⟨⟨q1,q2⟩,q3⟩,q4⟩,q5⟩,q6⟩:=q;subst q1 q2;obtain⟨nm,bs,mro,ns,qn,hd,sn,sub,ab,col,del⟩:=cd;obtain⟨l⟩:=sl;dsimp only at hm hs q3 q5 q6;subst hm hs q3;exact⟨bm,ns,nm,qn,bs,hd,sn,sub,ab,col,dd,k0,k1,k2,k3,k5,_,X _ _ ho,Heap.Ns.of_isNs (PySem.W.isNs_of_in X q5),PySem.W.nsMap_none_of_in X q5 q6,PySem.W.tail_of_in X q4⟩
  .cases q
 .cases q
end
end L2
end
section
namespace L3
open PySem PySem.Spec PyProof.Rows L2
theorem R3.eS{α β:Type}{r:R3 α}{f:α->aP->R3 β}{c:Nat}{S':aP}(h:r.bind f= .ex c S'):r= .ex c S'\/∃a S,r= .ok a S/\f a S= .ex c S':=by
 cases r with
 | ok a S=>exact .inr ⟨a,S,rfl,h⟩
 | ex c' S=>cases h;exact .inl rfl
 | no=>cases h
def DO{α:Type}(r:R3 α):R3 α:=match r with | .ex _ _=> .no | .ok a S=> .ok a S | .no=> .no
theorem iU{α:Type}{r:R3 α}{a:α}{S:aP}(h:DO r= .ok a S):r= .ok a S:=by
 cases r with
 | ok b S=>exact h
 | ex c S=>cases h
 | no=>cases h
theorem m3{α:Type}{r:R3 α}{c:Nat}{S:aP}(h:DO r= .ex c S):False:=by
 cases r <;> cases h
def yB(K:W.Frag)(cl:WL)(E:XK)(ρ:P3)(H:Hp)(S':aP)(c:Nat):Prop:=∀bz H',Pre ρ H bz H'->SW K cl bz H' S'->E (.ref (cl c)) none H'
theorem yB.pre{K:W.Frag}{cl:WL}{E:XK}{S':aP}{c:Nat}(q:yB K cl E ρ H S' c)(p:Pre ρ H bx H1):yB K cl E bx H1 S' c:=fun bz H' p' w=>q bz H' (p.trans p') w
def Uu(K:W.Frag)(cl:WL)(E:XK)(f:FX):TE:=fun σ H Q=>∃ρ S δ,d6 K cl ρ H S σ δ/\((∃v S',f δ S= .ok v S'/\∀u bz H',Pre ρ H bz H'->SW K cl bz H' S'->aT K bz H' v u->Q u H')\/∃c S',f δ S= .ex c S'/\yB K cl E ρ H S' c)
def Nh(K:W.Frag)(cl:WL)(E:XK)(f:FA):TA:=fun σ H Q=>∃ρ S δ,d6 K cl ρ H S σ δ/\((∃vs S',f δ S= .ok vs S'/\∀us bz H',Pre ρ H bz H'->SW K cl bz H' S'->aE K bz H' vs us->Q us H')\/∃c S',f δ S= .ex c S'/\yB K cl E ρ H S' c)
def MB(K:W.Frag)(cl:WL)(E:XK)(F:FZ):TS:=fun D σ H=>∃ρ S δ,d6 K cl ρ H S σ δ/\((∃o S',F δ S= .ok o S'/\vc K cl ρ H D S' o)\/∃c S',F δ S= .ex c S'/\yB K cl E ρ H S' c)
structure Gy (X:Cx) (cl:WL) (E:XK) (e:Expr) (f:FX):Prop where
 go:PE X e (Uu X.K cl E f)
structure xA (X:Cx) (cl:WL) (E:XK) (es:List Expr) (f:FA):Prop where
 go:PA X es (Nh X.K cl E f)
structure GP (X:Cx) (cl:WL) (E:XK) (st:Stmt) (F:FZ):Prop where
 go:PS X st (MB X.K cl E F)
structure uq (X:Cx) (cl:WL) (E:XK) (st:List Stmt) (F:FZ):Prop where
 go:uo X st (MB X.K cl E F)
section
variable {X:Cx} {cl:WL} {E:XK}
def rP(f:FX):FX:=fun δ S=>DO (f δ S)
def eF(f:FA):FA:=fun δ S=>DO (f δ S)
def AG(f:FZ):FZ:=fun δ S=>DO (f δ S)
theorem xR(h:PX X cl e f):Gy X cl E e (rP f):=⟨h.1.imp fun σ H Q ⟨ρ,S,δ,En,z⟩=>by
 rcases z with⟨v,S',hf,q⟩ | ⟨c,S',hf,q⟩
 .exact⟨ρ,S,δ,v,S',En,iU hf,q⟩
 .exact(m3 hf).elim⟩
theorem dz(h:JL X cl es f):xA X cl E es (eF f):=⟨h.1.imp fun σ H Q ⟨ρ,S,δ,En,z⟩=>by
 rcases z with⟨v,S',hf,q⟩ | ⟨c,S',hf,q⟩
 .exact⟨ρ,S,δ,v,S',En,iU hf,q⟩
 .exact(m3 hf).elim⟩
theorem xk{st:Stmt}(h:PZ X cl st F):GP X cl E st (AG F):=⟨h.1.imp fun D σ H ⟨ρ,S,δ,En,z⟩=>by
 rcases z with⟨v,S',hf,q⟩ | ⟨c,S',hf,q⟩
 .exact⟨ρ,S,δ,v,S',En,iU hf,q⟩
 .exact(m3 hf).elim⟩
theorem oh{st:List Stmt}(h:DR X cl st F):uq X cl E st (AG F):=⟨h.1.imp fun D σ H ⟨ρ,S,δ,En,z⟩=>by
 rcases z with⟨v,S',hf,q⟩ | ⟨c,S',hf,q⟩
 .exact⟨ρ,S,δ,v,S',En,iU hf,q⟩
 .exact(m3 hf).elim⟩
def vE(K:W.Frag)(cl:WL)(n:Nat)(g:List V3->aP->R3 V3):Sp:=fun vs H Q E=>vs.length=n/\∃ρ S xs,SW K cl ρ H S/\aE K ρ H xs vs/\
 ((∃v S',g xs S= .ok v S'/\∀u bz H',Pre ρ H bz H'->SW K cl bz H' S'->aT K bz H' v u->Q u H')\/∃c S',g xs S= .ex c S'/\yB K cl E ρ H S' c)
def fL(P:Program)(w:World)(K:W.Frag)(mg:WK)(base:Heap)(cl:WL)(k:Nat)(x:Str)(n:Nat)(g:List V3->aP->R3 V3):Prop:=
 ∃(f:Addr) (fd:FuncData) (ps:List Str),f9 P w K mg base (uS P w) k f fd ps (vE K cl n g)/\mg x=some (.ref f)/\PySem.W.keepIn K (.ref f)=true/\Binds K fd ps []
theorem qS{g:List V3->aP->R3 V3}{k j n:Nat}{x:Str}{p pos:Pos}{e:Expr}{es:List Expr}{fs:FA}(hp:Passes (uS X.prog X.w) X E)(C:fL X.prog X.w X.K X.mg X.base cl k x n g)(hr:dP j X.A)(Gh:k<=j)(hg:Gl X x)(ha:xA X cl E (e ::es) fs)
 (hn:∀δ S ds S',fs δ S= .ok ds S'->ds.length=n) (jF:(x==("__debug__":Str))=false:=by decide) (he:starEach (e ::es) X.env=(false,eval e X.env) ::starEach es X.env:=by rfl) (kP:(backTo pos (starEach es X.env)).any (·.1)=false:=by rfl) :
 Gy X cl E (.Call (.Name x p) (e ::es) [] pos) (qo g fs):=by
 obtain⟨f,fd,ps,F,hm,hk,hb⟩:=C;refine⟨(yX F (hr.mono Gh) hg hm hk hb .nil hp ha.1 jF he kP).imp fun σ H Q ⟨ρ,S,δ,En,z⟩=>⟨ρ,S,δ,En,?_⟩⟩
 have go:∀vs S1,fs δ S= .ok vs S1->((∃v S',g vs S1= .ok v S'/\∀u bz H',Pre ρ H bz H'->SW X.K cl bz H' S'->aT X.K bz H' v u->Q u H')\/∃c S',g vs S1= .ex c S'/\yB X.K cl E ρ H S' c)->
  (∃vs S',fs δ S= .ok vs S'/\∀us bz H',Pre ρ H bz H'->SW X.K cl bz H' S'->aE X.K bz H' vs us->(fun vs H1=>vE X.K cl n g (vs++[]) H1 Q E) us H')\/∃c S',fs δ S= .ex c S'/\yB X.K cl E ρ H S' c:=fun vs S1 h1 h2=>by
  refine .inl ⟨vs,S1,h1,fun us bx H1 p1 w1 r1=>?_⟩
  show vE X.K cl n g (us++[]) H1 Q E;rw[List.append_nil];refine⟨by rw[<-r1.length];exact hn δ S vs S1 h1,bx,S1,vs,w1,r1,?_⟩
  rcases h2 with⟨v,S',h3,q⟩ | ⟨c,S',h3,q⟩
  .exact .inl ⟨v,S',h3,fun u ox H2 p2 w2 r2=>q u ox H2 (p1.trans p2) w2 r2⟩
  .exact .inr ⟨c,S',h3,q.pre p1⟩
 rcases z with⟨v,S',hf,q⟩ | ⟨c,S',hf,q⟩
 .obtain⟨vs,S1,h1,h2⟩:=R3.ag hf;exact go vs S1 h1 (.inl ⟨v,S',h2,q⟩)
 .rcases R3.eS hf with h1 | ⟨vs,S1,h1,h2⟩
  .exact .inr ⟨c,S',h1,q⟩
  .exact go vs S1 h1 (.inr ⟨c,S',h2,q⟩)
theorem nH{pos:Pos}(he:Gy X cl E e f)(rH:swapsWith e none pos.line X.env=pure false:=by rfl):GP X cl E (.Expr e pos) (si f):=⟨(nJ he.1 rH).imp fun D σ H ⟨ρ,S,δ,En,z⟩=>by
 refine⟨ρ,S,δ,En,?_⟩;rcases z with⟨o,S',hf,q⟩ | ⟨c,S',hf,q⟩
 .obtain⟨v,S1,h1,h2⟩:=R3.ag hf;cases h2;exact .inl ⟨v,_,h1,fun u bx H1 p1 w1 r1=>q _ bx H1 p1 (En.to p1 w1)⟩
 .rcases R3.eS hf with h1 | ⟨v,S1,h1,h2⟩
  .exact .inr ⟨c,S',h1,q⟩
  .cases h2⟩
def wq(f:FB):FB:=fun δ S=>DO (f δ S)
theorem fP(hc:zV X cl c fc)(ha:uq X cl E a F)(hb:uq X cl E b G):GP X cl E (.If c a b pos) (rL (wq fc) F G):=⟨(Cg hc.1 ha.1 hb.1).imp fun D σ H ⟨ρ,S,δ,En,z⟩=>by
 have fin:∀k S1,fc δ S= .ok k S1->((∃o S',(if k then F δ S1 else G δ S1)= .ok o S'/\vc X.K cl ρ H D S' o)\/∃c S',(if k then F δ S1 else G δ S1)= .ex c S'/\yB X.K cl E ρ H S' c)->L5 (HZ X.K cl fc) (MB X.K cl E F) (MB X.K cl E G) D σ H:=fun k S1 h1 h2=>by
  refine⟨ρ,S,δ,k,S1,En,h1,fun bx H1 p1 w1=>?_⟩
  cases k with
  | true=>
    refine C_ ⟨bx,S1,δ,En.to p1 w1,?_⟩;rcases h2 with⟨o,S',h3,q⟩ | ⟨c,S',h3,q⟩
    .rw [if_pos rfl] at h3;exact .inl ⟨o,S',h3,q.pre p1⟩
    .rw [if_pos rfl] at h3;exact .inr ⟨c,S',h3,q.pre p1⟩
  | false=>
    refine CG ⟨bx,S1,δ,En.to p1 w1,?_⟩;rcases h2 with⟨o,S',h3,q⟩ | ⟨c,S',h3,q⟩
    .rw [if_neg (by decide)] at h3;exact .inl ⟨o,S',h3,q.pre p1⟩
    .rw [if_neg (by decide)] at h3;exact .inr ⟨c,S',h3,q.pre p1⟩
 rcases z with⟨o,S',hf,q⟩ | ⟨c,S',hf,q⟩
 .obtain⟨k,S1,h1,h2⟩:=R3.ag hf;exact fin k S1 (iU h1) (.inl ⟨o,S',h2,q⟩)
 .rcases R3.eS hf with h1 | ⟨k,S1,h1,h2⟩
  .exact(m3 h1).elim
  .exact fin k S1 (iU h1) (.inr ⟨c,S',h2,q⟩)⟩
theorem d9:uq X cl E [] km:=⟨uh.imp fun D σ H ⟨ρ,S,δ,En,z⟩=>by
 rcases z with⟨o,S',hf,q⟩ | ⟨c,S',hf,q⟩
 .cases hf;exact q σ ρ H (Pre.refl ρ H) En
 .cases hf⟩
theorem bU{st:Stmt}(h:GP X cl E st F):uq X cl E [st] F:=⟨ui h.1⟩
theorem bR{st:Stmt}{rest:List Stmt}(h1:GP X cl E st F)(h2:uq X cl E rest G):uq X cl E (st ::rest) (dc F G):=⟨(ql h1.1 h2.1).imp fun D σ H ⟨ρ,S,δ,En,z⟩=>by
 refine⟨ρ,S,δ,En,?_⟩;rcases z with⟨o,S',hf,q⟩ | ⟨c,S',hf,q⟩
 .obtain⟨o1,S1,h1,h2⟩:=R3.ag hf;refine .inl ⟨o1,S1,h1,?_⟩;cases o1 with
  | nx δ1=>exact fun Kq bx H1 p1 E1=>⟨bx,S1,δ1,E1, .inl ⟨o,S',h2,q.pre p1⟩⟩
  | rt d=>cases h2;exact q
 .rcases R3.eS hf with h1 | ⟨o1,S1,h1,h2⟩
  .exact .inr ⟨c,S',h1,q⟩
  .refine .inl ⟨o1,S1,h1,?_⟩;cases o1 with
   | nx δ1=>exact fun Kq bx H1 p1 E1=>⟨bx,S1,δ1,E1, .inr ⟨c,S',h2,q.pre p1⟩⟩
   | rt d=>cases h2⟩
def xU(X:Cx)(E:XK):Prop:=∀(pins:WD) (σ:L2.St) (H:Hp) (s:Shared) (h':Heap) (a:Addr) (cls:Value) (vs:List Value),Inv X pins σ H s->Heap.MadeExcOf s.heap h' a cls vs->E cls none H->X.xe (.ref a) {s with heap:=h'}
def eX(c:Nat)(fs:FA):FZ:=fun δ S=>(fs δ S).bind fun vs S=>R3.aS (decide (vs.length<=sizeLine)) (.ex c S)
theorem AV{C:Addr}{t:TA}{x:Str}{e:Expr}{es:List Expr}{np aZ pos:Pos}(hf:xU X E)(hc:X.calm=true)(T:XC X.K C)(hg:Gl X x)(hm:X.mg x=some (.ref C))(ha:PA X (e ::es) t)(jF:(x==("__debug__":Str))=false:=by decide)
 (he:starEach (e ::es) X.env=(false,eval e X.env) ::starEach es X.env:=by rfl) (kP:(backTo aZ (starEach es X.env)).any (·.1)=false:=by rfl) :
 PS X (.Raise (some (.Call (.Name x np) (e ::es) [] aZ)) none pos) (fun D σ H=>t σ H fun vs H1=>vs.length<=sizeLine/\E (.ref C) none H1):=by
 intro pins s σ H D I h;obtain⟨bm,N,nm,qn,bs,hdct,sn,sub,ab,col,dd,k0,k1,k2,k3,k5,mN,hC,hN,hni,OT⟩:=E7 (C:=C) I.mod.kin T.ex;refine wpAny_Raise_call_subT (C:=C) (nm:=nm) (q:=qn) (N:=N) (bs:=bs) (bm:=bm) (hdct:=hdct) (sn:=sn) (sub:=sub) (ab:=ab) (col:=col) (dd:=dd) (k0:=k0) (k1:=k1) (k2:=k2) (k3:=k3) (k5:=k5) (bmB:=Dt) PySem.F.excBase_ValueError (mN:=mN) (OT.hasType PySem.F.excBase_ValueError.hasBase) (I.ok.hd hc)
  (by rw[he];show(false || (backTo aZ (starEach es X.env)).any (·.1))=false;rw [kP];rfl) hni (pV I hg hm ⟨rfl,?_⟩ jF)
 have hA:=ha aZ pins s σ H _ I h;rw[he] at hA ⊢;refine Calls.evalArgs_plain (wpAny_mono hA (fun us s2 ⟨vs,H1,I1,r,hl,hE⟩=>⟨rfl,by rw[<-r.length];exact hl,I1.bk _ _ hC,hN.keeps I1.bk,OT.keeps I1.bk,fun h' a hx=>hf pins σ H1 s2 h' a _ _ I1 hx hE⟩) fun _ _ y=>y)
theorem cT{c:Nat}{fs:FA}{x:Str}{e:Expr}{es:List Expr}{np aZ pos:Pos}(hf:xU X E)(hc:X.calm=true)(T:XC X.K (cl c))(hg:Gl X x)(hm:X.mg x=some (.ref (cl c)))(ha:xA X cl E (e ::es) fs)(jF:(x==("__debug__":Str))=false:=by decide)
 (he:starEach (e ::es) X.env=(false,eval e X.env) ::starEach es X.env:=by rfl) (kP:(backTo aZ (starEach es X.env)).any (·.1)=false:=by rfl) :
 GP X cl E (.Raise (some (.Call (.Name x np) (e ::es) [] aZ)) none pos) (eX c fs):=⟨(AV hf hc T hg hm ha.1 jF he kP).imp fun D σ H ⟨ρ,S,δ,En,z⟩=>by
 refine⟨ρ,S,δ,En,?_⟩;rcases z with⟨o,S',hf,q⟩ | ⟨c',S',hf,q⟩
 .obtain⟨vs,S1,h1,h2⟩:=R3.ag hf;unfold R3.aS at h2;split at h2 <;> cases h2
 .rcases R3.eS hf with h1 | ⟨vs,S1,h1,h2⟩
  .exact .inr ⟨c',S',h1,q⟩
  .unfold R3.aS at h2;split at h2
   .rename_i hl;cases h2;exact .inl ⟨vs,_,h1,fun us bx H1 p1 w1 r1=>⟨by rw[<-r1.length];exact of_decide_eq_true hl,q bx H1 p1 w1⟩⟩
   .cases h2⟩
end
theorem jI{P:Program}{w:World}{K:W.Frag}{mg:WK}{base:Heap}{cl:WL}{x qual:Str}{st:Stmt}{f:Addr}{fd:FuncData}{N ps:List Str}{k:Nat}{F:FZ}{b:List Stmt}{sc:Scope}(hb:aR st=b)(hs:aF st=sc)(Fn:wW K x qual st f fd)(S:bc N ps sc)
 (jc:∀(dD:Value) (A:Around) (outer:List Env) (s:Shared) (H:Hp) (E:XK),dP k (A.deeper (envOfC qual sc s.heap.objs.size f dD))->
   uq (jZ (uS P w) P w K mg base N qual sc f dD A outer s H E) cl E b F):f9 P w K mg base (uS P w) (k+1) f fd ps (vE K cl ps.length (sL N F)):=by
 subst hb hs;obtain⟨oc,od,kV,doc,pm,an,dD,ct,AM,rfl,lk,rK⟩:=Fn.ex;refine GQ lk rK S (fun vs H Q E h=>h.1) fun A outer s H vs Q E hr Ha=>⟨_,(jc dD A outer s H E hr).1,?_⟩
 obtain⟨_,ρ,S,ds,w,r,z⟩:=Ha;refine⟨ρ,S,dZ N ds,v8 w r,?_⟩;rcases z with⟨v,S',hg,q⟩ | ⟨c,S',hg,q⟩
 .obtain⟨o,S1,h1,h2⟩:=R3.ag hg;refine .inl ⟨o,S1,h1,?_⟩;cases o with
  | nx dC=>
    cases h2;exact fun cG bz H' p' E'=>q _ bz H' p' E'.sw (by unfold aT Rep;rfl)
  | rt d'=>
    cases h2;exact fun u bz H' p' w' r'=>q u bz H' p' w' r'
 .rcases R3.eS hg with h1 | ⟨o,S1,h1,h2⟩
  .exact .inr ⟨c,S',h1,q⟩
  .cases o with
   | nx dC=>cases h2
   | rt d'=>cases h2
theorem iA{P:Program}{w:World}{K:W.Frag}{mg:WK}{base:Heap}{N:List Str}{qual:Str}{scope:Scope}{f:Addr}{cd:Value}{A:Around}{outer:List Env}{s:Shared}{H:Hp}{E:XK} :
 Passes (uS P w) (jZ (uS P w) P w K mg base N qual scope f cd A outer s H E) E:=L1
theorem cU{P:Program}{w:World}{K:W.Frag}{mg:WK}{base:Heap}{N:List Str}{qual:Str}{scope:Scope}{f:Addr}{cd:Value}{A:Around}{outer:List Env}{s:Shared}{H:Hp}{E:XK} :
 xU (jZ (uS P w) P w K mg base N qual scope f cd A outer s H E) E:=fun pins σ H1 s1 h' a cls vs I hx hE=>JD I hx hE
end L3
end
section
namespace L2
open PySem PySem.Spec PyProof.Rows
abbrev Cx.alt(X:Cx)(A:Around)(calm:Bool)(pn:WD)(xe:WG):Cx:={X with A:=A,calm:=calm,pn:=pn,xe:=xe}
section
variable {X:Cx} {pins DM:WD} {σ:St} {H H1 H':Hp} {s s1 s':Shared}
end
end L2
namespace L3
open PySem PySem.Spec PyProof.Rows L2
section
variable {X:Cx} {cl:WL}
def SS(F:FZ)(ok:Nat->Bool)(i:Nat)(G:FZ):FZ:=fun δ S=>match F δ S with
 | .ok o S'=> .ok o S'
 | .ex c S'=>R3.aS (ok c) ((DO (G ((List.replicate δ.length none).set i (some (.loc S'.length))) (S'++[.exc c]))).bind fun o S2=>match o with | .nx dC=> .ok (.nx (dC.set i none)) S2 | .rt v=> .ok (.rt v) S2)
 | .no=> .no
end
end L3
end
section
namespace L2
open PySem PySem.Spec PyProof.Rows
def xV:V->Bool | .ref _=>true | .ty _=>true | _=>false
def Jr:V->Value | .ref a=> .ref a | .ty n=> .type n | _=> .none
section
variable {X:Cx}
def Tc(K:W.Frag):List V->Hp->VK->Prop:=fun xs H Q=>∃a b C cv k,xs=[V.ref a,cv]/\H a=some (.ext (L3.isExc C b))/\XC K C/\xV cv=true/\PySem.W.kitOne K (.ref C) (Jr cv)=some k/\Q (.bl k) H
def R4(K:W.Frag):List V->Hp->VK->Prop:=fun xs H Q=>∃cv k,xs=[V.cz,cv]/\xV cv=true/\PySem.W.kitOne K (.type "NoneType") (Jr cv)=some k/\Q (.bl k) H
def Tq(K:W.Frag):List V->Hp->VK->Prop:=fun xs H Q=>∃a b C tp Mp k,xs=[V.ref a,V.ref tp]/\H a=some (.ext (L3.isExc C b))/\XC K C/\H tp=some (.tup Mp)/\Mp.all xV=true/\PySem.W.kitAny K (.ref C) (Mp.map Jr)=some k/\Q (.bl k) H
end
end L2
namespace L3
open PySem PySem.Spec PyProof.Rows L2
section
variable {X:Cx} {cl:WL} {E:XK}
def Sk(f:FX)(tb:Nat->Option Bool):FX:=fun δ S=>(f δ S).bind fun v S1=>match v with
 | .loc k=>(match S1[k]? with | some (.exc c)=>(match tb c with | some b=> .ok (.d (.bl b)) S1 | none=> .no) | _=> .no)
 | .d .cz=> .ok (.d (.bl false)) S1
 | _=> .no
def Tg(f:FX)(tb:Nat->Option Bool):FX:=fun δ S=>(f δ S).bind fun v S1=>match v with
 | .loc k=>(match S1[k]? with | some (.exc c)=>(match tb c with | some b=> .ok (.d (.bl b)) S1 | none=> .no) | _=> .no)
 | _=> .no
def Wm(Mp:List V):TA:=fun _ H Q=>Q Mp H
theorem uB{fs:FA}{n:Nat}(h:∀δ S ds S',fs δ S= .ok ds S'->ds.length=n):∀δ S ds S',eF fs δ S= .ok ds S'->ds.length=n:=fun δ S ds S' e=>h δ S ds S' (iU e)
end
end L3
end
section
namespace L3
open PySem PySem.Spec PyProof.Rows L2
section
variable {α β:Type} {S S':aP} {δ:DE} {c:Nat}
theorem BU{r:R3 α}{Q:α->aP->Prop}(h:W3 r Q):W3 (DO r) Q:=by
 obtain⟨a,S,e,q⟩:=h;rw[e];exact⟨a,S,rfl,q⟩
theorem Bu{f:FX}{Q:V3->aP->Prop}(h:W3 (f δ S) Q):W3 (rP f δ S) Q:=BU h
theorem qj{f:FA}{Q:List V3->aP->Prop}(h:W3 (f δ S) Q):W3 (eF f δ S) Q:=BU h
theorem K6{f:FZ}{Q:Ou->aP->Prop}(h:W3 (f δ S) Q):W3 (AG f δ S) Q:=BU h
theorem LZ{f:FB}{Q:Bool->aP->Prop}(h:W3 (f δ S) Q):W3 (wq f δ S) Q:=BU h
end
end L3
end
section
namespace L3
open PySem PySem.Spec PyProof.Rows L2
def V5(K:W.Frag)(mg:WK)(x:Str):Prop:=∃f,PySem.W.nsIn K mainGlobals x=some (some (.ref f))/\mg x=some (.ref f)
section
variable {X:Cx} {cl:WL} {E:XK}
def VL(x:Str):FX:=fun _ S=> .ok (.fn x) S
theorem Bl:Passes (uS X.prog X.w) X E0:=fun _ _ _ _ _ _ _ ⟨_,_,_,_,_,_,_,_,_,_,_,_,z⟩=>z.elim
theorem Df(h:Gy X cl E e f):PX X cl e f:=⟨h.1.imp fun σ H Q ⟨ρ,S,δ,v,S',En,hf,q⟩=>⟨ρ,S,δ,En, .inl ⟨v,S',hf,q⟩⟩⟩
abbrev GT:=List (Str × (List V3->aP->R3 V3))
def Ft(P:Program)(w:World)(K:W.Frag)(mg:WK)(base:Heap)(cl:WL)(j n:Nat)(l:GT):Prop:=∀x g,l.lookup x=some g->∃k,k<=j/\fL P w K mg base cl k x n g
def Nk(i:Nat)(l:GT)(fs:FA):FX:=fun δ S=>match δ[i]? with
 | some (some (.fn x))=>(match l.lookup x with | some g=>(fs δ S).bind g | none=> .no)
 | _=> .no
end
end L3
end
section
namespace HT
open PySem PySem.Spec PyProof.Rows
section
variable {prog:Program} {w:World} {A:Around} {E:WG} {s:Shared}
end
end HT
namespace L2
open PySem PySem.Spec PyProof.Rows
def qr:D->Option Key
 | .int n=>some (Sum.inl n)
 | .str x=>some (Sum.inr x)
 | _=>none
theorem vY{K:W.Frag}{B:List Addr}{d:D}{k:Key}{v:V}(h:qr d=some k)(r:Rep K B H d v):v=kV k:=by
 cases d with
 | int n=>cases h;exact Rep.int.mp r
 | str x=>cases h;exact Rep.str.mp r
 | cz=>cases h
 | bl b=>cases h
 | lst ds=>cases h
 | tup ds=>cases h
 | dct ks ds=>cases h
def LQ(ks:List Key)(k:Key):Bool:=ks.any fun x=>decide (x=k)
def N3(ks:List Key)(ds:List D)(k:Key):Option D:=((ks.zip ds).find? fun p=>decide (p.1=k)).map (·.2)
def Uh(a b:D):R D:=match b with
 | .dct ks _=>(match qr a with | some k=> .ok (.bl (LQ ks k)) | none=> .no)
 | _=> .no
def Tz(a b:D):R D:=match b with
 | .dct ks _=>(match qr a with | some k=> .ok (.bl (!LQ ks k)) | none=> .no)
 | _=> .no
def Ry(d k:D):R D:=match d with
 | .dct ks ds=>(match qr k with | some k=>(match N3 ks ds k with | some x=> .ok x | none=> .no) | none=> .no)
 | _=> .no
section
variable {X:Cx}
def QH(f:FD):FD:=fun δ=>(f δ).bind fun d=>match d with | .tup ds=> .ok (.tup ds.reverse) | _=> .no
def Ru(i:Nat)(f:FD):FS:=fun δ=>(f δ).bind fun d=>match seqD? d with
 | some es=>(rE δ i).bind fun ds=>R.aS (decide (ds.length+es.length<=sizeLine)) (.ok (.nx (δ.set i (.bld (ds++es)))))
 | none=> .no
def Qq(f g:FD):ak->R (List D):=fun δ=>(f δ).bind fun d=>(g δ).bind fun e=>match d,e with
 | .int i, .int j=>R.aS (decide (-(2 ^ 62)<=i/\i < 2 ^ 62/\ -(2 ^ 62)<=j/\j < 2 ^ 62/\j - i < 16777216)) (.ok (pQ i (j - i).toNat))
 | _,_=> .no
end
end L2
namespace L3
open PySem PySem.Spec PyProof.Rows L2
section
variable {X:Cx} {cl:WL}
def Rh(i:Nat)(f:FX):FZ:=fun δ S=>match j7 δ i with
 | none=> .no
 | some k=>match cq S k with
   | none=> .no
   | some _=>(f δ S).bind fun v S1=>match v with
     | .d d=>(match seqD? d with
       | some es=>(match cq S1 k with
         | some ds=>R3.aS (decide (ds.length+es.length<=sizeLine)) (.ok (.nx δ) (S1.set k (.lst (ds++es))))
         | none=> .no)
       | none=> .no)
     | _=> .no
def mV(fo fi fe:FX):FZ:=fun δ S=>(fe δ S).bind fun v S1=>(fo δ S1).bind fun o S2=>(fi δ S2).bind fun j S3=>match v,o,j with
 | .d d, .loc k, .d n=>(match om S3 k,qr n with | some ay,some key=>R3.aS (decide (ay.length < sizeLine)) (.ok (.nx δ) (S3.set k (.dct (mX ay key d)))) | _,_=> .no)
 | _,_,_=> .no
theorem lF{pos pos':Pos}(hu:X.A.units+1 < cLine)(hv:PX X cl value fe)(ho:PX X cl o fo)(hi:PX X cl i fi)(hs:swapsWith value (some (.Subscript o i pos')) pos.line X.env=pure false:=by rfl):PZ X cl (.Assign [.Subscript o i pos'] value pos) (mV fo fi fe):=
 ⟨(E_ hu ho.1 hi.1 hv.1 hs).imp fun D σ H ⟨ρ,S,δ,ou,S',E,hf,q⟩=>by
   obtain⟨v,S1,h1,h2⟩:=R3.ag hf;obtain⟨o,S2,h3,h4⟩:=R3.ag h2;obtain⟨j,S3,h5,h6⟩:=R3.ag h4;refine⟨ρ,S,δ,v,S1,E,h1,fun u1 bx H1 p1 w1 r1=>⟨bx,S1,δ,o,S2,E.to p1 w1,h3,fun u2 ox H2 p2 w2 r2=>⟨ox,S2,δ,j,S3,(E.to p1 w1).to p2 w2,h5,fun u3 AE H3 p3 w3 r3=>?_⟩⟩⟩
   split at h6
   .rename_i d k n;split at h6
    .rename_i ay key hd hn;obtain⟨hl,h7⟩:=R3.aO h6;cases h7;have r2':=r2.pre p3;unfold aT at r2';obtain⟨a,a1,rfl⟩:=r2';unfold aT at r3;have:=vY hn r3;subst this;obtain⟨ys,y1,y2,y3⟩:=w3.ob k a _ a1 (qC hd);have zD:=(r1.pre p2).pre p3;unfold aT at zD;obtain⟨e1,pG⟩:=LH (k:=key) zD y2 y3;have hll:ys.length=ay.length:=by have:=congrArg List.length y2;simpa using this
     refine⟨a,_,rfl,Ao.k (k:=key) y1 (by rw[hll];exact of_decide_eq_true hl),?_⟩
     obtain⟨w4,p4⟩:=w3.put (o:= .dct (mX ay key d)) (u:= .dK (putK ys key u1)) a1 (w3.fz k a a1 (by rw[qC hd];intro h;cases h)) ⟨_,rfl,e1,pG⟩
     exact q σ AE _ (p1.trans (p2.trans (p3.trans p4))) (E.to (p1.trans (p2.trans (p3.trans p4))) w4)
    .cases h6
   .cases h6⟩
theorem oj{fo fi fe:FX}{δ:DE}{S:aP}{QO:Ou->aP->Prop}(h:W3 (fe δ S) fun v S1=>W3 (fo δ S1) fun o S2=>W3 (fi δ S2) fun j S3=>∃d k n key ay,v= .d d/\o= .loc k/\j= .d n/\qr n=some key/\S3[k]? =some (.dct ay)/\ay.length < sizeLine/\QO (.nx δ) (S3.set k (.dct (mX ay key d)))):W3 (mV fo fi fe δ S) QO:=
 W3.bind (h.mono fun _ _ h=>W3.bind (h.mono fun _ _ h=>W3.bind (h.mono fun _ S3 ⟨d,k,n,key,ay,e1,e2,e3,e6,e4,hl,q⟩=>by
  subst e1 e2 e3;have e5:om S3 k=some ay:=by unfold om;simp only[e4]
  simp only[e5,e6];exact W3.wh (decide_eq_true hl) (W3.ok q))))
end
end L3
end
section
namespace PySem.W
open PySem PySem.Calls PyProof.Rows
def GV{α:Type}(n:Nat)(lt:Nat->Nat->Bool):KasT α->Option α
 | .ret a=>some a
 | .ask i j k=>if i < n/\j < n then GV n lt (k (lt i j)) else none
section
variable {prog:Program} {w:World} {A:Around} {E:WG} {s:Shared} {a:Addr} {vs:List Value} {κ:SortKind}
abbrev TH(h:Heap)(a:Addr)(vs:List Value):Heap:=((h.update a (Obj.mapSeq fun _=>(#[]:Array Value))).push (seqObj "tuple" vs.toArray 0)).push (seqObj "list" #[] 0)
end
end PySem.W
namespace L2
open PySem PySem.Spec PyProof.Rows
def RY:D->Option (Int × List Int)
 | .tup [.int a, .tup zs]=>(ints? zs).map fun ns=>(a,ns)
 | _=>none
def Lf:List D->Option (List (Int × List Int))
 | []=>some []
 | d ::ds=>(RY d).bind fun p=>(Lf ds).map (p ::·)
def SH(x y:Int × List Int):Bool:=if x.1=y.1 then(if x.2=y.2 then false else HT.lexLt x.2 y.2) else decide (x.1 < y.1)
def M8(ps:List (Int × List Int)):Option (Array Nat):=PySem.W.GV ps.length (fun i j=>SH (ps.getD i (0,[])) (ps.getD j (0,[]))) (PySem.W.kas_sort ps.length)
def Nw:List D->R D
 | [.lst ds]=>(match Lf ds with
   | some ps=>R.aS (decide (2<=ps.length/\ps.length < 64)) (match M8 ps with | some p=>R.aS (p.toList.all (fun i=>decide (i < ps.length)) && decide (p.toList.length < 64)) (.ok (.lst (p.toList.map fun i=>ds.getD i .cz))) | none=> .no)
   | none=> .no)
 | _=> .no
def R_(h:Heap)(v:Value)(p:Int × List Int):Prop:=
 ∃(x b:Addr) (t:Tok) (n:Nat) (o:Obj) (its:Array Value),v= .ref x/\h.get? x=some o/\o.cls= .type "tuple"/\o.data= .seq #[.int p.1 t, .ref b] n/\IsTup h b its/\IntsAre its.toList p.2
section
variable {X:Cx}
end
end L2
end
section
namespace L2
open PySem PySem.Spec PyProof.Rows
def LF(d a:D):Bool:=PyData.eqv (toPy d) (toPy a)
def Rt(d:D):Bool:=cA d && (toPy d).canLay0 && decide ((toPy d).depth<=8)
def QT(a b:D):R Bool:=match seqD? b with
 | some ds=>R.aS (Rt a && ds.all Rt) (.ok (ds.any fun d=>LF d a))
 | none=> .no
def SK(a b:D):R D:=(QT a b).bind fun x=> .ok (.bl x)
def SG(a b:D):R D:=(QT a b).bind fun x=> .ok (.bl (!x))
section
variable {X:Cx}
open Classical in
def Rj(h:Heap)(a:D)(y:Value):Bool:=decide (∃d as,Reads h y (toPy d) as/\(toPy d).canLay0=true/\LF d a=true)
open Classical in
theorem Ov{a d:D}{y:Value}{as:List Addr}(r:Reads h y (toPy d) as)(hl:(toPy d).canLay0=true):Rj h a y=LF d a:=by
 unfold Rj;cases q:LF d a with
 | true=>exact decide_eq_true ⟨d,as,r,hl,q⟩
 | false=>
   refine decide_eq_false fun⟨d',Vf,r',Mo,q'⟩=>?_
   have:=SeqAt.Reads.unique _ _ y as Vf hl r r';unfold LF at q q';rw[<-this,q] at q';cases q'
end
end L2
end
section
set_option maxHeartbeats 1000000
namespace L3
open PySem PySem.Spec PyProof.Rows L2
section
variable {X:Cx} {cl:WL}
def Rv(i:Nat)(F:FZ):FZ:=fun δ S=>match j7 δ i with
 | some k=>(match S[k]? with | some (.dct ay)=>F (δ.set i (some (.d (.dct (ay.map (·.1)) (ay.map (·.2)))))) (S.set k .kK) | _=> .no)
 | none=> .no
end
end L3
end
section
set_option maxHeartbeats 3200000
namespace PySem.W
open PySem PySem.Calls PyProof.Rows
namespace F2
end F2
section
variable {prog:Program} {w:World} {A:Around} {E:WG} {s:Shared}
end
section
variable {prog:Program} {w:World} {K:Type} [DecidableEq K] {knd:KeyKind prog w K} {A:Around} {s:Shared}
def Nt(knd:KeyKind prog w K)(h:Heap)(v:Value)(q:K × Value):Prop:=
 ∃(x:Addr) (n:Nat) (o:Obj) (kv:Value),v= .ref x/\h.get? x=some o/\o.cls= .type "tuple"/\o.data= .seq #[kv,q.2] n/\knd.is q.1 kv=true
def fills(qs:List (K × Value))(ay:List (K × Value)):List (K × Value):=qs.foldl (fun acc q=>stored acc q.1 q.2) ay
end
end PySem.W
namespace L2
open PySem PySem.Spec PyProof.Rows
def Sw:D->Option (Key × D)
 | .tup [a,b]=>(qr a).map fun k=>(k,b)
 | _=>none
def Lp:List D->Option (List (Key × D))
 | []=>some []
 | d ::ds=>(Sw d).bind fun p=>(Lp ds).map (p ::·)
def GR(qs:List (Key × D))(ay:List (Key × D)):List (Key × D):=qs.foldl (fun acc q=>L3.mX acc q.1 q.2) ay
def M_:List D->R D
 | [.lst ds]=>(match Lp ds with
   | some qs=>R.aS (decide (ds.length<=1000000)) (.ok (.dct ((GR qs []).map (·.1)) ((GR qs []).map (·.2))))
   | none=> .no)
 | _=> .no
section
variable {X:Cx}
end
end L2
end
section
set_option maxHeartbeats 1000000
namespace L3
open PySem PySem.Spec PyProof.Rows L2
def G2(g:List V3->aP->R3 V3):List V3->aP->R3 V3:=fun vs S=>match g vs S with
 | .ok v S'=>(match res S' v with
   | some d=>R3.aS ((S'.take S.length).all (vC S.length) && lI S.length v) (.ok (.d d) (S'.take S.length))
   | none=> .no)
 | .ex c S'=>R3.aS ((S'.take S.length).all (vC S.length)) (.ex c (S'.take S.length))
 | .no=> .no
theorem HH{K:W.Frag}{cl:WL}{g:List V3->aP->R3 V3}{n:Nat}{vs:List V}{Q:VK}{E:XK}(h:vE K cl n (G2 g) vs H Q E):vE K cl n g vs H Q E:=by
 obtain⟨hl,ρ,S,xs,w,r,z⟩:=h;refine⟨hl,ρ,S,xs,w,r,?_⟩;have pc:∀{bx H1},Pre ρ H bx H1->Pre ρ H (bx.cut S.length) H1:=fun p1=>SW.Bs (K:=K) (cl:=cl) (by rw[w.len];exact Nat.le_refl _) p1
 rcases z with⟨v,S',hg,q⟩ | ⟨c,S',hg,q⟩
 .unfold G2 at hg;split at hg
  .rename_i v1 S1 h1;split at hg
   .rename_i d e;obtain⟨ok,h3⟩:=R3.aO hg;obtain⟨ok,hk⟩:=Bool.and_eq_true_iff.mp ok;cases h3;refine .inl ⟨v1,S1,h1,fun u bx H1 p1 w1 r1=>q u _ H1 (pc p1) (w1.cut ok) ?_⟩
    unfold aT;refine r1.resB w1 (gM _) (fun k a hk a1 ha=>?_) hk e
    rcases P3.eD.mp ha with⟨z,_⟩ | z
    .obtain⟨j,hj⟩:=List.getElem?_of_mem z;have hj:(bx.r.take S.length)[j]? =some a:=hj;rw[List.getElem?_take] at hj;split at hj
     .rename_i hjl;have:=w1.nd j k a hj a1;omega
     .cases hj
    .exact(w1.zb a z).2 (List.mem_of_getElem? a1)
   .cases hg
  .rename_i c1 S1 h1;unfold R3.aS at hg;split at hg <;> cases hg
  .cases hg
 .unfold G2 at hg;split at hg
  .rename_i v1 S1 h1;split at hg
   .unfold R3.aS at hg;split at hg <;> cases hg
   .cases hg
  .rename_i c1 S1 h1;unfold R3.aS at hg;split at hg
   .rename_i ok;cases hg;exact .inr ⟨_,S1,h1,fun bx H1 p1 w1=>q _ H1 (pc p1) (w1.cut ok)⟩
   .cases hg
  .cases hg
theorem fL.q{K:W.Frag}{mg:WK}{cl:WL}{k:Nat}{n:Nat}{g:List V3->aP->R3 V3}(C:fL P w K mg base cl k x n g):fL P w K mg base cl k x n (G2 g):=
 let⟨f,fd,ps,F,h⟩:=C;⟨f,fd,ps,F.imp fun _ _ _ _ h=>HH h,h⟩
section
variable {X:Cx} {cl:WL} {E:XK}
def Tb(f:FX):FX:=fun δ S=>(f δ S).bind fun v S1=>match v with | .d (.bl b)=> .ok (.d (.bl (!b))) S1 | _=> .no
def Nq(K:W.Frag)(cl:WL)(E:XK)(ρ:P3)(H:Hp)(D:Ends)(r:R3 Ou):Prop:=match r with
 | .ok o S'=>vc K cl ρ H D S' o
 | .ex c S'=>yB K cl E ρ H S' c
 | .no=>False
def MD(f:FA):FA:=fun δ S=>DO (f δ S)
theorem zo{tg iter:Expr}{body:List Stmt}{it:FA}{t:FG}{F:FZ}{pos:Pos}(hp:PassesOwn (model X.prog X.w) X.A X.env X.xe)(hc:X.calm=true)(hi:Ke X cl tg iter it)(hg:KD X cl tg t)(hb:uq X cl E body F)
 (hs:∀x,foldedSetIterable iter X.env x=pure x:=by intro _;rfl):GP X cl E (.For tg iter body [] pos) (wm (MD it) t F):=⟨(xc hp hc hi.1 hg.1 hb.1 hs).imp fun D σ H ⟨ρ,S,δ,En,z⟩=>by
 have key:∃ds S0,it δ S= .ok ds S0/\Nq X.K cl E ρ H D (eB t F ds δ S0):=by
  rcases z with⟨o,S',hf,q⟩ | ⟨c,S',hf,q⟩
  .obtain⟨ds,S0,h1,h2⟩:=R3.ag hf;exact⟨ds,S0,iU h1,by rw[h2];exact q⟩
  .rcases R3.eS hf with h1 | ⟨ds,S0,h1,h2⟩
   .exact(m3 h1).elim
   .exact⟨ds,S0,iU h1,by rw[h2];exact q⟩
 obtain⟨ds,S0,h1,wi⟩:=key;obtain⟨r,hr⟩:∃r,eB t F ds δ S0=r:=⟨_,rfl⟩;rw[hr] at wi;refine⟨ρ,S,δ,ds,S0,En,h1,fun J bx H1 p1 w1 ir=>?_⟩
 refine⟨fun i m cG H'=>m=ds.length - i/\i<=ds.length/\∃bz S1 dC,Pre bx H1 bz H'/\d6 X.K cl bz H' S1 cG dC/\eB t F (ds.drop i) dC S1=r,⟨ds.length,rfl,Nat.zero_le _,bx,S0,δ,Pre.refl bx H1,En.to p1 w1,by simpa using hr⟩,?_⟩
 rintro i m cG H' ⟨rfl,hi,bz,S1,dC,pv,E',hl⟩;obtain⟨go,stop⟩:=ir bz H' pv.pw E'.sw.bs;by_cases hlt:i < ds.length
 .have hd:ds[i]? =some ds[i]:=List.getElem?_eq_getElem hlt;have hdrop:ds.drop i=ds[i] ::ds.drop (i+1):=List.drop_eq_getElem_cons hlt;rw[hdrop] at hl;unfold eB at hl;split at hl
  .rw [<-hl] at wi;exact wi.elim
  .rename_i δ1 h3;obtain⟨g1,g2⟩:=go i _ hd;refine .inr ⟨g1,fun r9 H2=>∃ox S2 g9,Pre bx H1 ox H2/\d6 X.K cl ox H2 S2 r9 g9/\eB t F (ds.drop (i+1)) g9 S2=r,fun r9 H2 n=>⟨ds.length - (i+1),by omega,rfl,hlt,n⟩,fun x mD y=>?_⟩
   obtain⟨ss,rr⟩:=g2 x mD y;refine⟨bz,S1,dC,ds[i],δ1,E'.same ss,rr,h3,fun r9 H2 s2 E2=>⟨bz,S1,δ1,E2,?_⟩⟩
   have pv2:Pre bx H1 bz H2:=pv.trans (Pre.same (ss.trans s2));cases hF:F δ1 S1 with
   | no=>rw [hF] at hl;rw [<-hl] at wi;exact wi.elim
   | ex c S2=>
     rw[hF] at hl;have hl:R3.ex c S2=r:=hl;rw[<-hl] at wi;exact .inr ⟨c,S2,rfl,yB.pre wi (p1.trans pv2)⟩
   | ok o1 S2=>
     rw[hF] at hl;refine .inl ⟨o1,S2,rfl,?_⟩;cases o1 with
     | nx g9=>exact fun DZ AE H3 p3 E3=>⟨AE,S2,g9,pv2.trans p3,E3,hl⟩
     | rt d=>
       have hl:R3.ok (Ou.rt d) S2=r:=hl;rw[<-hl] at wi;exact fun v AE H3 p3 w r=>wi v AE H3 (p1.trans (pv2.trans p3)) w r
 .have e:i=ds.length:=by omega
  subst e;rw[List.drop_length] at hl;have hl:R3.ok (Ou.nx dC) S1=r:=hl;rw[<-hl] at wi;exact .inl ⟨stop,wi cG bz H' (p1.trans pv) E'⟩⟩
theorem yh{P:Program}{w:World}{K:W.Frag}{mg:WK}{base:Heap}{N:List Str}{qual:Str}{scope:Scope}{f:Addr}{cd:Value}{A:Around}{outer:List Env}{s:Shared}{H:Hp}{E:XK} :
 PassesOwn (model P w) (jZ (uS P w) P w K mg base N qual scope f cd A outer s H E).A (jZ (uS P w) P w K mg base N qual scope f cd A outer s H E).env (jZ (uS P w) P w K mg base N qual scope f cd A outer s H E).xe:=PassesOwn.leaving
def jq(P:Program)(w:World)(K:W.Frag)(mg:WK)(base:Heap)(cl:WL)(k c:Nat)(m:Str)(n:Nat)(g:List V3->aP->R3 V3):Prop:=
 ∃(f:Addr) (fd:FuncData) (ps:List Str),vt K (cl c)/\Meth K (cl c) m f/\f9 P w K mg base (uS P w) k f fd ps (vE K cl (n+1) g)/\Binds K fd ps []
theorem lY{g:List V3->aP->R3 V3}{k j n c:Nat}{m:Str}{o e:Expr}{es:List Expr}{fo:FX}{fs:FA}{apos pos:Pos}{pl:Sem Bool}(hp:Passes (uS X.prog X.w) X E)(M:jq X.prog X.w X.K X.mg X.base cl k c m n g)(hr:dP j X.A)(Gh:k<=j)(ho:PX X cl o fo)(ha:JL X cl (e ::es) fs)(hn:∀δ S ds S',fs δ S= .ok ds S'->ds.length=n)
 (DL:starEach (e ::es) X.env=(false,eval e X.env) ::starEach es X.env:=by rfl) (kP:(backTo pos (starEach es X.env)).any (·.1)=false:=by rfl)
 (ht:eval (.Call (.Attribute o m apos) (e ::es) [] pos) X.env=(do
   let ov <-eval o X.env
   standAt apos.atName
   let(f,first) <-holding [ov] (getMethod ov m pl)
   callWith pos f first (backTo pos (starEach (e ::es) X.env)) (backToKw pos (keywordEach [] X.env))):=by rfl) :
 Gy X cl E (.Call (.Attribute o m apos) (e ::es) [] pos) (nO c m g (rP fo) (eF fs)):=by
 obtain⟨f,fd,ps,hC,hm,F,hb⟩:=M;refine⟨(Fz ho.1 hC hm F (hr.mono Gh) hb .nil hp ha.1 DL kP ht).imp fun σ H Q ⟨ρ,S,δ,En,z⟩=>?_⟩
 have key:∃kk ys S1 vs S2,fo δ S= .ok (.loc kk) S1/\jV S1 c kk=some ys/\ys.lookup m=none/\fs δ S1= .ok vs S2/\((∃v S',g (.loc kk ::vs) S2= .ok v S'/\∀u bz H',Pre ρ H bz H'->SW X.K cl bz H' S'->aT X.K bz H' v u->Q u H')\/∃c S',g (.loc kk ::vs) S2= .ex c S'/\yB X.K cl E ρ H S' c):=by
  have go:∀{r:R3 V3},nO c m g (rP fo) (eF fs) δ S=r->r≠ .no->∃kk ys S1 vs S2,fo δ S= .ok (.loc kk) S1/\jV S1 c kk=some ys/\ys.lookup m=none/\fs δ S1= .ok vs S2/\g (.loc kk ::vs) S2=r:=fun {r} hr qh=>by
   unfold nO at hr;cases hfo:fo δ S with
   | no=>unfold rP at hr;rw [hfo] at hr;exact absurd hr.symm qh
   | ex c' S'=>unfold rP at hr;rw [hfo] at hr;exact absurd hr.symm qh
   | ok o S1=>
     unfold rP at hr;rw[hfo] at hr;simp only[DO,R3.aH] at hr;split at hr
     .rename_i kk;split at hr
      .rename_i ys e1;split at hr
       .rename_i pG;cases hfs:fs δ S1 with
        | no=>unfold eF at hr;rw [hfs] at hr;exact absurd hr.symm qh
        | ex c' S'=>unfold eF at hr;rw [hfs] at hr;exact absurd hr.symm qh
        | ok vs S2=>
          unfold eF at hr;rw[hfs] at hr;exact⟨kk,ys,S1,vs,S2,rfl,e1,pG,hfs,hr⟩
       .exact absurd hr.symm qh
      .exact absurd hr.symm qh
     .exact absurd hr.symm qh
  rcases z with⟨v,S',hf,q⟩ | ⟨c',S',hf,q⟩
  .obtain⟨kk,ys,S1,vs,S2,a1,a2,a3,a4,a5⟩:=go hf (fun h=>by cases h)
   exact⟨kk,ys,S1,vs,S2,a1,a2,a3,a4, .inl ⟨v,S',a5,q⟩⟩
  .obtain⟨kk,ys,S1,vs,S2,a1,a2,a3,a4,a5⟩:=go hf (fun h=>by cases h)
   exact⟨kk,ys,S1,vs,S2,a1,a2,a3,a4, .inr ⟨c',S',a5,q⟩⟩
 obtain⟨kk,ys,S1,vs,S2,h1,e1,pG,h3,z⟩:=key;refine⟨ρ,S,δ, .loc kk,S1,En,h1,fun u bx H1 p1 w1 r1=>?_⟩
 have zD:=r1;unfold aT at r1;obtain⟨a,a1,rfl⟩:=r1;obtain⟨dx,zs,ey,ek,rs⟩:=w1.ob kk a _ a1 (kr e1);refine⟨a,dx,zs,rfl,ey,vm ek pG,bx,S1,δ,vs,S2,En.to p1 w1,h3,fun us ox H2 p2 w2 r2=>?_⟩
 show vE X.K cl (n+1) g (V.ref a ::(us++[])) H2 Q E;rw[List.append_nil];refine⟨by rw[List.length_cons,<-r2.length,hn δ S1 vs S2 h3],ox,S2, .loc kk ::vs,w2,aE.cons (zD.pre p2) r2,?_⟩
 rcases z with⟨v,S',h4,q⟩ | ⟨c',S',h4,q⟩
 .exact .inl ⟨v,S',h4,fun z AE H3 p3 w3 r3=>q z AE H3 (p1.trans (p2.trans p3)) w3 r3⟩
 .exact .inr ⟨c',S',h4,q.pre (p1.trans p2)⟩
theorem Tn{g:List V3->aP->R3 V3}{vs:List V3}{S:aP}{QV:V3->aP->Prop}(hS:Nn S)(h:W3 (g vs S) fun v S1=>lI S.length v=true/\(∃T,S1=S++T)/\∃d,res S1 v=some d/\QV (.d d) S):W3 (G2 g vs S) QV:=by
 obtain⟨v,S1,e,hg,⟨T,rfl⟩,d,hd,q⟩:=h;unfold G2;rw[e];simp only[hd];rw[List.take_append_of_le_length (Nat.le_refl _),List.take_length];exact W3.wh (by rw[List.all_eq_true.mpr hS,hg];rfl) (W3.ok q)
def WE{α:Type}(r:R3 α)(Q:α->aP->Prop)(Y:Nat->aP->Prop):Prop:=(∃a S,r= .ok a S/\Q a S)\/∃c S,r= .ex c S/\Y c S
section
variable {α β:Type} {S:aP} {δ:DE} {Y:Nat->aP->Prop}
theorem WE.bind{r:R3 α}{f:α->aP->R3 β}{Q:β->aP->Prop}(h:WE r (fun a S1=>WE (f a S1) Q Y) Y):WE (r.bind f) Q Y:=by
 rcases h with⟨a,S1,rfl,q⟩ | ⟨c,S1,rfl,q⟩
 .exact q
 .exact .inr ⟨c,S1,rfl,q⟩
theorem WE.mono{r:R3 α}{Q Q':α->aP->Prop}{Y':Nat->aP->Prop}(h:WE r Q Y)(m:∀a S,Q a S->Q' a S)(n:∀c S,Y c S->Y' c S):WE r Q' Y':=by
 rcases h with⟨a,S1,e,q⟩ | ⟨c,S1,e,q⟩
 .exact .inl ⟨a,S1,e,m _ _ q⟩
 .exact .inr ⟨c,S1,e,n _ _ q⟩
theorem WE.ok{a:α}{Q:α->aP->Prop}(h:Q a S):WE (.ok a S) Q Y:= .inl ⟨a,S,rfl,h⟩
theorem g6{F G:FZ}{Q:Ou->aP->Prop}(h:WE (F δ S) (fun o S1=>∃δ1,o= .nx δ1/\WE (G δ1 S1) Q Y) Y):WE (dc F G δ S) Q Y:=WE.bind (h.mono (fun o S1 ⟨δ1,e,q⟩=>by subst e;exact q) fun _ _ q=>q)
theorem wu{F:FZ}{Q:Ou->aP->Prop}(h:W3 (F δ S) Q):WE (AG F δ S) Q Y:= .inl (K6 h)
theorem nC{fc:FB}{F G:FZ}{Q:Ou->aP->Prop}(h:W3 (fc δ S) fun b S1=>if b then WE (F δ S1) Q Y else WE (G δ S1) Q Y):WE (rL (wq fc) F G δ S) Q Y:=WE.bind (.inl (LZ (h.mono fun b S1 q=>by
 show WE (if b=true then F δ S1 else G δ S1) Q Y
 cases b with
 | true=>rw [if_pos rfl] at q ⊢;exact q
 | false=>rw [if_neg (by decide)] at q ⊢;exact q)))
theorem tO{f:FX}{Q:Ou->aP->Prop}(h:WE (f δ S) (fun v S1=>Q (.nx δ) S1) Y):WE (si f δ S) Q Y:=WE.bind (h.mono (fun v S1 q=>WE.ok q) fun _ _ q=>q)
theorem CB{f:FX}{Q:V3->aP->Prop}(h:W3 (f δ S) Q):WE (rP f δ S) Q Y:= .inl (Bu h)
theorem Ie{g:List V3->aP->R3 V3}{fs:FA}{Q:V3->aP->Prop}(h:W3 (fs δ S) fun vs S1=>WE (g vs S1) Q Y):WE (qo g (eF fs) δ S) Q Y:=WE.bind (.inl (qj h))
theorem qt{c k:Nat}{g:List V3->aP->R3 V3}{fo:FX}{fs:FA}{Q:V3->aP->Prop}(h:W3 (fo δ S) fun v S1=>∃ys,v= .loc k/\S1[k]? =some (.ins c ys)/\ys.lookup m=none/\W3 (fs δ S1) fun vs S2=>WE (g (.loc k ::vs) S2) Q Y):WE (nO c m g (rP fo) (eF fs) δ S) Q Y:=
 WE.bind (.inl (Bu (h.mono fun v S1 ⟨ys,e1,pG,e3,q⟩=>by
  subst e1;have e4:jV S1 c k=some ys:=by unfold jV;simp only[pG,if_true]
  simp only[e4,e3];exact WE.bind (.inl (qj q)))))
theorem qf{c:Nat}{fs:FA}{Q:Ou->aP->Prop}(h:W3 (fs δ S) fun vs S1=>vs.length<=sizeLine/\Y c S1):WE (eX c (eF fs) δ S) Q Y:=WE.bind (.inl (qj (h.mono fun vs S1 ⟨h1,h2⟩=>by
 unfold R3.aS;rw[decide_eq_true h1];exact .inr ⟨c,S1,rfl,h2⟩)))
theorem k9{Q:Ou->aP->Prop}(h:Q (.nx δ) S):WE (km δ S) Q Y:=WE.ok h
theorem Kb{N:List Str}{F:FZ}{vs:List V3}{Q:V3->aP->Prop}(e:dZ N vs=δ)(h:WE (F δ S) (fun o S1=>match o with | .rt v=>Q v S1 | .nx _=>Q (.d .cz) S1) Y):WE (sL N F vs S) Q Y:=by
 unfold sL;rw[e];refine WE.bind (h.mono (fun o S1 q=>?_) fun _ _ q=>q)
 cases o with
 | nx δ1=>exact WE.ok q
 | rt v=>exact WE.ok q
theorem Jo{t:FG}{F:FZ}(I:Nat->DE->aP->Prop){vs:List V3}(h0:I 0 δ S)(step:∀i v δ1 S1,vs[i]? =some v->I i δ1 S1->∃g9,t v δ1=some g9/\WE (F g9 S1) (fun o S2=>∃Ko,o= .nx Ko/\I (i+1) Ko S2) Y) :
 WE (eB t F vs δ S) (fun o S1=>∃δ1,o= .nx δ1/\I vs.length δ1 S1) Y:=by
 induction vs generalizing I δ S with
 | nil=>exact .inl ⟨_,_,rfl,δ,rfl,h0⟩
 | cons v vs ih=>
   obtain⟨g9,e,h⟩:=step 0 v δ S rfl h0;unfold eB;rw[e];refine WE.bind (h.mono (fun o S2 ⟨Ko,e3,q⟩=>?_) fun _ _ q=>q)
   subst e3;exact ih (fun i=>I (i+1)) q fun i w δ1 S1 hw hi=>step (i+1) w δ1 S1 hw hi
theorem G5{it:FA}{Q:Ou->aP->Prop}(h:W3 (it δ S) fun vs S1=>WE (eB t F vs δ S1) Q Y):WE (wm (MD it) t F δ S) Q Y:=WE.bind (.inl (BU h))
end
end
end L3
end
section
namespace L2
open PySem PySem.Spec PyProof.Rows
def gK(ks:List (Str × Int)):List (Key × V):=ks.map fun p=>(Sum.inr p.1,V.int p.2)
def lH(P:Program)(w:World)(K:W.Frag)(mg:WK)(x:Str)(ks:List (Str × Int)):Prop:=∃a,mg x=some (.ref a)/\∀(H:Hp) (h:Heap),K.In h->c_ P w H h a (.dK (gK ks))
theorem tI(x:Str):∀ks:List (Str × Int),iV (gK ks) (Sum.inr x)=(ks.lookup x).map V.int
 | []=>rfl
 | (y,i) ::ks=>by
   have ih:=tI x ks;unfold iV gK at ih ⊢;rw[List.map_cons,List.find?_cons,List.lookup_cons];by_cases h:x=y
   .subst h;simp
   .have h1:decide ((Sum.inr y:Key)=Sum.inr x)=false:=decide_eq_false fun q=>h (Sum.inr.inj q).symm
    have h2:(x==y)=false:=beq_eq_false_iff_ne.mpr h;simp only[h1,h2];exact ih
def KN(w:World)(es:List (Str × Tok × Int × Tok)):List DictEntry:=es.map fun e=>⟨hashStr w e.1, .str e.1 e.2.1, .int e.2.2.1 e.2.2.2⟩
theorem vM{P:Program}{w:World}{K:W.Frag}{h:Heap}{mg:WK}(X:K.In h)(G:h.Ns mainGlobals mg){x:Str}{a:Addr}{es:Array DictEntry}{n:Nat}(ts:List (Str × Tok × Int × Tok)){ks:List (Str × Int)}
 (e:PySem.W.nsIn K mainGlobals x=some (some (.ref a))) (l:K.lookup a=some {cls:= .type "dict",data:= .dict es n}) (hs:es.toList=KN w ts) (hk:ks=ts.map fun e=>(e.1,e.2.2.1)) (hd:(ks.map (·.1)).Nodup) (hm:(a==sysModules)=false) (hz:ks.length<=1000):lH P w K mg x ks:=by
 subst hk;refine⟨a,PySem.W.mg_of X G e,fun H h2 X2=>⟨?_,hm,ts.map fun e=>(Sum.inr e.1, .int e.2.2.1 e.2.2.2),?_,_,es,n,X2 a _ l,⟨rfl,rfl,?_⟩,rfl,fun q hq=>?_,?_,?_⟩⟩
 .unfold gK;rw [List.length_map,sizeLine_eq];omega
 .unfold gK;rw[List.map_map]
  clear hs hd hz
  induction ts with
  | nil=>exact .nil
  | cons t ts ih=>exact .cons ⟨rfl,⟨_,rfl⟩⟩ ih
 .rfl
 .have:q∈KN w ts:=by rw[<-hs];exact Array.mem_toList_iff.mpr hq
  obtain⟨t,_,rfl⟩:=List.mem_map.mp this;exact⟨Sum.inr t.1,lS P w _ _,rfl⟩
 .rw [hs]
  clear hs hd hz
  induction ts with
  | nil=>exact .nil
  | cons t ts ih=>exact .cons (lS P w _ _) rfl ih
 .rw [List.map_map] at hd ⊢;have:(ts.map ((fun x:Key × Value=>x.1) ∘ fun e:Str × Tok × Int × Tok=>(Sum.inr e.1, .int e.2.2.1 e.2.2.2)))=(ts.map ((fun x:Str × Int=>x.1) ∘ fun e:Str × Tok × Int × Tok=>(e.1,e.2.2.1))).map Sum.inr:=by
   rw[List.map_map];rfl
  rw[this];exact hd.map _ fun _ _ z q=>z (Sum.inr.inj q)
section
variable {X:Cx}
theorem tR{ks:List (Str × Int)}{p:Pos}(g:lH X.prog X.w X.K X.mg x ks)(hg:Gl X x)(jF:(x==("__debug__":Str))=false:=by decide):∃a,PE X (.Name x p) (tC (.ref a))/\∀(H:Hp) (h:Heap),X.K.In h->c_ X.prog X.w H h a (.dK (gK ks)):=by
 obtain⟨a,hm,ok⟩:=g;exact⟨a,yq (v:= .ref a) hg hm rfl jF,ok⟩
def Kd(ks:List (Str × Int))(d:D):R Bool:=match d with | .str x=> .ok (ks.lookup x).isSome | _=> .no
def IL(ks:List (Str × Int))(f:FD):FD:=fun δ=>(f δ).bind fun d=>(Kd ks d).bind fun b=> .ok (.bl b)
def Sz(ks:List (Str × Int))(f:FD):FD:=fun δ=>(f δ).bind fun d=>(Kd ks d).bind fun b=> .ok (.bl (!b))
def To(ks:List (Str × Int))(f:FD):ak->R Bool:=fun δ=>(f δ).bind fun d=>Kd ks d
def I_(ks:List (Str × Int))(f:FD):ak->R Bool:=fun δ=>(f δ).bind fun d=>(Kd ks d).bind fun b=> .ok (!b)
def vk(ks:List (Str × Int))(f:FD):FD:=fun δ=>(f δ).bind fun d=>match d with | .str x=>(match ks.lookup x with | some i=> .ok (.int i) | none=> .no) | _=> .no
def LV(ks:List (Str × Int))(neg:Bool)(t:TE):TE:=fun σ H Q=>t σ H fun y H1=>∃x,y= .str x/\Q (.bl (neg !=(ks.lookup x).isSome)) H1
theorem Je{ks:List (Str × Int)}{p:Pos}{t:TE}(hu:X.A.units+1 < cLine)(hi:PE X i t)(g:lH X.prog X.w X.K X.mg x ks)(hg:Gl X x)(jF:(x==("__debug__":Str))=false:=by decide):PC X .In i (.Name x p) (LV ks false t):=by
 obtain⟨a,ho,ok⟩:=tR (p:=p) g hg jF;intro pins s σ H Q I h;refine cO (hi pins s σ H _ I h) fun iv s1 ⟨y,H1,I1,ry,z,ey,q1⟩=>cO (ho pins s1 σ H1 (fun u H2=>u= .ref a/\H2=H1) I1 ⟨rfl,rfl⟩) fun u s2 ⟨uv,H2,I2,rx,e1,e2⟩=>?_
 subst ey e1 e2;obtain rfl:u=Value.ref a:=rx;obtain⟨hz,hd,vs,rel,dd⟩:=ok H2 s2.heap I2.mS;refine wpAny_in_of (mP (k:=Sum.inr z) ry) hd dd.mapOf ?_;rw[<-(rel.val (Sum.inr z)).f7,tI,Option.isSome_map];refine⟨.bl _,H2,I2.tok _,rfl,?_⟩;simpa using q1
theorem IB{ks:List (Str × Int)}{p:Pos}{t:TE}(hu:X.A.units+1 < cLine)(hi:PE X i t)(g:lH X.prog X.w X.K X.mg x ks)(hg:Gl X x)(jF:(x==("__debug__":Str))=false:=by decide):PC X .NotIn i (.Name x p) (LV ks true t):=by
 obtain⟨a,ho,ok⟩:=tR (p:=p) g hg jF;intro pins s σ H Q I h;refine cO (hi pins s σ H _ I h) fun iv s1 ⟨y,H1,I1,ry,z,ey,q1⟩=>cO (ho pins s1 σ H1 (fun u H2=>u= .ref a/\H2=H1) I1 ⟨rfl,rfl⟩) fun u s2 ⟨uv,H2,I2,rx,e1,e2⟩=>?_
 subst ey e1 e2;obtain rfl:u=Value.ref a:=rx;obtain⟨hz,hd,vs,rel,dd⟩:=ok H2 s2.heap I2.mS;refine wpAny_notIn_of (mP (k:=Sum.inr z) ry) hd dd.mapOf ?_;rw[<-(rel.val (Sum.inr z)).f7,tI,Option.isSome_map];refine⟨.bl _,H2,I2.tok _,rfl,?_⟩;simpa using q1
theorem CL{ks:List (Str × Int)}{d:D}{b:Bool}(h:Kd ks d= .ok b):∃x,d= .str x/\b=(ks.lookup x).isSome:=by
 unfold Kd at h;split at h
 .cases h;exact⟨_,rfl,rfl⟩
 .cases h
theorem F6{ks:List (Str × Int)}{p pos:Pos}(hu:X.A.units+1 < cLine)(hi:QD X i f)(g:lH X.prog X.w X.K X.mg x ks)(hg:Gl X x)(jF:(x==("__debug__":Str))=false:=by decide)(hm:behindInMarks .In (.Name x p)=false:=by with_unfolding_all rfl):QD X (.Compare i [.In] [.Name x p] pos) (IL ks f):=
 ⟨(IH (Je hu hi.1 g hg jF) hm).imp fun σ H Q ⟨Z,B,δ,d,E,hf,q⟩=>by
   obtain⟨d1,h1,h2⟩:=R.ag hf;obtain⟨b,h3,h4⟩:=R.ag h2;cases h4;obtain⟨z,rfl,rfl⟩:=CL h3;exact⟨Z,B,δ,_,E,h1,fun v H1 s1 r1=>⟨z,Rep.str.mp r1,q _ H1 s1 (by rw[Bool.false_bne];exact Rep.bl.mpr rfl)⟩⟩⟩
theorem Ef{ks:List (Str × Int)}{p pos:Pos}(hu:X.A.units+1 < cLine)(hi:QD X i f)(g:lH X.prog X.w X.K X.mg x ks)(hg:Gl X x)(jF:(x==("__debug__":Str))=false:=by decide)(hm:behindInMarks .NotIn (.Name x p)=false:=by with_unfolding_all rfl):QB X (.Compare i [.NotIn] [.Name x p] pos) (I_ ks f):=
 ⟨(xi (IB hu hi.1 g hg jF) hm).imp fun σ H Q ⟨Z,B,δ,b,E,hf,q⟩=>by
   obtain⟨d1,h1,h2⟩:=R.ag hf;obtain⟨b,h3,h4⟩:=R.ag h2;cases h4;obtain⟨z,rfl,rfl⟩:=CL h3;exact⟨Z,B,δ,_,E,h1,fun v H1 s1 r1=>⟨z,Rep.str.mp r1,_,rfl,by rw[Bool.true_bne];exact q H1 s1⟩⟩⟩
theorem vx{ks:List (Str × Int)}{p pos:Pos}(hi:QD X i f)(g:lH X.prog X.w X.K X.mg x ks)(hg:Gl X x)(hs:F7 i)(jF:(x==("__debug__":Str))=false:=by decide):QD X (.Subscript (.Name x p) i pos) (vk ks f):=⟨by
 obtain⟨a,ho,ok⟩:=tR (p:=p) g hg jF;intro pins s σ H Q I ⟨Z,B,δ,d,E,hf,q⟩;obtain⟨d1,h1,h2⟩:=R.ag hf;have key:∃z n,d1= .str z/\ks.lookup z=some n/\d= .int n:=by
  split at h2
  .split at h2
   .rename_i e;cases h2;exact⟨_,_,rfl,e,rfl⟩
   .cases h2
  .cases h2
 obtain⟨z,n,rfl,hl,rfl⟩:=key;refine y6 PySem.F.slot_dict_getitem.lookup hs (cO (ho pins s σ H (fun u H2=>u= .ref a/\H2=H) I ⟨rfl,rfl⟩) fun u s1 ⟨uv,H1,I1,rx,e1,e2⟩=>?_)
 subst e1 e2;obtain rfl:u=Value.ref a:=rx;refine cO (hi.1 pins s1 σ H1 (fun v H'=>aN H1 H'/\Rep X.K B H' (.str z) v) I1 ⟨Z,B,δ,_,E,h1,fun v H' s1 r1=>⟨s1,r1⟩⟩) fun iv s2 ⟨y,H2,I2,ry,ss,r2⟩=>?_
 cases Rep.str.mp r2;obtain⟨hz,hd,vs,rel,dd⟩:=ok H2 s2.heap I2.mS;obtain⟨w',hw,wF⟩:=kh.some_of (v:= .int n) (o:=valueAt vs (Sum.inr z)) (by rw[show some (V.int n)=iV (gK ks) (Sum.inr z) by rw[tI,hl];rfl];exact rel.val (Sum.inr z))
 refine⟨dd.typeIs,wpAny_getItem_of (mP (k:=Sum.inr z) ry) dd.mapOf hw ?_⟩;exact⟨.int n,H2,I2.tok _,wF,q _ H2 ss (Rep.int.mpr rfl)⟩⟩
end
end L2
namespace L3
open PySem PySem.Spec PyProof.Rows L2
section
variable {X:Cx} {cl:WL} {E:XK}
def jm(S:aP)(k:Nat):Option Nat:=match S[k]? with | some (.lst ds)=>some ds.length | some (.dct ay)=>some ay.length | _=>none
def vZ(f:FX):FX:=fun δ S=>(f δ S).bind fun v S1=>match v with | .loc k=>(match jm S1 k with | some n=> .ok (.d (.int n)) S1 | none=> .no) | _=> .no
theorem CC{K:W.Frag}{ρ:P3}{H:Hp}{S:aP}(w:SW K cl ρ H S){k n:Nat}{a:Addr}(ha:ρ.r[k]? =some a)(h:jm S k=some n):(∃xs,H a=some (.lst xs)/\xs.length=n)\/∃ys,H a=some (.dK ys)/\ys.length=n:=by
 unfold jm at h;split at h
 .rename_i ds e;cases h;obtain⟨xs,e1,r⟩:=w.ob k a _ ha e;exact .inl ⟨xs,e1,r.length.symm⟩
 .rename_i ay e;cases h;obtain⟨ys,e1,e2,r⟩:=w.ob k a _ ha e;refine .inr ⟨ys,e1,?_⟩;have:=congrArg List.length e2
  rwa [List.length_map,List.length_map] at this
 .cases h
theorem mj{p pos:Pos}(he:PX X cl e f)(hg:Gl X "len")(hm:X.mg "len"=none)(hs:starEach [e] X.env=(false,eval e X.env) ::starEach [] X.env:=by rfl)(kP:(backTo pos (starEach [] X.env)).any (·.1)=false:=by rfl):PX X cl (.Call (.Name "len" p) [e] [] pos) (vZ f):=⟨by
 have both:iI X (.builtin "len") (fun xs H Q=>(∃p ys,xs=[.ref p]/\(lr X.K H p ys\/oU X.K H p ys)/\Q (.int ys.length) H)\/(∃a ay,xs=[V.ref a]/\H a=some (.dK ay)/\Q (.int ay.length) H)):=fun pins s σ H xs us Q I r h=>h.elim (tQ pins s σ H xs us Q I r) (zJ pins s σ H xs us Q I r)
 refine(nF both hg hm boot_len (de he.1 fZ hs) (by decide) (by decide) hs kP).imp fun σ H Q ⟨ρ,S,δ,v,S',En,hf,q⟩=>?_
 obtain⟨v1,S1,h1,h2⟩:=R3.ag hf;refine⟨ρ,S,δ,v1,S1,En,h1,fun u bx H1 p1 w1 r1=>?_⟩
 split at h2
 .rename_i k;split at h2
  .rename_i n hn;cases h2;unfold aT at r1;obtain⟨a,ha,rfl⟩:=r1;rcases CC w1 ha hn with⟨xs,e1,rfl⟩ | ⟨ys,e1,rfl⟩
   .exact .inl ⟨a,xs,rfl, .inl (lr.of e1),q _ bx H1 p1 w1 (by unfold aT;exact Rep.int.mpr rfl)⟩
   .exact .inr ⟨a,ys,rfl,e1,q _ bx H1 p1 w1 (by unfold aT;exact Rep.int.mpr rfl)⟩
  .cases h2
 .cases h2⟩
theorem vh{f:FX}{δ:DE}{S:aP}{Q:V3->aP->Prop}(h:W3 (f δ S) fun v S1=>∃k n,v= .loc k/\jm S1 k=some n/\Q (.d (.int n)) S1):W3 (vZ f δ S) Q:=W3.bind (h.mono fun v S1 ⟨k,n,e,e1,q⟩=>by subst e;simp only[e1];exact W3.ok q)
def k6(f:FX):FB:=fun δ S=>(f δ S).bind fun v S1=>match v with | .loc k=>(match jm S1 k with | some n=> .ok (decide (n≠0)) S1 | none=> .no) | _=> .no
theorem kY{a:Expr}(ha:PX X cl a f)(he:∀whole,isTrue a X.env whole=(do let v <-whole;standAt a.pos;holding [v] (truthy v)):=by intro _;rfl):zV X cl a (k6 f):=⟨(vp ha.1 he).imp fun σ H Q ⟨ρ,S,δ,b,S',En,hf,q⟩=>by
 obtain⟨v1,S1,h1,h2⟩:=R3.ag hf;refine⟨ρ,S,δ,v1,S1,En,h1,fun u bx H1 p1 w1 r1=>?_⟩
 split at h2
 .rename_i k;split at h2
  .rename_i n hn;cases h2;unfold aT at r1;obtain⟨a,ha,rfl⟩:=r1;refine⟨_,?_,q bx H1 p1 w1⟩;rcases CC w1 ha hn with⟨xs,e1,rfl⟩ | ⟨ys,e1,rfl⟩
   .exact .inl ⟨xs,lr.of e1,by cases xs <;> simp⟩
   .exact .inr (.inr ⟨ys,e1,by cases ys <;> simp⟩)
  .cases h2
 .cases h2⟩
theorem qJ{f:FX}{δ:DE}{S:aP}{Q:Bool->aP->Prop}(h:W3 (f δ S) fun v S1=>∃k n,v= .loc k/\jm S1 k=some n/\Q (decide (n≠0)) S1):W3 (k6 f δ S) Q:=W3.bind (h.mono fun v S1 ⟨k,n,e,e1,q⟩=>by subst e;simp only[e1];exact W3.ok q)
def oM(v o:V3)(S:aP):Option (Option D):=match v,o with
 | .d x, .loc k=>(match qr x,S[k]? with | some key,some (.dct ay)=>some ((ay.find? fun kv=>decide (kv.1=key)).map (·.2)) | _,_=>none)
 | _,_=>none
def SX(neg:Bool)(fa fb:FX):FX:=fun δ S=>(fa δ S).bind fun v S1=>(fb δ S1).bind fun o S2=>match oM v o S2 with | some r=> .ok (.d (.bl (neg !=r.isSome))) S2 | none=> .no
def yf(neg:Bool)(fa fb:FX):FB:=fun δ S=>(fa δ S).bind fun v S1=>(fb δ S1).bind fun o S2=>match oM v o S2 with | some r=> .ok (neg !=r.isSome) S2 | none=> .no
def CN(fo fi:FX):FX:=fun δ S=>(fo δ S).bind fun o S1=>(fi δ S1).bind fun v S2=>match oM v o S2 with | some (some d)=> .ok (.d d) S2 | _=> .no
theorem zq{K:W.Frag}{B:List Addr}(key:Key):∀{ay:List (Key × D)} {ys:List (Key × V)},ys.map (·.1)=ay.map (·.1)->aD K B H (ay.map (·.2)) (ys.map (·.2))->
 (iV ys key=none/\ay.find? (fun kv=>decide (kv.1=key))=none)\/∃v kv,iV ys key=some v/\ay.find? (fun kv=>decide (kv.1=key))=some kv/\Rep K B H kv.2 v
 | [],[],_,_=> .inl ⟨rfl,rfl⟩
 | [],_ ::_,e,_=>by simp at e
 | _ ::_,[],e,_=>by simp at e
 | (k1,d) ::ay,(k2,y) ::ys,e,r=>by
   obtain⟨e1,e2⟩:=List.cons.inj e;have e1:k2=k1:=e1;subst e1;obtain⟨z,zs,ez,r1,r2⟩:=r.b6;obtain⟨Va,UU⟩:=List.cons.inj ez;subst Va UU;unfold iV;by_cases h:k2=key
   .refine .inr ⟨_,(k2,d),?_,?_,r1⟩
    .rw [List.find?_cons_of_pos (by simpa using h)];rfl
    .rw [List.find?_cons_of_pos (by simpa using h)]
   .rw [List.find?_cons_of_neg (by simpa using h),List.find?_cons_of_neg (by simpa using h)]
    exact zq key e2 r2
theorem xY{K:W.Frag}{ρ:P3}{S:aP}(w:SW K cl ρ H S){v o:V3}{r:Option D}{u y:V}(h:oM v o S=some r)(rv:aT K ρ H v y)(ro:aT K ρ H o u):∃a z,u= .ref a/\mC H a y z/\((z=none/\r=none)\/∃v d,z=some v/\r=some d/\Rep K ρ.b H d v):=by
 unfold oM at h;split at h
 .rename_i x k;split at h
  .rename_i key ay hk hS;cases h;unfold aT at ro rv;obtain⟨a,ha,rfl⟩:=ro;obtain⟨ys,e1,e2,q⟩:=w.ob k a _ ha hS;have:=vY hk rv;subst this;refine⟨a,_,rfl,mC.k (k:=key) e1,?_⟩;rcases zq key e2 q with⟨z1,z2⟩ | ⟨v,kv,z1,z2,z3⟩
   .rw [z1,z2];exact .inl ⟨rfl,rfl⟩
   .rw [z1,z2];exact .inr ⟨v,kv.2,rfl,rfl,z3⟩
  .cases h
 .cases h
theorem tH{pos:Pos}(hu:X.A.units+1 < cLine)(ha:PX X cl a fa)(hb:PX X cl b fb)(hm:behindInMarks .In b=false:=by with_unfolding_all rfl):zV X cl (.Compare a [.In] [b] pos) (yf false fa fb):=⟨(xi (JR hu ha.1 hb.1) hm).imp fun σ H Q ⟨ρ,S,δ,v,S',En,hf,q⟩=>by
 obtain⟨j,S1,h1,h2⟩:=R3.ag hf;obtain⟨o,S2,h3,h4⟩:=R3.ag h2;refine⟨ρ,S,δ,j,S1,En,h1,fun u1 bx H1 p1 w1 r1=>⟨bx,S1,δ,o,S2,En.to p1 w1,h3,fun u2 ox H2 p2 w2 r2=>?_⟩⟩
 split at h4
 .rename_i r hd;cases h4;obtain⟨ad,z,rfl,g,c⟩:=xY w2 hd (r1.pre p2) r2;refine⟨ad,z,rfl,g,_,rfl,?_⟩;have:=q ox H2 (p1.trans p2) w2;rcases c with⟨rfl,rfl⟩ | ⟨v,d,rfl,rfl,_⟩ <;> exact this
 .cases h4⟩
theorem D9{pos:Pos}(hu:X.A.units+1 < cLine)(ha:PX X cl a fa)(hb:PX X cl b fb)(hm:behindInMarks .NotIn b=false:=by with_unfolding_all rfl):zV X cl (.Compare a [.NotIn] [b] pos) (yf true fa fb):=⟨(xi (As hu ha.1 hb.1) hm).imp fun σ H Q ⟨ρ,S,δ,v,S',En,hf,q⟩=>by
 obtain⟨j,S1,h1,h2⟩:=R3.ag hf;obtain⟨o,S2,h3,h4⟩:=R3.ag h2;refine⟨ρ,S,δ,j,S1,En,h1,fun u1 bx H1 p1 w1 r1=>⟨bx,S1,δ,o,S2,En.to p1 w1,h3,fun u2 ox H2 p2 w2 r2=>?_⟩⟩
 split at h4
 .rename_i r hd;cases h4;obtain⟨ad,z,rfl,g,c⟩:=xY w2 hd (r1.pre p2) r2;refine⟨ad,z,rfl,g,_,rfl,?_⟩;have:=q ox H2 (p1.trans p2) w2;rcases c with⟨rfl,rfl⟩ | ⟨v,d,rfl,rfl,_⟩ <;> exact this
 .cases h4⟩
theorem Ez(hu:X.A.units+1 < cLine)(ho:PX X cl o fo)(hi:PX X cl i fi)(hs:F7 i):PX X cl (.Subscript o i pos) (CN fo fi):=⟨(D_ hu ho.1 hi.1 hs).imp fun σ H Q ⟨ρ,S,δ,v,S',En,hf,q⟩=>by
 obtain⟨o,S1,h1,h2⟩:=R3.ag hf;obtain⟨j,S2,h3,h4⟩:=R3.ag h2;refine⟨ρ,S,δ,o,S1,En,h1,fun u1 bx H1 p1 w1 r1=>⟨bx,S1,δ,j,S2,En.to p1 w1,h3,fun u2 ox H2 p2 w2 r2=>?_⟩⟩
 split at h4
 .rename_i d hd;cases h4;obtain⟨ad,z,rfl,g,c⟩:=xY w2 hd r2 (r1.pre p2);rcases c with⟨_,e⟩ | ⟨v,d',rfl,e,r⟩
  .cases e
  .cases e;exact⟨ad,v,rfl,g,q _ ox H2 (p1.trans p2) w2 (by unfold aT;exact r)⟩
 .cases h4⟩
theorem tM{neg:Bool}{fa fb:FX}{δ:DE}{S:aP}{Q:Bool->aP->Prop}(h:W3 (fa δ S) fun v S1=>W3 (fb δ S1) fun o S2=>∃r,oM v o S2=some r/\Q (neg !=r.isSome) S2):W3 (yf neg fa fb δ S) Q:=W3.bind (h.mono fun v S1 h2=>W3.bind (h2.mono fun o S2 ⟨r,e,q⟩=>by simp only[e];exact W3.ok q))
theorem Im{fo fi:FX}{δ:DE}{S:aP}{Q:V3->aP->Prop}(h:W3 (fo δ S) fun o S1=>W3 (fi δ S1) fun v S2=>∃d,oM v o S2=some (some d)/\Q (.d d) S2):W3 (CN fo fi δ S) Q:=W3.bind (h.mono fun v S1 h2=>W3.bind (h2.mono fun o S2 ⟨r,e,q⟩=>by simp only[e];exact W3.ok q))
theorem Be{g:List V3->aP->R3 V3}{k j c:Nat}{p pos:Pos}(M:BE X.prog X.w X.K X.mg X.base cl k c x 0 g)(hr:dP j X.A)(Gh:k+1<=j)(hg:Gl X x)(jF:(x==("__debug__":Str))=false:=by decide):PX X cl (.Call (.Name x p) [] [] pos) (Bm c g ee):=by
 obtain⟨f,fd,ps,M,F,hm,hb⟩:=M;refine⟨(BX M F (hr.mono Gh) hg hm hb .nil GY jF).imp fun σ H Q ⟨ρ,S,δ,v,S',En,hf,q⟩=>?_⟩
 obtain⟨vs,S1,h1,h2⟩:=R3.ag hf;cases h1;obtain⟨v0,S2,h3,h4⟩:=R3.ag h2;split at h4
 .cases h4;intro xa dx hx hdx qh;have Mb:upd H dx (.own xa) xa=none:=by rw[bb (fun z=>qh z.symm)];exact hx
  have sm:aN H (upd (upd H dx (.own xa)) xa (.ins (cl c) dx [])):=(br hdx).trans (br Mb);obtain⟨w2,p2⟩:=En.sw.new (a:=xa) (o:= .ins c []) sm hx ⟨dx,[],aX,rfl,aE.nil⟩;have rl:aT X.K (ρ.push xa) (upd (upd H dx (.own xa)) xa (.ins (cl c) dx [])) (.loc S.length) (.ref xa):=by
   unfold aT;exact⟨xa,by show(ρ.r++[xa])[_]? =_;rw [<-En.sw.len,List.getElem?_append_right (Nat.le_refl _),Nat.sub_self];rfl,rfl⟩
  exact⟨rfl,_,_,[.loc S.length], .d .cz,_,w2,aE.cons rl aE.nil,h3,fun z AE H3 p3 w3 r3=>⟨by unfold aT Rep at r3;exact r3,q _ AE H3 (p2.trans p3) w3 (rl.pre p3)⟩⟩
 .cases h4
end
end L3
end
section
namespace L2
open PySem PySem.Spec PyProof.Rows
section
variable {X:Cx}
def G0(f:FD):FD:=fun δ=>(f δ).bind fun d=>match d with | .str x=>R.aS (decide ((reprText x).length<=sizeLine)) (.ok (.str (reprText x))) | _=> .no
theorem BC(h:QD X e f):QD X (.FormattedValue e 114 none pos) (G0 f):=⟨by
 intro pins s σ H Q I ⟨Z,B,δ,d,E,hf,q⟩;obtain⟨d1,h1,h2⟩:=R.ag hf;refine wpAny_FormattedValue_repr (cO (h.1 pins s σ H (fun v H'=>aN H H'/\Rep X.K B H' d1 v) I ⟨Z,B,δ,d1,E,h1,fun v H' s1 r1=>⟨s1,r1⟩⟩) fun v s1 ⟨xv,H1,I1,r1,J5,e1⟩=>?_)
 split at h2
 .obtain⟨h3,h4⟩:=R.aO h2;cases h4;rw[Rep.str.mp e1] at r1;obtain⟨t,rfl⟩:=r1;have h3:=of_decide_eq_true h3;exact pyReprObj_str (formatField_str (fun t' tk=>⟨.str _,H1,I1.tok _,⟨_,rfl⟩,q _ H1 J5 (Rep.str.mpr rfl)⟩) h3) h3
 .cases h2⟩
end
end L2
end
section
namespace L3
open PySem PySem.Spec PyProof.Rows L2
section
variable {X:Cx} {cl:WL} {E:XK}
theorem vb:xA X cl E [] ee:=⟨fZ.imp fun σ H Q ⟨ρ,S,δ,En,z⟩=>by
 rcases z with⟨vs,S',hf,q⟩ | ⟨c,S',hf,q⟩
 .cases hf;exact q _ ρ H (Pre.refl ρ H) En.sw aE.nil
 .cases hf⟩
theorem jP(h:Gy X cl E e f)(t:xA X cl E es g)(hs:starEach (e ::es) X.env=(false,eval e X.env) ::starEach es X.env:=by rfl):xA X cl E (e ::es) (bE f g):=
 ⟨(de h.1 t.1 hs).imp fun σ H Q ⟨ρ,S,δ,En,z⟩=>by
   refine⟨ρ,S,δ,En,?_⟩;rcases z with⟨v,S',hf,q⟩ | ⟨c,S',hf,q⟩
   .obtain⟨v1,S1,h1,h2⟩:=R3.ag hf;obtain⟨vs,S2,h3,h4⟩:=R3.ag h2;cases h4;exact .inl ⟨v1,S1,h1,fun u bx H1 p1 w1 r1=>⟨bx,S1,δ,En.to p1 w1, .inl ⟨vs,_,h3,fun us ox H2 p2 w2 r2=>q _ ox H2 (p1.trans p2) w2 (aE.cons (r1.pre p2) r2)⟩⟩⟩
   .rcases R3.eS hf with h1 | ⟨v1,S1,h1,h2⟩
    .exact .inr ⟨c,S',h1,q⟩
    .rcases R3.eS h2 with h3 | ⟨vs,S2,h3,h4⟩
     .exact .inl ⟨v1,S1,h1,fun u bx H1 p1 w1 r1=>⟨bx,S1,δ,En.to p1 w1, .inr ⟨c,S',h3,q.pre p1⟩⟩⟩
     .cases h4⟩
theorem yK{x1 pos}(h:xA X cl E es g):Gy X cl E (.Tuple es x1 pos) (wR g):=⟨(uA h.1).imp fun σ H Q ⟨ρ,S,δ,En,z⟩=>by
 refine⟨ρ,S,δ,En,?_⟩;rcases z with⟨v,S',hf,q⟩ | ⟨c,S',hf,q⟩
 .obtain⟨vs,S1,h1,h2⟩:=R3.ag hf;obtain⟨hl,h3⟩:=R3.aO h2;cases h3;refine .inl ⟨vs,_,h1,fun us bx H1 p1 w1 r1=>⟨by rw[<-r1.length];exact of_decide_eq_true hl,fun p hp=>q _ bx _ (p1.trans (qb hp)) (w1.same (br hp)) ?_⟩⟩
  refine sO (.inl ⟨fun ha=>?_, .inl aX⟩) (r1.pre (qb hp))
  obtain⟨o,ho⟩:=w1.bs p ha;rw[hp] at ho;cases ho
 .rcases R3.eS hf with h1 | ⟨vs,S1,h1,h2⟩
  .exact .inr ⟨c,S',h1,q⟩
  .unfold R3.aS at h2;split at h2 <;> cases h2⟩
theorem u6{o e:Expr}{fo f:FX}{apos aZ pos:Pos}(ho:PX X cl o fo)(he:Gy X cl E e f)
 (hs:starEach [e] X.env=(false,eval e X.env) ::starEach [] X.env:=by rfl) (eO:(apos.endLine==aZ.line)=true:=by rfl)
 (jD:((backTo aZ (starEach [e] X.env)).all (fun x=>!x.1) && (backToKw aZ (keywordEach [] X.env)).all (fun x=>x.1.isSome)
   && decide (([e]:List Expr).length+([]:List Keyword).length+(if([]:List Keyword).isEmpty then 0 else 1) < 30))=true:=by rfl)
 (rH:swapsWith (.Call (.Attribute o "append" apos) [e] [] aZ) none pos.line X.env=pure false:=by rfl)
 (eP:attributeBase o "append" X.env (eval o X.env)=eval o X.env:=by rfl) :
 GP X cl E (.Expr (.Call (.Attribute o "append" apos) [e] [] aZ) pos) (kD (rP fo) f):=by
 refine⟨(nJ (wg (X:=X) PySem.F.plainAttrs_list PySem.F.slot_list_append PySem.F.type_list_append jX ho.1 (de he.1 fZ hs) eP jD eO hs) rH).imp fun D σ H ⟨ρ,S,δ,En,z⟩=>?_⟩
 have key:∃k S0 AL,fo δ S= .ok (.loc k) S0/\cq S0 k=some AL/\((∃v S1 ds,f δ S0= .ok (.d v) S1/\cq S1 k=some ds/\ds.length < sizeLine/\vc X.K cl ρ H D (S1.set k (.lst (ds++[v]))) (.nx δ))\/∃c S',f δ S0= .ex c S'/\yB X.K cl E ρ H S' c):=by
  rcases z with⟨oo,S',hf,q⟩ | ⟨c,S',hf,q⟩
  .unfold kD at hf;obtain⟨vo,S0,g1,g2⟩:=R3.ag hf;split at g2
   .rename_i k;split at g2
    .cases g2
    .rename_i AL h0;obtain⟨v,S1,h1,h2⟩:=R3.ag g2;split at h2
     .rename_i d;split at h2
      .rename_i ds h3;obtain⟨hl,h4⟩:=R3.aO h2;cases h4;exact⟨k,S0,AL,iU g1,h0, .inl ⟨d,S1,ds,h1,h3,of_decide_eq_true hl,q⟩⟩
      .cases h2
     .cases h2
   .cases g2
  .unfold kD at hf;rcases R3.eS hf with g1 | ⟨vo,S0,g1,g2⟩
   .exact(m3 g1).elim
   .split at g2
    .rename_i k;split at g2
     .cases g2
     .rename_i AL h0;rcases R3.eS g2 with h1 | ⟨v,S1,h1,h2⟩
      .exact⟨k,S0,AL,iU g1,h0, .inr ⟨c,S',h1,q⟩⟩
      .split at h2
       .split at h2
        .unfold R3.aS at h2;split at h2 <;> cases h2
        .cases h2
       .cases h2
    .cases g2
 obtain⟨k,S0,AL,g1,h0,z⟩:=key;refine⟨ρ,S,δ, .loc k,S0,En,g1,fun u PR H0 p0 w0 r0=>?_⟩
 unfold aT at r0;obtain⟨a,a1,rfl⟩:=r0;obtain⟨Mh,x0,_⟩:=w0.ob k a _ a1 (dA h0);refine⟨.inl ⟨rfl,Mh,lr.of x0⟩,⟨PR,S0,δ,En.to p0 w0,?_⟩⟩;rcases z with⟨d,S1,ds,h1,h3,hl,q⟩ | ⟨c,S',h1,q⟩
 .refine .inl ⟨.d d,S1,h1,fun y bx H1 p1 w1 r1=>?_⟩
  have b1:=p1.ext k a a1;obtain⟨xs,x1,x2⟩:=w1.ob k a _ b1 (dA h3);refine⟨a,xs,y,rfl,rfl,x1,by rw[<-x2.length];exact hl,?_⟩
  unfold aT at r1;obtain⟨w2,p2⟩:=w1.put (o:= .lst (ds++[d])) (u:= .lst (xs++[y])) b1 (w1.fz k a b1 (by rw[dA h3];intro h;cases h)) ⟨xs++[y],rfl,x2.append (aD.cons r1 aD.nil)⟩
  exact q σ bx _ (p0.trans (p1.trans p2)) (En.to (p0.trans (p1.trans p2)) w2)
 .exact .inr ⟨c,S',h1,q.pre p0⟩
section
variable {S:aP} {δ:DE} {Y:Nat->aP->Prop}
theorem qu{f:FX}{g:FA}{Q:List V3->aP->Prop}(h:WE (f δ S) (fun v S1=>WE (g δ S1) (fun vs S2=>Q (v ::vs) S2) Y) Y):WE (bE f g δ S) Q Y:=WE.bind (h.mono (fun v S1 q=>WE.bind (q.mono (fun vs S2 q=>WE.ok q) fun _ _ q=>q)) fun _ _ q=>q)
theorem Dq{Q:List V3->aP->Prop}(h:Q [] S):WE (ee δ S) Q Y:=WE.ok h
theorem GD{g:FA}{Q:V3->aP->Prop}(h:WE (g δ S) (fun vs S1=>vs.length<=sizeLine/\Q (u7 vs) S1) Y):WE (wR g δ S) Q Y:=WE.bind (h.mono (fun vs S1 ⟨hl,q⟩=>by
 unfold R3.aS;rw[decide_eq_true hl];exact WE.ok q) fun _ _ q=>q)
theorem Cv{fo f:FX}{k:Nat}{Q:Ou->aP->Prop}(h:W3 (fo δ S) fun o S0=>o= .loc k/\(∃ds,S0[k]? =some (.lst ds))/\WE (f δ S0) (fun v S1=>∃d ds,v= .d d/\S1[k]? =some (.lst ds)/\ds.length < sizeLine/\Q (.nx δ) (S1.set k (.lst (ds++[d])))) Y):WE (kD (rP fo) f δ S) Q Y:=by
 unfold kD;refine WE.bind (.inl (Bu (h.mono fun o S0 ⟨e,⟨AL,h0⟩,h⟩=>?_)))
 subst e;have e0:cq S0 k=some AL:=by unfold cq;rw [h0]
 simp only[e0];refine WE.bind (h.mono (fun v S1 ⟨d,ds,e1,e2,hl,q⟩=>?_) fun _ _ q=>q)
 subst e1;have e3:cq S1 k=some ds:=by unfold cq;rw [e2]
 simp only[e3];unfold R3.aS;rw[decide_eq_true hl];exact WE.ok q
end
end
end L3
end
section
namespace L3
open PySem PySem.Spec PyProof.Rows L2
section
variable {X:Cx} {cl:WL} {E:XK}
def S8(g:D->List D->R D)(fo:FX)(fs:FA):FX:=fun δ S=>(fo δ S).bind fun o S1=>match o with
 | .d (.str z)=>(fs δ S1).bind fun vs S2=>(match oz vs with | some ds=>(R3.of (g (.str z) ds) S2).bind fun d S=> .ok (.d d) S | none=> .no)
 | _=> .no
end
end L3
end
section
namespace L2
open PySem PySem.Spec PyProof.Rows Builtin Builtin.Str
section
variable {prog:Program} {w:World} {A:Around} {E:WG} {s:Shared} {x:Str} {t:Tok} {Q:WG}
theorem CI{y:Str}{u:Tok}(hy:(y.length==0)=false)
 (hq:∀l k,l.map (·.1)=Txt.split x y->Q (.ref s.heap.objs.size) {s with toks:=k,heap:=s.heap.push {cls:= .type "list",data:= .seq (strValues l).toArray}})
 (hsz:x.length<=sizeLine) (Py:(partsBetween x (occurrences x y 0 x.length (x.length+1)) y.length).length<=sizeLine) :
 wpAny (model prog w) A (call (.builtin "str.split") [.str x t, .str y u]) Q E s:=by
 cases h1:(decide (x.length < y.length) || decide (strKind x < strKind y))
 .cases hf:(occurrences x y 0 x.length (x.length+1)).isEmpty
  .refine call_meets F.slot_str_split (typeIs_str _ _ _) F.entry_str_split (F.args_str_split_2 _ _) (meets_str_split_sep x y t u h1 hy hf hsz Py) ?_;show wants Q E _ {s with toks:=_,heap:=s.heap.push {cls:= .type "list",data:= .seq (strsFrom s.toks (partsBetween x (occurrences x y 0 x.length (x.length+1)) y.length)).toArray}}
   rw[strsFrom_eq];exact hq (numbered s.toks _) _ ((numbered_texts _ _).trans ((if_neg (ne_true_of_eq_false h1)).trans (if_neg (ne_true_of_eq_false hf))).symm)
  .exact call_meets F.slot_str_split (typeIs_str _ _ _) F.entry_str_split (F.args_str_split_2 _ _) (meets_str_split_not_found x y t u h1 hy hf)
    (hq [(x,t)] s.toks ((if_neg (ne_true_of_eq_false h1)).trans (if_pos hf)).symm)
 .exact call_meets F.slot_str_split (typeIs_str _ _ _) F.entry_str_split (F.args_str_split_2 _ _) (meets_str_split_cannot_occur x y t u h1)
   (hq [(x,t)] s.toks (if_pos h1).symm)
def fT(x y:Str):List Str:=match occurrences x y 0 x.length 1 with
 | i ::_=>[strSub x 0 i,y,strSub x (i+y.length) x.length]
 | []=>[x,Str.empty,Str.empty]
theorem FN{y:Str}{u:Tok}(hy:(y.length==0)=false)
 (hq:∀l k,l.map (·.1)=fT x y->Q (.ref s.heap.objs.size) {s with toks:=k,heap:=s.heap.push {cls:= .type "tuple",data:= .seq (strValues l).toArray}}) (hsz:x.length<=sizeLine) :
 wpAny (model prog w) A (call (.builtin "str.partition") [.str x t, .str y u]) Q E s:=by
 refine call_meets F.slot_str_partition (typeIs_str _ _ _) F.entry_str_partition (F.args_str_partition_2 _ _) (meets_str_partition x y t u hy hsz) ?_;show wants Q E _ _;unfold fT at hq;split
 .rename_i i r e;rw[e] at hq;exact hq [(strSub x 0 i,_),(y,u),(strSub x (i+y.length) x.length,_)] _ rfl
 .rename_i e;rw[e] at hq;exact hq [(x,t),(Str.empty,_),(Str.empty,_)] _ rfl
end
section
variable {X:Cx}
def m7(d:D)(ds:List D):R D:=match d,ds with
 | .str x,[.str y]=>R.aS (decide ((y.length==0)=false/\x.length<=sizeLine/\(Txt.split x y).length<=sizeLine/\(partsBetween x (occurrences x y 0 x.length (x.length+1)) y.length).length<=sizeLine)) (.ok (.lst ((Txt.split x y).map .str)))
 | _,_=> .no
def va(d:D)(ds:List D):R D:=match d,ds with
 | .str x,[.str y]=>R.aS (decide ((y.length==0)=false/\x.length<=sizeLine)) (.ok (.tup ((fT x y).map .str)))
 | _,_=> .no
theorem oI:∀(l:List (Str × Tok)),Vals ((l.map (·.1)).map V.str) (strValues l)
 | []=> .nil
 | p ::l=> .cons ⟨p.2,rfl⟩ (oI l)
theorem m_split:Kg X "str.split" m7:=by
 intro pins s σ H B da d ds x xs v us I hb rx rxs ra rs hg;unfold m7 at hg;split at hg
 .rename_i z y;obtain⟨h1,h2⟩:=R.aO hg;obtain⟨hy,hz,hn,hp⟩:=of_decide_eq_true h1;cases h2;rw[Rep.str.mp ra] at rx;obtain⟨t,rfl⟩:=rx;obtain⟨q,rfl,r⟩:=rs.one;rw[Rep.str.mp r] at rxs;obtain⟨u,rfl,ru⟩:=vals1 rxs;obtain⟨tu,rfl⟩:=ru;refine CI hy (fun l k hl=>?_) hz hp
  have hf:H s.heap.objs.size=none:=I.hok.fresh (Nat.le_refl _);refine⟨.ref s.heap.objs.size,upd H s.heap.objs.size (.lst ((l.map (·.1)).map V.str)),I.laid (a:=s.heap.objs.size) (fun b o q=>Heap.get?_push_of_some _ q) (Nat.le_refl _) ⟨?_,strValues l,0,oI l,Heap.get?_push_size _ rfl⟩,rfl,br hf,?_⟩
  .rw [List.length_map,hl];exact hn
  .rw [hl];refine Rep.lst.mpr ⟨_,_,rfl, .inl ⟨fun ha=>?_, .inl aX⟩,n4 _⟩
   obtain⟨o,ho⟩:=hb _ ha;rw[hf] at ho;cases ho
 .cases hg
theorem IG:Kg X "str.partition" va:=by
 intro pins s σ H B da d ds x xs v us I hb rx rxs ra rs hg;unfold va at hg;split at hg
 .rename_i z y;obtain⟨h1,h2⟩:=R.aO hg;obtain⟨hy,hz⟩:=of_decide_eq_true h1;cases h2;rw[Rep.str.mp ra] at rx;obtain⟨t,rfl⟩:=rx;obtain⟨q,rfl,r⟩:=rs.one;rw[Rep.str.mp r] at rxs;obtain⟨u,rfl,ru⟩:=vals1 rxs;obtain⟨tu,rfl⟩:=ru;refine FN hy (fun l k hl=>?_) hz
  have hf:H s.heap.objs.size=none:=I.hok.fresh (Nat.le_refl _);refine⟨.ref s.heap.objs.size,upd H s.heap.objs.size (.tup ((l.map (·.1)).map V.str)),I.laid (a:=s.heap.objs.size) (fun b o q=>Heap.get?_push_of_some _ q) (Nat.le_refl _) ⟨?_,strValues l,oI l,_,Heap.get?_push_size _ rfl,rfl,0,rfl⟩,rfl,br hf,?_⟩
  .rw [List.length_map,hl];have:(fT z y).length=3:=by unfold fT;split <;> rfl
   rw[this];decide
  .rw [hl];refine Rep.tup.mpr ⟨_,_,rfl, .inl ⟨fun ha=>?_, .inl aX⟩,n4 _⟩
   obtain⟨o,ho⟩:=hb _ ha;rw[hf] at ho;cases ho
 .cases hg
theorem sT{o e:Expr}{f:FD}{fs:ak->R (List D)}{apos aZ:Pos}(ho:QD X o f)(ha:CV X [e] fs)(eP:attributeBase o "split" X.env (eval o X.env)=eval o X.env:=by rfl)(jD:((backTo aZ (starEach [e] X.env)).all (fun x=>!x.1) && (backToKw aZ (keywordEach [] X.env)).all (fun x=>x.1.isSome)
 && decide (([e]:List Expr).length+([]:List Keyword).length+(if([]:List Keyword).isEmpty then 0 else 1) < 30))=true:=by rfl) (eO:(apos.endLine==aZ.line)=true:=by rfl) (hs:starEach [e] X.env=(false,eval e X.env) ::starEach [] X.env:=by rfl):QD X (.Call (.Attribute o "split" apos) [e] [] aZ) (wL "str" m7 f fs):=⟨Bt F.plainAttrs_str F.slot_str_split F.type_str_split m_split ho.1 ha.1 (.inl rfl) eP jD eO hs⟩
theorem rQ{o e:Expr}{f:FD}{fs:ak->R (List D)}{apos aZ:Pos}(ho:QD X o f)(ha:CV X [e] fs)(eP:attributeBase o "partition" X.env (eval o X.env)=eval o X.env:=by rfl)(jD:((backTo aZ (starEach [e] X.env)).all (fun x=>!x.1) && (backToKw aZ (keywordEach [] X.env)).all (fun x=>x.1.isSome)
 && decide (([e]:List Expr).length+([]:List Keyword).length+(if([]:List Keyword).isEmpty then 0 else 1) < 30))=true:=by rfl) (eO:(apos.endLine==aZ.line)=true:=by rfl) (hs:starEach [e] X.env=(false,eval e X.env) ::starEach [] X.env:=by rfl):QD X (.Call (.Attribute o "partition" apos) [e] [] aZ) (wL "str" va f fs):=⟨Bt F.plainAttrs_str F.slot_str_partition F.type_str_partition IG ho.1 ha.1 (.inl rfl) eP jD eO hs⟩
end
end L2
end
section
set_option maxHeartbeats 4000000
namespace NT
def mx(f:Nat->Nat)(w:List Nat):Nat:=(w.map f).foldl max 0
structure BA (f:Nat->Nat) (M:Nat) (bs:List Int):Prop where
 a:∀(z:Nat) (v:Int),bs[z]? =some v->v= -1\/(0<=v/\v+f z<=M)
def BB(f:Nat->Nat)(M:Nat)(bs:List Int)(n:Nat):Prop:=∃(z:Nat) (v:Int),z < n/\bs[z]? =some v/\0<=v/\(M:Int)<=v+f z
def Up(bs RH:List Int):Prop:=RH.length=bs.length/\∀(z:Nat) (v:Int),bs[z]? =some v->∃v',RH[z]? =some v'/\v<=v'
end NT
namespace NT
open PySem PySem.Spec PyProof.Rows L2 L3
structure Gt where
 k:Str
 w:List Nat
 s:Bool
def nN(z:Nat):D:= .int z
def wN(w:List Nat):D:= .tup (w.map nN)
def gN(g:Gt):D:= .tup [.str g.k,wN g.w, .bl g.s]
def iN(x:Str × Nat):D:= .tup [.str x.1, .int x.2]
def oN(x:Str × List Nat):D:= .tup [.str x.1,wN x.2]
structure Net where
 i:WH
 g:List Gt
 o:WI
def Net.d(n:Net):D:= .tup [.lst (n.i.map iN), .lst (n.g.map gN), .lst (n.o.map oN)]
def Net.first(n:Net):Nat:=(n.i.map (·.2)).sum
structure Q_ (n:Nat) (w:List Nat):Prop where
 ne:w≠[]
 le:w.length<=3
 lt:∀z∈w,z < n
structure Net.Ok (n:Net):Prop where
 i1:1<=n.i.length
 i6:n.i.length<=6
 iw:∀x∈n.i,1<=x.2/\x.2<=3
 is:∀x∈n.i,g_ 0 (.str x.1)
 g60:n.g.length<=60
 gw:∀(p:Nat) (g:Gt),n.g[p]? =some g->Q_ (n.first+p) g.w
 gs:∀g∈n.g,g_ 0 (.str g.k)
 o1:1<=n.o.length
 o6:n.o.length<=6
 ow:∀x∈n.o,Q_ (n.first+n.g.length) x.2
 os:∀x∈n.o,g_ 0 (.str x.1)
theorem xS:∀{l:WH},(∀x∈l,1<=x.2/\x.2<=3)->l.length<=(l.map (·.2)).sum/\(l.map (·.2)).sum<=3*l.length
 | [],_=>by simp
 | x ::l,h=>by
   have ih:=xS (l:=l) fun y hy=>h y (List.mem_cons_of_mem _ hy)
   have:=h x List.mem_cons_self;rw[List.map_cons,List.sum_cons,List.length_cons];omega
inductive Sm:Nat->D->Prop where
 | int (n:Nat) (i:Int):Sm n (.int i)
 | bl (n:Nat) (b:Bool):Sm n (.bl b)
 | str (n:Nat) (s:Str):Sm n (.str s)
 | lst {n:Nat} {ds:List D} (h:∀d∈ds,Sm n d) (hl:ds.length<=1000000):Sm (n+1) (.lst ds)
 | tup {n:Nat} {ds:List D} (h:∀d∈ds,Sm n d) (hl:ds.length<=1000000):Sm (n+1) (.tup ds)
theorem mn{F G:FS}{δ:ak}{d:D}(h:F δ= .ok (.rt d)):bF F G δ= .ok (.rt d):=by unfold bF;rw [h];rfl
theorem xt{α:Type}{l:List α}{f:α->D}{i:Nat}{v:V3}(h:((l.map f).map V3.d)[i]? =some v):∃x,l[i]? =some x/\v= .d (f x):=by
 rw[List.getElem?_map,List.getElem?_map] at h;cases q:l[i]? with
 | none=>rw [q] at h;cases h
 | some x=>rw [q] at h;cases h;exact⟨x,rfl,rfl⟩
theorem ik{α:Type}{l:List α}{f:α->D}{i:Nat}{v:D}(h:(l.map f)[i]? =some v):∃x,l[i]? =some x/\v=f x:=by
 rw[List.getElem?_map] at h;cases q:l[i]? with
 | none=>rw [q] at h;cases h
 | some x=>rw [q] at h;cases h;exact⟨x,rfl,rfl⟩
theorem cH{α:Type}{t:FT}{c:ak->R Bool}{f:FD}{δ:ak}(a b:α->D):∀{xs:List α},(∀x∈xs,∃δ1,t (a x) δ= .ok δ1/\c δ1= .ok true/\f δ1= .ok (b x))->nL t c f δ (xs.map a)= .ok (xs.map b)
 | [],_=>rfl
 | x ::xs,h=>by
   obtain⟨δ1,h1,h2,h3⟩:=h x List.mem_cons_self;have ih:=cH (t:=t) (c:=c) (f:=f) (δ:=δ) a b (xs:=xs) fun y hy=>h y (List.mem_cons_of_mem _ hy)
   rw[List.map_cons];unfold nL;rw[h1,R.aH,h2,R.aH,if_pos rfl,h3,R.aH,ih];rfl
theorem kf{α:Type}{t:FT}{c:ak->R Bool}{f:FD}{δ:ak}(p:α->Bool)(a b:α->D):∀{xs:List α},(∀x∈xs,∃δ1,t (a x) δ= .ok δ1/\c δ1= .ok (p x)/\(p x=true->f δ1= .ok (b x)))->nL t c f δ (xs.map a)= .ok ((xs.filter p).map b)
 | [],_=>rfl
 | x ::xs,h=>by
   obtain⟨δ1,h1,h2,h3⟩:=h x List.mem_cons_self;have ih:=kf (t:=t) (c:=c) (f:=f) (δ:=δ) p a b (xs:=xs) fun y hy=>h y (List.mem_cons_of_mem _ hy)
   rw[List.map_cons];unfold nL;rw[h1,R.aH,h2,R.aH];cases e:p x with
   | true=>rw [if_pos rfl,h3 e,R.aH,ih,List.filter_cons,if_pos e];rfl
   | false=>rw [if_neg (by decide),ih,List.filter_cons,if_neg (by rw[e];decide)]
theorem Ff{n z:Nat}(h:z < n):CK n (z:Int)=some z:=by
 unfold CK;rw[if_pos (by omega),if_pos (by omega)]
 simp
theorem vU{α:Type}{xs:List α}{z:Nat}{x:α}(h:xs[z]? =some x):sI xs (z:Int)=some x:=by
 have hl:=(List.getElem?_eq_some_iff.mp h).1;unfold sI;rw[Ff hl];exact h
theorem cB{ds:List D}{z:Nat}{x:D}(h:ds[z]? =some x):df (.lst ds) (.int z)= .ok x:=HC (vU h)
theorem EV{ds:List D}{z:Nat}{x:D}(h:ds[z]? =some x):df (.tup ds) (.int z)= .ok x:=HQ (vU h)
end NT
end
section
namespace MT
open PySem PySem.Spec PyProof.Rows L2 L3
abbrev M:=Nat->Bool
theorem Oe{N:List Str}{F:FZ}{vs:List V3}{δ:DE}{S:aP}{QV:V3->aP->Prop}(e:dZ N vs=δ)(h:W3 (F δ S) fun o S1=>∃dC,o= .nx dC/\QV (.d .cz) S1):W3 (sL N F vs S) QV:=by
 subst e;exact W3.bind (h.mono fun _ _ ⟨_,e,q⟩=>by subst e;exact W3.ok q)
def Qz:Nat->M->Nat
 | 0,_=>0
 | N+1,f=>(if f 0 then 1 else 0)+2*Qz N (fun i=>f (i+1))
def mI(N:Nat)(f:M):D:= .int (Qz N f:Nat)
def one:M:=fun _=>true
def bI(b:Bool):D:= .int (if b then 1 else 0)
def TR:List Bool->Nat
 | []=>0
 | b ::bs=>(if b then 1 else 0)+2*TR bs
def nI(n:Nat):D:= .int (n:Int)
def kS:Nat->Str | 0=>"not" | 1=>"and" | 2=>"or" | 3=>"xor" | _=>"vote"
def ar:Nat->Nat | 0=>1 | 4=>3 | _=>2
theorem vQ(k:Nat):ar k<=3:=by unfold ar;split <;> omega
def gv:Nat->List Bool->Bool
 | 0,[a]=>!a
 | 1,[a,b]=>a && b
 | 2,[a,b]=>a || b
 | 3,[a,b]=>a !=b
 | 4,[a,b,c]=>(a && b) || (a && c) || (b && c)
 | _,_=>false
def Rn(ws:List M)(n:Nat):M:=ws.getD n fun _=>false
abbrev Gt:=Nat × List Nat × Bool
def iE(g:Gt):D:= .tup [.str (kS g.1), .tup (g.2.1.map nI), .bl g.2.2]
def FC(n:Nat)(g:Gt):Prop:=g.1<=4/\g.2.1.length=ar g.1/\∀w∈g.2.1,w < n
def inD(x:Str × Nat):D:= .tup [.str x.1,nI x.2]
def kU(x:Str × List Nat):D:= .tup [.str x.1, .tup (x.2.map nI)]
def dQ(ins:WH)(gs:List Gt)(os:WI):D:= .tup [.lst (ins.map inD), .lst (gs.map iE), .lst (os.map kU)]
def j9(ins:WH):Nat:=(ins.map (·.2)).sum
def gF(g:Gt)(ws:List M):M:=fun p=>gv g.1 (g.2.1.map fun n=>Rn ws n p)
def B0(bad:List Int)(b:M):Nat->List M->List M
 | 0,ws=>ws
 | n+1,ws=>B0 bad b n ws++[fun p=>b p !=bad.contains ((B0 bad b n ws).length:Int)]
def Ja(ins:WH)(bits:List M)(bad:List Int):Nat->List M
 | 0=>[]
 | i+1=>match ins[i]?,bits[i]? with | some x,some b=>B0 bad b x.2 (Ja ins bits bad i) | _,_=>Ja ins bits bad i
def MI(gs:List Gt)(turned:List Int)(w0:List M):Nat->List M
 | 0=>w0
 | i+1=>match gs[i]? with | some g=>MI gs turned w0 i++[fun p=>gF g (MI gs turned w0 i) p !=turned.contains (i:Int)] | none=>MI gs turned w0 i
structure QK (ins:WH) (gs:List Gt) (os:WI):Prop where
 hi:ins.length < 100
 hw:∀x∈ins,x.2 < 100
 hg:gs.length < 1000
 g:∀(i:Nat) (x:Gt),gs[i]? =some x->FC (j9 ins+i) x
 ho:os.length < 1000
 o:∀x∈os,x.2.length < 1000/\∀w∈x.2,w < j9 ins+gs.length
def Tt(ins:WH)(gs:List Gt)(bits:List M)(turned bad:List Int):List M:=MI gs turned (Ja ins bits bad ins.length) gs.length
def tell(ws:List M)(x:Str × List Nat):List M:=x.2.map (Rn ws)
def VY:List Bool->Bool × Bool
 | [a]=>(!a,a)
 | [a,b]=>(!(a || b),a && b)
 | [a,b,c]=>let v:=(a && b) || (a && c) || (b && c);(!v,v)
 | _=>(false,false)
def brk(safe:Bool)(x y:Bool × Bool):Bool:=if safe then(x.1 && y.2) || (x.2 && y.1) else(x.1 !=y.1) || (x.2 !=y.2)
def TJ:List Nat->Nat->WJ
 | _,0=>[[]]
 | ps,s+1=>(List.range ps.length).flatMap fun a=>(TJ (ps.drop (a+1)) s).map (ps.getD a 0 ::·)
theorem ua:∀{l:List Nat} {m:Nat},(∀x∈l,x<=m)->l.sum<=l.length*m
 | [],_,_=>by simp
 | x ::l,m,h=>by
   have:=ua (l:=l) (m:=m) fun y hy=>h y (List.mem_cons_of_mem _ hy)
   have h0:=h x List.mem_cons_self;rw[List.sum_cons,List.length_cons,Nat.add_mul];omega
end MT
end
section
set_option maxHeartbeats 1000000
namespace JT
open PySem PySem.Spec PyProof.Rows L2 L3 MT
def gB(g:Gt)(ws:List Bool):Bool:=gv g.1 (g.2.1.map fun n=>ws.getD n false)
def t9:List Gt->(Nat->Bool)->List Bool->List Bool
 | [],_,ws=>ws
 | g ::gs,T,ws=>t9 gs (fun i=>T (i+1)) (ws++[gB g ws !=T 0])
def K1(f:Nat->Nat)(g:Gt):Gt:=(g.1,g.2.1.map f,g.2.2)
def SA(f:Nat->Nat)(x:Str × List Nat):Str × List Nat:=(x.1,x.2.map f)
def Sh(f:Nat->Nat)(v ws:List Bool):Prop:=∀w,w < v.length->f w < ws.length/\ws.getD (f w) false=v.getD w false
def Wf(p:Nat)(ws:List M):List Bool:=ws.map (· p)
def FQ:List (Str × Nat)->List Bool->List Bool
 | x ::ins,b ::bits=>List.replicate x.2 b++FQ ins bits
 | _,_=>[]
def Bo(k:Nat)(bad:Nat->Bool):List Bool->List Bool
 | []=>[]
 | b ::bs=>(b !=bad k) ::Bo (k+1) bad bs
def N2(ins:WH)(gs:List Gt)(bits:List Bool)(T bad:Nat->Bool):List Bool:=t9 gs T (Bo 0 bad (FQ ins bits))
end JT
end
section
namespace JT
open PySem PySem.Spec PyProof.Rows L2 L3 MT
def vj(ws:List Bool)(ns:List Nat):List Bool:=ns.map fun n=>ws.getD n false
def Bn(f:Nat->List Bool):List (Option Nat × Nat)->List Bool->List Bool
 | [],_=>[]
 | (some o,_) ::r,l=>f o++Bn f r l
 | (none,w) ::r,l=>l.take w++Bn f r (l.drop w)
def Ga(f1:Nat->Nat)(os:Nat->List Nat):List (Option Nat × Nat)->Nat->List Nat
 | [],_=>[]
 | (some o,_) ::r,free=>(os o).map f1++Ga f1 os r free
 | (none,w) ::r,free=>List.range' free w++Ga f1 os r (free+w)
def rq:List (Option Nat × Nat)->Nat
 | []=>0
 | (some _,_) ::r=>rq r
 | (none,w) ::r=>w+rq r
def M6(n1 l w:Nat):Nat:=if w < n1 then w else w+l
def Rg(L:List Nat)(top w:Nat):Nat:=if w < L.length then L.getD w 0 else top+(w - L.length)
section
variable {gs1 Km:List Gt} {φ:List (Option Nat × Nat)} {os:Nat->List Nat} {n1:Nat} {r1 rl:List Bool} {T:Nat->Bool}
def gJ(gs1 Km:List Gt)(φ:List (Option Nat × Nat))(os:Nat->List Nat)(n1:Nat):List Gt:=
 gs1.map (K1 (M6 n1 (rq φ)))++Km.map (K1 (Rg (Ga (M6 n1 (rq φ)) os φ n1) (n1+rq φ+gs1.length)))
end
def Ki(bits:List Bool):List Bool:=bits.flatMap (List.replicate 3)
def Qu:List Bool->Bool
 | [a,b,c]=>(a && b) || (a && c) || (b && c)
 | _=>false
def QI:List Bool->Bool
 | [a,b,c]=>(a !=b) || (a !=c)
 | _=>false
def S5(xs ys:List Bool):List Bool:=List.zipWith (· !=·) xs ys
def lst(xs ys:List Bool):Bool:=Qu (S5 xs ys)
def Lv:List Bool->List Bool->Prop
 | [],r=>r=[]
 | b ::bs,r=>∃x y z r',r=x ::y ::z ::r'/\Qu [b !=x,b !=y,b !=z]=false/\Lv bs r'
def no:Nat->Bool:=fun _=>false
structure S9 (c:Nat) (gs:List Gt) (os:WI):Prop where
 a:∀bits:List Bool,bits.length=c->∀x∈os,QI (vj (t9 gs no (Ki bits)) x.2)=false
 b:∀bits:List Bool,bits.length=c->∀i g,gs[i]? =some g->g.2.2=false->∀x∈os,lst (vj (t9 gs no (Ki bits)) x.2) (vj (t9 gs (fun j=>j==i) (Ki bits)) x.2)=false
 c:∀bits row:List Bool,bits.length=c->Lv bits row->∀x∈os,lst (vj (t9 gs no (Ki bits)) x.2) (vj (t9 gs no row) x.2)=false
def zx(v:Nat->Bool):List (Option Nat × Nat)->List Bool->List Bool
 | [],_=>[]
 | (some o,_) ::r,l=>v o ::zx v r l
 | (none,_) ::r,l=>l.headD false ::zx v r l.tail
def many:List (Option Nat × Nat)->Nat
 | []=>0
 | (some _,_) ::r=>many r
 | (none,_) ::r=>many r+1
end JT
end
section
namespace JT
open PySem PySem.Spec PyProof.Rows L2 L3 MT
structure Wj (c1:Nat) (gs1 Km:List Gt) (Ma MP:WI) (φ:List (Option Nat × Nat)) (os:Nat->List Nat):Prop where
 h3:∀x∈φ,x.2=3
 g1:∀i g,gs1[i]? =some g->∀w∈g.2.1,w < 3*c1+i
 g2:∀i g,Km[i]? =some g->∀w∈g.2.1,w < 3*φ.length+i
 o1:∀x∈Ma,x.2.length=3/\∀n∈x.2,n < 3*c1+gs1.length
 o2:∀x∈MP,x.2.length=3/\∀n∈x.2,n < 3*φ.length+Km.length
 ho:∀o w,(some o,w)∈φ->∃x∈Ma,x.2=os o
section
variable {c1:Nat} {gs1 Km:List Gt} {Ma MP RK:WI} {φ:List (Option Nat × Nat)} {os:Nat->List Nat}
abbrev Qs(c1:Nat)(φ:List (Option Nat × Nat)):Nat->Nat:=M6 (3*c1) (rq φ)
abbrev S_(c1:Nat)(gs1:List Gt)(φ:List (Option Nat × Nat))(os:Nat->List Nat):Nat->Nat:=Rg (Ga (Qs c1 φ) os φ (3*c1)) (3*c1+rq φ+gs1.length)
def Qp(c1:Nat)(gs1:List Gt)(Ma MP RK:WI)(φ:List (Option Nat × Nat))(os:Nat->List Nat):Prop:=
 ∀x∈RK,(∃y∈Ma,x.2=y.2.map (Qs c1 φ))\/∃y∈MP,x.2=y.2.map (S_ c1 gs1 φ os)
end
end JT
end
section
namespace JT
open PySem PySem.Spec PyProof.Rows L2 L3 MT
def Dh:Nat->List (List Bool)
 | 0=>[[]]
 | c+1=>(Dh c).flatMap fun b=>[b++[false],b++[true]]
def Sr(c j:Nat):M:=fun p=>((Dh c).getD p []).getD j false
def Tu(c:Nat):List M:=(List.range c).map (Sr c)
def G4(c p:Nat):List Bool:=(Dh c).getD p []
def QL(f e:Nat):Nat->WJ
 | 0=>[[]]
 | m+1=>(List.range' f (e - f)).flatMap fun w=>(QL ((w / 3+1)*3) e m).map (w ::·)
def Tw(f e:Nat):List Nat->Prop
 | []=>True
 | w ::B=>f<=w/\w < e/\Tw ((w / 3+1)*3) e B
def Ni(c:Nat)(gs:List Gt):List (List Nat × List Nat):=
 (gs.zipIdx.filter (fun x=>!x.1.2.2)).map (fun x=>(([]:List Nat),[x.2]))++(List.range' 1 c).flatMap fun m=>(QL 0 (3*c) m).map fun B=>(B,([]:List Nat))
def Bj(c:Nat)(gs:List Gt)(p:Nat):List Bool:=t9 gs no (Ki (G4 c p))
def Hw(c:Nat)(gs:List Gt)(f:List Nat × List Nat)(p:Nat):List Bool:=t9 gs (fun i=>f.2.contains i) (Bo 0 (fun n=>f.1.contains n) (Ki (G4 c p)))
def NQ(c:Nat)(gs:List Gt)(os:WI)(p:Nat):Bool:=os.any fun x=>QI (vj (Bj c gs p) x.2)
def KW(c:Nat)(gs:List Gt)(os:WI)(f:List Nat × List Nat)(p:Nat):Bool:=os.any fun x=>lst (vj (Bj c gs p) x.2) (vj (Hw c gs f p) x.2)
def N6(c:Nat)(gs:List Gt)(os:WI):Option (List Nat × List Nat × Nat):=
 match (List.range (2 ^ c)).find? (NQ c gs os) with
 | some p=>some ([],[],p)
 | none=>(Ni c gs).findSome? fun f=>((List.range (2 ^ c)).find? (KW c gs os f)).map fun p=>(f.1,f.2,p)
end JT
end
section
namespace JT
open PySem PySem.Spec PyProof.Rows L2 L3 MT
theorem fK{a b:Nat}(h:0 < b):dG (nI a) (nI b)= .ok (nI (a % b)):=by
 show dG (.int a) (.int b)=_;rw[qw (by omega)];rfl
theorem nU{a b:Nat}(h:0 < b)(h2:b < 1073741824):dH (nI a) (nI b)= .ok (nI (a / b)):=by
 show dH (.int a) (.int b)=_;rw[yW (by omega) (by omega)];rfl
theorem k8(a b:Nat):cN (nI a) (nI b)= .ok (nI (a+b)):=rfl
theorem Ce{a b:Nat}(h:b<=a):zU (nI a) (nI b)= .ok (nI (a - b)):=by
 show R.ok (D.int ((a:Int) - b))=R.ok (D.int ((a - b:Nat):Int));rw[Int.ofNat_sub h]
theorem Kx{a b:Nat}(h:b < 1000000\/a < 1000000):mw (nI a) (nI b)= .ok (nI (a*b)):=by
 show R.aS (decide _) (R.ok (D.int ((a:Int)*b)))=_;have hc:(-(2 ^ 64) < (a:Int)/\(a:Int) < 2 ^ 64)\/(-(2 ^ 64) < (b:Int)/\(b:Int) < 2 ^ 64):=by
  rcases h with h | h
  .exact .inr ⟨by omega,by omega⟩
  .exact .inl ⟨by omega,by omega⟩
 rw[bK _ hc];rfl
theorem wX(a b:Nat):pF (nI a) (nI b)= .ok (.bl (decide (a=b))):=by
 show R.ok (D.bl ((a:Int)==(b:Int)))=_;congr 2;by_cases h:a=b
 .rw [decide_eq_true h];exact beq_iff_eq.mpr (by omega)
 .rw [decide_eq_false h];exact beq_eq_false_iff_ne.mpr (by omega)
theorem K7(a b:Nat):yN (nI a) (nI b)= .ok (.bl (!decide (a=b))):=by
 show R.ok (D.bl (!((a:Int)==(b:Int))))=_;congr 3;by_cases h:a=b
 .rw [decide_eq_true h];exact beq_iff_eq.mpr (by omega)
 .rw [decide_eq_false h];exact beq_eq_false_iff_ne.mpr (by omega)
theorem Dg(a b:Nat):Io (nI a) (nI b)= .ok (.bl (decide (b < a))):=by
 show R.ok (D.bl (decide ((a:Int) > (b:Int))))=_;congr 2;by_cases h:b < a
 .rw [decide_eq_true h,decide_eq_true (by omega)]
 .rw [decide_eq_false h,decide_eq_false (by omega)]
theorem BK(a b:Nat):Kl (nI a) (nI b)= .ok (.bl (decide (a < b))):=by
 show R.ok (D.bl (decide ((a:Int) < (b:Int))))=_;congr 2;by_cases h:a < b
 .rw [decide_eq_true h,decide_eq_true (by omega)]
 .rw [decide_eq_false h,decide_eq_false (by omega)]
theorem IU(a b:Nat):Hn (nI a) (nI b)= .ok (.bl (decide (b<=a))):=by
 show R.ok (D.bl (decide ((a:Int)>=(b:Int))))=_;congr 2;by_cases h:b<=a
 .rw [decide_eq_true h,decide_eq_true (by omega)]
 .rw [decide_eq_false h,decide_eq_false (by omega)]
theorem NM(a b:Nat):NA (nI a) (nI b)= .ok (.bl (decide (a<=b))):=by
 show R.ok (D.bl (decide ((a:Int)<=(b:Int))))=_;congr 2;by_cases h:a<=b
 .rw [decide_eq_true h,decide_eq_true (by omega)]
 .rw [decide_eq_false h,decide_eq_false (by omega)]
theorem Lx{a b:Nat}:yw [nI a,nI b]= .ok (nI (min a b)):=by
 show A8 [.int a, .int b]=_;unfold A8;show R.ok (D.int (if(b:Int) < a then b else a))=_
 unfold nI;congr 2;split <;> omega
theorem fW{ds:List D}:fN [.lst ds]= .ok (nI ds.length):=rfl
theorem n6{f:FD}{δ:ak}{n:Nat}(h:f δ= .ok (nI n))(hn:n < 1000000):d8 f δ= .ok ((List.range n).map nI):=by
 rw[F9 h hn];unfold pQ;congr 1;refine List.map_congr_left fun i _=>?_
 show D.int (0+(i:Int))=D.int (i:Int);rw[Int.zero_add]
def V6(T:List Nat):D:= .tup (T.map nI)
def Wi(r:Nat):Nat:=[1,2,3,4,0].getD (r % 5) 0
theorem LC{f:FD}{δ:ak}{k:Nat}(hk:k<=4)(h:f δ= .ok (.str (kS k))):Dp [((Sum.inr "not":Key),V.int 1),((Sum.inr "vote":Key),V.int 3)] f (eC (.int 2)) δ= .ok (nI (ar k)):=by
 unfold Dp;rw[h,R.aH]
 match k,hk with
 | 0,_=>rfl
 | 1,_=>rfl
 | 2,_=>rfl
 | 3,_=>rfl
 | 4,_=>rfl
end JT
end
section
namespace JT
open PySem PySem.Spec PyProof.Rows L2 L3 MT
end JT
end
section
namespace TX
open PySem PySem.Spec PyProof.Rows L2 Builtin Builtin.Str
abbrev SP:Str:=Str.ofString " "
abbrev NL:Str:=Str.ofString "\n"
abbrev CO:Str:=Str.ofString ":"
theorem CS:SP=⟨#[32]⟩:=by decide+kernel
theorem uY:NL=⟨#[10]⟩:=by decide+kernel
theorem sk:CO=⟨#[58]⟩:=by decide+kernel
def jn(c:Nat):List (List Nat)->List Nat
 | []=>[]
 | [x]=>x
 | x ::y ::r=>x++c ::jn c (y ::r)
theorem jT(c:Nat):∀l:List Str,(Str.join ⟨#[c]⟩ l).cps.toList=jn c (l.map fun s=>s.cps.toList)
 | []=>rfl
 | [x]=>rfl
 | x ::y ::r=>by
   show(x++(⟨#[c]⟩:Str)++Str.join ⟨#[c]⟩ (y ::r)).cps.toList=_;rw[c0,c0,jT c (y ::r),List.append_assoc];rfl
theorem yT{c:Nat}:∀{x x' a b:List Nat},c ∉ x->c ∉ x'->x++c ::a=x'++c ::b->x=x'/\a=b
 | [],[],a,b,_,_,h=>by cases h;exact⟨rfl,rfl⟩
 | [],y ::ys,a,b,_,h2,h=>by
   have:c=y:=(List.cons.inj h).1;exact absurd (by rw[this];exact List.mem_cons_self) h2
 | y ::ys,[],a,b,h1,_,h=>by
   have:y=c:=(List.cons.inj h).1;exact absurd (by rw[this];exact List.mem_cons_self) h1
 | y ::ys,z ::zs,a,b,h1,h2,h=>by
   obtain⟨e1,e2⟩:=List.cons.inj h;obtain⟨e3,e4⟩:=yT (fun q=>h1 (List.mem_cons_of_mem _ q)) (fun q=>h2 (List.mem_cons_of_mem _ q)) e2
   exact⟨by rw[e1,e3],e4⟩
theorem Dc{c:Nat}:∀{l l':WJ},l≠[]->l'≠[]->(∀x∈l,c ∉ x)->(∀x∈l',c ∉ x)->jn c l=jn c l'->l=l'
 | [],_,h,_,_,_,_=>absurd rfl h
 | _,[],_,h,_,_,_=>absurd rfl h
 | [x],[y],_,_,_,_,e=>by rw[show x=y from e]
 | [x],y ::z ::r,_,_,h1,_,e=>by
   have e:x=y++c ::jn c (z ::r):=e;exact absurd (by rw[e];simp) (h1 x List.mem_cons_self)
 | y ::z ::r,[x],_,_,_,h2,e=>by
   have e:y++c ::jn c (z ::r)=x:=e;exact absurd (by rw[<-e];simp) (h2 x List.mem_cons_self)
 | x ::x2 ::r,y ::y2 ::s,_,_,h1,h2,e=>by
   obtain⟨e1,e2⟩:=yT (h1 x List.mem_cons_self) (h2 y List.mem_cons_self) (show x++c ::jn c (x2 ::r)=y++c ::jn c (y2 ::s) from e)
   rw[e1,Dc (by simp) (by simp) (fun z hz=>h1 z (List.mem_cons_of_mem _ hz)) (fun z hz=>h2 z (List.mem_cons_of_mem _ hz)) e2]
theorem map_inj{α β:Type}{f:α->β}(hf:∀a b,f a=f b->a=b):∀{l l':List α},l.map f=l'.map f->l=l'
 | [],[],_=>rfl
 | [],_ ::_,h=>by cases h
 | _ ::_,[],h=>by cases h
 | a ::l,b ::l',h=>by
   obtain⟨e1,e2⟩:=List.cons.inj h;rw[hf a b e1,map_inj hf e2]
theorem qM{c:Nat}{l:List Str}(qh:l≠[])(hf:∀p∈l,c ∉ p.cps.toList):Txt.split (Str.join ⟨#[c]⟩ l) ⟨#[c]⟩=l:=by
 have h1:=StrLaws.join_split (Str.join ⟨#[c]⟩ l) ⟨#[c]⟩;have h2:=StrLaws.split_free (Str.join ⟨#[c]⟩ l) c;have h3:=split_pos (Str.join ⟨#[c]⟩ l) ⟨#[c]⟩;generalize Txt.split (Str.join ⟨#[c]⟩ l) ⟨#[c]⟩=m at h1 h2 h3;have h4:jn c (m.map fun s=>s.cps.toList)=jn c (l.map fun s=>s.cps.toList):=by rw[<-jT,<-jT,h1]
 refine map_inj (f:=fun s:Str=>s.cps.toList) (fun a b e=>iq e) (Dc (c:=c) ?_ ?_ ?_ ?_ h4)
 .intro q;rw [List.map_eq_nil_iff] at q;rw [q] at h3;simp at h3
 .intro q;rw [List.map_eq_nil_iff] at q;exact qh q
 .intro x hx;obtain⟨s,hs,rfl⟩:=List.mem_map.mp hx;exact h2 s hs
 .intro x hx;obtain⟨s,hs,rfl⟩:=List.mem_map.mp hx;exact hf s hs
theorem vV{x:Str}{c:Nat}(h:x.length<=10000000):m7 (.str x) [.str ⟨#[c]⟩]= .ok (.lst ((Txt.split x ⟨#[c]⟩).map .str)):=by
 have hz:sizeLine=16777216:=sizeLine_eq;have h1:=split_le x ⟨#[c]⟩;have h2:=StrLaws.occ_length_le x ⟨#[c]⟩ 0 x.length (x.length+1);unfold m7;refine bK _ ⟨rfl,by omega,by omega,?_⟩
 unfold partsBetween;rw[List.length_map,List.length_zip];simp;omega
abbrev oS:List Str:=[Str.ofString "in",Str.ofString "gate",Str.ofString "sure",Str.ofString "out",Str.ofString "not",Str.ofString "and",Str.ofString "or",Str.ofString "xor",Str.ofString "vote"]
def low(s:Str):Bool:=s.cps.toList.all fun c=>decide (97<=c/\c<=122)
def isNm(s:Str):Bool:=decide (1<=s.length) && (decide (s.length<=8) && (!oS.contains s && low s))
theorem dE{s:Str}:isNm s=true↔1<=s.length/\s.length<=8/\s ∉ oS/\∀c∈s.cps.toList,97<=c/\c<=122:=by
 unfold isNm low;simp only[Bool.and_eq_true,decide_eq_true_eq,Bool.not_eq_true',List.all_eq_true];constructor
 .rintro⟨h1,h2,h3,h4⟩;refine⟨h1,h2,fun q=>?_,h4⟩
  have h5:=List.contains_iff_mem.mpr q;rw[h3] at h5;cases h5
 .rintro⟨h1,h2,h3,h4⟩;refine⟨h1,h2,?_,h4⟩;cases h:oS.contains s with
  | false=>rfl
  | true=>exact absurd (List.contains_iff_mem.mp h) h3
abbrev xp:Str:=Str.ofString "abcdefghijklmnopqrstuvwxyz"
theorem sd:xp.cps.toList=(List.range 26).map (97+·):=by decide+kernel
theorem zl{c:Nat}:c∈xp.cps.toList↔97<=c/\c<=122:=by
 rw[sd,List.mem_map];constructor
 .rintro⟨i,hi,rfl⟩;have:=List.mem_range.mp hi;omega
 .intro h;exact⟨c - 97,List.mem_range.mpr (by omega),by omega⟩
theorem IQ(c:Nat):yt (.str ⟨#[c]⟩) (.str xp)= .ok (.bl (decide (97<=c/\c<=122))):=by
 show R.ok (D.bl (!(occurrences xp ⟨#[c]⟩ 0 xp.length 1).isEmpty))=_;rw[StrLaws.found_one];congr 2;by_cases h:97<=c/\c<=122
 .rw [decide_eq_true h,decide_eq_true (zl.mpr h)]
 .rw [decide_eq_false h,decide_eq_false fun q=>h (zl.mp q)]
theorem sH{x:Str}{c:Nat}(h:c ∉ x.cps.toList):fT x ⟨#[c]⟩=[x,Str.empty,Str.empty]:=by
 have h1:=StrLaws.found_one x c;rw[decide_eq_false h] at h1;unfold fT;cases ho:occurrences x ⟨#[c]⟩ 0 x.length 1 with
 | nil=>rfl
 | cons i r=>rw [ho] at h1;cases h1
theorem sx{x a b:Str}{c:Nat}(h:c ∉ a.cps.toList)(e:x=a++⟨#[c]⟩++b):fT x ⟨#[c]⟩=[a,⟨#[c]⟩,b]:=by
 have uM:x.cps.toList=a.cps.toList++c ::b.cps.toList:=by rw[e,c0,c0,List.append_assoc];rfl
 have hL:x.length=a.length+(b.length+1):=by
  show x.cps.size=a.cps.size+(b.cps.size+1);rw[<-Array.length_toList,<-Array.length_toList,<-Array.length_toList,uM];simp
 have hat:∀i,StrLaws.At x ⟨#[c]⟩ x.length i↔x.cps.toList[i]? =some c:=fun i=>StrLaws.subAt_one x c i
 unfold fT;have ha:x.cps.toList[a.length]? =some c:=by
  rw[uM,List.getElem?_append_right (by show a.cps.toList.length<=a.cps.size;simp)]
  show(c ::b.cps.toList)[a.cps.size - a.cps.toList.length]? =_;simp
 rcases StrLaws.occ_head x ⟨#[c]⟩ 1 (Nat.le_refl _) with⟨_,h1⟩ | ⟨i,r,e1,h1,h2⟩
 .exact absurd ((hat _).mpr ha) (h1 _)
 .have hi:i=a.length:=by
   have h3:¬a.length < i:=fun q=>h2 _ q ((hat _).mpr ha)
   by_cases q:i < a.length
   .have h4:=(hat i).mp h1;rw[uM,List.getElem?_append_left (by show i < a.cps.toList.length;rw [Array.length_toList];exact q)] at h4
    exact absurd (List.mem_of_getElem? h4) h
   .omega
  rw[e1,hi];have s1:strSub x 0 a.length=a:=iq (by
   show(x.cps.extract 0 a.length).toList=_;rw[Array.toList_extract,uM];show(List.take (a.cps.size - 0) (List.drop 0 (a.cps.toList++_)))=_;simp)
  have s2:strSub x (a.length+(⟨#[c]⟩:Str).length) x.length=b:=iq (by
   show(x.cps.extract (a.length+1) x.length).toList=_;rw[Array.toList_extract,uM,hL];show(List.take (a.cps.size+(b.cps.size+1) - (a.cps.size+1)) (List.drop (a.cps.size+1) (a.cps.toList++c ::b.cps.toList)))=_;rw[show a.cps.size+1=(a.cps.toList++[c]).length by simp,show a.cps.toList++c ::b.cps.toList=(a.cps.toList++[c])++b.cps.toList by simp,List.drop_left,List.take_of_length_le (by simp;omega)])
  simp only;rw[s1,s2]
abbrev Aq:List Str:=[Str.ofString "0",Str.ofString "1",Str.ofString "2",Str.ofString "3",Str.ofString "4",Str.ofString "5",Str.ofString "6",Str.ofString "7",Str.ofString "8",Str.ofString "9"]
def kR(w:Str):Bool:=isNm ((fT w CO).getD 0 Str.empty) && (((fT w CO).getD 1 Str.empty==Str.empty) || Aq.contains ((fT w CO).getD 2 Str.empty))
theorem zu{s:Str}(h:isNm s=true){c:Nat}(hc:c < 97\/122 < c):c ∉ s.cps.toList:=fun q=>by
 have:=(dE.mp h).2.2.2 c q;omega
theorem GK(h:isNm s=true):kR s=true:=by
 unfold kR;rw[sk,sH (zu h (by omega))]
 show(isNm s && (Str.empty==Str.empty || _))=true
 rw[h];rfl
theorem JO{s f:Str}(h:isNm s=true)(hf:f∈Aq):kR (s++CO++f)=true:=by
 unfold kR;rw[show fT (s++CO++f) CO=[s,CO,f] by rw[sk];exact sx (zu h (by omega)) rfl]
 show(isNm s && (_ || Aq.contains f))=true
 rw[h,List.contains_iff_mem.mpr hf,Bool.or_true];rfl
theorem Co(w c:Str):∃a b d,fT w c=[a,b,d]:=by
 unfold fT;split
 .exact⟨_,_,_,rfl⟩
 .exact⟨_,_,_,rfl⟩
abbrev DP:List (Str × Int):=[(Str.ofString "1",1),(Str.ofString "2",2),(Str.ofString "3",3)]
abbrev yd:List (Str × Int):=[(Str.ofString "not",1),(Str.ofString "and",2),(Str.ofString "or",2),(Str.ofString "xor",2),(Str.ofString "vote",3)]
def wd(ws:List Str)(i:Nat):Str:=ws.getD i Str.empty
def B5(ws:List Str):Bool:=decide (ws.length=3) && ((wd ws 0==Str.ofString "in") && (isNm (wd ws 1) && (DP.lookup (wd ws 2)).isSome))
def A1(ws:List Str):Bool:=(decide (4<=ws.length) && [Str.ofString "gate",Str.ofString "sure"].contains (wd ws 0)) && ((isNm (wd ws 1) && (yd.lookup (wd ws 2)).isSome) && (decide (((ws.drop 3).length:Int)=(yd.lookup (wd ws 2)).getD 0) && (ws.drop 3).all kR))
def Gw(ws:List Str):Bool:=(decide (3<=ws.length) && ((wd ws 0==Str.ofString "out") && isNm (wd ws 1))) && (decide ((ws.drop 2).length<=3) && (ws.drop 2).all kR)
section
variable {f g:FD} {p q:ak->R Bool} {δ:ak} {a b:Bool}
theorem lN(h:p δ= .ok a)(h2:a=false->q δ= .ok b):ya p q δ= .ok (a || b):=by
 unfold ya;rw [h,R.aH];cases a with
 | true=>rfl
 | false=>rw [if_neg (by decide)];exact h2 rfl
theorem tK(h:p δ= .ok a)(h2:a=true->q δ= .ok b):rR p q δ= .ok (a && b):=by
 unfold rR;rw [h,R.aH];cases a with
 | true=>rw [if_pos rfl];exact h2 rfl
 | false=>rfl
theorem mm(h:f δ= .ok (.bl a))(h2:a=true->g δ= .ok (.bl b)):pM f g δ= .ok (.bl (a && b)):=by
 unfold pM;rw [BY h,R.aH];cases a with
 | true=>rw [if_pos rfl];exact h2 rfl
 | false=>rfl
theorem Ig(h:f δ= .ok (.bl a))(h2:a=false->g δ= .ok (.bl b)):Kv f g δ= .ok (.bl (a || b)):=by
 unfold Kv;rw [BY h,R.aH];cases a with
 | true=>rfl
 | false=>rw [if_neg (by decide)];exact h2 rfl
theorem pW(h:p δ= .ok a):rW p δ= .ok (!a):=by unfold rW;rw [h];rfl
theorem kc(h:f δ= .ok (.bl a)):nE f δ= .ok a:=by unfold nE;rw [h];rfl
theorem zd{c:ak->R Bool}{G:FS}(h:c δ= .ok a)(h2:a=false->G δ= .ok (.rt (.bl b))):bF (q8 c (eK (eC (.bl false))) ku) G δ= .ok (.rt (.bl (!a && b))):=by
 cases a with
 | true=>exact NT.mn (mO h rfl)
 | false=>exact az (kI h rfl) (h2 rfl)
theorem sP{ws:List Str}{i:Nat}(h:i < ws.length):df (.lst (ws.map .str)) (.int i)= .ok (.str (wd ws i)):=by
 refine NT.cB ?_;rw[List.getElem?_map,List.getElem?_eq_getElem h];unfold wd;rw[List.getD_eq_getElem?_getD,List.getElem?_eq_getElem h];rfl
theorem uI(x y:Str):pF (.str x) (.str y)= .ok (.bl (x==y)):=rfl
theorem Iv(x y:Str):yN (.str x) (.str y)= .ok (.bl (!(x==y))):=rfl
theorem Bx(x:Str)(ss:List Str):yt (.str x) (.tup (ss.map .str))= .ok (.bl (ss.contains x)):=by
 show((match strs? (ss.map D.str) with | some ss=>R.ok (ss.contains x) | none=> .no).bind _)=_
 rw[L2.strs_map];rfl
theorem x9(x:Str)(ss:List Str):yt (.str x) (.lst (ss.map .str))= .ok (.bl (ss.contains x)):=by
 show((match strs? (ss.map D.str) with | some ss=>R.ok (ss.contains x) | none=> .no).bind _)=_
 rw[L2.strs_map];rfl
theorem JP(x:Str)(ss:List Str):jy (.str x) (.tup (ss.map .str))= .ok (.bl (!ss.contains x)):=by
 show((match strs? (ss.map D.str) with | some ss=>R.ok (ss.contains x) | none=> .no).bind _)=_
 rw[L2.strs_map];rfl
theorem x_(x:Str)(ss:List Str):jy (.str x) (.lst (ss.map .str))= .ok (.bl (!ss.contains x)):=by
 show((match strs? (ss.map D.str) with | some ss=>R.ok (ss.contains x) | none=> .no).bind _)=_
 rw[L2.strs_map];rfl
theorem Cq(bs:List Bool):BZ [.lst (bs.map D.bl)]= .ok (.bl (bs.all id)):=by
 show(match bls? (bs.map D.bl) with | some bs=>R.ok (D.bl (bs.all id)) | none=> .no)=_
 rw[zg]
theorem len_str{x:Str}(h:x.length<=10000000):fN [.str x]= .ok (MT.nI x.length):=by
 have hz:sizeLine=16777216:=sizeLine_eq;exact bK _ (by omega)
theorem qd{ds:List D}{k:Nat}(h:k<=ds.length):GS (.lst ds) (some (k:Int)) none= .ok (.lst (ds.drop k)):=by
 show R.ok (D.lst (L2.cutD ds (some (k:Int)) none))=_;unfold L2.cutD;rw[HT.pY,HT.vv,Nat.min_eq_left h,List.take_of_length_le (by rw[List.length_drop];omega)]
end
end TX
end
section
namespace TX
open PySem PySem.Spec PyProof.Rows L2 L3 MT
structure Dr where
 ins:WH
 gs:List Gt
 os:WI
 nm:List Str
 nu:List Str
def Dr.on(d:Dr):List Str:=d.os.map (·.1)
def sS(l:List Str):List (Key × D):=l.map fun n=>(Sum.inr n, .bl true)
def DU(k:Nat)(l:List Str):List (Key × D):=(l.zipIdx k).map fun p=>(Sum.inr p.1,nI p.2)
abbrev IC(l:List Str):List (Key × D):=DU 0 l
theorem tq(l:List Str):(sS l).length=l.length:=by unfold sS;simp
theorem t4(k:Nat)(l:List Str):(DU k l).length=l.length:=by unfold DU;simp
theorem Cj(k:Nat)(y:Str)(l:List Str):DU k (y ::l)=(Sum.inr y,nI k) ::DU (k+1) l:=rfl
theorem zt(y x:Str):decide ((Sum.inr y:Key)=Sum.inr x)=(y==x):=by
 by_cases h:y=x
 .subst h;simp
 .rw [beq_eq_false_iff_ne.mpr h];exact decide_eq_false fun q=>h (Sum.inr.inj q)
theorem nG(x:Str):∀l:List Str,((sS l).find? fun kv=>decide (kv.1=Sum.inr x)).map (·.2)=if x∈l then some (.bl true) else none
 | []=>rfl
 | y ::l=>by
   show(((Sum.inr y,D.bl true) ::sS l).find? fun kv=>decide (kv.1=Sum.inr x)).map (·.2)=_
   rw[List.find?_cons];simp only[zt];by_cases h:y=x
   .subst h;simp
   .rw [beq_eq_false_iff_ne.mpr h];simp only;rw[nG x l];have:x∈y ::l↔x∈l:=by simp [Ne.symm h]
    simp only[this]
def idx(l:List Str)(x:Str):Option Nat:=l.findIdx? (·==x)
theorem qv(x:Str):∀(k:Nat) (l:List Str),((DU k l).find? fun kv=>decide (kv.1=Sum.inr x)).map (·.2)=(idx l x).map fun i=>nI (k+i)
 | k,[]=>rfl
 | k,y ::l=>by
   rw[Cj,List.find?_cons];simp only[zt];unfold idx;rw[List.findIdx?_cons];by_cases h:y=x
   .subst h;simp
   .rw [beq_eq_false_iff_ne.mpr h];simp only;rw[qv x (k+1) l];unfold idx;simp only[Bool.false_eq_true,if_false,Option.map_map];congr 1;funext i;show nI (k+1+i)=nI (k+(i+1));congr 1;omega
theorem By{l:List Str}:(idx l x).isSome=l.contains x:=by
 unfold idx;rw[List.findIdx?_isSome];rw[Bool.eq_iff_iff,List.any_eq_true,List.contains_iff_mem];exact⟨fun⟨y,h1,h2⟩=>by rw[<-beq_iff_eq.mp h2];exact h1,fun h=>⟨x,h,beq_self_eq_true x⟩⟩
theorem yI{ay:List (Key × D)}{d:D}(h:((ay.find? fun kv=>decide (kv.1=Sum.inr x)).map (·.2))=none):mX ay (Sum.inr x) d=ay++[(Sum.inr x,d)]:=by
 unfold mX;rw[if_neg];intro q;obtain⟨kv,h1,h2⟩:=List.any_eq_true.mp q;have h3:ay.find? (fun kv=>decide (kv.1=Sum.inr x))=none:=by
  cases hf:ay.find? (fun kv=>decide (kv.1=Sum.inr x)) with
  | none=>rfl
  | some z=>rw [hf] at h;cases h
 exact absurd h2 (by have:=List.find?_eq_none.mp h3 kv h1;exact this)
theorem tF{l:List Str}(h:x ∉ l):mX (sS l) (Sum.inr x) (.bl true)=sS (l++[x]):=by
 rw[yI (by rw[nG,if_neg h])]
 unfold sS;simp
theorem yD{l:List Str}(h:x ∉ l):mX (IC l) (Sum.inr x) (nI l.length)=IC (l++[x]):=by
 have h1:idx l x=none:=by
  have:=By (l:=l) (x:=x);rw[show l.contains x=false by cases q:l.contains x with | false=>rfl | true=>exact absurd (List.contains_iff_mem.mp q) h] at this
  cases q:idx l x with
  | none=>rfl
  | some i=>rw [q] at this;cases this
 rw[yI (by rw[qv,h1];rfl)]
 show DU 0 l++_=DU 0 (l++[x]);unfold DU;rw[List.zipIdx_append,List.map_append];simp
def iM:Nat->Str | 0=>Str.ofString "0" | 1=>Str.ofString "1" | _=>Str.ofString "2"
def nK(x:Str)(w:Nat):List Str:=if w=1 then [x] else(List.range w).map fun f=>x++CO++iM f
def base(w:Str):Str:=(fT w CO).getD 0 Str.empty
theorem nV(h:isNm x=true):base x=x:=by
 unfold base;rw[sk,sH (zu h (by omega))];rfl
theorem Bf{x f:Str}(h:isNm x=true):base (x++CO++f)=x:=by
 unfold base;rw[show fT (x++CO++f) CO=[x,CO,f] by rw[sk];exact sx (zu h (by omega)) rfl];rfl
theorem lX(h:isNm x=true){w:Nat}:∀y∈nK x w,base y=x:=fun y hy=>by
 unfold nK at hy;split at hy
 .rw [List.mem_singleton.mp hy];exact nV h
 .obtain⟨f,_,rfl⟩:=List.mem_map.mp hy;exact Bf h
theorem A4{a b:Nat}(ha:a < 3)(hb:b < 3)(h:iM a=iM b):a=b:=by
 match a,b,ha,hb with
 | 0,0,_,_=>rfl
 | 1,1,_,_=>rfl
 | 2,2,_,_=>rfl
 | 0,1,_,_=>exact absurd h (by decide+kernel)
 | 0,2,_,_=>exact absurd h (by decide+kernel)
 | 1,0,_,_=>exact absurd h (by decide+kernel)
 | 1,2,_,_=>exact absurd h (by decide+kernel)
 | 2,0,_,_=>exact absurd h (by decide+kernel)
 | 2,1,_,_=>exact absurd h (by decide+kernel)
theorem Fd{a b c:Str}(h:a++b=a++c):b=c:=iq (by
 have:=congrArg (fun s:Str=>s.cps.toList) h
 simp only[c0] at this;exact List.append_cancel_left this)
theorem xB{w:Nat}(hw:w<=3):(nK x w).Nodup:=by
 unfold nK;split
 .simp
 .rw [List.nodup_iff_pairwise_ne,List.pairwise_map];refine(List.nodup_iff_pairwise_ne.mp (List.nodup_range (n:=w))).imp_of_mem ?_;intro a b ha hb qh e;exact qh (A4 (Nat.lt_of_lt_of_le (List.mem_range.mp ha) hw) (Nat.lt_of_lt_of_le (List.mem_range.mp hb) hw) (Fd e))
theorem pX{w:Nat}:(nK x w).length=w:=by
 unfold nK;split
 .rename_i h;rw [h];rfl
 .simp
structure lD (d:Dr):Prop where
 li:d.ins.length<=6
 lg:d.gs.length<=60
 lo:d.os.length<=6
 ln:d.nm.length<=66
 lw:d.nu.length<=78
 li3:d.nm.length=d.ins.length+d.gs.length
 lw3:d.nu.length<=3*d.ins.length+d.gs.length
 ok:∀n∈d.nm,isNm n=true
 bs:∀w∈d.nu,base w∈d.nm
 nd:d.nu.Nodup
def kJ(d:Dr)(x:Str)(w:Nat):Except Nat Dr:=
 if d.gs≠[]\/d.os≠[] then .error 4 else if x∈d.nm then .error 5 else if 6<=d.ins.length then .error 6 else .ok {d with ins:=d.ins++[(x,w)],nm:=d.nm++[x],nu:=d.nu++nK x w}
def e8(nu:List Str):List Str->Option (List Nat)
 | []=>some []
 | w ::ws=>match idx nu w with | some i=>(e8 nu ws).map (i ::·) | none=>none
def addGate(d:Dr)(x:Str)(k:Nat)(ws:List Str)(s:Bool):Except Nat Dr:=
 if d.os≠[] then .error 4 else if x∈d.nm then .error 5 else if 60<=d.gs.length then .error 6 else match e8 d.nu ws with
 | none=> .error 7
 | some l=> .ok {d with gs:=d.gs++[(k,l,s)],nm:=d.nm++[x],nu:=d.nu++[x]}
def iX(d:Dr)(x:Str)(ws:List Str):Except Nat Dr:=
 if x∈d.on then .error 5 else if 6<=d.os.length then .error 6 else match e8 d.nu ws with
 | none=> .error 7
 | some l=> .ok {d with os:=d.os++[(x,l)]}
def wC(w:Str):Nat:=([Str.ofString "not",Str.ofString "and",Str.ofString "or",Str.ofString "xor",Str.ofString "vote"].findIdx? (·==w)).getD 0
def G3(w:Str):Nat:=((DP.lookup w).getD 0).toNat
def fV(d:Dr)(ws:List Str):Except Nat Dr:=
 if B5 ws=true then kJ d (wd ws 1) (G3 (wd ws 2))
 else if A1 ws=true then addGate d (wd ws 1) (wC (wd ws 2)) (ws.drop 3) (wd ws 0==Str.ofString "sure")
 else if Gw ws=true then iX d (wd ws 1) (ws.drop 2)
 else .error 3
def fU(d:Dr):List Str->Except Nat Dr
 | []=> .ok d
 | r ::rs=>match fV d (Txt.split r SP) with | .ok d'=>fU d' rs | .error c=> .error c
def d0:Dr:=⟨[],[],[],[],[]⟩
def uV(rows:List Str):Except Nat Dr:=
 if 80 < rows.length then .error 2 else match fU d0 rows with
 | .error c=> .error c
 | .ok d=>if d.ins=[]\/d.os=[] then .error 8 else .ok d
theorem KH:lD d0:=⟨by simp [d0],by simp [d0],by simp [d0],by simp [d0],by simp [d0],rfl,by simp [d0],by simp [d0],by simp [d0],by simp [d0]⟩
theorem Ct(h:(DP.lookup w).isSome=true):1<=G3 w/\G3 w<=3/\DP.lookup w=some (G3 w:Int):=by
 obtain⟨n,hn⟩:=Option.isSome_iff_exists.mp h;unfold G3;rw[hn];have:n=1\/n=2\/n=3:=by
  unfold DP at hn;simp only[List.lookup_cons,List.lookup_nil] at hn;split at hn
  .cases hn;exact .inl rfl
  .split at hn
   .cases hn;exact .inr (.inl rfl)
   .split at hn
    .cases hn;exact .inr (.inr rfl)
    .cases hn
 rcases this with rfl | rfl | rfl <;> exact⟨by decide,by decide,rfl⟩
theorem Di(h:(yd.lookup w).isSome=true):kS (wC w)=w/\wC w<=4/\yd.lookup w=some ((ar (wC w):Nat):Int):=by
 obtain⟨n,hn⟩:=Option.isSome_iff_exists.mp h;unfold yd at hn;simp only[List.lookup_cons,List.lookup_nil] at hn;split at hn
 .rename_i q;rw [beq_iff_eq.mp q];exact⟨by decide+kernel,by decide+kernel,by decide+kernel⟩
 .split at hn
  .rename_i q;rw [beq_iff_eq.mp q];exact⟨by decide+kernel,by decide+kernel,by decide+kernel⟩
  .split at hn
   .rename_i q;rw [beq_iff_eq.mp q];exact⟨by decide+kernel,by decide+kernel,by decide+kernel⟩
   .split at hn
    .rename_i q;rw [beq_iff_eq.mp q];exact⟨by decide+kernel,by decide+kernel,by decide+kernel⟩
    .split at hn
     .rename_i q;rw [beq_iff_eq.mp q];exact⟨by decide+kernel,by decide+kernel,by decide+kernel⟩
     .cases hn
theorem mv{d:Dr}(D:lD d)(hx:x ∉ d.nm)(hy:base y=x):y ∉ d.nu:=fun q=>hx (by rw[<-hy];exact D.bs y q)
theorem CY{d d':Dr}(D:lD d){w:Nat}(hx:isNm x=true)(hw:w<=3)(h:kJ d x w= .ok d'):lD d':=by
 unfold kJ at h;split at h
 .cases h
 .rename_i h1;split at h
  .cases h
  .rename_i h2;split at h
   .cases h
   .rename_i h3;cases h;have hg:d.gs=[]:=by
     cases q:d.gs with
     | nil=>rfl
     | cons a b=>exact absurd (.inl (by rw[q];simp)) h1
    have:=D.li;have:=D.lw3;have:=D.li3;have hl:(nK x w).length=w:=pX;have hg0:d.gs.length=0:=by rw[hg];rfl
    refine⟨by simp;omega,D.lg,D.lo,by simp;omega,by simp;omega,by simp;omega,by simp;omega,fun n hn=>?_,fun y hy=>?_,?_⟩
    .rcases List.mem_append.mp hn with z | z
     .exact D.ok n z
     .rw [List.mem_singleton.mp z];exact hx
    .rcases List.mem_append.mp hy with z | z
     .exact List.mem_append_left _ (D.bs y z)
     .rw [lX hx y z];simp
    .exact List.nodup_append.mpr ⟨D.nd,xB hw,fun a ha b hb e=>mv D h2 (lX hx b hb) (by rw[<-e];exact ha)⟩
theorem w_{d d':Dr}(D:lD d){k:Nat}{ws:List Str}{s:Bool}(hx:isNm x=true)(h:addGate d x k ws s= .ok d'):lD d':=by
 unfold addGate at h;split at h
 .cases h
 .split at h
  .cases h
  .rename_i h2;split at h
   .cases h
   .rename_i h3;split at h
    .cases h
    .rename_i l hl;cases h;have:=D.li;have:=D.lw3;have:=D.li3;have:=D.lg;refine⟨D.li,by simp;omega,D.lo,by simp;omega,by simp;omega,by simp;omega,by simp;omega,fun n hn=>?_,fun y hy=>?_,?_⟩
     .rcases List.mem_append.mp hn with z | z
      .exact D.ok n z
      .rw [List.mem_singleton.mp z];exact hx
     .rcases List.mem_append.mp hy with z | z
      .exact List.mem_append_left _ (D.bs y z)
      .rw [List.mem_singleton.mp z,nV hx];simp
     .exact List.nodup_append.mpr ⟨D.nd,by simp,fun a ha b hb e=>mv D h2 (y:=b) (by rw[List.mem_singleton.mp hb];exact nV hx) (by rw[<-e];exact ha)⟩
theorem zI{d d':Dr}(D:lD d){ws:List Str}(h:iX d x ws= .ok d'):lD d':=by
 unfold iX at h;split at h
 .cases h
 .split at h
  .cases h
  .rename_i h3;split at h
   .cases h
   .rename_i l hl;cases h;have:=D.lo;exact⟨D.li,D.lg,by simp;omega,D.ln,D.lw,D.li3,D.lw3,D.ok,D.bs,D.nd⟩
theorem F5{d d':Dr}(D:lD d){ws:List Str}(h:fV d ws= .ok d'):lD d':=by
 unfold fV at h;split at h
 .rename_i h1;unfold B5 at h1;simp only[Bool.and_eq_true] at h1;exact CY D h1.2.2.1 (Ct h1.2.2.2).2.1 h
 .split at h
  .rename_i h1;unfold A1 at h1;simp only[Bool.and_eq_true] at h1;exact w_ D h1.2.1.1 h
  .split at h
   .exact zI D h
   .cases h
end TX
end
section
namespace TX
open PySem PySem.Spec PyProof.Rows L2 L3 MT JT
structure Lw (n:Nat) (s:Str):Prop where
 len:s.length<=n
 low:∀c∈s.cps.toList,97<=c/\c<=122
theorem Lw.mono{n m:Nat}(h:Lw n s)(hm:n<=m):Lw m s:=⟨Nat.le_trans h.len hm,h.low⟩
theorem Lw.app{n m:Nat}{a b:Str}(h:Lw n a)(h':Lw m b):Lw (n+m) (a++b):=⟨by rw[Str.length_append];have:=h.len;have:=h'.len;omega,fun c hc=>by
 rw[c0] at hc;rcases List.mem_append.mp hc with z | z
 .exact h.low c z
 .exact h'.low c z⟩
theorem Lw.slice{n:Nat}(h:Lw n a)(lo hi:Option Int):Lw n (Txt.slice a lo hi):=⟨Nat.le_trans (Txt.slice_le a lo hi) h.len,fun c hc=>by
 unfold Txt.slice at hc;split at hc
 .exact h.low c hc
 .rw [List.toList_toArray,List.mem_filterMap] at hc;obtain⟨i,_,e⟩:=hc;exact h.low c (by have:=Array.mem_of_getElem? e;simpa using this)⟩
theorem Jj(a:Str):(Txt.slice a none (some 8)).length<=8:=by
 by_cases h:8<=a.length
 .have:=StrLaws.sliceText_to (x:=a) (j:=8) ⟨by omega,by show(8:Int)<=(a.cps.toList.length:Int);rw [Array.length_toList];show(8:Int)<=(a.length:Int);omega⟩
  show(StrLaws.sliceText a none (some 8)).length<=8;rw[this];show(List.toArray _).size<=8;simp;omega
 .exact Nat.le_trans (Txt.slice_le a _ _) (by omega)
theorem Lw.nm(h:Lw 8 s)(h1:s≠Str.empty)(h2:s ∉ oS):isNm s=true:=by
 refine dE.mpr ⟨?_,h.len,h2,h.low⟩;rcases Nat.lt_or_ge 0 s.length with q | q
 .exact q
 .exfalso
  refine h1 (iq ?_);have:s.cps.toList.length=0:=by rw[Array.length_toList];show s.length=0;omega
  rw[List.length_eq_zero_iff.mp this];rfl
theorem GW(h:isNm s=true):Lw 8 s:=⟨(dE.mp h).2.1,(dE.mp h).2.2.2⟩
def iG(i:Nat):Str:=⟨#[97+i]⟩
theorem Ek:xp.length=26:=by decide+kernel
theorem p8{i:Nat}(h:i < 26):df (.str xp) (nI i)= .ok (.str (iG i)):=by
 have hz:sizeLine=16777216:=sizeLine_eq;refine xJ (by rw[Ek];omega) ?_
 rw[sd,wZ (by omega) (by simp;omega)]
 simp [iG]
theorem zm{i:Nat}(h:i < 26):Lw 1 (iG i):=⟨Nat.le_refl _,fun c hc=>by
 have hc:c∈[97+i]:=hc;rw[List.mem_singleton] at hc;omega⟩
theorem NU{r:Nat}(h:r < 7):Lw 6 (Txt.mul (Str.ofString "x") r):=by
 match r,h with
 | 0,_=>exact⟨by decide+kernel,by decide+kernel⟩
 | 1,_=>exact⟨by decide+kernel,by decide+kernel⟩
 | 2,_=>exact⟨by decide+kernel,by decide+kernel⟩
 | 3,_=>exact⟨by decide+kernel,by decide+kernel⟩
 | 4,_=>exact⟨by decide+kernel,by decide+kernel⟩
 | 5,_=>exact⟨by decide+kernel,by decide+kernel⟩
 | 6,_=>exact⟨by decide+kernel,by decide+kernel⟩
theorem tT{sep:Str}{ss:List Str}(h:(ss.map (·.length)).sum+ss.length*sep.length<=16777216):ie (.str sep) [.lst (ss.map .str)]= .ok (.str (Str.join sep ss)):=by
 unfold ie;simp only[L2.strs_map];rw[joinOk_of h];rfl
theorem K_{n m k:Nat}(ha:Lw n a)(hb:Lw m b)(hc:Lw k c):Lw (n+m+k) (Str.join (Str.ofString "") [a,b,c]):=by
 have he:Lw 0 (Str.ofString ""):=⟨by decide+kernel,by decide+kernel⟩
 have:Str.join (Str.ofString "") [a,b,c]=a++Str.ofString ""++(b++Str.ofString ""++c):=rfl;rw[this];exact((ha.app he).app ((hb.app he).app hc)).mono (by omega)
theorem K8{n:Nat}(h:Lw n s):PyData.strOk s=true:=by
 unfold PyData.strOk;rw[Array.all_eq_true'];intro c hc;have:=h.low c (by simpa using hc)
 simp;omega
theorem FW{ss:List Str}(h:∀s∈ss,PyData.strOk s=true):DV (.lst (ss.map .str)) (.lst [])= .ok ss.isEmpty:=by
 have hp:∀ss:List Str,fD (ss.map .str)=true:=by
  intro ss
  induction ss with
  | nil=>unfold fD;rfl
  | cons s ss ih=>rw [List.map_cons];unfold fD;rw [ih];unfold cA;rfl
 have ht:∀ss:List Str,i4 (ss.map .str)=ss.map PyData.str:=by
  intro ss
  induction ss with
  | nil=>unfold i4;rfl
  | cons s ss ih=>rw [List.map_cons,List.map_cons];unfold i4;rw [ih];unfold toPy;rfl
 have hl:∀ss:List Str,(∀s∈ss,PyData.strOk s=true)->PyData.canLayAll0 (ss.map PyData.str)=true:=by
  intro ss
  induction ss with
  | nil=>intro _;rfl
  | cons s ss ih=>intro h;rw [List.map_cons];unfold PyData.canLayAll0;rw [ih fun t ht=>h t (List.mem_cons_of_mem _ ht)];unfold PyData.canLay0;rw [h s List.mem_cons_self];rfl
 have hd:∀ss:List Str,PyData.depthAll (ss.map PyData.str)=0:=by
  intro ss
  induction ss with
  | nil=>rfl
  | cons s ss ih=>rw [List.map_cons];unfold PyData.depthAll;rw [ih];rfl
 have hsh:SeqAt.shaped (toPy (.lst (ss.map .str)))=true:=by
  unfold toPy SeqAt.shaped;rw[ht];unfold PyData.canLay0 PyData.depth;rw[hl ss h,hd];rfl
 have hpd:cA (.lst (ss.map .str))=true:=by unfold cA;exact hp ss
 have qh:DV (.lst (ss.map .str)) (.lst [])=R.aS (cA (.lst (ss.map .str)) && cA (.lst []) && SeqAt.shaped (toPy (.lst (ss.map .str))) && SeqAt.shaped (toPy (.lst []))) (.ok (PyData.eqv (toPy (.lst (ss.map .str))) (toPy (.lst [])))):=rfl;rw[qh,hpd,hsh,show cA (.lst [])=true from rfl,show SeqAt.shaped (toPy (.lst []))=true from rfl]
 show R.ok _=_;unfold toPy;rw[ht];cases ss with
 | nil=>rfl
 | cons s ss=>rfl
theorem Fx{ss:List Str}(h:∀s∈ss,PyData.strOk s=true):yN (.lst (ss.map .str)) (.lst [])= .ok (.bl (!ss.isEmpty)):=by
 unfold yN;rw [FW h];rfl
def zr:List Str:=(List.range 80).map fun n=>⟨#[122,122,97+n / 26,97+n % 26]⟩
def AU:List Str:=(List.range 144).map fun n=>⟨#[121,97+n / 12,109+n % 12]⟩
theorem Il:∀s∈zr,isNm s=true:=by
 have:zr.all isNm=true:=by decide+kernel
 exact List.all_eq_true.mp this
theorem Jc:∀s∈AU,isNm s=true:=by
 have:AU.all isNm=true:=by decide+kernel
 exact List.all_eq_true.mp this
def Ub(s:Str):Nat:=s.cps.toList.foldl (fun a c=>a*128+c) 0
theorem GO{l:List Str}(h:(l.map Ub).Pairwise (· < ·)):l.Nodup:=by
 rw[List.pairwise_map] at h;exact h.imp fun {a b} hab e=>by rw[e] at hab;exact absurd hab (Nat.lt_irrefl _)
theorem HI:zr.Nodup:=GO (by decide+kernel)
theorem JG:AU.Nodup:=GO (by decide+kernel)
theorem vi{sp ss:List Str}(hn:sp.Nodup)(h:ss.length < sp.length):∃w,(sp.filter fun s=>!ss.contains s)[0]? =some w/\w∈sp/\w ∉ ss:=by
 cases e:sp.filter fun s=>!ss.contains s with
 | cons w r=>
   have:=List.mem_filter.mp (show w∈sp.filter fun s=>!ss.contains s by rw[e];exact List.mem_cons_self)
   refine⟨w,rfl,this.1,fun q=>?_⟩
   have h2:=this.2;rw[List.contains_iff_mem.mpr q] at h2;cases h2
 | nil=>
   exfalso
   have:=Dz sp ss hn fun x hx=>by
    by_cases q:x∈ss
    .exact q
    .have:x∈sp.filter fun s=>!ss.contains s:=List.mem_filter.mpr ⟨hx,by simp [q]⟩
     rw[e] at this;cases this
   omega
theorem Hm{n:Nat}:Str.ofString "zz"++iG (n / 26)++iG (n % 26)=(⟨#[122,122,97+n / 26,97+n % 26]⟩:Str):=by
 apply iq;rw[c0,c0,show(Str.ofString "zz").cps.toList=[122,122] by decide+kernel]
 rfl
abbrev NK:Str:=Str.ofString "abcdefghijkl"
abbrev NP:Str:=Str.ofString "mnopqrstuvwx"
theorem IY{i:Nat}(h:i < 12):df (.str NK) (nI i)= .ok (.str (iG i)):=by
 have hz:sizeLine=16777216:=sizeLine_eq;refine xJ (by rw[hz];decide+kernel) ?_
 rw[show NK.cps.toList=(List.range 12).map (97+·) by decide+kernel,wZ (by omega) (by simp;omega)]
 simp [iG]
theorem I0{i:Nat}(h:i < 12):df (.str NP) (nI i)= .ok (.str (iG (12+i))):=by
 have hz:sizeLine=16777216:=sizeLine_eq;refine xJ (by rw[hz];decide+kernel) ?_
 rw[show NP.cps.toList=(List.range 12).map (109+·) by decide+kernel,wZ (by omega) (by simp;omega)]
 simp [iG];omega
theorem Hs{n:Nat}:Str.ofString "y"++iG (n / 12)++iG (12+n % 12)=(⟨#[121,97+n / 12,109+n % 12]⟩:Str):=by
 apply iq;rw[c0,c0,show(Str.ofString "y").cps.toList=[121] by decide+kernel]
 show [121,97+n / 12,97+(12+n % 12)]=[121,97+n / 12,109+n % 12];congr 3;omega
structure TN (ins:WH) (gs:List Gt) (os:WI):Prop where
 i1:1<=ins.length
 i6:ins.length<=6
 iw:∀x∈ins,1<=x.2/\x.2<=3
 ind:(ins.map (·.1)).Nodup
 inm:∀x∈ins,isNm x.1=true
 g60:gs.length<=60
 gok:∀(i:Nat) (x:Gt),gs[i]? =some x->FC (j9 ins+i) x
 o1:1<=os.length
 o6:os.length<=6
 ond:(os.map (·.1)).Nodup
 onm:∀x∈os,isNm x.1=true
 ow:∀x∈os,1<=x.2.length/\x.2.length<=3/\∀w∈x.2,w < j9 ins+gs.length
end TX
end
section
namespace TX
open PySem PySem.Spec PyProof.Rows L2 L3 MT JT
structure GN (ins:WH) (n:Nat) (gn:List Str):Prop where
 len:gn.length=n
 nd:gn.Nodup
 nm:∀s∈gn,isNm s=true
 dis:∀s∈gn,s ∉ ins.map (·.1)
def jj(ins:WH):List Str:=ins.flatMap fun x=>nK x.1 x.2
theorem gA:∀ins:WH,(jj ins).length=j9 ins
 | []=>rfl
 | x ::ins=>by
   show(nK x.1 x.2++jj ins).length=_;rw[List.length_append,pX,gA ins];rfl
theorem vn{ins:WH}(h:∀x∈ins,isNm x.1=true):∀y∈jj ins,base y∈ins.map (·.1):=fun y hy=>by
 obtain⟨x,hx,hy⟩:=List.mem_flatMap.mp hy;rw[lX (h x hx) y hy];exact List.mem_map_of_mem hx
theorem A_:∀{ins:WH},(ins.map (·.1)).Nodup->(∀x∈ins,isNm x.1=true)->(∀x∈ins,1<=x.2/\x.2<=3)->(jj ins).Nodup
 | [],_,_,_=>List.nodup_nil
 | x ::ins,h1,h2,h3=>by
   obtain⟨h4,h5⟩:=List.nodup_cons.mp h1;refine List.nodup_append.mpr ⟨xB (h3 x List.mem_cons_self).2,A_ h5 (fun y hy=>h2 y (List.mem_cons_of_mem _ hy)) (fun y hy=>h3 y (List.mem_cons_of_mem _ hy)),fun a ha b hb e=>h4 ?_⟩
   show x.1∈_;rw[<-lX (h2 x List.mem_cons_self) a ha,e];exact vn (fun y hy=>h2 y (List.mem_cons_of_mem _ hy)) b hb
theorem wy{ins:WH}{gs:List Gt}{os:WI}{gn:List Str}(T:TN ins gs os){n:Nat}(G:GN ins n gn):(jj ins++gn).Nodup:=
 List.nodup_append.mpr ⟨A_ T.ind T.inm T.iw,G.nd,fun a ha b hb e=>G.dis b hb (by
  have:=vn T.inm a ha;rw[e,nV (G.nm b hb)] at this;exact this)⟩
theorem IW{l:List Str}(h:l.Nodup){i n:Nat}(hi:l[i]? =some x)(hn:i < n):idx (l.take n) x=some i:=by
 unfold idx;rw[List.findIdx?_eq_some_iff_getElem];have hl:=(List.getElem?_eq_some_iff.mp hi).1;have MW:i < (l.take n).length:=by rw[List.length_take];omega
 refine⟨MW,?_,fun j hj=>?_⟩
 .rw [List.getElem_take,(List.getElem?_eq_some_iff.mp hi).2];simp
 .rw [List.getElem_take];intro q;have q:=beq_iff_eq.mp q;have:l[j]? =some x:=by rw[List.getElem?_eq_getElem (by omega),q]
  have:=i_ h this hi;omega
def tx(W:List Str)(l:List Nat):List Str:=l.map fun w=>W.getD w Str.empty
theorem B7{W:List Str}(h:W.Nodup){n:Nat}:∀{l:List Nat},(∀w∈l,w < n/\w < W.length)->e8 (W.take n) (tx W l)=some l
 | [],_=>rfl
 | w ::l,hl=>by
   obtain⟨h1,h2⟩:=hl w List.mem_cons_self;show(match idx (W.take n) (W.getD w Str.empty) with | some i=>(e8 (W.take n) (tx W l)).map (i ::·) | none=>none)=_
   rw[IW h (i:=w) (by rw[List.getD_eq_getElem?_getD,List.getElem?_eq_getElem h2];rfl) h1,B7 h fun y hy=>hl y (List.mem_cons_of_mem _ hy)]
   rfl
def wS:Nat->Str | 1=>Str.ofString "1" | 2=>Str.ofString "2" | _=>Str.ofString "3"
def vS(x:Str × Nat):List Str:=[Str.ofString "in",x.1,wS x.2]
def pU(W:List Str)(g:Gt)(n:Str):List Str:=[if g.2.2 then Str.ofString "sure" else Str.ofString "gate",n,kS g.1]++tx W g.2.1
def p6(W:List Str)(o:Str × List Nat):List Str:=[Str.ofString "out",o.1]++tx W o.2
def uU(ins:WH)(gs:List Gt)(os:WI)(gn:List Str):List (List Str):=ins.map vS++(gs.zip gn).map (fun p=>pU (jj ins++gn) p.1 p.2)++os.map (p6 (jj ins++gn))
structure Wo (w:Str):Prop where
 len:w.length<=10
 cps:∀c∈w.cps.toList,33<=c/\c < 128
theorem vP(h:isNm s=true):Wo s:=⟨by have:=(dE.mp h).2.1;omega,fun c hc=>by have:=(dE.mp h).2.2.2 c hc;omega⟩
theorem JM{x:Str}(h:isNm x=true){f:Nat}:Wo (x++CO++iM f):=by
 have h1:(iM f).length=1/\∀c∈(iM f).cps.toList,33<=c/\c < 128:=by
  match f with
  | 0=>exact⟨by decide+kernel,by decide+kernel⟩
  | 1=>exact⟨by decide+kernel,by decide+kernel⟩
  | n+2=>exact⟨by show(Str.ofString "2").length=1;decide+kernel,by show ∀c∈(Str.ofString "2").cps.toList,_;decide+kernel⟩
 refine⟨?_,fun c hc=>?_⟩
 .rw [Str.length_append,Str.length_append,h1.1];have:=(dE.mp h).2.1;have:CO.length=1:=by decide+kernel
  omega
 .rw [c0,c0] at hc;rcases List.mem_append.mp hc with z | z
  .rcases List.mem_append.mp z with y | y
   .have:=(dE.mp h).2.2.2 c y;omega
   .rw [sk] at y;have:c∈[58]:=y;rw[List.mem_singleton] at this;omega
  .exact h1.2 c z
theorem H_(h:isNm x=true){w:Nat}:∀y∈nK x w,Wo y/\kR y=true:=fun y hy=>by
 unfold nK at hy;split at hy
 .rw [List.mem_singleton.mp hy];exact⟨vP h,GK h⟩
 .obtain⟨f,_,rfl⟩:=List.mem_map.mp hy;refine⟨JM h,JO h ?_⟩
  match f with
  | 0=>decide+kernel
  | 1=>decide+kernel
  | n+2=>show Str.ofString "2"∈Aq;decide+kernel
theorem FP{ins:WH}{gs:List Gt}{os:WI}{gn:List Str}(T:TN ins gs os){n:Nat}(G:GN ins n gn):∀y∈jj ins++gn,Wo y/\kR y=true:=fun y hy=>by
 rcases List.mem_append.mp hy with z | z
 .obtain⟨x,hx,hy⟩:=List.mem_flatMap.mp z;exact H_ (T.inm x hx) y hy
 .exact⟨vP (G.nm y z),GK (G.nm y z)⟩
theorem uJ{W:List Str}{l:List Nat}(h:∀w∈l,w < W.length):∀y∈tx W l,y∈W:=fun y hy=>by
 obtain⟨w,hw,rfl⟩:=List.mem_map.mp hy;rw[List.getD_eq_getElem?_getD,List.getElem?_eq_getElem (h w hw)];exact List.getElem_mem _
theorem oG{ws:List Str}(qh:ws≠[])(h:∀w∈ws,Wo w):Txt.split (Str.join SP ws) SP=ws:=by
 rw[CS];exact qM qh fun p hp q=>by have:=(h p hp).cps 32 q;omega
theorem GJ(k:Nat):Wo (kS k)/\(yd.lookup (kS k)).isSome=true/\(k<=4->wC (kS k)=k/\yd.lookup (kS k)=some ((ar k:Nat):Int)):=by
 match k with
 | 0=>exact⟨⟨by decide+kernel,by decide+kernel⟩,by decide+kernel,fun _=>⟨by decide+kernel,by decide+kernel⟩⟩
 | 1=>exact⟨⟨by decide+kernel,by decide+kernel⟩,by decide+kernel,fun _=>⟨by decide+kernel,by decide+kernel⟩⟩
 | 2=>exact⟨⟨by decide+kernel,by decide+kernel⟩,by decide+kernel,fun _=>⟨by decide+kernel,by decide+kernel⟩⟩
 | 3=>exact⟨⟨by decide+kernel,by decide+kernel⟩,by decide+kernel,fun _=>⟨by decide+kernel,by decide+kernel⟩⟩
 | 4=>exact⟨⟨by decide+kernel,by decide+kernel⟩,by decide+kernel,fun _=>⟨by decide+kernel,by decide+kernel⟩⟩
 | n+5=>exact⟨⟨by show(Str.ofString "vote").length<=10;decide+kernel,by show ∀c∈(Str.ofString "vote").cps.toList,_;decide+kernel⟩,by show(yd.lookup (Str.ofString "vote")).isSome=true;decide+kernel,fun h=>by omega⟩
theorem GB(w:Nat):Wo (wS w)/\(DP.lookup (wS w)).isSome=true/\(1<=w->w<=3->G3 (wS w)=w):=by
 match w with
 | 1=>exact⟨⟨by decide+kernel,by decide+kernel⟩,by decide+kernel,fun _ _=>by decide+kernel⟩
 | 2=>exact⟨⟨by decide+kernel,by decide+kernel⟩,by decide+kernel,fun _ _=>by decide+kernel⟩
 | 3=>exact⟨⟨by decide+kernel,by decide+kernel⟩,by decide+kernel,fun _ _=>by decide+kernel⟩
 | 0=>exact⟨⟨by show(Str.ofString "3").length<=10;decide+kernel,by show ∀c∈(Str.ofString "3").cps.toList,_;decide+kernel⟩,by show(DP.lookup (Str.ofString "3")).isSome=true;decide+kernel,fun h=>by omega⟩
 | n+4=>exact⟨⟨by show(Str.ofString "3").length<=10;decide+kernel,by show ∀c∈(Str.ofString "3").cps.toList,_;decide+kernel⟩,by show(DP.lookup (Str.ofString "3")).isSome=true;decide+kernel,fun _ h=>by omega⟩
theorem xQ(s:Str)(h:(decide (s.length<=10) && s.cps.toList.all fun c=>decide (33<=c/\c < 128))=true):Wo s:=by
 rw[Bool.and_eq_true,List.all_eq_true] at h;exact⟨of_decide_eq_true h.1,fun c hc=>of_decide_eq_true (h.2 c hc)⟩
theorem wQ{x:Str × Nat}(h:isNm x.1=true):∀w∈vS x,Wo w:=fun w hw=>by
 unfold vS at hw;simp only[List.mem_cons,List.not_mem_nil,or_false] at hw;rcases hw with rfl | rfl | rfl
 .exact xQ _ (by decide+kernel)
 .exact vP h
 .exact(GB x.2).1
theorem xC{W:List Str}{g:Gt}(h:isNm n=true)(hW:∀y∈W,Wo y)(hg:∀w∈g.2.1,w < W.length):∀w∈pU W g n,Wo w:=fun w hw=>by
 unfold pU at hw;rcases List.mem_append.mp hw with z | z
 .simp only[List.mem_cons,List.not_mem_nil,or_false] at z;rcases z with rfl | rfl | rfl
  .split <;> exact xQ _ (by decide+kernel)
  .exact vP h
  .exact(GJ g.1).1
 .exact hW w (uJ hg w z)
theorem xl{W:List Str}{o:Str × List Nat}(h:isNm o.1=true)(hW:∀y∈W,Wo y)(hg:∀w∈o.2,w < W.length):∀w∈p6 W o,Wo w:=fun w hw=>by
 unfold p6 at hw;rcases List.mem_append.mp hw with z | z
 .simp only[List.mem_cons,List.not_mem_nil,or_false] at z;rcases z with rfl | rfl
  .exact xQ _ (by decide+kernel)
  .exact vP h
 .exact hW w (uJ hg w z)
theorem D5{d:Dr}{x:Str × Nat}(h:isNm x.1=true)(hw:1<=x.2/\x.2<=3):fV d (vS x)=kJ d x.1 x.2:=by
 obtain⟨_,h2,h3⟩:=GB x.2;have:B5 (vS x)=true:=by
  show(decide _ && ((Str.ofString "in"==Str.ofString "in") && (isNm x.1 && (DP.lookup (wS x.2)).isSome)))=true;rw[h,h2];rfl
 unfold fV;rw[if_pos this];show kJ d x.1 (G3 (wS x.2))=_;rw[h3 hw.1 hw.2]
theorem yF{ws:List Str}(h:(w==Str.ofString "in")=false):B5 (w ::ws)=false:=by
 show(decide _ && ((w==Str.ofString "in") && _))=false;rw[h];simp
theorem Gb{d:Dr}{W:List Str}{g:Gt}(h:isNm n=true)(hk:g.1<=4)(hl:g.2.1.length=ar g.1)(hW:∀y∈tx W g.2.1,kR y=true):fV d (pU W g n)=addGate d n g.1 (tx W g.2.1) g.2.2:=by
 obtain⟨_,h2,h3⟩:=GJ g.1;obtain⟨h3,h4⟩:=h3 hk;have h1:B5 (pU W g n)=false:=by
  unfold pU;refine yF ?_;split <;> decide+kernel
 have hg0:[Str.ofString "gate",Str.ofString "sure"].contains (if g.2.2 then Str.ofString "sure" else Str.ofString "gate")=true:=by split <;> decide+kernel
 have ha:1<=ar g.1:=by unfold ar;split <;> omega
 have htl:(tx W g.2.1).length=ar g.1:=by unfold tx;rw [List.length_map,hl]
 have h5:A1 (pU W g n)=true:=by
  show((decide (4<=(pU W g n).length) && [Str.ofString "gate",Str.ofString "sure"].contains (if g.2.2 then Str.ofString "sure" else Str.ofString "gate")) && ((isNm n && (yd.lookup (kS g.1)).isSome) && (decide (((tx W g.2.1).length:Int)=(yd.lookup (kS g.1)).getD 0) && (tx W g.2.1).all kR)))=true
  rw[hg0,h,h2,h4,htl,List.all_eq_true.mpr hW,decide_eq_true (by unfold pU;simp [htl];omega:4<=(pU W g n).length)]
  simp
 unfold fV;rw[h1,if_neg (by decide),if_pos h5]
 show addGate d n (wC (kS g.1)) (tx W g.2.1) ((if g.2.2 then Str.ofString "sure" else Str.ofString "gate")==Str.ofString "sure")=_
 rw[h3];congr 1;cases g.2.2 <;> decide+kernel
theorem D6{d:Dr}{W:List Str}{o:Str × List Nat}(h:isNm o.1=true)(hl:1<=o.2.length/\o.2.length<=3)(hW:∀y∈tx W o.2,kR y=true):fV d (p6 W o)=iX d o.1 (tx W o.2):=by
 have htl:(tx W o.2).length=o.2.length:=by unfold tx;rw [List.length_map]
 have h1:B5 (p6 W o)=false:=yF (by decide+kernel)
 have h2:A1 (p6 W o)=false:=by
  show((decide _ && [Str.ofString "gate",Str.ofString "sure"].contains (Str.ofString "out")) && _)=false;rw[show [Str.ofString "gate",Str.ofString "sure"].contains (Str.ofString "out")=false by decide+kernel];simp
 have h3:Gw (p6 W o)=true:=by
  show((decide (3<=(p6 W o).length) && ((Str.ofString "out"==Str.ofString "out") && isNm o.1)) && (decide ((tx W o.2).length<=3) && (tx W o.2).all kR))=true;rw[h,htl,List.all_eq_true.mpr hW,decide_eq_true (by unfold p6;simp [htl];omega:3<=(p6 W o).length),decide_eq_true hl.2]
  simp
 unfold fV;rw[h1,if_neg (by decide),h2,if_neg (by decide),if_pos h3]
 rfl
theorem jS:∀(a b:List Str) (d:Dr),fU d (a++b)=match fU d a with | .ok d'=>fU d' b | .error c=> .error c
 | [],b,d=>rfl
 | r ::a,b,d=>by
   show(match fV d (Txt.split r SP) with | .ok d'=>fU d' (a++b) | .error c=> .error c)=_
   show _=(match (match fV d (Txt.split r SP) with | .ok d'=>fU d' a | .error c=>Except.error c) with | .ok d'=>fU d' b | .error c=> .error c)
   cases fV d (Txt.split r SP) with
   | error c=>rfl
   | ok d'=>exact jS a b d'
section
variable {ins:WH} {gs:List Gt} {os:WI} {gn:List Str}
theorem vI(hn:(ins.map (·.1)).Nodup)(hm:∀x∈ins,isNm x.1=true)(hw:∀x∈ins,1<=x.2/\x.2<=3)(h6:ins.length<=6):∀i,i<=ins.length->fU d0 ((ins.take i).map fun x=>Str.join SP (vS x))= .ok ⟨ins.take i,[],[],(ins.take i).map (·.1),jj (ins.take i)⟩
 | 0,_=>rfl
 | i+1,hi=>by
   obtain⟨x,hx⟩:∃x,ins[i]? =some x:=⟨_,List.getElem?_eq_getElem (by omega)⟩
   have hxm:=List.mem_of_getElem? hx;rw[List.take_add_one,hx,List.map_append,jS,vI hn hm hw h6 i (by omega)]
   show(match fV _ (Txt.split (Str.join SP (vS x)) SP) with | .ok d'=>fU d' [] | .error c=> .error c)=_
   rw[oG (by unfold vS;simp) (wQ (hm x hxm)),D5 (hm x hxm) (hw x hxm)]
   have Mb:x.1 ∉ (ins.take i).map (·.1):=fun q=>by
    rw[List.map_take] at q;obtain⟨j,hj⟩:=List.getElem?_of_mem q;rw[List.getElem?_take] at hj;split at hj
    .rename_i hji;have:=i_ hn hj (show(ins.map (·.1))[i]? =some x.1 by rw[List.getElem?_map,hx];rfl)
     omega
    .cases hj
   have hl:(ins.take i).length=i:=by rw[List.length_take];omega
   unfold kJ;rw[if_neg (by simp),if_neg Mb,if_neg (by show ¬6<=(ins.take i).length;omega)]
   show Except.ok _=Except.ok _;congr 1;simp [jj]
theorem q_(T:TN ins gs os)(G:GN ins gs.length gn):∀i,i<=gs.length->fU ⟨ins,[],[],ins.map (·.1),jj ins⟩ (((gs.zip gn).take i).map fun p=>Str.join SP (pU (jj ins++gn) p.1 p.2))= .ok ⟨ins,gs.take i,[],ins.map (·.1)++gn.take i,(jj ins++gn).take (j9 ins+i)⟩
 | 0,_=>by
   show Except.ok _=Except.ok _;rw[Nat.add_zero,<-gA,List.take_left];simp
 | i+1,hi=>by
   obtain⟨g,hg⟩:∃g,gs[i]? =some g:=⟨_,List.getElem?_eq_getElem (by omega)⟩
   have Hc:=G.len;obtain⟨n,hn⟩:∃n,gn[i]? =some n:=⟨_,List.getElem?_eq_getElem (by omega)⟩
   have hz:(gs.zip gn)[i]? =some (g,n):=by rw[List.getElem?_zip_eq_some];exact⟨hg,hn⟩
   have gok:=T.gok i g hg;have hWl:(jj ins++gn).length=j9 ins+gs.length:=by rw[List.length_append,gA,Hc]
   have s_:∀w∈g.2.1,w < (jj ins++gn).length:=fun w hw=>by have:=gok.2.2 w hw;omega
   have hWo:=FP T G;have hnm:=G.nm n (List.mem_of_getElem? hn);rw[List.take_add_one,hz,List.map_append,jS,q_ T G i (by omega)]
   show(match fV _ (Txt.split (Str.join SP (pU (jj ins++gn) g n)) SP) with | .ok d'=>fU d' [] | .error c=> .error c)=_
   rw[oG (by unfold pU;simp) (xC hnm (fun y hy=>(hWo y hy).1) s_),Gb hnm gok.1 gok.2.1 fun y hy=>(hWo y (uJ s_ y hy)).2]
   have hn1:n ∉ ins.map (·.1)++gn.take i:=fun q=>by
    rcases List.mem_append.mp q with z | z
    .exact G.dis n (List.mem_of_getElem? hn) z
    .obtain⟨j,hj⟩:=List.getElem?_of_mem z;rw[List.getElem?_take] at hj;split at hj
     .have:=i_ G.nd hj hn;omega
     .cases hj
   have hl:(gs.take i).length=i:=by rw[List.length_take];omega
   have:=T.g60;unfold addGate;rw[if_neg (by simp),if_neg hn1,if_neg (by show ¬60<=(gs.take i).length;omega),B7 (wy T G) fun w hw=>⟨gok.2.2 w hw,s_ w hw⟩]
   show Except.ok _=Except.ok _;congr 1;have e1:gs.take i++[(g.1,g.2.1,g.2.2)]=gs.take (i+1):=by rw[List.take_add_one,hg];rfl
   have e2:gn.take i++[n]=gn.take (i+1):=by rw[List.take_add_one,hn];rfl
   have e3:(jj ins++gn).take (j9 ins+i)++[n]=(jj ins++gn).take (j9 ins+(i+1)):=by
    rw[<-Nat.add_assoc,List.take_add_one,List.getElem?_append_right (by rw[gA];omega),gA,Nat.add_sub_cancel_left,hn];rfl
   rw[List.append_assoc,e1,e2,e3]
theorem su(T:TN ins gs os)(G:GN ins gs.length gn):∀i,i<=os.length->fU ⟨ins,gs,[],ins.map (·.1)++gn,jj ins++gn⟩ ((os.take i).map fun o=>Str.join SP (p6 (jj ins++gn) o))= .ok ⟨ins,gs,os.take i,ins.map (·.1)++gn,jj ins++gn⟩
 | 0,_=>rfl
 | i+1,hi=>by
   obtain⟨o,ho⟩:∃o,os[i]? =some o:=⟨_,List.getElem?_eq_getElem (by omega)⟩
   have hom:=List.mem_of_getElem? ho;obtain⟨o1,o2,o3⟩:=T.ow o hom;have hWl:(jj ins++gn).length=j9 ins+gs.length:=by rw[List.length_append,gA,G.len]
   have s_:∀w∈o.2,w < (jj ins++gn).length:=fun w hw=>by have:=o3 w hw;omega
   have hWo:=FP T G;rw[List.take_add_one,ho,List.map_append,jS,su T G i (by omega)]
   show(match fV _ (Txt.split (Str.join SP (p6 (jj ins++gn) o)) SP) with | .ok d'=>fU d' [] | .error c=> .error c)=_
   rw[oG (by unfold p6;simp) (xl (T.onm o hom) (fun y hy=>(hWo y hy).1) s_),D6 (T.onm o hom) ⟨o1,o2⟩ fun y hy=>(hWo y (uJ s_ y hy)).2]
   have hn1:o.1 ∉ (os.take i).map (·.1):=fun q=>by
    rw[List.map_take] at q;obtain⟨j,hj⟩:=List.getElem?_of_mem q;rw[List.getElem?_take] at hj;split at hj
    .have:=i_ T.ond hj (show(os.map (·.1))[i]? =some o.1 by rw[List.getElem?_map,ho];rfl)
     omega
    .cases hj
   have hl:(os.take i).length=i:=by rw[List.length_take];omega
   have:=T.o6;unfold iX;rw[if_neg (show o.1 ∉ (Dr.mk ins gs (os.take i) (ins.map (·.1)++gn) (jj ins++gn)).on from hn1),if_neg (by show ¬6<=(os.take i).length;omega)]
   have hwn:e8 (jj ins++gn) (tx (jj ins++gn) o.2)=some o.2:=by
    have:=B7 (wy T G) (n:=(jj ins++gn).length) (l:=o.2) fun w hw=>⟨s_ w hw,s_ w hw⟩
    rwa [List.take_length] at this
   simp only[hwn];show Except.ok _=Except.ok _;simp
theorem sE(T:TN ins gs os)(G:GN ins gs.length gn):uV ((uU ins gs os gn).map (Str.join SP))= .ok ⟨ins,gs,os,ins.map (·.1)++gn,jj ins++gn⟩:=by
 have h1:=vI T.ind T.inm T.iw T.i6 ins.length (Nat.le_refl _);have h2:=q_ T G gs.length (Nat.le_refl _);have h3:=su T G os.length (Nat.le_refl _);have hz:(gs.zip gn).length=gs.length:=by rw[List.length_zip,G.len];omega
 rw[List.take_length] at h1 h3;rw[List.take_of_length_le (by rw[hz];exact Nat.le_refl _),List.take_length,List.take_of_length_le (by rw[G.len];exact Nat.le_refl _),List.take_of_length_le (by rw[List.length_append,gA,G.len];exact Nat.le_refl _)] at h2
 have hl:((uU ins gs os gn).map (Str.join SP)).length<=80:=by
  unfold uU;simp only[List.length_map,List.length_append,hz];have:=T.i6;have:=T.g60;have:=T.o6;omega
 unfold uV;rw[if_neg (by omega)]
 have:(uU ins gs os gn).map (Str.join SP)=(ins.map fun x=>Str.join SP (vS x))++((gs.zip gn).map fun p=>Str.join SP (pU (jj ins++gn) p.1 p.2))++(os.map fun o=>Str.join SP (p6 (jj ins++gn) o)):=by
  unfold uU;simp only[List.map_append,List.map_map];rfl
 rw[this,jS,jS,h1];simp only;rw[h2];simp only;rw[h3];simp only;rw[if_neg];rintro(q | q)
 .have:=T.i1;rw [q] at this;simp at this
 .have:=T.o1;rw [q] at this;simp at this
end
end TX
end
section
namespace TX
open PySem PySem.Spec PyProof.Rows L2 L3 MT JT
theorem tE{t:FG}{F:FZ}{v:V3}{vs:List V3}{δ δ1:DE}{S:aP}{Q:Ou->aP->Prop}(ht:t v δ=some δ1)(h:W3 (F δ1 S) fun o S1=>∃g9,o= .nx g9/\W3 (eB t F vs g9 S1) Q):W3 (eB t F (v ::vs) δ S) Q:=by
 unfold eB;rw[ht];exact W3.bind (h.mono fun o S1 ⟨g9,e,q⟩=>by subst e;exact q)
theorem IA{δ:DE}{S:aP}{Q:Ou->aP->Prop}(h:Q (.nx δ) S):W3 (eB t F [] δ S) Q:=W3.ok h
theorem qD{c:Nat}:∀{l:WJ} {d:Nat},d∈jn c l->d=c\/∃x∈l,d∈x
 | [],d,h=>by cases h
 | [x],d,h=> .inr ⟨x,List.mem_cons_self,h⟩
 | x ::y ::r,d,h=>by
   rcases List.mem_append.mp h with z | z
   .exact .inr ⟨x,List.mem_cons_self,z⟩
   .rcases List.mem_cons.mp z with z | z
    .exact .inl z
    .rcases qD z with z | ⟨w,hw,z⟩
     .exact .inl z
     .exact .inr ⟨w,List.mem_cons_of_mem _ hw,z⟩
theorem B_{c:Nat}:∀(l:WJ),(jn c l).length<=(l.map (·.length)).sum+l.length
 | []=>by simp [jn]
 | [x]=>by simp [jn]
 | x ::y ::r=>by
   have:=B_ (c:=c) (y ::r);show(x++c ::jn c (y ::r)).length<=_;rw[List.length_append,List.length_cons,List.map_cons,List.sum_cons,List.length_cons];omega
theorem yP(s:Str):s.length=s.cps.toList.length:=by rw[Array.length_toList];rfl
theorem vH{c:Nat}{l:List Str}{m:Nat}(h:∀s∈l,s.length<=m):(Str.join ⟨#[c]⟩ l).length<=l.length*(m+1):=by
 rw[yP,jT];have h1:=B_ (c:=c) (l.map fun s=>s.cps.toList)
 have h2:=ua (l:=(l.map fun s=>s.cps.toList).map (·.length)) (m:=m) fun x hx=>by
  obtain⟨y,hy,rfl⟩:=List.mem_map.mp hx;obtain⟨s,hs,rfl⟩:=List.mem_map.mp hy;rw[<-yP];exact h s hs
 rw[List.length_map,List.length_map] at h2;rw[List.length_map] at h1;rw[Nat.mul_add,Nat.mul_one];omega
theorem vK{c d:Nat}{l:List Str}(h:d∈(Str.join ⟨#[c]⟩ l).cps.toList):d=c\/∃s∈l,d∈s.cps.toList:=by
 rw[jT] at h;rcases qD h with z | ⟨x,hx,z⟩
 .exact .inl z
 .obtain⟨s,hs,rfl⟩:=List.mem_map.mp hx;exact .inr ⟨s,hs,z⟩
structure Ro (r:Str):Prop where
 len:r.length<=110
 cps:∀c∈r.cps.toList,32<=c/\c < 128
theorem uH{ws:List Str}(hl:ws.length<=10)(h:∀w∈ws,Wo w):Ro (Str.join SP ws):=by
 rw[CS];refine⟨?_,fun c hc=>?_⟩
 .have:=vH (c:=32) (m:=10) fun w hw=>(h w hw).len
  omega
 .rcases vK hc with z | ⟨w,hw,z⟩
  .omega
  .have:=(h w hw).cps c z;omega
section
variable {rs:List Str}
theorem x5(h0:rs≠[])(h:∀r∈rs,Ro r):Txt.split (Str.join NL rs) NL=rs:=by
 rw[uY];exact qM h0 fun r hr hc=>by have:=(h r hr).cps 10 hc;omega
theorem Bv(UI:rs.length<=5000)(h:∀r∈rs,Ro r):(Str.join NL rs).length<=600000:=by
 rw[uY];have:=vH (c:=10) (m:=110) fun r hr=>(h r hr).len
 omega
theorem Du(h:∀r∈rs,Ro r):∀c∈(Str.join NL rs).cps.toList,c < 128:=fun c hc=>by
 rw[uY] at hc;rcases vK hc with z | ⟨w,hw,z⟩
 .omega
 .have:=(h w hw).cps c z;omega
theorem Az(UI:rs.length<=5000)(h:∀r∈rs,Ro r):ie (.str NL) [.lst (rs.map .str)]= .ok (.str (Str.join NL rs)):=by
 refine tT ?_;have h2:=ua (l:=rs.map (·.length)) (m:=110) fun x hx=>by obtain⟨s,hs,rfl⟩:=List.mem_map.mp hx;exact(h s hs).len
 rw[List.length_map] at h2;have:NL.length=1:=by decide+kernel
 rw[this];omega
end
section
variable {ins:WH} {gs:List Gt} {os:WI} {gn:List Str}
theorem ze(T:TN ins gs os)(G:GN ins gs.length gn):(uU ins gs os gn).length=ins.length+gs.length+os.length:=by
 have:=G.len;unfold uU;simp only[List.length_append,List.length_map,List.length_zip];omega
theorem B6(T:TN ins gs os)(G:GN ins gs.length gn):∀r∈(uU ins gs os gn).map (Str.join SP),Ro r:=fun r hr=>by
 have hWo:=FP T G;have Hc:=G.len;have hWl:(jj ins++gn).length=j9 ins+gs.length:=by rw[List.length_append,gA,Hc]
 obtain⟨ws,hws,rfl⟩:=List.mem_map.mp hr;unfold uU at hws;rcases List.mem_append.mp hws with z | z
 .rcases List.mem_append.mp z with z | z
  .obtain⟨x,hx,rfl⟩:=List.mem_map.mp z;exact uH (by unfold vS;simp) (wQ (T.inm x hx))
  .obtain⟨⟨g,n⟩,hp,rfl⟩:=List.mem_map.mp z;obtain⟨i,hi⟩:=List.mem_iff_getElem?.mp hp;obtain⟨hg,hn⟩:=List.getElem?_zip_eq_some.mp hi;have gok:=T.gok i g hg;have:=(List.getElem?_eq_some_iff.mp hg).1;have:=vQ g.1;refine uH (by unfold pU tx;simp;rw [gok.2.1];omega) (xC (G.nm n (List.mem_of_getElem? hn)) (fun y hy=>(hWo y hy).1) fun w hw=>?_)
   have:=gok.2.2 w hw;omega
 .obtain⟨o,ho,rfl⟩:=List.mem_map.mp z;obtain⟨o1,o2,o3⟩:=T.ow o ho;exact uH (by unfold p6 tx;simp;omega) (xl (T.onm o ho) (fun y hy=>(hWo y hy).1) fun w hw=>by have:=o3 w hw;omega)
def V2(ins:WH)(gs:List Gt)(os:WI)(gn:List Str):Str:=Str.join NL ((uU ins gs os gn).map (Str.join SP))
theorem Bc(h:isNm s=true):g_ 0 (.str s):=by
 refine g_.str ?_;unfold PyData.canLay0 PyData.strOk;rw[<-Array.all_toList,List.all_eq_true];intro c hc;have:=(dE.mp h).2.2.2 c hc;exact decide_eq_true (by omega)
theorem Ic(k:Nat):g_ 0 (.str (kS k)):=by
 refine g_.str ?_;unfold kS;split <;> decide+kernel
theorem BV(w:List Nat):g_ 1 (.tup (w.map nI)):=g_.tup fun d hd=>by obtain⟨x,_,rfl⟩:=List.mem_map.mp hd;exact g_.int x
theorem D8(hi:∀x∈ins,isNm x.1=true)(ho:∀x∈os,isNm x.1=true):g_ 4 (dQ ins gs os):=g_.tup fun d hd=>by
 simp only[List.mem_cons,List.not_mem_nil,or_false] at hd;rcases hd with rfl | rfl | rfl
 .exact g_.lst (n:=2) fun d hd=>by
   obtain⟨x,hx,rfl⟩:=List.mem_map.mp hd;exact g_.tup (n:=1) fun d hd=>by
    simp only[List.mem_cons,List.not_mem_nil,or_false] at hd;rcases hd with rfl | rfl
    .exact(Bc (hi x hx)).mono (by omega)
    .exact(g_.int _).mono (by omega)
 .exact g_.lst (n:=2) fun d hd=>by
   obtain⟨x,hx,rfl⟩:=List.mem_map.mp hd;exact g_.tup (n:=1) fun d hd=>by
    simp only[List.mem_cons,List.not_mem_nil,or_false] at hd;rcases hd with rfl | rfl | rfl
    .exact(Ic _).mono (by omega)
    .exact BV _
    .exact(g_.bl _).mono (by omega)
 .exact g_.lst (n:=2) fun d hd=>by
   obtain⟨x,hx,rfl⟩:=List.mem_map.mp hd;exact g_.tup (n:=1) fun d hd=>by
    simp only[List.mem_cons,List.not_mem_nil,or_false] at hd;rcases hd with rfl | rfl
    .exact(Bc (ho x hx)).mono (by omega)
    .exact BV _
theorem JC(T:TN ins gs os):pF (dQ ins gs os) (dQ ins gs os)= .ok (.bl true):=by
 have:=D8 (gs:=gs) T.inm T.onm;unfold pF dQ;rw [g_.eqT this (by omega)];rfl
inductive Sx:Nat->D->Prop where
 | int (n:Nat) (i:Int):Sx n (.int i)
 | bl (n:Nat) (b:Bool):Sx n (.bl b)
 | str (n:Nat) (s:Str):Sx n (.str s)
 | lst {n:Nat} {ds:List D} (h:∀d∈ds,Sx n d) (hl:ds.length < 1000000):Sx (n+1) (.lst ds)
 | tup {n:Nat} {ds:List D} (h:∀d∈ds,Sx n d) (hl:ds.length < 1000000):Sx (n+1) (.tup ds)
theorem HM(T:TN ins gs os):Sx 4 (dQ ins gs os):=by
 have h6:=T.i6;have h60:=T.g60;have ho6:=T.o6;refine Sx.tup (fun d hd=>?_) (by show 3 < _;omega)
 simp only[List.mem_cons,List.not_mem_nil,or_false] at hd;rcases hd with rfl | rfl | rfl
 .refine Sx.lst (n:=2) (fun d hd=>?_) (by rw[List.length_map];omega)
  obtain⟨x,hx,rfl⟩:=List.mem_map.mp hd;refine Sx.tup (n:=1) (fun d hd=>?_) (by show 2 < _;omega)
  simp only[List.mem_cons,List.not_mem_nil,or_false] at hd;rcases hd with rfl | rfl
  .exact Sx.str _ _
  .exact Sx.int _ _
 .refine Sx.lst (n:=2) (fun d hd=>?_) (by rw[List.length_map];omega)
  obtain⟨x,hx,rfl⟩:=List.mem_map.mp hd;obtain⟨i,hi⟩:=List.mem_iff_getElem?.mp hx;have hl:=(T.gok i x hi).2.1;have:=vQ x.1;refine Sx.tup (n:=1) (fun d hd=>?_) (by show 3 < _;omega)
  simp only[List.mem_cons,List.not_mem_nil,or_false] at hd;rcases hd with rfl | rfl | rfl
  .exact Sx.str _ _
  .exact Sx.tup (n:=0) (fun d hd=>by obtain⟨y,_,rfl⟩:=List.mem_map.mp hd;exact Sx.int _ _) (by rw[List.length_map];omega)
  .exact Sx.bl _ _
 .refine Sx.lst (n:=2) (fun d hd=>?_) (by rw[List.length_map];omega)
  obtain⟨x,hx,rfl⟩:=List.mem_map.mp hd;have:=(T.ow x hx).2.1;refine Sx.tup (n:=1) (fun d hd=>?_) (by show 2 < _;omega)
  simp only[List.mem_cons,List.not_mem_nil,or_false] at hd;rcases hd with rfl | rfl
  .exact Sx.str _ _
  .exact Sx.tup (n:=0) (fun d hd=>by obtain⟨y,_,rfl⟩:=List.mem_map.mp hd;exact Sx.int _ _) (by rw[List.length_map];omega)
theorem TN.T9(T:TN ins gs os)(G:GN ins gs.length gn)(h:5 < gn.length):TN ins gs ((List.range os.length).map fun p=>(gn.getD p Str.empty,(os.getD p (Str.empty,[])).2)):=by
 have ho6:=T.o6;refine {T with o1:=by rw[List.length_map,List.length_range];exact T.o1,o6:=by rw[List.length_map,List.length_range];exact T.o6,ond:=?_,onm:=fun x hx=>?_,ow:=fun x hx=>?_}
 .rw [List.map_map];have:(List.range os.length).map ((fun x:Str × List Nat=>x.1) ∘ fun p=>(gn.getD p Str.empty,(os.getD p (Str.empty,[])).2))=gn.take os.length:=by
   refine List.ext_getElem? fun i=>?_
   rw[List.getElem?_map];by_cases hi:i < os.length
   .rw [List.getElem?_take,if_pos hi,List.getElem?_range hi,List.getElem?_eq_getElem (show i < gn.length by omega)]
    simp [List.getD_eq_getElem?_getD,List.getElem?_eq_getElem (show i < gn.length by omega)]
   .rw [List.getElem?_take,if_neg hi,List.getElem?_eq_none (by rw[List.length_range];omega)];rfl
  rw[this];exact(List.take_sublist _ _).nodup G.nd
 .obtain⟨p,hp,rfl⟩:=List.mem_map.mp hx;have hp:=List.mem_range.mp hp;refine G.nm _ ?_;show gn.getD p _∈gn;rw[List.getD_eq_getElem?_getD,List.getElem?_eq_getElem (show p < gn.length by omega)]
  exact List.getElem_mem _
 .obtain⟨p,hp,rfl⟩:=List.mem_map.mp hx;have hp:=List.mem_range.mp hp;show 1<=(os.getD p _).2.length/\_;rw[List.getD_eq_getElem?_getD,List.getElem?_eq_getElem hp];exact T.ow _ (List.getElem_mem _)
end
end TX
end
section
set_option maxHeartbeats 4000000
namespace K02
open PySem PySem.Spec PyProof.Rows L2 L3
variable {P:Program} {w:World} {K:W.Frag} {mg:WK} {base:Heap} {cl:WL}
def top(i:Nat):Stmt:=PySem.Challenge.pw_bearfaults_k02_whole_nets_read.main.body.getD i (.Pass ⟨0,0,0,0⟩)
def dR:D:=(.int 8)
def lL:D:=(.tup [(.str "in"),(.str "gate"),(.str "sure"),(.str "out"),(.str "not"),(.str "and"),(.str "or"),(.str "xor"),(.str "vote")])
def jU:D:=(.str "abcdefghijklmnopqrstuvwxyz")
def jN:D:=(.tup [(.str "0"),(.str "1"),(.str "2"),(.str "3"),(.str "4"),(.str "5"),(.str "6"),(.str "7"),(.str "8"),(.str "9")])
def di:D:=(.int 3)
def iT:D:=(.int 6)
def fw:D:=(.int 60)
def gW:D:=(.int 6)
def gL:D:=(.int 80)
def me:List (Str × Int):=[("1",1),("2",2),("3",3)]
def gy:List (Str × Int):=[("not",1),("and",2),("or",2),("xor",2),("vote",3)]
structure Tp (P:Program) (w:World) (K:W.Frag) (mg:WK) (cl:WL):Prop where
 z_len:mg "len"=none
 z_all:mg "all"=none
 z_range:mg "range"=none
 z_tuple:mg "tuple"=none
 z_min:mg "min"=none
 z_int:mg "int"=none
 z_sum:mg "sum"=none
 z_str:mg "str"=none
 z_enumerate:mg "enumerate"=none
 z_isinstance:mg "isinstance"=none
 z_list:mg "list"=none
 z_bool:mg "bool"=none
 dR:Glob K mg "MOST_LETTERS" dR
 lL:Glob K mg "BARRED" lL
 jU:Glob K mg "LETTERS" jU
 jN:Glob K mg "FIGURES" jN
 di:Glob K mg "MOST_OUT_WIRES" di
 iT:Glob K mg "MOST_INS" iT
 fw:Glob K mg "MOST_GATES" fw
 gW:Glob K mg "MOST_OUTS" gW
 gL:Glob K mg "MOST_ROWS" gL
 gd_WIDTHS:lH P w K mg "WIDTHS" me
 gd_KIND_WIRES:lH P w K mg "KIND_WIRES" gy
 C_Draft:vt K (cl 0)
 N_Draft_ins:c9 K (cl 0) "ins"
 N_Draft_gates:c9 K (cl 0) "gates"
 N_Draft_outs:c9 K (cl 0) "outs"
 N_Draft_names:c9 K (cl 0) "names"
 N_Draft_out_names:c9 K (cl 0) "out_names"
 N_Draft_numbers:c9 K (cl 0) "numbers"
 M_Draft:mg "Draft"=some (.ref (cl 0))
 M_FaultError:mg "FaultError"=some (.ref (cl 1))
 M_TooLong:mg "TooLong"=some (.ref (cl 2))
 M_NoForm:mg "NoForm"=some (.ref (cl 3))
 M_NoPlace:mg "NoPlace"=some (.ref (cl 4))
 M_Twice:mg "Twice"=some (.ref (cl 5))
 M_Full:mg "Full"=some (.ref (cl 6))
 M_NoWire:mg "NoWire"=some (.ref (cl 7))
 M_Open:mg "Open"=some (.ref (cl 8))
 X_TooLong:XC K (cl 2)
 X_NoForm:XC K (cl 3)
 X_NoPlace:XC K (cl 4)
 X_Twice:XC K (cl 5)
 X_Full:XC K (cl 6)
 X_NoWire:XC K (cl 7)
 X_Open:XC K (cl 8)
abbrev jJ:Stmt:=top 21
noncomputable abbrev oX:List Str:=["word"]
noncomputable def xN:{b:List Stmt // aR jJ=b}:=⟨_,by conv=>lhs;whnf⟩
noncomputable def mW:{b:Scope // aF jJ=b}:=⟨_,by conv=>lhs;whnf⟩
theorem Ah:bc oX ["word"] mW.1:=⟨rfl,rfl,rfl,by decide+kernel,rfl,by decide+kernel,by decide+kernel⟩
def sU:FS:=(bF (q8 (ya (b2 Kl (aM fN (aj (af 0) aL)) (eC (.int 1))) (ya (b2 Io (aM fN (aj (af 0) aL)) (eC dR)) (b2 yt (af 0) (eC lL)))) (eK (eC (.bl false))) ku) (eK (aM BZ (aj (eNew (cx (DC (af 0)) (aA 0) jB (e2 yt (af 0) (eC jU)) ["sign"] [])) aL))))
def dr:List D->R D:=qe oX sU
theorem Ar(T:Tp P w K mg cl)(h:Def K mg "is_name" jJ):Callee P w K mg base 1 "is_name" 1 dr:=by
 obtain⟨f,fd,F,hm⟩:=h;exact⟨f,fd,_,bS (k:=0) xN.2 mW.2 F Ah (fun dD A outer s H E hr=>(au (dN (ij (ig (bH ED (bo fu rfl T.z_len PySem.boot_len (ae (aa 0) ah)) ai (bC _)) (ig (bH CM (bo fu rfl T.z_len PySem.boot_len (ae (aa 0) ah)) (fq T.dR rfl) (bC _)) (jW (bH z_ (aa 0) (fq T.lL rfl) (by with_unfolding_all rfl)))))) (aK (bh i3)) cZ) (aK (bh (bo (GU rfl) rfl T.z_all PyProof.Rows.boot_all (ae (bA (dk rfl (bG.of (own:=["sign"]) (kp:=[]) (kn:=[]) (sc:=mW.1) (N:=oX) rfl rfl (by decide+kernel)) (A9 (aa 0)) (fun _ _ _=>(aI (show List.Nodup [(Str.ofString "sign")] from by decide+kernel) rfl (Or.inl rfl))) (fun _ _ _=>cC) (fun _ _ _=>(dM z_ (aa 0) (fq T.jU rfl) (by with_unfolding_all rfl))))) ah)))))),hm,F.kp,F.binds fun _ _ _ _ _ _ us hl=>match us,hl with | [_],_=>rfl⟩
abbrev i7:Stmt:=top 22
noncomputable abbrev m6:List Str:=["name","width"]
noncomputable def wA:{b:List Stmt // aR i7=b}:=⟨_,by conv=>lhs;whnf⟩
noncomputable def k7:{b:Scope // aF i7=b}:=⟨_,by conv=>lhs;whnf⟩
theorem x6:bc m6 ["name","width"] k7.1:=⟨rfl,rfl,rfl,by decide+kernel,rfl,by decide+kernel,by decide+kernel⟩
def q0:FS:=(bF (q8 (b2 pF (af 1) (eC (.int 1))) (eK (eNew (eG (aj (af 0) aL)))) ku) (eK (eNew (cx (d8 (af 1)) (aA 0) jB (c3 (bO (jR (af 1)) (bO (eC (.str ":")) (bO (jR (af 0)) m4)))) ["figure"] [0]))))
def i0:List D->R D:=qe m6 q0
theorem xf(T:Tp P w K mg cl)(h:Def K mg "in_wires" i7):Callee P w K mg base 1 "in_wires" 2 i0:=by
 obtain⟨f,fd,F,hm⟩:=h;exact⟨f,fd,_,bS (k:=0) wA.2 k7.2 F x6 (fun dD A outer s H E hr=>(au (dN (bH (m5 hr.units) (aa 1) ai (bC _)) (aK (bh (bA (bV (ae (aa 0) ah))))) cZ) (aK (bh (bA (dk rfl (bG.of (own:=["figure"]) (kp:=[0]) (kn:=["name"]) (sc:=k7.1) (N:=m6) rfl rfl (by decide+kernel)) (c2 (aa 1) rfl T.z_range) (fun _ _ _=>(aI (show List.Nodup [(Str.ofString "figure"),"name"] from by decide+kernel) rfl (Or.inl rfl))) (fun _ _ _=>cC) (fun _ _ _=>(cI (aU (fH (aa 1)) (aU ax (aU (fH (aa 0)) fj))))))))))),hm,F.kp,F.binds fun _ _ _ _ _ _ us hl=>match us,hl with | [_,_],_=>rfl⟩
abbrev dU:Stmt:=top 23
noncomputable abbrev iW:List Str:=["word","parts"]
noncomputable def pT:{b:List Stmt // aR dU=b}:=⟨_,by conv=>lhs;whnf⟩
noncomputable def kH:{b:Scope // aF dU=b}:=⟨_,by conv=>lhs;whnf⟩
theorem lE:bc iW ["word"] kH.1:=⟨rfl,rfl,rfl,by decide+kernel,rfl,by decide+kernel,by decide+kernel⟩
def lQ:FS:=(bF (cR 1 (wL "str" va (af 0) (aj (eC (.str ":")) aL))) (eK (pM (aM dr (aj (e2 df (af 1) (eC (.int 0))) aL)) (Kv (e2 pF (e2 df (af 1) (eC (.int 1))) (eC (.str ""))) (e2 yt (e2 df (af 1) (eC (.int 2))) (eC jN))))))
def dY:List D->R D:=qe iW lQ
theorem qY(T:Tp P w K mg cl)(h:Def K mg "is_wire_form" dU)(cV:Callee P w K mg base 1 "is_name" 1 dr):Callee P w K mg base 2 "is_wire_form" 1 dY:=by
 obtain⟨f,fd,F,hm⟩:=h;exact⟨f,fd,_,bS (k:=1) pT.2 kH.2 F lE (fun dD A outer s H E hr=>(au (bf lE.nd rfl (Or.inl rfl) (rQ (aa 0) (ae ax ah))) (aK (bh (jk (aJ cV hr (by decide) rfl (ae (aV (aa 1) ai (fun _ _=>rfl)) ah) (ao aQ)) (mf (Ib (dM (m5 hr.units) (aV (aa 1) ai (fun _ _=>rfl)) ax (bC _)) (mf (dM z_ (aV (aa 1) ai (fun _ _=>rfl)) (fq T.jN rfl) (by with_unfolding_all rfl)))))))))),hm,F.kp,F.binds fun _ _ _ _ _ _ us hl=>match us,hl with | [_],_=>rfl⟩
abbrev dt:Stmt:=top 24
noncomputable abbrev f6:List Str:=["words"]
noncomputable def nP:{b:List Stmt // aR dt=b}:=⟨_,by conv=>lhs;whnf⟩
noncomputable def fG:{b:Scope // aF dt=b}:=⟨_,by conv=>lhs;whnf⟩
theorem oY:bc f6 ["words"] fG.1:=⟨rfl,rfl,rfl,by decide+kernel,rfl,by decide+kernel,by decide+kernel⟩
def jQ:FS:=(eK (aM BZ (aj (eNew (cx (cP (af 0)) (aA 0) jB (aM dY (aj (af 0) aL)) ["word"] [])) aL)))
def b5:List D->R D:=qe f6 jQ
theorem o5(T:Tp P w K mg cl)(h:Def K mg "are_wire_forms" dt)(jb:Callee P w K mg base 2 "is_wire_form" 1 dY):Callee P w K mg base 3 "are_wire_forms" 1 b5:=by
 obtain⟨f,fd,F,hm⟩:=h;exact⟨f,fd,_,bS (k:=2) nP.2 fG.2 F oY (fun dD A outer s H E hr=>(aK (bh (bo (GU rfl) rfl T.z_all PyProof.Rows.boot_all (ae (bA (dk rfl (bG.of (own:=["word"]) (kp:=[]) (kn:=[]) (sc:=fG.1) (N:=f6) rfl rfl (by decide+kernel)) (bZ (aa 0)) (fun _ _ _=>(aI (show List.Nodup [(Str.ofString "word")] from by decide+kernel) rfl (Or.inl rfl))) (fun _ _ _=>cC) (fun _ _ _=>(aJ jb hr (by decide) rfl (ae (aa 0) ah) (ao aQ))))) ah))))),hm,F.kp,F.binds fun _ _ _ _ _ _ us hl=>match us,hl with | [_],_=>rfl⟩
abbrev fI:Stmt:=top 25
noncomputable abbrev kj:List Str:=["words"]
noncomputable def rY:{b:List Stmt // aR fI=b}:=⟨_,by conv=>lhs;whnf⟩
noncomputable def mL:{b:Scope // aF fI=b}:=⟨_,by conv=>lhs;whnf⟩
theorem tJ:bc kj ["words"] mL.1:=⟨rfl,rfl,rfl,by decide+kernel,rfl,by decide+kernel,by decide+kernel⟩
def nS:FS:=(eK (pM (e2 pF (aM fN (aj (af 0) aL)) (eC (.int 3))) (pM (e2 pF (e2 df (af 0) (eC (.int 0))) (eC (.str "in"))) (pM (aM dr (aj (e2 df (af 0) (eC (.int 1))) aL)) (IL me (e2 df (af 0) (eC (.int 2))))))))
def fE:List D->R D:=qe kj nS
theorem t6(T:Tp P w K mg cl)(h:Def K mg "is_in_form" fI)(cV:Callee P w K mg base 1 "is_name" 1 dr):Callee P w K mg base 2 "is_in_form" 1 fE:=by
 obtain⟨f,fd,F,hm⟩:=h;exact⟨f,fd,_,bS (k:=1) rY.2 mL.2 F tJ (fun dD A outer s H E hr=>(aK (bh (jk (dM (m5 hr.units) (bo fu rfl T.z_len PySem.boot_len (ae (aa 0) ah)) ai (bC _)) (jk (dM (m5 hr.units) (aV (aa 0) ai (fun _ _=>rfl)) ax (bC _)) (jk (aJ cV hr (by decide) rfl (ae (aV (aa 0) ai (fun _ _=>rfl)) ah) (ao aQ)) (mf (F6 (j6 hr) (aV (aa 0) ai (fun _ _=>rfl)) T.gd_WIDTHS rfl)))))))),hm,F.kp,F.binds fun _ _ _ _ _ _ us hl=>match us,hl with | [_],_=>rfl⟩
abbrev d4:Stmt:=top 26
noncomputable abbrev fA:List Str:=["words","wires"]
noncomputable def pP:{b:List Stmt // aR d4=b}:=⟨_,by conv=>lhs;whnf⟩
noncomputable def kE:{b:Scope // aF d4=b}:=⟨_,by conv=>lhs;whnf⟩
theorem lP:bc fA ["words"] kE.1:=⟨rfl,rfl,rfl,by decide+kernel,rfl,by decide+kernel,by decide+kernel⟩
def kZ:FS:=(bF (q8 (ya (b2 Kl (aM fN (aj (af 0) aL)) (eC (.int 4))) (b2 jy (e2 df (af 0) (eC (.int 0))) (n_ (aj (eC (.str "gate")) (aj (eC (.str "sure")) aL))))) (eK (eC (.bl false))) ku) (bF (q8 (ya (rW (nE (aM dr (aj (e2 df (af 0) (eC (.int 1))) aL)))) (I_ gy (e2 df (af 0) (eC (.int 2))))) (eK (eC (.bl false))) ku) (bF (cR 1 (xK (af 0) (ib (eC (.int 3))) kL)) (eK (pM (e2 pF (aM fN (aj (af 1) aL)) (vk gy (e2 df (af 0) (eC (.int 2))))) (aM b5 (aj (af 1) aL)))))))
def dX:List D->R D:=qe fA kZ
theorem qP(T:Tp P w K mg cl)(h:Def K mg "is_gate_form" d4)(cV:Callee P w K mg base 1 "is_name" 1 dr)(cF:Callee P w K mg base 3 "are_wire_forms" 1 b5):Callee P w K mg base 4 "is_gate_form" 1 dX:=by
 obtain⟨f,fd,F,hm⟩:=h;exact⟨f,fd,_,bS (k:=3) pP.2 kE.2 F lP (fun dD A outer s H E hr=>(au (dN (ij (ig (bH ED (bo fu rfl T.z_len PySem.boot_len (ae (aa 0) ah)) ai (bC _)) (jW (bH qa (aV (aa 0) ai (fun _ _=>rfl)) (gu (ae ax (ae ax ah))) (by with_unfolding_all rfl))))) (aK (bh i3)) cZ) (au (dN (ij (ig (n5 (iz (aJ cV hr (by decide) rfl (ae (aV (aa 0) ai (fun _ _=>rfl)) ah) (ao aQ)))) (jW (Ef (j6 hr) (aV (aa 0) ai (fun _ _=>rfl)) T.gd_KIND_WIRES rfl)))) (aK (bh i3)) cZ) (au (bf lP.nd rfl (Or.inl rfl) (lO (aa 0) (fB ai) ja)) (aK (bh (jk (dM (m5 hr.units) (bo fu rfl T.z_len PySem.boot_len (ae (aa 1) ah)) (vx (aV (aa 0) ai (fun _ _=>rfl)) T.gd_KIND_WIRES rfl (fun _ _=>rfl)) (bC _)) (mf (aJ cF hr (by decide) rfl (ae (aa 1) ah) (ao aQ)))))))))),hm,F.kp,F.binds fun _ _ _ _ _ _ us hl=>match us,hl with | [_],_=>rfl⟩
abbrev eJ:Stmt:=top 27
noncomputable abbrev jx:List Str:=["words","wires"]
noncomputable def rp:{b:List Stmt // aR eJ=b}:=⟨_,by conv=>lhs;whnf⟩
noncomputable def lU:{b:Scope // aF eJ=b}:=⟨_,by conv=>lhs;whnf⟩
theorem mK:bc jx ["words"] lU.1:=⟨rfl,rfl,rfl,by decide+kernel,rfl,by decide+kernel,by decide+kernel⟩
def mG:FS:=(bF (q8 (ya (b2 Kl (aM fN (aj (af 0) aL)) (eC (.int 3))) (ya (b2 yN (e2 df (af 0) (eC (.int 0))) (eC (.str "out"))) (rW (nE (aM dr (aj (e2 df (af 0) (eC (.int 1))) aL)))))) (eK (eC (.bl false))) ku) (bF (cR 1 (xK (af 0) (ib (eC (.int 2))) kL)) (eK (pM (e2 NA (aM fN (aj (af 1) aL)) (eC di)) (aM b5 (aj (af 1) aL))))))
def eM:List D->R D:=qe jx mG
theorem rO(T:Tp P w K mg cl)(h:Def K mg "is_out_form" eJ)(cV:Callee P w K mg base 1 "is_name" 1 dr)(cF:Callee P w K mg base 3 "are_wire_forms" 1 b5):Callee P w K mg base 4 "is_out_form" 1 eM:=by
 obtain⟨f,fd,F,hm⟩:=h;exact⟨f,fd,_,bS (k:=3) rp.2 lU.2 F mK (fun dD A outer s H E hr=>(au (dN (ij (ig (bH ED (bo fu rfl T.z_len PySem.boot_len (ae (aa 0) ah)) ai (bC _)) (ig (bH (Dj hr.units) (aV (aa 0) ai (fun _ _=>rfl)) ax (bC _)) (jW (n5 (iz (aJ cV hr (by decide) rfl (ae (aV (aa 0) ai (fun _ _=>rfl)) ah) (ao aQ)))))))) (aK (bh i3)) cZ) (au (bf mK.nd rfl (Or.inl rfl) (lO (aa 0) (fB ai) ja)) (aK (bh (jk (dM Ox (bo fu rfl T.z_len PySem.boot_len (ae (aa 1) ah)) (fq T.di rfl) (bC _)) (mf (aJ cF hr (by decide) rfl (ae (aa 1) ah) (ao aQ))))))))),hm,F.kp,F.binds fun _ _ _ _ _ _ us hl=>match us,hl with | [_],_=>rfl⟩
abbrev bX:Stmt:=inClass (top 28) 1
noncomputable abbrev fk:List Str:=["self","name","width","wire"]
noncomputable def pR:{b:List Stmt // aR bX=b}:=⟨_,by conv=>lhs;whnf⟩
noncomputable def kF:{b:Scope // aF bX=b}:=⟨_,by conv=>lhs;whnf⟩
theorem lj:bc fk ["self","name","width"] kF.1:=⟨rfl,rfl,rfl,by decide+kernel,rfl,by decide+kernel,by decide+kernel⟩
def jM:FZ:=(mV (eE 0 "numbers" (cy 0)) (xP (af 3)) (vZ (eE 0 "numbers" (cy 0))))
def iK:FZ:=(dc (rL (wq (LM (k6 (eE 0 "gates" (cy 0))) (k6 (eE 0 "outs" (cy 0))))) (eX 4 (eF (bE (xP (c3 (bO (eC (.str "in ")) (bO (jR (af 1)) (bO (eC (.str " stands behind a gate or an out")) m4))))) ee))) km) (dc (rL (wq (yf false (xP (af 1)) (eE 0 "names" (cy 0)))) (eX 5 (eF (bE (xP (c3 (bO (eC (.str "there is an in ")) (bO (jR (af 1)) (bO (eC (.str " ahead")) m4))))) ee))) km) (dc (rL (wq (Lu Hn (vZ (eE 0 "ins" (cy 0))) (xP (eC iT)))) (eX 6 (eF (bE (xP (c3 (bO (eC (.str "in ")) (bO (jR (af 1)) (bO (eC (.str " is one too many")) m4))))) ee))) km) (AG (dc (mV (eE 0 "names" (cy 0)) (xP (af 1)) (xP (eC (.bl true)))) (dc (wm (iP (cP (aM i0 (aj (af 1) (aj (af 2) aL))))) (ER 3) jM) (kD (eE 0 "ins" (cy 0)) (xP (n_ (aj (af 1) (aj (af 2) aL)))))))))))
def cS:List V3->aP->R3 V3:=sL fk iK
def AH:List V3->aP->R3 V3:=yG fk iK
theorem dW(T:Tp P w K mg cl)(h:pL K (cl 0) "add_in" "Draft.add_in" bX)(nA:Callee P w K mg base 1 "in_wires" 2 i0):jq P w K mg base cl 2 0 "add_in" 2 cS:=by
 obtain⟨f,fd,F,hm⟩:=h;exact⟨f,fd,_,T.C_Draft,hm,jI (k:=1) pR.2 kF.2 F lj (fun dD A outer s H E hr=>(bR (fP (HS.pb (Cd (kY (cf T.C_Draft T.N_Draft_gates (bj 0))) (yy (kY (cf T.C_Draft T.N_Draft_outs (bj 0)))))) (bU (cT cU rfl T.X_NoPlace rfl T.M_NoPlace (dz (aY (aG (cI (aU ax (aU (fH (aa 1)) (aU ax fj))))) bY)))) d9) (bR (fP (tH (j6 hr) (aG (aa 1)) (cf T.C_Draft T.N_Draft_names (bj 0))) (bU (cT cU rfl T.X_Twice rfl T.M_Twice (dz (aY (aG (cI (aU ax (aU (fH (aa 1)) (aU ax fj))))) bY)))) d9) (bR (fP (uD EU (mj (cf T.C_Draft T.N_Draft_ins (bj 0)) rfl T.z_len) (aG (fq T.iT rfl)) (bC _)) (bU (cT cU rfl T.X_Full rfl T.M_Full (dz (aY (aG (cI (aU ax (aU (fH (aa 1)) (aU ax fj))))) bY)))) d9) (oh (cg (lF (j6 hr) (aG i3) (cf T.C_Draft T.N_Draft_names (bj 0)) (aG (aa 1))) (cg (BD yh rfl (nX (bZ (aJ nA hr (by decide) rfl (ae (aa 1) (ae (aa 2) ah)) (ao (ao aQ))))) (jH lj.nd rfl (Or.inl rfl)) (eT (lF (j6 hr) (mj (cf T.C_Draft T.N_Draft_numbers (bj 0)) rfl T.z_len) (cf T.C_Draft T.N_Draft_numbers (bj 0)) (aG (aa 3))))) (eT (FH (cf T.C_Draft T.N_Draft_ins (bj 0)) (aG (gu (ae (aa 1) (ae (aa 2) ah))))))))))))),F.binds fun _ _ _ _ _ _ us hl=>match us,hl with | [_,_,_],_=>rfl⟩
abbrev a_:Stmt:=inClass (top 28) 4
noncomputable abbrev b_:List Str:=["self","wires","wire"]
noncomputable def kQ:{b:List Stmt // aR a_=b}:=⟨_,by conv=>lhs;whnf⟩
noncomputable def dJ:{b:Scope // aF a_=b}:=⟨_,by conv=>lhs;whnf⟩
theorem gR:bc b_ ["self","wires"] dJ.1:=⟨rfl,rfl,rfl,by decide+kernel,rfl,by decide+kernel,by decide+kernel⟩
def fJ:FZ:=(rL (wq (yf true (xP (af 2)) (eE 0 "numbers" (cy 0)))) (eX 7 (eF (bE (xP (c3 (bO (eC (.str "there is no wire ")) (bO (jR (af 2)) (bO (eC (.str " ahead")) m4))))) ee))) km)
def d5:FZ:=(dc (wm (MD (iP (cP (af 1)))) (ER 2) fJ) (AG (uE (tW um (bE (qR (iP (cP (af 1))) (ER 0) F0 (CN (eE 0 "numbers" (cy 1)) (xP (af 0))) ["wire"] [0]) ee)))))
def bg:List V3->aP->R3 V3:=sL b_ d5
def uT:List V3->aP->R3 V3:=yG b_ d5
theorem ck(T:Tp P w K mg cl)(h:pL K (cl 0) "wire_numbers" "Draft.wire_numbers" a_):jq P w K mg base cl 1 0 "wire_numbers" 1 bg:=by
 obtain⟨f,fd,F,hm⟩:=h;exact⟨f,fd,_,T.C_Draft,hm,jI (k:=0) kQ.2 dJ.2 F gR (fun dD A outer s H E hr=>(bR (zo yh rfl (nX (bZ (aa 1))) (jH gR.nd rfl (Or.inl rfl)) (bU (fP (D9 (j6 hr) (aG (aa 2)) (cf T.C_Draft T.N_Draft_numbers (bj 0))) (bU (cT cU rfl T.X_NoWire rfl T.M_NoWire (dz (aY (aG (cI (aU ax (aU (fH (aa 2)) (aU ax fj))))) bY)))) d9))) (oh (eT (qO (zE yC rfl T.z_tuple PyProof.Rows.boot_tuple (aY (FL rfl (bG.of (own:=["wire"]) (kp:=[0]) (kn:=["self"]) (sc:=dJ.1) (N:=b_) rfl rfl (by decide+kernel)) (nX (bZ (aa 1))) (fun _ _ _=>(jH (show List.Nodup [(Str.ofString "wire"),"self"] from by decide+kernel) rfl (Or.inl rfl))) (fun _ _ _=>sf) (fun _ _ _=>(Ez (j6 hr) (cf T.C_Draft T.N_Draft_numbers (bj 1)) (aG (aa 0)) (fun _ _=>rfl)))) bY))))))),F.binds fun _ _ _ _ _ _ us hl=>match us,hl with | [_,_],_=>rfl⟩
abbrev bB:Stmt:=inClass (top 28) 2
noncomputable abbrev et:List Str:=["self","name","kind","wires","sure"]
noncomputable def ot:{b:List Stmt // aR bB=b}:=⟨_,by conv=>lhs;whnf⟩
noncomputable def js:{b:Scope // aF bB=b}:=⟨_,by conv=>lhs;whnf⟩
theorem oJ:bc et ["self","name","kind","wires","sure"] js.1:=⟨rfl,rfl,rfl,by decide+kernel,rfl,by decide+kernel,by decide+kernel⟩
def fX:FZ:=(dc (rL (wq (k6 (eE 0 "outs" (cy 0)))) (eX 4 (eF (bE (xP (c3 (bO (eC (.str "gate ")) (bO (jR (af 1)) (bO (eC (.str " stands behind an out")) m4))))) ee))) km) (dc (rL (wq (yf false (xP (af 1)) (eE 0 "names" (cy 0)))) (eX 5 (eF (bE (xP (c3 (bO (eC (.str "there is an in or a gate ")) (bO (jR (af 1)) (bO (eC (.str " ahead")) m4))))) ee))) km) (dc (rL (wq (Lu Hn (vZ (eE 0 "gates" (cy 0))) (xP (eC fw)))) (eX 6 (eF (bE (xP (c3 (bO (eC (.str "gate ")) (bO (jR (af 1)) (bO (eC (.str " is one too many")) m4))))) ee))) km) (dc (kD (rP (eE 0 "gates" (cy 0))) (wR (bE (rP (xP (af 2))) (bE (nO 0 "wire_numbers" bg (rP (cy 0)) (eF (bE (xP (af 3)) ee))) (bE (rP (xP (af 4))) ee))))) (AG (dc (mV (eE 0 "names" (cy 0)) (xP (af 1)) (xP (eC (.bl true)))) (mV (eE 0 "numbers" (cy 0)) (xP (af 1)) (vZ (eE 0 "numbers" (cy 0))))))))))
def cn:List V3->aP->R3 V3:=sL et fX
def yz:List V3->aP->R3 V3:=yG et fX
theorem dg(T:Tp P w K mg cl)(h:pL K (cl 0) "add_gate" "Draft.add_gate" bB)(bL:jq P w K mg base cl 1 0 "wire_numbers" 1 bg):jq P w K mg base cl 2 0 "add_gate" 4 cn:=by
 obtain⟨f,fd,F,hm⟩:=h;exact⟨f,fd,_,T.C_Draft,hm,jI (k:=1) ot.2 js.2 F oJ (fun dD A outer s H E hr=>(bR (fP (kY (cf T.C_Draft T.N_Draft_outs (bj 0))) (bU (cT cU rfl T.X_NoPlace rfl T.M_NoPlace (dz (aY (aG (cI (aU ax (aU (fH (aa 1)) (aU ax fj))))) bY)))) d9) (bR (fP (tH (j6 hr) (aG (aa 1)) (cf T.C_Draft T.N_Draft_names (bj 0))) (bU (cT cU rfl T.X_Twice rfl T.M_Twice (dz (aY (aG (cI (aU ax (aU (fH (aa 1)) (aU ax fj))))) bY)))) d9) (bR (fP (uD EU (mj (cf T.C_Draft T.N_Draft_gates (bj 0)) rfl T.z_len) (aG (fq T.fw rfl)) (bC _)) (bU (cT cU rfl T.X_Full rfl T.M_Full (dz (aY (aG (cI (aU ax (aU (fH (aa 1)) (aU ax fj))))) bY)))) d9) (bR (u6 (cf T.C_Draft T.N_Draft_gates (bj 0)) (yK (jP (xR (aG (aa 2))) (jP (lY iA bL hr (by decide) (bj 0) (aY (aG (aa 3)) bY) (cu gZ)) (jP (xR (aG (aa 4))) vb))))) (oh (cg (lF (j6 hr) (aG i3) (cf T.C_Draft T.N_Draft_names (bj 0)) (aG (aa 1))) (eT (lF (j6 hr) (mj (cf T.C_Draft T.N_Draft_numbers (bj 0)) rfl T.z_len) (cf T.C_Draft T.N_Draft_numbers (bj 0)) (aG (aa 1))))))))))),F.binds fun _ _ _ _ _ _ us hl=>match us,hl with | [_,_,_,_,_],_=>rfl⟩
abbrev bN:Stmt:=inClass (top 28) 3
noncomputable abbrev eR:List Str:=["self","name","wires"]
noncomputable def oK:{b:List Stmt // aR bN=b}:=⟨_,by conv=>lhs;whnf⟩
noncomputable def j0:{b:Scope // aF bN=b}:=⟨_,by conv=>lhs;whnf⟩
theorem pN:bc eR ["self","name","wires"] j0.1:=⟨rfl,rfl,rfl,by decide+kernel,rfl,by decide+kernel,by decide+kernel⟩
def hG:FZ:=(dc (rL (wq (yf false (xP (af 1)) (eE 0 "out_names" (cy 0)))) (eX 5 (eF (bE (xP (c3 (bO (eC (.str "there is an out ")) (bO (jR (af 1)) (bO (eC (.str " ahead")) m4))))) ee))) km) (dc (rL (wq (Lu Hn (vZ (eE 0 "outs" (cy 0))) (xP (eC gW)))) (eX 6 (eF (bE (xP (c3 (bO (eC (.str "out ")) (bO (jR (af 1)) (bO (eC (.str " is one too many")) m4))))) ee))) km) (dc (kD (rP (eE 0 "outs" (cy 0))) (wR (bE (rP (xP (af 1))) (bE (nO 0 "wire_numbers" bg (rP (cy 0)) (eF (bE (xP (af 2)) ee))) ee)))) (AG (mV (eE 0 "out_names" (cy 0)) (xP (af 1)) (xP (eC (.bl true))))))))
def cD:List V3->aP->R3 V3:=sL eR hG
def zG:List V3->aP->R3 V3:=yG eR hG
theorem dF(T:Tp P w K mg cl)(h:pL K (cl 0) "add_out" "Draft.add_out" bN)(bL:jq P w K mg base cl 1 0 "wire_numbers" 1 bg):jq P w K mg base cl 2 0 "add_out" 2 cD:=by
 obtain⟨f,fd,F,hm⟩:=h;exact⟨f,fd,_,T.C_Draft,hm,jI (k:=1) oK.2 j0.2 F pN (fun dD A outer s H E hr=>(bR (fP (tH (j6 hr) (aG (aa 1)) (cf T.C_Draft T.N_Draft_out_names (bj 0))) (bU (cT cU rfl T.X_Twice rfl T.M_Twice (dz (aY (aG (cI (aU ax (aU (fH (aa 1)) (aU ax fj))))) bY)))) d9) (bR (fP (uD EU (mj (cf T.C_Draft T.N_Draft_outs (bj 0)) rfl T.z_len) (aG (fq T.gW rfl)) (bC _)) (bU (cT cU rfl T.X_Full rfl T.M_Full (dz (aY (aG (cI (aU ax (aU (fH (aa 1)) (aU ax fj))))) bY)))) d9) (bR (u6 (cf T.C_Draft T.N_Draft_outs (bj 0)) (yK (jP (xR (aG (aa 1))) (jP (lY iA bL hr (by decide) (bj 0) (aY (aG (aa 2)) bY) (cu gZ)) vb)))) (oh (eT (lF (j6 hr) (aG i3) (cf T.C_Draft T.N_Draft_out_names (bj 0)) (aG (aa 1))))))))),F.binds fun _ _ _ _ _ _ us hl=>match us,hl with | [_,_,_],_=>rfl⟩
abbrev iY:Stmt:=top 29
noncomputable abbrev ki:List Str:=["draft","row","words"]
noncomputable def vq:{b:List Stmt // aR iY=b}:=⟨_,by conv=>lhs;whnf⟩
noncomputable def pd:{b:Scope // aF iY=b}:=⟨_,by conv=>lhs;whnf⟩
theorem qy:bc ki ["draft","row"] pd.1:=⟨rfl,rfl,rfl,by decide+kernel,rfl,by decide+kernel,by decide+kernel⟩
def m8:FZ:=(dc (AG (oT 2 (xP (wL "str" m7 (af 1) (aj (eC (.str " ")) aL))))) (rL (wq (bP (nE (aM fE (aj (af 2) aL))))) (si (nO 0 "add_in" cS (rP (cy 0)) (eF (bE (xP (e2 df (af 2) (eC (.int 1)))) (bE (xP (vk me (e2 df (af 2) (eC (.int 2))))) ee))))) (rL (wq (bP (nE (aM dX (aj (af 2) aL))))) (si (nO 0 "add_gate" cn (rP (cy 0)) (eF (bE (xP (e2 df (af 2) (eC (.int 1)))) (bE (xP (e2 df (af 2) (eC (.int 2)))) (bE (xP (xK (af 2) (ib (eC (.int 3))) kL)) (bE (xP (e2 pF (e2 df (af 2) (eC (.int 0))) (eC (.str "sure")))) ee))))))) (rL (wq (bP (nE (aM eM (aj (af 2) aL))))) (si (nO 0 "add_out" cD (rP (cy 0)) (eF (bE (xP (e2 df (af 2) (eC (.int 1)))) (bE (xP (xK (af 2) (ib (eC (.int 2))) kL)) ee))))) (eX 3 (eF (bE (xP (c3 (bO (eC (.str "a row of no form: ")) (bO (G0 (af 1)) m4)))) ee)))))))
def eZ:List V3->aP->R3 V3:=sL ki m8
def Gx:List V3->aP->R3 V3:=yG ki m8
theorem xh(T:Tp P w K mg cl)(h:Def K mg "read_row" iY)(kC:Callee P w K mg base 2 "is_in_form" 1 fE)(jh:Callee P w K mg base 4 "is_gate_form" 1 dX)(jG:Callee P w K mg base 4 "is_out_form" 1 eM)(hX:jq P w K mg base cl 2 0 "add_in" 2 cS)(fR:jq P w K mg base cl 2 0 "add_gate" 4 cn)(gh:jq P w K mg base cl 2 0 "add_out" 2 cD):fL P w K mg base cl 5 "read_row" 2 eZ:=by
 obtain⟨f,fd,F,hm⟩:=h;exact⟨f,fd,_,jI (k:=4) vq.2 pd.2 F qy (fun dD A outer s H E hr=>(bR (xk (lT qy.nd rfl (Or.inl rfl) (aG (sT (aa 1) (ae ax ah))))) (bU (fP (lR (iz (aJ kC hr (by decide) rfl (ae (aa 2) ah) (ao aQ)))) (bU (nH (lY iA hX hr (by decide) (bj 0) (aY (aG (aV (aa 2) ai (fun _ _=>rfl))) (aY (aG (vx (aV (aa 2) ai (fun _ _=>rfl)) T.gd_WIDTHS rfl (fun _ _=>rfl))) bY)) (cu (cu gZ))))) (bU (fP (lR (iz (aJ jh hr (by decide) rfl (ae (aa 2) ah) (ao aQ)))) (bU (nH (lY iA fR hr (by decide) (bj 0) (aY (aG (aV (aa 2) ai (fun _ _=>rfl))) (aY (aG (aV (aa 2) ai (fun _ _=>rfl))) (aY (aG (lO (aa 2) (fB ai) ja)) (aY (aG (dM (m5 hr.units) (aV (aa 2) ai (fun _ _=>rfl)) ax (bC _))) bY)))) (cu (cu (cu (cu gZ))))))) (bU (fP (lR (iz (aJ jG hr (by decide) rfl (ae (aa 2) ah) (ao aQ)))) (bU (nH (lY iA gh hr (by decide) (bj 0) (aY (aG (aV (aa 2) ai (fun _ _=>rfl))) (aY (aG (lO (aa 2) (fB ai) ja)) bY)) (cu (cu gZ))))) (bU (cT cU rfl T.X_NoForm rfl T.M_NoForm (dz (aY (aG (cI (aU ax (aU (BC (aa 1)) fj)))) bY)))))))))))),hm,F.kp,F.binds fun _ _ _ _ _ _ us hl=>match us,hl with | [_,_],_=>rfl⟩
abbrev bD:Stmt:=inClass (top 28) 0
noncomputable abbrev eo:List Str:=["self"]
noncomputable def oi:{b:List Stmt // aR bD=b}:=⟨_,by conv=>lhs;whnf⟩
noncomputable def jt:{b:Scope // aF bD=b}:=⟨_,by conv=>lhs;whnf⟩
theorem oP:bc eo ["self"] jt.1:=⟨rfl,rfl,rfl,by decide+kernel,rfl,by decide+kernel,by decide+kernel⟩
def fY:FZ:=(dc (ur 0 "ins" (cy 0) (Bk (eG aL))) (dc (ur 0 "gates" (cy 0) (Bk (eG aL))) (dc (ur 0 "outs" (cy 0) (Bk (eG aL))) (dc (ur 0 "names" (cy 0) wx) (dc (ur 0 "out_names" (cy 0) wx) (ur 0 "numbers" (cy 0) wx))))))
def c4:List V3->aP->R3 V3:=sL eo fY
def y4:List V3->aP->R3 V3:=yG eo fY
theorem dh(T:Tp P w K mg cl)(h:Jx K (cl 0) "__init__" "Draft.__init__" bD):BE P w K mg base cl 1 0 "Draft" 0 c4:=by
 obtain⟨f,fd,F,hm⟩:=h;exact⟨f,fd,_,hm,wD (k:=0) oi.2 jt.2 F oP (fun dD A outer s H E hr=>(cg (o7 T.C_Draft T.N_Draft_ins (bj 0) (xr (bV ah))) (cg (o7 T.C_Draft T.N_Draft_gates (bj 0) (xr (bV ah))) (cg (o7 T.C_Draft T.N_Draft_outs (bj 0) (xr (bV ah))) (cg (o7 T.C_Draft T.N_Draft_names (bj 0) tS) (cg (o7 T.C_Draft T.N_Draft_out_names (bj 0) tS) (eT (o7 T.C_Draft T.N_Draft_numbers (bj 0) tS)))))))),T.M_Draft,F.binds fun _ _ _ _ _ _ us hl=>match us,hl with | [_],_=>rfl⟩
abbrev qU:Stmt:=top 30
noncomputable abbrev uk:List Str:=["text","rows","draft","row"]
noncomputable def FY:{b:List Stmt // aR qU=b}:=⟨_,by conv=>lhs;whnf⟩
noncomputable def yA:{b:Scope // aF qU=b}:=⟨_,by conv=>lhs;whnf⟩
theorem ud:bc uk ["text"] yA.1:=⟨rfl,rfl,rfl,by decide+kernel,rfl,by decide+kernel,by decide+kernel⟩
def n9:FZ:=(si (qo eZ (eF (bE (cy 2) (bE (xP (af 3)) ee)))))
def x8:FZ:=(dc (AG (oT 1 (xP (wL "str" m7 (af 0) (aj (eC (.str "\n")) aL))))) (dc (rL (wq (bP (b2 Io (aM fN (aj (af 1) aL)) (eC gL)))) (eX 2 (eF (bE (xP (eC (.str "a text of too many rows"))) ee))) km) (dc (AG (oT 2 (Bm 0 c4 ee))) (dc (wm (MD (iP (cP (af 1)))) (ER 3) n9) (dc (rL (wq (LM (CW (k6 (eE 0 "ins" (cy 2)))) (CW (k6 (eE 0 "outs" (cy 2)))))) (eX 8 (eF (bE (xP (eC (.str "a net without an in, or without an out"))) ee))) km) (AG (uE (wR (bE (eE 0 "ins" (cy 2)) (bE (eE 0 "gates" (cy 2)) (bE (eE 0 "outs" (cy 2)) ee)))))))))))
def jr:List V3->aP->R3 V3:=sL uk x8
def ML:List V3->aP->R3 V3:=yG uk x8
theorem IJ(T:Tp P w K mg cl)(h:Def K mg "read" qU)(fS:BE P w K mg base cl 1 0 "Draft" 0 c4)(l5:fL P w K mg base cl 5 "read_row" 2 eZ):fL P w K mg base cl 6 "read" 1 jr:=by
 obtain⟨f,fd,F,hm⟩:=h;exact⟨f,fd,_,jI (k:=5) FY.2 yA.2 F ud (fun dD A outer s H E hr=>(bR (xk (lT ud.nd rfl (Or.inl rfl) (aG (sT (aa 0) (ae ax ah))))) (bR (fP (lR (bH CM (bo fu rfl T.z_len PySem.boot_len (ae (aa 1) ah)) (fq T.gL rfl) (bC _))) (bU (cT cU rfl T.X_TooLong rfl T.M_TooLong (dz (aY (aG ax) bY)))) d9) (bR (xk (lT ud.nd rfl (Or.inl rfl) (Be fS hr (by decide) rfl))) (bR (zo yh rfl (nX (bZ (aa 1))) (jH ud.nd rfl (Or.inl rfl)) (bU (nH (qS iA l5 hr (by decide) rfl (dz (aY (bj 2) (aY (aG (aa 3)) bY))) (uB (cu (cu gZ))))))) (bR (fP (HS.pb (Cd (yO (kY (cf T.C_Draft T.N_Draft_ins (bj 2)))) (yy (yO (kY (cf T.C_Draft T.N_Draft_outs (bj 2))))))) (bU (cT cU rfl T.X_Open rfl T.M_Open (dz (aY (aG ax) bY)))) d9) (oh (eT (qO (JN (aY (cf T.C_Draft T.N_Draft_ins (bj 2)) (aY (cf T.C_Draft T.N_Draft_gates (bj 2)) (aY (cf T.C_Draft T.N_Draft_outs (bj 2)) bY))))))))))))),hm,F.kp,F.binds fun _ _ _ _ _ _ us hl=>match us,hl with | [_],_=>rfl⟩
abbrev eN:Stmt:=top 32
noncomputable abbrev mQ:List Str:=["script","k"]
noncomputable def rj:{b:List Stmt // aR eN=b}:=⟨_,by conv=>lhs;whnf⟩
noncomputable def lA:{b:Scope // aF eN=b}:=⟨_,by conv=>lhs;whnf⟩
theorem rT:bc mQ ["script","k"] lA.1:=⟨rfl,rfl,rfl,by decide+kernel,rfl,by decide+kernel,by decide+kernel⟩
def mF:FS:=(bF (q8 (b2 Kl (af 1) (aM fN (aj (af 0) aL))) (eK (e2 df (af 0) (af 1))) ku) (eK (eC (.int 0))))
def c6:List D->R D:=qe mQ mF
theorem rS(T:Tp P w K mg cl)(h:Def K mg "_law_cell_at" eN):Callee P w K mg base 1 "_law_cell_at" 2 c6:=by
 obtain⟨f,fd,F,hm⟩:=h;exact⟨f,fd,_,bS (k:=0) rj.2 lA.2 F rT (fun dD A outer s H E hr=>(au (dN (bH ED (aa 1) (bo fu rfl T.z_len PySem.boot_len (ae (aa 0) ah)) (bC _)) (aK (bh (aV (aa 0) (aa 1) (fun _ _=>rfl)))) cZ) (aK (bh ai)))),hm,F.kp,F.binds fun _ _ _ _ _ _ us hl=>match us,hl with | [_,_],_=>rfl⟩
abbrev iZ:Stmt:=top 33
noncomputable abbrev ky:List Str:=["cell","k","number"]
noncomputable def v3:{b:List Stmt // aR iZ=b}:=⟨_,by conv=>lhs;whnf⟩
noncomputable def pB:{b:Scope // aF iZ=b}:=⟨_,by conv=>lhs;whnf⟩
theorem ng:bc ky ["cell","k"] pB.1:=⟨rfl,rfl,rfl,by decide+kernel,rfl,by decide+kernel,by decide+kernel⟩
def ri:FS:=(bF (q8 (b2 Hn (af 0) (e2 z9 (eC (.int 10)) (eC (.int 18)))) (eK (e2 dG (e2 KC (e2 zU (af 0) (e2 z9 (eC (.int 10)) (eC (.int 18)))) (e2 mw (eC (.int 28)) (af 1))) (e2 z9 (eC (.int 2)) (eC (.int 28))))) ku) (bF (cR 2 (e2 dG (e2 mw (e2 cN (e2 cN (af 0) (e2 mw (eC (.int 1013)) (af 1))) (eC (.int 1))) (eC (.int 16807))) (eC (.int 2147483647)))) (bF (cR 2 (e2 dG (e2 mw (af 2) (af 2)) (eC (.int 2147483629)))) (eK (e2 dH (e2 dG (e2 mw (af 2) (eC (.int 39373))) (eC (.int 2147483587))) (eC (.int 8)))))))
def bp:List D->R D:=qe ky ri
theorem yc(T:Tp P w K mg cl)(h:Def K mg "_law_stir" iZ):Callee P w K mg base 1 "_law_stir" 2 bp:=by
 obtain⟨f,fd,F,hm⟩:=h;exact⟨f,fd,_,bS (k:=0) v3.2 pB.2 F ng (fun dD A outer s H E hr=>(au (dN (bH EU (aa 0) (aC Bb ai ai) (bC _)) (aK (bh (aC dS (aC KI (aC zj (aa 0) (aC Bb ai ai)) (aC rA ai (aa 1))) (aC Bb ai ai)))) cZ) (au (bf ng.nd rfl (Or.inl rfl) (aC dS (aC rA (aC dj (aC dj (aa 0) (aC rA ai (aa 1))) ai) ai) ai)) (au (bf ng.nd rfl (Or.inl rfl) (aC dS (aC rA (aa 2) (aa 2)) ai)) (aK (bh (aC i9 (aC dS (aC rA (aa 2) ai) ai) ai))))))),hm,F.kp,F.binds fun _ _ _ _ _ _ us hl=>match us,hl with | [_,_],_=>rfl⟩
abbrev gO:Stmt:=top 34
noncomputable abbrev d3:List Str:=["head","k","many","letters","barred","found","j","number","word","spare"]
noncomputable def tU:{b:List Stmt // aR gO=b}:=⟨_,by conv=>lhs;whnf⟩
noncomputable def iy:{b:Scope // aF gO=b}:=⟨_,by conv=>lhs;whnf⟩
theorem cc:bc d3 ["head","k","many"] iy.1:=⟨rfl,rfl,rfl,by decide+kernel,rfl,by decide+kernel,by decide+kernel⟩
def gr:FS:=(bF (cR 7 (aM bp (aj (af 0) (aj (e2 cN (af 1) (af 6)) aL)))) (bF (cR 8 (wL "str" ie (eC (.str "")) (aj (eNew (eG (aj (e2 df (af 3) (e2 dG (af 7) (eC (.int 26)))) (aj (e2 df (af 3) (e2 dG (e2 dH (af 7) (eC (.int 26))) (eC (.int 26)))) (aj (e2 mw (eC (.str "x")) (e2 dG (e2 dH (af 7) (eC (.int 700))) (eC (.int 7)))) aL))))) aL))) (bF (cR 8 (xK (af 8) (ib (e2 dG (e2 dH (af 7) (eC (.int 5000))) (eC (.int 2)))) kL)) (bF (q8 (rR (b2 pF (e2 dG (e2 dH (af 7) (eC (.int 10000))) (eC (.int 4))) (eC (.int 0))) (mH (b2 yN (af 5) (eNew (eG aL))))) (cR 8 (xK (e2 cN (lB (e2 df (af 5) (e2 dG (e2 dH (af 7) (eC (.int 40000))) (aM fN (aj (af 5) aL))))) (af 8)) kL (ib (eC (.int 8))))) ku) (bF (q8 (ya (b2 pF (af 8) (eC (.str ""))) (ya (mH (b2 yt (af 8) (af 5))) (b2 yt (af 8) (af 4)))) (bF (cR 9 (eNew (cx (d8 (eC (.int 80))) (aA 0) jB (e2 cN (e2 cN (eC (.str "zz")) (e2 df (af 1) (e2 dH (af 0) (eC (.int 26))))) (e2 df (af 1) (e2 dG (af 0) (eC (.int 26))))) ["n"] [3]))) (cR 8 (lB (e2 df (eNew (cx (cP (af 9)) (aA 0) (b2 jy (af 0) (af 1)) (af 0) ["one"] [5])) (eC (.int 0)))))) ku) (nW 5 (af 8)))))))
def pf:FS:=(bF (cR 3 (eC (.str "abcdefghijklmnopqrstuvwxyz"))) (bF (cR 4 (eNew (eG (aj (eC (.str "in")) (aj (eC (.str "gate")) (aj (eC (.str "sure")) (aj (eC (.str "out")) (aj (eC (.str "not")) (aj (eC (.str "and")) (aj (eC (.str "or")) (aj (eC (.str "xor")) (aj (eC (.str "vote")) aL)))))))))))) (bF (mY 5 (eG aL)) (bF (oV (d8 (af 2)) (aA 6) gr) (pJ 5 (eK (af 5)))))))
def dy:List D->R D:=qe d3 pf
theorem wt(T:Tp P w K mg cl)(h:Def K mg "_law_names" gO)(bw:Callee P w K mg base 1 "_law_stir" 2 bp):Callee P w K mg base 2 "_law_names" 3 dy:=by
 obtain⟨f,fd,F,hm⟩:=h;exact⟨f,fd,_,bS (k:=1) tU.2 iy.2 F cc (fun dD A outer s H E hr=>(au (bf cc.nd rfl (Or.inr rfl) ax) (au (bf cc.nd rfl (Or.inl rfl) (bA (bV (ae ax (ae ax (ae ax (ae ax (ae ax (ae ax (ae ax (ae ax (ae ax ah)))))))))))) (au (iQ cc.nd rfl (Or.inr rfl) (bV ah)) (au (ft PassesOwn.never rfl (c2 (aa 2) rfl T.z_range) (aI cc.nd rfl (Or.inl rfl)) (au (bf cc.nd rfl (Or.inl rfl) (aJ bw hr (by decide) rfl (ae (aa 0) (ae (aC dj (aa 1) (aa 6)) ah)) (ao (ao aQ)))) (au (bf cc.nd rfl (Or.inl rfl) (lh ax (ae (bA (bV (ae (aV (aa 3) (aC dS (aa 7) ai) (fun _ _=>rfl)) (ae (aV (aa 3) (aC dS (aC i9 (aa 7) ai) ai) (fun _ _=>rfl)) (ae (aC rA ax (aC dS (aC i9 (aa 7) ai) ai)) ah))))) ah))) (au (bf cc.nd rfl (Or.inl rfl) (lO (aa 8) (fB (aC dS (aC i9 (aa 7) ai) ai)) ja)) (au (dN (ij (qz (bH (m5 hr.units) (aC dS (aC i9 (aa 7) ai) ai) ai (bC _)) (oZ (qN (bH (Dj hr.units) (aa 5) (bA (bV ah)) (bC _)))))) (aK (bf cc.nd rfl (Or.inl rfl) (lO (aC dj (oa (aV (aa 5) (aC dS (aC i9 (aa 7) ai) (bo fu rfl T.z_len PySem.boot_len (ae (aa 5) ah))) (fun _ _=>rfl))) (aa 8)) ja (fB ai)))) cZ) (au (dN (ij (ig (bH (m5 hr.units) (aa 8) ax (bC _)) (ig (qN (bH z_ (aa 8) (aa 5) (by with_unfolding_all rfl))) (jW (bH z_ (aa 8) (aa 4) (by with_unfolding_all rfl)))))) (au (n0 rfl cc.nd rfl rfl (bG.of (own:=["n"]) (kp:=[3]) (kn:=["letters"]) (sc:=iy.1) (N:=d3) rfl rfl (by decide+kernel)) (c2 ai rfl T.z_range) (fun _ _ _=>(aI (show List.Nodup [(Str.ofString "n"),"letters"] from by decide+kernel) rfl (Or.inl rfl))) (fun _ _ _=>cC) (fun _ _ _=>(aC dj (aC dj ax (aV (aa 1) (aC i9 (aa 0) ai) (fun _ _=>rfl))) (aV (aa 1) (aC dS (aa 0) ai) (fun _ _=>rfl))))) (aK (bf cc.nd rfl (Or.inl rfl) (oa (aV (bA (dk rfl (bG.of (own:=["one"]) (kp:=[5]) (kn:=["found"]) (sc:=iy.1) (N:=d3) rfl rfl (by decide+kernel)) (bZ (aa 9)) (fun _ _ _=>(aI (show List.Nodup [(Str.ofString "one"),"found"] from by decide+kernel) rfl (Or.inl rfl))) (fun _ _ _=>(qm (bH qa (aa 0) (aa 1) (by with_unfolding_all rfl)))) (fun _ _ _=>(aa 0)))) ai (fun _ _=>rfl)))))) cZ) (aK (fm rfl (Or.inr (Or.inl rfl)) (aa 8))))))))) (gH 5 (aK (bh (aa 5))))))))),hm,F.kp,F.binds fun _ _ _ _ _ _ us hl=>match us,hl with | [_,_,_],_=>rfl⟩
abbrev gI:Stmt:=top 35
noncomputable abbrev k4:List Str:=["cell","k","many","count","found","j","number"]
noncomputable def uc:{b:List Stmt // aR gI=b}:=⟨_,by conv=>lhs;whnf⟩
noncomputable def nM:{b:Scope // aF gI=b}:=⟨_,by conv=>lhs;whnf⟩
theorem jl:bc k4 ["cell","k","many","count"] nM.1:=⟨rfl,rfl,rfl,by decide+kernel,rfl,by decide+kernel,by decide+kernel⟩
def jw:FS:=(bF (cR 6 (aM bp (aj (af 0) (aj (e2 cN (af 1) (af 5)) aL)))) (nW 4 (e2 df (eNew (eG (aj (e2 dG (e2 dH (af 6) (eC (.int 4))) (af 3)) (aj (e2 zU (e2 zU (af 3) (eC (.int 1))) (e2 dG (e2 dH (af 6) (eC (.int 4))) (aM yw (aj (af 3) (aj (eC (.int 6)) aL))))) aL)))) (aM vd (aj (e2 Io (e2 dG (af 6) (eC (.int 4))) (eC (.int 0))) aL)))))
def px:FS:=(bF (mY 4 (eG aL)) (bF (oV (d8 (af 2)) (aA 5) jw) (pJ 4 (eK (aM um (aj (af 4) aL))))))
def d_:List D->R D:=qe k4 px
theorem u9(T:Tp P w K mg cl)(h:Def K mg "_law_wires" gI)(bw:Callee P w K mg base 1 "_law_stir" 2 bp):Callee P w K mg base 2 "_law_wires" 4 d_:=by
 obtain⟨f,fd,F,hm⟩:=h;exact⟨f,fd,_,bS (k:=1) uc.2 nM.2 F jl (fun dD A outer s H E hr=>(au (iQ jl.nd rfl (Or.inl rfl) (bV ah)) (au (ft PassesOwn.never rfl (c2 (aa 2) rfl T.z_range) (aI jl.nd rfl (Or.inl rfl)) (au (bf jl.nd rfl (Or.inl rfl) (aJ bw hr (by decide) rfl (ae (aa 0) (ae (aC dj (aa 1) (aa 5)) ah)) (ao (ao aQ)))) (aK (fm rfl (Or.inl rfl) (aV (bA (bV (ae (aC dS (aC i9 (aa 6) ai) (aa 3)) (ae (aC zj (aC zj (aa 3) ai) (aC dS (aC i9 (aa 6) ai) (bo (JH rfl) rfl T.z_min PyProof.Rows.boot_min (ae (aa 3) (ae ai ah))))) ah)))) (iH xx rfl T.z_int PyProof.Rows.boot_int (ae (dM CM (aC dS (aa 6) ai) ai (bC _)) ah)) (fun _ _=>rfl)))))) (gH 4 (aK (bh (iH yC rfl T.z_tuple PyProof.Rows.boot_tuple (ae (aa 4) ah)))))))),hm,F.kp,F.binds fun _ _ _ _ _ _ us hl=>match us,hl with | [_,_,_,_],_=>rfl⟩
abbrev i8:Stmt:=top 36
noncomputable abbrev iL:List Str:=["cell","count","number","kind","many"]
noncomputable def vN:{b:List Stmt // aR i8=b}:=⟨_,by conv=>lhs;whnf⟩
noncomputable def pq:{b:Scope // aF i8=b}:=⟨_,by conv=>lhs;whnf⟩
theorem ka:bc iL ["cell","count"] pq.1:=⟨rfl,rfl,rfl,by decide+kernel,rfl,by decide+kernel,by decide+kernel⟩
def qi:FS:=(bF (cR 2 (aM bp (aj (af 0) (aj (eC (.int 0)) aL)))) (bF (cR 3 (e2 df (eNew (eG (aj (eC (.str "and")) (aj (eC (.str "or")) (aj (eC (.str "xor")) (aj (eC (.str "vote")) (aj (eC (.str "not")) (aj (eC (.str "and")) (aj (eC (.str "xor")) (aj (eC (.str "vote")) aL)))))))))) (e2 dG (af 2) (eC (.int 8))))) (bF (cR 4 (Dp [((Sum.inr "not":Key),V.int 1),((Sum.inr "vote":Key),V.int 3)] (af 3) (eC (.int 2)))) (eK (n_ (aj (af 3) (aj (aM d_ (aj (af 0) (aj (eC (.int 1)) (aj (af 4) (aj (af 1) aL))))) (aj (e2 pF (e2 dG (e2 dH (af 2) (eC (.int 8))) (eC (.int 4))) (eC (.int 0))) aL))))))))
def i5:List D->R D:=qe iL qi
theorem xb(T:Tp P w K mg cl)(h:Def K mg "_law_gate" i8)(bw:Callee P w K mg base 1 "_law_stir" 2 bp)(e_:Callee P w K mg base 2 "_law_wires" 4 d_):Callee P w K mg base 3 "_law_gate" 2 i5:=by
 obtain⟨f,fd,F,hm⟩:=h;exact⟨f,fd,_,bS (k:=2) vN.2 pq.2 F ka (fun dD A outer s H E hr=>(au (bf ka.nd rfl (Or.inl rfl) (aJ bw hr (by decide) rfl (ae (aa 0) (ae ai ah)) (ao (ao aQ)))) (au (bf ka.nd rfl (Or.inl rfl) (aV (bA (bV (ae ax (ae ax (ae ax (ae ax (ae ax (ae ax (ae ax (ae ax ah)))))))))) (aC dS (aa 2) ai) (fun _ _=>rfl))) (au (bf ka.nd rfl (Or.inl rfl) (E9 (j6 hr) (nY qA qV (nY qA qV y8)) rfl rfl (by simp) (fun _ _ _ h=>h) (by decide) (aa 3) ai ⟨rfl,rfl,rfl,rfl⟩ (FI (nY qA qV (nY qA qV y8)) rfl rfl (by simp) (by decide)))) (aK (bh (gu (ae (aa 3) (ae (aJ e_ hr (by decide) rfl (ae (aa 0) (ae ai (ae (aa 4) (ae (aa 1) ah)))) (ao (ao (ao (ao aQ))))) (ae (dM (m5 hr.units) (aC dS (aC i9 (aa 2) ai) ai) ai (bC _)) ah)))))))))),hm,F.kp,F.binds fun _ _ _ _ _ _ us hl=>match us,hl with | [_,_],_=>rfl⟩
abbrev jY:Stmt:=top 37
noncomputable abbrev iB:List Str:=["script","head","names","ins","place","first","gates","cell","outs","others","number"]
noncomputable def xO:{b:List Stmt // aR jY=b}:=⟨_,by conv=>lhs;whnf⟩
noncomputable def m_:{b:Scope // aF jY=b}:=⟨_,by conv=>lhs;whnf⟩
theorem cE:bc iB ["script"] m_.1:=⟨rfl,rfl,rfl,by decide+kernel,rfl,by decide+kernel,by decide+kernel⟩
def kW:FS:=(nW 3 (n_ (aj (e2 df (af 2) (af 4)) (aj (e2 cN (eC (.int 1)) (e2 dG (aM bp (aj (af 1) (aj (e2 cN (eC (.int 321)) (af 4)) aL))) (eC (.int 3)))) aL))))
def lK:FS:=(nW 6 (aM i5 (aj (af 7) (aj (e2 cN (af 5) (lB (aM fN (aj (af 6) aL)))) aL))))
def lV:FS:=(bF (cR 10 (aM bp (aj (af 1) (aj (e2 cN (eC (.int 342)) (af 4)) aL)))) (nW 8 (n_ (aj (e2 df (af 9) (e2 zU (eC (.int 5)) (af 4))) (aj (aM d_ (aj (af 1) (aj (e2 cN (eC (.int 350)) (e2 mw (eC (.int 3)) (af 4))) (aj (e2 cN (eC (.int 1)) (e2 dG (af 10) (eC (.int 3)))) (aj (e2 cN (af 5) (aM fN (aj (af 6) aL))) aL))))) aL)))))
def sF:FS:=(bF (cR 1 (aM c6 (aj (af 0) (aj (eC (.int 0)) aL)))) (bF (cR 2 (aM dy (aj (af 1) (aj (eC (.int 300)) (aj (eC (.int 6)) aL))))) (bF (mY 3 (eG aL)) (bF (oV (d8 (e2 cN (eC (.int 1)) (e2 dG (aM bp (aj (af 1) (aj (eC (.int 320)) aL))) (eC (.int 6))))) (aA 4) kW) (pJ 3 (bF (cR 5 (aM vL (aj (eNew (cx (cP (af 3)) (fF 2 (bq (aA 0) (bq (aA 1) fO))) jB (af 1) ["name","width"] [])) aL))) (bF (mY 6 (eG aL)) (bF (oV (cP (xK (af 0) (ib (eC (.int 1))) (ib (eC (.int 61))))) (aA 7) lK) (pJ 6 (bF (mY 8 (eG aL)) (bF (cR 9 (aM dy (aj (af 1) (aj (eC (.int 330)) (aj (eC (.int 6)) aL))))) (bF (q8 (b2 pF (e2 dG (aM bp (aj (af 1) (aj (eC (.int 340)) aL))) (eC (.int 2))) (eC (.int 0))) (cR 9 (af 2)) ku) (bF (oV (d8 (e2 cN (eC (.int 1)) (e2 dG (aM bp (aj (af 1) (aj (eC (.int 341)) aL))) (eC (.int 6))))) (aA 4) lV) (pJ 8 (eK (n_ (aj (af 3) (aj (af 6) (aj (af 8) aL)))))))))))))))))))
def mr:List D->R D:=qe iB sF
theorem Aw(T:Tp P w K mg cl)(h:Def K mg "_law_net" jY)(eQ:Callee P w K mg base 1 "_law_cell_at" 2 c6)(eh:Callee P w K mg base 2 "_law_names" 3 dy)(bw:Callee P w K mg base 1 "_law_stir" 2 bp)(nj:Callee P w K mg base 3 "_law_gate" 2 i5)(e_:Callee P w K mg base 2 "_law_wires" 4 d_):Callee P w K mg base 4 "_law_net" 1 mr:=by
 obtain⟨f,fd,F,hm⟩:=h;exact⟨f,fd,_,bS (k:=3) xO.2 m_.2 F cE (fun dD A outer s H E hr=>(au (bf cE.nd rfl (Or.inl rfl) (aJ eQ hr (by decide) rfl (ae (aa 0) (ae ai ah)) (ao (ao aQ)))) (au (bf cE.nd rfl (Or.inl rfl) (aJ eh hr (by decide) rfl (ae (aa 1) (ae ai (ae ai ah))) (ao (ao (ao aQ))))) (au (iQ cE.nd rfl (Or.inl rfl) (bV ah)) (au (ft PassesOwn.never rfl (c2 (aC dj ai (aC dS (aJ bw hr (by decide) rfl (ae (aa 1) (ae ai ah)) (ao (ao aQ))) ai)) rfl T.z_range) (aI cE.nd rfl (Or.inl rfl)) (aK (fm rfl (Or.inl rfl) (gu (ae (aV (aa 2) (aa 4) (fun _ _=>rfl)) (ae (aC dj ai (aC dS (aJ bw hr (by decide) rfl (ae (aa 1) (ae (aC dj ai (aa 4)) ah)) (ao (ao aQ))) ai)) ah)))))) (gH 3 (au (bf cE.nd rfl (Or.inl rfl) (bo (Ii rfl) rfl T.z_sum PyProof.Rows.boot_sum (ae (bA (dk rfl (bG.of (own:=["name","width"]) (kp:=[]) (kn:=[]) (sc:=m_.1) (N:=iB) rfl rfl (by decide+kernel)) (bZ (aa 3)) (fun _ _ _=>(gP rfl (bu (aI (show List.Nodup [(Str.ofString "name"),"width"] from by decide+kernel) rfl (Or.inl rfl)) (bu (aI (show List.Nodup [(Str.ofString "name"),"width"] from by decide+kernel) rfl (Or.inl rfl)) e7)))) (fun _ _ _=>cC) (fun _ _ _=>(aa 1)))) ah))) (au (iQ cE.nd rfl (Or.inl rfl) (bV ah)) (au (ft PassesOwn.never rfl (bZ (lO (aa 0) (fB ai) (fB ai))) (aI cE.nd rfl (Or.inl rfl)) (aK (fm rfl (Or.inl rfl) (aJ nj hr (by decide) rfl (ae (aa 7) (ae (aC dj (aa 5) (oa (bo fu rfl T.z_len PySem.boot_len (ae (aa 6) ah)))) ah)) (ao (ao aQ)))))) (gH 6 (au (iQ cE.nd rfl (Or.inl rfl) (bV ah)) (au (bf cE.nd rfl (Or.inl rfl) (aJ eh hr (by decide) rfl (ae (aa 1) (ae ai (ae ai ah))) (ao (ao (ao aQ))))) (au (dN (bH (m5 hr.units) (aC dS (aJ bw hr (by decide) rfl (ae (aa 1) (ae ai ah)) (ao (ao aQ))) ai) ai (bC _)) (aK (bf cE.nd rfl (Or.inl rfl) (aa 2))) cZ) (au (ft PassesOwn.never rfl (c2 (aC dj ai (aC dS (aJ bw hr (by decide) rfl (ae (aa 1) (ae ai ah)) (ao (ao aQ))) ai)) rfl T.z_range) (aI cE.nd rfl (Or.inl rfl)) (au (bf cE.nd rfl (Or.inl rfl) (aJ bw hr (by decide) rfl (ae (aa 1) (ae (aC dj ai (aa 4)) ah)) (ao (ao aQ)))) (aK (fm rfl (Or.inl rfl) (gu (ae (aV (aa 9) (aC zj ai (aa 4)) (fun _ _=>rfl)) (ae (aJ e_ hr (by decide) rfl (ae (aa 1) (ae (aC dj ai (aC rA ai (aa 4))) (ae (aC dj ai (aC dS (aa 10) ai)) (ae (aC dj (aa 5) (bo fu rfl T.z_len PySem.boot_len (ae (aa 6) ah))) ah)))) (ao (ao (ao (ao aQ))))) ah))))))) (gH 8 (aK (bh (gu (ae (aa 3) (ae (aa 6) (ae (aa 8) ah))))))))))))))))))))),hm,F.kp,F.binds fun _ _ _ _ _ _ us hl=>match us,hl with | [_],_=>rfl⟩
abbrev gU:Stmt:=top 38
noncomputable abbrev lq:List Str:=["ins","gate_names","found","name","width"]
noncomputable def tw:{b:List Stmt // aR gU=b}:=⟨_,by conv=>lhs;whnf⟩
noncomputable def nT:{b:Scope // aF gU=b}:=⟨_,by conv=>lhs;whnf⟩
theorem gY:bc lq ["ins","gate_names"] nT.1:=⟨rfl,rfl,rfl,by decide+kernel,rfl,by decide+kernel,by decide+kernel⟩
def jA:FS:=(cR 2 (e2 cN (af 2) (e2 df (eNew (eG (aj (eNew (eG (aj (af 3) aL))) (aj (xK (eNew (eG (aj (e2 cN (af 3) (eC (.str ":0"))) (aj (e2 cN (af 3) (eC (.str ":1"))) (aj (e2 cN (af 3) (eC (.str ":2"))) aL))))) kL (ib (af 4))) aL)))) (aM vd (aj (e2 Io (af 4) (eC (.int 1))) aL)))))
def pA:FS:=(bF (cR 2 (eNew (eG aL))) (bF (oV (cP (af 0)) (fF 2 (bq (aA 3) (bq (aA 4) fO))) jA) (eK (e2 cN (af 2) (af 1)))))
def gQ:List D->R D:=qe lq pA
theorem wo(T:Tp P w K mg cl)(h:Def K mg "_law_words" gU):Callee P w K mg base 1 "_law_words" 2 gQ:=by
 obtain⟨f,fd,F,hm⟩:=h;exact⟨f,fd,_,bS (k:=0) tw.2 nT.2 F gY (fun dD A outer s H E hr=>(au (bf gY.nd rfl (Or.inl rfl) (bA (bV ah))) (au (ft PassesOwn.never rfl (bZ (aa 0)) (gP rfl (bu (aI gY.nd rfl (Or.inl rfl)) (bu (aI gY.nd rfl (Or.inl rfl)) e7))) (aK (bf gY.nd rfl (Or.inl rfl) (aC dj (aa 2) (aV (bA (bV (ae (bA (bV (ae (aa 3) ah))) (ae (lO (bA (bV (ae (aC dj (aa 3) ax) (ae (aC dj (aa 3) ax) (ae (aC dj (aa 3) ax) ah))))) ja (fB (aa 4))) ah)))) (iH xx rfl T.z_int PyProof.Rows.boot_int (ae (dM CM (aa 4) ai (bC _)) ah)) (fun _ _=>rfl)))))) (aK (bh (aC dj (aa 2) (aa 1))))))),hm,F.kp,F.binds fun _ _ _ _ _ _ us hl=>match us,hl with | [_,_],_=>rfl⟩
abbrev iR:Stmt:=top 39
noncomputable abbrev iJ:List Str:=["net","gate_names","ins","gates","outs","words","rows","place","kind","wires","sure","row","name"]
noncomputable def uX:{b:List Stmt // aR iR=b}:=⟨_,by conv=>lhs;whnf⟩
noncomputable def g8:{b:Scope // aF iR=b}:=⟨_,by conv=>lhs;whnf⟩
theorem b0:bc iJ ["net","gate_names"] g8.1:=⟨rfl,rfl,rfl,by decide+kernel,rfl,by decide+kernel,by decide+kernel⟩
def j_:FS:=(bF (cR 11 (eNew (eG (aj (e2 df (eNew (eG (aj (eC (.str "gate")) (aj (eC (.str "sure")) aL)))) (aM vd (aj (af 10) aL))) (aj (e2 df (af 1) (af 7)) (aj (af 8) aL)))))) (nW 6 (wL "str" ie (eC (.str " ")) (aj (e2 cN (af 11) (eNew (cx (cP (af 9)) (aA 0) jB (e2 df (af 1) (af 0)) ["wire"] [5]))) aL))))
def kq:FS:=(nW 6 (wL "str" ie (eC (.str " ")) (aj (e2 cN (eNew (eG (aj (eC (.str "out")) (aj (af 12) aL)))) (eNew (cx (cP (af 9)) (aA 0) jB (e2 df (af 1) (af 0)) ["wire"] [5]))) aL)))
def qx:FS:=(bF (Hx (af 0) (fF 3 (bq (aA 2) (bq (aA 3) (bq (aA 4) fO))))) (bF (cR 5 (aM gQ (aj (af 2) (aj (af 1) aL)))) (bF (mY 6 (cx (cP (af 2)) (fF 2 (bq (aA 0) (bq (aA 1) fO))) jB (wL "str" ie (eC (.str " ")) (aj (eNew (eG (aj (eC (.str "in")) (aj (af 0) (aj (aM cStr (aj (af 1) aL)) aL))))) aL)) ["name","width"] [])) (bF (oV (rm (af 3)) (fF 2 (bq (aA 7) (bq (fF 3 (bq (aA 8) (bq (aA 9) (bq (aA 10) fO)))) fO))) j_) (bF (oV (cP (af 4)) (fF 2 (bq (aA 12) (bq (aA 9) fO))) kq) (pJ 6 (eK (af 6))))))))
def ke:List D->R D:=qe iJ qx
theorem xI(T:Tp P w K mg cl)(h:Def K mg "_law_rows" iR)(l9:Callee P w K mg base 1 "_law_words" 2 gQ):Callee P w K mg base 2 "_law_rows" 2 ke:=by
 obtain⟨f,fd,F,hm⟩:=h;exact⟨f,fd,_,bS (k:=1) uX.2 g8.2 F b0 (fun dD A outer s H E hr=>(au (Dv (aa 0) (gP rfl (bu (aI b0.nd rfl (Or.inl rfl)) (bu (aI b0.nd rfl (Or.inl rfl)) (bu (aI b0.nd rfl (Or.inl rfl)) e7))))) (au (bf b0.nd rfl (Or.inr rfl) (aJ l9 hr (by decide) rfl (ae (aa 2) (ae (aa 1) ah)) (ao (ao aQ)))) (au (tj rfl b0.nd rfl rfl (bG.of (own:=["name","width"]) (kp:=[]) (kn:=[]) (sc:=g8.1) (N:=iJ) rfl rfl (by decide+kernel)) (bZ (aa 2)) (fun _ _ _=>(gP rfl (bu (aI (show List.Nodup [(Str.ofString "name"),"width"] from by decide+kernel) rfl (Or.inl rfl)) (bu (aI (show List.Nodup [(Str.ofString "name"),"width"] from by decide+kernel) rfl (Or.inl rfl)) e7)))) (fun _ _ _=>cC) (fun _ _ _=>(lh ax (ae (bA (bV (ae ax (ae (aa 0) (ae (iH LJ rfl T.z_str PyProof.Rows.boot_str (ae (aa 1) ah)) ah))))) ah)))) (au (ft PassesOwn.never rfl (zM (aa 3) rfl T.z_enumerate) (gP rfl (bu (aI b0.nd rfl (Or.inl rfl)) (bu (gP rfl (bu (aI b0.nd rfl (Or.inl rfl)) (bu (aI b0.nd rfl (Or.inl rfl)) (bu (aI b0.nd rfl (Or.inl rfl)) e7)))) e7))) (au (bf b0.nd rfl (Or.inl rfl) (bA (bV (ae (aV (bA (bV (ae ax (ae ax ah)))) (iH xx rfl T.z_int PyProof.Rows.boot_int (ae (aa 10) ah)) (fun _ _=>rfl)) (ae (aV (aa 1) (aa 7) (fun _ _=>rfl)) (ae (aa 8) ah)))))) (aK (fm rfl (Or.inl rfl) (lh ax (ae (aC dj (aa 11) (bA (dk rfl (bG.of (own:=["wire"]) (kp:=[5]) (kn:=["words"]) (sc:=g8.1) (N:=iJ) rfl rfl (by decide+kernel)) (bZ (aa 9)) (fun _ _ _=>(aI (show List.Nodup [(Str.ofString "wire"),"words"] from by decide+kernel) rfl (Or.inl rfl))) (fun _ _ _=>cC) (fun _ _ _=>(aV (aa 1) (aa 0) (fun _ _=>rfl)))))) ah)))))) (au (ft PassesOwn.never rfl (bZ (aa 4)) (gP rfl (bu (aI b0.nd rfl (Or.inl rfl)) (bu (aI b0.nd rfl (Or.inl rfl)) e7))) (aK (fm rfl (Or.inl rfl) (lh ax (ae (aC dj (bA (bV (ae ax (ae (aa 12) ah)))) (bA (dk rfl (bG.of (own:=["wire"]) (kp:=[5]) (kn:=["words"]) (sc:=g8.1) (N:=iJ) rfl rfl (by decide+kernel)) (bZ (aa 9)) (fun _ _ _=>(aI (show List.Nodup [(Str.ofString "wire"),"words"] from by decide+kernel) rfl (Or.inl rfl))) (fun _ _ _=>cC) (fun _ _ _=>(aV (aa 1) (aa 0) (fun _ _=>rfl)))))) ah))))) (gH 6 (aK (bh (aa 6)))))))))),hm,F.kp,F.binds fun _ _ _ _ _ _ us hl=>match us,hl with | [_,_],_=>rfl⟩
abbrev dm:Stmt:=top 40
noncomputable abbrev bQ:List Str:=["net","head","taken","words","found","word","spare"]
noncomputable def oq:{b:List Stmt // aR dm=b}:=⟨_,by conv=>lhs;whnf⟩
noncomputable def cX:{b:Scope // aF dm=b}:=⟨_,by conv=>lhs;whnf⟩
theorem b7:bc bQ ["net","head"] cX.1:=⟨rfl,rfl,rfl,by decide+kernel,rfl,by decide+kernel,by decide+kernel⟩
def eV:FS:=(bF (q8 (mH (b2 yt (af 5) (af 2))) (bF (cR 6 (eNew (cx (d8 (eC (.int 144))) (aA 0) jB (e2 cN (e2 cN (eC (.str "y")) (e2 df (eC (.str "abcdefghijkl")) (e2 dH (af 0) (eC (.int 12))))) (e2 df (eC (.str "mnopqrstuvwx")) (e2 dG (af 0) (eC (.int 12))))) ["n"] []))) (cR 5 (lB (e2 df (eNew (cx (cP (af 6)) (aA 0) (rR (b2 jy (af 0) (af 1)) (b2 jy (af 0) (af 2))) (af 0) ["one"] [2,3])) (eC (.int 0)))))) ku) (bF (nW 4 (af 5)) (nW 2 (af 5))))
def jK:FS:=(bF (mY 2 (cx (cP (e2 df (af 0) (eC (.int 0)))) (fF 2 (bq (aA 0) (bq (aA 1) fO))) jB (af 0) ["name","width"] [])) (bF (cR 3 (aM dy (aj (af 1) (aj (eC (.int 400)) (aj (aM fN (aj (e2 df (af 0) (eC (.int 1))) aL)) aL))))) (bF (mY 4 (eG aL)) (bF (oV (cP (af 3)) (aA 5) eV) (pJ 2 (pJ 4 (eK (af 4))))))))
def eu:List D->R D:=qe bQ jK
theorem o4(T:Tp P w K mg cl)(h:Def K mg "_law_gate_names" dm)(eh:Callee P w K mg base 2 "_law_names" 3 dy):Callee P w K mg base 3 "_law_gate_names" 2 eu:=by
 obtain⟨f,fd,F,hm⟩:=h;exact⟨f,fd,_,bS (k:=2) oq.2 cX.2 F b7 (fun dD A outer s H E hr=>(au (iQ b7.nd rfl (Or.inr rfl) (dk rfl (bG.of (own:=["name","width"]) (kp:=[]) (kn:=[]) (sc:=cX.1) (N:=bQ) rfl rfl (by decide+kernel)) (bZ (aV (aa 0) ai (fun _ _=>rfl))) (fun _ _ _=>(gP rfl (bu (aI (show List.Nodup [(Str.ofString "name"),"width"] from by decide+kernel) rfl (Or.inl rfl)) (bu (aI (show List.Nodup [(Str.ofString "name"),"width"] from by decide+kernel) rfl (Or.inl rfl)) e7)))) (fun _ _ _=>cC) (fun _ _ _=>(aa 0)))) (au (bf b7.nd rfl (Or.inr rfl) (aJ eh hr (by decide) rfl (ae (aa 1) (ae ai (ae (bo fu rfl T.z_len PySem.boot_len (ae (aV (aa 0) ai (fun _ _=>rfl)) ah)) ah))) (ao (ao (ao aQ))))) (au (iQ b7.nd rfl (Or.inl rfl) (bV ah)) (au (ft PassesOwn.never rfl (bZ (aa 3)) (aI b7.nd rfl (Or.inl rfl)) (au (dN (qN (bH z_ (aa 5) (aa 2) (by with_unfolding_all rfl))) (au (n0 rfl b7.nd rfl rfl (bG.of (own:=["n"]) (kp:=[]) (kn:=[]) (sc:=cX.1) (N:=bQ) rfl rfl (by decide+kernel)) (c2 ai rfl T.z_range) (fun _ _ _=>(aI (show List.Nodup [(Str.ofString "n")] from by decide+kernel) rfl (Or.inl rfl))) (fun _ _ _=>cC) (fun _ _ _=>(aC dj (aC dj ax (aV ax (aC i9 (aa 0) ai) (fun _ _=>rfl))) (aV ax (aC dS (aa 0) ai) (fun _ _=>rfl))))) (aK (bf b7.nd rfl (Or.inl rfl) (oa (aV (bA (dk rfl (bG.of (own:=["one"]) (kp:=[2,3]) (kn:=["taken","words"]) (sc:=cX.1) (N:=bQ) rfl rfl (by decide+kernel)) (bZ (aa 6)) (fun _ _ _=>(aI (show List.Nodup [(Str.ofString "one"),"taken","words"] from by decide+kernel) rfl (Or.inl rfl))) (fun _ _ _=>(qm (ij (qz (bH qa (aa 0) (aa 1) (by with_unfolding_all rfl)) (oZ (bH qa (aa 0) (aa 2) (by with_unfolding_all rfl))))))) (fun _ _ _=>(aa 0)))) ai (fun _ _=>rfl)))))) cZ) (au (fm rfl (Or.inl rfl) (aa 5)) (aK (fm rfl (Or.inr (Or.inl rfl)) (aa 5)))))) (gH 2 (gH 4 (aK (bh (aa 4)))))))))),hm,F.kp,F.binds fun _ _ _ _ _ _ us hl=>match us,hl with | [_,_],_=>rfl⟩
abbrev gS:Stmt:=top 41
noncomputable abbrev gG:List Str:=["found","due"]
noncomputable def uw:{b:List Stmt // aR gS=b}:=⟨_,by conv=>lhs;whnf⟩
noncomputable def kg:{b:Scope // aF gS=b}:=⟨_,by conv=>lhs;whnf⟩
theorem vF:bc gG ["found","due"] kg.1:=⟨rfl,rfl,rfl,by decide+kernel,rfl,by decide+kernel,by decide+kernel⟩
def gT(self:List D->R D):FS:=(bF (q8 (nE (yQ "tuple" "list" (af 1))) (bF (q8 (ya (b2 yN (Ca "list" (af 0)) (Ca "list" (af 1))) (rW (nE (yQ "tuple" "list" (af 0))))) (eK (eC (.bl false))) ku) (bF (q8 (b2 yN (aM fN (aj (af 0) aL)) (aM fN (aj (af 1) aL))) (eK (eC (.bl false))) ku) (eK (e2 pF (eNew (cx (d8 (aM fN (aj (af 1) aL))) (aA 0) (rW (nE (aM self (aj (e2 df (af 1) (af 0)) (aj (e2 df (af 2) (af 0)) aL))))) (af 0) ["k"] [0,1])) (eNew (eG aL)))))) ku) (eK (pM (e2 pF (Ca "bool" (af 0)) (Ca "bool" (af 1))) (pM (yQ "str" "int" (af 0)) (e2 pF (af 0) (af 1))))))
def cj:Nat->List D->R D
 | 0=>fun _=> .no
 | n+1=>qe gG (gT (cj n))
theorem pe(T:Tp P w K mg cl)(h:Def K mg "_law_alike" gS):∀n,Callee P w K mg base (1+n) "_law_alike" 2 (cj n)
 | 0=>by
   obtain⟨f,fd,F,hm⟩:=h;exact⟨f,fd,["found","due"],KQ,hm,F.kp,F.binds fun _ _ _ _ _ _ us hl=>match us,hl with | [_,_],_=>rfl⟩
 | n+1=>by
   have J0:=pe T h n;obtain⟨f,fd,F,hm⟩:=h;exact⟨f,fd,_,bS (k:=1+n) uw.2 kg.2 F vF (fun dD A outer s H E hr=>(au (dN (iz (qT (aa 1) (by decide) (by decide) rfl T.z_isinstance rfl T.z_tuple PyProof.Rows.boot_tuple rfl T.z_list PyProof.Rows.boot_list)) (au (dN (ij (ig (bH (Dj hr.units) (pZ (aa 0) (by decide) rfl T.z_isinstance rfl T.z_list PyProof.Rows.boot_list) (pZ (aa 1) (by decide) rfl T.z_isinstance rfl T.z_list PyProof.Rows.boot_list) (bC _)) (jW (n5 (iz (qT (aa 0) (by decide) (by decide) rfl T.z_isinstance rfl T.z_tuple PyProof.Rows.boot_tuple rfl T.z_list PyProof.Rows.boot_list)))))) (aK (bh i3)) cZ) (au (dN (bH (Dj hr.units) (bo fu rfl T.z_len PySem.boot_len (ae (aa 0) ah)) (bo fu rfl T.z_len PySem.boot_len (ae (aa 1) ah)) (bC _)) (aK (bh i3)) cZ) (aK (bh (dM (m5 hr.units) (bA (dk rfl (bG.of (own:=["k"]) (kp:=[0,1]) (kn:=["found","due"]) (sc:=kg.1) (N:=gG) rfl rfl (by decide+kernel)) (c2 (bo fu rfl T.z_len PySem.boot_len (ae (aa 1) ah)) rfl T.z_range) (fun _ _ _=>(aI (show List.Nodup [(Str.ofString "k"),"found","due"] from by decide+kernel) rfl (Or.inl rfl))) (fun _ _ _=>(qm (n5 (iz (aJ J0 hr (by omega) rfl (ae (aV (aa 1) (aa 0) (fun _ _=>rfl)) (ae (aV (aa 2) (aa 0) (fun _ _=>rfl)) ah)) (ao (ao aQ))))))) (fun _ _ _=>(aa 0)))) (bA (bV ah)) (bC _)))))) cZ) (aK (bh (jk (dM (m5 hr.units) (pZ (aa 0) (by decide) rfl T.z_isinstance rfl T.z_bool PyProof.Rows.boot_bool) (pZ (aa 1) (by decide) rfl T.z_isinstance rfl T.z_bool PyProof.Rows.boot_bool) (bC _)) (jk (qT (aa 0) (by decide) (by decide) rfl T.z_isinstance rfl T.z_str PyProof.Rows.boot_str rfl T.z_int PyProof.Rows.boot_int) (mf (dM (m5 hr.units) (aa 0) (aa 1) (bC _))))))))),hm,F.kp,F.binds fun _ _ _ _ _ _ us hl=>match us,hl with | [_,_],_=>rfl⟩
abbrev zi:Stmt:=top 42
noncomputable abbrev kG:List Str:=["script","net","names","text","found","sizes","some"]
noncomputable def He:{b:List Stmt // aR zi=b}:=⟨_,by conv=>lhs;whnf⟩
noncomputable def oH:{b:Scope // aF zi=b}:=⟨_,by conv=>lhs;whnf⟩
theorem ph:bc kG ["script"] oH.1:=⟨rfl,rfl,rfl,by decide+kernel,rfl,by decide+kernel,by decide+kernel⟩
def Ed:FZ:=(BM 6 (xP (n_ (aj (eC (.str "zebra")) (aj (n_ aL) aL)))))
def qK:FZ:=(dc (oT 1 (xP (aM mr (aj (af 0) aL)))) (dc (oT 2 (xP (aM eu (aj (af 1) (aj (e2 cN (aM c6 (aj (af 0) (aj (eC (.int 0)) aL))) (eC (.int 1))) aL))))) (dc (rL (bP (rR (b2 pF (e2 dG (aM bp (aj (aM c6 (aj (af 0) (aj (eC (.int 0)) aL))) (aj (eC (.int 343)) aL))) (eC (.int 4))) (eC (.int 1))) (b2 Io (aM fN (aj (af 2) aL)) (eC (.int 5))))) (oT 1 (xP (n_ (aj (e2 df (af 1) (eC (.int 0))) (aj (e2 df (af 1) (eC (.int 1))) (aj (eNew (cx (d8 (aM fN (aj (e2 df (af 1) (eC (.int 2))) aL))) (aA 0) jB (n_ (aj (e2 df (af 2) (af 0)) (aj (e2 df (e2 df (e2 df (af 1) (eC (.int 2))) (af 0)) (eC (.int 1))) aL))) ["place"] [1,2])) aL)))))) km) (dc (oT 3 (xP (wL "str" ie (eC (.str "\n")) (aj (aM ke (aj (af 1) (aj (af 2) aL))) aL)))) (dc (oT 4 (qo jr (eF (bE (xP (af 3)) ee)))) (dc (rL (bT (rW (nE (aM (cj 6) (aj (af 4) (aj (af 1) aL)))))) (uE (xP (eC (.bl false)))) km) (dc (oT 5 (qR (A6 (cy 4)) (ER 0) F0 (vZ (cy 0)) ["some"] [])) (dc (wm (A6 (cy 4)) (ER 6) Ed) (dc (rL (bT (b2 yN (eNew (cx (cP (af 4)) (aA 0) jB (aM fN (aj (af 0) aL)) ["some"] [])) (eNew (cx (cP (af 5)) (aA 0) jB (e2 cN (af 0) (eC (.int 1))) ["one"] [])))) (uE (xP (eC (.bl false)))) km) (uE (x2 pF (qo (G2 jr) (eF (bE (xP (af 3)) ee))) (xP (af 1)))))))))))))
def Np:List V3->aP->R3 V3:=sL kG qK
def Ot:List V3->aP->R3 V3:=yG kG qK
def zc:List D->R D:=MF kG qK
structure Cf (K:W.Frag) (mg:WK) (cl:WL):Prop where
 C_Draft:vt K (cl 0)
 N_Draft_ins:c9 K (cl 0) "ins"
 N_Draft_gates:c9 K (cl 0) "gates"
 N_Draft_outs:c9 K (cl 0) "outs"
 N_Draft_names:c9 K (cl 0) "names"
 N_Draft_out_names:c9 K (cl 0) "out_names"
 N_Draft_numbers:c9 K (cl 0) "numbers"
 M_Draft:mg "Draft"=some (.ref (cl 0))
 M_FaultError:mg "FaultError"=some (.ref (cl 1))
 M_TooLong:mg "TooLong"=some (.ref (cl 2))
 M_NoForm:mg "NoForm"=some (.ref (cl 3))
 M_NoPlace:mg "NoPlace"=some (.ref (cl 4))
 M_Twice:mg "Twice"=some (.ref (cl 5))
 M_Full:mg "Full"=some (.ref (cl 6))
 M_NoWire:mg "NoWire"=some (.ref (cl 7))
 M_Open:mg "Open"=some (.ref (cl 8))
 X_TooLong:XC K (cl 2)
 X_NoForm:XC K (cl 3)
 X_NoPlace:XC K (cl 4)
 X_Twice:XC K (cl 5)
 X_Full:XC K (cl 6)
 X_NoWire:XC K (cl 7)
 X_Open:XC K (cl 8)
 ef:pL K (cl 0) "add_in" "Draft.add_in" bX
 cm:pL K (cl 0) "wire_numbers" "Draft.wire_numbers" a_
 du:pL K (cl 0) "add_gate" "Draft.add_gate" bB
 dI:pL K (cl 0) "add_out" "Draft.add_out" bN
 dv:Jx K (cl 0) "__init__" "Draft.__init__" bD
theorem L8{K:W.Frag}{h:Heap}{mg:WK}(X:K.In h)(G:h.Ns mainGlobals mg){C0:Addr}{C1:Addr}{C2:Addr}{C3:Addr}{C4:Addr}{C5:Addr}{C6:Addr}{C7:Addr}{C8:Addr}{f0:Addr}{UQ U0:Option Addr}{UD:Array (Option Value)}{U3 U4 UY Vi RL Vh:Value}{f1:Addr}{Vd VA:Option Addr}{VH:Array (Option Value)}{Vg UW Vz UA RI UT:Value}{f2:Addr}{VB VF:Option Addr}{RJ:Array (Option Value)}{Ve Vk U2 Vm RU UL:Value}{f3:Addr}{Vl VG:Option Addr}{MS:Array (Option Value)}{Vn UO U9 UX RX Vj:Value}{f4:Addr}{UP UG:Option Addr}{Ux:Array (Option Value)}{UK UR Vb UB RD U5:Value}(Qh:PySem.W.nsIn K mainGlobals "Draft"=some (some (.ref C0)))(Pu:PySem.W.plainGet K C0 Str.empty=true)(OG:PySem.W.hasDictIn K C0=true)(O6:PySem.W.plainOver K C0=true)(Pr:PySem.W.findIn K (.ref C0) "__setattr__"=some (some (.builtin "object.__setattr__")))(Qd:PySem.W.makesIn K C0=true)(Pa:PySem.W.keepIn K (.ref C0)=true)(yo:PySem.W.findIn K (.ref C0) "ins"=some none)(rJ:PySem.W.findIn K (.ref C0) "gates"=some none)(uN:PySem.W.findIn K (.ref C0) "outs"=some none)(rG:PySem.W.findIn K (.ref C0) "names"=some none)(kA:PySem.W.findIn K (.ref C0) "out_names"=some none)(nt:PySem.W.findIn K (.ref C0) "numbers"=some none)(OD:PySem.W.nsIn K mainGlobals "FaultError"=some (some (.ref C1)))(Pz:PySem.W.nsIn K mainGlobals "TooLong"=some (some (.ref C2)))(Px:PySem.W.nsIn K mainGlobals "NoForm"=some (some (.ref C3)))(Pp:PySem.W.nsIn K mainGlobals "NoPlace"=some (some (.ref C4)))(Qm:PySem.W.nsIn K mainGlobals "Twice"=some (some (.ref C5)))(Qi:PySem.W.nsIn K mainGlobals "Full"=some (some (.ref C6)))(O1:PySem.W.nsIn K mainGlobals "NoWire"=some (some (.ref C7)))(PQ:PySem.W.nsIn K mainGlobals "Open"=some (some (.ref C8)))(P4:PySem.W.excIn K C2 Dt "ValueError.__new__"=true)(OS:PySem.W.findIn K (.ref C2) "__getattribute__"=some (some (.builtin "BaseException.__getattribute__")))(OO:PySem.W.findIn K (.ref C2) "__getattr__"=some none)(Ql:PySem.W.findIn K (.ref C2) "__class__"=some (some (.builtin "object.__class__")))(Qj:PySem.W.mroIn K C2 (.type "object")=some true)(Po:PySem.W.mroIn K C2 (.type "BaseException")=some true)(O2:(PySem.W.clsIn K C2).isSome=true)(OE:PySem.W.excIn K C3 Dt "ValueError.__new__"=true)(O8:PySem.W.findIn K (.ref C3) "__getattribute__"=some (some (.builtin "BaseException.__getattribute__")))(Pl:PySem.W.findIn K (.ref C3) "__getattr__"=some none)(P1:PySem.W.findIn K (.ref C3) "__class__"=some (some (.builtin "object.__class__")))(OL:PySem.W.mroIn K C3 (.type "object")=some true)(Oy:PySem.W.mroIn K C3 (.type "BaseException")=some true)(Pc:(PySem.W.clsIn K C3).isSome=true)(P_:PySem.W.excIn K C4 Dt "ValueError.__new__"=true)(P2:PySem.W.findIn K (.ref C4) "__getattribute__"=some (some (.builtin "BaseException.__getattribute__")))(Qc:PySem.W.findIn K (.ref C4) "__getattr__"=some none)(Qa:PySem.W.findIn K (.ref C4) "__class__"=some (some (.builtin "object.__class__")))(Pf:PySem.W.mroIn K C4 (.type "object")=some true)(O3:PySem.W.mroIn K C4 (.type "BaseException")=some true)(Qf:(PySem.W.clsIn K C4).isSome=true)(P7:PySem.W.excIn K C5 Dt "ValueError.__new__"=true)(O_:PySem.W.findIn K (.ref C5) "__getattribute__"=some (some (.builtin "BaseException.__getattribute__")))(O9:PySem.W.findIn K (.ref C5) "__getattr__"=some none)(PY:PySem.W.findIn K (.ref C5) "__class__"=some (some (.builtin "object.__class__")))(OP:PySem.W.mroIn K C5 (.type "object")=some true)(O5:PySem.W.mroIn K C5 (.type "BaseException")=some true)(OK:(PySem.W.clsIn K C5).isSome=true)(Qk:PySem.W.excIn K C6 Dt "ValueError.__new__"=true)(P5:PySem.W.findIn K (.ref C6) "__getattribute__"=some (some (.builtin "BaseException.__getattribute__")))(OF:PySem.W.findIn K (.ref C6) "__getattr__"=some none)(PL:PySem.W.findIn K (.ref C6) "__class__"=some (some (.builtin "object.__class__")))(Qn:PySem.W.mroIn K C6 (.type "object")=some true)(O7:PySem.W.mroIn K C6 (.type "BaseException")=some true)(OI:(PySem.W.clsIn K C6).isSome=true)(OV:PySem.W.excIn K C7 Dt "ValueError.__new__"=true)(Pq:PySem.W.findIn K (.ref C7) "__getattribute__"=some (some (.builtin "BaseException.__getattribute__")))(OQ:PySem.W.findIn K (.ref C7) "__getattr__"=some none)(OH:PySem.W.findIn K (.ref C7) "__class__"=some (some (.builtin "object.__class__")))(PU:PySem.W.mroIn K C7 (.type "object")=some true)(OJ:PySem.W.mroIn K C7 (.type "BaseException")=some true)(PM:(PySem.W.clsIn K C7).isSome=true)(Oz:PySem.W.excIn K C8 Dt "ValueError.__new__"=true)(PH:PySem.W.findIn K (.ref C8) "__getattribute__"=some (some (.builtin "BaseException.__getattribute__")))(P6:PySem.W.findIn K (.ref C8) "__getattr__"=some none)(Qg:PySem.W.findIn K (.ref C8) "__class__"=some (some (.builtin "object.__class__")))(Pt:PySem.W.mroIn K C8 (.type "object")=some true)(Pj:PySem.W.mroIn K C8 (.type "BaseException")=some true)(Pg:(PySem.W.clsIn K C8).isSome=true)(Gk:PySem.W.specialIn K (.builtin "object.__class__") "__get__"=some (some (.builtin "getset_descriptor.__get__")))(Gr:PySem.W.takesIn K (.builtin "object.__class__")=some true)(ji:PySem.W.findIn K (.ref C0) "add_in"=some (some (.ref f0)))(jg:PySem.W.isFn K (.ref f0)=true)(je:K.lookup f0=some ⟨U3,UQ, .func (PySem.W.fnOf "add_in" "Draft.add_in" (gx bX) (aR bX) (aF bX) .none U4 UY Vi U0 RL Vh),UD⟩)(dW:PySem.W.codeIn K RL "Draft.add_in"=true)(fQ:PySem.W.keepIn K (.ref f0)=true)(el:PySem.W.findIn K (.ref C0) "wire_numbers"=some (some (.ref f1)))(eg:PySem.W.isFn K (.ref f1)=true)(ei:K.lookup f1=some ⟨Vg,Vd, .func (PySem.W.fnOf "wire_numbers" "Draft.wire_numbers" (gx a_) (aR a_) (aF a_) .none UW Vz UA VA RI UT),VH⟩)(ck:PySem.W.codeIn K RI "Draft.wire_numbers"=true)(c5:PySem.W.keepIn K (.ref f1)=true)(f_:PySem.W.findIn K (.ref C0) "add_gate"=some (some (.ref f2)))(gp:PySem.W.isFn K (.ref f2)=true)(gg:K.lookup f2=some ⟨Ve,VB, .func (PySem.W.fnOf "add_gate" "Draft.add_gate" (gx bB) (aR bB) (aF bB) .none Vk U2 Vm VF RU UL),RJ⟩)(dg:PySem.W.codeIn K RU "Draft.add_gate"=true)(eA:PySem.W.keepIn K (.ref f2)=true)(hV:PySem.W.findIn K (.ref C0) "add_out"=some (some (.ref f3)))(ia:PySem.W.isFn K (.ref f3)=true)(h_:K.lookup f3=some ⟨Vn,Vl, .func (PySem.W.fnOf "add_out" "Draft.add_out" (gx bN) (aR bN) (aF bN) .none UO U9 UX VG RX Vj),MS⟩)(dF:PySem.W.codeIn K RX "Draft.add_out"=true)(eU:PySem.W.keepIn K (.ref f3)=true)(gm:PySem.W.findIn K (.ref C0) "__init__"=some (some (.ref f4)))(gb:PySem.W.isFn K (.ref f4)=true)(gq:K.lookup f4=some ⟨UK,UP, .func (PySem.W.fnOf "__init__" "Draft.__init__" (gx bD) (aR bD) (aF bD) .none UR Vb UB UG RD U5),Ux⟩)(dh:PySem.W.codeIn K RD "Draft.__init__"=true)(gf:PySem.W.keepIn K (.ref f4)=true):∃cl,Cf K mg cl:=by
 exact⟨fun n=>if n=0 then C0 else if n=1 then C1 else if n=2 then C2 else if n=3 then C3 else if n=4 then C4 else if n=5 then C5 else if n=6 then C6 else if n=7 then C7 else C8,⟨Pu,OG,O6,Pr⟩,yo,rJ,uN,rG,kA,nt,PySem.W.mg_of X G Qh,PySem.W.mg_of X G OD,PySem.W.mg_of X G Pz,PySem.W.mg_of X G Px,PySem.W.mg_of X G Pp,PySem.W.mg_of X G Qm,PySem.W.mg_of X G Qi,PySem.W.mg_of X G O1,PySem.W.mg_of X G PQ,⟨P4,OS,OO,Ql,Gk,Gr,Qj,Po,O2⟩,⟨OE,O8,Pl,P1,Gk,Gr,OL,Oy,Pc⟩,⟨P_,P2,Qc,Qa,Gk,Gr,Pf,O3,Qf⟩,⟨P7,O_,O9,PY,Gk,Gr,OP,O5,OK⟩,⟨Qk,P5,OF,PL,Gk,Gr,Qn,O7,OI⟩,⟨OV,Pq,OQ,OH,Gk,Gr,PU,OJ,PM⟩,⟨Oz,PH,P6,Qg,Gk,Gr,Pt,Pj,Pg⟩,⟨_,_,oC (st:=bX) je dW fQ,⟨ji,jg,fQ⟩⟩,⟨_,_,oC (st:=a_) ei ck c5,⟨el,eg,c5⟩⟩,⟨_,_,oC (st:=bB) gg dg eA,⟨f_,gp,eA⟩⟩,⟨_,_,oC (st:=bN) h_ dF eU,⟨hV,ia,eU⟩⟩,⟨_,_,oC (st:=bD) gq dh gf,⟨Qd,gm,gb,Pa⟩⟩⟩
theorem JQ{K:W.Frag}{mg:WK}{f:Addr}{fd:FuncData}{cl:WL}(T:Tp P w K mg cl)(o9:Def K mg "is_name" jJ)(ny:Def K mg "in_wires" i7)(jd:Def K mg "is_wire_form" dU)(gd:Def K mg "are_wire_forms" dt)(kB:Def K mg "is_in_form" fI)(jf:Def K mg "is_gate_form" d4)(jC:Def K mg "is_out_form" eJ)(ef:pL K (cl 0) "add_in" "Draft.add_in" bX)(cm:pL K (cl 0) "wire_numbers" "Draft.wire_numbers" a_)(du:pL K (cl 0) "add_gate" "Draft.add_gate" bB)(dI:pL K (cl 0) "add_out" "Draft.add_out" bN)(nv:Def K mg "read_row" iY)(dv:Jx K (cl 0) "__init__" "Draft.__init__" bD)(ym:Def K mg "read" qU)(jE:Def K mg "_law_cell_at" eN)(nk:Def K mg "_law_stir" iZ)(l7:Def K mg "_law_names" gO)(l_:Def K mg "_law_wires" gI)(nq:Def K mg "_law_gate" i8)(o8:Def K mg "_law_net" jY)(l8:Def K mg "_law_words" gU)(nB:Def K mg "_law_rows" iR)(gc:Def K mg "_law_gate_names" dm)(ma:Def K mg "_law_alike" gS)(F:wW K "law" "law" zi f fd):f9 P w K mg base rX 8 f fd ["script"] (DX K 1 zc):=by
 have cV:=Ar (P:=P) (w:=w) (base:=base) T o9;have nA:=xf (P:=P) (w:=w) (base:=base) T ny;have jb:=qY (P:=P) (w:=w) (base:=base) T jd cV;have cF:=o5 (P:=P) (w:=w) (base:=base) T gd jb;have kC:=t6 (P:=P) (w:=w) (base:=base) T kB cV;have jh:=qP (P:=P) (w:=w) (base:=base) T jf cV cF;have jG:=rO (P:=P) (w:=w) (base:=base) T jC cV cF;have hX:jq P w K mg base cl 2 0 "add_in" 2 cS:=dW T ef nA;have bL:jq P w K mg base cl 1 0 "wire_numbers" 1 bg:=ck T cm;have fR:jq P w K mg base cl 2 0 "add_gate" 4 cn:=dg T du bL;have gh:jq P w K mg base cl 2 0 "add_out" 2 cD:=dF T dI bL;have l5:fL P w K mg base cl 5 "read_row" 2 eZ:=xh T nv kC jh jG hX fR gh;have fS:=dh (P:=P) (w:=w) (base:=base) T dv;have XE_read:fL P w K mg base cl 6 "read" 1 jr:=IJ T ym fS l5;have eQ:=rS (P:=P) (w:=w) (base:=base) T jE;have bw:=yc (P:=P) (w:=w) (base:=base) T nk;have eh:=wt (P:=P) (w:=w) (base:=base) T l7 bw;have e_:=u9 (P:=P) (w:=w) (base:=base) T l_ bw;have nj:=xb (P:=P) (w:=w) (base:=base) T nq bw e_;have C_law_net:=Aw (P:=P) (w:=w) (base:=base) T o8 eQ eh bw nj e_;have l9:=wo (P:=P) (w:=w) (base:=base) T l8;have C_law_rows:=xI (P:=P) (w:=w) (base:=base) T nB l9;have C_law_gate_names:=o4 (P:=P) (w:=w) (base:=base) T gc eh;have C_law_alike:=pe (P:=P) (w:=w) (base:=base) T ma 6;exact(wD (cl:=cl) (N:=kG) (F:=qK) (k:=7) He.2 oH.2 F ph (fun dD A outer s H E hr=>(cg (lT ph.nd rfl (Or.inr rfl) (aG (aJ C_law_net hr (by decide) rfl (ae (aa 0) ah) (ao aQ)))) (cg (lT ph.nd rfl (Or.inr rfl) (aG (aJ C_law_gate_names hr (by decide) rfl (ae (aa 1) (ae (aC dj (aJ eQ hr (by decide) rfl (ae (aa 0) (ae ai ah)) (ao (ao aQ))) ai) ah)) (ao (ao aQ))))) (cg (CT (lR (ij (qz (bH (m5 hr.units) (aC dS (aJ bw hr (by decide) rfl (ae (aJ eQ hr (by decide) rfl (ae (aa 0) (ae ai ah)) (ao (ao aQ))) (ae ai ah)) (ao (ao aQ))) ai) ai (bC _)) (oZ (bH CM (bo fu rfl T.z_len PySem.boot_len (ae (aa 2) ah)) ai (bC _)))))) (eT (lT ph.nd rfl (Or.inr rfl) (aG (gu (ae (aV (aa 1) ai (fun _ _=>rfl)) (ae (aV (aa 1) ai (fun _ _=>rfl)) (ae (bA (dk rfl (bG.of (own:=["place"]) (kp:=[1,2]) (kn:=["net","names"]) (sc:=oH.1) (N:=kG) rfl rfl (by decide+kernel)) (c2 (bo fu rfl T.z_len PySem.boot_len (ae (aV (aa 1) ai (fun _ _=>rfl)) ah)) rfl T.z_range) (fun _ _ _=>(aI (show List.Nodup [(Str.ofString "place"),"net","names"] from by decide+kernel) rfl (Or.inl rfl))) (fun _ _ _=>cC) (fun _ _ _=>(gu (ae (aV (aa 2) (aa 0) (fun _ _=>rfl)) (ae (aV (aV (aV (aa 1) ai (fun _ _=>rfl)) (aa 0) (fun _ _=>rfl)) ai (fun _ _=>rfl)) ah)))))) ah))))))) tY) (cg (lT ph.nd rfl (Or.inl rfl) (aG (lh ax (ae (aJ C_law_rows hr (by decide) rfl (ae (aa 1) (ae (aa 2) ah)) (ao (ao aQ))) ah)))) (cg (lT ph.nd rfl (Or.inl rfl) (Df (qS Bl XE_read hr (by decide) rfl (dz (aY (aG (aa 3)) bY)) (uB (cu gZ))))) (cg (CT (uZ (n5 (iz (aJ C_law_alike hr (by decide) rfl (ae (aa 4) (ae (aa 1) ah)) (ao (ao aQ)))))) (eT (qO (aG i3))) tY) (cg (xE rfl ph.nd rfl rfl (bG.of (own:=["some"]) (kp:=[]) (kn:=[]) (sc:=oH.1) (N:=kG) rfl rfl (by decide+kernel)) (yJ (bj 4)) (fun _ _ _=>(jH (show List.Nodup [(Str.ofString "some")] from by decide+kernel) rfl (Or.inl rfl))) (fun _ _ _=>sf) (fun _ _ _=>(mj (bj 0) rfl T.z_len))) (cg (BD PassesOwn.never rfl (yJ (bj 4)) (jH ph.nd rfl (Or.inl rfl)) (eT (HL rfl (Or.inl rfl) (aG (gu (ae ax (ae (gu ah) ah))))))) (cg (CT (uZ (bH (Dj hr.units) (bA (dk rfl (bG.of (own:=["some"]) (kp:=[]) (kn:=[]) (sc:=oH.1) (N:=kG) rfl rfl (by decide+kernel)) (bZ (aa 4)) (fun _ _ _=>(aI (show List.Nodup [(Str.ofString "some")] from by decide+kernel) rfl (Or.inl rfl))) (fun _ _ _=>cC) (fun _ _ _=>(bo fu rfl T.z_len PySem.boot_len (ae (aa 0) ah))))) (bA (dk rfl (bG.of (own:=["one"]) (kp:=[]) (kn:=[]) (sc:=oH.1) (N:=kG) rfl rfl (by decide+kernel)) (bZ (aa 5)) (fun _ _ _=>(aI (show List.Nodup [(Str.ofString "one")] from by decide+kernel) rfl (Or.inl rfl))) (fun _ _ _=>cC) (fun _ _ _=>(aC dj (aa 0) ai)))) (bC _))) (eT (qO (aG i3))) tY) (eT (qO (Jg (m5 hr.units) (Df (qS Bl (fL.q XE_read) hr (by decide) rfl (dz (aY (aG (aa 3)) bY)) (uB (cu gZ)))) (aG (aa 1)) (bC _))))))))))))))).imp fun _ _ _ _ h=>ID h
end K02
end
section
set_option maxHeartbeats 1000000
namespace K02
open PySem PySem.Spec PyProof.Rows L2 L3 MT JT TX
theorem kx{w:Str}(h:w.length<=10000000):dr [.str w]= .ok (.bl (isNm w)):=by
 have hz:sizeLine=16777216:=sizeLine_eq;unfold dr sU;have e:isNm w=(!(decide (w.length < 1) || (decide (8 < w.length) || oS.contains w)) && low w):=by
  unfold isNm;by_cases h1:1<=w.length
  .rw [decide_eq_true h1,decide_eq_false (by omega:¬w.length < 1)]
   by_cases h2:w.length<=8
   .rw [decide_eq_true h2,decide_eq_false (by omega:¬8 < w.length)];simp
   .rw [decide_eq_false h2,decide_eq_true (by omega:8 < w.length)];simp
  .rw [decide_eq_false h1,decide_eq_true (by omega:w.length < 1)];simp
 rw[e];refine c7 (zd (lN (cY (a:=nI w.length) (b:=nI 1) (av (ds:=[.str w]) rfl (len_str h)) rfl (BK _ _)) fun _=>lN (cY (a:=nI w.length) (b:=nI 8) (av (ds:=[.str w]) rfl (len_str h)) rfl (Dg _ _)) fun _=>cY (a:= .str w) (b:= .tup (oS.map .str)) rfl rfl (Bx w oS)) fun _=>cw ?_)
 refine av (ds:=[.lst ((w.cps.toList.map fun c=>decide (97<=c/\c<=122)).map D.bl)]) (aq (bJ (cK (ds:=w.cps.toList.map fun c=> .str ⟨#[c]⟩) rfl (by rw[List.length_map,Array.length_toList];show w.length<=_;omega) ?_)) rfl) ?_
 .rw [List.map_map];exact NT.cH (fun c=> .str ⟨#[c]⟩) _ fun c hc=>⟨[.val (.str ⟨#[c]⟩)],rfl,rfl,aw (a:= .str ⟨#[c]⟩) (b:= .str xp) rfl rfl (IQ c)⟩
 .rw [Cq,List.all_map];rfl
theorem tm{w:Str}(h:w.length<=10000000):dY [.str w]= .ok (.bl (kR w)):=by
 have hz:sizeLine=16777216:=sizeLine_eq;obtain⟨a,b,d,e⟩:=Co w CO;have ha:a.length<=10000000:=by
  unfold fT at e;split at e
  .have:a=Builtin.Str.strSub w 0 _:=(List.cons.inj e).1.symm;rw[this];exact Nat.le_trans (strSub_length_le ..) h
  .have:a=w:=(List.cons.inj e).1.symm;rw[this];exact h
 unfold dY lQ kR;rw[e];have hp:va (.str w) [.str CO]= .ok (.tup ([a,b,d].map .str)):=by
  rw[<-e];exact bK _ ⟨by rw[sk];rfl,by omega⟩
 refine c7 (az (bt (d:= .tup ([a,b,d].map .str)) (jo (x:=w) rfl rfl hp) (by simp [bW,iW])) (cw ?_))
 exact mm (av (ds:=[.str a]) rfl (kx ha)) fun _=>Ig (aw (a:= .str b) (b:= .str Str.empty) rfl rfl (uI _ _)) fun _=>aw (a:= .str d) (b:= .tup (Aq.map .str)) rfl rfl (Bx d Aq)
theorem mE{ws:List Str}(hl:ws.length<=10000000)(h:∀w∈ws,w.length<=10000000):b5 [.lst (ws.map .str)]= .ok (.bl (ws.all kR)):=by
 have hz:sizeLine=16777216:=sizeLine_eq;unfold b5 jQ;refine c7 (cw (av (ds:=[.lst ((ws.map kR).map D.bl)]) (aq (bJ (cK (ds:=ws.map .str) (eW rfl) (by rw[List.length_map];omega) ?_)) rfl) ?_))
 .rw [List.map_map];exact NT.cH D.str _ fun w hw=>⟨[.val (.str w)],rfl,rfl,av (ds:=[.str w]) rfl (tm (h w hw))⟩
 .rw [Cq,List.all_map];rfl
section
variable {ws:List Str}
theorem wV(hl:ws.length<=10000000)(h:∀w∈ws,w.length<=10000000):fE [.lst (ws.map .str)]= .ok (.bl (B5 ws)):=by
 have hw:∀i,(wd ws i).length<=10000000:=fun i=>by
  unfold wd;rw[List.getD_eq_getElem?_getD];cases hx:ws[i]? with
  | none=>exact Nat.zero_le _
  | some w=>exact h w (List.mem_of_getElem? hx)
 unfold fE nS B5;refine c7 (cw (mm (aw (a:=nI ws.length) (b:=nI 3) (av (ds:=[.lst (ws.map .str)]) rfl (by rw[fW,List.length_map])) rfl (wX _ _)) fun h3=>?_))
 have h3:=of_decide_eq_true h3;refine mm (aw (a:= .str (wd ws 0)) (b:= .str (Str.ofString "in")) (aw (a:= .lst (ws.map .str)) (b:= .int (0:Nat)) rfl rfl (sP (by omega))) rfl (uI _ _)) fun _=>?_
 refine mm (av (ds:=[.str (wd ws 1)]) (aq (aw (a:= .lst (ws.map .str)) (b:= .int (1:Nat)) rfl rfl (sP (by omega))) rfl) (kx (hw 1))) fun _=>?_
 unfold IL;rw[show e2 df (af 0) (eC (.int 2)) (bW kj [.lst (ws.map .str)])= .ok (.str (wd ws 2)) from aw (a:= .lst (ws.map .str)) (b:= .int (2:Nat)) rfl rfl (sP (by omega)),R.aH]
 rfl
theorem t_(hl:ws.length<=10000000)(h:∀w∈ws,w.length<=10000000):dX [.lst (ws.map .str)]= .ok (.bl (A1 ws)):=by
 have hw:∀i,(wd ws i).length<=10000000:=fun i=>by
  unfold wd;rw[List.getD_eq_getElem?_getD];cases hx:ws[i]? with
  | none=>exact Nat.zero_le _
  | some w=>exact h w (List.mem_of_getElem? hx)
 have ix:∀{i:Nat} {δ:ak},i < ws.length->af 0 δ= .ok (.lst (ws.map .str))->e2 df (af 0) (eC (.int i)) δ= .ok (.str (wd ws i)):=fun hi hv=>aw (a:= .lst (ws.map .str)) hv rfl (sP hi)
 unfold dX kZ;have e:A1 ws=(!(decide (ws.length < 4) || !([Str.ofString "gate",Str.ofString "sure"].contains (wd ws 0))) && (!(!(isNm (wd ws 1)) || !((yd.lookup (wd ws 2)).isSome)) && (decide (((ws.drop 3).length:Int)=(yd.lookup (wd ws 2)).getD 0) && (ws.drop 3).all kR))):=by
  unfold A1;by_cases h4:4<=ws.length
  .rw [decide_eq_true h4,decide_eq_false (by omega:¬ws.length < 4)];simp
  .rw [decide_eq_false h4,decide_eq_true (by omega:ws.length < 4)];simp
 rw[e];refine c7 (zd (lN (cY (a:=nI ws.length) (b:=nI 4) (av (ds:=[.lst (ws.map .str)]) rfl (by rw[fW,List.length_map])) rfl (BK _ _)) fun h4=>cY (a:= .str (wd ws 0)) (b:= .tup ([Str.ofString "gate",Str.ofString "sure"].map .str)) (ix (i:=0) (by have:=of_decide_eq_false h4;omega) rfl) rfl (JP _ _)) fun h4=>?_)
 have h4:4<=ws.length:=by
  have:=(Bool.or_eq_false_iff.mp h4).1;have:=of_decide_eq_false this;omega
 refine zd (lN (pW (kc (av (ds:=[.str (wd ws 1)]) (aq (ix (i:=1) (by omega) rfl) rfl) (kx (hw 1))))) fun _=>?_) fun hk=>?_
 .unfold I_;rw[show e2 df (af 0) (eC (.int 2)) (bW fA [.lst (ws.map .str)])= .ok (.str (wd ws 2)) from ix (i:=2) (by omega) rfl,R.aH]
  rfl
 .have hk:(yd.lookup (wd ws 2)).isSome=true:=by
   have:=(Bool.or_eq_false_iff.mp hk).2;cases hq:(yd.lookup (wd ws 2)).isSome with
   | true=>rfl
   | false=>rw [hq] at this;cases this
  obtain⟨n,hn⟩:=Option.isSome_iff_exists.mp hk;refine az (bt (d:= .lst ((ws.drop 3).map .str)) (lp (d:= .lst (ws.map .str)) (lo:=some ((3:Nat):Int)) (hi:=none) rfl (fM rfl) rfl ((qd (by rw[List.length_map];omega)).trans (by rw[List.map_drop]))) (by simp [bW,fA])) (cw (mm ?_ fun _=>?_))
  .rw [hn];refine aw (a:=nI (ws.drop 3).length) (b:= .int n) (av (ds:=[.lst ((ws.drop 3).map .str)]) rfl (by rw[fW,List.length_map])) ?_ ?_
   .unfold vk;rw[show e2 df (af 0) (eC (.int 2)) _= .ok (.str (wd ws 2)) from ix (i:=2) (by omega) rfl,R.aH]
    show(match yd.lookup (wd ws 2) with | some i=>R.ok (D.int i) | none=> .no)=_
    rw[hn]
   .show R.ok (D.bl ((((ws.drop 3).length:Nat):Int)==n))=_;congr 2
  .exact av (ds:=[.lst ((ws.drop 3).map .str)]) rfl (mE (by rw[List.length_drop];omega) fun w PF=>h w (List.mem_of_mem_drop PF))
theorem v_(hl:ws.length<=10000000)(h:∀w∈ws,w.length<=10000000):eM [.lst (ws.map .str)]= .ok (.bl (Gw ws)):=by
 have hw:∀i,(wd ws i).length<=10000000:=fun i=>by
  unfold wd;rw[List.getD_eq_getElem?_getD];cases hx:ws[i]? with
  | none=>exact Nat.zero_le _
  | some w=>exact h w (List.mem_of_getElem? hx)
 have ix:∀{i:Nat} {δ:ak},i < ws.length->af 0 δ= .ok (.lst (ws.map .str))->e2 df (af 0) (eC (.int i)) δ= .ok (.str (wd ws i)):=fun hi hv=>aw (a:= .lst (ws.map .str)) hv rfl (sP hi)
 unfold eM mG;have e:Gw ws=(!(decide (ws.length < 3) || (!(wd ws 0==Str.ofString "out") || !(isNm (wd ws 1)))) && (decide ((ws.drop 2).length<=3) && (ws.drop 2).all kR)):=by
  unfold Gw;by_cases h4:3<=ws.length
  .rw [decide_eq_true h4,decide_eq_false (by omega:¬ws.length < 3)];simp
  .rw [decide_eq_false h4,decide_eq_true (by omega:ws.length < 3)];simp
 rw[e];refine c7 (zd (lN (cY (a:=nI ws.length) (b:=nI 3) (av (ds:=[.lst (ws.map .str)]) rfl (by rw[fW,List.length_map])) rfl (BK _ _)) fun h4=>?_) fun h4=>?_)
 .have h4:=of_decide_eq_false h4;exact lN (cY (a:= .str (wd ws 0)) (b:= .str (Str.ofString "out")) (ix (i:=0) (by omega) rfl) rfl (Iv _ _)) fun _=>pW (kc (av (ds:=[.str (wd ws 1)]) (aq (ix (i:=1) (by omega) rfl) rfl) (kx (hw 1))))
 have h4:3<=ws.length:=by
  have:=(Bool.or_eq_false_iff.mp h4).1;have:=of_decide_eq_false this;omega
 refine az (bt (d:= .lst ((ws.drop 2).map .str)) (lp (d:= .lst (ws.map .str)) (lo:=some ((2:Nat):Int)) (hi:=none) rfl (fM rfl) rfl ((qd (by rw[List.length_map];omega)).trans (by rw[List.map_drop]))) (by simp [bW,jx])) (cw (mm ?_ fun _=>?_))
 .exact aw (a:=nI (ws.drop 2).length) (b:=nI 3) (av (ds:=[.lst ((ws.drop 2).map .str)]) rfl (by rw[fW,List.length_map])) rfl (NM _ _)
 .exact av (ds:=[.lst ((ws.drop 2).map .str)]) rfl (mE (by rw[List.length_drop];omega) fun w PF=>h w (List.mem_of_mem_drop PF))
end
end K02
end
section
namespace K02
open PySem PySem.Spec PyProof.Rows L2 L3 MT JT TX
theorem cb{S:aP}{l:List SO}(i:Nat):(S++l)[S.length+i]? =l[i]?:=by rw[List.getElem?_append_right (by omega),Nat.add_sub_cancel_left]
theorem dO{S:List SO}{l:List SO}(i:Nat)(x:SO):(S++l).set (S.length+i) x=S++l.set i x:=by
 rw[List.set_append,if_neg (by omega),Nat.add_sub_cancel_left]
def xH(n:Nat):List (Str × V3):=[(Str.ofString "ins", .loc (n+1)),(Str.ofString "gates", .loc (n+2)),(Str.ofString "outs", .loc (n+3)),(Str.ofString "names", .loc (n+4)),(Str.ofString "out_names", .loc (n+5)),(Str.ofString "numbers", .loc (n+6))]
def Ll(n:Nat)(d:Dr):List SO:=[.ins 0 (xH n), .lst (d.ins.map MT.inD), .lst (d.gs.map iE), .lst (d.os.map kU), .dct (sS d.nm), .dct (sS d.on), .dct (IC d.nu)]
abbrev iS(S:aP)(d:Dr):aP:=S++Ll S.length d
theorem lk{n:Nat}{i:Nat}(h:([Str.ofString "ins",Str.ofString "gates",Str.ofString "outs",Str.ofString "names",Str.ofString "out_names",Str.ofString "numbers"].findIdx? (·==k))=some i):(xH n).lookup k=some (.loc (n+(i+1))):=by
 unfold xH;simp only[List.findIdx?_cons,List.findIdx?_nil] at h;have sw:∀a:Str,(k==a)=(a==k):=fun a=>by
  by_cases q:a=k
  .subst q;rfl
  .rw [beq_eq_false_iff_ne.mpr q,beq_eq_false_iff_ne.mpr (Ne.symm q)]
 simp only[List.lookup_cons,sw];split at h
 .rename_i q;rw [q];cases h;rfl
 .rename_i q1;rw[Bool.not_eq_true] at q1;rw[q1];simp only[Option.map_eq_some_iff] at h;obtain⟨j1,h,rfl⟩:=h;split at h
  .rename_i q;rw [q];cases h;rfl
  .rename_i q2;rw[Bool.not_eq_true] at q2;rw[q2];simp only[Option.map_eq_some_iff] at h;obtain⟨j2,h,rfl⟩:=h;split at h
   .rename_i q;rw [q];cases h;rfl
   .rename_i q3;rw[Bool.not_eq_true] at q3;rw[q3];simp only[Option.map_eq_some_iff] at h;obtain⟨j3,h,rfl⟩:=h;split at h
    .rename_i q;rw [q];cases h;rfl
    .rename_i q4;rw[Bool.not_eq_true] at q4;rw[q4];simp only[Option.map_eq_some_iff] at h;obtain⟨j4,h,rfl⟩:=h;split at h
     .rename_i q;rw [q];cases h;rfl
     .rename_i q5;rw[Bool.not_eq_true] at q5;rw[q5];simp only[Option.map_eq_some_iff] at h;obtain⟨j5,h,rfl⟩:=h;split at h
      .rename_i q;rw [q];cases h;rfl
      .cases h
theorem LW{n:Nat}(h:([Str.ofString "ins",Str.ofString "gates",Str.ofString "outs",Str.ofString "names",Str.ofString "out_names",Str.ofString "numbers"].contains m)=false):(xH n).lookup m=none:=by
 unfold xH;simp only[List.contains_cons,List.contains_nil,Bool.or_eq_false_iff] at h;obtain⟨h1,h2,h3,h4,h5,h6,_⟩:=h;simp only[List.lookup_cons,h1,h2,h3,h4,h5,h6,List.lookup_nil]
section
variable {S:aP} {d:Dr} {δ:DE}
theorem hJ{i j:Nat}{Q:V3->aP->Prop}(hv:δ[j]? =some (some (.loc S.length)))(hk:([Str.ofString "ins",Str.ofString "gates",Str.ofString "outs",Str.ofString "names",Str.ofString "out_names",Str.ofString "numbers"].findIdx? (·==k))=some i)(h:Q (.loc (S.length+(i+1))) (iS S d)):W3 (eE 0 k (cy j) δ (iS S d)) Q:=
 w_fld (k:=S.length) <| w_var (v:= .loc S.length) hv ⟨_,_,rfl,cb 0,lk hk,h⟩
theorem GH:jm (iS S d) (S.length+(0+1))=some d.ins.length:=by unfold jm;rw [cb];simp [Ll]
theorem GL:jm (iS S d) (S.length+(1+1))=some d.gs.length:=by unfold jm;rw [cb];simp [Ll]
theorem y0:jm (iS S d) (S.length+(2+1))=some d.os.length:=by unfold jm;rw [cb];simp [Ll]
theorem Gu:jm (iS S d) (S.length+(5+1))=some d.nu.length:=by unfold jm;rw [cb];simp [Ll,t4]
theorem GA:oM (.d (.str x)) (.loc (S.length+(3+1))) (iS S d)=some (if x∈d.nm then some (.bl true) else none):=by
 have e:(iS S d)[S.length+(3+1)]? =some (.dct (sS d.nm)):=cb _;unfold oM;simp only[qr,e];rw[nG]
theorem KR:oM (.d (.str x)) (.loc (S.length+(4+1))) (iS S d)=some (if x∈d.on then some (.bl true) else none):=by
 have e:(iS S d)[S.length+(4+1)]? =some (.dct (sS d.on)):=cb _;unfold oM;simp only[qr,e];rw[nG]
theorem GG:oM (.d (.str x)) (.loc (S.length+(5+1))) (iS S d)=some ((idx d.nu x).map nI):=by
 have e:(iS S d)[S.length+(5+1)]? =some (.dct (DU 0 d.nu)):=cb _;unfold oM;simp only[qr,e];rw[qv];congr 1;cases idx d.nu x with
 | none=>rfl
 | some i=>show some (nI (0+i))=_;rw [Nat.zero_add];rfl
theorem Oh{a b:Str}{f:FD}{δ:ak}{x:Str}(h:f δ= .ok (.str x))(hl:x.length<=1000000)(ha:a.length<=1000)(hb:b.length<=1000):∃y,c3 (bO (eC (.str a)) (bO (jR f) (bO (eC (.str b)) m4))) δ= .ok (.str y):=by
 have hz:sizeLine=16777216:=sizeLine_eq;refine⟨_,ni (ss:=[a,x,b]) (gE rfl (gE (vW h (by omega)) (gE rfl rfl))) ?_⟩
 show(((Str.empty++a)++x)++b).length<=_;rw[Str.length_append,Str.length_append,Str.length_append];show 0+a.length+x.length+b.length<=_;omega
theorem tP{c i:Nat}{a b:Str}{x:Str}{Y:Nat->aP->Prop}{Q:Ou->aP->Prop}(h:(down δ)[i]? =some (.val (.str x)))(hl:x.length<=1000000)(ha:a.length<=1000)(hb:b.length<=1000)(hy:Y c S):WE (eX c (eF (bE (xP (c3 (bO (eC (.str a)) (bO (jR (af i)) (bO (eC (.str b)) m4))))) ee)) δ S) Q Y:=by
 obtain⟨y,e⟩:=Oh (a:=a) (b:=b) (f:=af i) (δ:=down δ) (x:=x) (by unfold af;rw [h]) hl ha hb
 exact qf <| cQ <| iO e <| iF ⟨by show 1<=sizeLine;decide,hy⟩
theorem yp{nu:List Str}:∀{ws:List Str},e8 nu (ws++[w])=(e8 nu ws).bind fun l=>(idx nu w).map fun i=>l++[i]
 | []=>by
   show(match idx nu w with | some i=>(e8 nu []).map (i ::·) | none=>none)=_
   cases idx nu w <;> rfl
 | y ::ws=>by
   show(match idx nu y with | some i=>(e8 nu (ws++[w])).map (i ::·) | none=>none)=_
   rw[yp];show _=(match idx nu y with | some i=>(e8 nu ws).map (i ::·) | none=>none).bind _
   cases idx nu y with
   | none=>rfl
   | some i=>
     cases e8 nu ws with
     | none=>rfl
     | some l=>cases idx nu w <;> rfl
theorem yM{nu:List Str}(h:idx nu w=none):∀{ws:List Str},w∈ws->e8 nu ws=none
 | y ::ws,hm=>by
   show(match idx nu y with | some i=>(e8 nu ws).map (i ::·) | none=>none)=_
   rcases List.mem_cons.mp hm with e | e
   .rw [<-e,h]
   .rw [yM h e];cases idx nu y <;> rfl
theorem BI{nu:List Str}:∀{ws:List Str},(∀w∈ws,∃i,idx nu w=some i)->∃l,e8 nu ws=some l
 | [],_=>⟨[],rfl⟩
 | y ::ws,h=>by
   obtain⟨i,hi⟩:=h y List.mem_cons_self;obtain⟨l,hl⟩:=BI (ws:=ws) fun w hw=>h w (List.mem_cons_of_mem _ hw)
   refine⟨i ::l,?_⟩;show(match idx nu y with | some i=>(e8 nu ws).map (i ::·) | none=>none)=_
   rw[hi,hl];rfl
theorem kO{ws:List Str}(hl:ws.length<=1000)(hw:∀w∈ws,w.length<=1000000):WE (bg [.loc S.length, .d (.lst (ws.map .str))] (iS S d)) (fun v S1=>S1=iS S d/\∃l,e8 d.nu ws=some l/\v= .d (.tup (l.map nI))) (fun c S1=>S1=iS S d/\c=7/\e8 d.nu ws=none):=by
 have hz:sizeLine=16777216:=sizeLine_eq;unfold bg;refine Kb rfl ?_;simp only[dZ,b_,List.map,List.length,List.replicate,List.cons_append,List.nil_append,Nat.reduceAdd,Nat.reduceSub];unfold d5;refine g6 <| G5 <| FF (ds:=ws.map .str) (eW rfl) ?_
 refine(Jo (fun i δ S1=>S1=iS S d/\(∃a2,δ=[some (.loc S.length),some (.d (.lst (ws.map .str))),a2])/\∀w∈ws.take i,∃j,idx d.nu w=some j) ⟨rfl,⟨_,rfl⟩,by simp⟩ ?_).mono (fun o S1 ⟨δ1,e1,e2,⟨a2,e3⟩,h1⟩=>⟨δ1,e1,?_⟩) fun _ _ q=>q
 .rintro i v δ1 S1 hv ⟨rfl,⟨a2,rfl⟩,hi⟩;obtain⟨w,hwi,rfl⟩:=NT.xt hv;refine⟨[some (.loc S.length),some (.d (.lst (ws.map .str))),some (.d (.str w))],rfl,?_⟩;unfold fJ;refine nC <| tM <| iO (d:= .str w) rfl <| hJ (i:=5) rfl (by decide+kernel) ⟨_,GG,?_⟩
  cases hj:idx d.nu w with
  | none=>
    simp only[Option.map_none,Option.isSome_none,Bool.true_bne,Bool.not_false,if_true];exact tP (x:=w) rfl (hw w (List.mem_of_getElem? hwi)) (by decide+kernel) (by decide+kernel) ⟨rfl,rfl,yM hj (List.mem_of_getElem? hwi)⟩
  | some j=>
    simp only[Option.map_some,Option.isSome_some,Bool.true_bne,Bool.not_true,Bool.false_eq_true,if_false];refine k9 ⟨_,rfl,rfl,⟨_,rfl⟩,fun y hy=>?_⟩
    rw[List.take_add_one,hwi] at hy;rcases List.mem_append.mp hy with z | z
    .exact hi y z
    .rw [List.mem_singleton.mp z];exact⟨j,hj⟩
 .subst e2 e3;rw[List.length_map,List.length_map,List.take_length] at h1;obtain⟨l,Mo⟩:=BI h1;refine wu <| B9 <| Er <| cQ <| Fc (fun i ds S2=>S2=iS S d/\∃m,e8 d.nu (ws.take i)=some m/\ds=m.map nI) <| FF (ds:=ws.map .str) (eW rfl) ⟨by rw[List.length_map,List.length_map];omega,⟨rfl,[],rfl,rfl⟩,?_,?_⟩
  .rintro i v ds S2 hv ⟨rfl,m,hm,rfl⟩;obtain⟨w,hwi,rfl⟩:=NT.xt hv;obtain⟨j,hj⟩:=h1 w (List.mem_of_getElem? hwi);refine⟨[some (.d (.str w)),some (.loc S.length)],rfl,Lz ?_⟩;rw[if_pos rfl];refine Im <| hJ (i:=5) rfl (by decide+kernel) <| iO (d:= .str w) rfl ⟨nI j,by rw[GG,hj];rfl,_,rfl,rfl,m++[j],?_,?_⟩
   .rw [List.take_add_one,hwi];show e8 d.nu (ws.take i++[w])=_;rw[yp,hm,hj];rfl
   .rw [List.map_append];rfl
  .rintro ds S2 ⟨rfl,m,hm,rfl⟩;rw[List.length_map,List.length_map,List.take_length] at hm;exact iF ⟨[.lst (m.map nI)], .tup (m.map nI),rfl,rfl,rfl,m,hm,rfl⟩
end
end K02
end
section
namespace K02
open PySem PySem.Spec PyProof.Rows L2 L3 MT JT TX
theorem Fm{f:FD}{δ:ak}{k:Nat}(hk:k < 3)(h:f δ= .ok (nI k)):jR f δ= .ok (.str (iM k)):=by
 match k,hk with
 | 0,_=>exact(qF (i:=0) h (by decide+kernel)).trans (by rw[show(toString (0:Int):Str)=iM 0 by decide+kernel])
 | 1,_=>exact(qF (i:=1) h (by decide+kernel)).trans (by rw[show(toString (1:Int):Str)=iM 1 by decide+kernel])
 | 2,_=>exact(qF (i:=2) h (by decide+kernel)).trans (by rw[show(toString (2:Int):Str)=iM 2 by decide+kernel])
theorem vD{x:Str}{w:Nat}(hx:x.length<=8)(hw:w<=3):i0 [.str x,nI w]= .ok (.lst ((nK x w).map .str)):=by
 have hz:sizeLine=16777216:=sizeLine_eq;unfold i0 q0 nK;by_cases h1:w=1
 .rw [if_pos h1];exact c7 (NT.mn (mO (cY (a:=nI w) (b:=nI 1) rfl rfl (by rw[wX,decide_eq_true h1])) (cw (bJ (cM (ds:=[.str x]) rfl (by show 1<=sizeLine;omega))))))
 .rw [if_neg h1];refine c7 (az (kI (cY (a:=nI w) (b:=nI 1) rfl rfl (by rw[wX,decide_eq_false h1])) rfl) (cw (bJ (cK (ds:=(List.range w).map nI) (n6 rfl (by omega)) (by simp;omega) ?_))))
  rw[show((List.range w).map fun f=>x++CO++iM f).map D.str=(List.range w).map fun f=>D.str (x++CO++iM f) from List.map_map]
  refine NT.cH nI _ fun f hf=>⟨[.val (nI f), .val (.str x)],rfl,rfl,?_⟩
  have hf:f < 3:=Nat.lt_of_lt_of_le (List.mem_range.mp hf) hw;have hfl:(iM f).length<=1:=by match f,hf with | 0,_=>decide+kernel | 1,_=>decide+kernel | 2,_=>decide+kernel
  refine(ni (ss:=[x,CO,iM f]) (gE (vW rfl (by omega)) (gE rfl (gE (Fm hf rfl) rfl))) ?_).trans ?_
  .show(((Str.empty++x)++CO)++iM f).length<=_;rw[Str.length_append,Str.length_append,Str.length_append];show 0+x.length+1+_<=_;omega
  .show R.ok (D.str (((Str.empty++x)++CO)++iM f))=_;rw[empty_app]
section
variable {S:aP} {d:Dr}
theorem lC{x:Str}(h:isNm x=true):x.length<=1000000:=by have:=(dE.mp h).2.1;omega
theorem qW{α:Type}(l:List α):decide (l.length≠0)=decide (l≠[]):=by cases l <;> simp
theorem zZ{δ:DE}{Q:Bool->aP->Prop}(hv:δ[0]? =some (some (.loc S.length)))(h:Q (decide (d.gs≠[]\/d.os≠[])) (iS S d)):W3 (LM (k6 (eE 0 (Str.ofString "gates") (cy 0))) (k6 (eE 0 (Str.ofString "outs") (cy 0))) δ (iS S d)) Q:=by
 refine W3.bind (qJ <| hJ (i:=1) hv (by decide+kernel) ⟨_,_,rfl,GL,?_⟩)
 rw[qW d.gs];by_cases hg:d.gs≠[]
 .rw [decide_eq_true hg,if_pos rfl];rw[decide_eq_true (.inl hg)] at h;exact W3.ok h
 .rw [decide_eq_false hg,if_neg (by decide)]
  refine qJ <| hJ (i:=2) hv (by decide+kernel) ⟨_,_,rfl,y0,?_⟩
  rw[qW d.os];have:decide (d.gs≠[]\/d.os≠[])=decide (d.os≠[]):=by
   by_cases ho:d.os≠[]
   .rw [decide_eq_true ho,decide_eq_true (.inr ho)]
   .rw [decide_eq_false ho,decide_eq_false fun q=>q.elim hg ho]
  rw[this] at h;exact h
theorem zY(DD:lD d){w:Nat}(hx:isNm x=true)(hw:w<=3):WE (cS [.loc S.length, .d (.str x), .d (nI w)] (iS S d)) (fun v S1=>v= .d .cz/\∃d',kJ d x w= .ok d'/\S1=iS S d') (fun c S1=>kJ d x w= .error c/\S1=iS S d):=by
 have hz:sizeLine=16777216:=sizeLine_eq;have hx8:=(dE.mp hx).2.1;unfold cS;refine Kb rfl ?_;simp only[dZ,fk,List.map,List.length,List.replicate,List.cons_append,List.nil_append,Nat.reduceAdd,Nat.reduceSub];unfold iK;refine g6 <| nC <| zZ rfl ?_
 by_cases hb:d.gs≠[]\/d.os≠[]
 .rw [decide_eq_true hb,if_pos rfl];exact tP (x:=x) rfl (lC hx) (by decide+kernel) (by decide+kernel) ⟨by unfold kJ;rw [if_pos hb],rfl⟩
 .rw [decide_eq_false hb,if_neg (by decide)]
  refine k9 ⟨_,rfl,?_⟩;refine g6 <| nC <| tM <| iO (d:= .str x) rfl <| hJ (i:=3) rfl (by decide+kernel) ⟨_,GA,?_⟩
  by_cases h2:x∈d.nm
  .rw [if_pos h2];simp only[Option.isSome_some,Bool.false_bne,if_true];exact tP (x:=x) rfl (lC hx) (by decide+kernel) (by decide+kernel) ⟨by unfold kJ;rw [if_neg hb,if_pos h2],rfl⟩
  .rw [if_neg h2];simp only[Option.isSome_none,Bool.false_bne,Bool.false_eq_true,if_false];refine k9 ⟨_,rfl,?_⟩;refine g6 <| nC <| Ho <| vh <| hJ (i:=0) rfl (by decide+kernel) ⟨_,_,rfl,GH,iO (d:=nI 6) rfl ⟨nI d.ins.length,nI 6,_,rfl,rfl,IU _ _,?_⟩⟩
   by_cases h3:6<=d.ins.length
   .rw [decide_eq_true h3,if_pos rfl];exact tP (x:=x) rfl (lC hx) (by decide+kernel) (by decide+kernel) ⟨by unfold kJ;rw [if_neg hb,if_neg h2,if_pos h3],rfl⟩
   .rw [decide_eq_false h3,if_neg (by decide)]
    refine k9 ⟨_,rfl,?_⟩;have Mx:=DD.ln;have MW:=DD.lw;have MR:=DD.li;refine wu <| g7 <| oj <| iO (d:= .bl true) rfl <| hJ (i:=3) rfl (by decide+kernel) <| iO (d:= .str x) rfl ⟨_,_,_,Sum.inr x,sS d.nm,rfl,rfl,rfl,rfl,cb _,by rw[tq];omega,_,rfl,?_⟩
    rw[show(iS S d).set (S.length+(3+1)) (.dct (mX (sS d.nm) (Sum.inr x) (.bl true)))=iS S {d with nm:=d.nm++[x]} by rw[tF h2];exact dO _ _]
    refine g7 <| G1 <| FF (ds:=(nK x w).map .str) (eW (av (ds:=[.str x,nI w]) rfl (vD hx8 hw))) ?_
    refine(Al (fun i δ S1=>S1=iS S {d with nm:=d.nm++[x],nu:=d.nu++(nK x w).take i}/\∃a3,δ=[some (.loc S.length),some (.d (.str x)),some (.d (nI w)),a3]) ⟨by simp,_,rfl⟩ ?_).mono fun o S1 ⟨g9,e1,e2,a3,e3⟩=>⟨g9,e1,?_⟩
    .rintro i v δ S1 hv ⟨rfl,a3,rfl⟩;obtain⟨y,hy,rfl⟩:=NT.xt hv;refine⟨[some (.loc S.length),some (.d (.str x)),some (.d (nI w)),some (.d (.str y))],rfl,?_⟩;unfold jM;have hyn:y ∉ d.nu++(nK x w).take i:=fun q=>by
      rcases List.mem_append.mp q with z | z
      .exact mv DD h2 (lX hx y (List.mem_of_getElem? hy)) z
      .have nd:=xB (x:=x) hw;obtain⟨j,hj⟩:=List.getElem?_of_mem z;rw[List.getElem?_take] at hj;split at hj
       .rename_i hji;have:=i_ nd hj hy;omega
       .cases hj
     have hil:(nK x w).length<=3:=by rw[pX];exact hw
     have htl:((nK x w).take i).length<=3:=by rw[List.length_take];omega
     refine oj <| vh <| hJ (i:=5) rfl (by decide+kernel) ⟨_,_,rfl,Gu,hJ (i:=5) rfl (by decide+kernel) <| iO (d:= .str y) rfl ⟨_,_,_,Sum.inr y,IC (d.nu++(nK x w).take i),rfl,rfl,rfl,rfl,cb _,by rw[t4,List.length_append];omega,_,rfl,?_,_,rfl⟩⟩
     rw[show({d with nm:=d.nm++[x],nu:=d.nu++(nK x w).take i}:Dr).nu=d.nu++(nK x w).take i from rfl,show D.int ((d.nu++(nK x w).take i).length:Nat)=nI (d.nu++(nK x w).take i).length from rfl,yD hyn,List.append_assoc,show(nK x w).take i++[y]=(nK x w).take (i+1) by rw[List.take_add_one,hy];rfl]
     exact dO _ _
    .subst e2 e3;rw[List.length_map,List.length_map,List.take_length];refine JA (k:=S.length+(0+1)) <| hJ (i:=0) rfl (by decide+kernel) ⟨rfl,⟨_,cb _⟩,iO (d:=MT.inD (x,w)) (ko rfl (by show 2<=sizeLine;omega)) ⟨_,d.ins.map MT.inD,rfl,cb _,by rw[List.length_map];omega,trivial,_,by unfold kJ;rw [if_neg hb,if_neg h2,if_neg h3],?_⟩⟩
     rw[show d.ins.map MT.inD++[MT.inD (x,w)]=(d.ins++[(x,w)]).map MT.inD by simp]
     exact dO _ _
theorem wz(DD:lD d){ws:List Str}{s:Bool}(hx:isNm x=true)(hk:kS (wC k)=k)(hl:ws.length<=1000)(hw:∀w∈ws,w.length<=1000000):WE (cn [.loc S.length, .d (.str x), .d (.str k), .d (.lst (ws.map .str)), .d (.bl s)] (iS S d)) (fun v S1=>v= .d .cz/\∃d',addGate d x (wC k) ws s= .ok d'/\S1=iS S d') (fun c S1=>addGate d x (wC k) ws s= .error c/\S1=iS S d):=by
 have hz:sizeLine=16777216:=sizeLine_eq;unfold cn;refine Kb rfl ?_;simp only[dZ,et,List.map,List.length,List.replicate,List.cons_append,List.nil_append,Nat.reduceAdd,Nat.reduceSub];unfold fX;refine g6 <| nC <| qJ <| hJ (i:=2) rfl (by decide+kernel) ⟨_,_,rfl,y0,?_⟩
 rw[qW d.os];by_cases h1:d.os≠[]
 .rw [decide_eq_true h1,if_pos rfl];exact tP (x:=x) rfl (lC hx) (by decide+kernel) (by decide+kernel) ⟨by unfold addGate;rw [if_pos h1],rfl⟩
 rw[decide_eq_false h1,if_neg (by decide)]
 refine k9 ⟨_,rfl,?_⟩;refine g6 <| nC <| tM <| iO (d:= .str x) rfl <| hJ (i:=3) rfl (by decide+kernel) ⟨_,GA,?_⟩
 by_cases h2:x∈d.nm
 .rw [if_pos h2];simp only[Option.isSome_some,Bool.false_bne,if_true];exact tP (x:=x) rfl (lC hx) (by decide+kernel) (by decide+kernel) ⟨by unfold addGate;rw [if_neg h1,if_pos h2],rfl⟩
 rw[if_neg h2];simp only[Option.isSome_none,Bool.false_bne,Bool.false_eq_true,if_false];refine k9 ⟨_,rfl,?_⟩;refine g6 <| nC <| Ho <| vh <| hJ (i:=1) rfl (by decide+kernel) ⟨_,_,rfl,GL,iO (d:=nI 60) rfl ⟨nI d.gs.length,nI 60,_,rfl,rfl,IU _ _,?_⟩⟩
 by_cases h3:60<=d.gs.length
 .rw [decide_eq_true h3,if_pos rfl];exact tP (x:=x) rfl (lC hx) (by decide+kernel) (by decide+kernel) ⟨by unfold addGate;rw [if_neg h1,if_neg h2,if_pos h3],rfl⟩
 rw[decide_eq_false h3,if_neg (by decide)]
 refine k9 ⟨_,rfl,?_⟩;have Mx:=DD.ln;have MW:=DD.lw;have MR:=DD.lg;refine g6 <| Cv (k:=S.length+(1+1)) <| hJ (i:=1) rfl (by decide+kernel) ⟨rfl,⟨_,cb _⟩,GD <| qu <| CB <| iO (d:= .str k) rfl <| qu <| qt (k:=S.length) <| w_var (v:= .loc S.length) rfl ⟨_,rfl,cb 0,LW (by decide+kernel),cQ <| iO (d:= .lst (ws.map .str)) rfl <| iF ?_⟩⟩
 refine(kO hl hw).mono ?_ ?_
 .rintro v S1 ⟨rfl,l,Mo,rfl⟩;refine qu <| CB <| iO (d:= .bl s) rfl <| Dq ⟨by show 3<=sizeLine;omega,iE (wC k,l,s),d.gs.map iE,?_,cb _,by rw[List.length_map];omega,_,rfl,?_⟩
  .show V3.d (.tup [.str k, .tup (l.map nI), .bl s])=_;unfold iE;rw[hk]
  rw[show(iS S d).set (S.length+(1+1)) (.lst (d.gs.map iE++[iE (wC k,l,s)]))=iS S {d with gs:=d.gs++[(wC k,l,s)]} by rw[show d.gs.map iE++[iE (wC k,l,s)]=(d.gs++[(wC k,l,s)]).map iE by simp];exact dO _ _]
  refine wu <| g7 <| oj <| iO (d:= .bl true) rfl <| hJ (i:=3) rfl (by decide+kernel) <| iO (d:= .str x) rfl ⟨_,_,_,Sum.inr x,sS d.nm,rfl,rfl,rfl,rfl,cb _,by rw[tq];omega,_,rfl,?_⟩
  rw[show(iS S {d with gs:=d.gs++[(wC k,l,s)]}).set (S.length+(3+1)) (.dct (mX (sS d.nm) (Sum.inr x) (.bl true)))=iS S {d with gs:=d.gs++[(wC k,l,s)],nm:=d.nm++[x]} by rw[tF h2];exact dO _ _]
  refine oj <| vh <| hJ (i:=5) rfl (by decide+kernel) ⟨_,_,rfl,Gu,hJ (i:=5) rfl (by decide+kernel) <| iO (d:= .str x) rfl ⟨_,_,_,Sum.inr x,IC d.nu,rfl,rfl,rfl,rfl,cb _,by rw[t4];omega,trivial,_,by unfold addGate;rw [if_neg h1,if_neg h2,if_neg h3,Mo],?_⟩⟩
  rw[show D.int (d.nu.length:Nat)=nI d.nu.length from rfl,yD (mv DD h2 (nV hx))]
  exact dO _ _
 .rintro c S1 ⟨rfl,rfl,hn⟩;exact⟨by unfold addGate;rw [if_neg h1,if_neg h2,if_neg h3,hn],rfl⟩
theorem xG(DD:lD d){ws:List Str}(hx:isNm x=true)(hl:ws.length<=1000)(hw:∀w∈ws,w.length<=1000000):WE (cD [.loc S.length, .d (.str x), .d (.lst (ws.map .str))] (iS S d)) (fun v S1=>v= .d .cz/\∃d',iX d x ws= .ok d'/\S1=iS S d') (fun c S1=>iX d x ws= .error c/\S1=iS S d):=by
 have hz:sizeLine=16777216:=sizeLine_eq;unfold cD;refine Kb rfl ?_;simp only[dZ,eR,List.map,List.length,List.replicate,List.cons_append,List.nil_append,Nat.reduceAdd,Nat.reduceSub];unfold hG;refine g6 <| nC <| tM <| iO (d:= .str x) rfl <| hJ (i:=4) rfl (by decide+kernel) ⟨_,KR,?_⟩
 by_cases h2:x∈d.on
 .rw [if_pos h2];simp only[Option.isSome_some,Bool.false_bne,if_true];exact tP (x:=x) rfl (lC hx) (by decide+kernel) (by decide+kernel) ⟨by unfold iX;rw [if_pos h2],rfl⟩
 rw[if_neg h2];simp only[Option.isSome_none,Bool.false_bne,Bool.false_eq_true,if_false];refine k9 ⟨_,rfl,?_⟩;refine g6 <| nC <| Ho <| vh <| hJ (i:=2) rfl (by decide+kernel) ⟨_,_,rfl,y0,iO (d:=nI 6) rfl ⟨nI d.os.length,nI 6,_,rfl,rfl,IU _ _,?_⟩⟩
 by_cases h3:6<=d.os.length
 .rw [decide_eq_true h3,if_pos rfl];exact tP (x:=x) rfl (lC hx) (by decide+kernel) (by decide+kernel) ⟨by unfold iX;rw [if_neg h2,if_pos h3],rfl⟩
 rw[decide_eq_false h3,if_neg (by decide)]
 refine k9 ⟨_,rfl,?_⟩;have MR:=DD.lo;have hon:d.on.length=d.os.length:=by unfold Dr.on;rw [List.length_map]
 refine g6 <| Cv (k:=S.length+(2+1)) <| hJ (i:=2) rfl (by decide+kernel) ⟨rfl,⟨_,cb _⟩,GD <| qu <| CB <| iO (d:= .str x) rfl <| qu <| qt (k:=S.length) <| w_var (v:= .loc S.length) rfl ⟨_,rfl,cb 0,LW (by decide+kernel),cQ <| iO (d:= .lst (ws.map .str)) rfl <| iF ?_⟩⟩
 refine(kO hl hw).mono ?_ ?_
 .rintro v S1 ⟨rfl,l,Mo,rfl⟩;refine Dq ⟨by show 2<=sizeLine;omega,kU (x,l),d.os.map kU,rfl,cb _,by rw[List.length_map];omega,_,rfl,?_⟩
  rw[show(iS S d).set (S.length+(2+1)) (.lst (d.os.map kU++[kU (x,l)]))=S++[.ins 0 (xH S.length), .lst (d.ins.map MT.inD), .lst (d.gs.map iE), .lst ((d.os++[(x,l)]).map kU), .dct (sS d.nm), .dct (sS d.on), .dct (IC d.nu)] by rw[show d.os.map kU++[kU (x,l)]=(d.os++[(x,l)]).map kU by simp];exact dO _ _]
  refine wu <| oj <| iO (d:= .bl true) rfl <| w_fld (k:=S.length) <| w_var (v:= .loc S.length) rfl ⟨_,_,rfl,cb 0,lk (i:=4) (by decide+kernel),iO (d:= .str x) rfl ⟨_,_,_,Sum.inr x,sS d.on,rfl,rfl,rfl,rfl,cb _,by rw[tq,hon];omega,trivial,_,by unfold iX;rw [if_neg h2,if_neg h3,Mo],?_⟩⟩
  rw[tF h2,show d.on++[x]=({d with os:=d.os++[(x,l)]}:Dr).on by unfold Dr.on;simp]
  exact dO _ _
 .rintro c S1 ⟨rfl,rfl,hn⟩;exact⟨by unfold iX;rw [if_neg h2,if_neg h3,hn],rfl⟩
end
end K02
end
section
namespace K02
open PySem PySem.Spec PyProof.Rows L2 L3 MT JT TX
structure Rw (n:Nat) (r:Str):Prop where
 len:r.length<=n
 cps:∀c∈r.cps.toList,c < 16 ^ 8
section
variable {S:aP} {d:Dr}
theorem z8{r:Str}{n:Nat}(h:r.length<=n):(Txt.split r SP).length<=n+2/\∀w∈Txt.split r SP,w.length<=n:=
 ⟨Nat.le_trans (split_le r SP) (by omega),fun w hw=>Nat.le_trans (part_short hw) h⟩
theorem IS(DD:lD d)(hr:Rw 1000000 r):WE (eZ [.loc S.length, .d (.str r)] (iS S d)) (fun v S1=>v= .d .cz/\∃d',fV d (Txt.split r SP)= .ok d'/\S1=iS S d') (fun c S1=>fV d (Txt.split r SP)= .error c/\S1=iS S d):=by
 have hz:sizeLine=16777216:=sizeLine_eq;have hrl:=hr.len;obtain⟨s_,hww⟩:=z8 hrl;unfold eZ;refine Kb rfl ?_;simp only[dZ,ki,List.map,List.length,List.replicate,List.cons_append,List.nil_append,Nat.reduceAdd,Nat.reduceSub];unfold m8;refine g6 <| wu <| nD (by simp) <| iO (d:= .lst ((Txt.split r SP).map .str)) (jo (x:=r) rfl (aq rfl rfl) (by rw[CS];exact vV (by omega))) ⟨_,rfl,?_⟩
 simp only[List.set];generalize Txt.split r SP=ws at s_ hww;have h7:∀w∈ws,w.length<=10000000:=fun w hw=>Nat.le_trans (hww w hw) (by omega)
 have ix:∀{i:Nat} {δ:ak},i < ws.length->af 2 δ= .ok (.lst (ws.map .str))->e2 df (af 2) (eC (.int i)) δ= .ok (.str (wd ws i)):=fun hi hv=>aw (a:= .lst (ws.map .str)) hv rfl (sP hi)
 refine nC <| Cc (b:=B5 ws) (kc (av (ds:=[.lst (ws.map .str)]) rfl (wV (by omega) h7))) ?_
 unfold fV;cases hi:B5 ws with
 | true=>
   rw[if_pos rfl,if_pos rfl];have hi':=hi;unfold B5 at hi';simp only[Bool.and_eq_true,decide_eq_true_eq] at hi';obtain⟨h3,_,hn,hwd⟩:=hi';obtain⟨_,w3,wk⟩:=Ct hwd;refine tO <| qt (k:=S.length) <| w_var (v:= .loc S.length) rfl ⟨_,rfl,cb 0,LW (by decide+kernel),cQ <| iO (d:= .str (wd ws 1)) (ix (i:=1) (by omega) rfl) <| cQ <| iO (d:=nI (G3 (wd ws 2))) ?_ <| iF ?_⟩
   .unfold vk;rw[show e2 df (af 2) (eC (.int 2)) _= .ok (.str (wd ws 2)) from ix (i:=2) (by omega) rfl,R.aH]
    show(match DP.lookup (wd ws 2) with | some i=>R.ok (D.int i) | none=> .no)=_
    rw[wk];rfl
   .refine(zY DD hn w3).mono ?_ fun _ _ q=>q
    rintro v S1 ⟨rfl,q⟩;exact⟨trivial,q⟩
 | false=>
   rw[if_neg (by decide),if_neg (by decide)]
   refine nC <| Cc (b:=A1 ws) (kc (av (ds:=[.lst (ws.map .str)]) rfl (t_ (by omega) h7))) ?_
   cases hg:A1 ws with
   | true=>
     rw[if_pos rfl,if_pos rfl];have hg':=hg;unfold A1 at hg';simp only[Bool.and_eq_true,decide_eq_true_eq] at hg';obtain⟨⟨h4,_⟩,⟨hn,hk⟩,_,_⟩:=hg';obtain⟨k1,_,_⟩:=Di hk;have hdl:(ws.drop 3).length<=1000:=by
      have hg':=hg;unfold A1 at hg';simp only[Bool.and_eq_true,decide_eq_true_eq] at hg';have h5:=hg'.2.2.1;obtain⟨_,k2,k3⟩:=Di hk;rw[k3] at h5;have:=vQ (wC (wd ws 2));simp only[Option.getD_some] at h5;omega
     refine tO <| qt (k:=S.length) <| w_var (v:= .loc S.length) rfl ⟨_,rfl,cb 0,LW (by decide+kernel),cQ <| iO (d:= .str (wd ws 1)) (ix (i:=1) (by omega) rfl) <| cQ <| iO (d:= .str (wd ws 2)) (ix (i:=2) (by omega) rfl) <| cQ <| iO (d:= .lst ((ws.drop 3).map .str)) (lp (d:= .lst (ws.map .str)) (lo:=some ((3:Nat):Int)) (hi:=none) rfl (fM rfl) rfl ((qd (by rw[List.length_map];omega)).trans (by rw[List.map_drop]))) <| cQ <| iO (d:= .bl (wd ws 0==Str.ofString "sure")) (aw (a:= .str (wd ws 0)) (b:= .str (Str.ofString "sure")) (ix (i:=0) (by omega) rfl) rfl (uI _ _)) <| iF ?_⟩
     refine(wz DD hn k1 hdl fun w hw=>Nat.le_trans (hww w (List.mem_of_mem_drop hw)) (by omega)).mono ?_ fun _ _ q=>q
     rintro v S1 ⟨rfl,q⟩;exact⟨trivial,q⟩
   | false=>
     rw[if_neg (by decide),if_neg (by decide)]
     refine nC <| Cc (b:=Gw ws) (kc (av (ds:=[.lst (ws.map .str)]) rfl (v_ (by omega) h7))) ?_
     cases ho:Gw ws with
     | true=>
       rw[if_pos rfl,if_pos rfl];have wM:=ho;unfold Gw at wM;simp only[Bool.and_eq_true,decide_eq_true_eq] at wM;obtain⟨⟨h4,_,hn⟩,h5,_⟩:=wM;refine tO <| qt (k:=S.length) <| w_var (v:= .loc S.length) rfl ⟨_,rfl,cb 0,LW (by decide+kernel),cQ <| iO (d:= .str (wd ws 1)) (ix (i:=1) (by omega) rfl) <| cQ <| iO (d:= .lst ((ws.drop 2).map .str)) (lp (d:= .lst (ws.map .str)) (lo:=some ((2:Nat):Int)) (hi:=none) rfl (fM rfl) rfl ((qd (by rw[List.length_map];omega)).trans (by rw[List.map_drop]))) <| iF ?_⟩
       refine(xG DD hn (by omega) fun w hw=>Nat.le_trans (hww w (List.mem_of_mem_drop hw)) (by omega)).mono ?_ fun _ _ q=>q
       rintro v S1 ⟨rfl,q⟩;exact⟨trivial,q⟩
     | false=>
       rw[if_neg (by decide),if_neg (by decide)]
       have hrp:=StrLaws.reprText_len r hr.cps;refine qf <| cQ <| iO (d:= .str _) (ni (ss:=[Str.ofString "a row of no form: ",reprText r]) (gE rfl (gE (x:=reprText r) ?_ rfl)) ?_) <| iF ⟨by show 1<=sizeLine;omega,rfl,rfl⟩
       .show R.aS (decide ((reprText r).length<=sizeLine)) (R.ok (D.str (reprText r)))=_;exact bK _ (by omega)
       .show((Str.empty++Str.ofString "a row of no form: ")++reprText r).length<=_;rw[Str.length_append,Str.length_append];have:(Str.ofString "a row of no form: ").length<=100:=by decide+kernel
        show 0+_+_<=_;omega
theorem pl{v:V3}{n:Nat}:∀{fs:List (Str × V3)},fs.length < n->(ue f v fs).length < n+1
 | [],h=>by show 1 < n+1;simp at h;omega
 | (g,x) ::r,h=>by
   unfold ue;split
   .simp at h ⊢;omega
   .have:=pl (f:=f) (v:=v) (n:=n - 1) (fs:=r) (by simp at h;omega)
    simp at h ⊢;omega
theorem EN{Q:V3->aP->Prop}(h:Q (.d .cz) (iS S d0)):W3 (c4 [.loc S.length] (S++[.ins 0 []])) Q:=by
 unfold c4;refine Oe rfl ?_;simp only[dZ,eo,List.map,List.length,List.replicate,List.cons_append,List.nil_append,Nat.reduceAdd,Nat.reduceSub];unfold fY;have a0:∀{l:List SO},(S++l)[S.length]? =l[0]?:=fun {l}=>cb 0
 have ln:∀{l:List SO},(S++l).length=S.length+l.length:=fun {l}=>List.length_append
 refine g7 <| jO (k:=S.length) <| DA (ds:=[]) rfl <| w_var (v:= .loc S.length) rfl ⟨[],rfl,by rw[List.append_assoc];exact a0,by decide,_,rfl,?_⟩
 rw[ln,List.append_assoc,show ∀x:SO,List.set (S++([.ins 0 []]++[.lst []])) S.length x=S++[x, .lst []] from fun x=>dO (S:=S) (l:=[.ins 0 [], .lst []]) 0 x]
 refine g7 <| jO (k:=S.length) <| DA (ds:=[]) rfl <| w_var (v:= .loc S.length) rfl ⟨_,rfl,by rw[List.append_assoc];exact a0,pl (by decide),_,rfl,?_⟩
 rw[ln,List.append_assoc];refine(show ∀{F:FZ} {δ:DE} {Q:Ou->aP->Prop} {x y:aP},x=y->W3 (F δ y) Q->W3 (F δ x) Q from fun e h=>by rw[e];exact h) (dO (S:=S) (l:=[_, .lst [], .lst []]) 0 _) ?_
 show W3 (dc _ _ _ (S++[_,SO.lst [],SO.lst []])) _;refine g7 <| jO (k:=S.length) <| DA (ds:=[]) rfl <| w_var (v:= .loc S.length) rfl ⟨_,rfl,by rw[List.append_assoc];exact a0,pl (pl (by decide)),_,rfl,?_⟩
 rw[ln,List.append_assoc];refine(show ∀{F:FZ} {δ:DE} {Q:Ou->aP->Prop} {x y:aP},x=y->W3 (F δ y) Q->W3 (F δ x) Q from fun e h=>by rw[e];exact h) (dO (S:=S) (l:=[_, .lst [], .lst [], .lst []]) 0 _) ?_
 show W3 (dc _ _ _ (S++[_,SO.lst [],SO.lst [],SO.lst []])) _;refine g7 <| jO (k:=S.length) <| wU <| w_var (v:= .loc S.length) rfl ⟨_,rfl,by rw[List.append_assoc];exact a0,pl (pl (pl (by decide))),_,rfl,?_⟩
 rw[ln,List.append_assoc];refine(show ∀{F:FZ} {δ:DE} {Q:Ou->aP->Prop} {x y:aP},x=y->W3 (F δ y) Q->W3 (F δ x) Q from fun e h=>by rw[e];exact h) (dO (S:=S) (l:=[_, .lst [], .lst [], .lst [], .dct []]) 0 _) ?_
 show W3 (dc _ _ _ (S++[_,SO.lst [],SO.lst [],SO.lst [],SO.dct []])) _;refine g7 <| jO (k:=S.length) <| wU <| w_var (v:= .loc S.length) rfl ⟨_,rfl,by rw[List.append_assoc];exact a0,pl (pl (pl (pl (by decide)))),_,rfl,?_⟩
 rw[ln,List.append_assoc];refine(show ∀{F:FZ} {δ:DE} {Q:Ou->aP->Prop} {x y:aP},x=y->W3 (F δ y) Q->W3 (F δ x) Q from fun e h=>by rw[e];exact h) (dO (S:=S) (l:=[_, .lst [], .lst [], .lst [], .dct [], .dct []]) 0 _) ?_
 show W3 (ur _ _ _ _ _ (S++[_,SO.lst [],SO.lst [],SO.lst [],SO.dct [],SO.dct []])) _;refine jO (k:=S.length) <| wU <| w_var (v:= .loc S.length) rfl ⟨_,rfl,by rw[List.append_assoc];exact a0,pl (pl (pl (pl (pl (by decide))))),_,rfl,?_⟩
 rw[ln,List.append_assoc];refine(show ∀{x y:aP},x=y->Q (.d .cz) y->Q (.d .cz) x from fun e h=>by rw[e];exact h) (dO (S:=S) (l:=[_, .lst [], .lst [], .lst [], .dct [], .dct [], .dct []]) 0 _) ?_
 exact h
end
end K02
end
section
namespace K02
open PySem PySem.Spec PyProof.Rows L2 L3 MT JT TX
theorem qD{c a:Nat}:∀{l:WJ} {x:List Nat},x∈l->a∈x->a∈jn c l
 | [y],x,hx,ha=>by rw[List.mem_singleton.mp hx] at ha;exact ha
 | y ::z ::r,x,hx,ha=>by
   show a∈y++c ::jn c (z ::r);rcases List.mem_cons.mp hx with e | e
   .rw [e] at ha;exact List.mem_append_left _ ha
   .exact List.mem_append_right _ (List.mem_cons_of_mem _ (qD e ha))
theorem E6{n c:Nat}(h:Rw n x)(hp:p∈Txt.split x ⟨#[c]⟩):Rw n p:=by
 refine⟨Nat.le_trans (part_short hp) h.len,fun a ha=>h.cps a ?_⟩
 rw[<-StrLaws.join_split x ⟨#[c]⟩,jT];exact qD (List.mem_map_of_mem hp) ha
section
variable {S:aP}
theorem EA{rs:List Str}(hr:∀r∈rs,Rw 1000000 r){d:Dr}(DD:lD d){T:Str}{ws:List Str}{a3:Option V3}:WE (eB (ER 3) n9 ((rs.map D.str).map V3.d) [some (.d (.str T)),some (.d (.lst (ws.map .str))),some (.loc S.length),a3] (iS S d)) (fun o S1=>∃d' b3,o= .nx [some (.d (.str T)),some (.d (.lst (ws.map .str))),some (.loc S.length),b3]/\fU d rs= .ok d'/\lD d'/\S1=iS S d') (fun c S1=>fU d rs= .error c/\∃T,S1=S++T):=by
 induction rs generalizing d a3 with
 | nil=>exact .inl ⟨_,_,rfl,d,a3,rfl,rfl,DD,rfl⟩
 | cons r rs ih=>
   show WE ((n9 [some (.d (.str T)),some (.d (.lst (ws.map .str))),some (.loc S.length),some (.d (.str r))] (iS S d)).bind _) _ _;refine WE.bind ?_;unfold n9;refine tO <| Ie <| cQ <| w_var (v:= .loc S.length) rfl <| cQ <| iO (d:= .str r) rfl <| iF <| (IS DD (hr r List.mem_cons_self)).mono ?_ ?_
   .rintro v S1 ⟨rfl,d',h1,rfl⟩;have:=ih (fun x hx=>hr x (List.mem_cons_of_mem _ hx)) (F5 DD h1) (a3:=some (.d (.str r)))
    unfold fU;rw[h1];exact this
   .rintro c S1 ⟨h1,rfl⟩;unfold fU;rw[h1];exact⟨rfl,_,rfl⟩
theorem Eh(ht:Rw 1000000 text):WE (jr [.d (.str text)] S) (fun v S1=>∃d,uV (Txt.split text NL)= .ok d/\lD d/\v= .tup [.loc (S.length+1), .loc (S.length+2), .loc (S.length+3)]/\S1=iS S d) (fun c S1=>uV (Txt.split text NL)= .error c/\∃T,S1=S++T):=by
 have hz:sizeLine=16777216:=sizeLine_eq;have htl:=ht.len;unfold jr;refine Kb rfl ?_;simp only[dZ,uk,List.map,List.length,List.replicate,List.cons_append,List.nil_append,Nat.reduceAdd,Nat.reduceSub];unfold x8;have hrl:(Txt.split text NL).length<=1000002:=Nat.le_trans (split_le text NL) (by omega)
 have hrr:∀r∈Txt.split text NL,Rw 1000000 r:=by rw[uY];exact fun r hr=>E6 ht hr
 refine g6 <| wu <| nD (by simp) <| iO (d:= .lst ((Txt.split text NL).map .str)) (jo (x:=text) rfl (aq rfl rfl) (by rw[uY];exact vV (by omega))) ⟨_,rfl,?_⟩
 simp only[List.set];generalize Txt.split text NL=rs at hrl hrr;refine g6 <| nC <| Cc (b:=decide (80 < rs.length)) (cY (a:=nI rs.length) (b:=nI 80) (av (ds:=[.lst (rs.map .str)]) rfl (by rw[fW,List.length_map])) rfl (Dg _ _)) ?_
 unfold uV;by_cases h1:80 < rs.length
 .rw [decide_eq_true h1,if_pos rfl,if_pos h1];exact qf <| cQ <| iO (d:= .str _) rfl <| iF ⟨by show 1<=sizeLine;omega,rfl,[],by simp⟩
 .rw [decide_eq_false h1,if_neg (by decide),if_neg h1]
  refine k9 ⟨_,rfl,?_⟩;refine g6 <| wu <| nD (by simp) <| JX <| iF <| EN ⟨rfl,_,rfl,?_⟩
  simp only[List.set];refine g6 <| G5 <| FF (ds:=rs.map .str) (eW rfl) ?_
  refine(EA hrr KH).mono ?_ ?_
  .rintro o S1 ⟨d,b3,rfl,h2,DD,rfl⟩;refine⟨_,rfl,?_⟩;rw[h2];have key:W3 (LM (CW (k6 (eE 0 (Str.ofString "ins") (cy 2)))) (CW (k6 (eE 0 (Str.ofString "outs") (cy 2)))) [some (.d (.str text)),some (.d (.lst (rs.map .str))),some (.loc S.length),b3] (iS S d)) fun b S1=>b=decide (d.ins=[]\/d.os=[])/\S1=iS S d:=by
    refine W3.bind (W3.bind (qJ <| hJ (i:=0) rfl (by decide+kernel) ⟨_,_,rfl,GH,W3.ok ?_⟩))
    rw[qW d.ins];by_cases hi:d.ins=[]
    .rw [decide_eq_false (fun q=>q hi),decide_eq_true (.inl hi)]
     exact W3.ok ⟨rfl,rfl⟩
    .rw [decide_eq_true hi,show(!true)=false from rfl,if_neg (by decide)]
     refine W3.bind (qJ <| hJ (i:=2) rfl (by decide+kernel) ⟨_,_,rfl,y0,W3.ok ?_⟩)
     rw[qW d.os];refine⟨?_,rfl⟩;by_cases ho:d.os=[]
     .rw [decide_eq_false (fun q=>q ho),decide_eq_true (.inr ho)];rfl
     .rw [decide_eq_true ho,decide_eq_false fun q=>q.elim hi ho];rfl
   refine g6 <| nC <| key.mono ?_
   rintro b S1 ⟨rfl,rfl⟩;simp only;by_cases h3:d.ins=[]\/d.os=[]
   .rw [decide_eq_true h3,if_pos rfl,if_pos h3];exact qf <| cQ <| iO (d:= .str _) rfl <| iF ⟨by show 1<=sizeLine;omega,rfl,_,rfl⟩
   .rw [decide_eq_false h3,if_neg (by decide),if_neg h3]
    refine k9 ⟨_,rfl,?_⟩;exact wu <| B9 <| LL <| cQ <| hJ (i:=0) rfl (by decide+kernel) <| cQ <| hJ (i:=1) rfl (by decide+kernel) <| cQ <| hJ (i:=2) rfl (by decide+kernel) <| iF ⟨by show 3<=sizeLine;omega,d,rfl,DD,rfl,rfl⟩
  .rintro c S1 ⟨h2,q⟩;rw[h2];exact⟨rfl,q⟩
end
end K02
end
section
set_option maxHeartbeats 4000000
namespace K02
open PySem PySem.Spec PyProof.Rows L2 L3 MT JT
def stir(cell k:Int):Int:=if 10 ^ 18<=cell then(cell - 10 ^ 18) / 2 ^ (28*k).toNat % 2 ^ 28
 else((cell+1013*k+1)*16807 % 2147483647)*((cell+1013*k+1)*16807 % 2147483647) % 2147483629*39373 % 2147483587 / 8
theorem F3(cell k:Int)(hk:0<=k):bp [.int cell, .int k]= .ok (.int (stir cell k)):=by
 have p1:∀δ,e2 z9 (eC (.int 10)) (eC (.int 18)) δ= .ok (.int (10 ^ 18)):=fun δ=>rfl
 have p2:∀δ,e2 z9 (eC (.int 2)) (eC (.int 28)) δ= .ok (.int (2 ^ 28)):=fun δ=>rfl
 have ge:∀a b:Int,Hn (.int a) (.int b)= .ok (.bl (decide (a>=b))):=fun a b=>rfl
 have mulc:∀(a b:Int),(-(2 ^ 64) < b/\b < 2 ^ 64)->mw (.int a) (.int b)= .ok (.int (a*b)):=fun a b h=>by
  show R.aS (decide _) (R.ok (D.int (a*b)))=_;exact bK _ (.inr h)
 have mulc':∀(a b:Int),(-(2 ^ 64) < a/\a < 2 ^ 64)->mw (.int a) (.int b)= .ok (.int (a*b)):=fun a b h=>by
  show R.aS (decide _) (R.ok (D.int (a*b)))=_;exact bK _ (.inl h)
 unfold bp ri stir;by_cases h:(10:Int) ^ 18<=cell
 .rw [if_pos h];refine c7 (NT.mn (mO (cY (a:= .int cell) (b:= .int (10 ^ 18)) rfl (p1 _) ((ge _ _).trans (by rw[decide_eq_true h]))) (cw (aw (a:= .int ((cell - 10 ^ 18) / 2 ^ (28*k).toNat)) (b:= .int (2 ^ 28)) (aw (a:= .int (cell - 10 ^ 18)) (b:= .int (28*k)) (aw (a:= .int cell) (b:= .int (10 ^ 18)) rfl (p1 _) rfl) (aw (a:= .int 28) (b:= .int k) rfl rfl (mulc' _ _ ⟨by omega,by omega⟩)) ?_) (p2 _) (qw (by omega))))))
  show R.aS (decide ((0:Int)<=28*k)) (R.ok (D.int ((cell - 10 ^ 18) / 2 ^ (28*k).toNat)))=_;exact bK _ (by omega)
 .rw [if_neg h];refine c7 (az (kI (cY (a:= .int cell) (b:= .int (10 ^ 18)) rfl (p1 _) ((ge _ _).trans (by rw[decide_eq_false h]))) rfl) (az (bt (d:= .int ((cell+1013*k+1)*16807 % 2147483647)) (aw (a:= .int ((cell+1013*k+1)*16807)) (b:= .int 2147483647) (aw (a:= .int (cell+1013*k+1)) (b:= .int 16807) (aw (a:= .int (cell+1013*k)) (b:= .int 1) (aw (a:= .int cell) (b:= .int (1013*k)) rfl (aw (a:= .int 1013) (b:= .int k) rfl rfl (mulc' _ _ ⟨by omega,by omega⟩)) rfl) rfl rfl) rfl (mulc _ _ ⟨by omega,by omega⟩)) rfl (qw (by omega))) (by simp [bW,ky])) ?_))
  have b1:0<=(cell+1013*k+1)*16807 % 2147483647:=Int.emod_nonneg _ (by omega)
  have OZ:(cell+1013*k+1)*16807 % 2147483647 < 2147483647:=Int.emod_lt_of_pos _ (by omega)
  generalize (cell+1013*k+1)*16807 % 2147483647=x at b1 OZ;refine az (bt (d:= .int (x*x % 2147483629)) (aw (a:= .int (x*x)) (b:= .int 2147483629) (aw (a:= .int x) (b:= .int x) rfl rfl (mulc _ _ ⟨by omega,by omega⟩)) rfl (qw (by omega))) (by simp [bW,ky])) (cw ?_)
  exact aw (a:= .int (x*x % 2147483629*39373 % 2147483587)) (b:= .int 8) (aw (a:= .int (x*x % 2147483629*39373)) (b:= .int 2147483587) (aw (a:= .int (x*x % 2147483629)) (b:= .int 39373) rfl rfl (mulc _ _ ⟨by omega,by omega⟩)) rfl (qw (by omega))) rfl (yW (by omega) (by omega))
theorem D3(cell k:Int):0<=stir cell k:=by
 unfold stir;split <;> omega
def stN(cell:Int)(k:Nat):Nat:=(stir cell k).toNat
theorem oe(cell:Int)(k:Nat):bp [.int cell,nI k]= .ok (nI (stN cell k)):=by
 show bp [.int cell, .int k]=_;rw[F3 cell k (by omega)]
 unfold nI stN;rw[Int.toNat_of_nonneg (D3 _ _)]
end K02
end
section
set_option maxHeartbeats 1000000
namespace K02
open PySem PySem.Spec PyProof.Rows L2 L3 MT JT
theorem uj(ns:List Int)(k:Nat):c6 [.lst (ns.map .int),nI k]= .ok (.int (ns.getD k 0)):=by
 unfold c6 mF;by_cases h:k < ns.length
 .refine c7 (NT.mn (mO (cY (a:=nI k) (b:=nI ns.length) rfl (av (ds:=[.lst (ns.map .int)]) rfl (by rw[LR,List.length_map];rfl)) (by rw[BK,decide_eq_true h])) (cw (aw (a:= .lst (ns.map .int)) (b:=nI k) rfl rfl (NT.cB ?_)))))
  rw[List.getElem?_map,List.getD_eq_getElem?_getD,List.getElem?_eq_getElem h];rfl
 .refine c7 (az (kI (cY (a:=nI k) (b:=nI ns.length) rfl (av (ds:=[.lst (ns.map .int)]) rfl (by rw[LR,List.length_map];rfl)) (by rw[BK,decide_eq_false h])) rfl) (cw ?_))
  rw[List.getD_eq_getElem?_getD,List.getElem?_eq_none (by omega)]
  rfl
end K02
end
section
namespace K02
open PySem PySem.Spec PyProof.Rows L2 L3 MT JT TX
abbrev eL(head:Int)(k m:Nat)(ss:List Str)(a b c e:Sl):ak:=[.val (.int head), .val (nI k), .val (nI m), .val (.str xp), .val (.lst (oS.map .str)), .bld (ss.map .str),a,b,c,e]
section
variable {head:Int} {k m:Nat} {ss:List Str}
theorem BH{a b c e:Sl}:cR 9 (eNew (cx (d8 (eC (.int 80))) (aA 0) jB (e2 cN (e2 cN (eC (.str (Str.ofString "zz"))) (e2 df (af 1) (e2 dH (af 0) (eC (.int 26))))) (e2 df (af 1) (e2 dG (af 0) (eC (.int 26))))) [(Str.ofString "n")] [3])) (eL head k m ss a b c e)= .ok (.nx (eL head k m ss a b c (.val (.lst (zr.map .str))))):=by
 have hz:sizeLine=16777216:=sizeLine_eq;refine bt (δ:=eL head k m ss a b c e) (bJ (cK (ds:=(List.range 80).map nI) (n6 (n:=80) rfl (by omega)) (by simp;omega) ?_)) (by show 9 < 10;omega)
 rw[show zr.map D.str=(List.range 80).map fun n=>D.str ⟨#[122,122,97+n / 26,97+n % 26]⟩ from List.map_map]
 refine NT.cH nI _ fun n hn=>⟨[.val (nI n), .val (.str xp)],rfl,rfl,?_⟩
 have hn:=List.mem_range.mp hn;have l1:(Str.ofString "zz").length=2:=by decide+kernel
 refine(aw (a:= .str (Str.ofString "zz"++iG (n / 26))) (b:= .str (iG (n % 26))) (aw (a:= .str (Str.ofString "zz")) (b:= .str (iG (n / 26))) rfl (aw (a:= .str xp) (b:=nI (n / 26)) rfl (aw (a:=nI n) (b:=nI 26) rfl rfl (nU (by omega) (by omega))) (p8 (by omega))) (mq (by rw[l1];show 2+1<=_;omega))) (aw (a:= .str xp) (b:=nI (n % 26)) rfl (aw (a:=nI n) (b:=nI 26) rfl rfl (fK (by omega))) (p8 (by omega))) (mq (by rw[Str.length_append,l1];show 2+1+1<=_;omega))).trans ?_
 rw[Hm]
theorem Fh{a b c:Sl}(h:ss.length < 80):∃w,w∈zr/\w ∉ ss/\cR 8 (lB (e2 df (eNew (cx (cP (af 9)) (aA 0) (b2 jy (af 0) (af 1)) (af 0) [(Str.ofString "one")] [5])) (eC (.int 0)))) (eL head k m ss a b c (.val (.lst (zr.map .str))))= .ok (.nx (eL head k m ss a b (.val (.str w)) (.val (.lst (zr.map .str))))):=by
 have hz:sizeLine=16777216:=sizeLine_eq;obtain⟨w,hw,hm,hn⟩:=vi HI (ss:=ss) (by unfold zr;simp;exact h)
 refine⟨w,hm,hn,bt (δ:=eL head k m ss a b c (.val (.lst (zr.map .str)))) (n8 (aw (a:= .lst ((zr.filter fun s=>!ss.contains s).map .str)) (b:= .int (0:Nat)) (bJ (cK (ds:=zr.map .str) ?_ (by unfold zr;simp;omega) ?_)) rfl (NT.cB (by rw[List.getElem?_map,hw];rfl))) rfl) (by show 8 < 10;omega)⟩
 .refine eW ?_;cases a <;> cases b <;> cases c <;> rfl
 .rw [show oE [(Str.ofString "one")] [5] (my (eL head k m ss a b c (.val (.lst (zr.map .str)))))=[.un, .val (.lst (ss.map .str))] by cases a <;> cases b <;> cases c <;> rfl]
  exact NT.kf (fun s=>!ss.contains s) D.str D.str fun s hs=>⟨[.val (.str s), .val (.lst (ss.map .str))],rfl,cY (a:= .str s) (b:= .lst (ss.map .str)) rfl rfl (x_ _ _),fun _=>rfl⟩
theorem Bw{a b e:Sl}(h:ss.length < 80):nW 5 (af 8) (eL head k m ss a b (.val (.str w)) e)= .ok (.nx (eL head k m (ss++[w]) a b (.val (.str w)) e)):=by
 have hz:sizeLine=16777216:=sizeLine_eq;rw[ip (d:= .str w) (ds:=ss.map .str) rfl rfl (by rw[List.length_map,hz];omega)]
 show R.ok (Out.nx (_ ::_ ::_ ::_ ::_ ::Sl.bld (ss.map D.str++[.str w]) ::_))=_;rw[show ss.map D.str++[.str w]=(ss++[w]).map .str by simp]
theorem zP{j:Nat}{b c e:Sl}(h:ss.length < 80)(hs:∀s∈ss,isNm s=true):∃w b' c' e',isNm w=true/\w ∉ ss/\gr (eL head k m ss (.val (nI j)) b c e)= .ok (.nx (eL head k m (ss++[w]) (.val (nI j)) b' c' e')):=by
 have hz:sizeLine=16777216:=sizeLine_eq;unfold gr;obtain⟨r,hr⟩:∃r,stN head (k+j)=r:=⟨_,rfl⟩;have s1:cR 7 (aM bp (aj (af 0) (aj (e2 cN (af 1) (af 6)) aL))) (eL head k m ss (.val (nI j)) b c e)= .ok (.nx (eL head k m ss (.val (nI j)) (.val (nI r)) c e)):=
  bt (δ:=eL head k m ss (.val (nI j)) b c e) ((av (ds:=[.int head,nI (k+j)]) (aq rfl (aq (aw (a:=nI k) (b:=nI j) rfl rfl (k8 _ _)) rfl)) (oe head (k+j))).trans (by rw[hr])) (by show 7 < 10;omega)
 have g1:=zm (i:=r % 26) (by omega)
 have g2:=zm (i:=r / 26 % 26) (by omega)
 have g3:=NU (r:=r / 700 % 7) (by omega)
 have gj:=K_ g1 g2 g3;have lx:(Str.ofString "x").length=1:=by decide+kernel
 have s2:∀c,cR 8 (wL "str" ie (eC (.str (Str.ofString ""))) (aj (eNew (eG (aj (e2 df (af 3) (e2 dG (af 7) (eC (.int 26)))) (aj (e2 df (af 3) (e2 dG (e2 dH (af 7) (eC (.int 26))) (eC (.int 26)))) (aj (e2 mw (eC (.str (Str.ofString "x"))) (e2 dG (e2 dH (af 7) (eC (.int 700))) (eC (.int 7)))) aL))))) aL)) (eL head k m ss (.val (nI j)) (.val (nI r)) c e)= .ok (.nx (eL head k m ss (.val (nI j)) (.val (nI r)) (.val (.str (Str.join (Str.ofString "") [iG (r % 26),iG (r / 26 % 26),Txt.mul (Str.ofString "x") (r / 700 % 7:Nat)]))) e)):=fun c=>by
  refine bt (δ:=eL head k m ss (.val (nI j)) (.val (nI r)) c e) (jo (x:=Str.ofString "") rfl (aq (bJ (cM (ds:=[iG (r % 26),iG (r / 26 % 26),Txt.mul (Str.ofString "x") (r / 700 % 7:Nat)].map .str) (aq ?_ (aq ?_ (aq ?_ rfl))) (by show 3<=sizeLine;omega))) rfl) (tT ?_)) (by show 8 < 10;omega)
  .exact aw (a:= .str xp) (b:=nI (r % 26)) rfl (aw (a:=nI r) (b:=nI 26) rfl rfl (fK (by omega))) (p8 (by omega))
  .exact aw (a:= .str xp) (b:=nI (r / 26 % 26)) rfl (aw (a:=nI (r / 26)) (b:=nI 26) (aw (a:=nI r) (b:=nI 26) rfl rfl (nU (by omega) (by omega))) rfl (fK (by omega))) (p8 (by omega))
  .exact aw (a:= .str (Str.ofString "x")) (b:=nI (r / 700 % 7)) rfl (aw (a:=nI (r / 700)) (b:=nI 7) (aw (a:=nI r) (b:=nI 700) rfl rfl (nU (by omega) (by omega))) rfl (fK (by omega))) (FJ (by omega) (by omega) (by rw[lx];omega))
  .have l1:=g1.len;have l2:=g2.len;have l3:=g3.len;have l4:(Str.ofString "").length=0:=by decide+kernel
   simp only[List.map_cons,List.map_nil,List.sum_cons,List.sum_nil,List.length_cons,List.length_nil,l4];omega
 generalize Str.join (Str.ofString "") [iG (r % 26),iG (r / 26 % 26),Txt.mul (Str.ofString "x") (r / 700 % 7:Nat)]=w0 at gj s2;have gj:=gj.len |> fun _=>gj
 have l0:=gj.len;have s3:cR 8 (xK (af 8) (ib (e2 dG (e2 dH (af 7) (eC (.int 5000))) (eC (.int 2)))) kL) (eL head k m ss (.val (nI j)) (.val (nI r)) (.val (.str w0)) e)= .ok (.nx (eL head k m ss (.val (nI j)) (.val (nI r)) (.val (.str (Txt.slice w0 (some (r / 5000 % 2:Nat)) none))) e)):=
  bt (δ:=eL head k m ss (.val (nI j)) (.val (nI r)) _ e) (lp (d:= .str w0) (lo:=some ((r / 5000 % 2:Nat):Int)) (hi:=none) rfl (fM (aw (a:=nI (r / 5000)) (b:=nI 2) (aw (a:=nI r) (b:=nI 5000) rfl rfl (nU (by omega) (by omega))) rfl (fK (by omega)))) rfl (DB (by omega))) (by show 8 < 10;omega)
 have g4:Lw 8 (Txt.slice w0 (some (r / 5000 % 2:Nat)) none):=gj.slice _ _;generalize Txt.slice w0 (some (r / 5000 % 2:Nat)) none=w1 at g4 s3;have s4:∃w2,Lw 8 w2/\q8 (rR (b2 pF (e2 dG (e2 dH (af 7) (eC (.int 10000))) (eC (.int 4))) (eC (.int 0))) (mH (b2 yN (af 5) (eNew (eG aL))))) (cR 8 (xK (e2 cN (lB (e2 df (af 5) (e2 dG (e2 dH (af 7) (eC (.int 40000))) (aM fN (aj (af 5) aL))))) (af 8)) kL (ib (eC (.int 8))))) ku (eL head k m ss (.val (nI j)) (.val (nI r)) (.val (.str w1)) e)= .ok (.nx (eL head k m ss (.val (nI j)) (.val (nI r)) (.val (.str w2)) e)):=by
  have t5:af 5 (my (eL head k m ss (.val (nI j)) (.val (nI r)) (.val (.str w1)) e))= .ok (.lst (ss.map .str)):=by cases e <;> rfl
  have t7:af 7 (my (eL head k m ss (.val (nI j)) (.val (nI r)) (.val (.str w1)) e))= .ok (nI r):=by cases e <;> rfl
  have q:rR (b2 pF (e2 dG (e2 dH (af 7) (eC (.int 10000))) (eC (.int 4))) (eC (.int 0))) (mH (b2 yN (af 5) (eNew (eG aL)))) (eL head k m ss (.val (nI j)) (.val (nI r)) (.val (.str w1)) e)= .ok (decide (r / 10000 % 4=0) && !ss.isEmpty):=
   tK (cY (a:=nI (r / 10000 % 4)) (b:=nI 0) (aw (a:=nI (r / 10000)) (b:=nI 4) (aw (a:=nI r) (b:=nI 10000) rfl rfl (nU (by omega) (by omega))) rfl (fK (by omega))) rfl (wX _ _)) fun _=>cY (a:= .lst (ss.map .str)) (b:= .lst []) t5 (bJ rfl) (Fx fun s J_=>K8 (GW (hs s J_)))
  cases hb:(decide (r / 10000 % 4=0) && !ss.isEmpty) with
  | false=>rw [hb] at q;exact⟨w1,g4,kI q rfl⟩
  | true=>
    rw[hb] at q;have qh:0 < ss.length:=by
     cases ss with
     | nil=>simp at hb
     | cons=>simp
    have hi:r / 40000 % ss.length < ss.length:=Nat.mod_lt _ qh;obtain⟨z,DY⟩:∃z,ss[r / 40000 % ss.length]? =some z:=⟨_,List.getElem?_eq_getElem hi⟩;have gz:=GW (hs z (List.mem_of_getElem? DY));have lz:=gz.len;have l1:=g4.len;refine⟨Txt.slice (z++w1) none (some 8),⟨Jj _,((gz.app g4).slice none (some 8)).low⟩,mO q (bt (δ:=eL head k m ss (.val (nI j)) (.val (nI r)) (.val (.str w1)) e) (lp (d:= .str (z++w1)) (lo:=none) (hi:=some 8) (aw (a:= .str z) (b:= .str w1) (n8 (aw (a:= .lst (ss.map .str)) (b:=nI (r / 40000 % ss.length)) t5 (aw (a:=nI (r / 40000)) (b:=nI ss.length) (aw (a:=nI r) (b:=nI 40000) t7 rfl (nU (by omega) (by omega))) (av (ds:=[.lst (ss.map .str)]) (aq t5 rfl) (by rw[fW,List.length_map])) (fK qh)) (NT.cB (by rw[List.getElem?_map,DY];rfl))) rfl) rfl (mq (by omega))) rfl (fM rfl) (DB (by rw[Str.length_append];omega))) (by show 8 < 10;omega))⟩
 obtain⟨w2,g5,s4⟩:=s4;have q2:ya (b2 pF (af 8) (eC (.str (Str.ofString "")))) (ya (mH (b2 yt (af 8) (af 5))) (b2 yt (af 8) (af 4))) (eL head k m ss (.val (nI j)) (.val (nI r)) (.val (.str w2)) e)= .ok ((w2==Str.ofString "") || (ss.contains w2 || oS.contains w2)):=
  lN (cY (a:= .str w2) (b:= .str (Str.ofString "")) rfl rfl (uI _ _)) fun _=>lN (cY (a:= .str w2) (b:= .lst (ss.map .str)) (by cases e <;> rfl) (by cases e <;> rfl) (x9 _ _)) fun _=>cY (a:= .str w2) (b:= .lst (oS.map .str)) rfl rfl (x9 _ _)
 cases hb:((w2==Str.ofString "") || (ss.contains w2 || oS.contains w2)) with
 | true=>
   rw[hb] at q2;obtain⟨w,UJ,Vv,sp⟩:=Fh (head:=head) (k:=k) (m:=m) (ss:=ss) (a:= .val (nI j)) (b:= .val (nI r)) (c:= .val (.str w2)) h;exact⟨w,_,_,_,Il w UJ,Vv,az s1 (az (s2 c) (az s3 (az s4 (az (mO q2 (az BH sp)) (Bw h)))))⟩
 | false=>
   rw[hb] at q2;obtain⟨b1,OZ⟩:=Bool.or_eq_false_iff.mp hb;obtain⟨b3,b4⟩:=Bool.or_eq_false_iff.mp OZ;refine⟨w2,_,_,_,g5.nm (fun q=>?_) (fun q=>?_),fun q=>?_,az s1 (az (s2 c) (az s3 (az s4 (az (kI q2 rfl) (Bw h)))))⟩
   .rw [q] at b1;exact absurd b1 (by decide+kernel)
   .rw [List.contains_iff_mem.mpr q] at b4;cases b4
   .rw [List.contains_iff_mem.mpr q] at b3;cases b3
end
theorem rn(head:Int)(k m:Nat)(hm:m<=80):∃ss:List Str,dy [.int head,nI k,nI m]= .ok (.lst (ss.map .str))/\ss.length=m/\ss.Nodup/\∀s∈ss,isNm s=true:=by
 have hz:sizeLine=16777216:=sizeLine_eq;obtain⟨dC,h1,ss,a,b,c,e,hδ,hlen,hnd,hg⟩:=er (t:=aA 6) (body:=gr) (ds:=(List.range m).map nI) (fun i δ=>∃ss a b c e,δ=eL head k m ss a b c e/\ss.length=i/\ss.Nodup/\∀s∈ss,isNm s=true)
  (δ:=eL head k m [] .un .un .un .un) ⟨[],_,_,_,_,rfl,rfl,List.nodup_nil,by simp⟩ (by
    rintro i d δ hd ⟨ss,a,b,c,e,rfl,hl,hnd,hg⟩;obtain⟨j,hj,rfl⟩:=NT.ik hd;obtain⟨hjl,ej⟩:=List.getElem?_eq_some_iff.mp hj;rw[List.length_range] at hjl;obtain⟨w,b',c',e',U_,Vc,hs⟩:=zP (head:=head) (k:=k) (m:=m) (ss:=ss) (j:=j) (b:=b) (c:=c) (e:=e) (by omega) hg
    refine⟨eL head k m (ss++[w]) (.val (nI j)) b' c' e',?_,ss++[w],_,_,_,_,rfl,by simp [hl],?_,fun s J_=>?_⟩
    .rw [show aA 6 (nI j) (eL head k m ss a b c e)= .ok (eL head k m ss (.val (nI j)) b c e) from rfl,R.aH]
     exact hs
    .exact List.nodup_append.mpr ⟨hnd,by simp,fun x hx y hy q=>Vc (by rw[List.mem_singleton.mp hy] at q;rw [<-q];exact hx)⟩
    .rcases List.mem_append.mp J_ with z | z
     .exact hg s z
     .rw [List.mem_singleton.mp z];exact U_)
 rw[List.length_map,List.length_range] at hlen;refine⟨ss,?_,hlen,hnd,hg⟩;unfold dy pf;refine c7 (az (bt (d:= .str xp) rfl (by simp [bW,d3])) (az (bt (d:= .lst (oS.map .str)) (bJ (cM (ds:=oS.map .str) rfl (by show 9<=sizeLine;omega))) (by simp [bW,d3])) (az (ju (ds:=[]) (cM rfl (by show 0<=sizeLine;omega)) (by simp [bW,d3])) (az (iu (ds:=(List.range m).map nI) (n6 (n:=m) rfl (by omega)) h1) ?_))))
 subst hδ;exact cw rfl
end K02
end
section
namespace K02
open PySem PySem.Spec PyProof.Rows L2 L3 MT JT TX
theorem we(cell:Int)(k m count:Nat)(hc:0 < count)(hm:m<=1000):∃l:List Nat,d_ [.int cell,nI k,nI m,nI count]= .ok (.tup (l.map nI))/\l.length=m/\∀w∈l,w < count:=by
 have hz:sizeLine=16777216:=sizeLine_eq;obtain⟨dC,h1,l,a,b,hδ,hlen,hg⟩:=er (t:=aA 5) (body:=jw) (ds:=(List.range m).map nI) (fun i δ=>∃(l:List Nat) (a b:Sl),δ=[.val (.int cell), .val (nI k), .val (nI m), .val (nI count), .bld (l.map nI),a,b]/\l.length=i/\∀w∈l,w < count)
  (δ:=[.val (.int cell), .val (nI k), .val (nI m), .val (nI count), .bld [], .un, .un]) ⟨[],_,_,rfl,rfl,by simp⟩ (by
    rintro i d δ hd ⟨l,a,b,rfl,hl,hg⟩;obtain⟨j,hj,rfl⟩:=NT.ik hd;obtain⟨hjl,ej⟩:=List.getElem?_eq_some_iff.mp hj;rw[List.length_range] at hjl;obtain⟨r,hr⟩:∃r,stN cell (k+j)=r:=⟨_,rfl⟩;have hmn:0 < min count 6:=by omega
    obtain⟨w,hw,hlt⟩:∃w,w=(if 0 < r % 4 then count - 1 - r / 4 % min count 6 else r / 4 % count)/\w < count:=⟨_,rfl,by
     have:=Nat.mod_lt (r / 4) hc;split <;> omega⟩
    refine⟨[.val (.int cell), .val (nI k), .val (nI m), .val (nI count), .bld ((l++[w]).map nI), .val (nI j), .val (nI r)],?_,l++[w],_,_,rfl,by simp [hl],fun y hy=>?_⟩
    .rw [show aA 5 (nI j) [.val (.int cell), .val (nI k), .val (nI m), .val (nI count), .bld (l.map nI),a,b]= .ok [.val (.int cell), .val (nI k), .val (nI m), .val (nI count), .bld (l.map nI), .val (nI j),b] from rfl,R.aH]
     unfold jw;refine az (bt (d:=nI r) ((av (ds:=[.int cell,nI (k+j)]) (aq rfl (aq (aw (a:=nI k) (b:=nI j) rfl rfl (k8 _ _)) rfl)) (oe cell (k+j))).trans (by rw[hr])) (by simp)) ?_
     have e4:∀δ:ak,af 6 δ= .ok (nI r)->e2 dH (af 6) (eC (.int 4)) δ= .ok (nI (r / 4)):=fun δ h=>aw (a:=nI r) (b:=nI 4) h rfl (nU (by omega) (by omega))
     have hlt2:=Nat.mod_lt (r / 4) hmn;refine(ip (d:=nI w) (ds:=l.map nI) (aw (a:= .lst [nI (r / 4 % count),nI (count - 1 - r / 4 % min count 6)]) (b:= .int (if 0 < r % 4 then 1 else 0)) (bJ (cM (ds:=[nI (r / 4 % count),nI (count - 1 - r / 4 % min count 6)]) (aq (aw (a:=nI (r / 4)) (b:=nI count) (e4 _ rfl) rfl (fK hc)) (aq (aw (a:=nI (count - 1)) (b:=nI (r / 4 % min count 6)) (aw (a:=nI count) (b:=nI 1) rfl rfl (Ce (by omega))) (aw (a:=nI (r / 4)) (b:=nI (min count 6)) (e4 _ rfl) (av (ds:=[nI count,nI 6]) rfl Lx) (fK hmn)) (Ce (by omega))) rfl)) (by show 2<=sizeLine;omega))) (av (ds:=[.bl (decide (0 < r % 4))]) (aq (aw (a:=nI (r % 4)) (b:=nI 0) (aw (a:=nI r) (b:=nI 4) rfl rfl (fK (by omega))) rfl (Dg _ _)) rfl) (by by_cases q:0 < r % 4 <;> simp [q] <;> rfl)) ?_) rfl (by rw[List.length_map];omega)).trans ?_
     .by_cases q:0 < r % 4
      .rw [if_pos q] at hw ⊢;rw[hw];exact NT.cB (z:=1) rfl
      .rw [if_neg q] at hw ⊢;rw[hw];exact NT.cB (z:=0) rfl
     .rw [show l.map nI++[nI w]=(l++[w]).map nI by simp];rfl
    .rcases List.mem_append.mp hy with z | z
     .exact hg y z
     .rw [List.mem_singleton.mp z];exact hlt)
 rw[List.length_map,List.length_range] at hlen;refine⟨l,?_,hlen,hg⟩;unfold d_ px;refine c7 (az (ju (ds:=[]) (cM rfl (by show 0<=sizeLine;omega)) (by simp [bW,k4])) (az (iu (ds:=(List.range m).map nI) (n6 (n:=m) rfl (by omega)) h1) ?_))
 subst hδ;exact cw (av (ds:=[.lst (l.map nI)]) rfl rfl)
def DS(r:Nat):Nat:=[1,2,3,4,0,1,3,4].getD (r % 8) 0
theorem Eu(cell:Int)(count:Nat)(hc:0 < count):∃g:Gt,i5 [.int cell,nI count]= .ok (iE g)/\FC count g:=by
 have hz:sizeLine=16777216:=sizeLine_eq;obtain⟨r,hr⟩:∃r,stN cell 0=r:=⟨_,rfl⟩;have hk:DS r<=4:=by
  have:r % 8 < 8:=Nat.mod_lt _ (by omega)
  unfold DS;generalize r % 8=m at this
  match m,this with
  | 0,_=>decide
  | 1,_=>decide
  | 2,_=>decide
  | 3,_=>decide
  | 4,_=>decide
  | 5,_=>decide
  | 6,_=>decide
  | 7,_=>decide
 have ha:=vQ (DS r);obtain⟨l,hl,hll,hlw⟩:=we cell 1 (ar (DS r)) count hc (by omega)
 refine⟨(DS r,l,decide (r / 8 % 4=0)),?_,hk,hll,hlw⟩;unfold i5 qi;refine c7 (az (bt (d:=nI r) ((av (ds:=[.int cell,nI 0]) rfl (oe cell 0)).trans (by rw[hr])) (by simp [bW,iL])) (az (bt (d:= .str (kS (DS r))) ?_ (by simp [bW,iL])) (az (bt (d:=nI (ar (DS r))) (LC hk rfl) (by simp [bW,iL])) (cw (ko (ds:=[.str (kS (DS r)), .tup (l.map nI), .bl (decide (r / 8 % 4=0))]) (aq rfl (aq (av (ds:=[.int cell,nI 1,nI (ar (DS r)),nI count]) rfl hl) (aq (aw (a:=nI (r / 8 % 4)) (b:=nI 0) (aw (a:=nI (r / 8)) (b:=nI 4) (aw (a:=nI r) (b:=nI 8) rfl rfl (nU (by omega) (by omega))) rfl (fK (by omega))) rfl (wX _ _)) rfl))) (by show 3<=sizeLine;omega))))))
 refine aw (a:= .lst [.str (kS 1), .str (kS 2), .str (kS 3), .str (kS 4), .str (kS 0), .str (kS 1), .str (kS 3), .str (kS 4)]) (b:=nI (r % 8)) rfl (aw (a:=nI r) (b:=nI 8) rfl rfl (fK (by omega))) (NT.cB ?_)
 have:r % 8 < 8:=Nat.mod_lt _ (by omega)
 unfold DS;generalize r % 8=m at this
 match m,this with
 | 0,_=>rfl
 | 1,_=>rfl
 | 2,_=>rfl
 | 3,_=>rfl
 | 4,_=>rfl
 | 5,_=>rfl
 | 6,_=>rfl
 | 7,_=>rfl
theorem Fs{ins:WH}(h1:1<=ins.length)(h:∀x∈ins,1<=x.2/\x.2<=3):1<=j9 ins/\j9 ins<=3*ins.length:=by
 have:=NT.xS h;unfold j9;omega
theorem GI:∀ns:List Nat,(ns.map fun(n:Nat)=>(n:Int)).sum=((ns.sum:Nat):Int)
 | []=>rfl
 | n ::ns=>by rw[List.map_cons,List.sum_cons,List.sum_cons,GI ns];omega
theorem IF(ns:List Nat):vL [.lst (ns.map nI)]= .ok (nI ns.sum):=by
 rw[show ns.map nI=(ns.map fun(n:Nat)=>(n:Int)).map D.int by rw[List.map_map];rfl]
 show(match ints? ((ns.map fun(n:Nat)=>(n:Int)).map D.int) with | some ns=>R.ok (D.int ns.sum) | none=> .no)=_
 rw[L2.ints_map];show R.ok (D.int (ns.map fun(n:Nat)=>(n:Int)).sum)=_
 rw[GI];rfl
theorem Fo{ins:WH}(h:ins.length<=1000){δ:ak}{i:Nat}(hv:af i δ= .ok (.lst (ins.map MT.inD))):aM vL (aj (eNew (cx (cP (af i)) (fF 2 (bq (aA 0) (bq (aA 1) fO))) jB (af 1) [(Str.ofString "name"),(Str.ofString "width")] [])) aL) δ= .ok (nI (j9 ins)):=by
 have hz:sizeLine=16777216:=sizeLine_eq;refine av (ds:=[.lst ((ins.map (·.2)).map nI)]) (aq (bJ (cK (ds:=ins.map MT.inD) (eW hv) (by rw[List.length_map];omega) ?_)) rfl) ?_
 .rw [List.map_map];exact NT.cH MT.inD _ fun x hx=>⟨[.val (.str x.1), .val (nI x.2)],rfl,rfl,rfl⟩
 .exact IF _
theorem xm(ns:List Int):GS (.lst (ns.map .int)) (some 1) (some 61)= .ok (.lst (((ns.drop 1).take 60).map .int)):=by
 show R.ok (D.lst (L2.cutD (ns.map .int) (some ((1:Nat):Int)) (some ((61:Nat):Int))))=_;unfold L2.cutD;rw[List.length_map,HT.pY,HT.pY,List.map_take,List.map_drop];congr 2;by_cases hn:61<=ns.length
 .rw [Nat.min_eq_left (by omega:1<=ns.length),Nat.min_eq_left hn]
 .have e1:min 61 ns.length=ns.length:=by omega
  rw[e1];by_cases h1:1<=ns.length
  .rw [Nat.min_eq_left h1,List.take_of_length_le (by rw[List.length_drop,List.length_map];omega),List.take_of_length_le (by rw[List.length_drop,List.length_map];omega)]
  .have:ns=[]:=List.length_eq_zero_iff.mp (by omega)
   subst this;rfl
theorem IT(ns:List Int):∃ins gs os,mr [.lst (ns.map .int)]= .ok (dQ ins gs os)/\TN ins gs os/\gs.length=((ns.drop 1).take 60).length:=by
 have hz:sizeLine=16777216:=sizeLine_eq;obtain⟨hd,hhd⟩:∃hd,ns.getD 0 0=hd:=⟨_,rfl⟩;obtain⟨nm,hnm,nml,nmd,nmo⟩:=rn hd 300 6 (by omega)
 obtain⟨MQ,Pd,Qb,Qe,Pb⟩:=rn hd 330 6 (by omega)
 obtain⟨q1,US⟩:∃q,1+stN hd 320 % 6=q:=⟨_,rfl⟩;obtain⟨q2,VD⟩:∃q,1+stN hd 341 % 6=q:=⟨_,rfl⟩
 let D0:Sl:= .val (.lst (ns.map .int))
 obtain⟨δ1,h1,ins,a4,Gp,il,iw,inm⟩:=er (t:=aA 4) (body:=kW) (ds:=(List.range q1).map nI) (fun i δ=>∃(ins:WH) (a:Sl),δ=[D0, .val (.int hd), .val (.lst (nm.map .str)), .bld (ins.map MT.inD),a, .un, .un, .un, .un, .un, .un]/\ins.length=i/\(∀x∈ins,1<=x.2/\x.2<=3)/\ins.map (·.1)=nm.take i)
  (δ:=[D0, .val (.int hd), .val (.lst (nm.map .str)), .bld [], .un, .un, .un, .un, .un, .un, .un]) ⟨[],_,rfl,rfl,by simp,rfl⟩ (by
    rintro i d δ Gn ⟨ins,a,rfl,hl,hw,hn⟩;obtain⟨j,hj,rfl⟩:=NT.ik Gn;obtain⟨hjl,ej⟩:=List.getElem?_eq_some_iff.mp hj;rw[List.getElem_range] at ej;subst ej;rw[List.length_range] at hjl;obtain⟨z,DY⟩:∃z,nm[i]? =some z:=⟨_,List.getElem?_eq_getElem (by omega)⟩
    refine⟨[D0, .val (.int hd), .val (.lst (nm.map .str)), .bld ((ins++[(z,1+stN hd (321+i) % 3)]).map MT.inD), .val (nI i), .un, .un, .un, .un, .un, .un],?_,ins++[(z,1+stN hd (321+i) % 3)],_,rfl,by simp [hl],fun x hx=>?_,?_⟩
    .rw [show aA 4 (nI i) [D0, .val (.int hd), .val (.lst (nm.map .str)), .bld (ins.map MT.inD),a, .un, .un, .un, .un, .un, .un]= .ok [D0, .val (.int hd), .val (.lst (nm.map .str)), .bld (ins.map MT.inD), .val (nI i), .un, .un, .un, .un, .un, .un] from rfl,R.aH]
     unfold kW;refine(ip (d:=MT.inD (z,1+stN hd (321+i) % 3)) (ds:=ins.map MT.inD) (ko (ds:=[.str z,nI (1+stN hd (321+i) % 3)]) (aq (aw (a:= .lst (nm.map .str)) (b:=nI i) rfl rfl (NT.cB (by rw[List.getElem?_map,DY];rfl))) (aq (aw (a:=nI 1) (b:=nI (stN hd (321+i) % 3)) rfl (aw (a:=nI (stN hd (321+i))) (b:=nI 3) (av (ds:=[.int hd,nI (321+i)]) (aq rfl (aq (aw (a:=nI 321) (b:=nI i) rfl rfl (k8 _ _)) rfl)) (oe hd (321+i))) rfl (fK (by omega))) (k8 _ _)) rfl)) (by show 2<=sizeLine;omega)) rfl (by rw[List.length_map];omega)).trans ?_
     rw[show ins.map MT.inD++[MT.inD (z,1+stN hd (321+i) % 3)]=(ins++[(z,1+stN hd (321+i) % 3)]).map MT.inD by simp];rfl
    .rcases List.mem_append.mp hx with y | y
     .exact hw x y
     .rw [List.mem_singleton.mp y];exact⟨by show 1<=1+_;omega,by show 1+stN hd (321+i) % 3<=3;omega⟩
    .rw [List.map_append,hn,List.take_add_one,DY];rfl)
 rw[List.length_map,List.length_range] at il inm;have i1:1<=ins.length:=by omega
 have i6:ins.length<=6:=by omega
 obtain⟨w1,w2⟩:=Fs i1 iw;have isl:∀x∈ins,x.1∈nm:=fun x hx=>List.mem_of_mem_take (by rw[<-inm];exact List.mem_map_of_mem hx)
 obtain⟨cs,hcs⟩:∃cs,(ns.drop 1).take 60=cs:=⟨_,rfl⟩;have hcl:cs.length<=60:=by rw[<-hcs,List.length_take];omega
 obtain⟨g9,h2,gs,a7,Gm,gl,gok⟩:=er (t:=aA 7) (body:=lK) (ds:=cs.map .int) (fun i δ=>∃(gs:List Gt) (a:Sl),δ=[D0, .val (.int hd), .val (.lst (nm.map .str)), .val (.lst (ins.map MT.inD)),a4, .val (nI (j9 ins)), .bld (gs.map iE),a, .un, .un, .un]/\gs.length=i/\∀(i:Nat) (x:Gt),gs[i]? =some x->FC (j9 ins+i) x)
  (δ:=[D0, .val (.int hd), .val (.lst (nm.map .str)), .val (.lst (ins.map MT.inD)),a4, .val (nI (j9 ins)), .bld [], .un, .un, .un, .un]) ⟨[],_,rfl,rfl,by simp⟩ (by
    rintro i d δ Gn ⟨gs,a,rfl,hl,hg⟩;obtain⟨c,hc,rfl⟩:=NT.ik Gn;have hil:=(List.getElem?_eq_some_iff.mp hc).1;obtain⟨g,Vo,Uz⟩:=Eu c (j9 ins+gs.length) (by omega)
    refine⟨[D0, .val (.int hd), .val (.lst (nm.map .str)), .val (.lst (ins.map MT.inD)),a4, .val (nI (j9 ins)), .bld ((gs++[g]).map iE), .val (.int c), .un, .un, .un],?_,gs++[g],_,rfl,by simp [hl],fun j x hx=>?_⟩
    .rw [show aA 7 (.int c) [D0, .val (.int hd), .val (.lst (nm.map .str)), .val (.lst (ins.map MT.inD)),a4, .val (nI (j9 ins)), .bld (gs.map iE),a, .un, .un, .un]= .ok [D0, .val (.int hd), .val (.lst (nm.map .str)), .val (.lst (ins.map MT.inD)),a4, .val (nI (j9 ins)), .bld (gs.map iE), .val (.int c), .un, .un, .un] from rfl,R.aH]
     unfold lK;refine(ip (d:=iE g) (ds:=gs.map iE) (av (ds:=[.int c,nI (j9 ins+gs.length)]) (aq rfl (aq (aw (a:=nI (j9 ins)) (b:=nI gs.length) rfl (n8 (av (ds:=[.lst (gs.map iE)]) (aq (by cases a4 <;> rfl) rfl) (by rw[fW,List.length_map])) rfl) (k8 _ _)) rfl)) Vo) rfl (by rw[List.length_map];omega)).trans ?_
     rw[show gs.map iE++[iE g]=(gs++[g]).map iE by simp];rfl
    .by_cases hj:j < gs.length
     .rw [List.getElem?_append_left hj] at hx;exact hg j x hx
     .rw [List.getElem?_append_right (by omega)] at hx
      have h0:j - gs.length=0:=by have:=(List.getElem?_eq_some_iff.mp hx).1;simp at this;omega
      rw[h0] at hx;cases hx;rw[show j=gs.length by omega]
      exact Uz)
 rw[List.length_map] at gl;obtain⟨on,hon,onl,ond,ono⟩:∃on:List Str,(on=if stN hd 340 % 2=0 then nm else MQ)/\on.length=6/\on.Nodup/\∀s∈on,isNm s=true:=by
  refine⟨_,rfl,?_⟩;split
  .exact⟨nml,nmd,nmo⟩
  .exact⟨Qb,Qe,Pb⟩
 obtain⟨Ko,h3,os,b4,Wx,Pm,ol,ow,onm⟩:=er (t:=aA 4) (body:=lV) (ds:=(List.range q2).map nI) (fun i δ=>∃(os:WI) (a b:Sl),δ=[D0, .val (.int hd), .val (.lst (nm.map .str)), .val (.lst (ins.map MT.inD)),a, .val (nI (j9 ins)), .val (.lst (gs.map iE)),a7, .bld (os.map kU), .val (.lst (on.map .str)),b]/\os.length=i/\(∀x∈os,1<=x.2.length/\x.2.length<=3/\∀w∈x.2,w < j9 ins+gs.length)/\os.map (·.1)=on.reverse.take i)
  (δ:=[D0, .val (.int hd), .val (.lst (nm.map .str)), .val (.lst (ins.map MT.inD)),a4, .val (nI (j9 ins)), .val (.lst (gs.map iE)),a7, .bld [], .val (.lst (on.map .str)), .un]) ⟨[],_,_,rfl,rfl,by simp,rfl⟩ (by
    rintro i d δ Gn ⟨os,a,b,rfl,hl,hw,hn⟩;obtain⟨j,hj,rfl⟩:=NT.ik Gn;obtain⟨hjl,ej⟩:=List.getElem?_eq_some_iff.mp hj;rw[List.getElem_range] at ej;subst ej;rw[List.length_range] at hjl;obtain⟨z,DY⟩:∃z,on[5 - i]? =some z:=⟨_,List.getElem?_eq_getElem (by omega)⟩
    obtain⟨r,hr⟩:∃r,stN hd (342+i)=r:=⟨_,rfl⟩;obtain⟨l,Mx,MW,MR⟩:=we hd (350+3*i) (1+r % 3) (j9 ins+gs.length) (by omega) (by omega)
    refine⟨[D0, .val (.int hd), .val (.lst (nm.map .str)), .val (.lst (ins.map MT.inD)), .val (nI i), .val (nI (j9 ins)), .val (.lst (gs.map iE)),a7, .bld ((os++[(z,l)]).map kU), .val (.lst (on.map .str)), .val (nI r)],?_,os++[(z,l)],_,_,rfl,by simp [hl],fun x hx=>?_,?_⟩
    .rw [show aA 4 (nI i) [D0, .val (.int hd), .val (.lst (nm.map .str)), .val (.lst (ins.map MT.inD)),a, .val (nI (j9 ins)), .val (.lst (gs.map iE)),a7, .bld (os.map kU), .val (.lst (on.map .str)),b]= .ok [D0, .val (.int hd), .val (.lst (nm.map .str)), .val (.lst (ins.map MT.inD)), .val (nI i), .val (nI (j9 ins)), .val (.lst (gs.map iE)),a7, .bld (os.map kU), .val (.lst (on.map .str)),b] from rfl,R.aH]
     unfold lV;refine az (bt (d:=nI r) ((av (ds:=[.int hd,nI (342+i)]) (aq rfl (aq (aw (a:=nI 342) (b:=nI i) rfl rfl (k8 _ _)) rfl)) (oe hd (342+i))).trans (by rw[hr])) (by simp)) ?_
     refine(ip (d:=kU (z,l)) (ds:=os.map kU) (ko (ds:=[.str z, .tup (l.map nI)]) (aq (aw (a:= .lst (on.map .str)) (b:=nI (5 - i)) rfl (aw (a:=nI 5) (b:=nI i) rfl rfl (Ce (by omega))) (NT.cB (by rw[List.getElem?_map,DY];rfl))) (aq (av (ds:=[.int hd,nI (350+3*i),nI (1+r % 3),nI (j9 ins+gs.length)]) (aq rfl (aq (aw (a:=nI 350) (b:=nI (3*i)) rfl (aw (a:=nI 3) (b:=nI i) rfl rfl (Kx (.inr (by omega)))) (k8 _ _)) (aq (aw (a:=nI 1) (b:=nI (r % 3)) rfl (aw (a:=nI r) (b:=nI 3) rfl rfl (fK (by omega))) (k8 _ _)) (aq (aw (a:=nI (j9 ins)) (b:=nI gs.length) rfl (av (ds:=[.lst (gs.map iE)]) rfl (by rw[fW,List.length_map])) (k8 _ _)) rfl)))) Mx) rfl)) (by show 2<=sizeLine;omega)) rfl (by rw[List.length_map];omega)).trans ?_
     rw[show os.map kU++[kU (z,l)]=(os++[(z,l)]).map kU by simp];rfl
    .rcases List.mem_append.mp hx with y | y
     .exact hw x y
     .rw [List.mem_singleton.mp y];exact⟨by show 1<=l.length;omega,by show l.length<=3;omega,MR⟩
    .rw [List.map_append,hn,List.take_add_one,List.getElem?_reverse (by omega),show on.length - 1 - i=5 - i by omega,DY];rfl)
 rw[List.length_map,List.length_range] at ol onm;refine⟨ins,gs,os,?_,⟨i1,i6,iw,by rw[inm];exact(List.take_sublist _ _).nodup nmd,fun x hx=>nmo _ (isl x hx),by omega,gok,by omega,by omega,by rw[onm];exact(List.take_sublist _ _).nodup (by rw[List.nodup_iff_pairwise_ne,List.pairwise_reverse];exact(List.nodup_iff_pairwise_ne.mp ond).imp fun h=>h.symm),fun x hx=>?_,ow⟩,by rw[gl,hcs]⟩
 .unfold mr sF;refine c7 (az (bt (d:= .int hd) ((av (ds:=[.lst (ns.map .int),nI 0]) rfl (uj ns 0)).trans (by rw[hhd])) (by simp [bW,iB])) ?_)
  refine az (bt (d:= .lst (nm.map .str)) (av (ds:=[.int hd,nI 300,nI 6]) rfl hnm) (by simp [bW,iB])) ?_
  refine az (ju (ds:=[]) (cM rfl (by show 0<=sizeLine;omega)) (by simp [bW,iB])) ?_
  refine az (iu (ds:=(List.range q1).map nI) (n6 (n:=q1) ((aw (a:=nI 1) (b:=nI (stN hd 320 % 6)) rfl (aw (a:=nI (stN hd 320)) (b:=nI 6) (av (ds:=[.int hd,nI 320]) rfl (oe hd 320)) rfl (fK (by omega))) (k8 _ _)).trans (by rw[US])) (by omega)) h1) ?_
  subst Gp;unfold pJ;refine az (bt (d:=nI (j9 ins)) (Fo (by omega) rfl) (by simp [kK])) ?_
  refine az (ju (ds:=[]) (cM rfl (by show 0<=sizeLine;omega)) (by simp [kK])) ?_
  refine az (iu (ds:=cs.map .int) (eW (lp (d:= .lst (ns.map .int)) (lo:=some 1) (hi:=some 61) rfl (fM rfl) (fM rfl) ((xm ns).trans (by rw[hcs])))) h2) ?_
  subst Gm;refine az (ju (ds:=[]) (cM rfl (by show 0<=sizeLine;omega)) (by simp [kK])) ?_
  refine az (bt (d:= .lst (MQ.map .str)) (av (ds:=[.int hd,nI 330,nI 6]) rfl Pd) (by simp [kK])) ?_
  refine az (δ1:=[D0, .val (.int hd), .val (.lst (nm.map .str)), .val (.lst (ins.map MT.inD)),a4, .val (nI (j9 ins)), .val (.lst (gs.map iE)),a7, .bld [], .val (.lst (on.map .str)), .un]) ?_ ?_
  .have q:b2 pF (e2 dG (aM bp (aj (af 1) (aj (eC (.int 340)) aL))) (eC (.int 2))) (eC (.int 0)) [D0, .val (.int hd), .val (.lst (nm.map .str)), .val (.lst (ins.map MT.inD)),a4, .val (nI (j9 ins)), .val (.lst (gs.map iE)),a7, .bld [], .val (.lst (MQ.map .str)), .un]= .ok (decide (stN hd 340 % 2=0)):=cY (a:=nI (stN hd 340 % 2)) (b:=nI 0) (aw (a:=nI (stN hd 340)) (b:=nI 2) (av (ds:=[.int hd,nI 340]) rfl (oe hd 340)) rfl (fK (by omega))) rfl (wX _ _)
   by_cases hb:stN hd 340 % 2=0
   .rw [decide_eq_true hb] at q;rw[if_pos hb] at hon;rw[hon];exact mO q (bt (δ:=[D0, .val (.int hd), .val (.lst (nm.map .str)), .val (.lst (ins.map MT.inD)),a4, .val (nI (j9 ins)), .val (.lst (gs.map iE)),a7, .bld [], .val (.lst (MQ.map .str)), .un]) (d:= .lst (nm.map .str)) rfl (by show 9 < 11;omega))
   .rw [decide_eq_false hb] at q;rw[if_neg hb] at hon;rw[hon];exact kI q rfl
  .refine az (iu (ds:=(List.range q2).map nI) (n6 (n:=q2) ((aw (a:=nI 1) (b:=nI (stN hd 341 % 6)) rfl (aw (a:=nI (stN hd 341)) (b:=nI 6) (av (ds:=[.int hd,nI 341]) rfl (oe hd 341)) rfl (fK (by omega))) (k8 _ _)).trans (by rw[VD])) (by omega)) h3) ?_
   subst Pm;exact cw (ko (ds:=[.lst (ins.map MT.inD), .lst (gs.map iE), .lst (os.map kU)]) rfl (by show 3<=sizeLine;omega))
 .have:x.1∈on.reverse.take q2:=by rw[<-onm];exact List.mem_map_of_mem hx
  exact ono _ (List.mem_reverse.mp (List.mem_of_mem_take this))
end K02
end
section
namespace K02
open PySem PySem.Spec PyProof.Rows L2 L3 MT JT TX
section
variable {ins:WH} {gs:List Gt} {os:WI} {gn:List Str}
theorem rM(hi:ins.length<=6)(hg:gs.length<=60)(head:Int):∃gn,eu [dQ ins gs os, .int head]= .ok (.lst (gn.map .str))/\GN ins gs.length gn:=by
 have hz:sizeLine=16777216:=sizeLine_eq;obtain⟨ws,hws,wl,wnd,wnm⟩:=rn head 400 gs.length (by omega)
 obtain⟨δ1,h1,gn,a5,a6,hδ,gl,gnd,gnm,gdis⟩:=er (t:=aA 5) (body:=eV) (ds:=ws.map .str) (fun i δ=>∃(gn:List Str) (a b:Sl),δ=[.val (dQ ins gs os), .val (.int head), .bld ((ins.map (·.1)++gn).map .str), .val (.lst (ws.map .str)), .bld (gn.map .str),a,b]/\gn.length=i/\gn.Nodup/\(∀s∈gn,isNm s=true)/\∀s∈gn,s ∉ ins.map (·.1))
  (δ:=[.val (dQ ins gs os), .val (.int head), .bld ((ins.map (·.1)).map .str), .val (.lst (ws.map .str)), .bld [], .un, .un]) ⟨[], .un, .un,by simp,rfl,List.nodup_nil,by simp,by simp⟩ (by
    rintro i d δ hd ⟨gn,a,b,rfl,hl,hnd,hnm,hdis⟩;obtain⟨w,hw,rfl⟩:=NT.ik hd;have hil:=(List.getElem?_eq_some_iff.mp hw).1;obtain⟨tk,Hd⟩:∃tk,ins.map (·.1)++gn=tk:=⟨_,rfl⟩
    have htl:tk.length<=66:=by rw[<-Hd,List.length_append,List.length_map];omega
    have key:∃x b',isNm x=true/\x ∉ tk/\q8 (mH (b2 yt (af 5) (af 2))) (bF (cR 6 (eNew (cx (d8 (eC (.int 144))) (aA 0) jB (e2 cN (e2 cN (eC (.str (Str.ofString "y"))) (e2 df (eC (.str (Str.ofString "abcdefghijkl"))) (e2 dH (af 0) (eC (.int 12))))) (e2 df (eC (.str (Str.ofString "mnopqrstuvwx"))) (e2 dG (af 0) (eC (.int 12))))) [(Str.ofString "n")] []))) (cR 5 (lB (e2 df (eNew (cx (cP (af 6)) (aA 0) (rR (b2 jy (af 0) (af 1)) (b2 jy (af 0) (af 2))) (af 0) [(Str.ofString "one")] [2,3])) (eC (.int 0)))))) ku [.val (dQ ins gs os), .val (.int head), .bld (tk.map .str), .val (.lst (ws.map .str)), .bld (gn.map .str), .val (.str w),b]= .ok (.nx [.val (dQ ins gs os), .val (.int head), .bld (tk.map .str), .val (.lst (ws.map .str)), .bld (gn.map .str), .val (.str x),b']):=by
     have q:mH (b2 yt (af 5) (af 2)) [.val (dQ ins gs os), .val (.int head), .bld (tk.map .str), .val (.lst (ws.map .str)), .bld (gn.map .str), .val (.str w),b]= .ok (tk.contains w):=cY (a:= .str w) (b:= .lst (tk.map .str)) (by cases b <;> rfl) (by cases b <;> rfl) (x9 _ _)
     cases hb:tk.contains w with
     | false=>
       rw[hb] at q;exact⟨w,b,wnm w (List.mem_of_getElem? hw),(fun z=>by rw[List.contains_iff_mem.mpr z] at hb;cases hb),kI q rfl⟩
     | true=>
       rw[hb] at q;obtain⟨x,hx,hxm,hxn⟩:=vi JG (ss:=tk++ws) (by rw[List.length_append];unfold AU;simp;omega)
       refine⟨x, .val (.lst (AU.map .str)),Jc x hxm,fun z=>hxn (List.mem_append_left _ z),mO q (az (bt (d:= .lst (AU.map .str)) (bJ (cK (ds:=(List.range 144).map nI) (n6 (n:=144) rfl (by omega)) (by simp;omega) ?_)) (by simp)) (bt (δ:=[.val (dQ ins gs os), .val (.int head), .bld (tk.map .str), .val (.lst (ws.map .str)), .bld (gn.map .str), .val (.str w), .val (.lst (AU.map .str))]) (d:= .str x) (n8 (aw (a:= .lst ((AU.filter fun s=>!(tk++ws).contains s).map .str)) (b:= .int (0:Nat)) (bJ (cK (ds:=AU.map .str) (eW rfl) (by unfold AU;simp;omega) ?_)) rfl (NT.cB (by rw[List.getElem?_map,hx];rfl))) rfl) (by simp)))⟩
       .rw [show AU.map D.str=(List.range 144).map fun n=>D.str ⟨#[121,97+n / 12,109+n % 12]⟩ from List.map_map]
        refine NT.cH nI _ fun n hn=>⟨[.val (nI n)],rfl,rfl,?_⟩
        have hn:=List.mem_range.mp hn;have l1:(Str.ofString "y").length=1:=by decide+kernel
        refine(aw (a:= .str (Str.ofString "y"++iG (n / 12))) (b:= .str (iG (12+n % 12))) (aw (a:= .str (Str.ofString "y")) (b:= .str (iG (n / 12))) rfl (aw (a:= .str NK) (b:=nI (n / 12)) rfl (aw (a:=nI n) (b:=nI 12) rfl rfl (nU (by omega) (by omega))) (IY (by omega))) (mq (by rw[l1];show 1+1<=_;omega))) (aw (a:= .str NP) (b:=nI (n % 12)) rfl (aw (a:=nI n) (b:=nI 12) rfl rfl (fK (by omega))) (I0 (by omega))) (mq (by rw[Str.length_append,l1];show 1+1+1<=_;omega))).trans ?_
        rw[Hs]
       .refine NT.kf (fun s=>!(tk++ws).contains s) D.str D.str fun s hs=>⟨[.val (.str s), .val (.lst (tk.map .str)), .val (.lst (ws.map .str))],rfl,?_,fun _=>rfl⟩
        have:(!(tk++ws).contains s)=(!tk.contains s && !ws.contains s):=by
         rw[Bool.eq_iff_iff];simp only[List.contains_iff_mem,Bool.not_eq_true',Bool.and_eq_true];cases h1:tk.contains s <;> cases h2:ws.contains s <;> simp_all [List.contains_iff_mem]
        rw[this];exact tK (cY (a:= .str s) (b:= .lst (tk.map .str)) rfl rfl (x_ _ _)) fun _=>cY (a:= .str s) (b:= .lst (ws.map .str)) rfl rfl (x_ _ _)
    obtain⟨x,b',Mb,RQ,hs⟩:=key;refine⟨[.val (dQ ins gs os), .val (.int head), .bld ((ins.map (·.1)++(gn++[x])).map .str), .val (.lst (ws.map .str)), .bld ((gn++[x]).map .str), .val (.str x),b'],?_,gn++[x],_,_,rfl,by simp [hl],?_,fun s J_=>?_,fun s J_=>?_⟩
    .rw [Hd,show aA 5 (.str w) [.val (dQ ins gs os), .val (.int head), .bld (tk.map .str), .val (.lst (ws.map .str)), .bld (gn.map .str),a,b]= .ok [.val (dQ ins gs os), .val (.int head), .bld (tk.map .str), .val (.lst (ws.map .str)), .bld (gn.map .str), .val (.str w),b] from rfl,R.aH]
     unfold eV;refine az hs (az (ip (d:= .str x) (ds:=gn.map .str) rfl rfl (by rw[List.length_map];omega)) ((ip (d:= .str x) (ds:=tk.map .str) rfl rfl (by rw[List.length_map];omega)).trans ?_))
     rw[<-List.append_assoc,Hd,show tk.map D.str++[.str x]=(tk++[x]).map .str by simp,show gn.map D.str++[.str x]=(gn++[x]).map .str by simp]
     rfl
    .exact List.nodup_append.mpr ⟨hnd,by simp,fun y hy z DY e=>RQ (by rw[List.mem_singleton.mp DY] at e;rw [<-e,<-Hd];exact List.mem_append_right _ hy)⟩
    .rcases List.mem_append.mp J_ with z | z
     .exact hnm s z
     .rw [List.mem_singleton.mp z];exact Mb
    .rcases List.mem_append.mp J_ with z | z
     .exact hdis s z
     .rw [List.mem_singleton.mp z];exact fun q=>RQ (by rw[<-Hd];exact List.mem_append_left _ q))
 rw[List.length_map,wl] at gl;refine⟨gn,?_,gl,gnd,gnm,gdis⟩;unfold eu jK;refine c7 (az (δ1:=[.val (dQ ins gs os), .val (.int head), .bld ((ins.map fun x:Str × Nat=>x.1).map .str), .un, .un, .un, .un]) (ju (ds:=(ins.map fun x:Str × Nat=>x.1).map .str) (cK (ds:=ins.map MT.inD) (eW (aw (a:=dQ ins gs os) (b:= .int 0) rfl rfl rfl)) (by rw[List.length_map];omega) ?_) (by simp [bW,bQ])) (az (bt (d:= .lst (ws.map .str)) (av (ds:=[.int head,nI 400,nI gs.length]) (aq rfl (aq rfl (aq (av (ds:=[.lst (gs.map iE)]) (aq (aw (a:=dQ ins gs os) (b:= .int 1) rfl rfl rfl) rfl) (by rw[fW,List.length_map])) rfl))) hws) (by simp [bW,bQ])) (az (ju (ds:=[]) (cM rfl (by show 0<=sizeLine;omega)) (by simp [bW,bQ])) (az (iu (ds:=ws.map .str) (eW rfl) h1) ?_))))
 .rw [List.map_map];exact NT.cH MT.inD _ fun x hx=>⟨[.val (.str x.1), .val (nI x.2)],rfl,rfl,rfl⟩
 .subst hδ;rfl
theorem so{ins:WH}(h6:ins.length<=6)(hw:∀x∈ins,1<=x.2/\x.2<=3):(jj ins).length<=18:=by
 rw[gA];have:=NT.xS hw;unfold j9;omega
theorem Cu(h6:ins.length<=6)(hw:∀x∈ins,1<=x.2/\x.2<=3)(hm:∀x∈ins,isNm x.1=true)(Hc:gn.length<=100):gQ [.lst (ins.map MT.inD), .lst (gn.map .str)]= .ok (.lst ((jj ins++gn).map .str)):=by
 have hz:sizeLine=16777216:=sizeLine_eq;obtain⟨δ1,h1,a,b,hδ⟩:=er (t:=fF 2 (bq (aA 3) (bq (aA 4) fO))) (body:=jA) (ds:=ins.map MT.inD) (fun i δ=>∃(a b:Sl),δ=[.val (.lst (ins.map MT.inD)), .val (.lst (gn.map .str)), .val (.lst ((jj (ins.take i)).map .str)),a,b])
  (δ:=[.val (.lst (ins.map MT.inD)), .val (.lst (gn.map .str)), .val (.lst []), .un, .un]) ⟨_,_,rfl⟩ (by
    rintro i d δ hd ⟨a,b,rfl⟩;obtain⟨x,hx,rfl⟩:=NT.ik hd;have hxm:=List.mem_of_getElem? hx;obtain⟨w1,w3⟩:=hw x hxm;have uM:=(dE.mp (hm x hxm)).2.1;have e1:jj (ins.take (i+1))=jj (ins.take i)++nK x.1 x.2:=by
     rw[List.take_add_one,hx];unfold jj;simp
    have hs:=so (ins:=ins.take i) (by rw[List.length_take];omega) fun y hy=>hw y (List.mem_of_mem_take hy)
    refine⟨[.val (.lst (ins.map MT.inD)), .val (.lst (gn.map .str)), .val (.lst ((jj (ins.take (i+1))).map .str)), .val (.str x.1), .val (nI x.2)],?_,_,_,rfl⟩;rw[show fF 2 (bq (aA 3) (bq (aA 4) fO)) (MT.inD x) [.val (.lst (ins.map MT.inD)), .val (.lst (gn.map .str)), .val (.lst ((jj (ins.take i)).map .str)),a,b]= .ok [.val (.lst (ins.map MT.inD)), .val (.lst (gn.map .str)), .val (.lst ((jj (ins.take i)).map .str)), .val (.str x.1), .val (nI x.2)] from rfl,R.aH]
    unfold jA;have fg:∀f:Nat,f < 3->∀s:Str,s=CO++iM f->x.1++s=x.1++CO++iM f:=fun f _ s e=>by rw[e,Ap]
    have pw:∀(s:Str) (δ:ak),s.length=2->af 3 δ= .ok (.str x.1)->e2 cN (af 3) (eC (.str s)) δ= .ok (.str (x.1++s)):=fun s δ hs h=>aw (a:= .str x.1) (b:= .str s) h rfl (mq (by omega))
    have sl:xK (eNew (eG (aj (e2 cN (af 3) (eC (.str (Str.ofString ":0")))) (aj (e2 cN (af 3) (eC (.str (Str.ofString ":1")))) (aj (e2 cN (af 3) (eC (.str (Str.ofString ":2")))) aL))))) kL (ib (af 4)) [.val (.lst (ins.map MT.inD)), .val (.lst (gn.map .str)), .val (.lst ((jj (ins.take i)).map .str)), .val (.str x.1), .val (nI x.2)]= .ok (.lst (([x.1++Str.ofString ":0",x.1++Str.ofString ":1",x.1++Str.ofString ":2"].take x.2).map .str)):=by
     refine lp (d:= .lst ([x.1++Str.ofString ":0",x.1++Str.ofString ":1",x.1++Str.ofString ":2"].map .str)) (lo:=none) (hi:=some (x.2:Int)) (bJ (cM (ds:=[x.1++Str.ofString ":0",x.1++Str.ofString ":1",x.1++Str.ofString ":2"].map .str) (aq (pw _ _ (by decide+kernel) rfl) (aq (pw _ _ (by decide+kernel) rfl) (aq (pw _ _ (by decide+kernel) rfl) rfl))) (by show 3<=sizeLine;omega))) rfl (fM rfl) ?_
     show R.ok (D.lst (L2.cutD _ none (some ((x.2:Nat):Int))))=_;unfold L2.cutD;rw[HT.pY,HT.vv];simp only[List.length_map];rw[Nat.min_eq_left (by show x.2<=3;exact w3),List.drop_zero,Nat.sub_zero,List.map_take]
    refine bt (aw (a:= .lst ((jj (ins.take i)).map .str)) (b:= .lst ((nK x.1 x.2).map .str)) rfl (aw (a:= .lst [.lst [.str x.1], .lst (([x.1++Str.ofString ":0",x.1++Str.ofString ":1",x.1++Str.ofString ":2"].take x.2).map .str)]) (b:= .int (if 1 < x.2 then 1 else 0)) (bJ (cM (ds:=[.lst [.str x.1], .lst (([x.1++Str.ofString ":0",x.1++Str.ofString ":1",x.1++Str.ofString ":2"].take x.2).map .str)]) (aq (bJ (cM (ds:=[.str x.1]) rfl (by show 1<=sizeLine;omega))) (aq sl rfl)) (by show 2<=sizeLine;omega))) (av (ds:=[.bl (decide (1 < x.2))]) (aq (aw (a:=nI x.2) (b:=nI 1) rfl rfl (Dg _ _)) rfl) (by by_cases q:1 < x.2 <;> simp [q] <;> rfl)) ?_) ?_) (by simp)
    .unfold nK;by_cases q:x.2=1
     .rw [if_pos q,if_neg (by omega)]
      exact NT.cB (z:=0) rfl
     .rw [if_neg q,if_pos (by omega)]
      refine NT.cB (z:=1) ?_;show some _=some _;congr 3;rcases(show x.2=2\/x.2=3 by omega) with e | e
      .rw [e];show [x.1++Str.ofString ":0",x.1++Str.ofString ":1"]=[x.1++CO++iM 0,x.1++CO++iM 1];rw[fg 0 (by omega) (Str.ofString ":0") (by decide+kernel),fg 1 (by omega) (Str.ofString ":1") (by decide+kernel)]
      .rw [e];show [x.1++Str.ofString ":0",x.1++Str.ofString ":1",x.1++Str.ofString ":2"]=[x.1++CO++iM 0,x.1++CO++iM 1,x.1++CO++iM 2];rw[fg 0 (by omega) (Str.ofString ":0") (by decide+kernel),fg 1 (by omega) (Str.ofString ":1") (by decide+kernel),fg 2 (by omega) (Str.ofString ":2") (by decide+kernel)]
    .rw [qc (by rw[List.length_map,List.length_map,pX];omega),e1,List.map_append])
 rw[List.length_map,List.take_length] at hδ;have hs:=so h6 hw;unfold gQ pA;refine c7 (az (bt (d:= .lst []) (bJ (cM rfl (by show 0<=sizeLine;omega))) (by simp [bW,lq])) (az (iu (ds:=ins.map MT.inD) (eW rfl) h1) ?_))
 subst hδ;exact cw (aw (a:= .lst ((jj ins).map .str)) (b:= .lst (gn.map .str)) rfl rfl ((qc (by rw[List.length_map,List.length_map];omega)).trans (by rw[List.map_append])))
theorem qH{ws:List Str}(hl:ws.length<=100)(h:∀w∈ws,Wo w):ie (.str SP) [.lst (ws.map .str)]= .ok (.str (Str.join SP ws)):=by
 refine tT ?_;have:(ws.map (·.length)).sum<=ws.length*10:=by
  have:=ua (l:=ws.map (·.length)) (m:=10) fun x hx=>by obtain⟨w,hw,rfl⟩:=List.mem_map.mp hx;exact(h w hw).len
  rwa [List.length_map] at this
 have:SP.length=1:=by decide+kernel
 rw[this];omega
theorem zR{w:Nat}(h:1<=w/\w<=3):cStr [nI w]= .ok (.str (wS w)):=by
 rcases(show w=1\/w=2\/w=3 by omega) with rfl | rfl | rfl
 .exact(tG (i:=1) (by decide+kernel)).trans (by rw[show(toString (1:Int):Str)=wS 1 by decide+kernel])
 .exact(tG (i:=2) (by decide+kernel)).trans (by rw[show(toString (2:Int):Str)=wS 2 by decide+kernel])
 .exact(tG (i:=3) (by decide+kernel)).trans (by rw[show(toString (3:Int):Str)=wS 3 by decide+kernel])
theorem zf{W:List Str}{l:List Nat}{δ:ak}{i:Nat}(hl:l.length<=1000)(h:∀w∈l,w < W.length)(hi:af i δ= .ok (.tup (l.map nI)))(hk:oE [Str.ofString "wire"] [5] δ=[.un, .val (.lst (W.map .str))]):eNew (cx (cP (af i)) (aA 0) jB (e2 df (af 1) (af 0)) [(Str.ofString "wire")] [5]) δ= .ok (.lst ((tx W l).map .str)):=by
 have hz:sizeLine=16777216:=sizeLine_eq;refine bJ (cK (ds:=l.map nI) (AZ hi) (by rw[List.length_map];omega) ?_)
 rw[hk,show(tx W l).map D.str=l.map fun w=>D.str (W.getD w Str.empty) from List.map_map]
 refine NT.cH nI _ fun w hw=>⟨[.val (nI w), .val (.lst (W.map .str))],rfl,rfl,aw (a:= .lst (W.map .str)) (b:=nI w) rfl rfl (NT.cB ?_)⟩
 rw[List.getElem?_map,List.getD_eq_getElem?_getD,List.getElem?_eq_getElem (h w hw)];rfl
theorem z6(T:TN ins gs os)(G:GN ins gs.length gn):ke [dQ ins gs os, .lst (gn.map .str)]= .ok (.lst (((uU ins gs os gn).map (Str.join SP)).map .str)):=by
 have hz:sizeLine=16777216:=sizeLine_eq;have h6:=T.i6;have h60:=T.g60;have ho6:=T.o6;have Hc:=G.len;have hWo:=FP T G;obtain⟨W,hW⟩:∃W,jj ins++gn=W:=⟨_,rfl⟩;have hWl:W.length=j9 ins+gs.length:=by rw[<-hW,List.length_append,gA,Hc]
 have hzl:(gs.zip gn).length=gs.length:=by rw[List.length_zip,Hc];omega
 let R0:List Str:=(ins.map vS).map (Str.join SP)
 let RG:Nat->List Str:=fun i=>(((gs.zip gn).take i).map fun p=>pU W p.1 p.2).map (Str.join SP)
 let RO:Nat->List Str:=fun i=>((os.take i).map (p6 W)).map (Str.join SP)
 have lG:∀i,(RG i).length<=60:=fun i=>by show((((gs.zip gn).take i).map _).map _).length<=_;rw [List.length_map,List.length_map,List.length_take,hzl];omega
 have l0:R0.length=ins.length:=by show((ins.map vS).map (Str.join SP)).length=_;rw [List.length_map,List.length_map]
 have en:mR (gs.map iE)=(gs.zip gn).zipIdx.map fun p=>D.tup [nI p.2,iE p.1.1]:=by
  unfold mR;refine List.ext_getElem? fun i=>?_
  rw[List.getElem?_map,List.getElem?_map,List.getElem?_zipIdx,List.getElem?_zipIdx,List.getElem?_map];by_cases hi:i < gs.length
  .have:(gs.zip gn)[i]? =some (gs[i],gn[i]'(by omega)):=by rw[List.getElem?_zip_eq_some];exact⟨List.getElem?_eq_getElem hi,List.getElem?_eq_getElem (by omega)⟩
   rw[this,List.getElem?_eq_getElem hi];simp [nI]
  .rw [List.getElem?_eq_none (by omega),List.getElem?_eq_none (by omega)];rfl
 let E:List Str->Sl->Sl->Sl->Sl->Sl->Sl->ak:=fun rows a7 a8 a9 zB yk MU=>[.val (dQ ins gs os), .val (.lst (gn.map .str)), .val (.lst (ins.map MT.inD)), .val (.lst (gs.map iE)), .val (.lst (os.map kU)), .val (.lst (W.map .str)), .bld (rows.map .str),a7,a8,a9,zB,yk,MU]
 have hce:∀rows a7 a8 a9 zB yk MU,oE [Str.ofString "wire"] [5] (E rows a7 a8 a9 zB yk MU)=[.un, .val (.lst (W.map .str))]:=fun rows a7 a8 a9 zB yk MU=>rfl
 obtain⟨δ1,h1,a7,a8,a9,zB,yk,Gp⟩:=er (t:=fF 2 (bq (aA 7) (bq (fF 3 (bq (aA 8) (bq (aA 9) (bq (aA 10) fO)))) fO))) (body:=j_) (ds:=(gs.zip gn).zipIdx.map fun p=>D.tup [nI p.2,iE p.1.1]) (fun i δ=>∃a7 a8 a9 zB yk,δ=E (R0++RG i) a7 a8 a9 zB yk .un)
  (δ:=E R0 .un .un .un .un .un .un) ⟨_,_,_,_,_,by show _=E (R0++[]) _ _ _ _ _ _;rw [List.append_nil]⟩ (by
    rintro i d δ hd ⟨a7,a8,a9,zB,yk,rfl⟩;obtain⟨p,hp,rfl⟩:=NT.ik hd;rw[List.getElem?_zipIdx] at hp;obtain⟨q,hq,rfl⟩:=Option.map_eq_some_iff.mp hp;obtain⟨g,n⟩:=q;obtain⟨hg,hn⟩:=List.getElem?_zip_eq_some.mp hq;have gok:=T.gok i g hg;have s_:∀w∈g.2.1,w < W.length:=fun w hw=>by have:=gok.2.2 w hw;have:=(List.getElem?_eq_some_iff.mp hg).1;omega
    have hll:g.2.1.length<=3:=by rw[gok.2.1];exact vQ _
    have hnm:=G.nm n (List.mem_of_getElem? hn);have lGi:=lG i;have e1:RG (i+1)=RG i++[Str.join SP (pU W g n)]:=by
     show(((gs.zip gn).take (i+1)).map _).map _=_;rw[List.take_add_one,hq];simp [RG]
    refine⟨E (R0++RG (i+1)) (.val (nI i)) (.val (.str (kS g.1))) (.val (.tup (g.2.1.map nI))) (.val (.bl g.2.2)) (.val (.lst ([if g.2.2 then Str.ofString "sure" else Str.ofString "gate",n,kS g.1].map .str))) .un,?_,_,_,_,_,_,rfl⟩
    have e0:(0+i)=i:=by omega
    rw[show(fF 2 (bq (aA 7) (bq (fF 3 (bq (aA 8) (bq (aA 9) (bq (aA 10) fO)))) fO)) (D.tup [nI (0+i),iE g]) (E (R0++RG i) a7 a8 a9 zB yk .un))= .ok (E (R0++RG i) (.val (nI (0+i))) (.val (.str (kS g.1))) (.val (.tup (g.2.1.map nI))) (.val (.bl g.2.2)) yk .un) from rfl,R.aH,e0]
    unfold j_;refine az (bt (d:= .lst ([if g.2.2 then Str.ofString "sure" else Str.ofString "gate",n,kS g.1].map .str)) (bJ (cM (ds:=[if g.2.2 then Str.ofString "sure" else Str.ofString "gate",n,kS g.1].map .str) (aq (aw (a:= .lst [.str (Str.ofString "gate"), .str (Str.ofString "sure")]) (b:= .int (if g.2.2 then 1 else 0)) rfl (av (ds:=[.bl g.2.2]) rfl (by cases g.2.2 <;> rfl)) ?_) (aq (aw (a:= .lst (gn.map .str)) (b:=nI i) rfl rfl (NT.cB (by rw[List.getElem?_map,hn];rfl))) rfl)) (by show 3<=sizeLine;omega))) (by simp [E])) ?_
    .cases g.2.2
     .exact NT.cB (z:=0) rfl
     .exact NT.cB (z:=1) rfl
    .have hj:ie (.str SP) [.lst ((pU W g n).map .str)]= .ok (.str (Str.join SP (pU W g n))):=qH (by unfold pU tx;simp;omega) (xC hnm (fun y hy=>(hWo y (by rw[hW];exact hy)).1) s_)
     refine(ip (d:= .str (Str.join SP (pU W g n))) (ds:=(R0++RG i).map .str) (jo (x:=SP) rfl (aq (aw (a:= .lst ([if g.2.2 then Str.ofString "sure" else Str.ofString "gate",n,kS g.1].map .str)) (b:= .lst ((tx W g.2.1).map .str)) rfl (zf (by omega) s_ rfl rfl) ((qc (by unfold tx;simp;omega)).trans (by rw[<-List.map_append];rfl))) rfl) hj) rfl (by rw[List.length_map,List.length_append];omega)).trans ?_
     rw[e1,<-List.append_assoc,show(R0++RG i).map D.str++[.str (Str.join SP (pU W g n))]=(R0++RG i++[Str.join SP (pU W g n)]).map .str by simp]
     rfl)
 rw[List.length_map,List.length_zipIdx,hzl] at Gp;obtain⟨g9,h2,b9,MV,Gm⟩:=er (t:=fF 2 (bq (aA 12) (bq (aA 9) fO))) (body:=kq) (ds:=os.map kU) (fun i δ=>∃b9 MV,δ=E (R0++RG gs.length++RO i) a7 a8 b9 zB yk MV)
  (δ:=E (R0++RG gs.length) a7 a8 a9 zB yk .un) ⟨_,_,by show _=E (R0++RG gs.length++[]) _ _ _ _ _ _;rw [List.append_nil]⟩ (by
    rintro i d δ hd ⟨b9,MV,rfl⟩;obtain⟨o,ho,rfl⟩:=NT.ik hd;have hom:=List.mem_of_getElem? ho;obtain⟨o1,o2,o3⟩:=T.ow o hom;have s_:∀w∈o.2,w < W.length:=fun w hw=>by have:=o3 w hw;omega
    have lGi:=lG gs.length;have lOi:(RO i).length<=6:=by show(((os.take i).map _).map _).length<=_;rw [List.length_map,List.length_map,List.length_take];omega
    have e1:RO (i+1)=RO i++[Str.join SP (p6 W o)]:=by
     show((os.take (i+1)).map _).map _=_;rw[List.take_add_one,ho];simp [RO]
    refine⟨E (R0++RG gs.length++RO (i+1)) a7 a8 (.val (.tup (o.2.map nI))) zB yk (.val (.str o.1)),?_,_,_,rfl⟩;rw[show fF 2 (bq (aA 12) (bq (aA 9) fO)) (kU o) (E (R0++RG gs.length++RO i) a7 a8 b9 zB yk MV)= .ok (E (R0++RG gs.length++RO i) a7 a8 (.val (.tup (o.2.map nI))) zB yk (.val (.str o.1))) from rfl,R.aH]
    unfold kq;have hj:ie (.str SP) [.lst ((p6 W o).map .str)]= .ok (.str (Str.join SP (p6 W o))):=qH (by unfold p6 tx;simp;omega) (xl (T.onm o hom) (fun y hy=>(hWo y (by rw[hW];exact hy)).1) s_)
    refine(ip (d:= .str (Str.join SP (p6 W o))) (ds:=(R0++RG gs.length++RO i).map .str) (jo (x:=SP) rfl (aq (aw (a:= .lst ([Str.ofString "out",o.1].map .str)) (b:= .lst ((tx W o.2).map .str)) (bJ (cM (ds:=[Str.ofString "out",o.1].map .str) rfl (by show 2<=sizeLine;omega))) (zf (by omega) s_ rfl rfl) ((qc (by unfold tx;simp;omega)).trans (by rw[<-List.map_append];rfl))) rfl) hj) rfl (by rw[List.length_map,List.length_append,List.length_append];omega)).trans ?_
    rw[e1,<-List.append_assoc,show(R0++RG gs.length++RO i).map D.str++[.str (Str.join SP (p6 W o))]=(R0++RG gs.length++RO i++[Str.join SP (p6 W o)]).map .str by simp]
    rfl)
 rw[List.length_map] at Gm;unfold ke qx;refine c7 (az (δ1:=[.val (dQ ins gs os), .val (.lst (gn.map .str)), .val (.lst (ins.map MT.inD)), .val (.lst (gs.map iE)), .val (.lst (os.map kU)), .un, .un, .un, .un, .un, .un, .un, .un]) rfl ?_);refine az (bt (d:= .lst (W.map .str)) (av (ds:=[.lst (ins.map MT.inD), .lst (gn.map .str)]) rfl (by rw[<-hW];exact Cu h6 T.iw T.inm (by omega))) (by simp)) ?_
 refine az (ju (ds:=R0.map .str) (cK (ds:=ins.map MT.inD) (eW rfl) (by rw[List.length_map];omega) ?_) (by simp)) ?_
 .rw [show R0.map D.str=ins.map fun x=>D.str (Str.join SP (vS x)) by show((ins.map vS).map (Str.join SP)).map D.str=_;rw [List.map_map,List.map_map];rfl]
  exact NT.cH MT.inD _ fun x hx=>⟨[.val (.str x.1), .val (nI x.2)],rfl,rfl,jo (x:=SP) rfl (aq (bJ (cM (ds:=(vS x).map .str) (aq rfl (aq rfl (aq (av (ds:=[nI x.2]) rfl (zR (T.iw x hx))) rfl))) (by show 3<=sizeLine;omega))) rfl) (qH (by unfold vS;simp) (wQ (T.inm x hx)))⟩
 refine az (iu (ds:=(gs.zip gn).zipIdx.map fun p=>D.tup [nI p.2,iE p.1.1]) (by rw[<-en];exact Hz rfl) h1) ?_
 subst Gp;refine az (iu (ds:=os.map kU) (eW rfl) h2) ?_;subst Gm;refine cw ?_;show R.ok (D.lst ((R0++RG gs.length++RO os.length).map .str))=_;congr 2;show List.map D.str ((ins.map vS).map (Str.join SP)++((((gs.zip gn).take gs.length).map fun p=>pU W p.1 p.2).map (Str.join SP))++((os.take os.length).map (p6 W)).map (Str.join SP))=_
 rw[List.take_length,List.take_of_length_le (by rw[hzl];exact Nat.le_refl _),<-List.map_append,<-List.map_append]
 unfold uU;rw[hW]
end
end K02
end
section
namespace K02
open PySem PySem.Spec PyProof.Rows L2 L3 MT JT TX
theorem Hf{ds:List D}:fN [.tup ds]= .ok (nI ds.length):=rfl
theorem Lj{n:Nat}{d:D}{ds:List D}(hl:ds.length < 1000000)(RM:∀(i:Nat) (x:D),ds[i]? =some x->df d (nI i)= .ok x)(hlen:fN [d]= .ok (nI ds.length))(h:∀x∈ds,cj n [x,x]= .ok (.bl true)):e2 pF (eNew (cx (d8 (aM fN (aj (af 1) aL))) (aA 0) (rW (nE (aM (cj n) (aj (e2 df (af 1) (af 0)) (aj (e2 df (af 2) (af 0)) aL))))) (af 0) [(Str.ofString "k")] [0,1])) (eNew (eG aL)) [.val d, .val d]= .ok (.bl true):=by
 have hz:sizeLine=16777216:=sizeLine_eq;have hf:(List.range ds.length).filter (fun _=>false)=[]:=List.filter_eq_nil_iff.mpr fun a _=>by simp
 refine aw (a:= .lst (((List.range ds.length).filter fun _=>false).map nI)) (b:= .lst []) (bJ (cK (ds:=(List.range ds.length).map nI) (n6 (n:=ds.length) (av (ds:=[d]) rfl hlen) (by omega)) (by simp;omega) (NT.kf (fun _=>false) nI nI fun i hi=>⟨[.val (nI i), .val d, .val d],rfl,?_,fun h=>by cases h⟩))) (bJ (cM rfl (by show 0<=sizeLine;omega))) (by rw[hf];rfl)
 have hi:=List.mem_range.mp hi;have q:ds[i]? =some ds[i]:=List.getElem?_eq_getElem hi;exact pW (a:=true) (kc (av (ds:=[ds[i],ds[i]]) (aq (aw (a:=d) (b:=nI i) rfl rfl (RM i _ q)) (aq (aw (a:=d) (b:=nI i) rfl rfl (RM i _ q)) rfl)) (h _ (List.getElem_mem hi))))
theorem EM:∀{k:Nat} {d:D},Sx k d->cj (k+1) [d,d]= .ok (.bl true):=fun {k d} h=>by
 induction h with
 | int n i=>
   have:cj (n+1) [.int i, .int i]= .ok (.bl (decide (i=i))):=rfl;rw[this,decide_eq_true rfl]
 | bl n b=>
   have:cj (n+1) [.bl b, .bl b]= .ok (.bl (decide (b=b))):=rfl;rw[this,decide_eq_true rfl]
 | str n x=>
   have:cj (n+1) [.str x, .str x]= .ok (.bl (decide (x=x))):=rfl;rw[this,decide_eq_true rfl]
 | @lst n ds h hl ih=>
   show qe gG (gT (cj (n+1))) [.lst ds, .lst ds]=_;unfold gT;refine c7 (NT.mn (mO rfl (az (kI rfl rfl) (az (kI ?_ rfl) (cw (Lj hl (fun i x hx=>NT.cB hx) fW ih))))))
   exact(cY (a:=nI ds.length) (b:=nI ds.length) rfl rfl (K7 _ _)).trans (by simp)
 | @tup n ds h hl ih=>
   show qe gG (gT (cj (n+1))) [.tup ds, .tup ds]=_;unfold gT;refine c7 (NT.mn (mO rfl (az (kI rfl rfl) (az (kI ?_ rfl) (cw (Lj hl (fun i x hx=>NT.EV hx) Hf ih))))))
   exact(cY (a:=nI ds.length) (b:=nI ds.length) rfl rfl (K7 _ _)).trans (by simp)
theorem Em{k m:Nat}{d:D}(h:Sx k d)(hm:k<=m):Sx m d:=by
 induction h generalizing m with
 | int n i=>exact .int _ _
 | bl n b=>exact .bl _ _
 | str n x=>exact .str _ _
 | @lst n ds h hl ih=>
   obtain⟨j,rfl⟩:∃j,m=j+1:=⟨m - 1,by omega⟩
   exact .lst (fun d hd=>ih d hd (by omega)) hl
 | @tup n ds h hl ih=>
   obtain⟨j,rfl⟩:∃j,m=j+1:=⟨m - 1,by omega⟩
   exact .tup (fun d hd=>ih d hd (by omega)) hl
end K02
end
section
namespace K02
open PySem PySem.Spec PyProof.Rows L2 L3 MT JT TX
section
variable {ins:WH} {gs:List Gt} {os:WI} {gn:List Str}
theorem v7(T:TN ins gs os)(G:GN ins gs.length gn)(S:aP):W3 (jr [.d (.str (Str.join NL ((uU ins gs os gn).map (Str.join SP))))] S) fun v S1=>v= .tup [.loc (S.length+1), .loc (S.length+2), .loc (S.length+3)]/\∃d:Dr,d.ins=ins/\d.gs=gs/\d.os=os/\S1=iS S d:=by
 have h6:=T.i6;have h60:=T.g60;have ho6:=T.o6;have i1:=T.i1;have hl:((uU ins gs os gn).map (Str.join SP)).length=ins.length+gs.length+os.length:=by rw[List.length_map,ze T G]
 have hro:=B6 T G;have hs:=x5 (rs:=(uU ins gs os gn).map (Str.join SP)) (fun e=>by rw[e] at hl;simp only[List.length_nil] at hl;omega) hro
 rcases Eh (S:=S) (text:=Str.join NL ((uU ins gs os gn).map (Str.join SP))) ⟨by have:=Bv (by omega) hro;omega,fun c hc=>by have:=Du hro c hc;omega⟩ with⟨v,S1,e,d,hd,ok,hv,hS⟩ | ⟨c,S1,e,hc,_⟩
 .rw [hs,sE T G] at hd;cases hd;exact⟨v,S1,e,hv,_,rfl,rfl,rfl,hS⟩
 .rw [hs,sE T G] at hc;cases hc
end
theorem BL(ns:List Int)(hn:ns.length<=63):zc [.lst (ns.map D.int)]= .ok (.bl true):=by
 have hz:sizeLine=16777216:=sizeLine_eq;have f0:Flat ([]:aP):=Flat.nil;obtain⟨ins,gs,os,hnet,T,_⟩:=IT ns;obtain⟨gn,hgn,G⟩:=rM (os:=os) T.i6 T.g60 (ns.getD 0 0+1);have Hc:=G.len;have key:W3 (yG kG qK [.d (.lst (ns.map .int))] []) fun v S1=>v= .d (.bl true)/\S1=[]:=by
  refine KU f0.T7 (TU rfl ?_);simp only[dZ,kG,List.map,List.length,List.replicate,List.cons_append,List.nil_append,Nat.reduceAdd,Nat.reduceSub];unfold qK;refine g7 <| nD (by simp) <| iO (d:=dQ ins gs os) (av (ds:=[.lst (ns.map .int)]) rfl hnet) ⟨_,rfl,?_⟩
  simp only[List.set];refine g7 <| nD (by simp) <| iO (d:= .lst (gn.map .str)) (av (ds:=[dQ ins gs os, .int (ns.getD 0 0+1)]) (aq rfl (aq (aw (a:= .int (ns.getD 0 0)) (b:= .int 1) (av (ds:=[.lst (ns.map .int),nI 0]) rfl (uj ns 0)) rfl rfl) rfl)) hgn) ⟨_,rfl,?_⟩
  simp only[List.set];refine g7 (W3.mono (Q:=fun o S1=>S1=[]/\∃J4,TN ins gs J4/\o= .nx [some (.d (.lst (ns.map .int))),some (.d (dQ ins gs J4)),some (.d (.lst (gn.map .str))),none,none,none,none]) ?_ ?_)
  .refine Jw <| Cc (b:=decide (stN (ns.getD 0 0) 343 % 4=1) && decide (5 < gn.length)) (tK (cY (a:=nI (stN (ns.getD 0 0) 343 % 4)) (b:=nI 1) (aw (a:=nI (stN (ns.getD 0 0) 343)) (b:=nI 4) (av (ds:=[.int (ns.getD 0 0),nI 343]) (aq (av (ds:=[.lst (ns.map .int),nI 0]) rfl (uj ns 0)) rfl) (oe _ 343)) rfl (fK (by omega))) rfl (wX _ _)) fun _=>cY (a:=nI gn.length) (b:=nI 5) (av (ds:=[.lst (gn.map .str)]) rfl (by rw[fW,List.length_map])) rfl (Dg _ _)) ?_
   by_cases hb:5 < gn.length
   .cases hc:decide (stN (ns.getD 0 0) 343 % 4=1)
    .exact tV ⟨rfl,os,T,rfl⟩
    .rw [decide_eq_true hb];have ho6:=T.o6;refine nD (by simp) <| iO (d:=dQ ins gs ((List.range os.length).map fun p=>(gn.getD p Str.empty,(os.getD p (Str.empty,[])).2))) ?_ ⟨rfl,_,T.T9 G hb,rfl⟩
     refine ko (ds:=[.lst (ins.map MT.inD), .lst (gs.map iE), .lst (((List.range os.length).map fun p=>(gn.getD p Str.empty,(os.getD p (Str.empty,[])).2)).map kU)]) (aq (aw (a:=dQ ins gs os) (b:= .int 0) rfl rfl rfl) (aq (aw (a:=dQ ins gs os) (b:= .int 1) rfl rfl rfl) (aq (bJ (cK (ds:=(List.range os.length).map nI) (n6 (n:=os.length) (av (ds:=[.lst (os.map kU)]) (aq (aw (a:=dQ ins gs os) (b:= .int 2) rfl rfl rfl) rfl) (by rw[fW,List.length_map])) (by omega)) (by simp;omega) ?_)) rfl))) (by show 3<=sizeLine;omega)
     rw[List.map_map];refine NT.cH nI _ fun p hp=>⟨[.val (nI p), .val (dQ ins gs os), .val (.lst (gn.map .str))],rfl,rfl,?_⟩
     have hp:=List.mem_range.mp hp;have e1:gn[p]? =some (gn.getD p Str.empty):=by rw[List.getD_eq_getElem?_getD,List.getElem?_eq_getElem (show p < gn.length by omega)];rfl
     have e2:os[p]? =some (os.getD p (Str.empty,[])):=by rw[List.getD_eq_getElem?_getD,List.getElem?_eq_getElem hp];rfl
     exact ko (ds:=[.str (gn.getD p Str.empty), .tup ((os.getD p (Str.empty,[])).2.map nI)]) (aq (aw (a:= .lst (gn.map .str)) (b:=nI p) rfl rfl (NT.cB (by rw[List.getElem?_map,e1];rfl))) (aq (aw (a:=kU (os.getD p (Str.empty,[]))) (b:= .int 1) (aw (a:= .lst (os.map kU)) (b:=nI p) (aw (a:=dQ ins gs os) (b:= .int 2) rfl rfl rfl) rfl (NT.cB (by rw[List.getElem?_map,e2];rfl))) rfl rfl) rfl)) (by show 2<=sizeLine;omega)
   .rw [decide_eq_false hb,Bool.and_false];exact tV ⟨rfl,os,T,rfl⟩
  .rintro o S1 ⟨rfl,J4,T',rfl⟩;refine⟨_,rfl,?_⟩;have h6:=T'.i6;have h60:=T'.g60;have ho6:=T'.o6;refine g7 <| nD (by simp) <| iO (d:= .str (Str.join NL ((uU ins gs J4 gn).map (Str.join SP)))) (jo (x:=NL) rfl (aq (av (ds:=[dQ ins gs J4, .lst (gn.map .str)]) rfl (z6 T' G)) rfl) (Az (by rw[List.length_map,ze T' G];omega) (B6 T' G))) ⟨_,rfl,?_⟩
   simp only[List.set];refine g7 <| nD (by simp) <| AR <| qj <| cQ <| iO rfl <| iF <| (v7 T' G []).mono ?_
   rintro v S1 ⟨rfl,d,rfl,rfl,rfl,rfl⟩;refine⟨_,rfl,?_⟩;simp only[List.set];refine g7 <| Jw <| LG (b:=false) (pW (a:=true) (kc (av (ds:=[dQ d.ins d.gs d.os,dQ d.ins d.gs d.os]) (aq rfl (aq rfl rfl)) (EM (Em (HM T') (by omega)))))) (tV ⟨_,rfl,?_⟩)
   refine g7 <| nD (by simp) <| Cn <| Ck <| w_var rfl ⟨_,rfl,by show 3<=sizeLine;omega,[.d (nI (d.ins.map MT.inD).length), .d (nI (d.gs.map iE).length), .d (nI (d.os.map kU).length)],_,rfl,⟨_,rfl,?_⟩⟩
   simp only[List.set]
   let zb:D:= .tup [.str (Str.ofString "zebra"), .tup []]
   refine g7 <| G1 <| Ck <| w_var rfl ⟨_,rfl,?_⟩
   refine tE rfl <| BG rfl ⟨_,rfl⟩ <| iO (d:=zb) rfl ⟨_,_,rfl,rfl,by rw[List.length_map];omega,⟨_,rfl,?_⟩⟩
   refine tE rfl <| BG rfl ⟨_,rfl⟩ <| iO (d:=zb) rfl ⟨_,_,rfl,rfl,by rw[List.length_map];omega,⟨_,rfl,?_⟩⟩
   refine tE rfl <| BG rfl ⟨_,rfl⟩ <| iO (d:=zb) rfl ⟨_,_,rfl,rfl,by rw[List.length_map];omega,⟨_,rfl,?_⟩⟩
   refine IA ⟨_,rfl,?_⟩
   let S3:aP:=[.ins 0 (xH 0), .lst (d.ins.map MT.inD++[zb]), .lst (d.gs.map iE++[zb]), .lst (d.os.map kU++[zb]), .dct (sS d.nm), .dct (sS d.on), .dct (IC d.nu)]
   let Ko:DE:=[some (.d (.lst (ns.map .int))),some (.d (dQ d.ins d.gs d.os)),some (.d (.lst (gn.map .str))),some (.d (.str (Str.join NL ((uU d.ins d.gs d.os gn).map (Str.join SP))))),some (.tup [.loc 1, .loc 2, .loc 3]),some (.d (.lst [nI (d.ins.map MT.inD).length,nI (d.gs.map iE).length,nI (d.os.map kU).length])),some (.loc 3)]
   have q:W3 (dc (rL (bT (b2 yN (eNew (cx (cP (af 4)) (aA 0) jB (aM fN (aj (af 0) aL)) [(Str.ofString "some")] [])) (eNew (cx (cP (af 5)) (aA 0) jB (e2 cN (af 0) (eC (.int 1))) [(Str.ofString "one")] [])))) (uE (xP (eC (.bl false)))) km) (uE (x2 pF (qo (G2 jr) (eF (bE (xP (af 3)) ee))) (xP (af 1)))) Ko S3) fun o S1=>∃v,o= .rt v/\lI 0 v=true/\(∃T,S1=T)/\∃d,res S1 v=some d/\V3.d d= .d (.bl true)/\True:=by
    let l3:List D:=[nI ((d.ins.map MT.inD).length+1),nI ((d.gs.map iE).length+1),nI ((d.os.map kU).length+1)]
    refine g7 <| Jw <| LG (b:=false) (cY (a:= .lst l3) (b:= .lst l3) (bJ (cK (ds:=[.lst (d.ins.map MT.inD++[zb]), .lst (d.gs.map iE++[zb]), .lst (d.os.map kU++[zb])]) (AZ rfl) (by show 3<=sizeLine;omega) ?_)) (bJ (cK (ds:=[nI (d.ins.map MT.inD).length,nI (d.gs.map iE).length,nI (d.os.map kU).length]) (eW rfl) (by show 3<=sizeLine;omega) rfl)) ?_) (tV ⟨_,rfl,?_⟩)
    .have z:∀l:List D,(l++[zb]).length=l.length+1:=fun l=>by rw[List.length_append];rfl
     show R.ok [nI (d.ins.map MT.inD++[zb]).length,nI (d.gs.map iE++[zb]).length,nI (d.os.map kU++[zb]).length]=_;rw[z,z,z]
    .have:g_ 1 (.lst l3):=g_.lst fun x hx=>by
      simp only[l3,List.mem_cons,List.not_mem_nil,or_false] at hx;rcases hx with rfl | rfl | rfl <;> exact g_.int _
     unfold yN;rw [g_.TL this (by omega)];rfl
    .refine B9 <| Q8 <| AR <| qj <| cQ <| iO rfl <| iF <| Tn ?_ <| (v7 T' G S3).mono ?_
     .intro o ho;simp only[S3,List.mem_cons,List.not_mem_nil,or_false] at ho;rcases ho with rfl | rfl | rfl | rfl | rfl | rfl | rfl <;> rfl
     .rintro v S1 ⟨rfl,d',h1,h2,h3,rfl⟩;refine⟨rfl,⟨_,rfl⟩,dQ d'.ins d'.gs d'.os,rfl,?_⟩;rw[h1,h2,h3];exact iO rfl ⟨_,_,_,rfl,rfl,JC T',_,rfl,rfl,⟨_,rfl⟩,_,rfl,rfl,trivial⟩
   exact q
 obtain⟨v,S1,e1,pG,e3⟩:=key;unfold zc MF;show(match yG kG qK ([D.lst (ns.map D.int)].map V3.d) [] with | .ok (.d d) []=>R.aS d.atom (R.ok d) | _=> .no)=_
 rw[show [D.lst (ns.map D.int)].map V3.d=[V3.d (.lst (ns.map .int))] from rfl,e1,pG,e3]
 rfl
end K02
end
open PySem PySem.W PyProof.Rows
set_option maxRecDepth 100000 in
set_option maxHeartbeats 0 in
theorem PySem.Challenge.cw_bearfaults_k02_whole_nets_read_holds : PySem.Challenge.rw_bearfaults_k02_whole_nets_read.Holds := by
 w_on;o_law;k_head;(case hw=>w_witness2)
 k_fill
 refine L2.La (l:=PySem.Challenge.rw_bearfaults_k02_whole_nets_read) (n:=63) (k:=8) (x:="script") (g:=K02.zc) rfl (by decide) rfl ⟨rfl,by decide,by decide⟩ (fun w h Y=>PySem.W.kIn_of Y) ?F K02.BL
 case F=>
  intro w mg fa h KX G Mq
  have o9:L2.Def (L2.eI KX) mg "is_name" K02.jJ:=by
   dsimp only[L2.eI]
   refine' L2.dn KX G ?a ?l ?c ?k
   (case a=>k_is);(case l=>k_is);(case c=>k_is);(case k=>k_is)
  have ny:L2.Def (L2.eI KX) mg "in_wires" K02.i7:=by
   dsimp only[L2.eI]
   refine' L2.dn KX G ?a ?l ?c ?k
   (case a=>k_is);(case l=>k_is);(case c=>k_is);(case k=>k_is)
  have jd:L2.Def (L2.eI KX) mg "is_wire_form" K02.dU:=by
   dsimp only[L2.eI]
   refine' L2.dn KX G ?a ?l ?c ?k
   (case a=>k_is);(case l=>k_is);(case c=>k_is);(case k=>k_is)
  have gd:L2.Def (L2.eI KX) mg "are_wire_forms" K02.dt:=by
   dsimp only[L2.eI]
   refine' L2.dn KX G ?a ?l ?c ?k
   (case a=>k_is);(case l=>k_is);(case c=>k_is);(case k=>k_is)
  have kB:L2.Def (L2.eI KX) mg "is_in_form" K02.fI:=by
   dsimp only[L2.eI]
   refine' L2.dn KX G ?a ?l ?c ?k
   (case a=>k_is);(case l=>k_is);(case c=>k_is);(case k=>k_is)
  have jf:L2.Def (L2.eI KX) mg "is_gate_form" K02.d4:=by
   dsimp only[L2.eI]
   refine' L2.dn KX G ?a ?l ?c ?k
   (case a=>k_is);(case l=>k_is);(case c=>k_is);(case k=>k_is)
  have jC:L2.Def (L2.eI KX) mg "is_out_form" K02.eJ:=by
   dsimp only[L2.eI]
   refine' L2.dn KX G ?a ?l ?c ?k
   (case a=>k_is);(case l=>k_is);(case c=>k_is);(case k=>k_is)
  have nv:L2.Def (L2.eI KX) mg "read_row" K02.iY:=by
   dsimp only[L2.eI]
   refine' L2.dn KX G ?a ?l ?c ?k
   (case a=>k_is);(case l=>k_is);(case c=>k_is);(case k=>k_is)
  have ym:L2.Def (L2.eI KX) mg "read" K02.qU:=by
   dsimp only[L2.eI]
   refine' L2.dn KX G ?a ?l ?c ?k
   (case a=>k_is);(case l=>k_is);(case c=>k_is);(case k=>k_is)
  have jE:L2.Def (L2.eI KX) mg "_law_cell_at" K02.eN:=by
   dsimp only[L2.eI]
   refine' L2.dn KX G ?a ?l ?c ?k
   (case a=>k_is);(case l=>k_is);(case c=>k_is);(case k=>k_is)
  have nk:L2.Def (L2.eI KX) mg "_law_stir" K02.iZ:=by
   dsimp only[L2.eI]
   refine' L2.dn KX G ?a ?l ?c ?k
   (case a=>k_is);(case l=>k_is);(case c=>k_is);(case k=>k_is)
  have l7:L2.Def (L2.eI KX) mg "_law_names" K02.gO:=by
   dsimp only[L2.eI]
   refine' L2.dn KX G ?a ?l ?c ?k
   (case a=>k_is);(case l=>k_is);(case c=>k_is);(case k=>k_is)
  have l_:L2.Def (L2.eI KX) mg "_law_wires" K02.gI:=by
   dsimp only[L2.eI]
   refine' L2.dn KX G ?a ?l ?c ?k
   (case a=>k_is);(case l=>k_is);(case c=>k_is);(case k=>k_is)
  have nq:L2.Def (L2.eI KX) mg "_law_gate" K02.i8:=by
   dsimp only[L2.eI]
   refine' L2.dn KX G ?a ?l ?c ?k
   (case a=>k_is);(case l=>k_is);(case c=>k_is);(case k=>k_is)
  have o8:L2.Def (L2.eI KX) mg "_law_net" K02.jY:=by
   dsimp only[L2.eI]
   refine' L2.dn KX G ?a ?l ?c ?k
   (case a=>k_is);(case l=>k_is);(case c=>k_is);(case k=>k_is)
  have l8:L2.Def (L2.eI KX) mg "_law_words" K02.gU:=by
   dsimp only[L2.eI]
   refine' L2.dn KX G ?a ?l ?c ?k
   (case a=>k_is);(case l=>k_is);(case c=>k_is);(case k=>k_is)
  have nB:L2.Def (L2.eI KX) mg "_law_rows" K02.iR:=by
   dsimp only[L2.eI]
   refine' L2.dn KX G ?a ?l ?c ?k
   (case a=>k_is);(case l=>k_is);(case c=>k_is);(case k=>k_is)
  have gc:L2.Def (L2.eI KX) mg "_law_gate_names" K02.dm:=by
   dsimp only[L2.eI]
   refine' L2.dn KX G ?a ?l ?c ?k
   (case a=>k_is);(case l=>k_is);(case c=>k_is);(case k=>k_is)
  have ma:L2.Def (L2.eI KX) mg "_law_alike" K02.gS:=by
   dsimp only[L2.eI]
   refine' L2.dn KX G ?a ?l ?c ?k
   (case a=>k_is);(case l=>k_is);(case c=>k_is);(case k=>k_is)
  have D_law:L2.Def (L2.eI KX) mg "law" K02.zi:=by
   dsimp only[L2.eI]
   refine' L2.dn KX G ?a ?l ?c ?k
   (case a=>k_is);(case l=>k_is);(case c=>k_is);(case k=>k_is)
  have rF:L2.Glob (L2.eI KX) mg "MOST_LETTERS" K02.dR:=by
   dsimp only[L2.eI]
   refine' L2.jL KX G ?a
   (case a=>k_is)
  have DG:L2.Glob (L2.eI KX) mg "BARRED" K02.lL:=by
   dsimp only[L2.eI]
   refine' L2.wb KX G ["in","gate","sure","out","not","and","or","xor","vote"] ?a ?l ?c ?d ?z ?r
   (case a=>k_is);(case l=>k_is);(case c=>rfl);(case d=>rfl);(case z=>decide);(case r=>exact .cons ⟨_,rfl⟩ (.cons ⟨_,rfl⟩ (.cons ⟨_,rfl⟩ (.cons ⟨_,rfl⟩ (.cons ⟨_,rfl⟩ (.cons ⟨_,rfl⟩ (.cons ⟨_,rfl⟩ (.cons ⟨_,rfl⟩ (.cons ⟨_,rfl⟩ (.nil))))))))))
  have AF:L2.Glob (L2.eI KX) mg "LETTERS" K02.jU:=by
   dsimp only[L2.eI]
   refine' L2.Dn KX G ?a
   (case a=>k_is)
  have AD:L2.Glob (L2.eI KX) mg "FIGURES" K02.jN:=by
   dsimp only[L2.eI]
   refine' L2.wb KX G ["0","1","2","3","4","5","6","7","8","9"] ?a ?l ?c ?d ?z ?r
   (case a=>k_is);(case l=>k_is);(case c=>rfl);(case d=>rfl);(case z=>decide);(case r=>exact .cons ⟨_,rfl⟩ (.cons ⟨_,rfl⟩ (.cons ⟨_,rfl⟩ (.cons ⟨_,rfl⟩ (.cons ⟨_,rfl⟩ (.cons ⟨_,rfl⟩ (.cons ⟨_,rfl⟩ (.cons ⟨_,rfl⟩ (.cons ⟨_,rfl⟩ (.cons ⟨_,rfl⟩ (.nil)))))))))))
  have o_:L2.Glob (L2.eI KX) mg "MOST_OUT_WIRES" K02.di:=by
   dsimp only[L2.eI]
   refine' L2.jL KX G ?a
   (case a=>k_is)
  have yn:L2.Glob (L2.eI KX) mg "MOST_INS" K02.iT:=by
   dsimp only[L2.eI]
   refine' L2.jL KX G ?a
   (case a=>k_is)
  have uQ:L2.Glob (L2.eI KX) mg "MOST_GATES" K02.fw:=by
   dsimp only[L2.eI]
   refine' L2.jL KX G ?a
   (case a=>k_is)
  have wI:L2.Glob (L2.eI KX) mg "MOST_OUTS" K02.gW:=by
   dsimp only[L2.eI]
   refine' L2.jL KX G ?a
   (case a=>k_is)
  have wG:L2.Glob (L2.eI KX) mg "MOST_ROWS" K02.gL:=by
   dsimp only[L2.eI]
   refine' L2.jL KX G ?a
   (case a=>k_is)
  have AA:L2.lH PySem.Challenge.rw_bearfaults_k02_whole_nets_read.prog w (L2.eI KX) mg "WIDTHS" K02.me:=by
   dsimp only[L2.eI]
   refine' L2.vM KX G [("1",_,1,_),("2",_,2,_),("3",_,3,_)] ?a ?l ?s ?k ?d ?m ?z
   (case a=>k_is);(case l=>k_is);(case s=>rfl);(case k=>rfl);(case d=>decide);(case m=>rfl);(case z=>decide)
  have r_:L2.lH PySem.Challenge.rw_bearfaults_k02_whole_nets_read.prog w (L2.eI KX) mg "KIND_WIRES" K02.gy:=by
   dsimp only[L2.eI]
   refine' L2.vM KX G [("not",_,1,_),("and",_,2,_),("or",_,2,_),("xor",_,2,_),("vote",_,3,_)] ?a ?l ?s ?k ?d ?m ?z
   (case a=>k_is);(case l=>k_is);(case s=>rfl);(case k=>rfl);(case d=>decide);(case m=>rfl);(case z=>decide)
  obtain⟨cl,CF⟩:∃cl,K02.Cf (L2.eI KX) mg cl:=by
   dsimp only[L2.eI]
   refine' K02.L8 KX G ?Qh ?Pu ?OG ?O6 ?Pr ?Qd ?Pa ?yo ?rJ ?uN ?rG ?kA ?nt ?OD ?Pz ?Px ?Pp ?Qm ?Qi ?O1 ?PQ ?P4 ?OS ?OO ?Ql ?Qj ?Po ?O2 ?OE ?O8 ?Pl ?P1 ?OL ?Oy ?Pc ?P_ ?P2 ?Qc ?Qa ?Pf ?O3 ?Qf ?P7 ?O_ ?O9 ?PY ?OP ?O5 ?OK ?Qk ?P5 ?OF ?PL ?Qn ?O7 ?OI ?OV ?Pq ?OQ ?OH ?PU ?OJ ?PM ?Oz ?PH ?P6 ?Qg ?Pt ?Pj ?Pg ?Gk ?Gr ?ji ?jg ?je ?dW ?fQ ?el ?eg ?ei ?ck ?c5 ?f_ ?gp ?gg ?dg ?eA ?hV ?ia ?h_ ?dF ?eU ?gm ?gb ?gq ?dh ?gf
   (case Qh=>k_is)
   (case Pu=>k_is)
   (case OG=>k_is)
   (case O6=>k_is)
   (case Pr=>k_is)
   (case Qd=>k_is)
   (case Pa=>k_is)
   (case yo=>k_is)
   (case rJ=>k_is)
   (case uN=>k_is)
   (case rG=>k_is)
   (case kA=>k_is)
   (case nt=>k_is)
   (case OD=>k_is)
   (case Pz=>k_is)
   (case Px=>k_is)
   (case Pp=>k_is)
   (case Qm=>k_is)
   (case Qi=>k_is)
   (case O1=>k_is)
   (case PQ=>k_is)
   (case P4=>kernel_rfl)
   (case OS=>k_is)
   (case OO=>k_is)
   (case Ql=>k_is)
   (case Qj=>k_is)
   (case Po=>k_is)
   (case O2=>kernel_rfl)
   (case OE=>kernel_rfl)
   (case O8=>k_is)
   (case Pl=>k_is)
   (case P1=>k_is)
   (case OL=>k_is)
   (case Oy=>k_is)
   (case Pc=>kernel_rfl)
   (case P_=>kernel_rfl)
   (case P2=>k_is)
   (case Qc=>k_is)
   (case Qa=>k_is)
   (case Pf=>k_is)
   (case O3=>k_is)
   (case Qf=>kernel_rfl)
   (case P7=>kernel_rfl)
   (case O_=>k_is)
   (case O9=>k_is)
   (case PY=>k_is)
   (case OP=>k_is)
   (case O5=>k_is)
   (case OK=>kernel_rfl)
   (case Qk=>kernel_rfl)
   (case P5=>k_is)
   (case OF=>k_is)
   (case PL=>k_is)
   (case Qn=>k_is)
   (case O7=>k_is)
   (case OI=>kernel_rfl)
   (case OV=>kernel_rfl)
   (case Pq=>k_is)
   (case OQ=>k_is)
   (case OH=>k_is)
   (case PU=>k_is)
   (case OJ=>k_is)
   (case PM=>kernel_rfl)
   (case Oz=>kernel_rfl)
   (case PH=>k_is)
   (case P6=>k_is)
   (case Qg=>k_is)
   (case Pt=>k_is)
   (case Pj=>k_is)
   (case Pg=>kernel_rfl)
   (case Gk=>k_is)
   (case Gr=>k_is)
   (case ji=>k_is)
   (case jg=>k_is)
   (case je=>k_is)
   (case dW=>k_is)
   (case fQ=>k_is)
   (case el=>k_is)
   (case eg=>k_is)
   (case ei=>k_is)
   (case ck=>k_is)
   (case c5=>k_is)
   (case f_=>k_is)
   (case gp=>k_is)
   (case gg=>k_is)
   (case dg=>k_is)
   (case eA=>k_is)
   (case hV=>k_is)
   (case ia=>k_is)
   (case h_=>k_is)
   (case dF=>k_is)
   (case eU=>k_is)
   (case gm=>k_is)
   (case gb=>k_is)
   (case gq=>k_is)
   (case dh=>k_is)
   (case gf=>k_is)
  have ef:=CF.ef
  have cm:=CF.cm
  have du:=CF.du
  have dI:=CF.dI
  have dv:=CF.dv
  have T:K02.Tp PySem.Challenge.rw_bearfaults_k02_whole_nets_read.prog w (L2.eI KX) mg cl:=by
   dsimp only[L2.eI]
   refine' ⟨PySem.W.mg_none_of KX G ?z_len,PySem.W.mg_none_of KX G ?z_all,PySem.W.mg_none_of KX G ?z_range,PySem.W.mg_none_of KX G ?z_tuple,PySem.W.mg_none_of KX G ?z_min,PySem.W.mg_none_of KX G ?z_int,PySem.W.mg_none_of KX G ?z_sum,PySem.W.mg_none_of KX G ?z_str,PySem.W.mg_none_of KX G ?z_enumerate,PySem.W.mg_none_of KX G ?z_isinstance,PySem.W.mg_none_of KX G ?z_list,PySem.W.mg_none_of KX G ?z_bool,rF,DG,AF,AD,o_,yn,uQ,wI,wG,AA,r_,CF.C_Draft,CF.N_Draft_ins,CF.N_Draft_gates,CF.N_Draft_outs,CF.N_Draft_names,CF.N_Draft_out_names,CF.N_Draft_numbers,CF.M_Draft,CF.M_FaultError,CF.M_TooLong,CF.M_NoForm,CF.M_NoPlace,CF.M_Twice,CF.M_Full,CF.M_NoWire,CF.M_Open,CF.X_TooLong,CF.X_NoForm,CF.X_NoPlace,CF.X_Twice,CF.X_Full,CF.X_NoWire,CF.X_Open⟩
   (case z_len=>k_is);(case z_all=>k_is);(case z_range=>k_is);(case z_tuple=>k_is);(case z_min=>k_is);(case z_int=>k_is);(case z_sum=>k_is);(case z_str=>k_is);(case z_enumerate=>k_is);(case z_isinstance=>k_is);(case z_list=>k_is);(case z_bool=>k_is)
  obtain⟨fl,fd,Fl,hl⟩:=D_law
  have e0:=Mq.symm.trans hl
  cases e0
  refine' ⟨fd,?b,fun base kb nb=>K02.JQ T o9 ny jd gd kB jf jC ef cm du dI nv dv ym jE nk l7 l_ nq o8 l8 nB gc ma Fl⟩
  obtain⟨_,_,_,_,_,_,_,_,_,e,_,_⟩:=Fl.ex
  subst e
  exact fun s u=> .of_eq rfl
