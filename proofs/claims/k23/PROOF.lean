import PyProof.Rows.All
import Wide.All
import OpenK.AllK
import Wide.FinOn
import Lean
import PyProof.EqAt
import PyProof.EqKinds
import PyProof.TupleCall
import PyProof.Rows.StrJoin2
import PyProof.TupleOfGen
import PyProof.ListRange
import PyProof.Draws
import PyProof.Rows.StrClose3
import KE.KSortedM
import PyProof.Rows.SortWalk
import PyProof.WalkInts
import PyProof.Rows.Range3
import PyProof.ZipIter
import PyProof.ConsumeWalk
import PyProof.Rows.SeqMore
import KE.KRevIter
import KE.KRevSl
import KE.KUnpack
import KE.KDictSum
import KE.KTupSum
import PySem.Challenge.RW_bearfaults_k23_surest_of_turning_gates
noncomputable section
set_option bootstrap.genMatcherCode false
section
open PySem
abbrev Um:=List (Addr×Obj)
abbrev Uo:=Value->Shared->Prop
abbrev Uq:=List (Str×Nat)
abbrev Ur:=List (Str×List Nat)
abbrev Us:=List (List Nat)
abbrev Ut:=Str->Option Value
abbrev Uu:=Nat->Addr
end
def PySem.W.Fast.tw8413138198463612780:=0
def PySem.W.Fast.tw9087433192125087024:=0
def PySem.W.Fast.tw12703925101692623613:=0
def PySem.W.Fast.tw2545035492503182353:=0
def PySem.W.Fast.tw17042106593448416687:=0
def PySem.W.Fast.tw1884952551386546606:=0
def PySem.W.Fast.tw17926130749829744649:=0
def PySem.W.Fast.tw11265043792064641466:=0
def PySem.W.Fast.tw9378961760131150765:=0
def PySem.W.Fast.tw13668414554525422183:=0
def PySem.W.Fast.tw10381500278061747862:=0
def PySem.W.Fast.tw14508960683374637837:=0
def PySem.W.Fast.tw4757319865841398881:=0
def PySem.W.Fast.tw2119503719531784928:=0
def PySem.W.Fast.tw7092954822883302517:=0
def PySem.W.Fast.tw13949006563937644755:=0
def PySem.W.Fast.tw16638609271194443100:=0
def PySem.W.Fast.tw2457412491144202653:=0
def PySem.W.Fast.tw6224537588112020451:=0
def PySem.W.Fast.tw1661090130777575628:=0
def PySem.W.Fast.tw8866023267837500923:=0
def PySem.W.Fast.tw17923192524851890310:=0
def PySem.W.Fast.tw13999717542593183387:=0
def PySem.W.Fast.tw17949766407893827708:=0
def PySem.W.Fast.tw14476666588098587632:=0
def PySem.W.Fast.tw11897491713168855018:=0
def PySem.W.Fast.tw7042698930426132122:=0
def PySem.W.Fast.tw5357473170144578601:=0
def PySem.W.Fast.tw8483403552038441281:=0
def PySem.W.Fast.tw10861493195801740599:=0
def PySem.W.Fast.tw8718823243323204332:=0
def PySem.W.Fast.tw4280432296771702344:=0
def PySem.W.Fast.tw15801579638546484990:=0
def PySem.W.Fast.tw16881769558045878220:=0
def PySem.W.Fast.tw15791253589928223927:=0
def PySem.W.Fast.tw5554325942707664989:=0
def PySem.W.Fast.tw4263465126101052033:=0
def PySem.W.Fast.tw4271276277903721197:=0
def PySem.W.Fast.tw10687282072506228647:=0
def PySem.W.Fast.tw5964867459354007761:=0
set_option Elab.async false
set_option linter.all false
set_option maxRecDepth 100000
set_option maxHeartbeats 4000000
section
namespace L2
open PySem PySem.Spec PyProof.Rows
abbrev Key:=Sum Int Str
def rA:Key->Value->Bool
 | .inl k,v=>Value.isInt k v
 | .inr x,v=>Value.isStrOf x v
def Ni(w:World):Key->Int
 | .inl k=>hashInt k
 | .inr x=>hashStr w x
theorem cv:∀{k:Key} {v:Value},rA k v=true->(∃i t,k=Sum.inl i/\v=Value.int i t)\/(∃x t,k=Sum.inr x/\v=Value.str x t)
 | .inl i,v,h=>by
   obtain⟨t,e⟩:=Value.isInt_shape (k:=i) (v:=v) h;exact .inl ⟨i,t,rfl,e⟩
 | .inr x,v,h=>by
   obtain⟨t,e⟩:=Value.isStrOf_shape (x:=x) (v:=v) h;exact .inr ⟨x,t,rfl,e⟩
theorem AG(i:Int)(t:Tok):rA (.inl i) (.int i t)=true:=by simp [rA,Value.isInt]
theorem A3(x:Str)(t:Tok):rA (.inr x) (.str x t)=true:=by simp [rA,Value.isStrOf]
theorem Il(a b:Int):decide ((Sum.inl a:Key)=Sum.inl b)=(a==b):=by
 by_cases e:a=b
 .subst e;simp
 .have h:¬(Sum.inl a:Key)=Sum.inl b:=fun q=>e (Sum.inl.inj q)
  rw[decide_eq_false h];exact(beq_eq_false_iff_ne.mpr e).symm
theorem HF(a b:Str):decide ((Sum.inr a:Key)=Sum.inr b)=decide (a=b):=by
 by_cases e:a=b
 .subst e;simp
 .have h:¬(Sum.inr a:Key)=Sum.inr b:=fun q=>e (Sum.inr.inj q)
  rw[decide_eq_false h,decide_eq_false e]
theorem Hv(a:Int)(b:Str):decide ((Sum.inl a:Key)=Sum.inr b)=false:=decide_eq_false (fun q=>nomatch q)
theorem IQ(a:Str)(b:Int):decide ((Sum.inr a:Key)=Sum.inl b)=false:=decide_eq_false (fun q=>nomatch q)
def c0(prog:Program)(w:World):PySem.KeyKind prog w Key where
 is:=rA
 hash:=Ni w
 inj:=fun v a b ha hb=>by
  rcases cv ha with⟨i,t,rfl,rfl⟩ | ⟨x,t,rfl,rfl⟩
  .rcases cv hb with⟨j,u,rfl,e⟩ | ⟨y,u,rfl,e⟩
   .injection e with e1 _;rw [e1]
   .exact nomatch e
  .rcases cv hb with⟨j,u,rfl,e⟩ | ⟨y,u,rfl,e⟩
   .exact nomatch e
   .injection e with e1 _;rw [e1]
 byValue:=fun k v h=>by
  rcases cv h with⟨i,t,rfl,rfl⟩ | ⟨x,t,rfl,rfl⟩ <;> rfl
 pyHash:=fun hv h=>by
  rcases cv hv with⟨i,t,rfl,rfl⟩ | ⟨x,t,rfl,rfl⟩
  .exact wpAny_pyHash_int h
  .exact wpAny_pyHash_str h
 eqBool:=fun hu hv h=>by
  rcases cv hu with⟨i,t,rfl,rfl⟩ | ⟨x,t,rfl,rfl⟩
  .rcases cv hv with⟨j,u,rfl,rfl⟩ | ⟨y,u,rfl,rfl⟩
   .rw [Il] at h;exact wpAny_eqBool_int h
   .rw [Hv] at h;exact SeqAt.EqAt.int_str i t y u _ _ _ _ h
  .rcases cv hv with⟨j,u,rfl,rfl⟩ | ⟨y,u,rfl,rfl⟩
   .rw [IQ] at h;exact SeqAt.EqAt.str_int x t j u _ _ _ _ h
   .rw [HF] at h;exact wpAny_eqBool_str h
 «strs»:=fun k x t v h=>by
  rcases cv h with⟨i,u,rfl,e⟩ | ⟨y,u,rfl,e⟩
  .exact nomatch e
  .injection e with e1 _
   subst e1;cases v <;> rfl
theorem vC(prog:Program)(w:World)(i:Int)(t:Tok):(c0 prog w).is (.inl i) (.int i t)=true:=AG i t
theorem wb(prog:Program)(w:World)(x:Str)(t:Tok):(c0 prog w).is (.inr x) (.str x t)=true:=A3 x t
inductive V where
 | bQ | bl (b:Bool) | int (i:Int) | str (x:Str) | byt (b:Array UInt8) | flt (b:UInt64) | ref (a:Addr) | ty (n:String)
 deriving DecidableEq
def RelV:V->Value->Prop
 | .bQ,u=>u=Value.none
 | .bl b,u=>u=Value.bool b
 | .int i,u=>∃t,u=Value.int i t
 | .str x,u=>∃t,u=Value.str x t
 | .byt b,u=>∃t,u=Value.bytes b t
 | .flt b,u=>∃t,u=Value.float b t
 | .ref a,u=>u=Value.ref a
 | .ty n,u=>u=Value.type n
abbrev Vals:List V->List Value->Prop:=Paired RelV
theorem Vals.length{xs:List V}{us:List Value}(r:Vals xs us):xs.length=us.length:=Paired.length r
theorem Vals.get:∀{xs:List V} {us:List Value} {i:Nat} {x:V},Vals xs us->xs[i]? =some x->∃u,us[i]? =some u/\RelV x u
 | _,_,_,_, .nil,e=>by simp at e
 | _,_,0,_, .cons r _,e=>by simp at e;subst e;exact⟨_,rfl,r⟩
 | _,_,i+1,x, .cons _ t,e=>by
   obtain⟨u,h1,h2⟩:=Vals.get (i:=i) (x:=x) t (by simpa using e)
   exact⟨u,by simpa using h1,h2⟩
theorem Vals.set{x:V}{u:Value}(r:RelV x u):∀{xs:List V} {us:List Value} (i:Nat),Vals xs us->Vals (xs.set i x) (us.set i u)
 | _,_,_, .nil=> .nil
 | _,_,0, .cons _ t=> .cons r t
 | _,_,i+1, .cons q t=> .cons q (Vals.set r i t)
theorem Vals.append:∀{xs ys:List V} {us ws:List Value},Vals xs us->Vals ys ws->Vals (xs++ys) (us++ws)
 | _,_,_,_, .nil,s=>s
 | _,_,_,_, .cons r t,s=> .cons r (Vals.append t s)
theorem Vals.take:∀{xs:List V} {us:List Value} (n:Nat),Vals xs us->Vals (xs.take n) (us.take n)
 | _,_,0,_=> .nil
 | _,_,_+1, .nil=> .nil
 | _,_,n+1, .cons r t=> .cons r (Vals.take n t)
theorem Vals.drop:∀{xs:List V} {us:List Value} (n:Nat),Vals xs us->Vals (xs.drop n) (us.drop n)
 | _,_,0,r=>r
 | _,_,_+1, .nil=> .nil
 | _,_,n+1, .cons _ t=>Vals.drop n t
def nc:Option V->Option Value->Prop
 | some v,some u=>RelV v u
 | none,none=>True
 | _,_=>False
def KV{κ:Type}:List (κ × V)->List (κ × Value)->Prop:=Paired fun(p:κ × V) (q:κ × Value)=>p.1=q.1/\RelV p.2 q.2
def kV:Key->V
 | .inl i=> .int i
 | .inr x=> .str x
inductive HO where
 | lst (xs:List V)
 | tup (xs:List V)
 | dK (kvs:List (Key × V)) | dT (kvs:List (List Key × V))
 | set (S:Int->Bool) (n:Nat)
 | ins (C dx:Addr) (fs:List (Str × V))
 | own (x:Addr)
 | xd (fs:List (Str × V))
 | met (f x:Addr)
 | rng (lo hi:Int)
 | jf (o:Obj) (u:HO)
 | tbl (ps:Array Value)
 | ext (φ:Heap->Prop)
abbrev Hp:=Addr->Option HO
def upd(H:Hp)(a:Addr)(o:HO):Hp:=fun b=>if b=a then some o else H b
theorem aL{a:Addr}{o:HO}:upd H a o a=some o:=by unfold upd;rw [if_pos rfl]
theorem aQ{H:Hp}{a b:Addr}{o:HO}(h:b≠a):upd H a o b=H b:=by unfold upd;rw [if_neg h]
theorem Kk{H:Hp}{a b:Addr}{o u:HO}(h:H a=some o)(h':H b=some u)(d:o≠u):a≠b:=by
 intro e;subst e;rw [h] at h';exact d (Option.some.inj h')
theorem bR{H:Hp}{a b:Addr}{o:HO}(h:H a=some o)(h':H b=none):a≠b:=by
 intro e;subst e;rw [h] at h';cases h'
section
variable (P:Program) (w:World)
def cY(H:Hp)(h:Heap)(a:Addr):HO->Prop
 | .lst xs=>xs.length<=sizeLine/\∃(its:List Value) (n:Nat),Vals xs its/\h.get? a=some {cls:= .type "list",data:= .seq its.toArray n}
 | .tup xs=>xs.length<=sizeLine/\∃its:List Value,Vals xs its/\IsTup h a its.toArray
 | .dK kvs=>kvs.length<=sizeLine/\(a==sysModules)=false/\∃vs,KV kvs vs/\h.DictOf (c0 P w) a vs
 | .dT kvs=>kvs.length<=sizeLine/\(a==sysModules)=false/\∃xs:List (List Key × Addr × Value),
    Paired (fun(p:List Key × V) (q:List Key × Addr × Value)=>p.1=q.1/\H q.2.1=some (.tup (p.1.map kV))/\RelV p.2 q.2.2) kvs xs/\
    ∃o es ep,h.get? a=some o/\o.ExactDict/\o.data= .dict es ep/\es.toList=xs.map (entryOfKey (tupleKind (c0 P w)))/\(xs.map (·.1)).Nodup
 | .set S n=>h.SetOf (intKind P w) a S n
 | .ins C dx fs=>H dx=some (.own a)/\fs.length<=1000/\dx≠a/\h.get? a=some (PySem.W.instObj C dx)/\
    ∃mA,h.Ns1 dx mA/\(∀f,nc (fs.lookup f) (mA f))/\PySem.Within mA (fs.map (·.1))
 | .own _=>∃o,h.get? a=some o
 | .xd fs=>∃mA,h.Ns1 a mA/\∀f,nc (fs.lookup f) (mA f)
 | .rng lo hi=>∃t u v,h.get? a=some {cls:= .type "range",data:= .fields #[.int lo t, .int hi u, .int 1 v]}
 | .jf o u=>h.get? a=some o/\cY H h a u
 | .tbl ps=>h.get? a=some {cls:= .none,data:= .fields ps}
 | .met f x=>h.get? a=some (PySem.W.methodObj (.ref f) (.ref x))
 | .ext φ=>φ h/\(∃o,h.get? a=some o)/\∀h1 h2:Heap,φ h1->(∀o,h1.get? a=some o->h2.get? a=some o)->φ h2
def lT(H:Hp)(h:Heap):Prop:=∀a o,H a=some o->cY P w H h a o
end
section
variable {P:Program} {w:World} {H H':Hp} {h h':Heap} {a:Addr} {o:HO}
theorem cY.lt(x:cY P w H h a o):a < h.objs.size:=by
 cases o with
 | lst xs=>obtain⟨_,_,_,_,e⟩:=x;exact Heap.lt_size e
 | tup xs=>obtain⟨_,_,_,p⟩:=x;exact p.lt
 | dK kvs=>obtain⟨_,_,_,_,o,_,_,e,_⟩:=x;exact Heap.lt_size e
 | dT kvs=>obtain⟨_,_,_,_,o,_,_,e,_⟩:=x;exact Heap.lt_size e
 | set S n=>obtain⟨o,_,_,_,e,_⟩:=x;exact Heap.lt_size e
 | ins C dx fs=>obtain⟨_,_,_,e,_⟩:=x;exact Heap.lt_size e
 | own y=>obtain⟨_,e⟩:=x;exact Heap.lt_size e
 | xd fs=>obtain⟨_,⟨_,_,_,e,_⟩,_⟩:=x;exact Heap.lt_size e
 | rng lo hi=>obtain⟨_,_,_,e⟩:=x;exact Heap.lt_size e
 | jf ob u=>obtain⟨e,_⟩:=x;exact Heap.lt_size e
 | tbl ps=>exact Heap.lt_size (show h.get? a=some _ from x)
 | met f y=>exact Heap.lt_size (show h.get? a=some _ from x)
 | ext φ=>obtain⟨_,⟨_,e⟩,_⟩:=x;exact Heap.lt_size e
theorem Paired.HP{α β:Type}{F G:α->β->Prop}:∀{L0:List α} {LW:List β},Paired F L0 LW->(∀a b,F a b->G a b)->Paired G L0 LW
 | _,_, .nil,_=> .nil
 | _,_, .cons r t,f=> .cons (f _ _ r) (Paired.HP t f)
theorem cY.ui(x:cY P w H h a o)(k:∀b u,(b=a\/H b=some (.own a))->h.get? b=some u->h'.get? b=some u)
 (ho:∀b,H b=some (.own a)->H' b=some (.own a)) (ht:∀b xs,H b=some (.tup xs)->H' b=some (.tup xs)):cY P w H' h' a o:=by
 induction o with
 | lst xs=>obtain⟨z,its,n,r,e⟩:=x;exact⟨z,its,n,r,k _ _ (.inl rfl) e⟩
 | tup xs=>obtain⟨z,its,r,ob,e,c⟩:=x;exact⟨z,its,r,ob,k _ _ (.inl rfl) e,c⟩
 | dK kvs=>obtain⟨z,y,vs,r,ob,es,ep,e,c⟩:=x;exact⟨z,y,vs,r,ob,es,ep,k _ _ (.inl rfl) e,c⟩
 | dT kvs=>
   obtain⟨z,y,xs,r,ob,es,ep,e,c⟩:=x;exact⟨z,y,xs,Paired.HP r fun p q z=>⟨z.1,ht _ _ z.2.1,z.2.2⟩,ob,es,ep,k _ _ (.inl rfl) e,c⟩
 | set S n=>obtain⟨ob,es,ep,t,e,c⟩:=x;exact⟨ob,es,ep,t,k _ _ (.inl rfl) e,c⟩
 | ins C dx fs=>
   obtain⟨d,z,ne,e,mA,⟨od,es,ep,e2,c⟩,r⟩:=x;exact⟨ho _ d,z,ne,k _ _ (.inl rfl) e,mA,⟨od,es,ep,k _ _ (.inr d) e2,c⟩,r⟩
 | own y=>obtain⟨ob,e⟩:=x;exact⟨ob,k _ _ (.inl rfl) e⟩
 | xd fs=>obtain⟨mA,⟨od,es,ep,e,c⟩,r⟩:=x;exact⟨mA,⟨od,es,ep,k _ _ (.inl rfl) e,c⟩,r⟩
 | rng lo hi=>obtain⟨t,u,v,e⟩:=x;exact⟨t,u,v,k _ _ (.inl rfl) e⟩
 | jf ob u ih=>obtain⟨e,q⟩:=x;exact⟨k _ _ (.inl rfl) e,ih q⟩
 | tbl ps=>
   have e:h.get? a=some {cls:= .none,data:= .fields ps}:=x;show h'.get? a=some {cls:= .none,data:= .fields ps};exact k a _ (.inl rfl) e
 | met f y=>
   have e:h.get? a=some (PySem.W.methodObj (.ref f) (.ref y)):=x;show h'.get? a=some (PySem.W.methodObj (.ref f) (.ref y));exact k a _ (.inl rfl) e
 | ext φ=>obtain⟨p,⟨o,e⟩,st⟩:=x;exact⟨st _ _ p fun o q=>k _ _ (.inl rfl) q,⟨o,k _ _ (.inl rfl) e⟩,st⟩
theorem lT.lt(x:lT P w H h)(e:H a=some o):a < h.objs.size:=(x a o e).lt
theorem lT.fresh(x:lT P w H h)(e:h.objs.size<=a):H a=none:=by
 cases q:H a with
 | none=>rfl
 | some u=>exact absurd (Nat.lt_of_lt_of_le (x.lt q) e) (Nat.lt_irrefl _)
theorem lT.kept(x:lT P w H h)(k:∀b u,h.get? b=some u->h'.get? b=some u):lT P w H h':=fun a o e=>
 (x a o e).ui (fun b u _ q=>k b u q) (fun _ q=>q) fun _ _ q=>q
theorem lT.laid(x:lT P w H h)(k:∀b u,h.get? b=some u->h'.get? b=some u)(hp:h.objs.size<=a)(new:cY P w (upd H a o) h' a o):lT P w (upd H a o) h':=fun b u e=>by
 have hn:=x.fresh hp;by_cases hb:b=a
 .subst hb;rw [aL] at e;cases e;exact new
 .rw [aQ hb] at e;exact(x b u e).ui (fun c v _ q=>k c v q) (fun c q=>by rw[aQ (bR q hn)];exact q) fun c xs q=>by rw[aQ (bR q hn)];exact q
end
def Rd(H:Hp)(a:Addr)(u:HO):Prop:=H a=some u\/∃o,H a=some (.jf o u)
theorem Rd.ok{a:Addr}{u:HO}(r:Rd H a u)(x:lT P w H h):cY P w H h a u:=by
 rcases r with r | ⟨o,r⟩
 .exact x a u r
 .obtain⟨_,q⟩:=x a _ r;exact q
def Le:Option HO->Prop
 | some (.lst _)=>True
 | some (.dK _)=>True
 | some (.dT _)=>True
 | some (.set _ _)=>True
 | some (.ins _ _ _)=>True
 | some (.ext _)=>True
 | _=>False
section
variable {P:Program} {w:World} {H:Hp} {h h':Heap} {x e:Addr} {o':HO}
theorem lT.write(ok:lT P w H h)(mu:Le (H x))(he:e=x\/H e=some (.own x))(k:∀b u,b≠e->h.get? b=some u->h'.get? b=some u)(Ep:∃u,h'.get? e=some u)
 (new:cY P w (upd H x o') h' x o'):lT P w (upd H x o') h':=fun b u q=>by
 have nown:∀c y,H c=some (.own y)->c≠x:=fun c y r z=>by subst z;rw [r] at mu;exact mu
 have ntup:∀c xs,H c=some (.tup xs)->c≠x:=fun c xs r z=>by subst z;rw [r] at mu;exact mu
 by_cases hb:b=x
 .subst hb;rw [aL] at q;cases q;exact new
 .rw [aQ hb] at q;by_cases hbe:b=e
  .have q':H b=some (.own x):=by
    rcases he with z | z
    .exact absurd (hbe.trans z) hb
    .rw [hbe];exact z
   rw[q] at q';cases q';obtain⟨v,hv⟩:=Ep;exact⟨v,by rw[hbe];exact hv⟩
  .refine(ok b u q).ui (fun c v hc r=>k c v ?_ r) (fun c r=>by rw[aQ (nown c b r)];exact r) fun c xs r=>by rw[aQ (ntup c xs r)];exact r
   rcases hc with rfl | hc
   .exact hbe
   .rintro rfl;rcases he with z | z
    .exact nown c b hc z
    .rw [hc] at z;cases z;exact hb rfl
end
structure Un (fs ex:List Addr) (H H':Hp) (h h':Heap):Prop where
 keep:∀b o,h.get? b=some o->H b=none->b ∉ fs->b ∉ ex->h'.get? b=some o
 slot:∀b o,h.get? b=some o->H b=none->b∈fs->b ∉ ex->∃sl,h'.get? b=some {o with slots:=sl}
 free:∀b o,h.get? b=some o->H b=none->b ∉ ex->H' b=none
 there:∀b o,h.get? b=some o->b ∉ ex->∃o',h'.get? b=some o'
 tups:∀b xs,H b=some (.tup xs)->H' b=some (.tup xs)
 frzs:∀b o u,H b=some (.jf o u)->H' b=some (.jf o u)
 tbls:∀b ps,H b=some (.tbl ps)->∃more,H' b=some (.tbl (ps++more))
section
variable {fs J_ ex T_:List Addr} {H H1 H2:Hp} {h h1 h2 h':Heap} {a x e:Addr} {o:HO}
theorem Un.any(u:Un fs ex H H1 h h1){b:Addr}{ob:Obj}(q:h.get? b=some ob)(n:H b=none)(hx:b ∉ ex):∃sl,h1.get? b=some {ob with slots:=sl}:=by
 by_cases hb:b∈fs
 .exact u.slot b ob q n hb hx
 .exact⟨ob.slots,u.keep b ob q n hb hx⟩
theorem Un.kept(k:∀b u,h.get? b=some u->h'.get? b=some u):Un fs ex H H h h':=
 ⟨fun b ob q _ _ _=>k b ob q,fun b ob q _ _ _=>⟨ob.slots,k b ob q⟩,fun _ _ _ n _=>n,fun b ob q _=>⟨ob,k b ob q⟩,fun _ _ q=>q,fun _ _ _ q=>q,fun _ ps q=>⟨#[],by rw[q];simp⟩⟩
theorem Un.refl:Un fs ex H H h h:=Un.kept fun _ _ q=>q
theorem Un.laid(k:∀b u,h.get? b=some u->h'.get? b=some u)(hp:h.objs.size<=a)(hn:H a=none):Un fs ex H (upd H a o) h h' where
 keep:=fun b u q _ _ _=>k b u q
 slot:=fun b u q _ _ _=>⟨u.slots,k b u q⟩
 free:=fun b u q n _=>by rw[aQ (Nat.ne_of_lt (Nat.lt_of_lt_of_le (Heap.lt_size q) hp))];exact n
 there:=fun b u q _=>⟨u,k b u q⟩
 tups:=fun b xs q=>by rw[aQ (bR q hn)];exact q
 frzs:=fun b u xs q=>by rw[aQ (bR q hn)];exact q
 tbls:=fun b ps q=>⟨#[],by rw[aQ (bR q hn),q];simp⟩
theorem Un.write(mu:Le (H x))(he:e=x\/H e=some (.own x))(k:∀b u,b≠e->h.get? b=some u->h'.get? b=some u)(Ep:∃u,h'.get? e=some u):Un fs ex H (upd H x o) h h':=by
 have hx:∀b,H b=none->b≠x:=fun b n z=>by subst z;rw [n] at mu;exact mu
 have hb:∀b,H b=none->b≠e:=fun b n z=>by
  subst z;rcases he with r | r
  .exact hx b n r
  .rw [n] at r;cases r
 have hm:∀b u,H b=some u->¬Le (some u)->b≠x:=fun b u q nm z=>by subst z;rw [q] at mu;exact nm mu
 refine⟨fun b u q n _ _=>k b u (hb b n) q,fun b u q n _ _=>⟨u.slots,k b u (hb b n) q⟩,fun b u q n _=>by rw[aQ (hx b n)];exact n,fun b u q _=>?_,
  fun b xs q=>by rw[aQ (hm b _ q fun z=>z)];exact q,fun b u xs q=>by rw[aQ (hm b _ q fun z=>z)];exact q,fun b ps q=>⟨#[],by rw[aQ (hm b _ q fun z=>z),q];simp⟩⟩
 by_cases hbe:b=e
 .subst hbe;exact Ep
 .exact⟨u,k b u hbe q⟩
end
def Mi(h:Heap)(H:Hp):List Addr:=(List.range h.objs.size).filter fun a=>(H a).isSome
def vc(h:Heap)(H:Hp):Heap:=PySem.W.hideAll h (Mi h H)
theorem Am(h:Heap)(H:Hp):(vc h H).objs.size=h.objs.size:=PySem.W.hideAll_size _ _
theorem BO{h:Heap}{H:Hp}{b:Addr}{o:Obj}(e:h.get? b=some o)(n:H b=none):(vc h H).get? b=some o:=
 PySem.W.hideAll_get _ e fun hm=>by
  have q:(H b).isSome=true:=(List.mem_filter.mp hm).2;rw[n] at q;simp at q
theorem EO{h:Heap}{H:Hp}{b:Addr}{o:Obj}(e:(vc h H).get? b=some o):h.get? b=some o/\H b=none:=by
 have e':h.get? b=some o:=PySem.W.of_hideAll (Mi h H) e;refine⟨e',?_⟩;cases q:H b with
 | none=>rfl
 | some x=>
   have hm:b∈Mi h H:=List.mem_filter.mpr ⟨List.mem_range.mpr (Heap.lt_size e'),by simp [q]⟩
   have z:(vc h H).get? b=none:=PySem.W.hideAll_none (Mi h H) hm;rw[z] at e;cases e
def EA(g h:Heap)(L:Addr):Um:=(List.range h.objs.size).filterMap fun a=>if a=L\/(g.get? a).isSome=true then none else(h.get? a).map fun o=>(a,o)
def rest(g h:Heap)(L d:Addr):Um:=(EA g h L).filter fun p=>decide (p.1≠d)
structure Mod (K:W.Frag) (mg:Ut) (base:Heap):Prop where
 kin:K.In base
 glob:base.Ns mainGlobals mg
 blt:∃mb,base.Ns builtinsNs mb/\∀x:Str,x≠"__name__"->mb x=bootBuiltins x
 nolimit:base.NoLimit
structure Cx where
 prog:Program
 w:World
 K:W.Frag
 mg:Ut
 base:Heap
 A:Around
 N:List Str
 s₀:Shared
 H₀:Hp
 env:Env
 outer:List Env
 stack:List Env
 ex:List Addr
 fn:Str->Bool
 calm:Bool
 pn:Um
 xe:Uo
def Bg(l:List Env):List Addr:=l.filterMap (·.frame)
abbrev Cx.fs(X:Cx):List Addr:=Bg X.outer
def GN(sc:Scope)(x:Str):Prop:=sc.names.lookup x=some .local\/sc.names.lookup x=some .cell\/sc.names.lookup x=some .free
def Loc(sc:Scope)(x:Str):Prop:=sc.names.lookup x=some .local\/sc.names.lookup x=some .cell
def Look(env:Env)(h:Heap)(m:Ut)(x:Str)(u:Value):Prop:=
 (env.kindOf x=some .local/\m x=some u)\/((env.kindOf x=some .cell\/env.kindOf x=some .free)/\∃c,env.cells.lookup x=some c/\h.IsCell c (some u))
structure Cx.Ok (X:Cx):Prop where
 mod:Mod X.K X.mg X.base
 kind:X.env.scope.kind= .function
 glob:X.env.globals=mainGlobals
 blt:X.env.builtins=builtinsNs
 above:X.s₀.heap.objs.size<=X.env.locals
 inj:∀x y c,X.env.cells.lookup x=some c->X.env.cells.lookup y=some c->x=y
 has:∀x,(X.env.kindOf x=some .cell\/X.env.kindOf x=some .free)->∃c,X.env.cells.lookup x=some c
 cab:∀x c,X.fn x=true->X.env.cells.lookup x=some c->X.s₀.heap.objs.size<=c
 hd:X.calm=true->X.A.handled=none
 frames:X.A.frames=some X.stack
 stk:X.stack=X.outer\/(X.stack=X.env ::X.outer/\X.env.frame=some X.env.locals)
 exf:∀b∈X.ex,b≠X.env.locals/\∀x c,X.env.cells.lookup x=some c->c≠b
 bs:∀b o,X.base.get? b=some o->X.s₀.heap.get? b=some o/\X.H₀ b=none
 bsz:X.base.objs.size<=X.s₀.heap.objs.size
 noex:∀b o,X.base.get? b=some o->b ∉ X.ex
 exfs:∀b∈X.ex,b ∉ X.fs
 pP:X.s₀.heap.FunFrames X.base X.outer
 frf:∀b∈X.fs,X.H₀ b=none
structure Inv (X:Cx) (pins:Um) (σ:List (Option V)) (H:Hp) (s:Shared):Prop where
 ok:X.Ok
 os:s.os=X.s₀.os
 bare:AllBare s.gens
 base:Un X.fs X.ex X.H₀ H X.s₀.heap s.heap
 loc:∃m,s.heap.Ns X.env.locals m/\∀(i:Nat) (x:Str) (v:V),X.N[i]? =some x->σ[i]? =some (some v)->GN X.env.scope x->∃u,RelV v u/\Look X.env s.heap m x u
 cell:∀x c,X.env.cells.lookup x=some c->∃v,s.heap.IsCell c v
 free:H X.env.locals=none
 freeC:∀x c,X.env.cells.lookup x=some c->H c=none
 pin:∀p∈X.pn++pins,s.heap.get? p.1=some p.2/\H p.1=none/\p.1≠X.env.locals/\p.1 ∉ X.fs/\∀v,p.2.data≠ .cell v
 hok:lT X.prog X.w H s.heap
 len:σ.length=X.N.length
section
variable {X:Cx} {pins:Um} {σ:List (Option V)} {H H':Hp} {s:Shared} {h':Heap}
theorem Cx.Ok.Nm(ok:X.Ok){b:Addr}{o:Obj}(e:X.base.get? b=some o):b ∉ X.fs:=fun hb=>by
 have:=(ok.pP.mem hb).1;rw[e] at this;cases this
theorem Inv.bs(I:Inv X pins σ H s):∀b o,X.base.get? b=some o->s.heap.get? b=some o/\H b=none:=fun b o e=>
 ⟨I.base.keep b o (I.ok.bs b o e).1 (I.ok.bs b o e).2 (I.ok.Nm e) (I.ok.noex b o e),I.base.free b o (I.ok.bs b o e).1 (I.ok.bs b o e).2 (I.ok.noex b o e)⟩
theorem Inv.bk(I:Inv X pins σ H s):∀b o,X.base.get? b=some o->s.heap.get? b=some o:=fun b o e=>(I.bs b o e).1
theorem Inv.mod(I:Inv X pins σ H s):Mod X.K X.mg X.base:=I.ok.mod
theorem Inv.n0(I:Inv X pins σ H s):X.K.In s.heap:=I.ok.mod.kin.keeps I.bk
theorem Inv.lt(I:Inv X pins σ H s):X.env.locals < s.heap.objs.size:=let⟨_,hn,_⟩:=I.loc;hn.lt
theorem Inv.sz(I:Inv X pins σ H s):X.s₀.heap.objs.size<=s.heap.objs.size:=Nat.le_trans I.ok.above (Nat.le_of_lt I.lt)
theorem Inv.M3(I:Inv X pins σ H s){a:Addr}(h:s.heap.objs.size<=a):a ∉ X.fs:=fun hb=>by
 obtain⟨_,o,ho,_⟩:=I.ok.pP.mem hb;exact absurd (Nat.lt_of_lt_of_le (Heap.lt_size ho) (Nat.le_trans I.sz h)) (Nat.lt_irrefl _)
theorem Inv.ID(I:Inv X pins σ H s):∀x c,X.env.cells.lookup x=some c->c≠X.env.locals:=fun x c e z=>by
 obtain⟨v,o,ho,hd⟩:=I.cell x c e;obtain⟨m,⟨o',es,ep,D1,Ot,_⟩,_⟩:=I.loc;rw[z,D1] at ho;cases ho;rw [Ot] at hd;cases hd
theorem Inv.pP(I:Inv X pins σ H s):s.heap.FunFrames X.base X.outer:=by
 have all:∀(l:List Env),(∀b∈Bg l,b∈X.fs)->X.s₀.heap.FunFrames X.base l->s.heap.FunFrames X.base l:=by
  intro l
  induction l with
  | nil=>intro _ _;trivial
  | cons env r ih=>
    intro hs hl;obtain⟨hk,⟨L,o,hf,hn,ho,hd⟩,hr⟩:=hl;have hL:L∈X.fs:=hs L (by unfold Bg;rw [List.filterMap_cons,hf];exact List.mem_cons_self)
    obtain⟨sl,e⟩:=I.base.slot L o ho (I.ok.frf L hL) hL fun z=>I.ok.exfs L z hL
    exact⟨hk,⟨L,_,hf,hn,e,hd⟩,ih (fun b hb=>hs b (by unfold Bg;rw [List.filterMap_cons,hf];exact List.mem_cons_of_mem _ hb)) hr⟩
 exact all X.outer (fun _ hb=>hb) I.ok.pP
theorem Inv.stack(I:Inv X pins σ H s):s.heap.FunFrames X.base X.stack:=by
 rcases I.ok.stk with e | ⟨e,hf⟩
 .rw [e];exact I.pP
 .rw [e];obtain⟨m,hn,_⟩:=I.loc;refine .cons (by rw[I.ok.kind];decide) hf hn ?_ I.pP
  exact Heap.get?_none_of_le (Nat.le_trans I.ok.bsz I.ok.above)
theorem Inv.xx(I:Inv X pins σ H s):∀b∈Bg X.stack,b∈X.env.locals ::X.fs:=fun b hb=>by
 rcases I.ok.stk with e | ⟨e,hf⟩
 .rw [e] at hb;exact List.mem_cons_of_mem _ hb
 .rw [e] at hb;unfold Bg at hb;rw[List.filterMap_cons,hf] at hb;exact hb
theorem Inv.zC(I:Inv X pins σ H s):∀b∈Bg X.stack,H b=none:=fun b hb=>by
 rcases List.mem_cons.mp (I.xx b hb) with e | hb
 .rw [e];exact I.free
 .obtain⟨_,o,ho,_⟩:=I.ok.pP.mem hb;exact I.base.free b o ho (I.ok.frf b hb) fun z=>I.ok.exfs b z hb
theorem Inv.step{g':Array GenState}{t':Nat}{d':Drawn}{ch:List Addr}(I:Inv X pins σ H s)
 (Er:∀b∈ch,(b∈X.ex\/X.s₀.heap.objs.size<=b)/\b≠X.env.locals/\(∀x c,X.env.cells.lookup x=some c->c≠b)/\∀p∈X.pn++pins,p.1≠b)
 (keep:∀b o,b≠X.env.locals->b ∉ X.fs->b ∉ ch->s.heap.get? b=some o->H b=none->h'.get? b=some o)
 (slot:∀b o,b≠X.env.locals->b∈X.fs->b ∉ ch->s.heap.get? b=some o->H b=none->∃sl,h'.get? b=some {o with slots:=sl}) (free:∀b o,b ∉ ch->s.heap.get? b=some o->H b=none->H' b=none)
 (there:∀b o,b ∉ ch->s.heap.get? b=some o->∃o',h'.get? b=some o')
 (tups:∀b xs,H b=some (.tup xs)->H' b=some (.tup xs)) (frzs:∀b o u,H b=some (.jf o u)->H' b=some (.jf o u)) (tbls:∀b ps,H b=some (.tbl ps)->∃more,H' b=some (.tbl (ps++more)))
 (ns:∀m,s.heap.Ns X.env.locals m->h'.Ns X.env.locals m) (hok:lT X.prog X.w H' h') (hg:AllBare g') :
 Inv X pins σ H' {s with heap:=h',gens:=g',drawn:=d',toks:=t'}:=by
 have neL:∀b o,X.s₀.heap.get? b=some o->b≠X.env.locals:=fun b o e=>Nat.ne_of_lt (Nat.lt_of_lt_of_le (Heap.lt_size e) I.ok.above)
 have neC:∀b o,X.s₀.heap.get? b=some o->b ∉ X.ex->b ∉ ch:=fun b o e hx hb=>by
  rcases(Er b hb).1 with z | z
  .exact hx z
  .exact absurd (Nat.lt_of_lt_of_le (Heap.lt_size e) z) (Nat.lt_irrefl _)
 have cellK:∀x c,X.env.cells.lookup x=some c->∀v,s.heap.IsCell c v->h'.IsCell c v:=fun x c e v ⟨o,ho,hd⟩=>by
  have nch:c ∉ ch:=fun z=>(Er c z).2.2.1 x c e rfl
  by_cases hc:c∈X.fs
  .obtain⟨sl,q⟩:=slot c o (I.ID x c e) hc nch ho (I.freeC x c e);exact⟨_,q,hd⟩
  .exact⟨o,keep c o (I.ID x c e) hc nch ho (I.freeC x c e),hd⟩
 refine⟨I.ok,I.os,hg,⟨fun b o e n hb hx=>?_,fun b o e n hb hx=>?_,fun b o e n hx=>?_,fun b o e hx=>?_,fun b xs e=>tups b xs (I.base.tups b xs e),fun b o xs e=>frzs b o xs (I.base.frzs b o xs e),fun b ps e=>?_⟩,?_,fun x c e=>?_,?_,fun x c e=>?_,fun p hp=>?_,hok,I.len⟩
 .exact keep b o (neL b o e) hb (neC b o e hx) (I.base.keep b o e n hb hx) (I.base.free b o e n hx)
 .obtain⟨sl,e1⟩:=I.base.slot b o e n hb hx;obtain⟨SX,e2⟩:=slot b _ (neL b o e) hb (neC b o e hx) e1 (I.base.free b o e n hx);exact⟨SX,e2⟩
 .obtain⟨o',e1⟩:=I.base.there b o e hx;exact free b o' (neC b o e hx) e1 (I.base.free b o e n hx)
 .obtain⟨o',e1⟩:=I.base.there b o e hx;exact there b o' (neC b o e hx) e1
 .obtain⟨m1,e1⟩:=I.base.tbls b ps e;obtain⟨m2,e2⟩:=tbls b _ e1;exact⟨m1++m2,by rw[e2,Array.append_assoc]⟩
 .obtain⟨m,hn,hl⟩:=I.loc;refine⟨m,ns m hn,fun i x v e1 e2 e3=>?_⟩
  obtain⟨u,r,l⟩:=hl i x v e1 e2 e3;refine⟨u,r,?_⟩;rcases l with l | ⟨k,c,e,z⟩
  .exact .inl l
  .exact .inr ⟨k,c,e,cellK x c e _ z⟩
 .obtain⟨v,z⟩:=I.cell x c e;exact⟨v,cellK x c e v z⟩
 .obtain⟨m,⟨o,_,_,ho,_⟩,_⟩:=I.loc;exact free _ o (fun z=>(Er _ z).2.1 rfl) ho I.free
 .obtain⟨v,o,ho,hd⟩:=I.cell x c e;exact free c o (fun z=>(Er c z).2.2.1 x c e rfl) ho (I.freeC x c e)
 .obtain⟨e,n,ne,nf,d⟩:=I.pin p hp;have nch:p.1 ∉ ch:=fun z=>(Er p.1 z).2.2.2 p hp rfl
  exact⟨keep p.1 p.2 ne nf nch e n,free p.1 p.2 nch e n,ne,nf,d⟩
theorem Inv.un{t':Nat}(I:Inv X pins σ H s)(u:Un X.fs [] H H' s.heap h')(hok:lT X.prog X.w H' h'):Inv X pins σ H' {s with heap:=h',toks:=t'}:=by
 obtain⟨m,⟨o,es,ep,ho,r⟩,_⟩:=id I.loc;obtain⟨sl,hL⟩:=u.any ho I.free (by simp)
 exact I.step (g':=s.gens) (d':=s.drawn) (ch:=[]) (fun _ z=>nomatch z) (fun b o _ hb _ e n=>u.keep b o e n hb (by simp)) (fun b o _ hb _ e n=>u.slot b o e n hb (by simp)) (fun b o _ e n=>u.free b o e n (by simp)) (fun b o _ e=>u.there b o e (by simp)) u.tups u.frzs u.tbls (fun m' hm=>by
  obtain⟨o',OL,LK,D1,r'⟩:=hm;rw[ho] at D1;cases D1;exact⟨_,OL,LK,hL,r'⟩) hok I.bare
theorem Inv.call{g':Array GenState}{t':Nat}{d':Drawn}{ch:List Addr}(I:Inv X pins σ H s)(u:Un (Bg X.stack) ch H H' s.heap h')(hok:lT X.prog X.w H' h')(hg:AllBare g')
 (Er:∀b∈ch,(b∈X.ex\/X.s₀.heap.objs.size<=b)/\b≠X.env.locals/\(∀x c,X.env.cells.lookup x=some c->c≠b)/\∀p∈X.pn++pins,p.1≠b) :
 Inv X pins σ H' {s with heap:=h',gens:=g',drawn:=d',toks:=t'}:=by
 obtain⟨m,⟨o,es,ep,ho,r⟩,_⟩:=id I.loc;obtain⟨sl,hL⟩:=u.any ho I.free fun z=>(Er _ z).2.1 rfl
 exact I.step (ch:=ch) Er (fun b o hL hb hc e n=>u.keep b o e n (fun z=>(List.mem_cons.mp (I.xx b z)).elim hL hb) hc) (fun b o _ _ hc e n=>u.any e n hc) (fun b o hc e n=>u.free b o e n hc) (fun b o hc e=>u.there b o e hc) u.tups u.frzs u.tbls (fun m' hm=>by
  obtain⟨o',OL,LK,D1,r'⟩:=hm;rw[ho] at D1;cases D1;exact⟨_,OL,LK,hL,r'⟩) hok hg
theorem Inv.turned{t':Nat}{it:Addr}(I:Inv X pins σ H s)(k:∀b o,b≠it->s.heap.get? b=some o->h'.get? b=some o)(hn:H it=none)(hL:it≠X.env.locals)
 (h1:it∈X.ex\/X.s₀.heap.objs.size<=it) (h2:∀x c,X.env.cells.lookup x=some c->c≠it) (h3:∀p∈X.pn++pins,p.1≠it):Inv X pins σ H {s with heap:=h',toks:=t'}:=by
 have nit:∀b u,H b=some u->b≠it:=fun b u e z=>by rw[z,hn] at e;cases e
 refine I.step (g':=s.gens) (d':=s.drawn) (ch:=[it]) (fun b hb=>?_) (fun b o _ _ hc e _=>k b o (fun z=>hc (by simp [z])) e) (fun b o _ _ hc e _=>⟨o.slots,k b o (fun z=>hc (by simp [z])) e⟩) (fun _ _ _ _ n=>n)
  (fun b o hc e=>⟨o,k b o (fun z=>hc (by simp [z])) e⟩) (fun _ _ e=>e) (fun _ _ _ e=>e) (fun b ps e=>⟨#[],by rw[e];simp⟩) (fun m hm=>?_) (fun b u e=>?_) I.bare
 .have e:b=it:=by simpa using hb
  subst e;exact⟨h1,hL,h2,h3⟩
 .obtain⟨o,es,ep,ho,r⟩:=hm;exact⟨o,es,ep,k _ o (Ne.symm hL) ho,r⟩
 .refine(I.hok b u e).ui (fun c v hc q=>k c v ?_ q) (fun _ q=>q) fun _ _ q=>q
  rcases hc with z | z
  .rw [z];exact nit b u e
  .exact nit c _ z
theorem Inv.tok(I:Inv X pins σ H s)(t:Nat):Inv X pins σ H {s with toks:=t}:=I.un (h':=s.heap) (t':=t) Un.refl I.hok
theorem Inv.kept{t':Nat}(I:Inv X pins σ H s)(k:∀b u,s.heap.get? b=some u->h'.get? b=some u):Inv X pins σ H {s with heap:=h',toks:=t'}:=I.un (Un.kept k) (I.hok.kept k)
theorem Inv.laid{a:Addr}{o:HO}{t':Nat}(I:Inv X pins σ H s)(k:∀b u,s.heap.get? b=some u->h'.get? b=some u)(hp:s.heap.objs.size<=a)(new:cY X.prog X.w (upd H a o) h' a o) :
 Inv X pins σ (upd H a o) {s with heap:=h',toks:=t'}:=I.un (Un.laid k hp (I.hok.fresh hp)) (I.hok.laid k hp new)
theorem Inv.write{x e:Addr}{o:HO}{t':Nat}(I:Inv X pins σ H s)(mu:Le (H x))(he:e=x\/H e=some (.own x))(k:∀b u,b≠e->s.heap.get? b=some u->h'.get? b=some u)(Ep:∃u,h'.get? e=some u)
 (new:cY X.prog X.w (upd H x o) h' x o):Inv X pins σ (upd H x o) {s with heap:=h',toks:=t'}:=I.un (Un.write mu he k Ep) (I.hok.write mu he k Ep new)
theorem Inv.zt{Hl:Um}(I:Inv X pins σ H s)(h:∀p∈Hl,s.heap.get? p.1=some p.2/\H p.1=none/\p.1≠X.env.locals/\p.1 ∉ X.fs/\∀v,p.2.data≠ .cell v):Inv X Hl σ H s:=
 ⟨I.ok,I.os,I.bare,I.base,I.loc,I.cell,I.free,I.freeC,fun p hp=>(List.mem_append.mp hp).elim (fun z=>I.pin p (List.mem_append_left _ z)) (h p),I.hok,I.len⟩
theorem xf{N:List Str}(hN:N.Nodup){i j:Nat}(a:N[i]? =some x)(b:N[j]? =some x):i=j:=by
 obtain⟨h1,e1⟩:=List.getElem?_eq_some_iff.mp a;obtain⟨h2,e2⟩:=List.getElem?_eq_some_iff.mp b;exact(List.getElem_inj hN).mp (e1.trans e2.symm)
theorem sO{M:Model}{A:Around}{E:Uo}{i:Nat}{x:Str}{v:V}{u:Value}{Q:Unit->Shared->Prop}(I:Inv X pins σ H s)(hN:X.N.Nodup)(hi:X.N[i]? =some x)(hx:Loc X.env.scope x)(r:RelV v u)
 (h:∀s',Inv X pins (σ.set i (some v)) H s'->(∃a,Heap.SameBut a s.heap s'.heap/\(a=X.env.locals\/X.env.cells.lookup x=some a))->Q () s') (hf:X.fn x=true\/X.env.scope.names.lookup x=some .local:=by first | exact .inl rfl | exact .inr rfl | assumption):wpAny M A (storeName X.env x u) Q E s:=by
 obtain⟨m,hn,hl⟩:=id I.loc;have hcls:(X.env.scope.kind== .class || (X.env.scope.kind== .module && X.env.locals !=X.env.globals))=false:=by rw[I.ok.kind];rfl
 have hiσ:i < σ.length:=by rw[I.len];exact(List.getElem?_eq_some_iff.mp hi).1
 have ID:=I.ID;have tracked:∀{a:Addr} {h':Heap},(∃o,s.heap.get? a=some o/\H a=none)->Heap.SameBut a s.heap h'->lT X.prog X.w H h':=fun {a h'} ha hs b ob e=>by
  obtain⟨_,_,hfree⟩:=ha;refine(I.hok b ob e).ui (fun c w' hc q=>(hs.2 c ?_).trans q) (fun _ q=>q) fun _ _ q=>q
  rintro rfl;rcases hc with rfl | hc
  .rw [hfree] at e;cases e
  .rw [hfree] at hc;cases hc
 rcases hx with hk | hk
 .refine wpAny_storeName_local hk hn (fun h' OB hs=>?_) hcls
  obtain⟨oL,_,_,hoL,_⟩:=id hn;refine h _ ⟨I.ok,I.os,I.bare,⟨fun b o e n hb hx=>?_,fun b o e n hb hx=>?_,I.base.free,fun b o e hx=>?_,I.base.tups,I.base.frzs,I.base.tbls⟩,⟨_,OB,fun j y v' e1 e2 e3=>?_⟩,fun y c e=>?_,I.free,I.freeC,fun p hp=>?_,tracked ⟨oL,hoL,I.free⟩ hs,by simpa using I.len⟩ ⟨_,hs, .inl rfl⟩
  .exact(hs.2 b (Nat.ne_of_lt (Nat.lt_of_lt_of_le (Heap.lt_size e) I.ok.above))).trans (I.base.keep b o e n hb hx)
  .obtain⟨sl,e1⟩:=I.base.slot b o e n hb hx;exact⟨sl,(hs.2 b (Nat.ne_of_lt (Nat.lt_of_lt_of_le (Heap.lt_size e) I.ok.above))).trans e1⟩
  .obtain⟨o',e1⟩:=I.base.there b o e hx;exact⟨o',(hs.2 b (Nat.ne_of_lt (Nat.lt_of_lt_of_le (Heap.lt_size e) I.ok.above))).trans e1⟩
  .by_cases hj:j=i
   .subst hj;rw[hi] at e1;cases e1;rw[List.getElem?_set_self hiσ] at e2;cases e2;exact⟨u,r, .inl ⟨hk,by simp⟩⟩
   .rw [List.getElem?_set_ne (Ne.symm hj)] at e2;obtain⟨u',r',q⟩:=hl j y v' e1 e2 e3;refine⟨u',r',?_⟩;rcases q with⟨k,e⟩ | ⟨k,c,e,z⟩
    .refine .inl ⟨k,?_⟩;have:y≠x:=fun e=>hj (xf hN e1 (e▸hi))
     simp [this,e]
    .exact .inr ⟨k,c,e,z.sameBut hs (ID y c e)⟩
  .obtain⟨w',z⟩:=I.cell y c e;exact⟨w',z.sameBut hs (ID y c e)⟩
  .obtain⟨e,n,ne,nf,d⟩:=I.pin p hp;exact⟨(hs.2 p.1 ne).trans e,n,ne,nf,d⟩
 .have hfn:X.fn x=true:=by
   rcases hf with z | z
   .exact z
   .rw [z] at hk;cases hk
  obtain⟨c,hc⟩:=I.ok.has x (.inl hk);obtain⟨w',z⟩:=I.cell x c hc;refine wpAny_storeName_cell I.ok.kind hk hc z (fun h' Bj hs=>?_)
  obtain⟨oc,hoc,hocd⟩:=id z;refine h {s with heap:=h'} ⟨I.ok,I.os,I.bare,⟨fun b o e n hb hx=>?_,fun b o e n hb hx=>?_,I.base.free,fun b o e hx=>?_,I.base.tups,I.base.frzs,I.base.tbls⟩,⟨m,hn.sameBut hs (Ne.symm (ID x c hc)),fun j y v' e1 e2 e3=>?_⟩,fun y c' e=>?_,I.free,I.freeC,fun p hp=>?_,tracked ⟨oc,hoc,I.freeC x c hc⟩ hs,by simpa using I.len⟩ ⟨c,hs, .inr hc⟩
  .exact(hs.2 b (Nat.ne_of_lt (Nat.lt_of_lt_of_le (Heap.lt_size e) (I.ok.cab x c hfn hc)))).trans (I.base.keep b o e n hb hx)
  .obtain⟨sl,e1⟩:=I.base.slot b o e n hb hx;exact⟨sl,(hs.2 b (Nat.ne_of_lt (Nat.lt_of_lt_of_le (Heap.lt_size e) (I.ok.cab x c hfn hc)))).trans e1⟩
  .obtain⟨o',e1⟩:=I.base.there b o e hx;exact⟨o',(hs.2 b (Nat.ne_of_lt (Nat.lt_of_lt_of_le (Heap.lt_size e) (I.ok.cab x c hfn hc)))).trans e1⟩
  .by_cases hj:j=i
   .subst hj;rw[hi] at e1;cases e1;rw[List.getElem?_set_self hiσ] at e2;cases e2;exact⟨u,r, .inr ⟨.inl hk,c,hc,Bj⟩⟩
   .rw [List.getElem?_set_ne (Ne.symm hj)] at e2;obtain⟨u',r',q⟩:=hl j y v' e1 e2 e3;refine⟨u',r',?_⟩;rcases q with q | ⟨k,c',e,z'⟩
    .exact .inl q
    .refine .inr ⟨k,c',e,z'.sameBut hs ?_⟩;rintro rfl;exact hj (xf hN e1 (I.ok.inj _ _ _ e hc▸hi))
  .by_cases hcc:c'=c
   .subst hcc;exact⟨_,Bj⟩
   .obtain⟨w2,z2⟩:=I.cell y c' e;exact⟨w2,z2.sameBut hs hcc⟩
  .obtain⟨e,n,ne,nf,d⟩:=I.pin p hp;refine⟨(hs.2 p.1 ?_).trans e,n,ne,nf,d⟩;intro q;rw[q,hoc] at e;have q':oc=p.2:=Option.some.inj e;exact d w' (by rw[<-q'];exact hocd)
theorem wO{M:Model}{A:Around}{E:Uo}{i:Nat}{x:Str}{v:V}{u:Value}{Q:Unit->Shared->Prop}(I:Inv X pins σ H s)(hN:X.N.Nodup)(hi:X.N[i]? =some x)(hx:Loc X.env.scope x)(r:RelV v u)
 (h:∀s',Inv X pins (σ.set i (some v)) H s'->Q () s') (hf:X.fn x=true\/X.env.scope.names.lookup x=some .local:=by first | exact .inl rfl | exact .inr rfl | assumption):wpAny M A (storeName X.env x u) Q E s:=
 sO I hN hi hx r (fun s' I' _=>h s' I') hf
theorem Inv.Lj{s':Shared}{ch:List Addr}(I:Inv X pins σ H s)(ho:s'.os=s.os)(u:Un (Bg X.stack) ch H H' s.heap s'.heap)(hok:lT X.prog X.w H' s'.heap)(hg:AllBare s'.gens)
 (Er:∀b∈ch,(b∈X.ex\/X.s₀.heap.objs.size<=b)/\b≠X.env.locals/\(∀x c,X.env.cells.lookup x=some c->c≠b)/\∀p∈X.pn++pins,p.1≠b):Inv X pins σ H' s':=by
 obtain⟨h',g',d',t',o'⟩:=s';have e:o'=s.os:=ho;subst e;exact I.call (g':=g') (t':=t') (d':=d') u hok hg Er
end
abbrev XK:=Value->Option Addr->Hp->Prop
abbrev St:=List (Option V)
abbrev VK:=V->Hp->Prop
abbrev TE:=St->Hp->VK->Prop
abbrev TT:=St->Hp->(Bool->Hp->Prop)->Prop
abbrev TA:=St->Hp->(List V->Hp->Prop)->Prop
structure Ends where
 nx:St->Hp->Prop
 rt:VK
 bk:St->Hp->Prop:=fun _ _=>False
 ct:St->Hp->Prop:=fun _ _=>False
abbrev TS:=Ends->St->Hp->Prop
def EP(X:Cx)(pins:Um)(σ:St)(Q:VK)(u:Value)(s':Shared):Prop:=∃v H',Inv X pins σ H' s'/\RelV v u/\Q v H'
def TP(X:Cx)(pins:Um)(σ:St)(Q:Bool->Hp->Prop)(b:Bool)(s':Shared):Prop:=∃H',Inv X pins σ H' s'/\Q b H'
def AP(X:Cx)(pins:Um)(σ:St)(Q:List V->Hp->Prop)(us:List Value)(s':Shared):Prop:=∃vs H',Inv X pins σ H' s'/\Vals vs us/\Q vs H'
def SP(X:Cx)(pins:Um)(D:Ends)(f:Flow)(s':Shared):Prop:=
 match f with
 | .next=>∃cj H',Inv X pins cj H' s'/\D.nx cj H'
 | .brk=>∃cj H',Inv X pins cj H' s'/\D.bk cj H'
 | .cont=>∃cj H',Inv X pins cj H' s'/\D.ct cj H'
 | .ret u=>∃v cj H',Inv X pins cj H' s'/\RelV v u/\D.rt v H'
def PE(X:Cx)(e:Expr)(t:TE):Prop:=
 ∀(pins:Um) (s:Shared) (σ:St) (H:Hp) (Q:VK),Inv X pins σ H s->t σ H Q->wpAny (model X.prog X.w) X.A (eval e X.env) (EP X pins σ Q) X.xe s
def PT(X:Cx)(e:Expr)(t:TT):Prop:=
 ∀(pins:Um) (s:Shared) (σ:St) (H:Hp) (Q:Bool->Hp->Prop),Inv X pins σ H s->t σ H Q->wpAny (model X.prog X.w) X.A (isTrue e X.env (eval e X.env)) (TP X pins σ Q) X.xe s
def PW(X:Cx)(e:Expr)(t:TT):Prop:=
 ∀(whole:Sem Value) (pins:Um) (s:Shared) (σ:St) (H:Hp) (Q:Bool->Hp->Prop),Inv X pins σ H s->t σ H Q->wpAny (model X.prog X.w) X.A (isTrue e X.env whole) (TP X pins σ Q) X.xe s
theorem PW.pt{X:Cx}{t:TT}(h:PW X e t):PT X e t:=h _
def PA(X:Cx)(es:List Expr)(t:TA):Prop:=
 ∀(pos:Pos) (pins:Um) (s:Shared) (σ:St) (H:Hp) (Q:List V->Hp->Prop),Inv X pins σ H s->t σ H Q->wpAny (model X.prog X.w) X.A (spliced (backTo pos (starEach es X.env))) (AP X pins σ Q) X.xe s
def PS(X:Cx)(st:Stmt)(t:TS):Prop:=
 ∀(pins:Um) (s:Shared) (σ:St) (H:Hp) (D:Ends),Inv X pins σ H s->t D σ H->wpAny (model X.prog X.w) X.A (exec st X.env) (SP X pins D) X.xe s
def uT(X:Cx)(st:List Stmt)(t:TS):Prop:=
 ∀(pins:Um) (s:Shared) (σ:St) (H:Hp) (D:Ends),Inv X pins σ H s->t D σ H->wpAny (model X.prog X.w) X.A (execs st X.env) (SP X pins D) X.xe s
theorem du{α:Type}{t:Sem α}{Q Q':α->Shared->Prop}{M:Model}{E:Uo}{s:Shared}(h:wpAny M A t Q E s)(hQ:∀a s,Q a s->Q' a s):wpAny M A t Q' E s:=wpAny_mono h hQ fun _ _ x=>x
section
variable {X:Cx}
def MK(i:Nat):TE:=fun σ H Q=>∃v,σ[i]? =some (some v)/\Q v H
def tC(v:V):TE:=fun _ H Q=>Q v H
theorem uJ{i:Nat}{pos:Pos}(hN:X.N[i]? =some x)(hv:GN X.env.scope x)(hd:(x==("__debug__":Str))=false:=by decide)(sN:(x==("__classdict__":Str))=false:=by decide):PE X (.Name x pos) (MK i):=by
 intro pins s σ H Q I h;obtain⟨v,e,h⟩:=h;obtain⟨m,hn,hl⟩:=I.loc;obtain⟨u,r,l⟩:=hl i x v hN e hv;have fin:EP X pins σ Q u s:=⟨v,H,I,r,h⟩;rcases l with⟨hk,hm⟩ | ⟨hk,c,hc,hcell⟩
 .exact wpAny_Name (wpAny_loadName_local I.ok.kind hk hn hm fin) hd
 .rcases hk with hk | hk
  .exact wpAny_Name (wpAny_loadName_cell I.ok.kind hk hc hcell fin) hd
  .exact wpAny_Name (wpAny_loadName_free I.ok.kind hk hc hcell fin sN) hd
theorem IZ{i j pos}:PE X (.Constant (.int i) j pos) (tC (.int i)):=fun _ _ _ H _ I h=>wpAny_Constant_int ⟨.int i,H,I.tok _,⟨_,rfl⟩,h⟩
theorem Lz{b j pos}:PE X (.Constant (.bool b) j pos) (tC (.bl b)):=fun _ _ _ H _ I h=>Constant_bool ⟨.bl b,H,I,rfl,h⟩
theorem Ho{j pos}:PE X (.Constant .none j pos) (tC .bQ):=fun _ _ _ H _ I h=>Constant_none ⟨.bQ,H,I,rfl,h⟩
theorem HJ{x j pos}:PE X (.Constant (.str x) j pos) (tC (.str x)):=fun _ _ _ H _ I h=>Calls.Constant_str ⟨.str x,H,I.tok _,⟨_,rfl⟩,h⟩
def Gl(X:Cx)(x:Str):Prop:=X.env.kindOf x=some .globalImplicit
theorem yV{E:Uo}{pins:Um}{s:Shared}{σ:St}{H:Hp}{x:Str}{u:Value}{pos:Pos}{Q:Uo}(I:Inv X pins σ H s)(hg:Gl X x)(hm:X.mg x=some u)(h:Q u s)
 (hd:(x==("__debug__":Str))=false:=by decide):wpAny (model X.prog X.w) X.A (eval (.Name x pos) X.env) Q E s:=
 Calls.Name_function_global I.ok.kind hg (Calls.loadGlobal_global (by rw[I.ok.glob];exact I.mod.glob.keeps I.bk) hm h) hd
theorem ji{E:Uo}{pins:Um}{s:Shared}{σ:St}{H:Hp}{x:Str}{u:Value}{pos:Pos}{Q:Uo}(I:Inv X pins σ H s)(hg:Gl X x)(hm:X.mg x=none)(hv:bootBuiltins x=some u)(h:Q u s)
 (hn:x≠"__name__":=by decide) (hd:(x==("__debug__":Str))=false:=by decide):wpAny (model X.prog X.w) X.A (eval (.Name x pos) X.env) Q E s:=by
 obtain⟨mb,h1,h2⟩:=I.mod.blt;exact Calls.Name_function_global I.ok.kind hg (Calls.loadGlobal_builtin (by rw[I.ok.glob];exact I.mod.glob.keeps I.bk) hm (by rw[I.ok.blt];exact h1.keeps I.bk) ((h2 x hn).trans hv) h) hd
theorem FV{v:V}{u:Value}{pos:Pos}(hg:Gl X x)(hm:X.mg x=none)(hv:bootBuiltins x=some u)(r:RelV v u)(hn:x≠"__name__":=by decide)(hd:(x==("__debug__":Str))=false:=by decide):PE X (.Name x pos) (tC v):=
 fun _ _ _ H _ I h=>ji I hg hm hv ⟨v,H,I,r,h⟩ hn hd
def Mo(ta tb:TE)(k:Int->Int->Hp->Prop):St->Hp->Prop:=fun σ H=>ta σ H fun x H1=>tb σ H1 fun y H2=>∃i j,x= .int i/\y= .int j/\k i j H2
def Q5(ta tb:TE):TE:=fun σ H Q=>Mo ta tb (fun i j H2=>Q (.int (i+j)) H2) σ H
def Q_(ta tb:TE):TE:=fun σ H Q=>Mo ta tb (fun i j H2=>Q (.int (i - j)) H2) σ H
def Qj(ta tb:TE):TE:=fun σ H Q=>Mo ta tb (fun i j H2=>(-(2 ^ 64) < i/\i < 2 ^ 64)/\Q (.int (i*j)) H2) σ H
variable {a b:Expr} {ta tb:TE} {pos:Pos}
def PC(X:Cx)(op:CmpOp)(a b:Expr)(t:TE):Prop:=
 ∀(pins:Um) (s:Shared) (σ:St) (H:Hp) (Q:VK),Inv X pins σ H s->t σ H Q->
  wpAny (model X.prog X.w) X.A (eval a X.env) (fun v s₁=>wpAny (model X.prog X.w) X.A (eval b X.env) (fun u JL=>wpAny (model X.prog X.w) X.A (compareOp op v u) (EP X pins σ Q) X.xe JL) X.xe s₁) X.xe s
def A8(p:Int->Int->Bool)(ta tb:TE):TE:=fun σ H Q=>Mo ta tb (fun i j H2=>Q (.bl (p i j)) H2) σ H
abbrev TM:TE->TE->TE:=A8 fun i j=>decide (i < j)
abbrev Tv:TE->TE->TE:=A8 fun i j=>decide (i<=j)
abbrev Tz:TE->TE->TE:=A8 fun i j=>decide (j < i)
abbrev TR:TE->TE->TE:=A8 fun i j=>decide (j<=i)
abbrev Qp:TE->TE->TE:=A8 fun i j=>decide (i=j)
abbrev QU:TE->TE->TE:=A8 fun i j=>!decide (i=j)
def Qg(ta:TE):TE:=fun σ H Q=>ta σ H fun x H1=>Q (.bl (decide (x= .bQ))) H1
def Py(ta:TE):TE:=fun σ H Q=>ta σ H fun x H1=>Q (.bl (!decide (x= .bQ))) H1
def tB(t:TE):TT:=fun σ H Q=>t σ H fun x H1=>∃c,x= .bl c/\Q c H1
theorem HL{op:CmpOp}{t:TE}(h:PC X op a b t)(h1:behindInMarks op b=false:=by first | exact nobehind _ (by decide) (by decide) | rfl):PE X (.Compare a [op] [b] pos) t:=fun pins s σ H Q I hw=>wpAny_Compare1 (h pins s σ H Q I hw) h1
variable {tA ME:TT} {rest:List Expr}
def MU(t u:TT):TT:=fun σ H Q=>t σ H fun c H1=>if c=true then u σ H1 Q else Q false H1
def Q2(t u:TT):TT:=fun σ H Q=>t σ H fun c H1=>if c=true then Q true H1 else u σ H1 Q
def M4(t:TT):TT:=fun σ H Q=>t σ H fun c H1=>Q (!c) H1
theorem EH(ha:PT X a tA):PW X (.BoolOp .And [a] pos) tA:=by
 intro wh pins s σ H Q I h;refine isTrue_and (du (ha pins s σ H Q I h) fun c s1 e=>?_)
 cases c with
 | true=>exact isTrue_and_nil e
 | false=>exact e
theorem IW(ha:PT X a tA):PW X (.BoolOp .Or [a] pos) tA:=by
 intro wh pins s σ H Q I h;refine isTrue_or (du (ha pins s σ H Q I h) fun c s1 e=>?_)
 cases c with
 | false=>exact isTrue_or_nil e
 | true=>exact e
theorem IX(ha:PT X a tA)(hb:PW X (.BoolOp .And (b ::rest) pos) ME):PW X (.BoolOp .And (a ::b ::rest) pos) (MU tA ME):=by
 intro wh pins s σ H Q I h;refine isTrue_and (du (ha pins s σ H _ I h) fun c s1 ⟨H1,I1,q1⟩=>?_)
 cases c with
 | true=>exact hb wh pins s1 σ H1 Q I1 q1
 | false=>exact⟨H1,I1,q1⟩
theorem La(ha:PT X a tA)(hb:PW X (.BoolOp .Or (b ::rest) pos) ME):PW X (.BoolOp .Or (a ::b ::rest) pos) (Q2 tA ME):=by
 intro wh pins s σ H Q I h;refine isTrue_or (du (ha pins s σ H _ I h) fun c s1 ⟨H1,I1,q1⟩=>?_)
 cases c with
 | true=>exact⟨H1,I1,q1⟩
 | false=>exact hb wh pins s1 σ H1 Q I1 q1
theorem CG(ha:PT X a tA):PT X (.UnaryOp .Not a pos) (M4 tA):=by
 intro pins s σ H Q I h;exact isTrue_not (ha pins s σ H (fun c H1=>Q (!c) H1) I h)
def OY(ta tb:TE):TE:=fun σ H Q=>ta σ H fun x H1=>∃c,x= .bl c/\if c=true then tb σ H1 Q else Q (.bl false) H1
def Rf(ta tb:TE):TE:=fun σ H Q=>ta σ H fun x H1=>∃c,x= .bl c/\if c=true then Q (.bl true) H1 else tb σ H1 Q
def Pe(ta:TE):TE:=fun σ H Q=>ta σ H fun x H1=>∃c,x= .bl c/\Q (.bl (!c)) H1
def Rz(t:TT)(ta tb:TE):TE:=fun σ H Q=>t σ H fun c H1=>if c=true then ta σ H1 Q else tb σ H1 Q
theorem Cr(hc:PT X c tA)(ha:PE X a ta)(hb:PE X b tb):PE X (.IfExp c a b pos) (Rz tA ta tb):=by
 intro pins s σ H Q I h;refine wpAny_IfExp (du (hc pins s σ H _ I h) fun d s1 ⟨H1,I1,q1⟩=>?_)
 cases d with
 | true=>exact ha pins s1 σ H1 Q I1 q1
 | false=>exact hb pins s1 σ H1 Q I1 q1
end
def mZ(K:W.Frag)(H:Hp)(a:Addr)(xs:List V):Prop:=
 Rd H a (.lst xs)\/
  ∃(o:Obj) (its:Array Value) (n:Nat),K.lookup a=some o/\o.cls= .type "list"/\o.dict=none/\o.data= .seq its n/\its.size<=sizeLine/\Vals xs its.toList
def pB(K:W.Frag)(H:Hp)(a:Addr)(xs:List V):Prop:=
 Rd H a (.tup xs)\/
  ∃(o:Obj) (its:Array Value) (n:Nat),K.lookup a=some o/\o.cls= .type "tuple"/\o.data= .seq its n/\its.size<=sizeLine/\Vals xs its.toList
def NL:Value->Option V
 | .none=>some .bQ
 | .bool b=>some (.bl b)
 | .int i _=>some (.int i)
 | .str x _=>some (.str x)
 | .bytes b _=>some (.byt b)
 | .float b _=>some (.flt b)
 | .ref a=>some (.ref a)
 | .type n=>some (.ty n)
 | _=>none
theorem RelV.abs{x:V}{u:Value}(r:RelV x u):NL u=some x:=by
 cases x with
 | bQ=>cases r;rfl
 | bl _=>cases r;rfl
 | int _=>obtain⟨t,rfl⟩:=r;rfl
 | str _=>obtain⟨t,rfl⟩:=r;rfl
 | byt _=>obtain⟨t,rfl⟩:=r;rfl
 | flt _=>obtain⟨t,rfl⟩:=r;rfl
 | ref _=>cases r;rfl
 | ty _=>cases r;rfl
theorem RelV.inj{x y:V}{u:Value}(r:RelV x u)(q:RelV y u):x=y:=Option.some.inj (r.abs.symm.trans q.abs)
theorem Vals.inj:∀{xs ys:List V} {us:List Value},Vals xs us->Vals ys us->xs=ys
 | _,_,_, .nil, .nil=>rfl
 | _,_,_, .cons r t, .cons r' t'=>by rw[r.inj r',Vals.inj t t']
section
variable {X:Cx} {pins:Um} {σ:St} {H:Hp} {s:Shared} {a:Addr} {xs ys:List V}
theorem mZ.of{K:W.Frag}(h:H a=some (.lst xs)):mZ K H a xs:= .inl (.inl h)
theorem Inv.list(I:Inv X pins σ H s)(h:mZ X.K H a xs):∃its:List Value,Vals xs its/\PlainL s.heap a its.toArray/\xs.length<=sizeLine:=by
 rcases h with h | ⟨o,its,n,hk,hc,hd,hs,hz,r⟩
 .obtain⟨z,its,n,r,e⟩:=h.ok I.hok;exact⟨its,r,⟨_,n,e,rfl,rfl,rfl⟩,z⟩
 .refine⟨its.toList,r,⟨o,n,I.n0 a o hk,hc,hd,by simpa using hs⟩,?_⟩
  have e:=r.length;simp only[Array.length_toList] at e;omega
theorem Inv.tuple(I:Inv X pins σ H s)(h:pB X.K H a xs):∃its:List Value,Vals xs its/\IsTup s.heap a its.toArray/\xs.length<=sizeLine:=by
 rcases h with h | ⟨o,its,n,hk,hc,hs,hz,r⟩
 .obtain⟨z,its,r,p⟩:=h.ok I.hok;exact⟨its,r,p,z⟩
 .refine⟨its.toList,r,⟨o,I.n0 a o hk,hc,n,by simpa using hs⟩,?_⟩
  have e:=r.length;simp only[Array.length_toList] at e;omega
theorem Inv.m8(I:Inv X pins σ H s)(h:mZ X.K H a xs)(h':mZ X.K H a ys):xs=ys:=by
 obtain⟨its,r,⟨o,n,e,_,_,d⟩,_⟩:=I.list h;obtain⟨its',r',⟨o',n',e',_,_,d'⟩,_⟩:=I.list h';rw[e] at e';cases e';rw[d] at d';injection d' with d1 _
 have:its=its':=by simpa using congrArg Array.toList d1
 subst this;exact r.inj r'
theorem Inv.nX(I:Inv X pins σ H s)(h:pB X.K H a xs)(h':pB X.K H a ys):xs=ys:=by
 obtain⟨its,r,⟨o,e,_,n,d⟩,_⟩:=I.tuple h;obtain⟨its',r',⟨o',e',_,n',d'⟩,_⟩:=I.tuple h';rw[e] at e';cases e';rw[d] at d';injection d' with d1 _
 have:its=its':=by simpa using congrArg Array.toList d1
 subst this;exact r.inj r'
end
abbrev Cx.sj(X:Cx)(E:Uo):Cx:={X with xe:=E}
abbrev Cx.F6(X:Cx):Cx:=X.sj fun _ _=>False
theorem Cx.Ok.sj{X:Cx}(ok:X.Ok)(E:Uo):(X.sj E).Ok:=
 ⟨ok.mod,ok.kind,ok.glob,ok.blt,ok.above,ok.inj,ok.has,ok.cab,ok.hd,ok.frames,ok.stk,ok.exf,ok.bs,ok.bsz,ok.noex,ok.exfs,ok.pP,ok.frf⟩
theorem Cx.Ok.lA{X:Cx}{E:Uo}(ok:(X.sj E).Ok):X.Ok:=
 ⟨ok.mod,ok.kind,ok.glob,ok.blt,ok.above,ok.inj,ok.has,ok.cab,ok.hd,ok.frames,ok.stk,ok.exf,ok.bs,ok.bsz,ok.noex,ok.exfs,ok.pP,ok.frf⟩
section
variable {X:Cx} {pins:Um} {σ:St} {H:Hp} {s:Shared} {E:Uo}
theorem Inv.sj(I:Inv X pins σ H s)(E:Uo):Inv (X.sj E) pins σ H s:=⟨I.ok.sj E,I.os,I.bare,I.base,I.loc,I.cell,I.free,I.freeC,I.pin,I.hok,I.len⟩
theorem Inv.lA(I:Inv (X.sj E) pins σ H s):Inv X pins σ H s:=⟨I.ok.lA,I.os,I.bare,I.base,I.loc,I.cell,I.free,I.freeC,I.pin,I.hok,I.len⟩
theorem SP.lA{D:Ends}{f:Flow}{s':Shared}(h:SP (X.sj E) pins D f s'):SP X pins D f s':=by
 cases f with
 | next=>obtain⟨cj,H',I,q⟩:=h;exact⟨cj,H',I.lA,q⟩
 | brk=>obtain⟨cj,H',I,q⟩:=h;exact⟨cj,H',I.lA,q⟩
 | cont=>obtain⟨cj,H',I,q⟩:=h;exact⟨cj,H',I.lA,q⟩
 | ret u=>obtain⟨v,cj,H',I,r,q⟩:=h;exact⟨v,cj,H',I.lA,r,q⟩
theorem uT.F6{st:List Stmt}{t:TS}(h:uT X.F6 st t):uT X st t:=fun pins s σ H D I hw=>
 wpAny_mono (h pins s σ H D (I.sj _) hw) (fun _ _ q=>q.lA) fun _ _ z=>False.elim z
end
section
variable {X:Cx} {st:Stmt} {rest:List Stmt} {t u:TS} {e:Expr} {te:TE} {pos:Pos}
def Lo:TS:=fun D σ H=>D.nx σ H
def KY(t u:TS):TS:=fun D σ H=>t {D with nx:=u D} σ H
theorem vb:uT X [] Lo:=fun _ _ σ H _ I h=>wpAny_execs_nil ⟨σ,H,I,h⟩
theorem rN(h1:PS X st t)(h2:uT X rest u):uT X (st ::rest) (KY t u):=by
 intro pins s σ H D I h;refine wpAny_execs_cons (du (h1 pins s σ H {D with nx:=u D} I h) fun f s1 q=>?_)
 cases f with
 | next=>
   obtain⟨cj,H',I',q⟩:=q;exact h2 pins s1 cj H' D I' q
 | ret v=>exact q
 | brk=>exact q
 | cont=>exact q
theorem u_(h1:PS X st t):uT X [st] t:=by
 intro pins s σ H D I h;refine wpAny_execs_cons (du (h1 pins s σ H D I h) fun f s1 q=>?_)
 cases f with
 | next=>exact wpAny_execs_nil q
 | ret v=>exact q
 | brk=>exact q
 | cont=>exact q
def Nk:TS:=fun D σ H=>D.bk σ H
def Lg:TS:=fun D σ H=>D.ct σ H
theorem we:PS X (.Continue pos) Lg:=fun _ _ σ H _ I h=>wpAny_Continue ⟨σ,H,I,h⟩
theorem Inv.quiet{pins:Um}{s:Shared}(I:Inv X pins σ H s):interactive X.env=false:=by simp [interactive,I.ok.kind]
def KG(te:TE):TS:=fun D σ H=>te σ H fun _ H1=>D.nx σ H1
theorem zB(he:PE X e te)(hs:swapsWith e none pos.line X.env=pure false:=by rfl):PS X (.Expr e pos) (KG te):=by
 intro pins s σ H D I h;exact wpAny_Expr_any (du (he pins s σ H _ I h) fun v s1 ⟨x,H1,I1,r1,q1⟩=>⟨σ,H1,I1,q1⟩) I.quiet hs
def Nl(te:TE):TS:=fun D σ H=>te σ H D.rt
theorem C8(he:PE X e te):PS X (.Return (some e) pos) (Nl te):=by
 intro pins s σ H D I h;exact wpAny_Return_some (du (he pins s σ H _ I h) fun v s1 ⟨x,H1,I1,r1,q1⟩=>⟨x,σ,H1,I1,r1,q1⟩)
def O2:TS:=fun D _ H=>D.rt .bQ H
def Nu(c:TT)(t u:TS):TS:=fun D σ H=>c σ H fun b H1=>if b=true then t D σ H1 else u D σ H1
theorem Dv{tc:TT}(hc:PT X c tc)(ha:uT X a t)(hb:uT X b u):PS X (.If c a b pos) (Nu tc t u):=by
 intro pins s σ H D I h;refine wpAny_If (du (hc pins s σ H _ I h) fun d s1 ⟨H1,I1,q1⟩=>?_)
 cases d with
 | true=>exact ha pins s1 σ H1 D I1 q1
 | false=>exact hb pins s1 σ H1 D I1 q1
def NX:TS:=fun _ _ _=>False
end
abbrev TG:=V->St->Hp->(St->Hp->Prop)->Prop
abbrev BG:=List V->St->Hp->(St->Hp->Prop)->Prop
def PG(X:Cx)(target:Expr)(t:TG):Prop:=
 ∀(pins:Um) (s:Shared) (σ:St) (H:Hp) (v:V) (u:Value) (Q:St->Hp->Prop),Inv X pins σ H s->RelV v u->t v σ H Q->
  wpAny (model X.prog X.w) X.A (assign target X.env u) (fun _ s'=>∃cj H',Inv X pins cj H' s'/\Q cj H') X.xe s
def Fv(X:Cx)(ts:List Expr)(t:BG):Prop:=
 ∀(pins:Um) (s:Shared) (σ:St) (H:Hp) (vs:List V) (us:List Value) (Q:St->Hp->Prop),Inv X pins σ H s->Vals vs us->t vs σ H Q->
  wpAny (model X.prog X.w) X.A (assignInOrder ((assignEach ts X.env).map (·.2)) us) (fun _ s'=>∃cj H',Inv X pins cj H' s'/\Q cj H') X.xe s
abbrev FW:=V->V->V->Hp->(Hp->Prop)->Prop
def Lc(X:Cx)(t:FW):Prop:=
 ∀(pins:Um) (s:Shared) (σ:St) (H:Hp) (o i v:V) (ov iv u:Value) (Q:Hp->Prop),Inv X pins σ H s->RelV o ov->RelV i iv->RelV v u->t o i v H Q->
  wpAny (model X.prog X.w) X.A (setItem ov iv u) (fun _ s'=>∃H',Inv X pins σ H' s'/\Q H') X.xe s
abbrev Mf:=V->V->Hp->VK->Prop
def TC(X:Cx)(op:Operator)(t:Mf):Prop:=
 ∀(pins:Um) (s:Shared) (σ:St) (H:Hp) (x y:V) (v u:Value) (Q:VK),Inv X pins σ H s->RelV x v->RelV y u->t x y H Q->
  wpAny (model X.prog X.w) X.A (inplaceOp op v u) (EP X pins σ Q) X.xe s
section
variable {X:Cx} {pos:Pos}
def qB(i:Nat):TG:=fun v σ H Q=>Q (σ.set i (some v)) H
theorem yX{i:Nat}(hN:X.N.Nodup)(hi:X.N[i]? =some x)(hx:Loc X.env.scope x)(hf:X.fn x=true\/X.env.scope.names.lookup x=some .local:=by first | exact .inl rfl | exact .inr rfl | assumption):PG X (.Name x pos) (qB i):=by
 intro pins s σ H v u Q I r h;exact wpAny_assign_Name (wO I hN hi hx r (fun s' I'=>⟨_,H,I',h⟩) hf)
def NR:BG:=fun vs σ H Q=>vs=[]/\Q σ H
def Lq(t:TG)(u:BG):BG:=fun vs σ H Q=>∃v r,vs=v ::r/\t v σ H fun cj H'=>u r cj H' Q
theorem zl:Fv X [] NR:=by
 intro pins s σ H vs us Q I r h;obtain⟨e,h⟩:=h;subst e;cases r;exact assignInOrder_nil ⟨σ,H,I,h⟩
theorem wu{e:Expr}{es:List Expr}{t:TG}{u:BG}(h1:PG X e t)(h2:Fv X es u)
 (hs:(assignEach (e ::es) X.env).map (·.2)=assign e X.env ::(assignEach es X.env).map (·.2):=by rfl):Fv X (e ::es) (Lq t u):=by
 intro pins s σ H vs us Q I r h;obtain⟨v,vr,e1,h⟩:=h;subst e1;cases r with
 | cons r rr=>
   rw[hs];refine assignInOrder_cons (du (h1 pins s σ H _ _ _ I r h) fun _ s1 ⟨En,H1,I1,q1⟩=>?_)
   exact h2 pins s1 En H1 _ _ Q I1 rr q1
def ND(K:W.Frag)(n:Nat)(t:BG):TG:=fun v σ H Q=>∃a xs,v= .ref a/\pB K H a xs/\xs.length=n/\t xs σ H Q
theorem Ca{es:List Expr}{k:Nat}{t:BG}{n:Nat}(hc:X.calm=true)(h:Fv X es t)
 (hn:(assignEach es X.env).length=n:=by rfl) (D5:(assignEach es X.env).findIdx? (·.1)=none:=by rfl):PG X (.Tuple es k pos) (ND X.K n t):=by
 intro pins s σ H v u Q I r hw;obtain⟨a,xs,e1,hq,hl,hw⟩:=hw;subst e1;cases r;obtain⟨its,rv,ht,hz⟩:=I.tuple hq;refine assign_Tuple_tuple (I.ok.hd hc) ht (by simp [hn,<-hl,rv.length]) D5 fun h' hx=>?_
 have I1:Inv X pins σ H {s with heap:=h'}:=I.kept (t':=s.toks) fun b o e=>hx b o (Nat.ne_of_lt (Heap.lt_size e)) e
 exact h pins _ σ H xs _ Q I1 (by simpa using rv) hw
def Lx(to ti:TE)(t:FW):TG:=fun v σ H Q=>to σ H fun o H1=>ti σ H1 fun i H2=>t o i v H2 fun H3=>Q σ H3
theorem ug{o i:Expr}{to ti:TE}{t:FW}(ho:PE X o to)(hi:PE X i ti)(hs:Lc X t)
 (ha:∀v,assign (.Subscript o i pos) X.env v=(do
   let ov <-holding [v] (eval o X.env)
   let iv <-holding [v,ov] (eval i X.env)
   standAt pos
   holding [v,ov,iv] (setItem ov iv v)
   release [v,ov,iv] []):=by intro _;rfl):PG X (.Subscript o i pos) (Lx to ti t):=by
 intro pins s σ H v u Q I r h;rw[ha];refine wpAny_bind (wpAny_holding (du (ho pins s σ H _ I h) fun ov s1 ⟨x,H1,I1,r1,q1⟩=>?_))
 refine wpAny_bind (wpAny_holding (du (hi pins s1 σ H1 _ I1 q1) fun iv s2 ⟨y,H2,I2,r2,q2⟩=>?_))
 refine wpAny_bind (wpAny_standAt (wpAny_bind (wpAny_holding (du (hs pins s2 σ H2 x y v ov iv u _ I2 r1 r2 r q2) fun _ s3 ⟨H3,I3,q3⟩=>?_))))
 exact wpAny_release ⟨σ,H3,I3,q3⟩
def Ar(te:TE)(g:TG):TS:=fun D σ H=>te σ H fun x H1=>g x σ H1 D.nx
theorem Bo{tg e:Expr}{te:TE}{g:TG}(he:PE X e te)(hg:PG X tg g)(hs:swapsWithSole [tg] e pos.line X.env=pure false:=by rfl)(hw:swappedStores [tg] e X.env=pure none:=by rfl)
 (h1:(assignEach [tg] X.env).map (·.2)=[assign tg X.env]:=by rfl):PS X (.Assign [tg] e pos) (Ar te g):=by
 intro pins s σ H D I h;refine wpAny_Assign_stores (du (he pins s σ H _ I h) fun v s1 ⟨x,H1,I1,r1,q1⟩=>?_) hs hw
 rw[h1];exact du (hg pins s1 σ H1 x v _ I1 r1 q1) fun _ s2 q=>q
theorem xM{i:Nat}{te:TE}(hN:X.N.Nodup)(hi:X.N[i]? =some x)(hx:Loc X.env.scope x)(he:PE X e te)(hs:swapsWith e (some (.Name x pos')) pos.line X.env=pure false:=by rfl)(hf:X.fn x=true\/X.env.scope.names.lookup x=some .local:=by first | exact .inl rfl | exact .inr rfl | assumption) :
 PS X (.Assign [.Name x pos'] e pos) (Ar te (qB i)):=by
 intro pins s σ H D I h;refine wpAny_Assign_Name (du (he pins s σ H _ I h) fun v s1 ⟨y,H1,I1,r1,q1⟩=>?_) hs
 exact wO I1 hN hi hx r1 (fun s2 I2=>⟨_,H1,I2,q1⟩) hf
def Q9(i j:Nat)(ta:TA):TS:=fun D σ H=>ta σ H fun vs H1=>∃v w,vs=[v,w]/\D.nx ((σ.set i (some v)).set j (some w)) H1
def RD(i:Nat)(te:TE)(ti:Mf):TS:=fun D σ H=>∃x,σ[i]? =some (some x)/\te σ H fun y H1=>ti x y H1 fun z H2=>D.nx (σ.set i (some z)) H2
def Pc(to ti te:TE)(Oy:V->V->Hp->VK->Prop)(Sk:Mf)(OK:FW):TS:=fun D σ H=>to σ H fun o H1=>ti σ H1 fun i H2=>Oy o i H2 fun x H3=>te σ H3 fun y H4=>Sk x y H4 fun z H5=>OK o i z H5 fun H6=>D.nx σ H6
def Qv(X:Cx)(t:V->V->Hp->VK->Prop):Prop:=
 ∀(pins:Um) (s:Shared) (σ:St) (H:Hp) (o i:V) (ov iv:Value) (Q:VK),Inv X pins σ H s->RelV o ov->RelV i iv->t o i H Q->
  wpAny (model X.prog X.w) X.A (getItem ov iv) (EP X pins σ Q) X.xe s
def TU(f:Int->Int->Int):Mf:=fun x y H Q=>∃i j,x= .int i/\y= .int j/\Q (.int (f i j)) H
end
section
variable {X:Cx} {pos:Pos}
def IT(c:TT)(tb:TS):TS:=fun D σ H=>∃W:Nat->St->Hp->Prop,(∃m,W m σ H)/\∀m σ H,W m σ H->
 c σ H fun b H1=>if b=true then ∃N:St->Hp->Prop,(∀cj H',N cj H'->∃m',m' < m/\W m' cj H')/\tb {D with nx:=N,ct:=N,bk:=D.nx} σ H1 else D.nx σ H1
theorem DR{tc:TT}{tb:TS}(hp:PassesOwn (model X.prog X.w) X.A X.env X.xe)(hc:PT X c tc)(hb:uT X body tb):PS X (.While c body [] pos) (IT tc tb):=by
 intro pins s σ H D I h;obtain⟨W,⟨m0,w0⟩,turn⟩:=h;refine wpAny_While (codeAny_whileLoop (fun n s'=>∃cj H',Inv X pins cj H' s'/\W n cj H') ?_ m0 ⟨σ,H,I,w0⟩)
 rintro n s1 ⟨En,H1,I1,w1⟩;refine wpAny_passesOwn hp (du (hc pins s1 En H1 _ I1 (turn n En H1 w1)) fun b s2 ⟨H2,I2,q2⟩=>?_)
 cases b with
 | true=>
   obtain⟨N,hN,q2⟩:=q2;rw[if_pos rfl];refine wpAny_passesOwn hp (du (hb pins s2 En H2 _ I2 q2) fun f s3 q3=>?_)
   cases f with
   | next=>
     obtain⟨xm,H3,I3,n3⟩:=q3;obtain⟨m',hm,w3⟩:=hN xm H3 n3;exact⟨m',hm,xm,H3,I3,w3⟩
   | cont=>
     obtain⟨xm,H3,I3,n3⟩:=q3;obtain⟨m',hm,w3⟩:=hN xm H3 n3;exact⟨m',hm,xm,H3,I3,w3⟩
   | brk=>exact q3
   | ret v=>exact q3
 | false=>
   rw[if_neg Bool.false_ne_true];exact wpAny_execs_nil ⟨En,H2,I2,q2⟩
end
structure It where
 go:Nat->Hp->Prop
 yld:Nat->Hp->V->Hp->Prop
 stop:Nat->Hp->Prop
def pU(X:Cx)(pins:Um)(H:Hp)(b:Addr):Prop:=
 H b=none/\b≠X.env.locals/\b ∉ X.fs/\(b∈X.ex\/X.s₀.heap.objs.size<=b)/\(∀x c,X.env.cells.lookup x=some c->c≠b)/\∀p∈X.pn++pins,p.1≠b
theorem Inv.pT{X:Cx}{pins:Um}{H H':Hp}{s:Shared}{b:Addr}(I:Inv X pins σ H s)(hb:s.heap.objs.size<=b)(hn:H' b=none):pU X pins H' b:=by
 refine⟨hn,Nat.ne_of_gt (Nat.lt_of_lt_of_le I.lt hb),I.M3 hb, .inr (Nat.le_trans I.sz hb),fun x c e z=>?_,fun p hp z=>?_⟩
 .obtain⟨v,q⟩:=I.cell x c e;exact absurd (Nat.lt_of_lt_of_le q.lt (by rw[z];exact hb)) (Nat.lt_irrefl _)
 .exact absurd (Nat.lt_of_lt_of_le (Heap.lt_size (I.pin p hp).1) (by rw[z];exact hb)) (Nat.lt_irrefl _)
structure Turn (P:Program) (w:World) (K:W.Frag) (tg:Expr) (J:It) (fp:List Addr) (it:Addr) (tn:Nat->Heap->Prop):Prop where
 mem:it∈fp
 obj:∀i h,tn i h->∀b∈fp,∃o,h.get? b=some o/\∀v,o.data≠ .cell v
 keep:∀i h h',tn i h->(∀b∈fp,∀o,h.get? b=some o->h'.get? b=some o)->tn i h'
 item:∀(X:Cx),X.prog=P->X.w=w->X.K=K->X.calm=true->∀(i:Nat) (pins:Um) (s:Shared) (σ:St) (H:Hp) (E:Uo),Inv X pins σ H s->(∀b∈fp,pU X pins H b)->tn i s.heap->J.go i H->
  wpAny (model P w) X.A (pyNext (.ref it)) (fun r s1=>∃u,r=some u/\
   wpAny (model P w) X.A (letOwnedTupleGo tg (.ref it) u) (fun _ s2=>∃x H',Inv X pins σ H' s2/\RelV x u/\J.yld i H x H'/\tn (i+1) s2.heap/\∀b∈fp,H' b=none) E s1) E s
 done:∀(X:Cx),X.prog=P->X.w=w->X.K=K->X.calm=true->∀(i:Nat) (pins:Um) (s:Shared) (σ:St) (H:Hp) (E:Uo),Inv X pins σ H s->(∀b∈fp,pU X pins H b)->tn i s.heap->J.stop i H->
  wpAny (model P w) X.A (pyNext (.ref it)) (fun r s1=>r=none/\Inv X pins σ H s1) E s
 self:∀(A:Around) (i:Nat) (s:Shared) (Q:Uo) (E:Uo),tn i s.heap->Q (.ref it) s->wpAny (model P w) A (pyIter (.ref it)) Q E s
abbrev TI:=St->Hp->(It->Hp->Prop)->Prop
def OT(X:Cx)(pins:Um)(σ:St)(tg:Expr)(R:It->Hp->Prop)(Mw:Value)(s2:Shared):Prop:=
 ∃(it:Addr) (fp:List Addr) (tn:Nat->Heap->Prop) (J:It) (H':Hp),Mw= .ref it/\Inv X pins σ H' s2/\Turn X.prog X.w X.K tg J fp it tn/\tn 0 s2.heap/\(∀b∈fp,pU X pins H' b)/\R J H'
def PI(X:Cx)(tg iter:Expr)(wi:TI):Prop:=
 ∀(pins:Um) (s:Shared) (σ:St) (H:Hp) (R:It->Hp->Prop),Inv X pins σ H s->wi σ H R->
  wpAny (model X.prog X.w) X.A (eval iter X.env) (fun v s1=>wpAny (model X.prog X.w) X.A (pyIter v) (OT X pins σ tg R) X.xe s1) X.xe s
theorem wQ{M:Model}{A:Around}{E:Uo}{s:Shared}{tg:Expr}{it:Addr}{u:Value}{o:Obj}{n:String}{vs:Array Value}{Q:Unit->Shared->Prop}(ho:s.heap.get? it=some o)(hc:o.cls= .type n)(hd:o.data= .fields vs)
 (hn:["enumerate","zip","dict_itemiterator","dict_reverseitemiterator","odict_iterator","itertools.zip_longest","itertools.pairwise"].contains n=false) (hQ:Q () s):wpAny M A (letOwnedTupleGo tg (.ref it) u) Q E s:=by
 unfold letOwnedTupleGo;cases tg <;> first
  | exact wpAny_pure hQ
  | (cases u <;> first
      | exact wpAny_pure hQ
      | (refine wpAny_bind (wpAny_load ho ?_)
         rw[hc,hd];show wpAny M A (if(["enumerate","zip","dict_itemiterator","dict_reverseitemiterator","odict_iterator","itertools.zip_longest","itertools.pairwise"].contains n && vs[0]? ==some (rawInt _))=true then _ else _) Q E s
         rw[if_neg (by intro h;rw [hn,Bool.false_and] at h;cases h)]
         exact wpAny_pure hQ))
def Pq(K:W.Frag)(a:Addr):It:=
 ⟨fun i H=>∃xs x,mZ K H a xs/\xs[i]? =some x,fun i H x H'=>H'=H/\∀xs,mZ K H a xs->xs[i]? =some x,fun i H=>∃xs,mZ K H a xs/\xs.length<=i⟩
def O8(K:W.Frag)(a:Addr):It:=
 ⟨fun i H=>∃xs x,pB K H a xs/\xs[i]? =some x,fun i H x H'=>H'=H/\∀xs,pB K H a xs->xs[i]? =some x,fun i H=>∃xs,pB K H a xs/\xs.length<=i⟩
def K0(lo:Int)(n:Nat):It:=⟨fun i _=>i < n,fun i H x H'=>H'=H/\x= .int (lo+i),fun i _=>n<=i⟩
theorem tP{K:W.Frag}(a it:Addr):Turn P w K tg (Pq K a) [it] it (fun i h=>h.IsListIter it a i) where
 mem:=by simp
 obj:=fun i h st b hb=>by
  have e:b=it:=by simpa using hb
  subst e;obtain⟨o,e,c,d⟩:=st;exact⟨o,e,fun v z=>by rw[d] at z;cases z⟩
 keep:=fun i h h' st k=>st.at fun o e=>k it (by simp) o e
 item:=by
  intro X hP hw hK hc i pins s σ H E I hf st hg;subst hP hw hK;obtain⟨xs,x,hq,hx⟩:=hg;obtain⟨its,rv,p,hz⟩:=I.list hq;obtain⟨u,hu,ru⟩:=rv.get hx;obtain⟨f0,f1,f2,f3,f4,f5⟩:=hf it (by simp)
  refine wpAny_pyNext_list_item st p.isList (x:=u) (by simpa using hu) fun h' z_ sb=>?_
  have I1:Inv X pins σ H {s with heap:=h'}:=I.turned (t':=s.toks) (fun b o hb e=>(sb.2 b hb).trans e) f0 f1 f3 f4 f5
  obtain⟨o,e,c,d⟩:=id z_;exact⟨u,rfl,wQ (s:={s with heap:=h'}) e c d (by decide) ⟨x,H,I1,ru,⟨rfl,fun ys hy=>by rw[I.m8 hy hq];exact hx⟩,z_,fun b hb=>(hf b hb).1⟩⟩
 done:=by
  intro X hP hw hK hc i pins s σ H E I hf st hg;subst hP hw hK;obtain⟨xs,hq,hx⟩:=hg;obtain⟨its,rv,p,hz⟩:=I.list hq;obtain⟨f0,f1,f2,f3,f4,f5⟩:=hf it (by simp)
  have hl:=rv.length;exact wpAny_pyNext_list_end (I.ok.hd hc) st p.isList (by simp;omega) fun h' eb=>⟨rfl,I.turned (t':=s.toks) (fun b o hb e=>eb b o hb e) f0 f1 f3 f4 f5⟩
 self:=fun _ _ _ _ _ st h=>wpAny_pyIter_listiter st h
theorem x4{K:W.Frag}(a it:Addr):Turn P w K tg (O8 K a) [it] it (fun i h=>h.IsTupleIter it a i) where
 mem:=by simp
 obj:=fun i h st b hb=>by
  have e:b=it:=by simpa using hb
  subst e;obtain⟨o,e,c,d⟩:=st;exact⟨o,e,fun v z=>by rw[d] at z;cases z⟩
 keep:=fun i h h' st k=>st.at fun o e=>k it (by simp) o e
 item:=by
  intro X hP hw hK hc i pins s σ H E I hf st hg;subst hP hw hK;obtain⟨xs,x,hq,hx⟩:=hg;obtain⟨its,rv,p,hz⟩:=I.tuple hq;obtain⟨u,hu,ru⟩:=rv.get hx;obtain⟨f0,f1,f2,f3,f4,f5⟩:=hf it (by simp)
  refine wpAny_pyNext_tuple_item st (show s.heap.IsTuple a its.toArray from p) (x:=u) (by simpa using hu) fun h' z_ sb=>?_
  have I1:Inv X pins σ H {s with heap:=h'}:=I.turned (t':=s.toks) (fun b o hb e=>(sb.2 b hb).trans e) f0 f1 f3 f4 f5
  obtain⟨o,e,c,d⟩:=id z_;exact⟨u,rfl,wQ (s:={s with heap:=h'}) e c d (by decide) ⟨x,H,I1,ru,⟨rfl,fun ys hy=>by rw[I.nX hy hq];exact hx⟩,z_,fun b hb=>(hf b hb).1⟩⟩
 done:=by
  intro X hP hw hK hc i pins s σ H E I hf st hg;subst hP hw hK;obtain⟨xs,hq,hx⟩:=hg;obtain⟨its,rv,p,hz⟩:=I.tuple hq;obtain⟨f0,f1,f2,f3,f4,f5⟩:=hf it (by simp)
  have hl:=rv.length;exact wpAny_pyNext_tuple_end (I.ok.hd hc) st (show s.heap.IsTuple a its.toArray from p) (by simp;omega) fun h' eb=>⟨rfl,I.turned (t':=s.toks) (fun b o hb e=>eb b o hb e) f0 f1 f3 f4 f5⟩
 self:=fun _ _ _ _ _ st h=>wpAny_pyIter_tupleiter st h
theorem xV{K:W.Frag}(it:Addr)(lo:Int)(n:Nat):Turn P w K tg (K0 lo n) [it] it (fun i h=>IsRangeIter h it (lo+(i:Nat)*1) ((n:Int) - (i:Nat)) 1) where
 mem:=by simp
 obj:=fun i h st b hb=>by
  have e:b=it:=by simpa using hb
  subst e;exact⟨_,st,fun v z=>by
   have z':Data.fields _=Data.cell v:=z;cases z'⟩
 keep:=fun i h h' st k=>k it (by simp) _ st
 item:=by
  intro X hP hw hK hc i pins s σ H E I hf st hg;subst hP hw hK;obtain⟨f0,f1,f2,f3,f4,f5⟩:=hf it (by simp)
  have W:=Walks.range (prog:=X.prog) (w:=X.w) (I.ok.hd hc) it lo 1 n;refine W.item i s _ _ hg st fun v h' tk hv z_ kk=>?_
  obtain⟨t,rfl⟩:=hv;have I1:Inv X pins σ H {s with heap:=h',toks:=tk}:=I.turned (fun b o hb e=>kk b o (by simpa using hb) e) f0 f1 f3 f4 f5
  refine⟨_,rfl,wQ (s:={s with heap:=h',toks:=tk}) (n:="range_iterator") z_ rfl rfl (by decide) ⟨.int (lo+i),H,I1,⟨t,?_⟩,⟨rfl,rfl⟩,z_,fun b hb=>(hf b hb).1⟩⟩
  rw[Int.mul_one]
 done:=by
  intro X hP hw hK hc i pins s σ H E I hf st hg;subst hP hw hK;obtain⟨f0,f1,f2,f3,f4,f5⟩:=hf it (by simp)
  exact wpAny_pyNext_range_end (I.ok.hd hc) st (by have:n<=i:=hg;omega) fun h' eb=>⟨rfl,I.turned (t':=s.toks) (fun b o hb e=>eb b o hb e) f0 f1 f3 f4 f5⟩
 self:=fun _ _ _ _ _ st h=>wpAny_pyIter_rangeiter st h
section
variable {X:Cx} {tg:Expr}
def Pw(K:W.Frag)(tl:TE):TI:=fun σ H R=>tl σ H fun x H1=>∃a,x= .ref a/\(∃xs,mZ K H1 a xs)/\R (Pq K a) H1
def MH(K:W.Frag)(tl:TE):TI:=fun σ H R=>tl σ H fun x H1=>∃a,x= .ref a/\(∃xs,pB K H1 a xs)/\R (O8 K a) H1
theorem CA{pins:Um}{σ:St}{H:Hp}{s:Shared}{R:It->Hp->Prop}{E:Uo}{lo hi:Int}{t u v:Tok}{tk:Nat}(I:Inv X pins σ H s)(h1: -(2 ^ 62)<=lo)(h2:lo < 2 ^ 62)(h3: -(2 ^ 62)<=hi)(h4:hi < 2 ^ 62)
 (q:R (K0 lo (hi - lo).toNat) H):wpAny (model X.prog X.w) X.A (pyIter (.ref s.heap.objs.size)) (OT X pins σ tg R) E {s with heap:=s.heap.push {cls:= .type "range",data:= .fields #[.int lo t, .int hi u, .int 1 v]},toks:=tk}:=by
 refine wpAny_pyIter_range (IsRange.new ..) (small_one h1 h2 h3 h4) ?_;have I1:Inv X pins σ H {s with heap:=s.heap.push {cls:= .type "range",data:= .fields #[.int lo t, .int hi u, .int 1 v]},toks:=tk}:=I.kept fun b o e=>Heap.get?_push_of_some _ e
 refine⟨(s.heap.push {cls:= .type "range",data:= .fields #[.int lo t, .int hi u, .int 1 v]}).objs.size,[(s.heap.push {cls:= .type "range",data:= .fields #[.int lo t, .int hi u, .int 1 v]}).objs.size],_,_,H,rfl,
  I1.kept (t':=tk) fun b o e=>Heap.get?_push_of_some _ e,xV _ lo (hi - lo).toNat,?_,fun b hb=>?_,q⟩
 .have e1:lo+((0:Nat):Int)*1=lo:=by simp
  have e2:(((hi - lo).toNat:Nat):Int) - ((0:Nat):Int)=Builtin.Range.rangeSize lo hi 1:=by rw[rangeSize_one];split <;> omega
  show IsRangeIter _ _ (lo+((0:Nat):Int)*1) ((((hi - lo).toNat:Nat):Int) - ((0:Nat):Int)) 1;rw[e1,e2];exact Heap.get?_push_size _ rfl
 .have e:b=(s.heap.push {cls:= .type "range",data:= .fields #[.int lo t, .int hi u, .int 1 v]}).objs.size:=by simpa using hb
  subst e;exact I1.pT (Nat.le_refl _) (I1.hok.fresh (Nat.le_refl _))
def vT(ta:TA):TI:=fun σ H R=>ta σ H fun vs H1=>∃j:Int,vs=[.int j]/\ -(2 ^ 62)<=j/\j < 2 ^ 62/\R (K0 0 j.toNat) H1
def Ph(ta:TA):TI:=fun σ H R=>ta σ H fun vs H1=>∃i j:Int,vs=[.int i, .int j]/\(-(2 ^ 62)<=i/\i < 2 ^ 62/\ -(2 ^ 62)<=j/\j < 2 ^ 62)/\R (K0 i (j - i).toNat) H1
theorem sQ{ta:TA}{p pos:Pos}(hg:Gl X "range")(hm:X.mg "range"=none)(ha:PA X [a] ta)(hs:starEach [a] X.env=[(false,eval a X.env)]:=by rfl):PI X tg (.Call (.Name "range" p) [a] [] pos) (vT ta):=by
 intro pins s σ H R I h;refine Call_ (ji I hg hm boot_range (PyProof.Rows.callWith_type1 (du (ha pos pins s σ H _ I h) fun us s1 ⟨vs,H1,I1,r1,q1⟩=>?_) hs rfl))
 obtain⟨j,e,q1,q2,q⟩:=q1;subst e;cases r1 with
 | cons r rr=>
   cases rr;obtain⟨t,rfl⟩:=r;exact call_range_1 (CA I1 (by omega) (by omega) q1 q2 (by simpa using q))
def MS(wi:TI)(g:TG)(tb:TS):TS:=fun D σ H=>wi σ H fun J H1=>∃W:Nat->Nat->St->Hp->Prop,(∃m,W 0 m σ H1)/\∀i m σ H,W i m σ H->
 (J.stop i H/\D.nx σ H)\/(J.go i H/\∃N:St->Hp->Prop,(∀cj H',N cj H'->∃m',m' < m/\W (i+1) m' cj H')/\∀x H',J.yld i H x H'->g x σ H' fun rS H2=>tb {D with nx:=N,ct:=N,bk:=D.nx} rS H2)
def me(fp:List Addr)(h:Heap):Um:=fp.filterMap fun b=>(h.get? b).map fun o=>(b,o)
theorem ke{fp:List Addr}{h:Heap}{b:Addr}{o:Obj}(hb:b∈fp)(e:h.get? b=some o):(b,o)∈me fp h:=List.mem_filterMap.mpr ⟨b,hb,by rw[e];rfl⟩
theorem AD{fp:List Addr}{h:Heap}{p:Addr × Obj}(hp:p∈me fp h):p.1∈fp/\h.get? p.1=some p.2:=by
 obtain⟨b,hb,e⟩:=List.mem_filterMap.mp hp;cases q:h.get? b with
 | none=>rw [q] at e;cases e
 | some o=>
   rw[q] at e;have e':(b,o)=p:=Option.some.inj e;subst e';exact⟨hb,q⟩
theorem Inv.pinned{pins:Um}{s:Shared}{fp:List Addr}(I:Inv X pins σ H s)(hf:∀b∈fp,pU X pins H b)(ho:∀b∈fp,∃o,s.heap.get? b=some o/\∀v,o.data≠ .cell v):Inv X (pins++me fp s.heap) σ H s:=
 I.zt fun p hp=>(List.mem_append.mp hp).elim (fun z=>I.pin p (List.mem_append_right _ z)) fun z=>by
  obtain⟨hb,e⟩:=AD z;obtain⟨f0,f1,f2,_⟩:=hf p.1 hb;obtain⟨o,e',d⟩:=ho p.1 hb;rw[e] at e';cases e';exact⟨e,f0,f1,f2,d⟩
theorem Inv.ng{pins pl:Um}{s:Shared}(I:Inv X (pins++pl) σ H s):Inv X pins σ H s:=I.zt fun p hp=>I.pin p (List.mem_append_right _ (List.mem_append_left _ hp))
theorem yh{iter:Expr}{body:List Stmt}{wi:TI}{g:TG}{tb:TS}{pos:Pos}(hp:PassesOwn (model X.prog X.w) X.A X.env X.xe)(hc:X.calm=true)(hi:PI X tg iter wi)(hg:PG X tg g)(hb:uT X body tb)
 (hs:∀x,foldedSetIterable iter X.env x=pure x:=by intro _;rfl):PS X (.For tg iter body [] pos) (MS wi g tb):=by
 intro pins s σ H D I h;refine wpAny_For (du (hi pins s σ H _ I h) fun v s1 h1=>du h1 fun Mw s2 h2=>?_) hs
 obtain⟨it,fp,tn,J,H2,e,I2,T,Eo,f2,W,⟨m0,w0⟩,turn⟩:=h2;subst e;have stat:∀{H':Hp},(∀b∈fp,H' b=none)->∀b∈fp,pU X pins H' b:=fun hn b hb=>⟨hn b hb,(f2 b hb).2⟩
 refine codeAny_forLoop_any (fun n s'=>∃i cj H',Inv X pins cj H' s'/\tn i s'.heap/\(∀b∈fp,H' b=none)/\W i n cj H') ?_ m0 ⟨0,σ,H2,I2,Eo,fun b hb=>(f2 b hb).1,w0⟩
 rintro n s3 ⟨i,xm,H3,I3,Gy,LO,w3⟩;rcases turn i n xm H3 w3 with⟨stop,qn⟩ | ⟨go,N,hN,step⟩
 .refine wpAny_passesOwn hp (du (T.done X rfl rfl rfl hc i pins s3 xm H3 X.xe I3 (stat LO) Gy stop) fun r s4 ⟨hr,I4⟩=>?_)
  subst hr;exact wpAny_execs_nil ⟨xm,H3,I4,qn⟩
 .refine wpAny_passesOwn hp (du (T.item X rfl rfl rfl hc i pins s3 xm H3 X.xe I3 (stat LO) Gy go) fun r s4 ⟨u,hr,h4⟩=>?_)
  subst hr;refine wpAny_passesOwn hp (du h4 fun _ s5 ⟨x,H5,I5,r5,y5,JK,Ox⟩=>?_)
  have I5':=I5.pinned (stat Ox) (T.obj _ _ JK);refine wpAny_passesOwn hp (du (hg _ s5 xm H5 x u _ I5' r5 (step x H5 y5)) fun _ s6 ⟨L8,H6,I6,q6⟩=>?_)
  refine wpAny_passesOwn hp (du (hb _ s6 L8 H6 _ I6 q6) fun f s7 q7=>?_)
  have again:∀{xo:St} {H7:Hp},Inv X (pins++me fp s5.heap) xo H7 s7->N xo H7->∃m,m < n/\∃i cj H',Inv X pins cj H' s7/\tn i s7.heap/\(∀b∈fp,H' b=none)/\W i m cj H':=fun {xo H7} I7 n7=>by
   obtain⟨m',hm,w7⟩:=hN xo H7 n7;refine⟨m',hm,i+1,xo,H7,I7.ng,T.keep _ _ _ JK fun b hb o e=>(I7.pin (b,o) (List.mem_append_right _ (List.mem_append_right _ (ke hb e)))).1,fun b hb=>?_,w7⟩
   obtain⟨o,e,d⟩:=T.obj _ _ JK b hb;exact(I7.pin (b,o) (List.mem_append_right _ (List.mem_append_right _ (ke hb e)))).2.1
  cases f with
  | next=>obtain⟨xo,H7,I7,n7⟩:=q7;exact again I7 n7
  | cont=>obtain⟨xo,H7,I7,n7⟩:=q7;exact again I7 n7
  | brk=>obtain⟨xo,H7,I7,q7⟩:=q7;exact⟨xo,H7,I7.ng,q7⟩
  | ret v=>obtain⟨x7,xo,H7,I7,r7,q7⟩:=q7;exact⟨x7,xo,H7,I7.ng,r7,q7⟩
end
abbrev R2:=V->V->Hp->VK->Prop
def kD(X:Cx)(f:Value->Value->Sem Value)(r:R2):Prop:=
 ∀(pins:Um) (s:Shared) (σ:St) (H:Hp) (x y:V) (v u:Value) (Q:VK),Inv X pins σ H s->RelV x v->RelV y u->r x y H Q->
  wpAny (model X.prog X.w) X.A (f v u) (EP X pins σ Q) X.xe s
def MR(X:Cx)(f:Value->Sem Value)(r:V->Hp->VK->Prop):Prop:=
 ∀(pins:Um) (s:Shared) (σ:St) (H:Hp) (x:V) (v:Value) (Q:VK),Inv X pins σ H s->RelV x v->r x H Q->
  wpAny (model X.prog X.w) X.A (f v) (EP X pins σ Q) X.xe s
def kC(X:Cx)(f:Value)(r:List V->Hp->VK->Prop):Prop:=
 ∀(pins:Um) (s:Shared) (σ:St) (H:Hp) (xs:List V) (us:List Value) (Q:VK),Inv X pins σ H s->Vals xs us->r xs H Q->
  wpAny (model X.prog X.w) X.A (call f us) (EP X pins σ Q) X.xe s
def Nv(X:Cx)(r:V->Hp->(Bool->Hp->Prop)->Prop):Prop:=
 ∀(pins:Um) (s:Shared) (σ:St) (H:Hp) (x:V) (v:Value) (Q:Bool->Hp->Prop),Inv X pins σ H s->RelV x v->r x H Q->
  wpAny (model X.prog X.w) X.A (truthy v) (TP X pins σ Q) X.xe s
def J1(r:R2)(ta tb:TE):TE:=fun σ H Q=>ta σ H fun x H1=>tb σ H1 fun y H2=>r x y H2 Q
def Ru(r:V->Hp->VK->Prop)(ta:TE):TE:=fun σ H Q=>ta σ H fun x H1=>r x H1 Q
def rI(C:Int->Int->Prop)(g:Int->Int->V):R2:=fun x y H Q=>∃i j,x= .int i/\y= .int j/\C i j/\Q (g i j) H
def Bd(g:Int->Int->V):R2:=fun x y H Q=>∃i j,x= .int i/\y= .int j/\Q (g i j) H
def rU(g:Int->V):V->Hp->VK->Prop:=fun x H Q=>∃i,x= .int i/\Q (g i) H
section
variable {X:Cx} {a b c:Expr} {ta tb tc:TE} {pos:Pos}
theorem Jc(ha:PE X a ta)(hb:PE X b tb){pins:Um}{s:Shared}{σ:St}{H:Hp}{R:V->V->Hp->Prop}(I:Inv X pins σ H s)
 (h:ta σ H fun x H1=>tb σ H1 fun y H2=>R x y H2) {Q:Uo} {f:Value->Value->Sem Value}
 (hf:∀v u s2 x y H2,Inv X pins σ H2 s2->RelV x v->RelV y u->R x y H2->wpAny (model X.prog X.w) X.A (f v u) Q X.xe s2) :
 wpAny (model X.prog X.w) X.A (eval a X.env) (fun v s₁=>wpAny (model X.prog X.w) X.A (eval b X.env) (fun u JL=>wpAny (model X.prog X.w) X.A (f v u) Q X.xe JL) X.xe s₁) X.xe s:=by
 refine du (ha pins s σ H _ I h) fun v s1 ⟨x,H1,I1,r1,q1⟩=>?_
 refine du (hb pins s1 σ H1 _ I1 q1) fun u s2 ⟨y,H2,I2,r2,q2⟩=>?_
 exact hf v u s2 x y H2 I2 r1 r2 q2
theorem B5{op:Operator}{r:R2}(ho:kD X (binaryOp op) r)(ha:PE X a ta)(hb:PE X b tb):PE X (.BinOp a op b pos) (J1 r ta tb):=by
 intro pins s σ H Q I h;exact wpAny_BinOp (Jc ha hb I h fun v u s2 x y H2 I2 rx ry q=>ho pins s2 σ H2 x y v u Q I2 rx ry q)
theorem K6{op:UnaryOp}{r:V->Hp->VK->Prop}(ho:MR X (unaryOp op) r)(ha:PE X a ta):PE X (.UnaryOp op a pos) (Ru r ta):=by
 intro pins s σ H Q I h;exact UnaryOp_ (du (ha pins s σ H _ I h) fun v s1 ⟨x,H1,I1,r1,q1⟩=>ho pins s1 σ H1 x v Q I1 r1 q1)
theorem Kz{f:Value->Value->Sem Value}{C:Int->Int->Prop}{g:Int->Int->Int}
 (rule:∀(i j:Int) (t u:Tok) (s:Shared) (Q:Uo) (E:Uo),C i j->Q (.int (g i j) s.toks) {s with toks:=s.toks+1}->wpAny (model X.prog X.w) X.A (f (.int i t) (.int j u)) Q E s) :
 kD X f (rI C fun i j=> .int (g i j)):=by
 intro pins s σ H x y v u Q I rx ry h;obtain⟨i,j,rfl,rfl,hc,q⟩:=h;obtain⟨t,rfl⟩:=rx;obtain⟨t',rfl⟩:=ry;exact rule i j t t' s _ _ hc ⟨.int (g i j),H,I.tok _,⟨_,rfl⟩,q⟩
theorem Ck{f:Value->Value->Sem Value}{g:Int->Int->Int}
 (rule:∀(i j:Int) (t u:Tok) (s:Shared) (Q:Uo) (E:Uo),Q (.int (g i j) s.toks) {s with toks:=s.toks+1}->wpAny (model X.prog X.w) X.A (f (.int i t) (.int j u)) Q E s) :
 kD X f (Bd fun i j=> .int (g i j)):=by
 intro pins s σ H x y v u Q I rx ry h;obtain⟨i,j,rfl,rfl,q⟩:=h;obtain⟨t,rfl⟩:=rx;obtain⟨t',rfl⟩:=ry;exact rule i j t t' s _ _ ⟨.int (g i j),H,I.tok _,⟨_,rfl⟩,q⟩
theorem IV{f:Value->Value->Sem Value}{g:Int->Int->Bool}
 (rule:∀(i j:Int) (t u:Tok) (s:Shared) (Q:Uo) (E:Uo),Q (.bool (g i j)) s->wpAny (model X.prog X.w) X.A (f (.int i t) (.int j u)) Q E s) :
 kD X f (Bd fun i j=> .bl (g i j)):=by
 intro pins s σ H x y v u Q I rx ry h;obtain⟨i,j,rfl,rfl,q⟩:=h;obtain⟨t,rfl⟩:=rx;obtain⟨t',rfl⟩:=ry;exact rule i j t t' s _ _ ⟨.bl (g i j),H,I,rfl,q⟩
def Nq(i j:Int):Prop:=0 < j/\j < 1073741824
def Px(i j:Int):Prop:=j≠0/\j.natAbs < 1073741824
def Kx(i j:Int):Prop:=0<=j/\j<=1000000/\i.natAbs < 2 ^ 64
def H0(i j:Int):Prop:=(-(2 ^ 64) < i/\i < 2 ^ 64)\/(-(2 ^ 64) < j/\j < 2 ^ 64)
theorem H0.ok{i j:Int}(h:H0 i j):IntMulOk i j:=by
 rcases h with⟨h1,h2⟩ | ⟨h1,h2⟩
 .exact .of_left (intBits_le_64 h1 h2)
 .exact .of_right (intBits_le_64 h1 h2)
theorem HM:kD X (binaryOp .Add) (Bd fun i j=> .int (i+j)):=Ck fun _ _ _ _ _ _ _ q=>add_int q
theorem Jd:kD X (binaryOp .Sub) (Bd fun i j=> .int (i - j)):=Ck fun _ _ _ _ _ _ _ q=>sub_int q
theorem Iw:kD X (binaryOp .Mult) (rI H0 fun i j=> .int (i*j)):=Kz fun _ _ _ _ _ _ _ hc q=>mul_int q hc.ok
theorem Ge:kD X (binaryOp .FloorDiv) (rI Nq fun i j=> .int (i / j)):=Kz fun i j _ _ _ _ _ hc q=>by
 have h1:(0:Int) < j:=hc.1;have h2:j < 1073741824:=hc.2;exact floordiv_int (by omega) (by rw[Int.fdiv_eq_ediv_of_nonneg i (by omega)];exact q) (.inl (PyProof.noPylong_small (by omega)))
theorem Jk:kD X (binaryOp .Mod) (rI (fun _ j=>0 < j) fun i j=> .int (i % j)):=Kz fun i j _ _ _ _ _ hc q=>by
 have h1:(0:Int) < j:=hc;exact mod_int' (by omega) (by rw[Int.fmod_eq_emod_of_nonneg i (by omega)];exact q)
theorem HZ:kD X (binaryOp .Pow) (rI Kx fun i j=> .int (i ^ j.toNat)):=Kz fun _ _ _ _ _ _ _ hc q=>pow_int_small hc.1 hc.2.1 hc.2.2 q
theorem HX:kD X (binaryOp .LShift) (rI Kx fun i j=> .int (i*2 ^ j.toNat)):=Kz fun _ _ _ _ _ _ _ hc q=>lshift_int_small hc.1 hc.2.1 hc.2.2 q
theorem Jl:kD X (binaryOp .BitAnd) (Bd fun i j=> .int (Builtin.bitAnd i j)):=Ck fun _ _ _ _ _ _ _ q=>and_int q
theorem Kj:kD X (binaryOp .BitOr) (Bd fun i j=> .int (Builtin.bitOr i j)):=Ck fun _ _ _ _ _ _ _ q=>or_int q
theorem Ic:kD X (binaryOp .BitXor) (Bd fun i j=> .int (Builtin.bitXor i j)):=Ck fun _ _ _ _ _ _ _ q=>xor_int q
theorem Qk{f:Value->Sem Value}{g:Int->Int}
 (rule:∀(i:Int) (t:Tok) (s:Shared) (Q:Uo) (E:Uo),Q (.int (g i) s.toks) {s with toks:=s.toks+1}->wpAny (model X.prog X.w) X.A (f (.int i t)) Q E s) :
 MR X f (rU fun i=> .int (g i)):=by
 intro pins s σ H x v Q I rx h;obtain⟨i,rfl,q⟩:=h;obtain⟨t,rfl⟩:=rx;exact rule i t s _ _ ⟨.int (g i),H,I.tok _,⟨_,rfl⟩,q⟩
theorem JG:MR X (unaryOp .USub) (rU fun i=> .int (-i)):=Qk fun _ _ _ _ _ q=>neg_int q
end
def K8:V->V->Bool
 | .bQ, .bQ=>true | .bQ, .int _=>true | .int _, .bQ=>true | .bQ, .bl _=>true | .bl _, .bQ=>true | .bQ, .str _=>true | .str _, .bQ=>true
 | .int _, .int _=>true | .bl _, .bl _=>true | .str _, .str _=>true | .byt _, .byt _=>true
 | .int _, .str _=>true | .str _, .int _=>true | .bl _, .str _=>true | .str _, .bl _=>true
 | _,_=>false
def Qd:R2:=fun x y H Q=>K8 x y=true/\Q (.bl (decide (x=y))) H
def Rc:R2:=fun x y H Q=>K8 x y=true/\Q (.bl (!decide (x=y))) H
theorem yY{i j:Int}:decide (V.int i=V.int j)=(i==j):=by
 rw[Bool.eq_iff_iff];simp
theorem DG{i j:Bool}:decide (V.bl i=V.bl j)=(i==j):=by
 rw[Bool.eq_iff_iff];simp
theorem zZ:decide (V.str i=V.str j)=(i==j):=by
 rw[Bool.eq_iff_iff];simp
theorem zo{i j:Array UInt8}:decide (V.byt i=V.byt j)=(i.toList==j.toList):=by
 rw[Bool.eq_iff_iff];cases i;cases j;simp
section
variable {X:Cx} {a b c:Expr} {ta tb tc:TE} {pos:Pos}
theorem bx{pins:Um}{s:Shared}{Q:VK}{k k':Bool}(I:Inv X pins σ H s)(q:Q (.bl k) H)(e:k=k'):EP X pins σ Q (.bool k') s:=by
 subst e;exact⟨.bl k,H,I,rfl,q⟩
theorem Co:kD X (compareOp .Eq) Qd:=by
 intro pins s σ H x y v u Q I rx ry h;obtain⟨hs,q⟩:=h;cases x with
 | bQ=>
   cases rx;cases y with
   | bQ=>cases ry;exact PySem.EqNone.eq_none_none (bx I q (by simp))
   | bl j=>cases ry;exact PySem.EqNone.eq_none_bool (bx I q (by simp))
   | int j=>obtain⟨t',rfl⟩:=ry;exact PySem.EqNone.eq_none_int (bx I q (by simp))
   | str j=>obtain⟨t',rfl⟩:=ry;exact PySem.EqNone.eq_none_str (bx I q (by simp))
   | _=>exact absurd (show false=true from hs) Bool.false_ne_true
 | bl i=>
   cases rx;cases y with
   | bQ=>cases ry;exact PySem.EqNone.eq_bool_none (bx I q (by simp))
   | bl j=>cases ry;exact eq_bool (bx I q DG)
   | str j=>obtain⟨t',rfl⟩:=ry;exact PySem.EqMixed.eq_bool_str (bx I q (by simp))
   | _=>exact absurd (show false=true from hs) Bool.false_ne_true
 | int i=>
   obtain⟨t,rfl⟩:=rx;cases y with
   | bQ=>cases ry;exact PySem.EqNone.eq_int_none (bx I q (by simp))
   | int j=>obtain⟨t',rfl⟩:=ry;exact eq_int (bx I q yY)
   | str j=>obtain⟨t',rfl⟩:=ry;exact PySem.EqMixed.eq_int_str (bx I q (by simp))
   | _=>exact absurd (show false=true from hs) Bool.false_ne_true
 | str i=>
   obtain⟨t,rfl⟩:=rx;cases y with
   | bQ=>cases ry;exact PySem.EqNone.eq_str_none (bx I q (by simp))
   | bl j=>cases ry;exact PySem.EqMixed.eq_str_bool (bx I q (by simp))
   | int j=>obtain⟨t',rfl⟩:=ry;exact PySem.EqMixed.eq_str_int (bx I q (by simp))
   | str j=>obtain⟨t',rfl⟩:=ry;exact eq_str (bx I q zZ)
   | _=>exact absurd (show false=true from hs) Bool.false_ne_true
 | byt i=>
   obtain⟨t,rfl⟩:=rx;cases y with
   | byt j=>obtain⟨t',rfl⟩:=ry;exact PySem.W.eq_bytes (bx I q zo)
   | _=>exact absurd (show false=true from hs) Bool.false_ne_true
 | _=>cases y <;> exact absurd (show false=true from hs) Bool.false_ne_true
theorem DD:kD X (compareOp .NotEq) Rc:=by
 intro pins s σ H x y v u Q I rx ry h;obtain⟨hs,q⟩:=h;cases x with
 | bQ=>
   cases rx;cases y with
   | bQ=>cases ry;exact PySem.EqNone.ne_none_none (bx I q (by simp))
   | bl j=>cases ry;exact PySem.EqNone.ne_none_bool (bx I q (by simp))
   | int j=>obtain⟨t',rfl⟩:=ry;exact PySem.EqNone.ne_none_int (bx I q (by simp))
   | str j=>obtain⟨t',rfl⟩:=ry;exact PySem.EqNone.ne_none_str (bx I q (by simp))
   | _=>exact absurd (show false=true from hs) Bool.false_ne_true
 | bl i=>
   cases rx;cases y with
   | bQ=>cases ry;exact PySem.EqNone.ne_bool_none (bx I q (by simp))
   | bl j=>cases ry;exact ne_bool (bx I q (congrArg not DG))
   | str j=>obtain⟨t',rfl⟩:=ry;exact PySem.EqMixed.ne_bool_str (bx I q (by simp))
   | _=>exact absurd (show false=true from hs) Bool.false_ne_true
 | int i=>
   obtain⟨t,rfl⟩:=rx;cases y with
   | bQ=>cases ry;exact PySem.EqNone.ne_int_none (bx I q (by simp))
   | int j=>obtain⟨t',rfl⟩:=ry;exact ne_int (bx I q (congrArg not yY))
   | str j=>obtain⟨t',rfl⟩:=ry;exact PySem.EqMixed.ne_int_str (bx I q (by simp))
   | _=>exact absurd (show false=true from hs) Bool.false_ne_true
 | str i=>
   obtain⟨t,rfl⟩:=rx;cases y with
   | bQ=>cases ry;exact PySem.EqNone.ne_str_none (bx I q (by simp))
   | bl j=>cases ry;exact PySem.EqMixed.ne_str_bool (bx I q (by simp))
   | int j=>obtain⟨t',rfl⟩:=ry;exact PySem.EqMixed.ne_str_int (bx I q (by simp))
   | str j=>obtain⟨t',rfl⟩:=ry;exact ne_str (bx I q (congrArg not zZ))
   | _=>exact absurd (show false=true from hs) Bool.false_ne_true
 | byt i=>
   obtain⟨t,rfl⟩:=rx;cases y with
   | byt j=>obtain⟨t',rfl⟩:=ry;exact PySem.W.ne_bytes (bx I q (congrArg not zo))
   | _=>exact absurd (show false=true from hs) Bool.false_ne_true
 | _=>cases y <;> exact absurd (show false=true from hs) Bool.false_ne_true
theorem Lu:kD X (compareOp .LtE) (Bd fun i j=> .bl (decide (i<=j))):=IV fun _ _ _ _ _ _ _ q=>le_int q
theorem Ls:kD X (compareOp .Gt) (Bd fun i j=> .bl (decide (j < i))):=IV fun _ _ _ _ _ _ _ q=>gt_int q
theorem Ke:kD X (compareOp .GtE) (Bd fun i j=> .bl (decide (j<=i))):=IV fun _ _ _ _ _ _ _ q=>ge_int q
theorem Ad:kD X (compareOp .In) (fun x y H Q=>∃i j,x= .str i/\y= .str j/\Q (.bl (!(Builtin.Str.occurrences j i 0 j.length 1).isEmpty)) H):=by
 intro pins s σ H x y v u Q I rx ry h;obtain⟨i,j,rfl,rfl,q⟩:=h;obtain⟨t,rfl⟩:=rx;obtain⟨t',rfl⟩:=ry;exact in_str (bx I q rfl)
theorem IK:kD X (compareOp .Is) (fun x y H Q=>y= .bQ/\Q (.bl (decide (x= .bQ))) H):=by
 intro pins s σ H x y v u Q I rx ry h;obtain⟨rfl,q⟩:=h;cases ry;refine is_none_gen (bx I q ?_);cases x <;> first
  | (cases rx;rfl)
  | (obtain⟨t,rfl⟩:=rx;rfl)
theorem EC:kD X (compareOp .IsNot) (fun x y H Q=>y= .bQ/\Q (.bl (!decide (x= .bQ))) H):=by
 intro pins s σ H x y v u Q I rx ry h;obtain⟨rfl,q⟩:=h;cases ry;refine isnot_none_gen (bx I q ?_);cases x <;> first
  | (cases rx;rfl)
  | (obtain⟨t,rfl⟩:=rx;rfl)
theorem uQ:kD X (compareOp .NotIn) (fun x y H Q=>∃i j,x= .str i/\y= .str j/\Q (.bl (!(!(Builtin.Str.occurrences j i 0 j.length 1).isEmpty))) H):=by
 intro pins s σ H x y v u Q I rx ry h;obtain⟨i,j,rfl,rfl,q⟩:=h;obtain⟨t,rfl⟩:=rx;obtain⟨t',rfl⟩:=ry;exact notIn_str (bx I q rfl)
def isObj:HO->Bool
 | .lst _=>true
 | .ins _ _ _=>true
 | _=>false
theorem cD(b:Expr){op:CmpOp}(h:op≠ .In:=by decide)(h2:op≠ .NotIn:=by decide):behindInMarks op b=false:=by
 have e1:(op==CmpOp.In)=false:=by cases op <;> first | rfl | exact absurd rfl h
 have e2:(op==CmpOp.NotIn)=false:=by cases op <;> first | rfl | exact absurd rfl h2
 cases b <;> simp [behindInMarks,e1,e2]
theorem zy{op:CmpOp}{r:R2}(ho:kD X (compareOp op) r)(ha:PE X a ta)(hb:PE X b tb)(hm:behindInMarks op b=false):PE X (.Compare a [op] [b] pos) (J1 r ta tb):=by
 intro pins s σ H Q I h;exact wpAny_Compare1 (Jc ha hb I h fun v u s2 x y H2 I2 rx ry q=>ho pins s2 σ H2 x y v u Q I2 rx ry q) hm
def LB(t:TE):TT:=fun σ H Q=>t σ H fun x H'=>∃k,x= .bl k/\Q k H'
theorem zG{op:CmpOp}{r:R2}(ho:kD X (compareOp op) r)(ha:PE X a ta)(hb:PE X b tb)(hm:behindInMarks op b=false):PT X (.Compare a [op] [b] pos) (LB (J1 r ta tb)):=by
 intro pins s σ H Q I h;refine wpAny_isTrue_Compare1 (du (ha pins s σ H _ I h) fun v s1 ⟨x,H1,I1,r1,q1⟩=>du (hb pins s1 σ H1 _ I1 q1) fun u s2 ⟨y,H2,I2,r2,q2⟩=>
  du (ho pins s2 σ H2 x y v u _ I2 r1 r2 q2) fun c s3 ⟨z,H3,I3,r3,k,e,q3⟩=>?_) hm
 subst e;cases r3;exact wpAny_truthy_bool ⟨H3,I3,q3⟩
def NC(r r':R2)(ta tb tc:TE):TE:=fun σ H Q=>ta σ H fun x H1=>tb σ H1 fun y H2=>r x y H2 fun z H3=>∃k,z= .bl k/\
 (if k=true then tc σ H3 fun w' H4=>r' y w' H4 Q else Q (.bl false) H3)
def Ff(K:W.Frag)(x:V)(H:Hp)(k:Bool):Prop:=
 match x with
 | .bQ=>k=false
 | .bl b=>k=b
 | .int i=>k=(i !=0)
 | .str y=>y.length<=sizeLine/\k=((y.length:Int) !=0)
 | .byt y=>y.size<=sizeLine/\k=((y.size:Int) !=0)
 | .ref p=>(∃xs,mZ K H p xs/\k=!xs.isEmpty)\/(∃xs,pB K H p xs/\k=!xs.isEmpty)\/∃kvs,H p=some (.dK kvs)/\k=!kvs.isEmpty
 | _=>False
theorem xX{κ:Type}{kvs:List (κ × V)}{vs:List (κ × Value)}(r:KV kvs vs):(!vs.isEmpty)=!kvs.isEmpty:=by
 cases r <;> rfl
theorem qK{xs:List V}{its:List Value}(r:Vals xs its):(!its.toArray.isEmpty)=!xs.isEmpty:=by
 cases r <;> simp
theorem oB:(sizeLine:Nat) < 2 ^ 63:=by rw[sizeLine_eq];decide
theorem HV:Nv X (fun x H Q=>∃k,Ff X.K x H k/\Q k H):=by
 intro pins s σ H x v Q I rx h;obtain⟨k,e,q⟩:=h;have hl:=oB;have hs:sizeLine=16777216:=sizeLine_eq;cases x with
 | bQ=>
   cases rx;have e':k=false:=e;subst e';exact truthy_none ⟨H,I,q⟩
 | bl b=>
   cases rx;have e':k=b:=e;subst e';exact wpAny_truthy_bool ⟨H,I,q⟩
 | int i=>
   obtain⟨t,rfl⟩:=rx;have e':k=(i !=0):=e;subst e';exact PySem.P.truthy_int ⟨H,I,q⟩
 | str y=>
   obtain⟨t,rfl⟩:=rx;obtain⟨hy,e'⟩:y.length<=sizeLine/\k=((y.length:Int) !=0):=e;subst e';exact PySem.P.truthy_str (by omega) ⟨H,I.tok _,q⟩
 | byt y=>
   obtain⟨t,rfl⟩:=rx;obtain⟨hy,e'⟩:y.size<=sizeLine/\k=((y.size:Int) !=0):=e;subst e';exact PySem.W.truthy_bytes (by omega) ⟨H,I.tok _,q⟩
 | ref p=>
   cases rx;have e':(∃xs,mZ X.K H p xs/\k=!xs.isEmpty)\/(∃xs,pB X.K H p xs/\k=!xs.isEmpty)\/∃kvs,H p=some (.dK kvs)/\k=!kvs.isEmpty:=e;rcases e' with⟨xs,hx,e'⟩ | ⟨xs,hx,e'⟩ | ⟨kvs,hx,e'⟩
   .subst e';obtain⟨its,r,pl,hz⟩:=I.list hx;have hlen:=r.length;exact wpAny_truthy_list pl.isList (by simp only[List.size_toArray];omega) ⟨H,I.tok _,by rw[qK r];exact q⟩
   .subst e';obtain⟨its,r,pl,hz⟩:=I.tuple hx;have hlen:=r.length;exact truthy_tuple pl (by simp only[List.size_toArray];omega) ⟨H,I.tok _,by rw[qK r];exact q⟩
   .subst e';obtain⟨hz,hS,vs,r,m⟩:kvs.length<=sizeLine/\(p==sysModules)=false/\∃vs,KV kvs vs/\s.heap.DictOf (c0 X.prog X.w) p vs:=I.hok p _ hx;have hlen:kvs.length=vs.length:=Paired.length r;exact wpAny_truthy_dict hS m (by omega) ⟨H,I.tok _,by rw[xX r];exact q⟩
 | _=>exact(show False from e).elim
theorem wZ(ha:PE X a ta)(he:∀whole,isTrue a X.env whole=(do let v <-whole;standAt a.pos;holding [v] (truthy v))) :
 PT X a (fun σ H Q=>ta σ H fun x H'=>∃k,Ff X.K x H' k/\Q k H'):=by
 intro pins s σ H Q I h;exact isTrue_plain (du (ha pins s σ H _ I h) fun v s1 ⟨x,H1,I1,r1,q1⟩=>HV pins s1 σ H1 x v Q I1 r1 q1) (he _)
theorem xN:kD X (binaryOp .Add) (fun x y H Q=>∃i j,x= .str i/\y= .str j/\i.length+j.length<=sizeLine/\Q (.str (i++j)) H):=by
 intro pins s σ H x y v u Q I rx ry h;obtain⟨i,j,rfl,rfl,hz,q⟩:=h;obtain⟨t,rfl⟩:=rx;obtain⟨t',rfl⟩:=ry;exact add_str (fun t' tk=>⟨.str (i++j),H,I.tok _,⟨_,rfl⟩,q⟩) hz
def Ku(b:Expr):Prop:=∀o i,subscripted b false o i=operate [o,i] (getItem o i)
theorem vals1{x:V}{us:List Value}(r:Vals [x] us):∃u,us=[u]/\RelV x u:=by
 cases r with
 | cons r1 r2=>cases r2;exact⟨_,rfl,r1⟩
theorem vals2{x y:V}{us:List Value}(r:Vals [x,y] us):∃u w',us=[u,w']/\RelV x u/\RelV y w':=by
 cases r with
 | cons r1 r2=>
   cases r2 with
   | cons r3 r4=>cases r4;exact⟨_,_,rfl,r1,r3⟩
theorem A_(hc:X.calm=true):kC X (.builtin "min") (fun xs H Q=>∃i j,xs=[.int i, .int j]/\Q (.int (if j < i then j else i)) H):=by
 intro pins s σ H xs us Q I r h;obtain⟨i,j,rfl,q⟩:=h;obtain⟨u,w',rfl,⟨t,rfl⟩,⟨t',rfl⟩⟩:=vals2 r;refine min_two_ints (I.ok.hd hc) fun h' tk k=>⟨_,H,I.kept k,?_,q⟩
 by_cases hj:j < i
 .rw [if_pos hj,if_pos hj];exact⟨_,rfl⟩
 .rw [if_neg hj,if_neg hj];exact⟨_,rfl⟩
theorem Ax:kC X (.type "int") (fun xs H Q=>(∃i,xs=[.int i]/\Q (.int i) H)\/∃k,xs=[.bl k]/\Q (.int (if k then 1 else 0)) H):=by
 intro pins s σ H xs us Q I r h;rcases h with⟨i,rfl,q⟩ | ⟨k,rfl,q⟩
 .obtain⟨u,rfl,t,rfl⟩:=vals1 r;exact call_int_int ⟨.int i,H,I,⟨_,rfl⟩,q⟩
 .obtain⟨u,rfl,r1⟩:=vals1 r;cases r1;exact call_int_bool ⟨.int (if k then 1 else 0),H,I.tok _,⟨_,rfl⟩,q⟩
def MG(K:W.Frag)(x:V)(H:Hp)(n:Nat):Prop:=
 match x with
 | .str y=>y.length<=sizeLine/\n=y.length
 | .byt y=>y.size<=sizeLine/\n=y.size
 | .ref p=>(∃xs,mZ K H p xs/\n=xs.length)\/∃xs,pB K H p xs/\n=xs.length
 | _=>False
theorem CM:kC X (.builtin "len") (fun xs H Q=>∃x n,xs=[x]/\MG X.K x H n/\Q (.int n) H):=by
 intro pins s σ H xs us Q I r h;obtain⟨x,n,rfl,e,q⟩:=h;obtain⟨u,rfl,rx⟩:=vals1 r;have hl:=oB;have hs:sizeLine=16777216:=sizeLine_eq;cases x with
 | str y=>
   obtain⟨t,rfl⟩:=rx;obtain⟨hy,e'⟩:y.length<=sizeLine/\n=y.length:=e;subst e';exact len_str (by omega) ⟨.int _,H,I.tok _,⟨_,rfl⟩,q⟩
 | byt y=>
   obtain⟨t,rfl⟩:=rx;obtain⟨hy,e'⟩:y.size<=sizeLine/\n=y.size:=e;subst e';exact PySem.W.len_bytes (by omega) ⟨.int _,H,I.tok _,⟨_,rfl⟩,q⟩
 | ref p=>
   cases rx;have e':(∃xs,mZ X.K H p xs/\n=xs.length)\/∃xs,pB X.K H p xs/\n=xs.length:=e;rcases e' with⟨xs,hx,e'⟩ | ⟨xs,hx,e'⟩
   .subst e';obtain⟨its,r',pl,hz⟩:=I.list hx;have hlen:=r'.length;exact Calls.call_len_list pl.isList (by simp only[List.size_toArray];omega) ⟨.int xs.length,H,I.tok _,⟨_,by simp only[List.size_toArray];rw [hlen]⟩,q⟩
   .subst e';obtain⟨its,r',pl,hz⟩:=I.tuple hx;have hlen:=r'.length;exact len_tuple pl (by simp only[List.size_toArray];omega) ⟨.int xs.length,H,I.tok _,⟨_,by simp only[List.size_toArray];rw [hlen]⟩,q⟩
 | _=>exact(show False from e).elim
end
structure yH (h:Heap) (x dx C:Addr) (mA:Ut):Prop where
 obj:h.get? x=some (PySem.W.instObj C dx)
 ns:h.Ns1 dx mA
 ne:dx≠x
theorem A7{h:Heap}{dx:Addr}{mA:Ut}(n:h.Ns1 dx mA):∃od,h.get? dx=some od/\∀name,PySem.W.lookIn name od=some (mA name):=by
 obtain⟨o,es,ep,ho,hd,hk,_,hm⟩:=n;refine⟨o,ho,fun name=>?_⟩
 have e:=hm name;unfold nsFind findBy at e;rw[<-Array.find?_toList] at e;unfold PySem.W.lookIn;rw[hd];dsimp only;split
 .rename_i y q;rw[q] at e;exact congrArg some e
 .rename_i q;rw[q] at e;have a:es.toList.any (·.refKey)=false:=by
   rw[List.any_eq_false];intro y hy;obtain⟨z,t,hkey⟩:=hk y (Array.mem_toList_iff.mp hy);simp [DictEntry.refKey,hkey]
  have a':¬es.toList.any (·.refKey)=true:=by rw[a];exact Bool.false_ne_true
  rw[if_neg a'];exact congrArg some e
theorem yH.look{x dx C:Addr}{mA:Ut}(I:yH h x dx C mA):∃od,PySem.W.InstAt h x (PySem.W.instObj C dx) C (some od)/\∀name,PySem.W.lookIn name od=some (mA name):=
 let⟨od,ho,hl⟩:=A7 I.ns
 ⟨od,⟨I.obj,rfl,rfl,ho⟩,hl⟩
section
variable {prog:Program} {w:World} {A:Around} {E:Uo} {s:Shared} {K:W.Frag} {x dx C f:Addr} {mA:Ut} {name:Str} {v:Value}
theorem get_map{expr:Bool}{Q:Uo}(X:K.In s.heap)(I:yH s.heap x dx C mA)(hg:PySem.W.plainGet K C name=true)(hh:PySem.W.hasDictIn K C=true)
 (ha:PySem.W.findIn K (.ref C) name=some none) (hv:mA name=some v) (SA:PySem.W.handedIn v=true) (h:Q v {s with toks:=s.toks+1}) :
 wpAny (model prog w) A (getAttr (.ref x) name expr) Q E s:=by
 obtain⟨od,J,hl⟩:=I.look;exact PySem.W.get_value X J (PySem.W.plainGet_of hg).1 (PySem.W.findObj_own hh ha rfl (by rw[hl,hv])) SA h
theorem CZ{pl:Sem Bool}{Q:Value × List Value->Shared->Prop}(X:K.In s.heap)(I:yH s.heap x dx C mA)(hg:PySem.W.plainGet K C name=true)
 (hf:PySem.W.findIn K (.ref C) name=some (some (.ref f))) (ht:PySem.W.isFn K (.ref f)=true) (hv:mA name=none) (h:Q (.ref f,[.ref x]) s) :
 wpAny (model prog w) A (getMethod (.ref x) name pl) Q E s:=by
 obtain⟨od,J,hl⟩:=I.look;exact PySem.W.method_fn X J (PySem.W.plainGet_of hg).1 (PySem.W.plainGet_of hg).2 hf (beq_iff_eq.mp ht) (by show(PySem.W.lookIn name od).map (·.isSome)=some false;rw [hl,hv];rfl) h
theorem Gg{ns:List Str}{Q:Unit->Shared->Prop}(X:K.In s.heap)(I:yH s.heap x dx C mA)
 (hs:PySem.W.findIn K (.ref C) "__setattr__"=some (some (.builtin "object.__setattr__"))) (hp:PySem.W.plainOver K C=true) (ht:PySem.W.takerIn K C name=some none) (hh:PySem.W.hasDictIn K C=true)
 (hw:PySem.Within mA ns) (hsz:ns.length<=sizeLine)
 (h:∀h',yH h' x dx C (fun y=>if y=name then some v else mA y)->Heap.SameBut dx s.heap h'->Q () {s with heap:=h',toks:=s.toks+2}) :
 wpAny (model prog w) A (setAttr (.ref x) name v) Q E s:=by
 obtain⟨od,J,hl⟩:=I.look;refine PySem.W.set_plain X J hs (PySem.W.osa_open (s:={s with toks:=s.toks+1}) (r:=none) X J hp ht fun b=>?_)
 obtain⟨cd,hc,Ot⟩:=PySem.W.any_some hh;have hx:s.heap.get? x=some ⟨.ref C,some dx, .plain,#[]⟩:=I.obj;refine wpAny_bind (wpAny_pure (wpAny_bind (wpAny_bind (wpAny_loadPart hx (wpAny_bind (PySem.W.Looks.here (s:={s with toks:=s.toks+1}) (PySem.W.looks_clsIn X hc) ?_))))))
 rw[Ot];refine wpAny_pure (a:=some dx) (wpAny_bind (wpAny_pure (wpAny_bind ?_)));refine wpAny_nsSet1 (s:={s with toks:=s.toks+1}) I.ns fun h' MC Bh=>?_
 obtain⟨oD,esD,epD,hoD,hdD,hcD⟩:=MC.count (PySem.Within.cons name v hw);refine wpAny_bind (wpAny_lookBehind hoD (by rw[hdD];exact pastItsLine_dict (Nat.le_trans hcD (by rw[List.length_cons];omega))) ?_)
 exact wpAny_pure (h _ ⟨(Bh.2 _ (Ne.symm I.ne)).trans I.obj,MC,I.ne⟩ Bh)
theorem Cc{R:Result->Shared->Prop}{vs:List Value}{kw:List (Str × Value)}(X:K.In s.heap)(hm:PySem.W.makesIn K C=true)
 (hi:PySem.W.findIn K (.ref C) "__init__"=some (some (.ref f))) (hf:PySem.W.typeIn K (.ref f)=some (.type "function"))
 (h:codeAny (model prog w) (A.under (.builtin "type.__call__" ⟨.ref C ::vs,kw⟩)) (.call (.ref f) ⟨.ref (s.heap.objs.size+1) ::vs,kw⟩) (PySem.W.InitBack (s.heap.objs.size+1) R)
   {s with heap:=(s.heap.push PySem.W.emptyDict).push (PySem.W.instObj C s.heap.objs.size)}) :
 codeAny (model prog w) A (.call (.ref C) ⟨vs,kw⟩) R s:=by
 obtain⟨hh,g,d,t,os⟩:=s;exact PySem.W.make_core (PySem.W.makes_of X hm) (PySem.W.looks_findIn X hi) (fun self=>PySem.W.bind_fn X self hf) (.inl rfl) h
end
def jl(f:Str)(v:V):List (Str × V)->List (Str × V)
 | []=>[(f,v)]
 | (g,x) ::r=>if g=f then(g,v) ::r else(g,x) ::jl f v r
theorem o_(f g:Str)(v:V):∀fs:List (Str × V),(jl f v fs).lookup g=if g=f then some v else fs.lookup g
 | []=>by
   show List.lookup g [(f,v)]=_;by_cases h:g=f
   .have hb:(g==f)=true:=beq_iff_eq.mpr h;simp only[List.lookup,hb,if_pos h]
   .have hb:(g==f)=false:=beq_eq_false_iff_ne.mpr h;simp only[List.lookup,hb,if_neg h]
 | (k,x) ::r=>by
   have ih:=o_ f g v r;rw[show jl f v ((k,x) ::r)=(if k=f then(k,v) ::r else(k,x) ::jl f v r) from rfl]
   by_cases hk:k=f
   .rw [if_pos hk];by_cases h:g=k
    .have hb:(g==k)=true:=beq_iff_eq.mpr h;simp only[List.lookup,hb,if_pos (h.trans hk)]
    .have hb:(g==k)=false:=beq_eq_false_iff_ne.mpr h;simp only[List.lookup,hb,if_neg (fun e:g=f=>h (e.trans hk.symm))]
   .rw [if_neg hk];by_cases h:g=k
    .have hb:(g==k)=true:=beq_iff_eq.mpr h;simp only[List.lookup,hb,if_neg (fun e:g=f=>hk (h.symm.trans e))]
    .have hb:(g==k)=false:=beq_eq_false_iff_ne.mpr h;simp only[List.lookup,hb];exact ih
theorem ox(f:Str)(v:V):∀fs:List (Str × V),f∈(jl f v fs).map (·.1)/\∀g,g∈fs.map (·.1)->g∈(jl f v fs).map (·.1)
 | []=>⟨by simp [jl],fun g h=>by simp at h⟩
 | (k,x) ::r=>by
   obtain⟨i1,i2⟩:=ox f v r;rw[show jl f v ((k,x) ::r)=(if k=f then(k,v) ::r else(k,x) ::jl f v r) from rfl]
   by_cases hk:k=f
   .rw [if_pos hk];subst hk;exact⟨by simp,fun g h=>by simpa using h⟩
   .rw [if_neg hk];refine⟨?_,fun g h=>?_⟩
    .rw [List.map_cons];exact List.mem_cons_of_mem _ i1
    .rw [List.map_cons] at h ⊢;rcases List.mem_cons.mp h with e | e
     .exact List.mem_cons.mpr (.inl e)
     .exact List.mem_cons_of_mem _ (i2 g e)
theorem pk(f:Str)(v:V):∀fs:List (Str × V),(jl f v fs).length<=fs.length+1
 | []=>by simp [jl]
 | (k,x) ::r=>by
   have ih:=pk f v r;rw[show jl f v ((k,x) ::r)=(if k=f then(k,v) ::r else(k,x) ::jl f v r) from rfl]
   by_cases hk:k=f
   .rw [if_pos hk,List.length_cons,List.length_cons];omega
   .rw [if_neg hk,List.length_cons,List.length_cons];omega
theorem nc.some_of{v:V}{o:Option Value}(r:nc (some v) o):∃u,o=some u/\RelV v u:=by
 cases o with
 | none=>exact(show False from r).elim
 | some u=>exact⟨u,rfl,r⟩
theorem nc.none_of{o:Option Value}(r:nc none o):o=none:=by
 cases o with
 | none=>rfl
 | some u=>exact(show False from r).elim
theorem AH{v:V}{u:Value}(r:RelV v u):PySem.W.handedIn u=true:=by
 cases v with
 | bQ=>cases(show u=Value.none from r);rfl
 | bl b=>cases(show u=Value.bool b from r);rfl
 | int i=>obtain⟨t,e⟩:=(show ∃t,u=Value.int i t from r);cases e;rfl
 | str x=>obtain⟨t,e⟩:=(show ∃t,u=Value.str x t from r);cases e;rfl
 | byt b=>obtain⟨t,e⟩:=(show ∃t,u=Value.bytes b t from r);cases e;rfl
 | flt b=>obtain⟨t,e⟩:=(show ∃t,u=Value.float b t from r);cases e;rfl
 | ref a=>cases(show u=Value.ref a from r);rfl
 | ty n=>cases(show u=Value.type n from r);rfl
section
variable {P:Program} {w:World} {H H':Hp} {h h':Heap} {a C dx:Addr} {fs J_:List (Str × V)}
theorem qg(hok:lT P w H h)(e:H a=some (.ins C dx fs)):∃mA,yH h a dx C mA/\(∀f,nc (fs.lookup f) (mA f))/\PySem.Within mA (fs.map (·.1))/\fs.length<=1000/\H dx=some (.own a):=by
 obtain⟨d,z,ne,ob,mA,n,r,q⟩:=(show cY P w H h a (.ins C dx fs) from hok a _ e)
 exact⟨mA,⟨ob,n,ne⟩,r,q,z,d⟩
end
structure vw (K:W.Frag) (C:Addr):Prop where
 pg:PySem.W.plainGet K C Str.empty=true
 hd:PySem.W.hasDictIn K C=true
 po:PySem.W.plainOver K C=true
 sa:PySem.W.findIn K (.ref C) "__setattr__"=some (some (.builtin "object.__setattr__"))
theorem vw.get{K:W.Frag}{C:Addr}(c:vw K C)(f:Str):PySem.W.plainGet K C f=true:=c.pg
def cI(K:W.Frag)(C:Addr)(f:Str):Prop:=PySem.W.findIn K (.ref C) f=some none
theorem cI.KR{K:W.Frag}{C:Addr}(n:cI K C f):PySem.W.takerIn K C f=some none:=by
 unfold PySem.W.takerIn;rw[show PySem.W.findIn K (.ref C) f=some none from n]
 rfl
structure QT (K:W.Frag) (C:Addr) (f:Str) (v:V) (u:Value):Prop where
 at_:PySem.W.findIn K (.ref C) f=some (some u)
 rel:RelV v u
 get:PySem.W.specialIn K u "__get__"=some none
 cp:PySem.W.copiedNames.contains f=false
structure Meth (K:W.Frag) (C:Addr) (m:Str) (f:Addr):Prop where
 at_:PySem.W.findIn K (.ref C) m=some (some (.ref f))
 fn:PySem.W.isFn K (.ref f)=true
 kp:PySem.W.keepIn K (.ref f)=true
section
variable {X:Cx} {pins:Um} {σ:St} {H:Hp} {s:Shared} {a C dx:Addr} {fs:List (Str × V)} {f:Str} {v:V} {A:Around} {E:Uo}
theorem x3{b:Bool}{Q:Uo}(I:Inv X pins σ H s)(e:H a=some (.ins C dx fs))(c:vw X.K C)(n:cI X.K C f)(l:fs.lookup f=some v)
 (h:∀u s',Inv X pins σ H s'->RelV v u->Q u s'):wpAny (model X.prog X.w) A (getAttr (.ref a) f b) Q E s:=by
 obtain⟨mA,O,r,_,_,_⟩:=qg I.hok e;obtain⟨u,hu,ru⟩:=nc.some_of (v:=v) (o:=mA f) (by rw[<-l];exact r f)
 exact get_map I.n0 O (c.get f) c.hd n hu (AH ru) (h u _ (I.tok _) ru)
theorem ya{m:Str}{g:Addr}{pl:Sem Bool}{Q:Value × List Value->Shared->Prop}(I:Inv X pins σ H s)(e:H a=some (.ins C dx fs))(c:vw X.K C)(k:Meth X.K C m g)(l:fs.lookup m=none)
 (h:Q (.ref g,[.ref a]) s):wpAny (model X.prog X.w) A (getMethod (.ref a) m pl) Q E s:=by
 obtain⟨mA,O,r,_,_,_⟩:=qg I.hok e;have hn:mA m=none:=nc.none_of (by rw[<-l];exact r m)
 exact CZ I.n0 O (c.get m) k.at_ k.fn hn h
theorem yf{y:V}{u:Value}{Q:Unit->Shared->Prop}(I:Inv X pins σ H s)(e:H a=some (.ins C dx fs))(c:vw X.K C)(n:cI X.K C f)(hl:fs.length < 1000)(ry:RelV y u)
 (h:∀s',Inv X pins σ (upd H a (.ins C dx (jl f y fs))) s'->Q () s'):wpAny (model X.prog X.w) A (setAttr (.ref a) f u) Q E s:=by
 obtain⟨mA,O,r,wi,_,ho⟩:=qg I.hok e;have hz:(fs.map (·.1)).length<=sizeLine:=by rw[List.length_map,sizeLine_eq];omega
 refine Gg I.n0 O c.sa c.po n.KR c.hd wi hz fun h' O' sb=>h _ ?_
 have hd:∃o,h'.get? dx=some o:=let⟨o,_,_,e',_⟩:=O'.ns;⟨o,e'⟩
 refine I.write (x:=a) (e:=dx) (by rw[e];exact True.intro) (.inr ho) (fun b q hb z=>(sb.2 b hb).trans z) hd ?_
 refine⟨by rw[aQ O.ne];exact ho,?_,O.ne,O'.obj,_,O'.ns,fun g=>?_,fun g hg=>?_⟩
 .have:=pk f y fs;omega
 .show nc ((jl f y fs).lookup g) (if g=f then some u else mA g)
  rw[o_];by_cases q:g=f
  .rw [if_pos q,if_pos q];exact ry
  .rw [if_neg q,if_neg q];exact r g
 .by_cases q:g=f
  .rw [q];exact(ox f y fs).1
  .refine(ox f y fs).2 g (wi g fun z=>hg ?_)
   show(if g=f then some u else mA g)=none
   rw[if_neg q];exact z
theorem Inv.made(I:Inv X pins σ H s):Inv X pins σ (upd (upd H s.heap.objs.size (.own (s.heap.objs.size+1))) (s.heap.objs.size+1) (.ins C s.heap.objs.size []))
 {s with heap:=(s.heap.push PySem.W.emptyDict).push (PySem.W.instObj C s.heap.objs.size)}:=by
 have e1:(s.heap.push PySem.W.emptyDict).get? s.heap.objs.size=some PySem.W.emptyDict:=Heap.get?_push_size s.heap rfl;have e2:((s.heap.push PySem.W.emptyDict).push (PySem.W.instObj C s.heap.objs.size)).get? (s.heap.objs.size+1)=some (PySem.W.instObj C s.heap.objs.size):=by
  have:=Heap.get?_push_size (s.heap.push PySem.W.emptyDict) (o:=PySem.W.instObj C s.heap.objs.size) rfl
  rwa [Heap.size_push] at this
 have e3:(s.heap.push PySem.W.emptyDict).Ns s.heap.objs.size (fun _=>none):=⟨PySem.W.emptyDict,#[],_,e1,rfl,(fun e he=>absurd he (by simp)),fun _=>rfl⟩
 have I1:=I.laid (a:=s.heap.objs.size) (o:= .own (s.heap.objs.size+1)) (h':=s.heap.push PySem.W.emptyDict) (t':=s.toks) (fun b u q=>Heap.get?_push_of_some _ q) (Nat.le_refl _) ⟨_,e1⟩
 refine I1.laid (a:=s.heap.objs.size+1) (o:= .ins C s.heap.objs.size []) (t':=s.toks) (fun b u q=>Heap.get?_push_of_some _ q) (Nat.le_of_eq (Heap.size_push _ _)) ?_
 have ne:s.heap.objs.size≠s.heap.objs.size+1:=Nat.ne_of_lt (Nat.lt_succ_self _);refine⟨by rw[aQ ne,aL],Nat.zero_le _,ne,e2,fun _=>none,(Heap.Ns1.of_empty e3).at fun o q=>Heap.get?_push_of_some _ q,fun _=>True.intro,fun y hy=>absurd rfl hy⟩
theorem E5{prog:Program}{w:World}{env:Env}{e:Expr}{f:Str}{pos:Pos}{s:Shared}{Q:Uo}(hb:attributeBase e f env (eval e env)=eval e env)
 (h:wpAny (model prog w) A (eval e env) (fun o s₁=>wpAny (model prog w) A (getAttr o f true) Q E s₁) E s):wpAny (model prog w) A (eval (.Attribute e f pos) env) Q E s:=
 Attribute_any_ h (by rw[arm_eval_Attribute,hb])
end
def M8(K:W.Frag)(ta:TE)(f:Str):TE:=fun σ H Q=>ta σ H fun x H1=>∃a C dx fs v,x= .ref a/\H1 a=some (.ins C dx fs)/\vw K C/\cI K C f/\fs.lookup f=some v/\Q v H1
def Q7(K:W.Frag)(ta:TE)(f:Str):TE:=fun σ H Q=>ta σ H fun x H1=>∃a C dx fs v u,x= .ref a/\H1 a=some (.ins C dx fs)/\vw K C/\QT K C f v u/\fs.lookup f=none/\Q v H1
def Nj(K:W.Frag)(ta tv:TE)(f:Str):TS:=fun D σ H=>tv σ H fun y H1=>ta σ H1 fun x H2=>∃a C dx fs,x= .ref a/\H2 a=some (.ins C dx fs)/\vw K C/\cI K C f/\fs.length < 1000/\
 D.nx σ (upd H2 a (.ins C dx (jl f y fs)))
def Rh(X:Cx)(op:Operator)(rd:V->V->Hp->VK->Prop):Prop:=
 ∀(pins:Um) (s:Shared) (σ:St) (H:Hp) (x y:V) (u v:Value) (Q:VK),Inv X pins σ H s->RelV x u->RelV y v->rd x y H Q->wpAny (model X.prog X.w) X.A (inplaceOp op u v) (EP X pins σ Q) X.xe s
def Mt(K:W.Frag)(ta tv:TE)(rd:V->V->Hp->VK->Prop)(f:Str):TS:=fun D σ H=>ta σ H fun x H1=>∃a C dx fs v,x= .ref a/\H1 a=some (.ins C dx fs)/\vw K C/\cI K C f/\fs.lookup f=some v/\
 tv σ H1 fun y H2=>rd v y H2 fun z H3=>∃dx' J_,H3 a=some (.ins C dx' J_)/\J_.length < 1000/\D.nx σ (upd H3 a (.ins C dx' (jl f z J_)))
section
variable {X:Cx} {o e value:Expr} {f:Str} {pos pos' oY:Pos} {ta tv:TE}
theorem Jv(he:PE X e ta)(hb:attributeBase e f X.env (eval e X.env)=eval e X.env):PE X (.Attribute e f pos) (M8 X.K ta f):=by
 intro pins s σ H Q I h;refine E5 hb (du (he pins s σ H _ I h) fun u s1 ⟨x,H1,I1,rx,a,C,dx,fs,v,ex,ea,c,n,l,q⟩=>?_)
 subst ex;obtain rfl:u=Value.ref a:=rx;exact x3 I1 ea c n l fun u' s2 I2 ru=>⟨v,H1,I2,ru,q⟩
theorem Jp(ha:PE X o ta)(hv:PE X value tv)(hs:swapsWith value (some (.Attribute o f pos')) pos.line X.env=pure false):PS X (.Assign [.Attribute o f pos'] value pos) (Nj X.K ta tv f):=by
 intro pins s σ H D I h;refine plainObj_wpAny_Assign_Attribute (du (hv pins s σ H _ I h) fun u s1 ⟨y,H1,I1,ry,q⟩=>du (ha pins s1 σ H1 _ I1 q) fun ov s2 ⟨x,H2,I2,rx,a,C,dx,fs,ex,ea,c,n,l,q2⟩=>?_) hs
 subst ex;obtain rfl:ov=Value.ref a:=rx;exact yf I2 ea c n l ry fun s3 I3=>⟨σ,_,I3,q2⟩
def Q1:V->V->Hp->VK->Prop:=fun x y H Q=>∃i j,x= .int i/\y= .int j/\Q (.int (i+j)) H
def Qu:V->V->Hp->VK->Prop:=fun x y H Q=>∃i j,x= .int i/\y= .int j/\Q (.int (i - j)) H
end
section
variable {X:Cx} {pins:Um} {σ:St} {H:Hp} {s:Shared} {A:Around} {E:Uo} {Q:Uo} {c:Value} {b:Bool}
inductive pG (K:W.Frag) (H:Hp):V->Value->Prop where
 | bQ:pG K H .bQ (.type "NoneType")
 | bl (x:Bool):pG K H (.bl x) (.type "bool")
 | int (i:Int):pG K H (.int i) (.type "int")
 | str (x:Str):pG K H (.str x) (.type "str")
 | flt (x:UInt64):pG K H (.flt x) (.type "float")
 | lst {a:Addr} {xs:List V} (e:H a=some (.lst xs)):pG K H (.ref a) (.type "list")
 | jf {a:Addr} {o:Obj} {xs:List V} (e:H a=some (.jf o (.lst xs))):pG K H (.ref a) (.type "list")
 | tup {a:Addr} {xs:List V} (e:H a=some (.tup xs)):pG K H (.ref a) (.type "tuple")
 | dK {a:Addr} {kvs:List (Key × V)} (e:H a=some (.dK kvs)):pG K H (.ref a) (.type "dict")
 | dT {a:Addr} {kvs:List (List Key × V)} (e:H a=some (.dT kvs)):pG K H (.ref a) (.type "dict")
 | ins {a C dx:Addr} {fs:List (Str × V)} (e:H a=some (.ins C dx fs)) (cl:vw K C) (ha:PySem.W.findIn K (.ref C) "__class__"=some (some (.builtin "object.__class__")))
    (hn:PySem.W.specialIn K (.builtin "object.__class__") "__get__"=some (some (.builtin "getset_descriptor.__get__"))) (MA:PySem.W.takesIn K (.builtin "object.__class__")=some true)
    (hm:PySem.W.mroIn K C (.type "object")=some true):pG K H (.ref a) (.ref C)
theorem lQ{x:V}{u t:Value}(I:Inv X pins σ H s)(rx:RelV x u)(ty:pG X.K H x t)(e:PySem.W.kitOne X.K t c=some b)(h:∀tk,Q (.bool b) {s with toks:=tk}) :
 wpAny (model X.prog X.w) A (call (.builtin "isinstance") [u,c]) Q E s:=by
 cases ty with
 | bQ=>cases(show u=Value.none from rx);exact PySem.W.kia_one PySem.W.kitx_none I.n0 True.intro e (fun z=>nomatch z) h
 | bl y=>cases(show u=Value.bool y from rx);exact PySem.W.kia_one PySem.W.kitx_bool I.n0 True.intro e (fun z=>nomatch z) h
 | int i=>obtain⟨t,q⟩:=(show ∃t,u=Value.int i t from rx);cases q;exact PySem.W.kia_one PySem.W.kitx_int I.n0 True.intro e (fun z=>nomatch z) h
 | str y=>obtain⟨t,q⟩:=(show ∃t,u=Value.str y t from rx);cases q;exact PySem.W.kia_one PySem.W.kitx_str I.n0 True.intro e (fun z=>nomatch z) h
 | flt y=>obtain⟨t,q⟩:=(show ∃t,u=Value.float y t from rx);cases q;exact PySem.W.kia_one PySem.W.kitx_float I.n0 True.intro e (fun z=>nomatch z) h
 | @lst a xs ea=>
   cases(show u=Value.ref a from rx)
   obtain⟨_,_,n,_,h1⟩:=(show cY X.prog X.w H s.heap a (.lst xs) from I.hok a _ ea)
   exact PySem.W.kia_one PySem.W.kitx_list I.n0 ⟨_,h1,rfl⟩ e (fun z=>nomatch z) h
 | @jf a ob xs ea=>
   cases(show u=Value.ref a from rx)
   obtain⟨_,_,_,n,_,h1⟩:=(show cY X.prog X.w H s.heap a (.jf ob (.lst xs)) from I.hok a _ ea)
   exact PySem.W.kia_one PySem.W.kitx_list I.n0 ⟨_,h1,rfl⟩ e (fun z=>nomatch z) h
 | @tup a xs ea=>
   cases(show u=Value.ref a from rx)
   obtain⟨_,_,_,p⟩:=(show cY X.prog X.w H s.heap a (.tup xs) from I.hok a _ ea)
   obtain⟨o,h1,h2,_⟩:=p;exact PySem.W.kia_one PySem.W.kitx_tuple I.n0 ⟨o,h1,h2⟩ e (fun z=>nomatch z) h
 | @dK a kvs ea=>
   cases(show u=Value.ref a from rx)
   obtain⟨_,_,vs,_,p⟩:=(show cY X.prog X.w H s.heap a (.dK kvs) from I.hok a _ ea)
   obtain⟨o,es,ep,h1,h2,_⟩:=p;exact PySem.W.kia_one PySem.W.kitx_dict I.n0 ⟨o,h1,h2.1⟩ e (fun z=>nomatch z) h
 | @dT a kvs ea=>
   cases(show u=Value.ref a from rx)
   obtain⟨_,_,xs,_,o,es,ep,h1,h2,_⟩:=(show cY X.prog X.w H s.heap a (.dT kvs) from I.hok a _ ea)
   exact PySem.W.kia_one PySem.W.kitx_dict I.n0 ⟨o,h1,h2.1⟩ e (fun z=>nomatch z) h
 | @ins a C dx fs ea cl ha hn MA hm=>
   cases(show u=Value.ref a from rx)
   obtain⟨mA,O,_⟩:=qg I.hok ea;obtain⟨od,J,_⟩:=O.look;exact PySem.W.kia_one (PySem.W.kitx_own (cl.get _) cl.hd ha hn MA hm) I.n0 J e (fun z=>nomatch z) h
end
structure dQ (k:Nat) (A:Around):Prop where
 hd:A.handled=none
 dp:A.depth+3*k+5 < recursionLimit
 un:A.units+16*k+200 < cLine
theorem dQ.mono{j k:Nat}(r:dQ k A)(h:j<=k):dQ j A:=⟨r.hd,by have:=r.dp;omega,by have:=r.un;omega⟩
theorem dQ.deeper{k:Nat}{A:Around}(r:dQ (k+1) A)(env:Env):dQ k (A.deeper env):=
 ⟨r.hd,by have:=r.dp;show A.depth+1+3*k+5 < _;omega,by have:=r.un;show A.units+3+16*k+200 < _;omega⟩
theorem yL{A:Around}{C:Addr}{us:List Value}{kw:List (Str × Value)}:(A.under (.builtin "type.__call__" ⟨.ref C ::us,kw⟩)).depth=A.depth+1:=by
 first | rfl | simp [Around.under,Code.weight,Code.isCreation,Code.isGuard,Code.isCaller,Code.frames,Code.isFrame,guardIds]
theorem xB{A:Around}{C:Addr}{us:List Value}{kw:List (Str × Value)}:(A.under (.builtin "type.__call__" ⟨.ref C ::us,kw⟩)).units=A.units+1:=by
 first | rfl | simp [Around.under,Code.cUnits,Code.frames,Code.isFrame]
theorem dQ.make{k:Nat}{A:Around}(r:dQ (k+1) A)(C:Addr)(us:List Value)(kw:List (Str × Value)):dQ k (A.under (.builtin "type.__call__" ⟨.ref C ::us,kw⟩)):=
 ⟨r.hd,by have:=r.dp;rw [yL];omega,by have:=r.un;rw [xB];omega⟩
theorem dQ.depth{k:Nat}{A:Around}(r:dQ k A):A.depth < recursionLimit:=by have:=r.dp;omega
theorem dQ.units{k:Nat}{A:Around}(r:dQ k A):A.units+64 < cLine:=by have:=r.un;omega
def MN:TA:=fun _ H Q=>Q [] H
def Ky(ta:TE)(tr:TA):TA:=fun σ H Q=>ta σ H fun x H1=>tr σ H1 fun xs H2=>Q (x ::xs) H2
section
variable {X:Cx} {e:Expr} {es:List Expr} {te:TE} {t:TA} {pos:Pos}
theorem gL:PA X [] MN:=fun _ _ _ _ H Q I h=>Calls.spliced_nil ⟨[],H,I, .nil,h⟩
theorem dv(ha:PE X e te)(hr:PA X es t)(hs:starEach (e ::es) X.env=(false,eval e X.env) ::starEach es X.env:=by rfl):PA X (e ::es) (Ky te t):=by
 intro pos pins s σ H Q I h;rw[hs];show wpAny _ _ (spliced ((false,eval e X.env) ::backTo pos (starEach es X.env))) _ _ s;refine Calls.spliced_cons (du (ha pins s σ H _ I h) fun u s1 ⟨x,H1,I1,r1,q1⟩=>?_)
 exact du (hr pos pins s1 σ H1 _ I1 q1) fun us s2 ⟨xs,H2,I2,r2,q2⟩=>⟨x ::xs,H2,I2, .cons r1 r2,q2⟩
def NU(t:TA):TE:=fun σ H Q=>t σ H fun xs H1=>xs.length<=sizeLine/\∀p,H1 p=none->Q (.ref p) (upd H1 p (.tup xs))
def M7(t:TA):TE:=fun σ H Q=>t σ H fun xs H1=>xs.length<=sizeLine/\∀p,H1 p=none->Q (.ref p) (upd H1 p (.lst xs))
theorem Dy{x1}(h:PA X es t):PE X (.Tuple es x1 pos) (NU t):=by
 intro pins s σ H Q I hq;refine wpAny_Tuple_spliced (du (h pos pins s σ H _ I hq) fun us s1 ⟨xs,H1,I1,r,z,q⟩=>⟨by rw[<-r.length];exact z,?_⟩)
 have hf:H1 s1.heap.objs.size=none:=I1.hok.fresh (Nat.le_refl _);refine⟨.ref s1.heap.objs.size,upd H1 s1.heap.objs.size (.tup xs),I1.laid (t':=s1.toks) (fun b u e=>Heap.get?_push_of_some _ e) (Nat.le_refl _) ?_,rfl,q _ hf⟩
 exact⟨z,us,r,⟨_,Heap.get?_push_size _ rfl,rfl,_,rfl⟩⟩
theorem BK(h:PA X es t):PE X (.List es pos) (M7 t):=by
 intro pins s σ H Q I hq;refine wpAny_List_spliced (du (h pos pins s σ H _ I hq) fun us s1 ⟨xs,H1,I1,r,z,q⟩=>⟨by rw[<-r.length];exact z,?_⟩)
 have hf:H1 s1.heap.objs.size=none:=I1.hok.fresh (Nat.le_refl _);refine⟨.ref s1.heap.objs.size,upd H1 s1.heap.objs.size (.lst xs),I1.laid (t':=s1.toks) (fun b u e=>Heap.get?_push_of_some _ e) (Nat.le_refl _) ?_,rfl,q _ hf⟩
 exact⟨z,us,0,r,Heap.get?_push_size _ rfl⟩
end
abbrev Sp:=List V->Hp->VK->XK->Prop
abbrev B_:=List Env->Hp->Shared->XK->Value->Shared->Prop
structure yd (P:Program) (w:World) (K:W.Frag) (mg:Ut) (base:Heap) (A:Around) (outer:List Env) (s:Shared) (H:Hp):Prop where
 frames:A.frames=some outer
 mod:Mod K mg base
 bs:∀b o,base.get? b=some o->s.heap.get? b=some o/\H b=none
 bsz:base.objs.size<=s.heap.objs.size
 pP:s.heap.FunFrames base outer
 frf:∀b∈Bg outer,H b=none
 hok:lT P w H s.heap
 bare:AllBare s.gens
def CE(outer:List Env)(P:Program)(w:World)(H:Hp)(s:Shared)(Q:VK)(u:Value)(s':Shared):Prop:=
 ∃v H',s'.os=s.os/\AllBare s'.gens/\Un (Bg outer) [] H H' s.heap s'.heap/\lT P w H' s'.heap/\RelV v u/\Q v H'
def CR(CX:B_)(outer:List Env)(P:Program)(w:World)(H:Hp)(s:Shared)(Q:VK)(E:XK)(r:Result)(s':Shared):Prop:=
 match r with
 | .ok (.ret u)=>CE outer P w H s Q u s'
 | .ok _=>False
 | .error e=>CX outer H s E e s'
structure gH (P:Program) (w:World) (K:W.Frag) (mg:Ut) (base:Heap) (CX:B_) (k:Nat) (f:Addr) (fd:FuncData) (ps:List Str) (sp:Sp):Prop where
 len:∀vs H Q E,sp vs H Q E->vs.length=ps.length
 run:∀(A:Around) (outer:List Env) (s:Shared) (H:Hp) (args:Args) (us:List Value) (vs:List V) (Q:VK) (E:XK),dQ k A->yd P w K mg base A outer s H->BindsTo s fd args (ps.zip us)->Vals vs us->sp vs H Q E->
  codeAny (model P w) A (.call (.ref f) args) (CR CX outer P w H s Q E) s
theorem gH.imp{P:Program}{w:World}{K:W.Frag}{mg:Ut}{base:Heap}{CX:B_}{k:Nat}{f:Addr}{fd:FuncData}{ps:List Str}{sp P6:Sp}(F:gH P w K mg base CX k f fd ps sp)
 (h:∀vs H Q E,P6 vs H Q E->sp vs H Q E):gH P w K mg base CX k f fd ps P6:=
 ⟨fun vs H Q E q=>F.len vs H Q E (h _ _ _ _ q),fun A outer s H args us vs Q E hr he hb hv hs=>F.run A outer s H args us vs Q E hr he hb hv (h _ _ _ _ hs)⟩
theorem yd.make{K:W.Frag}{mg:Ut}{outer:List Env}{s:Shared}(e:yd P w K mg base A outer s H)(C:Addr)(us:List Value)(kw:List (Str × Value)) :
 yd P w K mg base (A.under (.builtin "type.__call__" ⟨.ref C ::us,kw⟩)) outer s H:=⟨by first | exact e.frames | (simpa [Around.under,Code.envs,Code.isFrame,pushEnvs] using e.frames),e.mod,e.bs,e.bsz,e.pP,e.frf,e.hok,e.bare⟩
section
variable {X:Cx} {pins:Um} {σ:St} {H:Hp} {s s':Shared}
theorem Inv.KQ(I:Inv X pins σ H s):yd X.prog X.w X.K X.mg X.base X.A X.stack s H:=
 ⟨I.ok.frames,I.ok.mod,I.bs,Nat.le_trans I.ok.bsz I.sz,I.stack,I.zC,I.hok,I.bare⟩
theorem Inv.after{Q:VK}{u:Value}(I:Inv X pins σ H s)(h:CE X.stack X.prog X.w H s Q u s'):EP X pins σ Q u s':=by
 obtain⟨v,H',os,bare,un,hok,r,q⟩:=h;obtain⟨hh,g,d,t,Sy⟩:=s';obtain rfl:Sy=s.os:=os;exact⟨v,H',I.call (h':=hh) (g':=g) (d':=d) (t':=t) (ch:=[]) un hok bare (fun b z=>absurd z (by simp)),r,q⟩
end
def Kw(sp:Sp)(vv:List V)(E:XK)(t:TA):TE:=fun σ H Q=>t σ H fun vs H1=>sp (vs++vv) H1 Q E
def Ko(C:Addr)(m:Str)(sp:Sp)(vv:List V)(E:XK)(ta:TE)(t:TA):TE:=fun σ H Q=>ta σ H fun x H1=>∃a dx fs,x= .ref a/\H1 a=some (.ins C dx fs)/\fs.lookup m=none/\
 t σ H1 fun vs H2=>sp (x ::(vs++vv)) H2 Q E
def Kp(C:Addr)(sp:Sp)(vv:List V)(E:XK)(t:TA):TE:=fun σ H Q=>t σ H fun vs H1=>∀x dx,H1 x=none->H1 dx=none->dx≠x->
 sp (.ref x ::(vs++vv)) (upd (upd H1 dx (.own x)) x (.ins C dx [])) (fun v H2=>v= .bQ/\Q (.ref x) H2) E
def Binds(K:W.Frag)(fd:FuncData)(ps:List Str)(ds:List Value):Prop:=
 ∀(s:Shared) (us:List Value),K.In s.heap->(us++ds).length=ps.length->BindsTo s fd ⟨us,[]⟩ (ps.zip (us++ds))
theorem Binds.all{K:W.Frag}{fd:FuncData}{ps:List Str}(h:∀us:List Value,us.length=ps.length->bindArgs fd ⟨us,[]⟩=pure (ps.zip us)):Binds K fd ps []:=fun s us _ hl=>by
 rw[List.append_nil] at hl ⊢;exact .of_eq (h us hl)
def Passes(CX:B_)(X:Cx)(E:XK):Prop:=∀(pins:Um) (σ:St) (H:Hp) (s:Shared) (e:Value) (s':Shared),Inv X pins σ H s->CX X.stack H s E e s'->X.xe e s'
section
variable {X:Cx} {CX:B_} {k:Nat} {f C:Addr} {fd:FuncData} {ps:List Str} {sp:Sp} {vv:List V} {ds:List Value} {E:XK} {x m:Str} {p pos apos:Pos} {e o:Expr} {es:List Expr} {ta:TE} {t:TA}
theorem Dw{pins:Um}{σ:St}{H:Hp}{s:Shared}{Q:VK}{us:List Value}{vs:List V}(F:gH X.prog X.w X.K X.mg X.base CX k f fd ps sp)(hr:dQ k X.A)(hb:Binds X.K fd ps ds)(hd:Vals vv ds)(hx:Passes CX X E)
 (I:Inv X pins σ H s) (r:Vals vs us) (h:sp (vs++vv) H Q E):wpAny (model X.prog X.w) X.A (call (.ref f) us) (EP X pins σ Q) X.xe s:=by
 have r2:Vals (vs++vv) (us++ds):=r.append hd;have hl:(us++ds).length=ps.length:=by rw[<-r2.length];exact F.len _ _ _ _ h
 refine wpAny_call (codeAny_mono (F.run X.A X.stack s H ⟨us,[]⟩ (us++ds) (vs++vv) Q E hr I.KQ (hb s us I.n0 hl) r2 h) fun r s' hq=>?_)
 cases r with
 | error e=>exact hx pins σ H s e s' I hq
 | ok fl=>
   cases fl with
   | ret u=>exact I.after hq
   | next=>exact False.elim hq
   | brk=>exact False.elim hq
   | cont=>exact False.elim hq
theorem uY(F:gH X.prog X.w X.K X.mg X.base CX k f fd ps sp)(hr:dQ k X.A)(hg:Gl X x)(hm:X.mg x=some (.ref f))(hk:PySem.W.keepIn X.K (.ref f)=true)(hb:Binds X.K fd ps ds)(hd:Vals vv ds)(hx:Passes CX X E)
 (ha:PA X (e ::es) t) (nR:(x==("__debug__":Str))=false:=by decide) (he:starEach (e ::es) X.env=(false,eval e X.env) ::starEach es X.env:=by rfl) (kG:(backTo pos (starEach es X.env)).any (·.1)=false:=by rfl) :
 PE X (.Call (.Name x p) (e ::es) [] pos) (Kw sp vv E t):=by
 intro pins s σ H Q I h;refine wpAny_Call_Name_kw (yV I hg hm ?_ nR);refine PySem.W.callWith_K (h₀:=X.base) I.ok.mod.kin hk (du (ha pos pins s σ H _ I h) fun us s1 ⟨vs,H1,I1,r,q⟩=>⟨I1.n0,?_⟩) he kG
 exact Dw F hr hb hd hx I1 r q
theorem Gm{pl:Sem Bool}(he:PE X o ta)(c:vw X.K C)(hm:Meth X.K C m f)(F:gH X.prog X.w X.K X.mg X.base CX k f fd ps sp)(hr:dQ k X.A)(hb:Binds X.K fd ps ds)(hd:Vals vv ds)(hx:Passes CX X E)(ha:PA X (e ::es) t)
 (D5:starEach (e ::es) X.env=(false,eval e X.env) ::starEach es X.env:=by rfl) (kG:(backTo pos (starEach es X.env)).any (·.1)=false:=by rfl)
 (ht:eval (.Call (.Attribute o m apos) (e ::es) [] pos) X.env=(do
   let ov <-eval o X.env
   standAt apos.atName
   let(f,first) <-holding [ov] (getMethod ov m pl)
   callWith pos f first (backTo pos (starEach (e ::es) X.env)) (backToKw pos (keywordEach [] X.env))):=by rfl) :
 PE X (.Call (.Attribute o m apos) (e ::es) [] pos) (Ko C m sp vv E ta t):=by
 intro pins s σ H Q I h;refine PySem.W.methodCall_KW (pl:=pl) (du (he pins s σ H _ I h) fun u s1 ⟨x,H1,I1,rx,a,dx,fs,ex,ea,l,q⟩=>?_) ht
 subst ex;obtain rfl:u=Value.ref a:=rx;refine ya I1 ea c hm l ?_;refine PySem.W.callWith_K (first:=[.ref a]) (h₀:=X.base) I.ok.mod.kin hm.kp (du (ha pos pins s1 σ H1 _ I1 q) fun us s2 ⟨vs,H2,I2,r,q2⟩=>⟨I2.n0,?_⟩) D5 kG
 exact Dw (us:= .ref a ::us) (vs:= .ref a ::vs) F hr hb hd hx I2 (.cons rfl r) q2
structure Mk (K:W.Frag) (C f:Addr):Prop where
 makes:PySem.W.makesIn K C=true
 init:PySem.W.findIn K (.ref C) "__init__"=some (some (.ref f))
 fn:PySem.W.isFn K (.ref f)=true
 kp:PySem.W.keepIn K (.ref C)=true
theorem CI{pins:Um}{σ:St}{H:Hp}{s:Shared}{Q:VK}{us:List Value}{vs:List V}(M:Mk X.K C f)(F:gH X.prog X.w X.K X.mg X.base CX k f fd ps sp)(hr:dQ (k+1) X.A)(hb:Binds X.K fd ps ds)(hd:Vals vv ds)
 (hx:Passes CX X E) (I:Inv X pins σ H s) (r:Vals vs us)
 (h:∀x dx,H x=none->H dx=none->dx≠x->sp (.ref x ::(vs++vv)) (upd (upd H dx (.own x)) x (.ins C dx [])) (fun v H2=>v= .bQ/\Q (.ref x) H2) E) :
 wpAny (model X.prog X.w) X.A (call (.ref C) us) (EP X pins σ Q) X.xe s:=by
 have hq:=h (s.heap.objs.size+1) s.heap.objs.size (I.hok.fresh (Nat.le_succ _)) (I.hok.fresh (Nat.le_refl _)) (Nat.ne_of_lt (Nat.lt_succ_self _));have I2:=Inv.made (C:=C) I;have r2:Vals (V.ref (s.heap.objs.size+1) ::(vs++vv)) (Value.ref (s.heap.objs.size+1) ::(us++ds)):= .cons rfl (r.append hd);have hl:(Value.ref (s.heap.objs.size+1) ::us++ds).length=ps.length:=by
  have e:=r2.length;rw[F.len _ _ _ _ hq] at e;exact e.symm
 refine wpAny_call (Cc (f:=f) I.n0 M.makes M.init (beq_iff_eq.mp M.fn) (codeAny_mono (F.run _ X.stack _ _ ⟨Value.ref (s.heap.objs.size+1) ::us,[]⟩ (Value.ref (s.heap.objs.size+1) ::(us++ds)) _ _ E (hr.make C us [])
  (I2.KQ.make C us []) (hb _ (Value.ref (s.heap.objs.size+1) ::us) I2.n0 hl) r2 hq) fun r s' LR=>?_))
 cases r with
 | error e=>exact hx pins σ _ _ e s' I2 LR
 | ok fl=>
   cases fl with
   | ret u=>
     obtain⟨v,H',I3,rv,ev,q3⟩:=I2.after LR;subst ev;exact⟨rv,⟨V.ref (s.heap.objs.size+1),H',I3,rfl,q3⟩⟩
   | next=>exact False.elim LR
   | brk=>exact False.elim LR
   | cont=>exact False.elim LR
theorem Ex(M:Mk X.K C f)(F:gH X.prog X.w X.K X.mg X.base CX k f fd ps sp)(hr:dQ (k+1) X.A)(hg:Gl X x)(hm:X.mg x=some (.ref C))(hb:Binds X.K fd ps ds)(hd:Vals vv ds)(hx:Passes CX X E)
 (ha:PA X (e ::es) t) (nR:(x==("__debug__":Str))=false:=by decide) (he:starEach (e ::es) X.env=(false,eval e X.env) ::starEach es X.env:=by rfl) (kG:(backTo pos (starEach es X.env)).any (·.1)=false:=by rfl) :
 PE X (.Call (.Name x p) (e ::es) [] pos) (Kp C sp vv E t):=by
 intro pins s σ H Q I h;refine wpAny_Call_Name_kw (yV I hg hm ?_ nR);refine PySem.W.callWith_K (h₀:=X.base) I.ok.mod.kin M.kp (du (ha pos pins s σ H _ I h) fun us s1 ⟨vs,H1,I1,r,q⟩=>⟨I1.n0,?_⟩) he kG
 exact CI M F hr hb hd hx I1 r q
end
def PK(X:Cx)(PH:List Keyword)(t:TA):Prop:=
 ∀(pos:Pos) (pins:Um) (s:Shared) (σ:St) (H:Hp) (Q:List V->Hp->Prop),Inv X pins σ H s->t σ H Q->wpAny (model X.prog X.w) X.A (evalAll ((backToKw pos (keywordEach PH X.env)).map (·.2))) (AP X pins σ Q) X.xe s
section
variable {X:Cx} {CX:B_} {k:Nat} {f C:Addr} {fd:FuncData} {ps ks:List Str} {sp:Sp} {E:XK} {x m:Str} {p pos apos Se:Pos} {e o:Expr} {es:List Expr} {PH:List Keyword} {te ta:TE} {t tk:TA} {nm:Option Str}
structure NM (K:W.Frag) (fd:FuncData) (ps ks:List Str) (g:List Value->List Value->List Value) (gV:List V->List V->List V):Prop where
 to:∀(s:Shared) (us ws:List Value),K.In s.heap->(g us ws).length=ps.length->BindsTo s fd ⟨us,ks.zip ws⟩ (ps.zip (g us ws))
 rel:∀{vs:List V} {us:List Value} {zs:List V} {ws:List Value},Vals vs us->Vals zs ws->Vals (gV vs zs) (g us ws)
def NG(sp:Sp)(gV:List V->List V->List V)(E:XK)(t tk:TA):TE:=fun σ H Q=>t σ H fun vs H1=>tk σ H1 fun zs H2=>sp (gV vs zs) H2 Q E
variable {g:List Value->List Value->List Value} {gV:List V->List V->List V}
end
structure aY (N P:List Str) (sc:Scope):Prop where
 kind:sc.kind= .function
 co:sc.isCoroutine=false
 gen:sc.isGenerator=false
 nd:N.Nodup
 pre:N.take P.length=P
 par:∀x∈P,sc.names.lookup x=some .local\/sc.names.lookup x=some .cell
 nofree:∀y∈sc.names,y.2≠ .free
theorem tK{kindOf:Str->Option NameKind}:∀{binds:List (Str × Value)} {m:Ut},(∀v,(x,v) ∉ binds)->bindL kindOf binds m x=m x
 | [],_,_=>rfl
 | (n,v) ::r,m,h=>by
   unfold bindL;rw[tK fun w hw=>h w (List.mem_cons_of_mem _ hw)]
   split
   .have:x≠n:=by rintro rfl;exact h v List.mem_cons_self
    simp [this]
   .rfl
theorem tq{kindOf:Str->Option NameKind}:∀{binds:List (Str × Value)} {m:Ut},(∀v,(x,v) ∉ binds)->bindC kindOf binds m x=m x
 | [],_,_=>rfl
 | (n,v) ::r,m,h=>by
   unfold bindC;rw[tq fun w hw=>h w (List.mem_cons_of_mem _ hw)]
   split
   .rfl
   .have:x≠n:=by rintro rfl;exact h v List.mem_cons_self
    simp [this]
theorem tQ{kindOf:Str->Option NameKind}{v:Value}:∀{P:List Str} {vs:List Value} {i:Nat} {m:Ut},P.Nodup->P[i]? =some x->vs[i]? =some v->kindOf x=some .local->
 bindL kindOf (P.zip vs) m x=some v
 | [],_,_,_,_,h,_,_=>by simp at h
 | _ ::_,[],_,_,_,_,h,_=>by simp at h
 | p ::P,w ::vs,0,m,nd,h1,h2,hk=>by
   simp at h1 h2;subst h1;subst h2;show bindL kindOf ((p,w) ::P.zip vs) m p=_;unfold bindL;rw[tK fun v hv=>(List.nodup_cons.mp nd).1 (List.of_mem_zip hv).1,if_pos hk]
   simp
 | p ::P,w ::vs,i+1,m,nd,h1,h2,hk=>by
   show bindL kindOf ((p,w) ::P.zip vs) m x=_;unfold bindL;exact tQ (i:=i) (List.nodup_cons.mp nd).2 (by simpa using h1) (by simpa using h2) hk
theorem tV{kindOf:Str->Option NameKind}{v:Value}:∀{P:List Str} {vs:List Value} {i:Nat} {m:Ut},P.Nodup->P[i]? =some x->vs[i]? =some v->kindOf x≠some .local->
 bindC kindOf (P.zip vs) m x=some v
 | [],_,_,_,_,h,_,_=>by simp at h
 | _ ::_,[],_,_,_,_,h,_=>by simp at h
 | p ::P,w ::vs,0,m,nd,h1,h2,hk=>by
   simp at h1 h2;subst h1;subst h2;show bindC kindOf ((p,w) ::P.zip vs) m p=_;unfold bindC;rw[tq fun v hv=>(List.nodup_cons.mp nd).1 (List.of_mem_zip hv).1,if_neg hk]
   simp
 | p ::P,w ::vs,i+1,m,nd,h1,h2,hk=>by
   show bindC kindOf ((p,w) ::P.zip vs) m x=_;unfold bindC;exact tV (i:=i) (List.nodup_cons.mp nd).2 (by simpa using h1) (by simpa using h2) hk
def start(N:List Str)(vs:List V):St:=vs.map some++List.replicate (N.length - vs.length) none
def qm(CX:B_)(P:Program)(w:World)(K:W.Frag)(mg:Ut)(base:Heap)(N:List Str)(qual:Str)(scope:Scope)(f:Addr)(cd:Value)(A:Around)(outer:List Env)(s:Shared)(H:Hp)(E:XK):Cx where
 prog:=P
 w:=w
 K:=K
 mg:=mg
 base:=base
 A:=A.deeper (envOfC qual scope s.heap.objs.size f cd)
 N:=N
 s₀:=s
 H₀:=H
 env:=envOfC qual scope s.heap.objs.size f cd
 outer:=outer
 stack:=envOfC qual scope s.heap.objs.size f cd ::outer
 ex:=[]
 calm:=true
 fn:=fun _=>true
 pn:=[]
 xe:=fun e s'=>wpAny (model P w) (A.deeper (envOfC qual scope s.heap.objs.size f cd)) (leaving (envOfC qual scope s.heap.objs.size f cd) e) (fun _ OE=>CX outer H s E e OE) (fun e' OE=>CX outer H s E e' OE) s'
theorem qA{sc:Scope}{n:Nat}(h:sc.names.lookup x=some .cell):∃c,(cellsFrom n sc.names []).lookup x=some c:=by
 have q:=PySem.W.cellsFrom_some sc.names n [] (.inl h);exact Option.isSome_iff_exists.mp q
theorem AU{CX:B_}{P:Program}{w:World}{K:W.Frag}{mg:Ut}{base:Heap}{N ps:List Str}{qual:Str}{scope:Scope}{f:Addr}{cd:Value}{A:Around}{outer:List Env}{s s1:Shared}{H:Hp}{E:XK}{us:List Value}{vs:List V}
 (S:aY N ps scope) (hd:A.handled=none) (e0:yd P w K mg base A outer s H) (hl:vs.length=ps.length) (r:Vals vs us)
 (x:InCallC s s.heap.objs.size (bindL (envOfC qual scope s.heap.objs.size f cd).kindOf (ps.zip us) fun _=>none) (cellsFrom (s.heap.objs.size+1) scope.names []) (bindC (envOfC qual scope s.heap.objs.size f cd).kindOf (ps.zip us) fun _=>none) s1) :
 Inv (qm CX P w K mg base N qual scope f cd A outer s H E) [] (start N vs) H s1:=by
 have kG:ps.length<=N.length:=by have:=congrArg List.length S.pre;rw [List.length_take] at this;omega
 obtain⟨h1,tk,rfl,hk⟩:=x.done;have noA:∀b:Addr,b ∉ (qm CX P w K mg base N qual scope f cd A outer s H E).ex:=fun b z=>absurd (show b∈([]:List Addr) from z) (by simp)
 refine⟨⟨e0.mod,S.kind,rfl,rfl,Nat.le_refl _,fun y z c h1 h2=>?_,fun y hy=>?_,fun y c _ h=>?_,fun _=>hd,Around.frames_deeper e0.frames, .inr ⟨rfl,rfl⟩,fun b z=>absurd z (noA b),e0.bs,e0.bsz,fun b _ _=>noA b,fun b z=>absurd z (noA b),e0.pP,e0.frf⟩,
  rfl,e0.bare,Un.kept hk,⟨_,x.toInCall.ns,fun i y v h1 h2 h3=>?_⟩,fun y c h=>⟨_,x.cell y c h⟩,e0.hok.fresh (Nat.le_refl _),fun y c h=>?_,fun p hp=>absurd (show p∈([]:Um) from hp) (by simp),e0.hok.kept hk,?_⟩
 .exact name_of_addr x.apart (PySem.mem_of_lookup h1) (PySem.mem_of_lookup h2)
 .have hy:scope.names.lookup y=some .cell\/scope.names.lookup y=some .free:=hy;rcases hy with hy | hy
  .exact qA hy
  .exact absurd rfl (S.nofree _ (PySem.mem_of_lookup hy))
 .exact Nat.le_of_lt (x.above y c (PySem.mem_of_lookup h))
 .have hi:i < vs.length:=by
   unfold start at h2;by_cases hi:i < vs.length
   .exact hi
   .rw [List.getElem?_append_right (by simpa using hi)] at h2
    rw[List.getElem?_replicate] at h2;split at h2 <;> cases h2
  have ha:vs[i]? =some v:=by
   unfold start at h2;rw[List.getElem?_append_left (by simpa using hi),List.getElem?_map] at h2
   cases e:vs[i]? with
   | none=>rw [e] at h2;cases h2
   | some a=>rw [e] at h2;cases h2;rfl
  obtain⟨u,hu,rv⟩:=r.get ha;have hp:ps[i]? =some y:=by
   rw[<-S.pre,List.getElem?_take_of_lt (by omega)];exact h1
  have ndP:ps.Nodup:=by rw[<-S.pre];exact S.nd.sublist (List.take_sublist _ _)
  refine⟨u,rv,?_⟩;rcases S.par y (List.mem_of_getElem? hp) with k | k
  .exact .inl ⟨k,tQ ndP hp hu k⟩
  .obtain⟨c,e⟩:=qA (n:=s.heap.objs.size+1) k;refine .inr ⟨.inl k,c,e,?_⟩;have q:=x.cell y c e;rw[tV ndP hp hu (by show scope.names.lookup y≠_;rw [k];decide)] at q
   exact q
 .exact e0.hok.fresh (Nat.le_of_lt (x.above y c (PySem.mem_of_lookup h)))
 .unfold start;show _=N.length;rw[List.length_append,List.length_map,List.length_replicate];omega
theorem Km{CX:B_}{P:Program}{w:World}{K:W.Frag}{mg:Ut}{base:Heap}{k:Nat}{f:Addr}{name qual:Str}{params:Arguments}{body:List Stmt}{scope:Scope}{dV kV doc pm dI ct oc:Value}{an od:Option Addr}
 {Et:Array (Option Value)} {N ps:List Str} {sp:Sp} (lk:K.lookup f=some ⟨oc,od, .func (PySem.W.fnOf name qual params body scope dV kV doc pm an dI ct),Et⟩) (sN:PySem.W.codeIn K dI qual=true) (S:aY N ps scope)
 (len:∀vs H Q E,sp vs H Q E->vs.length=ps.length)
 (j1:∀(A:Around) (outer:List Env) (s:Shared) (H:Hp) (vs:List V) (Q:VK) (E:XK),dQ k (A.deeper (envOfC qual scope s.heap.objs.size f dI))->sp vs H Q E->
   ∃t,uT (qm CX P w K mg base N qual scope f dI A outer s H E) body t/\t {nx:=fun _ H'=>Q .bQ H',rt:=Q} (start N vs) H) :
 gH P w K mg base CX (k+1) f (PySem.W.fnOf name qual params body scope dV kV doc pm an dI ct) ps sp:=by
 refine⟨len,fun A outer s H args us vs Q E hr e0 hb r J4=>?_⟩
 have hl:=len _ _ _ _ J4;have KX:K.In s.heap:=e0.mod.kin.keeps fun b o e=>(e0.bs b o e).1
 have lim:s.heap.NoLimit:=e0.mod.nolimit.keeps fun b o e=>(e0.bs b o e).1
 have hkind:∀y∈ps.zip us,scope.names.lookup y.1=some .local\/(scope.names.lookup y.1=some .cell/\((cellsFrom (s.heap.objs.size+1) scope.names []).lookup y.1).isSome=true):=fun⟨n,v⟩ hy=>by
  rcases S.par n (List.of_mem_zip hy).1 with q | q
  .exact .inl q
  .exact .inr ⟨q,PySem.W.cellsFrom_some _ _ _ (.inl q)⟩
 refine codeAny_call_function hr.depth (KX _ _ lk) rfl S.co S.gen rfl (PySem.W.codeRec_of KX sN) (hb _ _ _ _ ?_);refine wpAny_newFunctionEnv_cells S.kind hkind fun env he s1 x=>?_
 subst he;refine⟨lim.keeps x.toInCall.keep,codeAny_func ?_⟩;obtain⟨t,ht,hq⟩:=j1 A outer s H vs Q E (hr.deeper _) J4;have I:Inv (qm CX P w K mg base N qual scope f dI A outer s H E) [] (start N vs) H s1:=AU S hr.hd e0 hl r x;refine wpAny_mono (ht [] s1 (start N vs) H _ I hq) (fun fl s' hs=>?_) fun e s' hs=>hs
 have fin:∀{cj:St} {H':Hp} {v:V} {u:Value},Inv (qm CX P w K mg base N qual scope f dI A outer s H E) [] cj H' s'->RelV v u->Q v H'->CE outer P w H s Q u s':=
  fun {cj H' v u} J rv q=>⟨v,H',J.os,J.bare,J.base,J.hok,rv,q⟩
 cases fl with
 | ret u=>
   obtain⟨v,cj,H',J,rv,q⟩:=hs;exact fin J rv q
 | next=>
   obtain⟨cj,H',J,q⟩:=hs;exact fin (v:=V.bQ) (u:=Value.none) J rfl q
 | brk=>
   obtain⟨_,_,_,q⟩:=hs;exact False.elim q
 | cont=>
   obtain⟨_,_,_,q⟩:=hs;exact False.elim q
section
variable {X:Cx} {x:Str} {p pos:Pos} {e:Expr} {es:List Expr} {t:TA} {id T:String} {r:List V->Hp->VK->Prop}
def OX(r:List V->Hp->VK->Prop)(t:TA):TE:=fun σ H Q=>t σ H fun vs H1=>r vs H1 Q
theorem nQ(hc:kC X (.builtin id) r)(hg:Gl X x)(hm:X.mg x=none)(hv:bootBuiltins x=some (.builtin id))(ha:PA X (e ::es) t)(hn:x≠"__name__":=by decide)(nR:(x==("__debug__":Str))=false:=by decide)
 (he:starEach (e ::es) X.env=(false,eval e X.env) ::starEach es X.env:=by rfl) (kG:(backTo pos (starEach es X.env)).any (·.1)=false:=by rfl):PE X (.Call (.Name x p) (e ::es) [] pos) (OX r t):=by
 intro pins s σ H Q I h;refine wpAny_Call_Name_kw (ji I hg hm hv ?_ hn nR);exact PyProof.Rows.callWith_builtin1 (du (ha pos pins s σ H _ I h) fun us s1 ⟨vs,H1,I1,r1,q1⟩=>hc pins s1 σ H1 vs us Q I1 r1 q1) he kG
theorem Ap(hc:kC X (.type T) r)(hg:Gl X x)(hm:X.mg x=none)(hv:bootBuiltins x=some (.type T))(ha:PA X (e ::es) t)(hn:x≠"__name__":=by decide)(nR:(x==("__debug__":Str))=false:=by decide)
 (he:starEach (e ::es) X.env=(false,eval e X.env) ::starEach es X.env:=by rfl) (kG:(backTo pos (starEach es X.env)).any (·.1)=false:=by rfl):PE X (.Call (.Name x p) (e ::es) [] pos) (OX r t):=by
 intro pins s σ H Q I h;refine wpAny_Call_Name_kw (ji I hg hm hv ?_ hn nR);exact PyProof.Rows.callWith_type1 (du (ha pos pins s σ H _ I h) fun us s1 ⟨vs,H1,I1,r1,q1⟩=>hc pins s1 σ H1 vs us Q I1 r1 q1) he kG
end
section
variable {κ:Type} [DecidableEq κ]
def j6(kvs:List (κ × V))(k:κ):Option V:=(kvs.find? fun kv=>decide (kv.1=k)).map (·.2)
def putK(kvs:List (κ × V))(k:κ)(v:V):List (κ × V):=
 if(kvs.any fun kv=>decide (kv.1=k))=true then kvs.map (fun kv=>if kv.1=k then(kv.1,v) else kv) else kvs++[(k,v)]
def CO(kvs:List (κ × V))(k:κ):List (κ × V):=kvs.filter fun kv=>decide (kv.1≠k)
theorem qD{p:κ × V}{r:List (κ × V)}{k:κ}(e:p.1=k):j6 (p ::r) k=some p.2:=by simp [j6,List.find?_cons,e]
theorem qE{p:κ × V}{r:List (κ × V)}{k:κ}(e:¬p.1=k):j6 (p ::r) k=j6 r k:=by simp [j6,List.find?_cons,e]
theorem wj(k:κ):∀kvs:List (κ × V),(kvs.any fun kv=>decide (kv.1=k))=(j6 kvs k).isSome
 | []=>rfl
 | p ::r=>by
   rw[List.any_cons];by_cases e:p.1=k
   .simp only[qD e,decide_eq_true e,Bool.true_or,Option.isSome_some]
   .rw [qE e,decide_eq_false e,Bool.false_or];exact wj k r
theorem pe(kvs:List (κ × V))(k:κ)(v:V):(putK kvs k v).length<=kvs.length+1:=by
 unfold putK;split
 .rw [List.length_map];omega
 .rw [List.length_append,List.length_cons,List.length_nil];omega
theorem nc.oH{o:Option V}{u:Option Value}(r:nc o u):o.isSome=u.isSome:=by
 cases o with
 | none=>cases u with
   | none=>rfl
   | some _=>exact(show False from r).elim
 | some _=>cases u with
   | none=>exact(show False from r).elim
   | some _=>rfl
theorem KV.val{kvs:List (κ × V)}{vs:List (κ × Value)}(r:KV kvs vs)(k:κ):nc (j6 kvs k) (valueAt vs k):=by
 unfold KV at r
 induction r with
 | nil=>exact True.intro
 | @cons p q ps qs h t ih=>
   obtain⟨h1,h2⟩:=h;by_cases e:p.1=k
   .have e':q.1=k:=h1.symm.trans e;have b:valueAt (q ::qs) k=some q.2:=by simp [valueAt,List.find?_cons,e']
    rw[qD e,b];exact h2
   .have e':¬q.1=k:=fun z=>e (h1.trans z)
    have b:valueAt (q ::qs) k=valueAt qs k:=by simp [valueAt,List.find?_cons,e']
    rw[qE e,b];exact ih
theorem KV.any{kvs:List (κ × V)}{vs:List (κ × Value)}(r:KV kvs vs)(k:κ):(kvs.any fun kv=>decide (kv.1=k))=vs.any fun kv=>decide (kv.1=k):=by
 unfold KV at r
 induction r with
 | nil=>rfl
 | cons h t ih=>rw [List.any_cons,List.any_cons,ih,h.1]
theorem KV.IL{kvs:List (κ × V)}{vs:List (κ × Value)}(r:KV kvs vs)(k:κ){y:V}{u:Value}(ry:RelV y u) :
 KV (kvs.map fun kv=>if kv.1=k then(kv.1,y) else kv) (vs.map fun kv=>if kv.1=k then(kv.1,u) else kv):=by
 unfold KV at r ⊢
 induction r with
 | nil=>exact .nil
 | @cons p q ps qs h t ih=>
   rw[List.map_cons,List.map_cons];refine .cons ?_ ih;obtain⟨h1,h2⟩:=h;by_cases e:p.1=k
   .rw [if_pos e,if_pos (h1.symm.trans e)];exact⟨h1,ry⟩
   .rw [if_neg e,if_neg (fun z=>e (h1.trans z))];exact⟨h1,h2⟩
theorem KV.put{kvs:List (κ × V)}{vs:List (κ × Value)}(r:KV kvs vs)(k:κ){y:V}{u:Value}(ry:RelV y u):KV (putK kvs k y) (stored vs k u):=by
 unfold putK stored;rw[r.any k];by_cases e:(vs.any fun kv=>decide (kv.1=k))=true
 .rw [if_pos e,if_pos e];exact r.IL k ry
 .rw [if_neg e,if_neg e];exact Paired.snoc r ⟨rfl,ry⟩
theorem KV.length{kvs:List (κ × V)}{vs:List (κ × Value)}(r:KV kvs vs):kvs.length=vs.length:=Paired.length r
end
theorem Bv{k:Key}{u:Value}(r:RelV (kV k) u):(c0 P w).is k u=true:=by
 cases k with
 | inl i=>obtain⟨t,e⟩:=(show ∃t,u=Value.int i t from r);subst e;exact vC P w i t
 | inr x=>obtain⟨t,e⟩:=(show ∃t,u=Value.str x t from r);subst e;exact wb P w x t
theorem tY:∀{ks:List Key} {us:List Value},Vals (ks.map kV) us->ItemsAre (c0 P w) ks us
 | [],_,r=>by rw[List.map_nil] at r;cases r;exact .nil
 | k ::ks,_,r=>by
   rw[List.map_cons] at r;cases r with
   | cons h t=>exact .cons (Bv h) (tY t)
abbrev KT(H:Hp):List (List Key × V)->List (List Key × Addr × Value)->Prop:=Paired fun p q=>p.1=q.1/\H q.2.1=some (.tup (p.1.map kV))/\RelV p.2 q.2.2
theorem KT.val{kvs:List (List Key × V)}{xs:List (List Key × Addr × Value)}(r:KT H kvs xs)(k:List Key):nc (j6 kvs k) ((atKey xs k).map (·.2)):=by
 induction r with
 | nil=>exact True.intro
 | @cons p q ps qs h t ih=>
   obtain⟨h1,_,h2⟩:=h;by_cases e:p.1=k
   .have e':q.1=k:=h1.symm.trans e;have b:atKey (q ::qs) k=some q.2:=by simp [atKey,List.find?_cons,e']
    rw[qD e,b];exact h2
   .have e':¬q.1=k:=fun z=>e (h1.trans z)
    have b:atKey (q ::qs) k=atKey qs k:=by simp [atKey,List.find?_cons,e']
    rw[qE e,b];exact ih
theorem KT.IL{kvs:List (List Key × V)}{xs:List (List Key × Addr × Value)}(r:KT H kvs xs)(k:List Key){y:V}{u:Value}(ry:RelV y u) :
 KT H (kvs.map fun kv=>if kv.1=k then(kv.1,y) else kv) (xs.map (putAt k u)):=by
 induction r with
 | nil=>exact .nil
 | @cons p q ps qs h t ih=>
   rw[List.map_cons,List.map_cons];refine .cons ?_ ih;obtain⟨h1,h2,h3⟩:=h;unfold putAt;by_cases e:p.1=k
   .rw [if_pos e,if_pos (h1.symm.trans e)];exact⟨h1,h2,ry⟩
   .rw [if_neg e,if_neg (fun z=>e (h1.trans z))];exact⟨h1,h2,h3⟩
theorem KT.put{H:Hp}{kvs:List (List Key × V)}{xs:List (List Key × Addr × Value)}(r:KT H kvs xs)(k:List Key){b:Addr}{y:V}{u:Value}(hb:H b=some (.tup (k.map kV)))(ry:RelV y u) :
 KT H (putK kvs k y) (storedH xs k b u):=by
 have e:(kvs.any fun kv=>decide (kv.1=k))=(atKey xs k).isSome:=by
  rw[wj,(r.val k).oH,Option.isSome_map]
 unfold putK storedH;rw[e];by_cases q:(atKey xs k).isSome=true
 .rw [if_pos q,if_pos q];exact r.IL k ry
 .rw [if_neg q,if_neg q];exact Paired.snoc r ⟨rfl,hb,ry⟩
theorem KT.keeps{H H':Hp}{kvs:List (List Key × V)}{xs:List (List Key × Addr × Value)}(r:KT H kvs xs)(ht:∀b ys,H b=some (.tup ys)->H' b=some (.tup ys)):KT H' kvs xs:=
 Paired.HP r fun _ _ z=>⟨z.1,ht _ _ z.2.1,z.2.2⟩
section
variable {P:Program} {w:World} {H:Hp} {h:Heap} {a:Addr}
theorem G7{u:HO}(ok:lT P w H h)(e:Rd H a u):cY P w H h a u:=e.ok ok
theorem GZ{kvs:List (Key × V)}(ok:lT P w H h)(e:Rd H a (.dK kvs)):kvs.length<=sizeLine/\(a==sysModules)=false/\∃vs,KV kvs vs/\h.DictOf (c0 P w) a vs:=
 show cY P w H h a (.dK kvs) from G7 ok e
theorem GP{kvs:List (Key × V)}(ok:lT P w H h)(e:H a=some (.dK kvs)):kvs.length<=sizeLine/\(a==sysModules)=false/\∃vs,KV kvs vs/\h.DictOf (c0 P w) a vs:=GZ ok (.inl e)
theorem yI{ks:List Key}(ok:lT P w H h)(e:H a=some (.tup (ks.map kV))):(tupleKind (c0 P w)).is h ks a:=by
 obtain⟨_,its,r,o,h1,h2,n,h3⟩:=(show cY P w H h a (.tup (ks.map kV)) from ok a _ e)
 exact⟨o,its.toArray,n,h1,h2,h3,by simpa using tY r⟩
theorem G2{kvs:List (List Key × V)}(ok:lT P w H h)(e:Rd H a (.dT kvs)):kvs.length<=sizeLine/\(a==sysModules)=false/\
 ∃xs,KT H kvs xs/\h.DictOfH (tupleKind (c0 P w)) a xs:=by
 obtain⟨z,y,xs,r,o,es,ep,h1,h2,h3,h4,h5⟩:=(show cY P w H h a (.dT kvs) from G7 ok e)
 refine⟨z,y,xs,r,o,es,ep,h1,h2,h3,h4,fun x hx=>?_,h5⟩
 have all:∀{l:List (List Key × V)} {m:List (List Key × Addr × Value)},KT H l m->∀x∈m,(tupleKind (c0 P w)).is h x.1 x.2.1:=by
  intro l m q
  induction q with
  | nil=>intro x hx;exact nomatch hx
  | @cons p q ps qs hq t ih=>
    intro x hx;rcases List.mem_cons.mp hx with e | hx
    .subst e;exact yI ok (by rw[<-hq.1];exact hq.2.1)
    .exact ih x hx
 exact all r x hx
theorem Kn{kvs:List (List Key × V)}(ok:lT P w H h)(e:H a=some (.dT kvs)):kvs.length<=sizeLine/\(a==sysModules)=false/\
 ∃xs,KT H kvs xs/\h.DictOfH (tupleKind (c0 P w)) a xs:=G2 ok (.inl e)
end
def sJ(H:Hp)(a:Addr)(y:V)(r:Option V):Prop:=
 (∃kvs k,Rd H a (.dK kvs)/\y=kV k/\r=j6 kvs k)\/∃kvs k b,Rd H a (.dT kvs)/\y= .ref b/\H b=some (.tup (k.map kV))/\r=j6 kvs k
def AX(H:Hp)(a:Addr)(y v:V)(H':Hp):Prop:=
 (∃kvs k,H a=some (.dK kvs)/\y=kV k/\kvs.length < sizeLine/\H'=upd H a (.dK (putK kvs k v)))\/
 ∃kvs k b,H a=some (.dT kvs)/\y= .ref b/\H b=some (.tup (k.map kV))/\kvs.length < sizeLine/\H'=upd H a (.dT (putK kvs k v))
theorem sJ.k{H:Hp}{a:Addr}{kvs:List (Key × V)}{k:Key}(e:H a=some (.dK kvs)):sJ H a (kV k) (j6 kvs k):= .inl ⟨kvs,k, .inl e,rfl,rfl⟩
theorem AX.k{H:Hp}{a:Addr}{kvs:List (Key × V)}{k:Key}{v:V}(e:H a=some (.dK kvs))(hl:kvs.length < sizeLine):AX H a (kV k) v (upd H a (.dK (putK kvs k v))):= .inl ⟨kvs,k,e,rfl,hl,rfl⟩
section
variable {X:Cx} {pins:Um} {σ:St} {H:Hp} {s:Shared} {a:Addr} {y v:V} {u r:Value} {o:Option V} {A:Around} {E:Uo}
theorem Inv.big(I:Inv X pins σ H s):sysModules < s.heap.objs.size:=by
 have h:mainGlobals < s.heap.objs.size:=(I.mod.glob.keeps I.bk).lt;exact Nat.lt_trans (by decide) h
theorem M9{Q:Uo}(hu:A.units+1 < cLine)(I:Inv X pins σ H s)(g:sJ H a y o)(ry:RelV y u)(h:∀s',Inv X pins σ H s'->Q (.bool o.isSome) s') :
 wpAny (model X.prog X.w) A (compareOp .In u (.ref a)) Q E s:=by
 rcases g with⟨kvs,k,e,ey,l⟩ | ⟨kvs,k,b,e,ey,eb,l⟩
 .subst ey;obtain⟨z,hd,vs,rel,dd⟩:=GZ I.hok e;refine wpAny_in_of (Bv ry) hd dd.mapOf ?_;rw[<-(rel.val k).oH,<-l];exact h _ (I.tok _)
 .subst ey;cases(show u=Value.ref b from ry)
  obtain⟨z,hd,xs,rel,dd⟩:=G2 I.hok e;refine wpAny_in_heap (tupleKind_room_in1 hu) (yI I.hok eb) hd dd ?_;have q:=(rel.val k).oH;rw[Option.isSome_map] at q;rw[<-q,<-l];exact h _ (I.tok _)
theorem ze{h':Heap}{t':Nat}{ob:HO}(I:Inv X pins σ H s)(mu:Le (H a))(hs:Heap.SameBut a s.heap h')(he:∃q,h'.get? a=some q)(new:cY X.prog X.w (upd H a ob) h' a ob) :
 Inv X pins σ (upd H a ob) {s with heap:=h',toks:=t'}:=
 I.write (x:=a) (e:=a) mu (.inl rfl) (fun b q hb z=>(hs.2 b hb).trans z) he new
theorem IF{H':Hp}{h':Heap}{kvs:List (Key × V)}{vs:List (Key × Value)}(z:kvs.length<=sizeLine)(hd:(a==sysModules)=false)(rel:KV kvs vs)(dd:h'.DictOf (c0 P w) a vs) :
 cY P w H' h' a (.dK kvs):=⟨z,hd,vs,rel,dd⟩
theorem AK{Q:Unit->Shared->Prop}(hu:A.units+1 < cLine)(I:Inv X pins σ H s)(g:AX H a y v H')(ry:RelV y u)(rv:RelV v r)(h:∀s',Inv X pins σ H' s'->Q () s') :
 wpAny (model X.prog X.w) A (setItem (.ref a) u r) Q E s:=by
 rcases g with⟨kvs,k,e,ey,l,eH⟩ | ⟨kvs,k,b,e,ey,eb,l,eH⟩
 .subst ey eH;obtain⟨z,hd,vs,rel,dd⟩:=GP I.hok e;have hz:vs.length<=sizeLine:=by rw[<-rel.length];exact z
  have hl:(putK kvs k v).length<=sizeLine:=by have:=pe kvs k v;omega
  refine wpAny_setItem_pairs (hsz:=hz) (Bv ry) dd fun h' Mz hs=>h _ ?_
  have he:∃q,h'.get? a=some q:=let⟨q,_,_,hq,_⟩:=Mz;⟨q,hq⟩
  exact ze I (by rw[e];exact True.intro) hs he (IF hl hd (rel.put k rv) Mz)
 .subst ey eH;cases(show u=Value.ref b from ry)
  obtain⟨z,hd,xs,rel,dd⟩:=Kn I.hok e;have hz:xs.length<=sizeLine:=by rw[<-Paired.length rel];exact z
  have hl:(putK kvs k v).length<=sizeLine:=by have:=pe kvs k v;omega
  refine wpAny_setItem_heap (hsz:=hz) (tupleKind_room_in1 hu) (yI I.hok eb) dd fun h' Mz hs=>h _ ?_
  obtain⟨q,es,ep,hq,h2,h3,h4,_,h5⟩:=Mz;refine ze I (by rw[e];exact True.intro) hs ⟨q,hq⟩ ⟨hl,hd,_,(rel.put k eb rv).keeps fun c ys ec=>?_,q,es,ep,hq,h2,h3,h4,h5⟩
  rw[aQ (Kk ec e (fun z=>nomatch z))]
  exact ec
end
section
variable {X:Cx} {pins:Um} {σ:St} {H:Hp} {s:Shared} {a:Addr} {kvs:List (Key × V)} {k:Key} {u:Value} {A:Around} {E:Uo}
end
def Qr(i:Expr):Prop:=∀ov iv,subscripted i false ov iv=operate [ov,iv] (getItem ov iv)
def OS(td ty:TE):TE:=fun σ H Q=>td σ H fun x H1=>ty σ H1 fun y H2=>∃a v,x= .ref a/\sJ H2 a y (some v)/\Q v H2
def Nw(ty td:TE):TE:=fun σ H Q=>ty σ H fun y H1=>td σ H1 fun x H2=>∃a o,x= .ref a/\sJ H2 a y o/\Q (.bl o.isSome) H2
def Mp(ty td:TE):TE:=fun σ H Q=>ty σ H fun y H1=>td σ H1 fun x H2=>∃a o,x= .ref a/\sJ H2 a y o/\Q (.bl (!o.isSome)) H2
def Lv(td ty tv:TE):TS:=fun D σ H=>tv σ H fun v H1=>td σ H1 fun x H2=>ty σ H2 fun y H3=>∃a H4,x= .ref a/\AX H3 a y v H4/\D.nx σ H4
def Pa(td ty tv:TE)(rd:V->V->Hp->VK->Prop):TS:=fun D σ H=>td σ H fun x H1=>ty σ H1 fun y H2=>∃a v,x= .ref a/\sJ H2 a y (some v)/\
 tv σ H2 fun y2 H3=>rd v y2 H3 fun z H4=>∃H5,AX H4 a y z H5/\D.nx σ H5
def Pk(td ty:TE):TS:=fun D σ H=>td σ H fun x H1=>ty σ H1 fun y H2=>∃a kvs k,x= .ref a/\H2 a=some (.dK kvs)/\y=kV k/\(j6 kvs k).isSome=true/\D.nx σ (upd H2 a (.dK (CO kvs k)))
section
variable {X:Cx} {o i e value:Expr} {pos pos' oY:Pos} {td ty tv:TE}
theorem Js(hu:X.A.units+1 < cLine)(hi:PE X i ty)(ho:PE X o td):PC X .In i o (Nw ty td):=by
 intro pins s σ H Q I h;refine du (hi pins s σ H _ I h) fun iv s1 ⟨y,H1,I1,ry,q1⟩=>du (ho pins s1 σ H1 _ I1 q1) fun u s2 ⟨x,H2,I2,rx,a,ov,ex,g,q2⟩=>?_
 subst ex;obtain rfl:u=Value.ref a:=rx;exact M9 hu I2 g ry fun s3 I3=>⟨.bl ov.isSome,H2,I3,rfl,q2⟩
theorem F5(hu:X.A.units+1 < cLine)(ho:PE X o td)(hi:PE X i ty)(hv:PE X value tv)(hs:swapsWith value (some (.Subscript o i pos')) pos.line X.env=pure false) :
 PS X (.Assign [.Subscript o i pos'] value pos) (Lv td ty tv):=by
 intro pins s σ H D I h;refine wpAny_Assign_Subscript (du (hv pins s σ H _ I h) fun r s1 ⟨v,H1,I1,rv,q1⟩=>du (ho pins s1 σ H1 _ I1 q1) fun u s2 ⟨x,H2,I2,rx,q2⟩=>du (hi pins s2 σ H2 _ I2 q2) fun iv s3 ⟨y,H3,I3,ry,a,H4,ex,g,q3⟩=>?_) hs
 subst ex;obtain rfl:u=Value.ref a:=rx;exact AK hu I3 g ry rv fun s4 I4=>⟨σ,H4,I4,q3⟩
end
theorem Cd(h:Heap)(hb:sysModules < h.objs.size):cY P w H (h.push {cls:= .type "dict",data:= .dict #[]}) h.objs.size (.dK []):=
 ⟨Nat.zero_le _,beq_eq_false_iff_ne.mpr (Ne.symm (Nat.ne_of_lt hb)),[], .nil,Heap.DictOf.new h⟩
def I0:TE:=fun _ H Q=>∀p,H p=none->Q (.ref p) (upd H p (.dK []))
def ML:TE:=fun _ H Q=>∀p,H p=none->Q (.ref p) (upd H p (.dT []))
section
variable {X:Cx} {pos:Pos}
theorem CT:PE X (.Dict [] [] pos) I0:=fun pins s σ H Q I h=>
 wpAny_Dict_empty ⟨.ref s.heap.objs.size,_,I.laid (a:=s.heap.objs.size) (o:= .dK []) (t':=s.toks) (fun _ _ q=>Heap.get?_push_of_some _ q) (Nat.le_refl _) (Cd s.heap I.big),rfl,h _ (I.hok.fresh (Nat.le_refl _))⟩
end
def vd:List (TE × TE)->St->Hp->(List (V × V)->Hp->Prop)->Prop
 | [],_,H,Q=>Q [] H
 | (tk,tv) ::r,σ,H,Q=>tk σ H fun x H1=>tv σ H1 fun y H2=>vd r σ H2 fun ps H3=>Q ((x,y) ::ps) H3
abbrev VV:List (V × V)->List (Value × Value)->Prop:=Paired fun p q=>RelV p.1 q.1/\RelV p.2 q.2
def RB(X:Cx)(pos:Pos)(keys:List (Option Expr))(values:List Expr)(Kb:List (TE × TE)):Prop:=
 ∀(pins:Um) (s:Shared) (σ:St) (H:Hp) (Q:List (V × V)->Hp->Prop),Inv X pins σ H s->vd Kb σ H Q->
  wpAny (model X.prog X.w) X.A (evalPairs (pairTrees keys values X.env pos)) (fun vs s'=>∃ps H',Inv X pins σ H' s'/\VV ps vs/\Q ps H') X.xe s
def CL(kvs more:List (Key × V)):List (Key × V):=more.foldl (fun acc kv=>putK acc kv.1 kv.2) kvs
def Pm(Kb:List (TE × TE)):TE:=fun σ H Q=>∀p,H p=none->vd Kb σ (upd H p (.dK [])) fun ps H2=>H2 p=some (.dK [])/\∃kvs:List (Key × V),ps=kvs.map (fun kv=>(kV kv.1,kv.2))/\kvs.length<=15/\Q (.ref p) (upd H2 p (.dK (CL [] kvs)))
structure M1 (X:Cx) (o:Expr) (m:Str) (apos:Pos) (e:Expr) (dR:Pos):Prop where
 base:attributeBase o m X.env (eval o X.env)=eval o X.env
 few:((backTo dR (starEach [e] X.env)).all (fun x=>!x.1) && (backToKw dR (keywordEach [] X.env)).all (fun x=>x.1.isSome)
  && decide (([e]:List Expr).length+([]:List Keyword).length+(if([]:List Keyword).isEmpty then 0 else 1) < 30))=true
 line:(apos.endLine==dR.line)=true
 trees:backTo dR (starEach [e] X.env)=[(false,eval e X.env)]
structure M2 (X:Cx) (o:Expr) (m:Str) (apos:Pos) (e f:Expr) (dR:Pos):Prop where
 base:attributeBase o m X.env (eval o X.env)=eval o X.env
 few:((backTo dR (starEach [e,f] X.env)).all (fun x=>!x.1) && (backToKw dR (keywordEach [] X.env)).all (fun x=>x.1.isSome)
  && decide (([e,f]:List Expr).length+([]:List Keyword).length+(if([]:List Keyword).isEmpty then 0 else 1) < 30))=true
 line:(apos.endLine==dR.line)=true
 trees:backTo dR (starEach [e,f] X.env)=[(false,eval e X.env),(false,eval f X.env)]
def Md(H:Hp)(a:Addr):Prop:=(∃kvs,Rd H a (.dK kvs))\/∃kvs,Rd H a (.dT kvs)
section
variable {X:Cx} {pins:Um} {σ:St} {H:Hp} {s:Shared} {a:Addr} {y d:V} {u r:Value} {o:Option V} {A:Around} {E:Uo}
end
def Nb(td ty:TE):TE:=fun σ H Q=>td σ H fun x H1=>∃a,x= .ref a/\Md H1 a/\ty σ H1 fun y H2=>∃o,sJ H2 a y o/\Q (o.getD .bQ) H2
def Nz(td ty tx:TE):TE:=fun σ H Q=>td σ H fun x H1=>∃a,x= .ref a/\Md H1 a/\ty σ H1 fun y H2=>tx σ H2 fun z H3=>∃o,sJ H3 a y o/\Q (o.getD z) H3
def Nr(td ty:TE):TE:=fun σ H Q=>td σ H fun x H1=>∃a,x= .ref a/\Md H1 a/\ty σ H1 fun y H2=>∃kvs k v,H2 a=some (.dK kvs)/\y=kV k/\j6 kvs k=some v/\Q v (upd H2 a (.dK (CO kvs k)))
def NW(td ty tx:TE):TE:=fun σ H Q=>td σ H fun x H1=>∃a,x= .ref a/\Md H1 a/\ty σ H1 fun y H2=>tx σ H2 fun z H3=>∃kvs k,H3 a=some (.dK kvs)/\y=kV k/\
 (∀v,j6 kvs k=some v->Q v (upd H3 a (.dK (CO kvs k))))/\(j6 kvs k=none->Q z H3)
section
variable {X:Cx} {o e f:Expr} {apos dR:Pos} {td ty tx:TE}
end
section
variable {X:Cx} {pins:Um} {σ:St} {H:Hp} {s:Shared} {a:Addr} {kvs:List (Key × V)} {A:Around} {E:Uo}
end
section
variable {X:Cx} {pins:Um} {σ:St} {H:Hp} {s:Shared} {a:Addr} {y:V} {u:Value} {A:Around} {E:Uo}
end
end L2
namespace HT
open PySem PyProof.Rows
def lexLt:List Int->List Int->Bool
 | [],[]=>false
 | [],_ ::_=>true
 | _ ::_,[]=>false
 | x ::xs,y ::ys=>if x=y then lexLt xs ys else decide (x < y)
section
open PySem.SeqAt
open PySem.AutoSeq1 (wpAny_loadPart')
open PySem.MeetsSeq PySem.MeetsSeq2 PySem.MeetsSeq3
end
section
variable {prog:Program} {w:World} {A:Around} {E:Uo} {s:Shared}
theorem ES{t b:Addr}{vs ws:List Value}{Q:Uo}(ht:IsTup s.heap t vs.toArray)(hb:IsTup s.heap b ws.toArray)(hv:vs≠[])
 (h1:ws=[]->Q (.ref t) s) (h2:ws≠[]->Q (.ref s.heap.objs.size) {s with heap:=s.heap.push {cls:= .type "tuple",data:= .seq (vs++ws).toArray}})
 (hsz:vs.length+ws.length<=sizeLine):wpAny (model prog w) A (binaryOp .Add (.ref t) (.ref b)) Q E s:=by
 obtain⟨⟨cls,dd,data,sl⟩,ho,hc,n,hd⟩:=id ht;obtain⟨⟨Ol,Mx,data2,J3⟩,JN,hc2,n2,hd2⟩:=id hb;simp only at hc hd hc2 hd2;subst hc hd hc2 hd2;have e:vs.toArray++ws.toArray=(vs++ws).toArray:=by simp
 by_cases hw:ws=[]
 .exact concat_meets ⟨_,ho,rfl⟩ ⟨_,JN,rfl⟩ noFill_tuple_add seq_tuple_add PySem.F.slot_tuple_add PySem.F.entry_tuple_add (PySem.F.args_tuple_add_2 _ _)
   (tuple_addW1 t b vs.toArray ws.toArray n n2 dd Mx sl J3 (by simpa using hv) (by simp [hw])) ⟨ho,JN,h1 hw⟩
 .refine concat_meets ⟨_,ho,rfl⟩ ⟨_,JN,rfl⟩ noFill_tuple_add seq_tuple_add PySem.F.slot_tuple_add PySem.F.entry_tuple_add (PySem.F.args_tuple_add_2 _ _)
   (tuple_addW2 t b vs.toArray ws.toArray n n2 dd Mx sl J3 (by simpa using hv) (by simpa using hw) (by rw[List.size_toArray,List.size_toArray];exact hsz)) ⟨ho,JN,?_⟩
  rw[e];exact h2 hw
def qd(n d:Nat):Option Int->Nat
 | none=>d
 | some v=>if v < 0 then(v+(n:Int)).toNat else min v.toNat n
theorem qo(n d:Nat):qd n d none=d:=rfl
theorem p7(n d k:Nat):qd n d (some (k:Int))=min k n:=by
 show(if(k:Int) < 0 then((k:Int)+(n:Int)).toNat else min (k:Int).toNat n)=min k n
 rw[if_neg (by omega),Int.toNat_natCast]
end
end HT
namespace L2
open PySem PySem.Spec PyProof.Rows
abbrev TO:=St->Hp->(Option Int->Hp->Prop)->Prop
def PO(X:Cx)(e:Option Expr)(t:TO):Prop:=
 ∀(pins:Um) (s:Shared) (σ:St) (H:Hp) (Q:Option Int->Hp->Prop),Inv X pins σ H s->t σ H Q->
  wpAny (model X.prog X.w) X.A (evalPart e X.env) (fun u s'=>∃o H',Inv X pins σ H' s'/\IsPart u o/\Q o H') X.xe s
def EK:TO:=fun _ H Q=>Q none H
def KD(t:TE):TO:=fun σ H Q=>t σ H fun x H1=>∃i,x= .int i/\Q (some i) H1
section
variable {X:Cx} {e:Expr} {te:TE} {lo hi:Option Expr} {tl th:TO} {pos p2:Pos}
theorem zh:PO X none EK:=by
 intro pins s σ H Q I h;rw[evalPart_none];exact wpAny_pure ⟨none,H,I, .none,h⟩
theorem y_(h:PE X e te):PO X (some e) (KD te):=by
 intro pins s σ H Q I hw;rw[evalPart_some];refine du (h pins s σ H _ I hw) fun u s1 ⟨x,H1,I1,r1,q1⟩=>?_
 obtain⟨i,rfl,q⟩:=q1;obtain⟨t,rfl⟩:=r1;exact⟨some i,H1,I1, .int i t,q⟩
def HD(X:Cx)(r:V->Option Int->Option Int->Hp->VK->Prop):Prop:=
 ∀(pins:Um) (s:Shared) (σ:St) (H:Hp) (x:V) (v vl vu:Value) (lo hi:Option Int) (sl:Addr) (Q:VK),Inv X pins σ H s->RelV x v->s.heap.IsSliceOf sl vl vu .none->IsPart vl lo->IsPart vu hi->r x lo hi H Q->
  ∃T id,typeLookup (.type T) "__getitem__"=pure (some (.builtin id))/\s.TypeIs v T/\wpAny (model X.prog X.w) X.A (getItem v (.ref sl)) (EP X pins σ Q) X.xe s
theorem HD.or{r r':V->Option Int->Option Int->Hp->VK->Prop}(h:HD X r)(h':HD X r'):HD X (fun x lo hi H Q=>r x lo hi H Q\/r' x lo hi H Q):=by
 intro pins s σ H x v vl vu lo hi sl Q I rx hs pl pu q;rcases q with q | q
 .exact h pins s σ H x v vl vu lo hi sl Q I rx hs pl pu q
 .exact h' pins s σ H x v vl vu lo hi sl Q I rx hs pl pu q
def Ro(r:V->Option Int->Option Int->Hp->VK->Prop)(te:TE)(tl th:TO):TE:=fun σ H Q=>te σ H fun x H1=>tl σ H1 fun l H2=>th σ H2 fun u H3=>r x l u H3 Q
theorem rE{r:V->Option Int->Option Int->Hp->VK->Prop}(hr:HD X r)(he:PE X e te)(hl:PO X lo tl)(hu:PO X hi th):PE X (.Subscript e (.Slice lo hi none p2) pos) (Ro r te tl th):=by
 intro pins s σ H Q I h;refine Subscript_ (du (he pins s σ H _ I h) fun v s1 ⟨x,H1,I1,r1,q1⟩=>?_)
 refine wpAny_Slice (du (hl pins s1 σ H1 _ I1 q1) fun vl s2 ⟨l,H2,I2,pl,q2⟩=>du (hu pins s2 σ H2 _ I2 q2) fun vu s3 ⟨u,H3,I3,pu,q3⟩=>?_)
 rw[evalPart_none];refine wpAny_pure ?_;have I4:Inv X pins σ H3 {s3 with heap:=s3.heap.push {cls:= .type "slice",data:= .fields #[vl,vu, .none]}}:=I3.kept (t':=s3.toks) fun b ob q=>Heap.get?_push_of_some _ q
 obtain⟨T,id,hT,ht,hg⟩:=hr pins {s3 with heap:=s3.heap.push {cls:= .type "slice",data:= .fields #[vl,vu, .none]}} σ H3 x v vl vu l u s3.heap.objs.size Q I4 r1 (Heap.IsSliceOf.new ..) pl pu q3
 show wpAny (model X.prog X.w) X.A (subscriptTail e (.Slice lo hi none p2) v (.ref s3.heap.objs.size)) (EP X pins σ Q) X.xe {s3 with heap:=s3.heap.push {cls:= .type "slice",data:= .fields #[vl,vu, .none]}}
 exact tail_any (ops:=[.ref s3.heap.objs.size,v]) ht hT hg (by with_unfolding_all rfl)
def xZ(xs:List V)(lo hi:Option Int):List V:=(xs.drop (HT.qd xs.length 0 lo)).take (HT.qd xs.length xs.length hi - HT.qd xs.length 0 lo)
theorem vO(xs:List V)(lo hi:Option Int):(xZ xs lo hi).length<=xs.length:=by
 unfold xZ;rw[List.length_take,List.length_drop];omega
def Qt(K:W.Frag):V->Option Int->Option Int->Hp->VK->Prop:=fun x lo hi H Q=>∃a xs,x= .ref a/\pB K H a xs/\
 ¬(HT.qd xs.length 0 lo=0/\HT.qd xs.length xs.length hi=xs.length)/\∀p,H p=none->Q (.ref p) (upd H p (.tup (xZ xs lo hi)))
def Q3(K:W.Frag):R2:=fun x y H Q=>∃a b ns ms,x= .ref a/\y= .ref b/\pB K H a (ns.map V.int)/\pB K H b (ms.map V.int)/\Q (.bl (HT.lexLt ns ms)) H
def O1(K:W.Frag):R2:=fun x y H Q=>∃a b xs ys,x= .ref a/\y= .ref b/\pB K H a xs/\pB K H b ys/\xs≠[]/\xs.length+ys.length<=sizeLine/\
 (ys=[]->Q (.ref a) H)/\(ys≠[]->∀p,H p=none->Q (.ref p) (upd H p (.tup (xs++ys))))
end
def yb(n:Nat)(i:Int):Option Nat:=if 0<=i then(if i < n then some i.toNat else none) else if -(n:Int)<=i then some (i+n).toNat else none
def pj{α:Type}(xs:List α)(i:Int):Option α:=(yb xs.length i).bind fun j=>xs[j]?
theorem zp{n:Nat}{i:Int}{j:Nat}(h:yb n i=some j):seqIndex? i n=some j/\j < n/\ -(n:Int)<=i/\i < n:=by
 unfold yb at h;by_cases h0:0<=i
 .rw [if_pos h0] at h;by_cases h1:i < n
  .rw [if_pos h1] at h;have e:i.toNat=j:=Option.some.inj h;exact⟨by rw[seqIndex_of h0 h1,e],by omega,by omega,h1⟩
  .rw [if_neg h1] at h;cases h
 .rw [if_neg h0] at h;by_cases h1: -(n:Int)<=i
  .rw [if_pos h1] at h;have e:(i+n).toNat=j:=Option.some.inj h;exact⟨by rw[seqIndex_neg (by omega) h1,e],by omega,h1,by omega⟩
  .rw [if_neg h1] at h;cases h
theorem uO{α:Type}{xs:List α}{i:Int}{v:α}(h:pj xs i=some v):∃j,seqIndex? i xs.length=some j/\xs[j]? =some v/\j < xs.length/\ -(xs.length:Int)<=i/\i < xs.length:=by
 unfold pj at h;cases e:yb xs.length i with
 | none=>rw [e] at h;cases h
 | some j=>
   rw[e] at h;obtain⟨h1,h2,h3,h4⟩:=zp e;exact⟨j,h1,h,h2,h3,h4⟩
def p8(b:Expr):Prop:=∀o i,subscripted b false o i=operate [o,i] (getItem o i)
def FJ(X:Cx)(r:R2):Prop:=
 ∀(value slice:Expr) (pins:Um) (s:Shared) (σ:St) (H:Hp) (x y:V) (v u:Value) (Q:VK),Inv X pins σ H s->RelV x v->RelV y u->r x y H Q->
  subscripted slice false v u=operate [v,u] (getItem v u)->wpAny (model X.prog X.w) X.A (subscriptTail value slice v u) (EP X pins σ Q) X.xe s
def Qi(X:Cx)(id:String)(r:V->List V->Hp->VK->Prop):Prop:=
 ∀(pins:Um) (s:Shared) (σ:St) (H:Hp) (x:V) (xs:List V) (v:Value) (us:List Value) (Q:VK),Inv X pins σ H s->RelV x v->Vals xs us->r x xs H Q->
  wpAny (model X.prog X.w) X.A (call (.builtin id) (v ::us)) (EP X pins σ Q) X.xe s
section
variable {X:Cx} {a b:Expr} {ta tb:TE} {pos:Pos}
theorem FJ.or{r r':R2}(h:FJ X r)(h':FJ X r'):FJ X (fun x y H Q=>r x y H Q\/r' x y H Q):=by
 intro value slice pins s σ H x y v u Q I rx ry q hs;rcases q with q | q
 .exact h value slice pins s σ H x y v u Q I rx ry q hs
 .exact h' value slice pins s σ H x y v u Q I rx ry q hs
theorem G8{r:R2}(hr:FJ X r)(ha:PE X a ta)(hb:PE X b tb)(hs:p8 b):PE X (.Subscript a b pos) (J1 r ta tb):=by
 intro pins s σ H Q I h;exact Subscript_ (Jc ha hb I h fun v u s2 x y H2 I2 rx ry q=>hr a b pins s2 σ H2 x y v u Q I2 rx ry q (hs _ _))
def Ll(K:W.Frag):R2:=fun x y H Q=>∃p xs i v,x= .ref p/\y= .int i/\mZ K H p xs/\pj xs i=some v/\Q v H
def LC(K:W.Frag):R2:=fun x y H Q=>∃p xs i v,x= .ref p/\y= .int i/\pB K H p xs/\pj xs i=some v/\Q v H
def K7:R2:=fun x y H Q=>∃z i c,x= .str z/\y= .int i/\z.length<=sizeLine/\pj z.cps.toList i=some c/\Q (.str ⟨#[c]⟩) H
theorem FF:FJ X (Ll X.K):=by
 intro value slice pins s σ H x y v u Q I rx ry h hs;obtain⟨p,xs,i,z,rfl,rfl,hq,he,q⟩:=h;cases rx;obtain⟨t,rfl⟩:=ry;obtain⟨its,r,pl,hz⟩:=I.list hq;obtain⟨j,h1,h2,h3,h4,h5⟩:=uO he;obtain⟨w,ew,Es⟩:=r.get h2;have hl:=r.length;have hn:=oB;have fin:EP X pins σ Q w s:=⟨z,H,I,Es,q⟩;by_cases h0:0<=i
 .have hj:i.toNat=j:=by
   rw[seqIndex_of h0 h5] at h1;exact Option.some.inj h1
  exact item_listR pl.isList h0 (by omega) (by rw[hj];simpa using ew) fin hs
 .have hj:(i+(its.toArray.size:Int)).toNat=j:=by
   rw[seqIndex_neg (by omega) h4] at h1
   rw[List.size_toArray,<-hl];exact Option.some.inj h1
  exact subscriptTail_builtinR (x:=w) pl.isList.typeIs slot_list_getitem.lookup
   (wpAny_getItem_list_neg (Q:=fun r s'=>r=w/\EP X pins σ Q r s') pl.isList (by omega) (by rw[List.size_toArray] <;> omega) (by omega) (by rw[hj];simpa using ew) ⟨rfl,fin⟩) hs
theorem Hx:FJ X (LC X.K):=by
 intro value slice pins s σ H x y v u Q I rx ry h hs;obtain⟨p,xs,i,z,rfl,rfl,hq,he,q⟩:=h;cases rx;obtain⟨t,rfl⟩:=ry;obtain⟨its,r,pl,hz⟩:=I.tuple hq;obtain⟨j,h1,h2,h3,h4,h5⟩:=uO he;obtain⟨w,ew,Es⟩:=r.get h2;have hl:=r.length;have hn:=oB;have fin:EP X pins σ Q w s:=⟨z,H,I,Es,q⟩;exact subscriptTail_builtinR (x:=w) pl.typeIs slot_tuple_getitem.lookup
  (getItem_tuple (j:=j) (Q:=fun r s'=>r=w/\EP X pins σ Q r s') pl (by omega) (by omega) (by rw[List.size_toArray,<-hl];exact h1) (by simpa using ew) ⟨rfl,fin⟩) hs
theorem Iu:FJ X K7:=by
 intro value slice pins s σ H x y v u Q I rx ry h hs;obtain⟨z,i,c,rfl,rfl,hz,he,q⟩:=h;obtain⟨t,rfl⟩:=rx;obtain⟨t',rfl⟩:=ry;obtain⟨j,h1,h2,h3,h4,h5⟩:=uO he;have hl:z.cps.toList.length=z.length:=by simp [Str.length]
 rw[hl] at h1 h4 h5;have hn:=oB;exact tail_any (typeIs_str s z t) slot_str_getitem.lookup (getItem_str (c:=c) (by
  have e1:decide (i < -(2 ^ 63:Int))=false:=decide_eq_false (by omega)
  have e2:decide (i>=2 ^ 63)=false:=decide_eq_false (by omega)
  rw[e1,e2,Bool.or_false]) (by rw[h1];simpa using h2) ⟨.str ⟨#[c]⟩,H,I.tok _,⟨_,rfl⟩,q⟩) hs
def MI(K:W.Frag):R2:=fun x y H Q=>Ll K x y H Q\/LC K x y H Q\/K7 x y H Q
theorem B8:FJ X (MI X.K):=FF.or (Hx.or Iu)
theorem yx(its:List Value)(n j:Nat)(u:Value):Obj.mapSeq (·.setIfInBounds j u) {cls:= .type "list",data:= .seq its.toArray n}={cls:= .type "list",data:= .seq (its.set j u).toArray n}:=by
 simp [Obj.mapSeq]
theorem Inv.lst{pins:Um}{H:Hp}{s:Shared}{p:Addr}{xs:List V}(I:Inv X pins σ H s)(h:H p=some (.lst xs)) :
 ∃(its:List Value) (n:Nat),Vals xs its/\s.heap.get? p=some {cls:= .type "list",data:= .seq its.toArray n}/\xs.length<=sizeLine:=by
 obtain⟨z,its,n,r,e⟩:=I.hok p _ h;exact⟨its,n,r,e,z⟩
theorem Inv.Io{pins:Um}{σ:St}{H:Hp}{s:Shared}{p:Addr}{xs ys:List V}{its its':List Value}{n n':Nat}{f:Obj->Obj}(I:Inv X pins σ H s)(h:H p=some (.lst xs))
 (ho:s.heap.get? p=some {cls:= .type "list",data:= .seq its.toArray n}) (hf:f {cls:= .type "list",data:= .seq its.toArray n}={cls:= .type "list",data:= .seq its'.toArray n'}) (r:Vals ys its') (hz:ys.length<=sizeLine) (t:Nat) :
 Inv X pins σ (upd H p (.lst ys)) {s with heap:=s.heap.update p f,toks:=t}:=by
 have e:(s.heap.update p f).get? p=some {cls:= .type "list",data:= .seq its'.toArray n'}:=by
  rw[Heap.get?_update_self f ho (by rw[hf] <;> rfl),hf]
 refine I.write (x:=p) (e:=p) (by rw[h];trivial) (.inl rfl) (fun b u hb q=>(Heap.get?_update_other _ _ (Ne.symm hb)).trans q) ⟨_,e⟩ ?_
 exact⟨hz,its',n',r,e⟩
def G_:V->V->V->Hp->(Hp->Prop)->Prop:=fun o i v H Q=>∃p xs k j,o= .ref p/\i= .int k/\H p=some (.lst xs)/\yb xs.length k=some j/\Q (upd H p (.lst (xs.set j v)))
theorem set_list:Lc X G_:=by
 intro pins s σ H o i v ov iv u Q I ro ri rv h;obtain⟨p,xs,k,j,rfl,rfl,hp,hj,q⟩:=h;cases ro;obtain⟨t,rfl⟩:=ri;obtain⟨its,n,r,ho,hz⟩:=I.lst hp;obtain⟨h1,h2,h3,h4⟩:=zp hj;have hl:=r.length;have hn:=oB;have I':Inv X pins σ (upd H p (.lst (xs.set j v))) {s with heap:=s.heap.update p (Obj.mapSeq (·.setIfInBounds j u))}:=
  I.Io hp ho (yx its n j u) (r.set rv j) (by rw[List.length_set];exact hz) s.toks
 by_cases h0:0<=k
 .have hk:k.toNat=j:=by
   rw[seqIndex_of h0 h4] at h1;exact Option.some.inj h1
  exact PySem.W.ki_setAt ho h0 (by omega) (by rw[List.size_toArray,<-hl];exact h4) (by rw[hk];exact⟨_,I',q⟩)
 .have hk:(k+(its.toArray.size:Int)).toNat=j:=by
   rw[seqIndex_neg (by omega) h3] at h1
   rw[List.size_toArray,<-hl];exact Option.some.inj h1
  exact PySem.W.ki_setBack ho (by omega) (by rw[List.size_toArray,<-hl];exact h3) (by omega) (by rw[hk];exact⟨_,I',q⟩)
theorem uA(lo hi:Option Int)(n:Nat):(sliceBounds lo hi none n).1=((HT.qd n 0 lo:Nat):Int)/\(sliceBounds lo hi none n).2.1=((HT.qd n n hi:Nat):Int)/\(sliceBounds lo hi none n).2.2=1:=by
 refine⟨?_,?_,rfl⟩
 .cases lo with
  | none=>simp [sliceBounds,HT.qd]
  | some i=>
    simp only[sliceBounds,HT.qd,Option.getD_none,show(1:Int) > 0 by decide,if_true]
    by_cases h:i < 0
    .simp only[h,if_true] <;> omega
    .simp only[h,if_false] <;> omega
 .cases hi with
  | none=>simp [sliceBounds,HT.qd]
  | some i=>
    simp only[sliceBounds,HT.qd,Option.getD_none,show(1:Int) > 0 by decide,if_true]
    by_cases h:i < 0
    .simp only[h,if_true] <;> omega
    .simp only[h,if_false] <;> omega
theorem sg(its:List Value)(lo hi:Option Int):slicePick its.toArray lo hi none=((its.drop (HT.qd its.length 0 lo)).take (HT.qd its.length its.length hi - HT.qd its.length 0 lo)).toArray:=by
 obtain⟨h1,h2,h3⟩:=uA lo hi its.toArray.size;unfold slicePick;rw[h1,h2,h3];simp only[sliceRange_one,pick_run,List.size_toArray] <;> rfl
def NN(K:W.Frag):V->Option Int->Option Int->Hp->VK->Prop:=fun x lo hi H Q=>∃a xs,x= .ref a/\mZ K H a xs/\∀p,H p=none->Q (.ref p) (upd H p (.lst (xZ xs lo hi)))
theorem uK:HD X (NN X.K):=by
 intro pins s σ H x v vl vu lo hi sl Q I rx hs pl pu h;obtain⟨a,xs,rfl,hx,q⟩:=h;cases rx;obtain⟨its,r,ht,hz⟩:=I.list hx;have hlen:=r.length;refine⟨"list",_,slot_list_getitem.lookup,ht.isList.typeIs,?_⟩;refine wpAny_getItem_list_slice ht.isList hs pl pu .none (by simp) ?_ (by rw[List.size_toArray] <;> omega)
 rw[sg,<-hlen];refine⟨.ref s.heap.objs.size,_,I.laid (t':=s.toks) (o:= .lst (xZ xs lo hi)) (fun b ob q=>Heap.get?_push_of_some _ q) (Nat.le_refl _) ?_,rfl,q _ (I.hok.fresh (Nat.le_refl _))⟩
 exact⟨Nat.le_trans (vO xs lo hi) hz,_,0,(r.drop (HT.qd xs.length 0 lo)).take (HT.qd xs.length xs.length hi - HT.qd xs.length 0 lo),Heap.get?_push_size _ rfl⟩
def kE:V->Bool
 | .bQ=>true
 | .bl _=>true
 | .int _=>true
 | .str _=>true
 | _=>false
def GJ:V->V->Bool
 | .bQ, .bQ=>true
 | .bl a, .bl b=>a==b
 | .bl a, .int b=>(if a then 1 else 0)==b
 | .int a, .bl b=>a==(if b then 1 else 0)
 | .int a, .int b=>a==b
 | .str a, .str b=>a==b
 | _,_=>false
theorem HY{s:Shared}{y x:V}{u v:Value}(ry:RelV y u)(rx:RelV x v)(fy:kE y=true)(fx:kE x=true):SeqAt.EqAt A s u v (GJ y x):=by
 cases y with
 | bQ=>
   cases ry;cases x with
   | bQ=>cases rx;exact SeqAt.EqAt.same _
   | bl b=>cases rx;exact SeqAt.EqAt.none_bool b
   | int b=>obtain⟨t,rfl⟩:=rx;exact SeqAt.EqAt.none_int b t
   | str b=>obtain⟨t,rfl⟩:=rx;exact SeqAt.EqAt.none_str b t
   | _=>exact absurd (show false=true from fx) Bool.false_ne_true
 | bl a=>
   cases ry;cases x with
   | bQ=>cases rx;exact SeqAt.EqAt.bool_none a
   | bl b=>cases rx;exact SeqAt.EqAt.bool_bool a b
   | int b=>obtain⟨t,rfl⟩:=rx;exact SeqAt.EqAt.bool_int a b t
   | str b=>obtain⟨t,rfl⟩:=rx;exact SeqAt.EqAt.bool_str a b t
   | _=>exact absurd (show false=true from fx) Bool.false_ne_true
 | int a=>
   obtain⟨t',rfl⟩:=ry;cases x with
   | bQ=>cases rx;exact SeqAt.EqAt.int_none a t'
   | bl b=>cases rx;exact SeqAt.EqAt.int_bool a t' b
   | int b=>obtain⟨t,rfl⟩:=rx;exact SeqAt.EqAt.int_int a t' b t
   | str b=>obtain⟨t,rfl⟩:=rx;exact SeqAt.EqAt.int_str a t' b t
   | _=>exact absurd (show false=true from fx) Bool.false_ne_true
 | str a=>
   obtain⟨t',rfl⟩:=ry;cases x with
   | bQ=>cases rx;exact SeqAt.EqAt.str_none a t'
   | bl b=>cases rx;exact SeqAt.EqAt.str_bool a t' b
   | int b=>obtain⟨t,rfl⟩:=rx;exact SeqAt.EqAt.str_int a t' b t
   | str b=>obtain⟨t,rfl⟩:=rx;exact SeqAt.EqAt.str_str a t' b t
   | _=>exact absurd (show false=true from fx) Bool.false_ne_true
 | _=>exact absurd (show false=true from fy) Bool.false_ne_true
def xv(x:V)(u:Value):Bool:=match u with
 | .none=>GJ .bQ x
 | .bool b=>GJ (.bl b) x
 | .int i _=>GJ (.int i) x
 | .str z _=>GJ (.str z) x
 | _=>false
theorem Br{x y:V}{u:Value}(r:RelV y u)(f:kE y=true):xv x u=GJ y x:=by
 cases y with
 | bQ=>cases r;rfl
 | bl b=>cases r;rfl
 | int i=>obtain⟨t,rfl⟩:=r;rfl
 | str z=>obtain⟨t,rfl⟩:=r;rfl
 | _=>exact absurd (show false=true from f) Bool.false_ne_true
theorem ni{x:V}:∀{xs:List V} {us:List Value},Vals xs us->xs.all kE=true->us.any (xv x)=xs.any fun y=>GJ y x
 | _,_, .nil,_=>rfl
 | y ::xs,u ::us, .cons r t,f=>by
   rw[List.all_cons,Bool.and_eq_true] at f;rw[List.any_cons,List.any_cons,Br r f.1,ni t f.2]
theorem kO{s:Shared}{x:V}{v:Value}(rx:RelV x v)(fx:kE x=true):∀{xs:List V} {us:List Value},Vals xs us->xs.all kE=true->∀u∈us,SeqAt.EqAt A s u v (xv x u)
 | _,_, .nil,_=>fun u hu=>by cases hu
 | y ::xs,u ::us, .cons r t,f=>fun u' hu=>by
   rw[List.all_cons,Bool.and_eq_true] at f;rcases List.mem_cons.mp hu with rfl | hu
   .rw [Br r f.1];exact HY r rx f.1 fx
   .exact kO rx fx t f.2 u' hu
def GX(x:V)(xs:List V):Bool:=xs.any fun y=>GJ y x
def M_(K:W.Frag)(neg:Bool):R2:=fun x y H Q=>∃p xs,y= .ref p/\(mZ K H p xs\/pB K H p xs)/\kE x=true/\xs.all kE=true/\Q (.bl (if neg then !GX x xs else GX x xs)) H
theorem Aq:kD X (compareOp .In) (M_ X.K false):=by
 intro pins s σ H x y v u Q I rx ry h;obtain⟨p,xs,rfl,hq,fx,fs,q⟩:=h;cases ry;rcases hq with hq | hq
 .obtain⟨its,r,pl,hz⟩:=I.list hq;refine SeqAt.in_listAt (xv x) pl.isList (fun w hw=>kO rx fx r fs w (by simpa using hw)) ⟨.bl _,H,I,rfl,?_⟩
  rw[show its.toArray.any (xv x)=its.any (xv x) by simp,ni r fs]
  exact q
 .obtain⟨its,r,pl,hz⟩:=I.tuple hq;refine SeqAt.in_tupleAt (xv x) pl (fun w hw=>kO rx fx r fs w (by simpa using hw)) ⟨.bl _,H,I,rfl,?_⟩
  rw[show its.toArray.any (xv x)=its.any (xv x) by simp,ni r fs]
  exact q
theorem uP:kD X (compareOp .NotIn) (M_ X.K true):=by
 intro pins s σ H x y v u Q I rx ry h;obtain⟨p,xs,rfl,hq,fx,fs,q⟩:=h;cases ry;rcases hq with hq | hq
 .obtain⟨its,r,pl,hz⟩:=I.list hq;refine SeqAt.notIn_listAt (xv x) pl.isList (fun w hw=>kO rx fx r fs w (by simpa using hw)) ⟨.bl _,H,I,rfl,?_⟩
  rw[show its.toArray.any (xv x)=its.any (xv x) by simp,ni r fs]
  exact q
 .obtain⟨its,r,pl,hz⟩:=I.tuple hq;refine SeqAt.notIn_tupleAt (xv x) pl (fun w hw=>kO rx fx r fs w (by simpa using hw)) ⟨.bl _,H,I,rfl,?_⟩
  rw[show its.toArray.any (xv x)=its.any (xv x) by simp,ni r fs]
  exact q
theorem uq:kC X (.type "list") (fun xs H Q=>∃p ys,xs=[.ref p]/\(mZ X.K H p ys\/pB X.K H p ys)/\∀l,H l=none->Q (.ref l) (upd H l (.lst ys))):=by
 intro pins s σ H xs us Q I r h;obtain⟨p,ys,rfl,hq,q⟩:=h;obtain⟨u,rfl,rx⟩:=vals1 r;cases rx;have fin:∀(its:List Value),Vals ys its->ys.length<=sizeLine->∀(h':Heap) (c':Nat),(∀b o',s.heap.get? b=some o'->h'.get? b=some o')->
  h'.get? s.heap.objs.size=some {cls:= .type "list",dict:=none,data:= .seq its.toArray c',slots:=#[]}->EP X pins σ Q (.ref s.heap.objs.size) {s with heap:=h'}:=fun its r' hz h' c' kp e=>
  ⟨.ref s.heap.objs.size,_,I.laid (t':=s.toks) kp (Nat.le_refl _) (show cY X.prog X.w _ h' _ (.lst ys) from⟨hz,its,c',r',e⟩),rfl,q _ (I.hok.fresh (Nat.le_refl _))⟩
 rcases hq with hq | hq
 .obtain⟨its,r',pl,hz⟩:=I.list hq;have hlen:=r'.length;obtain⟨o,ho,hc,n,hd⟩:=pl.isList;exact call_list_seq p (.inl rfl) ho hc hd (fun h' c' kp e=>fin its r' hz h' c' kp e) (by simp only[List.size_toArray] <;> omega)
 .obtain⟨its,r',pl,hz⟩:=I.tuple hq;have hlen:=r'.length;obtain⟨o,ho,hc,n,hd⟩:=pl;exact call_list_seq p (.inr rfl) ho hc hd (fun h' c' kp e=>fin its r' hz h' c' kp e) (by simp only[List.size_toArray] <;> omega)
theorem se:kC X (.type "tuple") (fun xs H Q=>∃p ys,xs=[.ref p]/\((mZ X.K H p ys/\∀l,H l=none->Q (.ref l) (upd H l (.tup ys)))\/(pB X.K H p ys/\Q (.ref p) H))):=by
 intro pins s σ H xs us Q I r h;obtain⟨p,ys,rfl,h⟩:=h;obtain⟨u,rfl,rx⟩:=vals1 r;cases rx;rcases h with⟨hq,q⟩ | ⟨hq,q⟩
 .obtain⟨its,r',pl,hz⟩:=I.list hq;have hlen:=r'.length;refine call_tuple_list pl.isList (fun h' kp=>?_) (by simp only[List.size_toArray] <;> omega)
  have I1:Inv X pins σ H {s with heap:=h'}:=I.kept (t':=s.toks) kp
  have I2:Inv X pins σ (upd H h'.objs.size (.tup ys)) {s with heap:=h'.push {cls:= .type "tuple",data:= .seq its.toArray}}:=
   I1.laid (t':=s.toks) (fun b o e=>Heap.get?_push_of_some _ e) (Nat.le_refl _) (show cY X.prog X.w _ _ _ (.tup ys) from⟨hz,its,r',IsTup.new _ _⟩)
  exact⟨.ref h'.objs.size,_,I2,rfl,q _ (I1.hok.fresh (Nat.le_refl _))⟩
 .obtain⟨its,r',pl,hz⟩:=I.tuple hq;exact call_tuple_same pl ⟨.ref p,H,I,rfl,q⟩
def MP(K:W.Frag)(T:String)(x:V)(H:Hp):Prop:=match x with
 | .str _=>T="str"
 | .int _=>T="int"
 | .ref p=>(T="list"/\∃xs,mZ K H p xs)\/(T="tuple"/\∃o,K.lookup p=some o/\o.cls= .type "tuple"/\o.dict=none)\/
    (T="dict"/\((∃kvs,H p=some (.dK kvs))\/∃kvs,H p=some (.dT kvs)))\/(T="set"/\∃S n,H p=some (.set S n))
 | _=>False
theorem Hu{pins:Um}{s:Shared}{T:String}{x:V}{v:Value}(I:Inv X pins σ H s)(r:RelV x v)(ty:MP X.K T x H) :
 s.TypeIs v T/\∀a,v= .ref a->∃ob,s.heap.get? a=some ob/\ob.dict=none:=by
 cases x with
 | str z=>
   obtain⟨t,rfl⟩:=r;cases(show T="str" from ty)
   exact⟨typeIs_str s z t,fun _ e=>nomatch e⟩
 | int i=>
   obtain⟨t,rfl⟩:=r;cases(show T="int" from ty)
   exact⟨typeIs_int s i t,fun _ e=>nomatch e⟩
 | ref p=>
   cases r;rcases ty with⟨rfl,xs,hq⟩ | ⟨rfl,o,hk,hc,hd⟩ | ⟨rfl,hk⟩ | ⟨rfl,S,n,hk⟩
   .obtain⟨its,_,pl,_⟩:=I.list hq;refine⟨pl.isList.typeIs,fun a e=>?_⟩
    cases e;obtain⟨o,n,e,c,hd,_⟩:=pl;exact⟨o,e,hd⟩
   .refine⟨⟨o,I.n0 p o hk,hc⟩,fun a e=>?_⟩
    cases e;exact⟨o,I.n0 _ o hk,hd⟩
   .have z:∃o,s.heap.get? p=some o/\o.ExactDict:=by
     rcases hk with⟨kvs,hk⟩ | ⟨kvs,hk⟩
     .obtain⟨_,_,_,_,o,_,_,e,ex,_⟩:=I.hok p _ hk;exact⟨o,e,ex⟩
     .obtain⟨_,_,_,_,o,_,_,e,ex,_⟩:=I.hok p _ hk;exact⟨o,e,ex⟩
    obtain⟨o,e,ex⟩:=z;refine⟨⟨o,e,ex.1⟩,fun a e2=>?_⟩
    cases e2;exact⟨o,e,ex.2.1⟩
   .obtain⟨o,_,_,_,e,ex,_⟩:=I.hok p _ hk;refine⟨⟨o,e,ex.1⟩,fun a e2=>?_⟩
    cases e2;exact⟨o,e,ex.2.1⟩
 | _=>exact False.elim ty
def Qn(K:W.Frag)(T:String)(r:V->List V->Hp->VK->Prop)(to:TE):TE:=fun σ H Q=>to σ H fun x H1=>MP K T x H1/\r x [] H1 Q
def Rr(K:W.Frag)(T:String)(r:V->List V->Hp->VK->Prop)(to:TE)(t:TA):TE:=fun σ H Q=>to σ H fun x H1=>MP K T x H1/\t σ H1 fun xs H2=>r x xs H2 Q
variable {o e:Expr} {es:List Expr} {to:TE} {t:TA} {name:Str} {apos dR:Pos} {T id:String} {r:V->List V->Hp->VK->Prop}
theorem G9(pa:PlainAttrs T)(slot:Slot T name id)(RY:typeOf (.builtin id)=pure (.type "method_descriptor"))(hm:Qi X id r)(ho:PE X o to)(ha:PA X (e ::es) t)
 (rR:attributeBase o name X.env (eval o X.env)=eval o X.env:=by rfl)
 (yT:((backTo dR (starEach (e ::es) X.env)).all (fun x=>!x.1) && (backToKw dR (keywordEach [] X.env)).all (fun x=>x.1.isSome)
   && decide ((e ::es).length+([]:List Keyword).length+(if([]:List Keyword).isEmpty then 0 else 1) < 30))=true:=by rfl)
 (rT:(apos.endLine==dR.line)=true:=by rfl) (hs:starEach (e ::es) X.env=(false,eval e X.env) ::starEach es X.env:=by rfl) (JR:(backTo dR (starEach es X.env)).any (·.1)=false:=by rfl) :
 PE X (.Call (.Attribute o name apos) (e ::es) [] dR) (Rr X.K T r to t):=by
 intro pins s σ H Q I h;refine wpAny_Call_method_late rR yT rT rfl (du (ho pins s σ H _ I h) fun v s1 ⟨x,H1,I1,r1,ty,q1⟩=>?_)
 obtain⟨h1,h2⟩:=Hu I1 r1 ty;refine⟨T,id,pa,slot,RY,h1,h2,?_⟩;have hA:=ha dR pins s1 σ H1 _ I1 q1;rw[hs] at hA ⊢;refine Calls.callWith_builtin (by show(false || (backTo dR (starEach es X.env)).any (·.1))=false;rw [JR] <;> rfl) (Calls.evalArgs_plain ?_)
 exact du hA fun us s2 ⟨vs,H2,I2,r2,q2⟩=>hm pins s2 σ H2 x vs v us Q I2 r1 r2 q2
end
def QX(X:Cx)(id:String)(r:V->List V->Hp->VK->Prop):Prop:=
 ∀(pins:Um) (s:Shared) (σ:St) (H:Hp) (x:V) (xs:List V) (v:Value) (us:List Value) (Q:VK),Inv X pins σ H s->RelV x v->Vals xs us->r x xs H Q->
  wpAny (model X.prog X.w) X.A (call (.builtin id) (v ::us)) (EP X pins σ Q) X.xe s
theorem Vals.one:∀{x:V} {us:List Value},Vals [x] us->∃u,us=[u]/\RelV x u
 | _,_, .cons r .nil=>⟨_,rfl,r⟩
theorem Vals.rep{xs:List V}{us:List Value}(h:Vals xs us):∀k:Nat,Vals (List.replicate k xs).flatten (List.replicate k us).flatten
 | 0=> .nil
 | k+1=>by
   rw[List.replicate_succ,List.replicate_succ,List.flatten_cons,List.flatten_cons];exact Vals.append h (Vals.rep h k)
theorem foldl_rep(its:List Value):∀(k:Nat) (acc:List Value),
 List.foldl (fun x1 x2=>x1++x2) acc.toArray (List.replicate k its.toArray)=(acc++(List.replicate k its).flatten).toArray
 | 0,acc=>by simp
 | k+1,acc=>by
   have e:acc.toArray++its.toArray=(acc++its).toArray:=by simp
   have e2:(acc++its)++(List.replicate k its).flatten=acc++(List.replicate (k+1) its).flatten:=by
    rw[List.replicate_succ,List.flatten_cons,List.append_assoc]
   rw[<-e2,<-foldl_rep its k (acc++its),<-e,List.replicate_succ,List.foldl_cons]
section
variable {X:Cx} {pins:Um} {σ:St} {H:Hp} {s:Shared} {l b:Addr} {xs ys zs:List V}
theorem Inv.M0{its its':List Value}{n:Nat}{f:Array Value->Array Value}{t':Nat}(I:Inv X pins σ H s)(hH:H l=some (.lst xs))
 (e:s.heap.get? l=some {cls:= .type "list",data:= .seq its.toArray n}) (hf:f its.toArray=its'.toArray) (hv:Vals ys its') (hz:ys.length<=sizeLine) :
 Inv X pins σ (upd H l (.lst ys)) {s with heap:=s.heap.update l (Obj.mapSeq f),toks:=t'}:=by
 have q:=PySem.IsL.update e f;rw[hf] at q;refine I.write (x:=l) (e:=l) (by rw[hH];exact trivial) (.inl rfl) (fun b' u hb hu=>(Heap.get?_update_other s.heap (Obj.mapSeq f) (Ne.symm hb)).trans hu) ⟨_,q⟩ ?_
 exact⟨hz,its',_,hv,q⟩
theorem Inv.EY{its:List Value}{t':Nat}(I:Inv X pins σ H s)(hv:Vals ys its)(hz:ys.length<=sizeLine) :
 Inv X pins σ (upd H s.heap.objs.size (.lst ys)) {s with heap:=s.heap.push {cls:= .type "list",data:= .seq its.toArray},toks:=t'}:=
 I.laid (fun _ _ q=>Heap.get?_push_of_some _ q) (Nat.le_refl _) ⟨hz,its,0,hv,Heap.get?_push_size _ rfl⟩
theorem Inv.fresh(I:Inv X pins σ H s):H s.heap.objs.size=none:=I.hok.fresh (Nat.le_refl _)
theorem Inv.Lk(I:Inv X pins σ H s)(hH:H l=some (.lst xs)):xs.length<=sizeLine/\∃(its:List Value) (n:Nat),Vals xs its/\xs.length=its.length/\s.heap.get? l=some {cls:= .type "list",data:= .seq its.toArray n}:=by
 obtain⟨z,its,n,r,e⟩:=I.hok l _ hH;exact⟨z,its,n,r,r.length,e⟩
theorem BL{n:Nat}(h:n<=sizeLine):Builtin.List.listTooLong n=false:=by
 unfold Builtin.List.listTooLong;exact decide_eq_false (by omega)
end
section
variable {X:Cx}
def Ey:V->List V->Hp->VK->Prop:=fun x vs H Q=>∃l xs y,x= .ref l/\vs=[y]/\H l=some (.lst xs)/\xs.length < sizeLine/\Q .bQ (upd H l (.lst (xs++[y])))
theorem oC:QX X "list.append" Ey:=by
 intro pins s σ H x vs v us Q I rx rv h;obtain⟨l,xs,y,rfl,rfl,hH,hz,q⟩:=h;cases rx;obtain⟨u,rfl,ru⟩:=rv.one;obtain⟨z,its,n,r,hl,e⟩:=I.Lk hH;refine call_meets F.slot_list_append ⟨_,e,rfl⟩ F.entry_list_append (F.args_list_append_2 _ _) (PySem.list_append l its.toArray n u (by rw[List.size_toArray];omega)) ⟨e,?_⟩
 refine⟨.bQ,_,I.M0 (its':=its++[u]) hH e (by simp) (r.append (.cons ru .nil)) ?_,rfl,q⟩
 rw[List.length_append,List.length_singleton];omega
def Mu:V->List V->Hp->VK->Prop:=fun x vs H Q=>∃l b xs zs,x= .ref l/\vs=[.ref b]/\H l=some (.lst xs)/\H b=some (.lst zs)/\xs.length+zs.length<=sizeLine/\Q .bQ (upd H l (.lst (xs++zs)))
def QI:V->List V->Hp->VK->Prop:=fun x vs H Q=>∃l xs y,x= .ref l/\vs=[]/\H l=some (.lst xs)/\xs[xs.length - 1]? =some y/\Q y (upd H l (.lst xs.dropLast))
def NP:V->List V->Hp->VK->Prop:=fun x vs H Q=>∃l xs i k y,x= .ref l/\vs=[.int i]/\H l=some (.lst xs)/\ -(2 ^ 63)<=i/\i < 2 ^ 63/\seqIndex? i xs.length=some k/\xs[k]? =some y/\Q y (upd H l (.lst (xs.eraseIdx k)))
def KS:V->List V->Hp->VK->Prop:=fun x vs H Q=>∃l xs,x= .ref l/\vs=[]/\H l=some (.lst xs)/\Q .bQ (upd H l (.lst xs.reverse))
def MX:V->List V->Hp->VK->Prop:=fun x vs H Q=>∃l xs,x= .ref l/\vs=[]/\H l=some (.lst xs)/\Q .bQ (upd H l (.lst []))
def Ra:R2:=fun x y H Q=>∃l b xs zs,x= .ref l/\y= .ref b/\H l=some (.lst xs)/\H b=some (.lst zs)/\xs.length+zs.length<=sizeLine/\∀p,H p=none->Q (.ref p) (upd H p (.lst (xs++zs)))
def NJ:R2:=fun x y H Q=>∃l k xs,x= .ref l/\y= .int k/\H l=some (.lst xs)/\ -(2 ^ 63)<=k/\k < 2 ^ 63/\xs.length*k.toNat<=sizeLine/\
 ∀p,H p=none->Q (.ref p) (upd H p (.lst (List.replicate k.toNat xs).flatten))
theorem len_rep{α:Type}(xs:List α)(k:Nat):(List.replicate k xs).flatten.length=k*xs.length:=by
 induction k with
 | zero=>simp
 | succ k ih=>rw [List.replicate_succ,List.flatten_cons,List.length_append,ih,Nat.succ_mul,Nat.add_comm]
theorem HE:kD X (binaryOp .Mult) NJ:=by
 intro pins s σ H x y v u Q I rx ry h;obtain⟨l,k,xs,rfl,rfl,hH,h1,h2,hz,q⟩:=h;cases rx;obtain⟨t,rfl⟩:=ry;obtain⟨z,its,n,r,hl,e⟩:=I.Lk hH;have hlen:its.toArray.size*k.toNat<=sizeLine:=by rw[List.size_toArray,<-hl];exact hz
 have hcap:¬its.toArray.size*k.toNat > (2 ^ 63 - 1) / 8:=by
  have:(sizeLine:Nat)<=(2 ^ 63 - 1) / 8:=by decide
  omega
 have hfit:¬(!Builtin.List.listFitsIndex k)=true:=by
  rw[fitsIndex_both h1 h2];exact Bool.false_ne_true
 have hlong:¬Builtin.List.listTooLong (its.toArray.size*k.toNat)=true:=by
  rw[BL hlen];exact Bool.false_ne_true
 have hnew:List.foldl (fun x1 x2=>x1++x2) #[] (List.replicate (if its.toArray.isEmpty=true then 0 else k.toNat) its.toArray)=(List.replicate k.toNat its).flatten.toArray:=by
  have f0:∀m:Nat,List.foldl (fun x1 x2=>x1++x2) #[] (List.replicate m its.toArray)=(List.replicate m its).flatten.toArray:=fun m=>by
   have:=foldl_rep its m [];rw[List.nil_append] at this;exact this
  rw[f0];cases its with
  | nil=>simp
  | cons a r'=>rw [if_neg (by simp)]
 refine wpAny_binaryOp_repeat_ref (T:="list") (U:="int") (by decide) ⟨_,e,rfl⟩ (fun s'=>typeIs_int s' k t) noFill_list_mul F.fills_int_mul F.slot_int_rmul repeat_list F.slot_int_index.lookup
  (call_meets F.slot_int_rmul (typeIs_int s k t) F.entry_int_rmul (F.args_int_rmul_2 _ _) (int___rmul___int_list k t l its.toArray n)
    ⟨e,rfl,⟨_,e,rfl⟩,call_meets F.slot_list_mul ⟨_,e,rfl⟩ F.entry_list_mul (F.args_list_mul_2 _ _) (AutoListH.list___mul___list_int_3 l its.toArray n k t hfit hcap hlong) ⟨e,?_⟩⟩)
 rw[hnew];exact⟨.ref _,_,I.EY (t':=s.toks) (r.rep k.toNat) (by rw[len_rep,Nat.mul_comm];exact hz),rfl,q _ I.fresh⟩
end
section
variable {prog:Program} {w:World} {A:Around} {E:Uo} {s:Shared}
set_option maxRecDepth 100000 in
end
section
variable {X:Cx}
end
end L2
namespace Att
open PySem PySem.W PySem.Calls PyProof.Rows
theorem pI{P:Params}:∀(ns:List Int) (vs:List Value),WellAll P h vs (ns.map WData.int)->IntsAre vs ns:=by
 intro ns
 induction ns with
 | nil=>
   intro vs w;rw[List.map_nil] at w;cases w;exact .nil
 | cons n ns ih=>
   intro vs w;rw[List.map_cons] at w;cases w with
   | cons a b=>
     cases a;exact .cons _ _ (ih _ b)
theorem A6{l:OpenLaw}{n:Nat}(hn:l.most=some n){P:Params}{h:Heap}{args:List WData}{vals:List Value}
 (Gz:l.row.toRowW.claim.pre args=true) (Eb:WellAll P h vals args) :
 ∃a vs ns,vals=[Value.ref a]/\args=[WData.list (ns.map WData.int)]/\h.get? a=some {cls:= .type "list",data:= .seq vs.toArray}/\IntsAre vs ns/\ns.length<=n:=by
 have hsh:WShape.hasAll [] args [.list .int]=true:=(pre_splitW Gz).1;have hc:l.pre.holds [] {args:=args}=true:=(pre_splitW Gz).2;obtain⟨d,r,rfl,h1,h2⟩:=hasAllW_cons hsh;obtain rfl:=hasAllW_nil h2;obtain⟨xs,rfl,h3⟩:=hasW_list h1;obtain⟨ns,rfl⟩:=items_int h3;have hlen:ns.length<=n:=by
  unfold OpenLaw.pre at hc;have h4:(WTm.not (.lt (.lit (.int (n:Int))) (.len (.arg 0)))).holds [] {args:=[.list (ns.map .int)]}=true:=by
   have h4:=(holds_andW hc).1;rw[hn] at h4;exact h4
  have h5:=condW_of h4 (w_not (w_lt w_lit (w_len_list (w_arg rfl))));rw[List.length_map] at h5;refine Nat.le_of_not_lt fun q=>?_
  have q':(n:Int) < ((ns.length:Nat):Int):=by omega
  first
   | (rw [decide_eq_true q'] at h5;exact absurd h5 (by decide))
   | (simp at h5;omega)
 cases Eb with
 | cons w1 w2=>
   cases w2;cases w1 with
   | list ho hall=>exact⟨_,_,ns,rfl,rfl,ho,pI ns _ hall,hlen⟩
theorem AL(l:OpenLaw)(args:List WData):l.row.toRowW.claim.post args (.bool true) args=true:=
 postW_of (r:=l.row.toRowW) (X:=(true==true))
  (show WShape.has [] (.bool true) .bool=true by first | rfl | decide | simp [WShape.has,WShape.arms,WShape.armsAll])
  (show(WTm.eq .res (.lit (.bool true))).value [] {args:=args,res:=some (.bool true),after:=args}=some (.bool (true==true)) from w_eq_bool (w_res rfl) w_lit) rfl
theorem vX{l:OpenLaw}{n:Nat}{q:Program}{loose:List Str}{XP:(Str->Option Value)->Heap->Prop}{YP:World->Heap->Prop}{d:DefRec}
 (hn:l.most=some n) (Oo:d.params.defaults=[])
 (call:∀(w:World) (s₀ s₁:Shared) (mg mb:Ut) (fa:Addr) (o:Obj) (pm cd doc:Value) (a:Addr) (vs:List Value) (ns:List Int),
   Ground q loose [] XP w s₀ mg mb s₁.heap->YP w s₁.heap->
   s₁.heap.get? fa=some o->o.data= .func (docDef d.name d.params d.body d.scope pm cd doc)->s₁.heap.CodeRec cd d.name->mg d.name=some (.ref fa)->
   s₁.heap.get? a=some {cls:= .type "list",data:= .seq vs.toArray}->IntsAre vs ns->ns.length<=n->s₁.gens=#[]->
   codeAny (model l.prog w) callerA (.call (.ref fa) ⟨[.ref a],[]⟩) (fun r s'=>r= .ok (.ret (.bool true))/\OldK s₁.heap s'.heap/\s'.os=s₁.os/\AllBare s'.gens) s₁) :
 WalkO q loose XP YP l.row.toRowW d [] (fun f vs=>PySem.call f vs):=by
 intro w s₀ s₁ mg mb G Y fa o pm cd doc dV kV ho hd sN hD LU hg args vals as Gz hlay hrd Eb hlo;obtain rfl:dV= .none:=Dflts.none hD Oo;obtain rfl:kV= .none:=Dflts.noKw hD;obtain⟨a,vs,ns,rfl,rfl,JM,hints,hlen⟩:=A6 hn Gz Eb;refine enter_call (codeAny_mono (call w s₀ s₁ mg mb fa o pm cd doc a vs ns G Y ho (fd_plain hd) sN LU JM hints hlen hg) fun r s' hq=>?_)
 obtain⟨rfl,h2,h3,h4⟩:=hq;exact⟨.inl ⟨.bool true, .bool true,[],rfl,fun _=>rfl, .bool true,AL l _,fun _=>⟨List.Pairwise.nil,fun _ hm=>(nomatch hm)⟩⟩,h2,h3,h4⟩
section
variable {prog:Program} {w:World} {A:Around} {E:Uo} {s:Shared} {K:Frag}
def MM(h:Heap):Heap:={h with objs:=#[]}
def ledger(h:Heap)(L d:Addr):Um:=(List.range h.objs.size).filterMap fun a=>if a=L\/a=d then none else(h.get? a).map fun o=>(a,o)
end
end Att
namespace L2
open PySem PySem.Spec PyProof.Rows
theorem tG:∀{vs:List Value} {ns:List Int},IntsAre vs ns->Vals (ns.map V.int) vs
 | _,_, .nil=> .nil
 | _,_, .cons n t h=> .cons ⟨t,rfl⟩ (tG h)
def Ly(H:Hp):Prop:=∀b,H b=none\/∃o xs,H b=some (.jf o (.lst xs))
abbrev gU{K:W.Frag}{h:Heap}(_:K.In h):W.Frag:=K
def inClass(s:Stmt)(j:Nat):Stmt:=match s with
 | .ClassDef _ _ _ body _ _ _ _ _ _ _=>body.getD j (.Pass ⟨0,0,0,0⟩)
 | _=> .Pass ⟨0,0,0,0⟩
def gg(s:Stmt):Arguments:=match s with
 | .FunctionDef _ a _ _ _ _ _ _ _ _=>a
 | _=>{posonlyargs:=[],args:=[],vararg:=none,kwonlyargs:=[],kw_defaults:=[],kwarg:=none,defaults:=[]}
def aJ(s:Stmt):List Stmt:=match s with
 | .FunctionDef _ _ b _ _ _ _ _ _ _=>b
 | _=>[]
def ax(s:Stmt):Scope:=match s with
 | .FunctionDef _ _ _ _ _ _ sc _ _ _=>sc
 | _=>{kind:= .function,names:=[],isGenerator:=false,isCoroutine:=false}
abbrev rZ:B_:=fun _ _ _ _ _ _=>False
abbrev E0:XK:=fun _ _ _=>False
theorem wW{X:Cx}:Passes rZ X E0:=fun _ _ _ _ _ _ _ h=>h.elim
structure zk (K:W.Frag) (x qual:Str) (st:Stmt) (f:Addr) (fd:FuncData):Prop where
 ex:∃(oc:Value) (od:Option Addr) (kV doc pm:Value) (an:Option Addr) (dI ct:Value) (Et:Array (Option Value)),
  fd=PySem.W.fnOf x qual (gg st) (aJ st) (ax st) .none kV doc pm an dI ct/\K.lookup f=some ⟨oc,od, .func fd,Et⟩/\PySem.W.codeIn K dI qual=true
 kp:PySem.W.keepIn K (.ref f)=true
section
variable {P:Program} {w:World} {K:W.Frag} {mg:Ut} {base:Heap}
theorem zk.ok{x qual:Str}{st:Stmt}{f:Addr}{fd:FuncData}{N ps:List Str}{k:Nat}{sp:Sp}(F:zk K x qual st f fd)(S:aY N ps (ax st))(len:∀vs H Q E,sp vs H Q E->vs.length=ps.length)
 (j1:∀(dI:Value) (A:Around) (outer:List Env) (s:Shared) (H:Hp) (vs:List V) (Q:VK) (E:XK),dQ k (A.deeper (envOfC qual (ax st) s.heap.objs.size f dI))->sp vs H Q E->
   ∃t,uT (qm rZ P w K mg base N qual (ax st) f dI A outer s H E).F6 (aJ st) t/\t {nx:=fun _ H'=>Q .bQ H',rt:=Q} (start N vs) H):gH P w K mg base rZ (k+1) f fd ps sp:=by
 obtain⟨oc,od,kV,doc,pm,an,dI,ct,Et,rfl,lk,sN⟩:=F.ex;refine Km lk sN S len fun A outer s H vs Q E hr J4=>?_
 obtain⟨t,h,q⟩:=j1 dI A outer s H vs Q E hr J4;exact⟨t,h.F6,q⟩
theorem zk.binds{x qual:Str}{st:Stmt}{f:Addr}{fd:FuncData}{ps:List Str}(F:zk K x qual st f fd)
 (h:∀(kV doc pm:Value) (an:Option Addr) (dI ct:Value) (us:List Value),us.length=ps.length->bindArgs (PySem.W.fnOf x qual (gg st) (aJ st) (ax st) .none kV doc pm an dI ct) ⟨us,[]⟩=pure (ps.zip us)):Binds K fd ps []:=by
 obtain⟨oc,od,kV,doc,pm,an,dI,ct,Et,rfl,lk,sN⟩:=F.ex;exact .all (h kV doc pm an dI ct)
theorem oi{x qual:Str}{st:Stmt}{f:Addr}{oc:Value}{od an:Option Addr}{Et:Array (Option Value)}{kV doc pm dI ct:Value}(l:K.lookup f=some ⟨oc,od, .func (PySem.W.fnOf x qual (gg st) (aJ st) (ax st) .none kV doc pm an dI ct),Et⟩)
 (c:PySem.W.codeIn K dI qual=true) (k:PySem.W.keepIn K (.ref f)=true):zk K x qual st f (PySem.W.fnOf x qual (gg st) (aJ st) (ax st) .none kV doc pm an dI ct):=⟨⟨oc,od,kV,doc,pm,an,dI,ct,Et,rfl,l,c⟩,k⟩
end
theorem Bp{A:Around}{k:Nat}(hr:dQ k A):A.units+1 < cLine:=Nat.lt_of_le_of_lt (Nat.add_le_add_left (by decide:1<=64) _) hr.units
section
variable {X:Cx}
end
theorem Aj{A B:Prop}(h:B):if false=true then A else B:=by
 rw[if_neg Bool.false_ne_true];exact h
theorem AV{A B:Prop}(h:A):if true=true then A else B:=by
 rw[if_pos rfl];exact h
def aI(H H':Hp):Prop:=∀b o,H b=some o->H' b=some o
theorem aI.refl(H:Hp):aI H H:=fun _ _ h=>h
theorem aI.trans(a:aI H H1)(b:aI H1 H2):aI H H2:=fun c o h=>b c o (a c o h)
theorem aI.free{H H':Hp}(e:aI H H'){l:Addr}(h:H' l=Option.none):H l=Option.none:=by
 cases q:H l with
 | none=>rfl
 | some o=>
   rw[e l o q] at h;cases h
section
variable {κ:Type} [DecidableEq κ]
end
end L2
end
section
namespace L2
open PySem PySem.Spec PyProof.Rows
def lU(cells:List (Str × Addr)):List (Str × NameKind)->List (Str × Addr)->List (Str × Addr)
 | [],acc=>acc
 | (n,k) ::r,acc=>lU cells r (if k==NameKind.free then(n,(cells.lookup n).getD 0) ::acc else acc)
theorem j8{env:Env}:∀(names:List (Str × NameKind)) (acc:List (Str × Addr)),(∀y∈names,y.2= .free->∃c,env.cells.lookup y.1=some c)->
 (forIn names acc fun(x:Str × NameKind) (cs:List (Str × Addr))=>(match x with
   | (name,kind)=>if kind== .free then do let a <-cellOf env name;pure (ForInStep.yield ((name,a) ::cs)) else pure (ForInStep.yield cs):Sem (ForInStep (List (Str × Addr)))))=pure (lU env.cells names acc)
 | [],acc,_=>by simp [lU]
 | (n,k) ::r,acc,h=>by
   rw[List.forIn_cons];by_cases hk:k=NameKind.free
   .subst hk;obtain⟨c,hc⟩:=h (n, .free) List.mem_cons_self rfl;have e:cellOf env n=pure c:=by unfold cellOf;rw [hc]
    simp only[beq_self_eq_true,if_true,e,pure_bind,lU,hc,Option.getD_some];exact j8 r _ fun y hy=>h y (List.mem_cons_of_mem _ hy)
   .have hb:(k==NameKind.free)=false:=by simpa using hk
    simp only[hb,Bool.false_eq_true,if_false,pure_bind,lU];exact j8 r _ fun y hy=>h y (List.mem_cons_of_mem _ hy)
theorem ku{env:Env}{scope:Scope}(h:∀y∈scope.names,y.2= .free->∃c,env.cells.lookup y.1=some c):closureFor scope env=pure (lU env.cells scope.names []):=by
 unfold closureFor;have:=j8 (env:=env) scope.names [] h;simp only[bind_pure];exact this
theorem i8{cells:List (Str × Addr)}:∀(names:List (Str × NameKind)) (acc:List (Str × Addr)) {x:Str} {c:Addr},(lU cells names acc).lookup x=some c->
 acc.lookup x=some c\/((x,NameKind.free)∈names/\c=(cells.lookup x).getD 0)
 | [],acc,x,c,h=> .inl h
 | (n,k) ::r,acc,x,c,h=>by
   rcases i8 r _ h with q | ⟨q1,q2⟩
   .by_cases hk:k=NameKind.free
    .subst hk;simp only[beq_self_eq_true,if_true] at q;cases hx:x==n with
     | true=>
       have e:x=n:=by simpa using hx
       subst e;rw[List.lookup_cons,hx] at q;exact .inr ⟨List.mem_cons_self,(Option.some.inj q).symm⟩
     | false=>
       rw[List.lookup_cons,hx] at q;exact .inl q
    .have hb:(k==NameKind.free)=false:=by simpa using hk
     simp only[hb,Bool.false_eq_true,if_false] at q;exact .inl q
   .exact .inr ⟨List.mem_cons_of_mem _ q1,q2⟩
theorem w_{cells:List (Str × Addr)}:∀(names:List (Str × NameKind)) (acc:List (Str × Addr)) {x:Str},((x,NameKind.free)∈names\/∃c,acc.lookup x=some c)->∃c,(lU cells names acc).lookup x=some c
 | [],acc,x,h=>by
   rcases h with h | h
   .simp at h
   .exact h
 | (n,k) ::r,acc,x,h=>by
   refine w_ r _ ?_;rcases h with h | ⟨c,h⟩
   .rcases List.mem_cons.mp h with e | e
    .cases e;exact .inr ⟨(cells.lookup n).getD 0,by simp [List.lookup_cons]⟩
    .exact .inl e
   .by_cases hk:k=NameKind.free
    .subst hk;simp only[beq_self_eq_true,if_true];cases hx:x==n with
     | true=>exact .inr ⟨(cells.lookup n).getD 0,by rw[List.lookup_cons,hx]⟩
     | false=>exact .inr ⟨c,by rw[List.lookup_cons,hx];exact h⟩
    .have hb:(k==NameKind.free)=false:=by simpa using hk
     simp only[hb,Bool.false_eq_true,if_false];exact .inr ⟨c,h⟩
theorem uw:∀(names:List (Str × NameKind)) (n:Nat) (acc:List (Str × Addr)) {x:Str},(x,NameKind.cell) ∉ names->(cellsFrom n names acc).lookup x=acc.lookup x
 | [],_,_,_,_=>rfl
 | (y,k) ::r,n,acc,x,h=>by
   unfold cellsFrom;split
   .rename_i hk;have hk:k= .cell:=by simpa using hk
    subst hk;rw[uw r _ _ fun z=>h (List.mem_cons_of_mem _ z),List.lookup_cons]
    cases hx:x==y with
    | true=>
      have e:x=y:=by simpa using hx
      subst e;exact absurd List.mem_cons_self h
    | false=>rfl
   .exact uw r _ _ fun z=>h (List.mem_cons_of_mem _ z)
theorem mj:∀(names:List (Str × NameKind)) (n:Nat) (acc:List (Str × Addr)),cellsFrom n names acc=cellsFrom n names []++acc
 | [],_,_=>rfl
 | (y,k) ::r,n,acc=>by
   unfold cellsFrom;split
   .rw [mj r (n+1) ((y,n) ::acc),mj r (n+1) [(y,n)],List.append_assoc];rfl
   .exact mj r n acc
theorem xA{a b:List (Str × Addr)}{c:Addr}(h:(a++b).lookup x=some c):(x,c)∈a\/b.lookup x=some c:=by
 induction a with
 | nil=>exact .inr h
 | cons y r ih=>
   obtain⟨n,v⟩:=y;rw[List.cons_append,List.lookup_cons] at h;cases hx:x==n with
   | true=>
     rw[hx] at h;have e:x=n:=by simpa using hx
     subst e;cases h;exact .inl List.mem_cons_self
   | false=>
     rw[hx] at h;exact(ih h).imp (List.mem_cons_of_mem _) id
theorem ll{a b:List (Str × Addr)}(h:∃c,b.lookup x=some c):∃c,(a++b).lookup x=some c:=by
 induction a with
 | nil=>exact h
 | cons y r ih=>
   rw[List.cons_append,List.lookup_cons];cases x==y.1 with
   | true=>exact⟨_,rfl⟩
   | false=>exact ih
theorem uR{a b:List (Str × Addr)}{c:Addr}(h:a.lookup x=some c):∃c,(a++b).lookup x=some c:=by
 induction a with
 | nil=>cases h
 | cons y r ih=>
   rw[List.cons_append,List.lookup_cons];rw[List.lookup_cons] at h;cases hx:x==y.1 with
   | true=>exact⟨_,rfl⟩
   | false=>rw [hx] at h;exact ih h
theorem sY{M:Model}{A:Around}{E:Uo}{s:Shared}{scope:Scope}{cl:List (Str × Addr)}{qual:Str}{env:Env}{Q:Env->Shared->Prop}(hQ:∀h',h'.Ns s.heap.objs.size (fun _=>none)->(∀b o,s.heap.get? b=some o->h'.get? b=some o)->CellsOk h' (s.heap.objs.size+1) (cellsFrom (s.heap.objs.size+1) scope.names [])->
 Q (newEnv scope s.heap.objs.size env.globals (cellsFrom (s.heap.objs.size+1) scope.names cl) qual none .none (some env) builtinsNs) {s with heap:=h'}) :
 wpAny M A (newFunctionEnv scope env.globals cl [] qual none .none (some env)) Q E s:=by
 simp only[newFunctionEnv,Option.isSome_some,if_true];refine wpAny_bind (wpAny_alloc ?_);refine wpAny_bind (wpAny_layCells _ (fun name kind cells=>by cases hkc:kind==NameKind.cell <;> simp [hkc]) _ _ _ _ ?_)
 have ok:=cellsFrom_ok scope.names (s.heap.push {cls:= .type "dict",data:= .dict #[]}) (s.heap.objs.size+1) [] ⟨fun _ _ hm=>(nomatch hm),List.Pairwise.nil⟩ (by rw[Heap.size_push];exact Nat.le_refl _)
 rw[Heap.size_push] at ok;rw[show({s with heap:=s.heap.push {cls:= .type "dict",data:= .dict #[]}}:Shared).heap.objs.size=s.heap.objs.size+1 from Heap.size_push ..]
 rw[List.forIn_nil];refine wpAny_bind (wpAny_pure (wpAny_pure ?_));exact hQ _ ((Heap.Ns.new s.heap (.type "dict")).keeps (pushCells_keeps _ _)) (fun b o e=>pushCells_keeps _ _ b o (Heap.get?_push_of_some _ e)) ok
def bp(X:Cx)(scope:Scope)(N':List Str)(fp:List Addr)(s:Shared)(H:Hp):Cx where
 prog:=X.prog
 w:=X.w
 K:=X.K
 mg:=X.mg
 base:=X.base
 A:=X.A
 N:=N'
 s₀:=s
 H₀:=H
 env:=compEnvC scope (cellsFrom (s.heap.objs.size+1) scope.names (lU X.env.cells scope.names [])) s.heap.objs.size X.env
 outer:=X.stack
 stack:=X.stack
 ex:=fp
 fn:=fun x=>scope.names.lookup x==some .cell
 calm:=X.calm
 pn:=[]
 xe:=fun _ _=>False
structure bL (X:Cx) (scope:Scope) (own:List Str) (kp:List Nat) (kn:List Str):Prop where
 kind:scope.kind= .function
 cel:∀y∈scope.names,y.2= .cell->scope.names.lookup y.1=some .cell
 nd:∀y∈scope.names,y.2= .local->scope.names.lookup y.1=some .local
 free:∀y∈scope.names,y.2= .free->X.env.kindOf y.1=some .cell\/X.env.kindOf y.1=some .free
 frl:∀y∈scope.names,y.2= .free->scope.names.lookup y.1=some .free
 names:kn.length=kp.length
 at_:∀(j i:Nat) (x:Str),kp[j]? =some i->kn[j]? =some x->X.N[i]? =some x
 isfree:∀x∈kn,scope.names.lookup x=some .free
def cX(own:List Str)(kp:List Nat)(σ:St):St:=List.replicate own.length none++kp.map fun i=>(σ[i]?).getD none
section
variable {X:Cx} {scope:Scope} {own:List Str} {kp:List Nat} {kn:List Str}
theorem d5{env:Env}:∀{names:List (Str × NameKind)} {x:Str} {k:NameKind},
 (names.map fun(n,k)=>if(k==NameKind.free && env.scope.kind== .function && env.kindOf n==some .cell) then(n,NameKind.cell) else(n,k)).lookup x=some k->
 names.lookup x=some k\/(k= .cell/\names.lookup x=some .free)
 | [],_,_,h=>by simp at h
 | (n,k) ::r,x,k',h=>by
   have ih:=@d5 env r x k';have h:List.lookup x ((if(k==NameKind.free && env.scope.kind== .function && env.kindOf n==some .cell)=true then(n,NameKind.cell) else(n,k)) ::_)=some k':=h
   by_cases hc:(k==NameKind.free && env.scope.kind== .function && env.kindOf n==some .cell)=true
   .rw [if_pos hc] at h;have hkf:k= .free:=by
     simp only[Bool.and_eq_true,beq_iff_eq] at hc;exact hc.1.1
    cases hx:x==n with
    | true=>
      rw[List.lookup_cons,hx] at h;cases h;exact .inr ⟨rfl,by rw[List.lookup_cons,hx,hkf]⟩
    | false=>
      rw[List.lookup_cons,hx] at h;rw[List.lookup_cons,hx];exact ih h
   .rw [if_neg hc] at h;cases hx:x==n with
    | true=>
      rw[List.lookup_cons,hx] at h;rw[List.lookup_cons,hx];exact .inl h
    | false=>
      rw[List.lookup_cons,hx] at h;rw[List.lookup_cons,hx];exact ih h
theorem my{pins:Um}{s:Shared}(C:bL X scope own kp kn)(I:Inv X pins σ H s):∀y∈scope.names,y.2= .free->∃c,X.env.cells.lookup y.1=some c:=fun y hy hf=>
 I.ok.has y.1 (C.free y hy hf)
theorem B7{pins:Um}{σ:St}{H:Hp}{s:Shared}{fp:List Addr}{gS:Heap}{tk:Nat}(C:bL X scope own kp kn)(I:Inv X pins σ H s)(hf:∀b∈fp,pU X pins H b)(hb:∀b∈fp,b < s.heap.objs.size)
 (hn:gS.Ns s.heap.objs.size (fun _=>none)) (hk:∀b o,s.heap.get? b=some o->gS.get? b=some o) (hC:CellsOk gS (s.heap.objs.size+1) (cellsFrom (s.heap.objs.size+1) scope.names [])):Inv (bp X scope (own++kn) fp s H) [] (cX own kp σ) H {s with heap:=gS,toks:=tk}:=by
 have cl:∀x c,(lU X.env.cells scope.names []).lookup x=some c->X.env.cells.lookup x=some c:=fun x c e=>by
  rcases i8 scope.names [] e with q | ⟨q1,q2⟩
  .simp at q
  .obtain⟨c',Bj⟩:=my C I (x, .free) q1 rfl;have Bj:X.env.cells.lookup x=some c':=Bj;rw[Bj] at q2;rw[Bj,q2];rfl
 have clA:∀x c,(cellsFrom (s.heap.objs.size+1) scope.names (lU X.env.cells scope.names [])).lookup x=some c->(x,c)∈cellsFrom (s.heap.objs.size+1) scope.names []\/(lU X.env.cells scope.names []).lookup x=some c:=fun x c e=>by
  rw[mj] at e;exact xA e
 have old:∀x c,(lU X.env.cells scope.names []).lookup x=some c->c < s.heap.objs.size:=fun x c e=>by
  obtain⟨v,h⟩:=I.cell x c (cl x c e);exact h.lt
 have new:∀x c,(x,c)∈cellsFrom (s.heap.objs.size+1) scope.names []->s.heap.objs.size<=c:=fun x c e=>Nat.le_of_lt (hC.empty x c e).2
 have clh:∀x,scope.names.lookup x=some .free->∃c,(lU X.env.cells scope.names []).lookup x=some c:=fun x hx=>w_ scope.names [] (.inl (PySem.mem_of_lookup hx))
 refine⟨⟨I.ok.mod,C.kind,I.ok.glob,I.ok.blt,Nat.le_refl _,fun x y c h1 h2=>?inj,fun x hx=>?_,fun x c hn h=>?cab,I.ok.hd,I.ok.frames, .inl rfl,fun b vt=>⟨Nat.ne_of_lt (hb b vt),fun x c e z=>?exf⟩,
  fun b o e=>I.bs b o e,Nat.le_trans I.ok.bsz I.sz,fun b o e vt=>?_,fun b vt hs=>?_,I.stack,I.zC⟩,
  rfl,I.bare,Un.kept hk,⟨_,hn,fun i x v h1 h2 h3=>?_⟩,fun x c e=>?_,I.hok.fresh (Nat.le_refl _),fun x c e=>?frc,fun p hp=>(by cases hp),I.hok.kept hk,?_⟩
 case inj=>
  rcases clA x c h1 with a | a <;> rcases clA y c h2 with b | b
  .exact name_of_addr hC.apart a b
  .exact absurd (Nat.lt_of_lt_of_le (old y c b) (new x c a)) (Nat.lt_irrefl _)
  .exact absurd (Nat.lt_of_lt_of_le (old x c a) (new y c b)) (Nat.lt_irrefl _)
  .exact I.ok.inj x y c (cl x c a) (cl y c b)
 case cab=>
  have hn:(scope.names.lookup x==some .cell)=true:=hn;rcases clA x c h with a | a
  .exact new x c a
  .rcases i8 scope.names [] a with q | ⟨q1,q2⟩
   .simp at q
   .have hx:scope.names.lookup x=some .cell:=by simpa using hn
    have h7:scope.names.lookup x=some .free:=C.frl _ q1 rfl;rw[hx] at h7;cases h7
 case exf=>
  rcases clA x c e with a | a
  .subst z;exact absurd (Nat.lt_of_lt_of_le (hb _ vt) (new x _ a)) (Nat.lt_irrefl _)
  .exact(hf b vt).2.2.2.2.1 x c (cl x c a) z
 case frc=>
  rcases clA x c e with a | a
  .exact I.hok.fresh (new x c a)
  .exact I.freeC x c (cl x c a)
 .have hx:(relabel scope X.env).names.lookup x=some .cell\/(relabel scope X.env).names.lookup x=some .free:=hx;show ∃c,(cellsFrom (s.heap.objs.size+1) scope.names (lU X.env.cells scope.names [])).lookup x=some c;rcases hx with hx | hx
  .rcases d5 hx with q | ⟨_,q⟩
   .rw [mj];obtain⟨c,hc⟩:=qA (n:=s.heap.objs.size+1) q;exact uR hc
   .rw [mj];exact ll (clh x q)
  .rcases d5 hx with q | ⟨q,_⟩
   .rw [mj];exact ll (clh x q)
   .cases q
 .rcases(hf b vt).2.2.2.1 with z | z
  .exact I.ok.noex b o e z
  .exact absurd (Nat.lt_of_lt_of_le (Heap.lt_size (I.ok.bs b o e).1) z) (Nat.lt_irrefl _)
 .rcases List.mem_cons.mp (I.xx b hs) with z | z
  .exact(hf b vt).2.1 z
  .exact(hf b vt).2.2.1 z
 .-- a kept name
  have h1:(own++kn)[i]? =some x:=h1;have h2:(cX own kp σ)[i]? =some (some v):=h2;unfold cX at h2;by_cases hi:i < own.length
  .rw [List.getElem?_append_left (by simpa using hi),List.getElem?_replicate] at h2
   split at h2 <;> cases h2
  .rw [List.getElem?_append_right (by simpa using hi),List.length_replicate,List.getElem?_map] at h2
   rw[List.getElem?_append_right (by simpa using hi)] at h1
   cases e:kp[i - own.length]? with
   | none=>rw [e] at h2;cases h2
   | some j=>
     rw[e] at h2;have h2:(σ[j]?).getD none=some v:=Option.some.inj h2;have hj:X.N[j]? =some x:=C.at_ _ j x e h1;have GH:σ[j]? =some (some v):=by
      cases q:σ[j]? with
      | none=>rw [q] at h2;cases h2
      | some y=>rw [q] at h2;exact congrArg some h2
     have hfree:scope.names.lookup x=some .free:=C.isfree x (List.mem_of_getElem? h1);have hkind:=C.free (x, .free) (PySem.mem_of_lookup hfree) rfl;obtain⟨m,hm,hl⟩:=I.loc;obtain⟨u,r,l⟩:=hl j x v hj GH (hkind.elim (fun q=>Or.inr (Or.inl q)) fun q=>Or.inr (Or.inr q))
     refine⟨u,r, .inr ⟨?_,?_⟩⟩
     .have h3:(relabel scope X.env).names.lookup x=some .local\/(relabel scope X.env).names.lookup x=some .cell\/(relabel scope X.env).names.lookup x=some .free:=h3;rcases h3 with q | q | q
      .rcases d5 q with z | ⟨z,_⟩
       .rw [hfree] at z;cases z
       .cases z
      .exact .inl q
      .exact .inr q
     .rcases l with⟨k,_⟩ | ⟨_,c,hc,hcell⟩
      .rcases hkind with q | q
       .rw [show X.env.kindOf x=some .cell from q] at k;cases k
       .rw [show X.env.kindOf x=some .free from q] at k;cases k
      .obtain⟨c',Bj⟩:=clh x hfree;have:=cl x c' Bj;rw[hc] at this;cases this;obtain⟨o,ho,hd⟩:=hcell;exact⟨c,(uw _ _ _ fun z=>by have:=C.cel _ z rfl;rw [hfree] at this;cases this).trans Bj,o,hk c o ho,hd⟩
 .rcases clA x c e with a | a
  .exact⟨_,(hC.empty x c a).1⟩
  obtain⟨v,o,ho,hd⟩:=I.cell x c (cl x c a);exact⟨v,o,hk c o ho,hd⟩
 .show(cX own kp σ).length=(own++kn).length;unfold cX;rw[List.length_append,List.length_replicate,List.length_map,List.length_append,C.names]
theorem q8{pins:Um}{s s':Shared}{fp:List Addr}{N':List Str}(I:Inv X pins σ H s)(hf:∀b∈fp,pU X pins H b)(J:Inv (bp X scope N' fp s H) [] cj H' s'):Inv X pins σ H' s':=
 I.Lj (ch:=fp) J.os J.base J.hok J.bare fun b hb=>⟨(hf b hb).2.2.2.1,(hf b hb).2.1,(hf b hb).2.2.2.2.1,(hf b hb).2.2.2.2.2⟩
end
def oy(X:Cx)(ifs:List Expr)(t:TT):Prop:=
 ∀(pins:Um) (s:Shared) (σ:St) (H:Hp) (Q:Bool->Hp->Prop),Inv X pins σ H s->t σ H Q->
  wpAny (model X.prog X.w) X.A (forIn ifs true fun c r=>if r=true then do let ok <-isTrue c X.env (eval c X.env);pure (ForInStep.yield ok) else pure (ForInStep.yield r)) (TP X pins σ Q) X.xe s
def Ny:TT:=fun _ H Q=>Q true H
theorem wm{X:Cx}:oy X [] Ny:=fun _ _ _ H _ I h=>wpAny_tests_nil ⟨H,I,h⟩
theorem v8{X:Cx}{t:TT}(h:PT X c t):oy X [c] t:=fun pins s σ H Q I hq=>wpAny_tests_one (h pins s σ H Q I hq)
def y9(wi:TI)(g:TG)(tc:TT)(te:TE)(own:List Str)(kp:List Nat):TE:=fun σ H Q=>wi σ H fun J H1=>∀D,H1 D=none->
 ∃W:Nat->Nat->List V->Hp->Prop,(∃m,W 0 m [] (upd H1 D (.lst [])))/\∀i m ys H,W i m ys H->
  (J.stop i H/\Q (.ref D) H)\/(J.go i H/\∀x H',J.yld i H x H'->g x (cX own kp σ) H' fun rS H2=>tc rS H2 fun c H3=>
    if c=true then te rS H3 fun y H4=>H4 D=some (.lst ys)/\ys.length < sizeLine/\∃m',m' < m/\W (i+1) m' (ys++[y]) (upd H4 D (.lst (ys++[y])))
    else ∃m',m' < m/\W (i+1) m' ys H3)
section
variable {X:Cx} {scope:Scope} {own:List Str} {kp:List Nat} {kn:List Str} {tg iter elt:Expr} {ifs:List Expr} {wi:TI} {g:TG} {tc:TT} {te:TE} {pos:Pos}
theorem wd{pins:Um}{σ:St}{H:Hp}{s:Shared}{fp:List Addr}{it D:Addr}{tn:Nat->Heap->Prop}{J:It}{Q:VK}{gS:Heap}{tk:Nat}{R:Result->Shared->Prop}
 (hc:X.calm=true) (C:bL X scope own kp kn) (I:Inv X pins σ H s) (hf:∀b∈fp,pU X pins H b) (hb:∀b∈fp,b < s.heap.objs.size) (T:Turn X.prog X.w X.K tg J fp it tn)
 (hg:PG (bp X scope (own++kn) fp s H) tg g) (hi:oy (bp X scope (own++kn) fp s H) ifs tc) (he:PE (bp X scope (own++kn) fp s H) elt te)
 (hn:gS.Ns s.heap.objs.size (fun _=>none)) (hk:∀b o,s.heap.get? b=some o->gS.get? b=some o) (hC:CellsOk gS (s.heap.objs.size+1) (cellsFrom (s.heap.objs.size+1) scope.names [])) (st:tn 0 s.heap)
 (W:Nat->Nat->List V->Hp->Prop) (w0:∃m,W 0 m [] H)
 (turn:∀i m ys H,W i m ys H->
   (J.stop i H/\Q (.ref D) H)\/(J.go i H/\∀x H',J.yld i H x H'->g x (cX own kp σ) H' fun rS H2=>tc rS H2 fun c H3=>
     if c=true then te rS H3 fun y H4=>H4 D=some (.lst ys)/\ys.length < sizeLine/\∃m',m' < m/\W (i+1) m' (ys++[y]) (upd H4 D (.lst (ys++[y])))
     else ∃m',m' < m/\W (i+1) m' ys H3))
 (hR:∀H' s' cj,Inv (bp X scope (own++kn) fp s H) [] cj H' s'->Q (.ref D) H'->R (.ok .next) s') :
 codeAny (model X.prog X.w) X.A (.compStart (.ListComp elt [⟨tg,iter,ifs,0⟩] scope pos) 0 (.ref it) (.ref D) (bp X scope (own++kn) fp s H).env) R {s with heap:=gS,toks:=tk}:=by
 have I1:Inv (bp X scope (own++kn) fp s H) [] (cX own kp σ) H {s with heap:=gS,toks:=tk}:=B7 C I hf hb hn hk hC
 have PU:tn 0 gS:=T.keep _ _ _ st fun b _ o e=>hk b o e
 have fp1:∀{H':Hp} {p:Um},(∀b∈fp,H' b=none)->(∀b∈fp,∀q∈p,q.1≠b)->∀b∈fp,pU (bp X scope (own++kn) fp s H) p H' b:=fun {H' p} hn hp b vt=>
  ⟨hn b vt,(I1.ok.exf b vt).1,I1.ok.exfs b vt, .inl vt,fun x c e=>(I1.ok.exf b vt).2 x c e,fun q hq=>hp b vt q hq⟩
 obtain⟨m0,w0⟩:=w0;have loop:codeAny (model X.prog X.w) X.A (.compLoop (.ListComp elt [⟨tg,iter,ifs,0⟩] scope pos) 0 (.ref it) (.ref D) (bp X scope (own++kn) fp s H).env) R {s with heap:=gS,toks:=tk}:=by
  refine codeAny_loop rfl (fun n s'=>∃i ys H',Inv (bp X scope (own++kn) fp s H) [] (cX own kp σ) H' s'/\tn i s'.heap/\(∀b∈fp,H' b=none)/\W i n ys H') (fun n s' hI=>?_) m0 ⟨0,[],H,I1,PU,fun b vt=>(hf b vt).1,w0⟩
  obtain⟨i,ys,H3,I3,Gy,LO,w3⟩:=hI;show wpAny _ _ ((compTurn (.ListComp elt [⟨tg,iter,ifs,0⟩] scope pos) 0 (.ref it) (.ref D) (bp X scope (own++kn) fp s H).env).onRaise (fun x=>do noteFrame x (bp X scope (own++kn) fp s H).env;theTreesLotGoes x)) _ _ s'
  refine wpAny_noted (wpAny_noRaise ?_);rw[compTurn_list];refine wpAny_bind (wpAny_standAt (wpAny_bind ?_));rcases turn i n ys H3 w3 with⟨stop,q⟩ | ⟨go,step⟩
  .refine du (T.done (bp X scope (own++kn) fp s H) rfl rfl rfl hc i [] s' _ H3 _ I3 (fp1 LO (fun _ _ q hq=>by cases hq)) Gy stop) fun r s4 ⟨hr,I4⟩=>?_
   subst hr;exact wpAny_pure (hR H3 s4 _ I4 q)
  .refine du (T.item (bp X scope (own++kn) fp s H) rfl rfl rfl hc i [] s' _ H3 _ I3 (fp1 LO (fun _ _ q hq=>by cases hq)) Gy go) fun r s4 ⟨u,hr,h4⟩=>?_
   subst hr;refine wpAny_bind (du h4 fun _ s5 ⟨x,H5,I5,r5,y5,JK,Ox⟩=>?_)
   have I5':=I5.pinned (fp1 Ox (fun _ _ q hq=>by cases hq)) (T.obj _ _ JK)
   have keepIt:∀{xo:St} {H7:Hp} {s7:Shared},Inv (bp X scope (own++kn) fp s H) ([]++me fp s5.heap) xo H7 s7->tn (i+1) s7.heap/\∀b∈fp,H7 b=none:=fun {xo H7 s7} I7=>by
    refine⟨T.keep _ _ _ JK fun b hb o e=>(I7.pin (b,o) (List.mem_append_right _ (List.mem_append_right _ (ke hb e)))).1,fun b hb=>?_⟩
    obtain⟨o,e,d⟩:=T.obj _ _ JK b hb;exact(I7.pin (b,o) (List.mem_append_right _ (List.mem_append_right _ (ke hb e)))).2.1
   have reset:∀{xo:St} {H7:Hp} {s7:Shared},Inv (bp X scope (own++kn) fp s H) ([]++me fp s5.heap) xo H7 s7->Inv (bp X scope (own++kn) fp s H) [] (cX own kp σ) H7 s7:=fun {xo H7 s7} I7=>by
    have I8:=I7.ng;have hun:Un (Bg X.stack) fp H H7 s.heap s7.heap:=I8.base;have I9:Inv X pins σ H7 s7:=q8 I hf I8;refine⟨I8.ok,I8.os,I8.bare,I8.base,?_,I8.cell,I8.free,I8.freeC,I8.pin,I8.hok,I1.len⟩;obtain⟨m,hm,_⟩:=I8.loc;refine⟨m,hm,fun i x v h1 h2 h3=>?_⟩
    obtain⟨m1,J8,Bc⟩:=I1.loc;obtain⟨u1,r1,l1⟩:=Bc i x v h1 h2 h3;have h1:(own++kn)[i]? =some x:=h1;have h2:(cX own kp σ)[i]? =some (some v):=h2;unfold cX at h2;by_cases hi:i < own.length
    .rw [List.getElem?_append_left (by simpa using hi),List.getElem?_replicate] at h2
     split at h2 <;> cases h2
    .rw [List.getElem?_append_right (by simpa using hi),List.length_replicate,List.getElem?_map] at h2
     rw[List.getElem?_append_right (by simpa using hi)] at h1
     cases e:kp[i - own.length]? with
     | none=>rw [e] at h2;cases h2
     | some j=>
       rw[e] at h2;have h2:(σ[j]?).getD none=some v:=Option.some.inj h2;have hj:X.N[j]? =some x:=C.at_ _ j x e h1;have GH:σ[j]? =some (some v):=by
        cases q:σ[j]? with
        | none=>rw [q] at h2;cases h2
        | some y=>rw [q] at h2;exact congrArg some h2
       have hfree:scope.names.lookup x=some .free:=C.isfree x (List.mem_of_getElem? h1);have hkind:=C.free (x, .free) (PySem.mem_of_lookup hfree) rfl;obtain⟨m9,Ue,SM⟩:=I9.loc;obtain⟨u,r,l⟩:=SM j x v hj GH (hkind.elim (fun q=>Or.inr (Or.inl q)) fun q=>Or.inr (Or.inr q))
       refine⟨u,r, .inr ?_⟩;rcases l1 with⟨k,k2⟩ | ⟨k,c,hc,hcell⟩
       .have k:(relabel scope X.env).names.lookup x=some .local:=k;rcases d5 k with z | ⟨z,_⟩
        .rw [hfree] at z;cases z
        .cases z
       .refine⟨k,c,hc,?_⟩;rcases l with⟨k',_⟩ | ⟨_,c',Bj,JI⟩
        .rcases hkind with q | q
         .rw [show X.env.kindOf x=some .cell from q] at k';cases k'
         .rw [show X.env.kindOf x=some .free from q] at k';cases k'
        .have hcl:(lU X.env.cells scope.names []).lookup x=some c:=(uw _ _ _ fun z=>by have:=C.cel _ z rfl;rw [hfree] at this;cases this).symm.trans hc
         rcases i8 scope.names [] hcl with q | ⟨q1,q2⟩
         .simp at q
         .rw [Bj] at q2;have q2:c=c':=q2;rw[q2];exact JI
   have hmm:=hg ([]++me fp s5.heap) s5 (cX own kp σ) H5 x u _ I5' r5 (step x H5 y5);refine wpAny_bind (du hmm fun _ s6 ⟨L8,H6,I6,q6⟩=>?_)
   refine wpAny_bind (du (hi _ s6 L8 H6 _ I6 q6) fun ok s7 ⟨H7,I7,q7⟩=>?_)
   cases ok with
   | false=>
     simp only[Bool.false_eq_true,if_false] at q7 ⊢;obtain⟨m',JP,w7⟩:=q7;obtain⟨a1,a2⟩:=keepIt I7;exact wpAny_pure ⟨rfl,m',JP,i+1,ys,H7,reset I7,a1,a2,w7⟩
   | true=>
     simp only[if_true] at q7 ⊢;refine wpAny_bind (wpAny_bind (du (he _ s7 L8 H7 _ I7 q7) fun yv s8 ⟨y,H8,I8,r8,hD,hlt,m',JP,w8⟩=>wpAny_bind ?_))
     obtain⟨a1,a2⟩:=keepIt I8;refine du (oC _ s8 L8 H8 (.ref D) [y] (.ref D) [yv] (fun v H9=>v= .bQ/\H9=upd H8 D (.lst (ys++[y]))) I8 rfl (.cons r8 .nil) ⟨D,ys,y,rfl,rfl,hD,hlt,rfl,rfl⟩) fun _ s9 ⟨v9,H9,I9,_,_,e9⟩=>?_
     subst e9;obtain⟨b1,b2⟩:=keepIt I9;exact wpAny_pure (wpAny_pure ⟨rfl,m',JP,i+1,ys++[y],_,reset I9,b1,b2,w8⟩)
 exact codeAny_compStart_list loop (T.self _ _ _ _ _ PU loop)
theorem zK(hc:X.calm=true)(C:bL X scope own kp kn)(hi:PI X tg iter wi)(hg:∀fp s H,PG (bp X scope (own++kn) fp s H) tg g)(DX:∀fp s H,oy (bp X scope (own++kn) fp s H) ifs tc)
 (he:∀fp s H,PE (bp X scope (own++kn) fp s H) elt te) (hs:∀x,foldedSetIterable iter X.env x=pure x:=by intro _;rfl):PE X (.ListComp elt [⟨tg,iter,ifs,0⟩] scope pos) (y9 wi g tc te own kp):=by
 intro pins s σ H Q I h;rw[eval_ListComp];refine wpAny_comprehension_free (use:=none) rfl hs (ku (my C I)) C.kind C.nd (du (hi pins s σ H _ I h) fun v s1 h1=>du h1 fun Mw s2 h2=>?_)
 obtain⟨it,fp,tn,J,H2,e,I2,T,Eo,f2,q⟩:=h2;subst e;refine wpAny_newObj_type ?_;have I3:Inv X pins σ (upd H2 s2.heap.objs.size (.lst [])) {s2 with heap:=s2.heap.push {cls:= .type "list",dict:=none,data:= .seq ([]:List Value).toArray}}:=I2.EY (its:=[]) (t':=s2.toks) .nil (Nat.zero_le _)
 obtain⟨W,w0,turn⟩:=q s2.heap.objs.size I2.fresh;have fne:∀b∈fp,b < s2.heap.objs.size:=fun b hb=>let⟨o,e,_⟩:=T.obj _ _ Eo b hb;Heap.lt_size e
 have f3:∀b∈fp,pU X pins (upd H2 s2.heap.objs.size (.lst [])) b:=fun b hb=>⟨by rw[aQ (Nat.ne_of_lt (fne b hb))];exact(f2 b hb).1,(f2 b hb).2⟩
 generalize Hj:({s2 with heap:=s2.heap.push {cls:= .type "list",dict:=none,data:= .seq ([]:List Value).toArray}}:Shared)=s3 at I3 ⊢
 have Gy:tn 0 s3.heap:=by rw[<-Hj];exact T.keep _ _ _ Eo fun b _ o e=>Heap.get?_push_of_some _ e
 have fne3:∀b∈fp,b < s3.heap.objs.size:=fun b hb=>by rw[<-Hj];exact Nat.lt_of_lt_of_le (fne b hb) (by rw[Heap.size_push];exact Nat.le_succ _)
 refine sY fun gS yP hk hC=>?_
 refine wd (D:=s2.heap.objs.size) hc C I3 f3 fne3 T (hg fp s3 _) (DX fp s3 _) (he fp s3 _) yP hk hC Gy W w0 turn fun H' s' cj J' hq=>?_
 have B:=q8 I3 f3 J';obtain⟨m',JP,_⟩:=J'.loc;refine⟨m',JP,fun h' sb=>⟨.ref s2.heap.objs.size,H',?_,rfl,hq⟩⟩
 have fC:=I3.pT (H':=H') (b:=s3.heap.objs.size) (Nat.le_refl _) J'.free;exact B.turned (it:=s3.heap.objs.size) (t':=s'.toks) (fun b o hb e=>(sb.2 b hb).trans e) fC.1 fC.2.1 fC.2.2.2.1 fC.2.2.2.2.1 fC.2.2.2.2.2
theorem xu{i:Nat}{x:Str}{pos' pW:Pos}(hc:X.calm=true)(hN:X.N.Nodup)(hx:X.N[i]? =some x)(Kc:X.env.scope.names.lookup x=some .local)(C:bL X scope own kp kn)(hi:PI X tg iter wi)
 (hg:∀fp s H,PG (bp X scope (own++kn) fp s H) tg g) (DX:∀fp s H,oy (bp X scope (own++kn) fp s H) ifs tc)
 (he:∀fp s H,PE (bp X scope (own++kn) fp s H) elt te)
 (GC:swapsWith (.ListComp elt [⟨tg,iter,ifs,0⟩] scope pos) (some (.Name x pos')) pW.line X.env=pure true:=by rfl)
 (hs:∀x,foldedSetIterable iter X.env x=pure x:=by intro _;rfl) :
 PS X (.Assign [.Name x pos'] (.ListComp elt [⟨tg,iter,ifs,0⟩] scope pos) pW) (Ar (y9 wi g tc te own kp) (qB i)):=by
 intro pins s σ H D I h;rw[exec_Assign_Name_used _ _ _ _ GC];refine wpAny_bind (wpAny_standAt (wpAny_bind ?_));show wpAny _ X.A (do let _ <-comprehension (.ListComp elt [⟨tg,iter,ifs,0⟩] scope pos) scope X.env _ (newList []) false (eval iter X.env) (some (assign (.Name x pos') X.env))) _ _ s
 refine wpAny_bind (wpAny_mono (wpAny_comprehension_free (use:=some (assign (.Name x pos') X.env)) (Q:=fun _ s'=>SP X pins D .next s') rfl hs (ku (my C I)) C.kind C.nd
  (du (hi pins s σ H _ I h) fun v s1 h1=>du h1 fun Mw s2 h2=>?_)) (fun _ s' hq=>wpAny_pure (wpAny_pure hq)) fun _ _ e=>e)
 obtain⟨it,fp,tn,J,H2,e,I2,T,Eo,f2,q⟩:=h2;subst e;refine wpAny_newObj_type ?_;have I3:Inv X pins σ (upd H2 s2.heap.objs.size (.lst [])) {s2 with heap:=s2.heap.push {cls:= .type "list",dict:=none,data:= .seq ([]:List Value).toArray}}:=I2.EY (its:=[]) (t':=s2.toks) .nil (Nat.zero_le _)
 obtain⟨W,w0,turn⟩:=q s2.heap.objs.size I2.fresh;have fne:∀b∈fp,b < s2.heap.objs.size:=fun b hb=>let⟨o,e,_⟩:=T.obj _ _ Eo b hb;Heap.lt_size e
 have f3:∀b∈fp,pU X pins (upd H2 s2.heap.objs.size (.lst [])) b:=fun b hb=>⟨by rw[aQ (Nat.ne_of_lt (fne b hb))];exact(f2 b hb).1,(f2 b hb).2⟩
 generalize Hj:({s2 with heap:=s2.heap.push {cls:= .type "list",dict:=none,data:= .seq ([]:List Value).toArray}}:Shared)=s3 at I3 ⊢
 have Gy:tn 0 s3.heap:=by rw[<-Hj];exact T.keep _ _ _ Eo fun b _ o e=>Heap.get?_push_of_some _ e
 have fne3:∀b∈fp,b < s3.heap.objs.size:=fun b hb=>by rw[<-Hj];exact Nat.lt_of_lt_of_le (fne b hb) (by rw[Heap.size_push];exact Nat.le_succ _)
 refine sY fun gS yP hk hC=>?_
 refine wd (Q:=fun x H1=>qB i x σ H1 D.nx) (D:=s2.heap.objs.size) hc C I3 f3 fne3 T (hg fp s3 _) (DX fp s3 _) (he fp s3 _) yP hk hC Gy W w0 turn fun H' s' cj J' hq=>?_
 have B:=q8 I3 f3 J';obtain⟨m',JP,_⟩:=J'.loc;have fC:=I3.pT (H':=H') (b:=s3.heap.objs.size) (Nat.le_refl _) J'.free;show wpAny _ X.A (assign (.Name x pos') X.env (.ref s2.heap.objs.size)) _ _ s';refine wpAny_assign_Name (sO B hN hx (.inl Kc) (v:= .ref s2.heap.objs.size) rfl (fun s4 I4 ⟨a,sb,ha⟩=>?_) (.inr Kc))
 have ha':s3.heap.objs.size≠a:=by
  rcases ha with rfl | z
  .exact fC.2.1
  .exact fun e=>fC.2.2.2.2.1 x a z e.symm
 refine⟨m',JP.sameBut sb ha',fun h' Sa=>⟨_,H',?_,hq⟩⟩
 exact I4.turned (it:=s3.heap.objs.size) (t':=s4.toks) (fun b o hb e=>(Sa.2 b hb).trans e) fC.1 fC.2.1 fC.2.2.2.1 fC.2.2.2.2.1 fC.2.2.2.2.2
end
end L2
end
section
namespace L2
open PySem PySem.Spec PyProof.Rows
inductive D where
 | bQ | bl (b:Bool) | int (i:Int) | str (x:Str) | lst (ds:List D) | tup (ds:List D) | dct (ks:List Key) (ds:List D)
inductive R (α:Type) where
 | ok (a:α) | ex (c:Nat) | no
def R.bind{α β:Type}:R α->(α->R β)->R β
 | .ok a,f=>f a
 | .ex c,_=> .ex c
 | .no,_=> .no
theorem R.ab{α β:Type}{r:R α}{f:α->R β}{b:β}(h:r.bind f= .ok b):∃a,r= .ok a/\f a= .ok b:=by
 cases r with
 | ok a=>exact⟨a,rfl,h⟩
 | ex c=>cases h
 | no=>cases h
@[simp] theorem R.aN{α β:Type}(a:α)(f:α->R β):(R.ok a).bind f=f a:=rfl
def R.bg{α:Type}(c:Bool)(r:R α):R α:=if c then r else .no
theorem R.aP{α:Type}{c:Bool}{r:R α}{a:α}(h:R.bg c r= .ok a):c=true/\r= .ok a:=by
 cases c with
 | true=>exact⟨rfl,h⟩
 | false=>cases h
@[simp] theorem R.JX{α:Type}(r:R α):R.bg true r=r:=rfl
def rY(K:W.Frag)(B:List Addr)(H:Hp)(a:Addr)(xs:List V):Prop:=
 (a ∉ B/\Rd H a (.lst xs))\/∃(its:List Value) (n:Nat),K.lookup a=some {cls:= .type "list",data:= .seq its.toArray n}/\xs.length<=sizeLine/\Vals xs its
def tR(K:W.Frag)(B:List Addr)(H:Hp)(a:Addr)(xs:List V):Prop:=
 (a ∉ B/\Rd H a (.tup xs))\/∃(o:Obj) (its:Array Value) (n:Nat),K.lookup a=some o/\o.cls= .type "tuple"/\o.data= .seq its n/\its.size<=sizeLine/\Vals xs its.toList
theorem rY.sq{K:W.Frag}{B:List Addr}{a:Addr}{xs:List V}(h:rY K B H a xs):mZ K H a xs:=by
 rcases h with z | ⟨its,n,hk,hz,r⟩
 .exact .inl z.2
 .exact .inr ⟨_,its.toArray,n,hk,rfl,rfl,rfl,by rw[List.size_toArray,<-r.length];exact hz,by simpa using r⟩
theorem tR.sq{K:W.Frag}{B:List Addr}{a:Addr}{xs:List V}(h:tR K B H a xs):pB K H a xs:=h.elim (fun z=> .inl z.2) .inr
mutual
def Rep(K:W.Frag)(B:List Addr)(H:Hp):D->V->Prop
 | .bQ,v=>v= .bQ
 | .bl b,v=>v= .bl b
 | .int i,v=>v= .int i
 | .str x,v=>v= .str x
 | .lst ds,v=>∃a xs,v= .ref a/\rY K B H a xs/\av K B H ds xs
 | .tup ds,v=>∃a xs,v= .ref a/\tR K B H a xs/\av K B H ds xs
 | .dct ks ds,v=>∃(a:Addr) (kvs:List (Key × V)),v= .ref a/\(a ∉ B/\H a=some (.dK kvs))/\kvs.map (·.1)=ks/\av K B H ds (kvs.map (·.2))
def av(K:W.Frag)(B:List Addr)(H:Hp):List D->List V->Prop
 | [],xs=>xs=[]
 | d ::ds,xs=>∃x r,xs=x ::r/\Rep K B H d x/\av K B H ds r
end
def cZ(B:List Addr)(H:Hp)(B':List Addr)(H':Hp):Prop:=∀b o,H b=some o->b ∉ B->H' b=some o/\b ∉ B'
theorem cZ.rd{B B':List Addr}(p:cZ B H B' H'){a:Addr}{u:HO}(h:Rd H a u)(n:a ∉ B):Rd H' a u/\a ∉ B':=by
 rcases h with e | ⟨o,e⟩
 .exact⟨.inl (p a _ e n).1,(p a _ e n).2⟩
 .exact⟨.inr ⟨o,(p a _ e n).1⟩,(p a _ e n).2⟩
theorem cZ.trans{B B' LZ:List Addr}(p:cZ B H B' H')(q:cZ B' H' LZ kK):cZ B H LZ kK:=fun b o e n=>
 let⟨e1,n1⟩:=p b o e n;q b o e1 n1
theorem cZ.same{B:List Addr}(s:aI H H'):cZ B H B H':=fun b o e n=>⟨s b o e,n⟩
theorem cZ.refl(B:List Addr)(H:Hp):cZ B H B H:=cZ.same (aI.refl H)
theorem rY.aU{K:W.Frag}{B B':List Addr}(p:cZ B H B' H'){a:Addr}{xs:List V}(l:rY K B H a xs):rY K B' H' a xs:=
 l.elim (fun z=> .inl ⟨(p.rd z.2 z.1).2,(p.rd z.2 z.1).1⟩) .inr
mutual
theorem Rep.aU{K:W.Frag}{B B':List Addr}(p:cZ B H B' H'):∀{d:D} {v:V},Rep K B H d v->Rep K B' H' d v
 | .bQ,_,h=>h
 | .bl _,_,h=>h
 | .int _,_,h=>h
 | .str _,_,h=>h
 | .lst ds,v,h=>by
   unfold Rep at h ⊢;obtain⟨a,xs,e,l,r⟩:=h;exact⟨a,xs,e,l.aU p,av.aU p r⟩
 | .tup ds,v,h=>by
   unfold Rep at h ⊢;obtain⟨a,xs,e,l,r⟩:=h;exact⟨a,xs,e,l.elim (fun z=> .inl ⟨(p.rd z.2 z.1).2,(p.rd z.2 z.1).1⟩) .inr,av.aU p r⟩
 | .dct ks ds,v,h=>by
   unfold Rep at h ⊢;obtain⟨a,kvs,e,⟨n,l⟩,k,r⟩:=h;exact⟨a,kvs,e,⟨(p a _ l n).2,(p a _ l n).1⟩,k,av.aU p r⟩
theorem av.aU{K:W.Frag}{B B':List Addr}(p:cZ B H B' H'):∀{ds:List D} {xs:List V},av K B H ds xs->av K B' H' ds xs
 | [],_,h=>h
 | d ::ds,xs,h=>by
   unfold av at h ⊢;obtain⟨x,r,e,h1,h2⟩:=h;exact⟨x,r,e,Rep.aU p h1,av.aU p h2⟩
end
theorem Rep.same{K:W.Frag}{B:List Addr}{d:D}{v:V}(h:Rep K B H d v)(s:aI H H'):Rep K B H' d v:=h.aU (cZ.same s)
theorem av.same{K:W.Frag}{B:List Addr}{d:List D}{v:List V}(h:av K B H d v)(s:aI H H'):av K B H' d v:=h.aU (cZ.same s)
theorem av.nil{K:W.Frag}{B:List Addr}:av K B H [] []:=by unfold av;rfl
theorem av.cons{K:W.Frag}{B:List Addr}{d:D}{ds:List D}{x:V}{xs:List V}(h:Rep K B H d x)(t:av K B H ds xs):av K B H (d ::ds) (x ::xs):=by
 unfold av;exact⟨x,xs,rfl,h,t⟩
theorem av.bu{K:W.Frag}{B:List Addr}{d:D}{ds:List D}{xs:List V}(h:av K B H (d ::ds) xs):∃x r,xs=x ::r/\Rep K B H d x/\av K B H ds r:=by
 unfold av at h;exact h
theorem av.length{K:W.Frag}{B:List Addr}:∀{ds:List D} {xs:List V},av K B H ds xs->ds.length=xs.length
 | [],_,h=>by unfold av at h;rw [h];rfl
 | d ::ds,xs,h=>by
   obtain⟨x,r,rfl,_,h2⟩:=h.bu;simp [h2.length]
theorem av.get{K:W.Frag}{B:List Addr}:∀{ds:List D} {xs:List V} {i:Nat} {d:D},av K B H ds xs->ds[i]? =some d->∃x,xs[i]? =some x/\Rep K B H d x
 | [],_,_,_,_,e=>by simp at e
 | d ::ds,xs,0,d',h,e=>by
   obtain⟨x,r,rfl,h1,h2⟩:=h.bu;simp at e;subst e;exact⟨x,rfl,h1⟩
 | d ::ds,xs,i+1,d',h,e=>by
   obtain⟨x,r,rfl,h1,h2⟩:=h.bu;obtain⟨y,e1,e2⟩:=av.get (i:=i) h2 (by simpa using e)
   exact⟨y,by simpa using e1,e2⟩
theorem av.append{K:W.Frag}{B:List Addr}:∀{ds es:List D} {xs ys:List V},av K B H ds xs->av K B H es ys->av K B H (ds++es) (xs++ys)
 | [],_,_,_,h,t=>by unfold av at h;subst h;exact t
 | d ::ds,es,xs,ys,h,t=>by
   obtain⟨x,r,rfl,h1,h2⟩:=h.bu;exact av.cons h1 (av.append h2 t)
theorem av.drop{K:W.Frag}{B:List Addr}:∀{ds:List D} {xs:List V} (n:Nat),av K B H ds xs->av K B H (ds.drop n) (xs.drop n)
 | _,_,0,h=>h
 | [],_,n+1,h=>by unfold av at h;subst h;exact av.nil
 | d ::ds,xs,n+1,h=>by
   obtain⟨x,r,rfl,h1,h2⟩:=h.bu;exact av.drop n h2
theorem av.take{K:W.Frag}{B:List Addr}:∀{ds:List D} {xs:List V} (n:Nat),av K B H ds xs->av K B H (ds.take n) (xs.take n)
 | _,_,0,h=>av.nil
 | [],_,n+1,h=>by unfold av at h;subst h;exact av.nil
 | d ::ds,xs,n+1,h=>by
   obtain⟨x,r,rfl,h1,h2⟩:=h.bu;exact av.cons h1 (av.take n h2)
def D.atom:D->Bool
 | .bQ=>true | .bl _=>true | .int _=>true | .str _=>true | _=>false
theorem Rep.atom{K:W.Frag}{B B':List Addr}{d:D}{v:V}(a:d.atom=true)(h:Rep K B H d v):Rep K B' H' d v:=by
 cases d <;> first | exact h | cases a
inductive Sl where
 | un | val (d:D) | bld (ds:List D)
abbrev ak:=List Sl
structure dz (K:W.Frag) (Z B:List Addr) (H:Hp) (σ:St) (δ:ak):Prop where
 len:δ.length=σ.length
 bs:∀a∈B,∃o,H a=some o
 zb:∀a∈Z,a∈B
 val:∀(i:Nat) (d:D),δ[i]? =some (.val d)->∃v,σ[i]? =some (some v)/\Rep K B H d v
 bld:∀(i:Nat) (ds:List D),δ[i]? =some (.bld ds)->∃a xs,σ[i]? =some (some (.ref a))/\a∈B/\a ∉ Z/\H a=some (.lst xs)/\av K B H ds xs
 dis:∀(i j:Nat) (a:Addr) (ds es:List D),δ[i]? =some (.bld ds)->δ[j]? =some (.bld es)->σ[i]? =some (some (.ref a))->σ[j]? =some (some (.ref a))->i=j
theorem dz.same{K:W.Frag}{Z B:List Addr}{δ:ak}(E:dz K Z B H σ δ)(s:aI H H'):dz K Z B H' σ δ where
 len:=E.len
 bs:=fun a ha=>let⟨o,e⟩:=E.bs a ha;⟨o,s a o e⟩
 zb:=E.zb
 val:=fun i d e=>let⟨v,h1,h2⟩:=E.val i d e;⟨v,h1,h2.same s⟩
 bld:=fun i ds e=>let⟨a,xs,h1,h2,h3,h4,h5⟩:=E.bld i ds e;⟨a,xs,h1,h2,h3,s a _ h4,h5.same s⟩
 dis:=E.dis
def Lp(δ:ak):ak:=δ.map fun x=>match x with | .bld ds=> .val (.lst ds) | y=>y
theorem PE.imp{X:Cx}{t t':TE}(h:PE X e t)(w:∀σ H Q,t' σ H Q->t σ H Q):PE X e t':=fun pins s σ H Q I hq=>h pins s σ H Q I (w σ H Q hq)
theorem PT.imp{X:Cx}{t t':TT}(h:PT X e t)(w:∀σ H Q,t' σ H Q->t σ H Q):PT X e t':=fun pins s σ H Q I hq=>h pins s σ H Q I (w σ H Q hq)
theorem PA.imp{X:Cx}{t t':TA}(h:PA X e t)(w:∀σ H Q,t' σ H Q->t σ H Q):PA X e t':=fun pos pins s σ H Q I hq=>h pos pins s σ H Q I (w σ H Q hq)
theorem PS.imp{X:Cx}{t t':TS}(h:PS X e t)(w:∀D σ H,t' D σ H->t D σ H):PS X e t':=fun pins s σ H D I hq=>h pins s σ H D I (w D σ H hq)
theorem uT.imp{X:Cx}{t t':TS}(h:uT X e t)(w:∀D σ H,t' D σ H->t D σ H):uT X e t':=fun pins s σ H D I hq=>h pins s σ H D I (w D σ H hq)
theorem PG.imp{X:Cx}{t t':TG}(h:PG X e t)(w:∀v σ H Q,t' v σ H Q->t v σ H Q):PG X e t':=fun pins s σ H v u Q I r hq=>h pins s σ H v u Q I r (w v σ H Q hq)
theorem PI.imp{X:Cx}{t t':TI}(h:PI X tg e t)(w:∀σ H Q,t' σ H Q->t σ H Q):PI X tg e t':=fun pins s σ H Q I hq=>h pins s σ H Q I (w σ H Q hq)
abbrev FD:=ak->R D
def tD(K:W.Frag)(f:FD):TE:=fun σ H Q=>∃Z B δ d,dz K Z B H σ δ/\f δ= .ok d/\∀v H',aI H H'->Rep K B H' d v->Q v H'
def tN(K:W.Frag)(f:ak->R (List D)):TE:=fun σ H Q=>∃Z B δ ds,dz K Z B H σ δ/\f δ= .ok ds/\∀a xs H',aI H H'->H a=none->H' a=some (.lst xs)->av K (a ::B) H' ds xs->Q (.ref a) H'
def IB(K:W.Frag)(f:ak->R Bool):TT:=fun σ H Q=>∃Z B δ b,dz K Z B H σ δ/\f δ= .ok b/\∀H',aI H H'->Q b H'
def Pg(K:W.Frag)(f:ak->R (List D)):TA:=fun σ H Q=>∃Z B δ ds,dz K Z B H σ δ/\f δ= .ok ds/\∀vs H',aI H H'->av K B H' ds vs->Q vs H'
abbrev PD(X:Cx)(e:Expr)(f:FD):Prop:=PE X e (tD X.K f)
abbrev PN(X:Cx)(e:Expr)(f:ak->R (List D)):Prop:=PE X e (tN X.K f)
abbrev PB(X:Cx)(e:Expr)(f:ak->R Bool):Prop:=PT X e (IB X.K f)
abbrev Eg(X:Cx)(es:List Expr)(f:ak->R (List D)):Prop:=PA X es (Pg X.K f)
section
variable {X:Cx}
def eNew(f:ak->R (List D)):FD:=fun δ=>(f δ).bind fun ds=> .ok (.lst ds)
theorem Ju{f:ak->R (List D)}(h:PN X e f):PD X e (eNew f):=h.imp fun σ H Q ⟨Z,B,δ,d,E,hf,q⟩=>by
 obtain⟨ds,h1,h2⟩:=R.ab hf;cases h2;refine⟨Z,B,δ,ds,E,h1,fun a xs H' s n e r=>q _ H' s ?_⟩
 unfold Rep;refine⟨a,xs,rfl, .inl ⟨fun ha=>?_, .inl e⟩,r.aU fun b o e nb=>⟨e,fun hb=>nb (List.mem_cons_of_mem _ hb)⟩⟩
 obtain⟨o,ho⟩:=E.bs a ha;rw[n] at ho;cases ho
theorem wG{B:List Addr}{H:Hp}{p:Addr}{o:HO}(h:H p=none):cZ B H (p ::B) (upd H p o):=fun b u e nb=>
 ⟨by rw[aQ (bR e h)];exact e,fun hb=>by
   rcases List.mem_cons.mp hb with z | z
   .exact bR e h z
   .exact nb z⟩
def OV(f:FD):FD:=fun δ=>(f (Lp δ)).bind fun d=>R.bg d.atom (.ok d)
def O7(f:ak->R Bool):ak->R Bool:=fun δ=>f (Lp δ)
def af(i:Nat):FD:=fun δ=>match δ[i]? with | some (.val d)=> .ok d | _=> .no
def eC(d:D):FD:=fun _=> .ok d
theorem JH(i:Nat){x:Str}{pos:Pos}(hN:X.N[i]? =some x:=by rfl)(hv:GN X.env.scope x:=by first | exact Or.inl rfl | exact Or.inr (Or.inl rfl) | exact Or.inr (Or.inr rfl))(hd:(x==("__debug__":Str))=false:=by decide)
 (sN:(x==("__classdict__":Str))=false:=by decide):PD X (.Name x pos) (af i):=(uJ hN hv hd sN).imp fun σ H Q ⟨Z,B,δ,d,E,hf,q⟩=>by
 unfold af at hf;split at hf
 .rename_i d' e;cases hf;obtain⟨v,h1,h2⟩:=E.val i d e;exact⟨v,h1,q v H (aI.refl H) h2⟩
 .cases hf
theorem nL{v:V}{d:D}(h:PE X e (tC v))(r:∀B H,Rep X.K B H d v):PD X e (eC d):=h.imp fun σ H Q ⟨Z,B,δ,d',E,hf,q⟩=>by
 cases hf;exact q v H (aI.refl H) (r B H)
theorem Jo{i j pos}:PD X (.Constant (.int i) j pos) (eC (.int i)):=nL IZ fun _ _=>by unfold Rep;rfl
theorem Lf{b j pos}:PD X (.Constant (.bool b) j pos) (eC (.bl b)):=nL Lz fun _ _=>by unfold Rep;rfl
theorem HQ{j pos}:PD X (.Constant .none j pos) (eC .bQ):=nL Ho fun _ _=>by unfold Rep;rfl
theorem Ip{x j pos}:PD X (.Constant (.str x) j pos) (eC (.str x)):=nL HJ fun _ _=>by unfold Rep;rfl
def Glob(K:W.Frag)(mg:Ut)(x:Str)(d:D):Prop:=∃(u:Value) (v:V),mg x=some u/\RelV v u/\∀B H,Rep K B H d v
def aZ:ak->R (List D):=fun _=> .ok []
def aw(f:FD)(g:ak->R (List D)):ak->R (List D):=fun δ=>(f δ).bind fun d=>(g δ).bind fun ds=> .ok (d ::ds)
theorem ET:Eg X [] aZ:=gL.imp fun σ H Q ⟨Z,B,δ,d,E,hf,q⟩=>by
 cases hf;exact q [] H (aI.refl H) av.nil
theorem Dc{g:ak->R (List D)}(h:PD X e f)(t:Eg X es g)(hs:starEach (e ::es) X.env=(false,eval e X.env) ::starEach es X.env:=by rfl):Eg X (e ::es) (aw f g):=
 (dv h t hs).imp fun σ H Q ⟨Z,B,δ,d,E,hf,q⟩=>by
   obtain⟨d1,h1,h2⟩:=R.ab hf;obtain⟨ds,h3,h4⟩:=R.ab h2;cases h4;exact⟨Z,B,δ,d1,E,h1,fun v H1 s1 r1=>⟨Z,B,δ,ds,E.same s1,h3,fun vs H2 s2 r2=>q _ H2 (s1.trans s2) (av.cons (r1.same s2) r2)⟩⟩
def kI(g:ak->R (List D)):FD:=fun δ=>(g δ).bind fun ds=>R.bg (decide (ds.length<=sizeLine)) (.ok (.tup ds))
def j0(g:ak->R (List D)):ak->R (List D):=fun δ=>(g δ).bind fun ds=>R.bg (decide (ds.length<=sizeLine)) (.ok ds)
theorem aC{H:Hp}{p:Addr}{o:HO}(h:H p=none):aI H (upd H p o):=fun b u e=>by rw[aQ (bR e h)];exact e
theorem JF{g:ak->R (List D)}{x1 pos}(h:Eg X es g):PD X (.Tuple es x1 pos) (kI g):=(Dy h).imp fun σ H Q ⟨Z,B,δ,d,E,hf,q⟩=>by
 obtain⟨ds,h1,h2⟩:=R.ab hf;obtain⟨hl,h3⟩:=R.aP h2;cases h3;refine⟨Z,B,δ,ds,E,h1,fun vs H1 s1 r1=>⟨by rw[<-r1.length];exact of_decide_eq_true hl,fun p hp=>q _ _ (s1.trans (aC hp)) ?_⟩⟩
 unfold Rep;refine⟨p,vs,rfl, .inl ⟨fun ha=>?_, .inl aL⟩,r1.same (aC hp)⟩
 obtain⟨o,ho⟩:=(E.same s1).bs p ha;rw[hp] at ho;cases ho
theorem Hy{g:ak->R (List D)}{pos}(h:Eg X es g):PN X (.List es pos) (j0 g):=(BK h).imp fun σ H Q ⟨Z,B,δ,d,E,hf,q⟩=>by
 obtain⟨ds,h1,h2⟩:=R.ab hf;obtain⟨hl,h3⟩:=R.aP h2;cases h3;exact⟨Z,B,δ,_,E,h1,fun vs H1 s1 r1=>⟨by rw[<-r1.length];exact of_decide_eq_true hl,fun p hp=>q p vs _ (s1.trans (aC hp)) (s1.free hp) aL (r1.aU (wG hp))⟩⟩
def jv(X:Cx)(f:Value->Value->Sem Value)(g:D->D->R D):Prop:=
 ∀(pins:Um) (s:Shared) (σ:St) (H:Hp) (B:List Addr) (da db d:D) (x y:V) (v u:Value),Inv X pins σ H s->(∀a∈B,∃o,H a=some o)->RelV x v->RelV y u->Rep X.K B H da x->Rep X.K B H db y->g da db= .ok d->
  wpAny (model X.prog X.w) X.A (f v u) (EP X pins σ fun z H'=>aI H H'/\Rep X.K B H' d z) X.xe s
def e2(g:D->D->R D)(fa fb:FD):FD:=fun δ=>(fa δ).bind fun a=>(fb δ).bind fun b=>g a b
theorem jv.r{f:Value->Value->Sem Value}{g:D->D->R D}(h:jv X f g):kD X f (fun x y H Q=>∃B da db d,(∀a∈B,∃o,H a=some o)/\Rep X.K B H da x/\Rep X.K B H db y/\g da db= .ok d/\∀z H',aI H H'->Rep X.K B H' d z->Q z H'):=by
 intro pins s σ H x y v u Q I rx ry ⟨B,da,db,d,hb,ha,vt,hg,q⟩;exact du (h pins s σ H B da db d x y v u I hb rx ry ha vt hg) fun z s' ⟨zv,H',I',r',s1,r1⟩=>⟨zv,H',I',r',q zv H' s1 r1⟩
theorem IJ{K:W.Frag}{g:D->D->R D}{Q:VK}(h:tD K (e2 g fa fb) σ H Q) :
 J1 (fun x y H Q=>∃B da db d,(∀a∈B,∃o,H a=some o)/\Rep K B H da x/\Rep K B H db y/\g da db= .ok d/\∀z H',aI H H'->Rep K B H' d z->Q z H') (tD K fa) (tD K fb) σ H Q:=by
 obtain⟨Z,B,δ,d,E,hf,q⟩:=h;obtain⟨d1,h1,h2⟩:=R.ab hf;obtain⟨d2,h3,h4⟩:=R.ab h2;exact⟨Z,B,δ,d1,E,h1,fun v1 H1 s1 r1=>⟨Z,B,δ,d2,E.same s1,h3,fun v2 H2 s2 r2=>⟨B,d1,d2,d,(E.same (s1.trans s2)).bs,r1.same s2,r2,h4,fun z H' s3 r3=>q z H' (s1.trans (s2.trans s3)) r3⟩⟩⟩
theorem Ks{op:Operator}{g:D->D->R D}(ho:jv X (binaryOp op) g)(ha:PD X a fa)(hb:PD X b fb):PD X (.BinOp a op b pos) (e2 g fa fb):=
 (B5 ho.r ha hb).imp fun σ H Q h=>IJ h
theorem Jz{op:CmpOp}{g:D->D->R D}(ho:jv X (compareOp op) g)(ha:PD X a fa)(hb:PD X b fb)(hm:behindInMarks op b=false):PD X (.Compare a [op] [b] pos) (e2 g fa fb):=
 (zy ho.r ha hb hm).imp fun σ H Q h=>IJ h
def b2(g:D->D->R D)(fa fb:FD):ak->R Bool:=fun δ=>(e2 g fa fb δ).bind fun d=>match d with | .bl b=> .ok b | _=> .no
theorem HC{op:CmpOp}{g:D->D->R D}(ho:jv X (compareOp op) g)(ha:PD X a fa)(hb:PD X b fb)(hm:behindInMarks op b=false):PB X (.Compare a [op] [b] pos) (b2 g fa fb):=
 (zG ho.r ha hb hm).imp fun σ H Q ⟨Z,B,δ,b,E,hf,q⟩=>by
   obtain⟨d,h1,h2⟩:=R.ab hf;cases d with
   | bl k=>
     cases h2;exact IJ (g:=g) (Q:=fun x H'=>∃k,x= .bl k/\Q k H') ⟨Z,B,δ, .bl b,E,h1,fun v H' s r=>⟨b,by unfold Rep at r;exact r,q H' s⟩⟩
   | _=>cases h2
def NQ(g g':D->D->R D)(fa fb fc:FD):FD:=fun δ=>(fa δ).bind fun a=>(fb δ).bind fun b=>(g a b).bind fun r=>match r with
 | .bl true=>(fc δ).bind fun c=>g' b c
 | .bl false=> .ok (.bl false)
 | _=> .no
def Ez:D->R Bool
 | .bQ=> .ok false
 | .bl b=> .ok b
 | .int i=> .ok (i !=0)
 | .str x=>R.bg (decide (x.length<=sizeLine)) (.ok ((x.length:Int) !=0))
 | .lst ds=> .ok (!ds.isEmpty)
 | .tup ds=> .ok (!ds.isEmpty)
 | .dct _ _=> .no
def qX(f:FD):ak->R Bool:=fun δ=>(f δ).bind Ez
theorem av.isEmpty{K:W.Frag}{B:List Addr}{ds:List D}{xs:List V}(h:av K B H ds xs):ds.isEmpty=xs.isEmpty:=by
 have:=h.length;cases ds <;> cases xs <;> simp_all
theorem Cu{K:W.Frag}{B:List Addr}{d:D}{v:V}{b:Bool}(r:Rep K B H d v)(h:Ez d= .ok b):Ff K v H b:=by
 cases d with
 | bQ=>unfold Rep at r;subst r;cases h;exact rfl
 | bl k=>unfold Rep at r;subst r;cases h;exact rfl
 | int i=>unfold Rep at r;subst r;cases h;exact rfl
 | str x=>unfold Rep at r;subst r;obtain⟨h1,h2⟩:=R.aP h;cases h2;exact⟨of_decide_eq_true h1,rfl⟩
 | lst ds=>unfold Rep at r;obtain⟨a,xs,rfl,l,r⟩:=r;cases h;exact .inl ⟨xs,l.sq,by rw[r.isEmpty]⟩
 | tup ds=>unfold Rep at r;obtain⟨a,xs,rfl,l,r⟩:=r;cases h;exact .inr (.inl ⟨xs,l.sq,by rw[r.isEmpty]⟩)
 | dct _ _=>cases h
theorem Jg{a:Expr}(ha:PD X a f)(he:∀whole,isTrue a X.env whole=(do let v <-whole;standAt a.pos;holding [v] (truthy v)):=by intro _;rfl):PB X a (qX f):=
 (wZ ha he).imp fun σ H Q ⟨Z,B,δ,b,E,hf,q⟩=>by
   obtain⟨d,h1,h2⟩:=R.ab hf;exact⟨Z,B,δ,d,E,h1,fun v H' s r=>⟨b,Cu r h2,q H' s⟩⟩
def Gq(f g:ak->R Bool):ak->R Bool:=fun δ=>(f δ).bind fun b=>if b then g δ else .ok false
def Ms(f g:ak->R Bool):ak->R Bool:=fun δ=>(f δ).bind fun b=>if b then .ok true else g δ
def uI(f:ak->R Bool):ak->R Bool:=fun δ=>(f δ).bind fun b=> .ok (!b)
def El(X:Cx)(e:Expr)(f:ak->R Bool):Prop:=PW X e (IB X.K f)
theorem El.pb{f:ak->R Bool}(h:El X e f):PB X e f:=PW.pt h
theorem Ci{f:ak->R Bool}(h:PB X a f):El X (.BoolOp .And [a] pos) f:=EH h
theorem FY{f:ak->R Bool}(h:PB X a f):El X (.BoolOp .Or [a] pos) f:=IW h
theorem Fw{rest:List Expr}{f g:ak->R Bool}(ha:PB X a f)(hb:El X (.BoolOp .And (b ::rest) pos) g):El X (.BoolOp .And (a ::b ::rest) pos) (Gq f g):=by
 intro wh pins s σ H Q I ⟨Z,B,δ,k,E,hf,q⟩;refine IX ha hb wh pins s σ H Q I ?_;obtain⟨c,h1,h2⟩:=R.ab hf;refine⟨Z,B,δ,c,E,h1,fun H1 s1=>?_⟩
 cases c with
 | true=>rw [if_pos rfl] at h2 ⊢;exact⟨Z,B,δ,k,E.same s1,h2,fun H' s2=>q H' (s1.trans s2)⟩
 | false=>rw [if_neg (by decide)] at h2 ⊢;cases h2;exact q H1 s1
theorem HN{rest:List Expr}{f g:ak->R Bool}(ha:PB X a f)(hb:El X (.BoolOp .Or (b ::rest) pos) g):El X (.BoolOp .Or (a ::b ::rest) pos) (Ms f g):=by
 intro wh pins s σ H Q I ⟨Z,B,δ,k,E,hf,q⟩;refine La ha hb wh pins s σ H Q I ?_;obtain⟨c,h1,h2⟩:=R.ab hf;refine⟨Z,B,δ,c,E,h1,fun H1 s1=>?_⟩
 cases c with
 | true=>rw [if_pos rfl] at h2 ⊢;cases h2;exact q H1 s1
 | false=>rw [if_neg (by decide)] at h2 ⊢;exact⟨Z,B,δ,k,E.same s1,h2,fun H' s2=>q H' (s1.trans s2)⟩
theorem Ik{f:ak->R Bool}(ha:PB X a f):PB X (.UnaryOp .Not a pos) (uI f):=(CG ha).imp fun σ H Q ⟨Z,B,δ,k,E,hf,q⟩=>by
 obtain⟨c,h1,h2⟩:=R.ab hf;cases h2;exact⟨Z,B,δ,c,E,h1,fun H1 s1=>q H1 s1⟩
def Nf(f:FD):ak->R Bool:=fun δ=>(f δ).bind fun d=>match d with | .bl b=> .ok b | _=> .no
def QR(f g:FD):FD:=fun δ=>(Nf f δ).bind fun b=>if b then g δ else .ok (.bl false)
def TQ(f g:FD):FD:=fun δ=>(Nf f δ).bind fun b=>if b then .ok (.bl true) else g δ
def RC(f:FD):FD:=fun δ=>(Nf f δ).bind fun b=> .ok (.bl (!b))
def HK(c:ak->R Bool)(f g:FD):FD:=fun δ=>(c δ).bind fun b=>if b then f δ else g δ
theorem LG{fc:ak->R Bool}(hc:PB X c fc)(ha:PD X a f)(hb:PD X b g):PD X (.IfExp c a b pos) (HK fc f g):=(Cr hc ha hb).imp fun σ H Q ⟨Z,B,δ,k,E,hf,q⟩=>by
 obtain⟨c,h1,h2⟩:=R.ab hf;refine⟨Z,B,δ,c,E,h1,fun H1 s1=>?_⟩
 cases c with
 | true=>rw [if_pos rfl] at h2 ⊢;exact⟨Z,B,δ,k,E.same s1,h2,fun v H' s2 r2=>q v H' (s1.trans s2) r2⟩
 | false=>rw [if_neg (by decide)] at h2 ⊢;exact⟨Z,B,δ,k,E.same s1,h2,fun v H' s2 r2=>q v H' (s1.trans s2) r2⟩
def cM(X:Cx)(f:Value)(g:List D->R D):Prop:=
 ∀(pins:Um) (s:Shared) (σ:St) (H:Hp) (B:List Addr) (ds:List D) (d:D) (xs:List V) (us:List Value),Inv X pins σ H s->(∀a∈B,∃o,H a=some o)->Vals xs us->av X.K B H ds xs->g ds= .ok d->
  wpAny (model X.prog X.w) X.A (call f us) (EP X pins σ fun z H'=>aI H H'/\Rep X.K B H' d z) X.xe s
def aS(g:List D->R D)(fs:ak->R (List D)):FD:=fun δ=>(fs δ).bind g
theorem cM.r{f:Value}{g:List D->R D}(h:cM X f g):kC X f (fun xs H Q=>∃B ds d,(∀a∈B,∃o,H a=some o)/\av X.K B H ds xs/\g ds= .ok d/\∀z H',aI H H'->Rep X.K B H' d z->Q z H'):=by
 intro pins s σ H xs us Q I rx ⟨B,ds,d,hb,hr,hg,q⟩;exact du (h pins s σ H B ds d xs us I hb rx hr hg) fun z s' ⟨zv,H',I',r',s1,r1⟩=>⟨zv,H',I',r',q zv H' s1 r1⟩
theorem zA{K:W.Frag}{g:List D->R D}{fs:ak->R (List D)}{Q:VK}(h:tD K (aS g fs) σ H Q) :
 Pg K fs σ H fun vs H1=>∃B ds d,(∀a∈B,∃o,H1 a=some o)/\av K B H1 ds vs/\g ds= .ok d/\∀z H',aI H1 H'->Rep K B H' d z->Q z H':=by
 obtain⟨Z,B,δ,d,E,hf,q⟩:=h;obtain⟨ds,h1,h2⟩:=R.ab hf;exact⟨Z,B,δ,ds,E,h1,fun vs H1 s1 r1=>⟨B,ds,d,(E.same s1).bs,r1,h2,fun z H' s2 r2=>q z H' (s1.trans s2) r2⟩⟩
theorem C4{g:List D->R D}{x:Str}{id:String}{p pos:Pos}{e:Expr}{es:List Expr}{fs:ak->R (List D)}(hc:cM X (.builtin id) g)(hg:Gl X x)(hm:X.mg x=none)(hv:bootBuiltins x=some (.builtin id))(ha:Eg X (e ::es) fs)(hn:x≠"__name__":=by decide)(nR:(x==("__debug__":Str))=false:=by decide)
 (he:starEach (e ::es) X.env=(false,eval e X.env) ::starEach es X.env:=by rfl) (kG:(backTo pos (starEach es X.env)).any (·.1)=false:=by rfl):PD X (.Call (.Name x p) (e ::es) [] pos) (aS g fs):=
 (nQ hc.r hg hm hv ha hn nR he kG).imp fun σ H Q h=>zA h
theorem Au{g:List D->R D}{x:Str}{T:String}{p pos:Pos}{e:Expr}{es:List Expr}{fs:ak->R (List D)}(hc:cM X (.type T) g)(hg:Gl X x)(hm:X.mg x=none)(hv:bootBuiltins x=some (.type T))(ha:Eg X (e ::es) fs)(hn:x≠"__name__":=by decide)(nR:(x==("__debug__":Str))=false:=by decide)
 (he:starEach (e ::es) X.env=(false,eval e X.env) ::starEach es X.env:=by rfl) (kG:(backTo pos (starEach es X.env)).any (·.1)=false:=by rfl):PD X (.Call (.Name x p) (e ::es) [] pos) (aS g fs):=
 (Ap hc.r hg hm hv ha hn nR he kG).imp fun σ H Q h=>zA h
def Dz(K:W.Frag)(n:Nat)(g:List D->R D):Sp:=fun vs H Q _=>vs.length=n/\∃B ds d,(∀a∈B,∃o,H a=some o)/\av K B H ds vs/\g ds= .ok d/\∀z H',aI H H'->Rep K B H' d z->Q z H'
theorem FC{g:List D->R D}{k n:Nat}{f:Addr}{fd:FuncData}{ps:List Str}{x:Str}{p pos:Pos}{e:Expr}{es:List Expr}{fs:ak->R (List D)}
 (F:gH X.prog X.w X.K X.mg X.base rZ k f fd ps (Dz X.K n g)) (hr:dQ k X.A) (hg:Gl X x) (hm:X.mg x=some (.ref f)) (hk:PySem.W.keepIn X.K (.ref f)=true) (hb:Binds X.K fd ps []) (ha:Eg X (e ::es) fs)
 (hn:∀δ ds,fs δ= .ok ds->ds.length=n) (nR:(x==("__debug__":Str))=false:=by decide) (he:starEach (e ::es) X.env=(false,eval e X.env) ::starEach es X.env:=by rfl) (kG:(backTo pos (starEach es X.env)).any (·.1)=false:=by rfl) :
 PD X (.Call (.Name x p) (e ::es) [] pos) (aS g fs):=
 (uY F hr hg hm hk hb .nil wW ha nR he kG).imp fun σ H Q ⟨Z,B,δ,d,E,hf,q⟩=>by
   obtain⟨ds,h1,h2⟩:=R.ab hf;refine⟨Z,B,δ,ds,E,h1,fun vs H1 s1 r1=>?_⟩
   show Dz X.K n g (vs++[]) H1 Q E0;rw[List.append_nil];exact⟨by rw[<-r1.length];exact hn δ ds h1,B,ds,d,(E.same s1).bs,r1,h2,fun z H' s2 r2=>q z H' (s1.trans s2) r2⟩
end
end L2
end
section
namespace L2
open PySem PySem.Spec PyProof.Rows
inductive Out where
 | nx (δ:ak) | rt (d:D)
abbrev FS:=ak->R Out
structure Ev (Z B:List Addr) (H:Hp) (B':List Addr) (H':Hp):Prop where
 aU:cZ B H B' H'
 zs:∀b o,H b=some o->b∈Z->H' b=some o/\b∈B'
theorem Ev.refl(Z B:List Addr)(H:Hp)(zb:∀a∈Z,a∈B):Ev Z B H B H:=⟨cZ.refl B H,fun b o e z=>⟨e,zb b z⟩⟩
theorem Ev.trans{Z B B' LZ:List Addr}(a:Ev Z B H B' H')(b:Ev Z B' H' LZ kK):Ev Z B H LZ kK:=
 ⟨a.aU.trans b.aU,fun c o e z=>let⟨e1,_⟩:=a.zs c o e z;b.zs c o e1 z⟩
theorem Ev.same{Z B:List Addr}(zb:∀a∈Z,a∈B)(s:aI H H'):Ev Z B H B H':=⟨cZ.same s,fun b o e z=>⟨s b o e,zb b z⟩⟩
def zR(K:W.Frag)(Z B:List Addr)(H:Hp)(D:Ends):Out->Prop
 | .nx dr=>∀cj B' H',Ev Z B H B' H'->dz K Z B' H' cj dr->D.nx cj H'
 | .rt d=>∀v B' H',Ev Z B H B' H'->(∀a∈Z,a∈B')->Rep K B' H' d v->D.rt v H'
theorem zR.ev{K:W.Frag}{Z B B1:List Addr}{D:Ends}{o:Out}(q:zR K Z B H D o)(ev:Ev Z B H B1 H1):zR K Z B1 H1 D o:=by
 cases o with
 | nx dr=>exact fun cj B' H' Bb E'=>q cj B' H' (ev.trans Bb) E'
 | rt d=>exact fun v B' H' Bb z r=>q v B' H' (ev.trans Bb) z r
def sD(K:W.Frag)(F:FS):TS:=fun D σ H=>∃Z B δ o,dz K Z B H σ δ/\F δ= .ok o/\zR K Z B H D o
abbrev Gb(X:Cx)(st:Stmt)(F:FS):Prop:=PS X st (sD X.K F)
abbrev pN(X:Cx)(st:List Stmt)(F:FS):Prop:=uT X st (sD X.K F)
section
variable {X:Cx}
def xg:FS:=fun δ=> .ok (.nx δ)
def kJ(F G:FS):FS:=fun δ=>(F δ).bind fun o=>match o with | .nx dr=>G dr | .rt d=> .ok (.rt d)
theorem Gf:pN X [] xg:=vb.imp fun D σ H ⟨Z,B,δ,o,E,hf,q⟩=>by
 cases hf;exact q σ B H (Ev.refl Z B H E.zb) E
theorem Ii{K:W.Frag}{F G:FS}{D:Ends}(h:sD K (kJ F G) D σ H):KY (sD K F) (sD K G) D σ H:=by
 obtain⟨Z,B,δ,o,E,hf,q⟩:=h;obtain⟨o1,h1,h2⟩:=R.ab hf;refine⟨Z,B,δ,o1,E,h1,?_⟩;cases o1 with
 | nx cz=>
   intro En B1 H1 ev E1;refine⟨Z,B1,cz,o,E1,h2,?_⟩;cases o with
   | nx d7=>exact fun cj B' H' Bb E'=>q cj B' H' (ev.trans Bb) E'
   | rt d=>exact fun v B' H' Bb z r=>q v B' H' (ev.trans Bb) z r
 | rt d=>
   cases h2;exact q
theorem Bx{st:Stmt}{rest:List Stmt}{F G:FS}(h1:Gb X st F)(h2:pN X rest G):pN X (st ::rest) (kJ F G):=(rN h1 h2).imp fun D σ H h=>Ii h
theorem EI{st:Stmt}{F:FS}(h1:Gb X st F):pN X [st] F:=u_ h1
theorem dz.set{K:W.Frag}{Z B:List Addr}{σ:St}{δ:ak}(E:dz K Z B H σ δ){i:Nat}{d:D}{v:V}(hi:i < σ.length)(r:Rep K B H d v):dz K Z B H (σ.set i (some v)) (δ.set i (.val d)) where
 len:=by rw[List.length_set,List.length_set];exact E.len
 bs:=E.bs
 zb:=E.zb
 val:=fun j d' e=>by
  by_cases h:i=j
  .subst h;rw[List.getElem?_set_self (by rw[E.len];exact hi)] at e
   cases e;exact⟨v,List.getElem?_set_self hi,r⟩
  .rw [List.getElem?_set_ne h] at e ⊢;exact E.val j d' e
 bld:=fun j ds e=>by
  by_cases h:i=j
  .subst h;rw[List.getElem?_set_self (by rw[E.len];exact hi)] at e
   cases e
  .rw [List.getElem?_set_ne h] at e ⊢;exact E.bld j ds e
 dis:=fun j k a ds es e1 e2 e3 e4=>by
  by_cases h:i=j
  .subst h;rw[List.getElem?_set_self (by rw[E.len];exact hi)] at e1
   cases e1
  .by_cases h':i=k
   .subst h';rw[List.getElem?_set_self (by rw[E.len];exact hi)] at e2
    cases e2
   .rw [List.getElem?_set_ne h] at e1 e3;rw[List.getElem?_set_ne h'] at e2 e4;exact E.dis j k a ds es e1 e2 e3 e4
theorem dz.setB{K:W.Frag}{Z B:List Addr}{H:Hp}{σ:St}{δ:ak}(E:dz K Z B H σ δ){i:Nat}{ds:List D}{a:Addr}{xs:List V}(hi:i < σ.length)(hB:a∈B)(hZ:a ∉ Z)(hH:H a=some (.lst xs))(r:av K B H ds xs)
 (new:∀j es,j≠i->δ[j]? =some (.bld es)->σ[j]?≠some (some (.ref a))):dz K Z B H (σ.set i (some (.ref a))) (δ.set i (.bld ds)) where
 len:=by rw[List.length_set,List.length_set];exact E.len
 bs:=E.bs
 zb:=E.zb
 val:=fun j d' e=>by
  by_cases h:i=j
  .subst h;rw[List.getElem?_set_self (by rw[E.len];exact hi)] at e
   cases e
  .rw [List.getElem?_set_ne h] at e ⊢;exact E.val j d' e
 bld:=fun j es e=>by
  by_cases h:i=j
  .subst h;rw[List.getElem?_set_self (by rw[E.len];exact hi)] at e
   cases e;exact⟨a,xs,List.getElem?_set_self hi,hB,hZ,hH,r⟩
  .rw [List.getElem?_set_ne h] at e ⊢;exact E.bld j es e
 dis:=fun j k b LM LN e1 e2 e3 e4=>by
  by_cases h:i=j
  .subst h;by_cases h':i=k
   .exact h'
   .rw [List.getElem?_set_self hi] at e3;cases e3;rw[List.getElem?_set_ne h'] at e2 e4;exact absurd e4 (new k LN (Ne.symm h') e2)
  .by_cases h':i=k
   .subst h';rw[List.getElem?_set_self hi] at e4;cases e4;rw[List.getElem?_set_ne h] at e1 e3;exact absurd e3 (new j LM (Ne.symm h) e1)
   .rw [List.getElem?_set_ne h] at e1 e3;rw[List.getElem?_set_ne h'] at e2 e4;exact E.dis j k b LM LN e1 e2 e3 e4
def wa(i:Nat)(f:FD):FS:=fun δ=>(f δ).bind fun d=>R.bg (decide (i < δ.length)) (.ok (.nx (δ.set i (.val d))))
theorem Jq{K:W.Frag}{i:Nat}{D:Ends}(h:sD K (wa i f) D σ H):Ar (tD K f) (qB i) D σ H:=by
 obtain⟨Z,B,δ,o,E,hf,q⟩:=h;obtain⟨d,h1,h2⟩:=R.ab hf;obtain⟨hi,h3⟩:=R.aP h2;cases h3;refine⟨Z,B,δ,d,E,h1,fun v H1 s1 r1=>?_⟩
 exact q _ B H1 (Ev.same E.zb s1) ((E.same s1).set (by rw[<-E.len];exact of_decide_eq_true hi) r1)
theorem Fs{i:Nat}{pos pos':Pos}(hN:X.N.Nodup)(hi:X.N[i]? =some x)(hx:Loc X.env.scope x)(he:PD X e f)(hs:swapsWith e (some (.Name x pos')) pos.line X.env=pure false:=by rfl)(hf:X.fn x=true\/X.env.scope.names.lookup x=some .local:=by first | exact .inl rfl | exact .inr rfl | assumption) :
 Gb X (.Assign [.Name x pos'] e pos) (wa i f):=(xM hN hi hx he hs hf).imp fun D σ H h=>Jq h
def Ae(i:Nat)(f:ak->R (List D)):FS:=fun δ=>(f δ).bind fun ds=>R.bg (decide (i < δ.length)) (.ok (.nx (δ.set i (.bld ds))))
theorem Jj{K:W.Frag}{i:Nat}{f:ak->R (List D)}{D:Ends}(h:sD K (Ae i f) D σ H):Ar (tN K f) (qB i) D σ H:=by
 obtain⟨Z,B,δ,o,E,hf,q⟩:=h;obtain⟨ds,h1,h2⟩:=R.ab hf;obtain⟨hi,h3⟩:=R.aP h2;cases h3;refine⟨Z,B,δ,ds,E,h1,fun a xs H1 s1 n e r=>?_⟩
 have E1:=E.same s1;have aB:a ∉ B:=fun ha=>by obtain⟨o,ho⟩:=E.bs a ha;rw [n] at ho;cases ho
 have nZ:a ∉ Z:=fun ha=>aB (E.zb a ha)
 have p0:cZ B H (a ::B) H1:=fun b o e' nb=>⟨s1 b o e',fun hb=>by
  rcases List.mem_cons.mp hb with z | z
  .subst z;rw [n] at e';cases e'
  .exact nb z⟩
 have E2:dz K Z (a ::B) H1 σ δ:={
  len:=E.len
  bs:=fun b hb=>by
   rcases List.mem_cons.mp hb with z | z
   .subst z;exact⟨_,e⟩
   .exact E1.bs b z
  zb:=fun b hb=>List.mem_cons_of_mem _ (E.zb b hb)
  val:=fun j d e=>let⟨v,q1,q2⟩:=E.val j d e;⟨v,q1,q2.aU p0⟩
  bld:=fun j es e=>let⟨b,ys,q1,q2,q3,q4,q5⟩:=E.bld j es e;⟨b,ys,q1,List.mem_cons_of_mem _ q2,q3,s1 b _ q4,q5.aU p0⟩
  dis:=E.dis}
 refine q _ (a ::B) H1 ⟨p0,fun b o e' hb=>⟨s1 b o e',List.mem_cons_of_mem _ (E.zb b hb)⟩⟩ (E2.setB (by rw[<-E.len];exact of_decide_eq_true hi) List.mem_cons_self nZ e r fun j es hj ej GH=>?_)
 obtain⟨b,ys,q1,_,_,q4,_⟩:=E.bld j es ej;rw[GH] at q1;cases q1;rw[n] at q4;cases q4
theorem EM{i:Nat}{f:ak->R (List D)}{pos pos':Pos}(hN:X.N.Nodup)(hi:X.N[i]? =some x)(hx:Loc X.env.scope x)(he:PN X e f)(hs:swapsWith e (some (.Name x pos')) pos.line X.env=pure false:=by rfl)(hf:X.fn x=true\/X.env.scope.names.lookup x=some .local:=by first | exact .inl rfl | exact .inr rfl | assumption) :
 Gb X (.Assign [.Name x pos'] e pos) (Ae i f):=(xM hN hi hx he hs hf).imp fun D σ H h=>Jj h
theorem dz.grow{K:W.Frag}{Z B:List Addr}{H:Hp}{σ:St}{δ:ak}(E:dz K Z B H σ δ){i:Nat}{ds es:List D}{a:Addr}{xs ys:List V}(hd:δ[i]? =some (.bld ds))(GH:σ[i]? =some (some (.ref a)))(hB:a∈B)(hH:H a=some (.lst xs))(r:av K B H es ys) :
 dz K Z B (upd H a (.lst ys)) σ (δ.set i (.bld es))/\cZ B H B (upd H a (.lst ys)):=by
 have p:cZ B H B (upd H a (.lst ys)):=fun b o e nb=>⟨by rw[aQ (fun(z:b=a)=>nb (by rw[z];exact hB))];exact e,nb⟩
 have hi:i < δ.length:=(List.getElem?_eq_some_iff.mp hd).1;refine⟨{
  len:=by rw[List.length_set];exact E.len
  bs:=fun b hb=>by
   by_cases z:b=a
   .subst z;exact⟨_,aL⟩
   .rw [aQ z];exact E.bs b hb
  zb:=E.zb
  val:=fun j d e=>by
   by_cases h:i=j
   .subst h;rw [List.getElem?_set_self hi] at e;cases e
   .rw [List.getElem?_set_ne h] at e;obtain⟨v,q1,q2⟩:=E.val j d e;exact⟨v,q1,q2.aU p⟩
  bld:=fun j fs e=>by
   by_cases h:i=j
   .subst h;rw [List.getElem?_set_self hi] at e;cases e;obtain⟨b,zs,q1,q2,q3,_,_⟩:=E.bld i ds hd;rw[GH] at q1;cases q1;exact⟨a,ys,GH,hB,q3,aL,r.aU p⟩
   .rw [List.getElem?_set_ne h] at e;obtain⟨b,zs,q1,q2,q3,q4,q5⟩:=E.bld j fs e;have ne:b≠a:=fun z=>by subst z;exact h (E.dis i j b ds fs hd e GH q1)
    exact⟨b,zs,q1,q2,q3,by rw[aQ ne];exact q4,q5.aU p⟩
  dis:=fun j k b LM LN e1 e2 e3 e4=>by
   have f1:∃fs,δ[j]? =some (.bld fs):=by
    by_cases h:i=j
    .subst h;exact⟨ds,hd⟩
    .rw [List.getElem?_set_ne h] at e1;exact⟨_,e1⟩
   have f2:∃fs,δ[k]? =some (.bld fs):=by
    by_cases h:i=k
    .subst h;exact⟨ds,hd⟩
    .rw [List.getElem?_set_ne h] at e2;exact⟨_,e2⟩
   obtain⟨_,f1⟩:=f1;obtain⟨_,f2⟩:=f2;exact E.dis j k b _ _ f1 f2 e3 e4},p⟩
theorem Ev.grow{Z B:List Addr}{a:Addr}{o:HO}(zb:∀a∈Z,a∈B)(hZ:a ∉ Z)(p:cZ B H B (upd H a o)):Ev Z B H B (upd H a o):=
 ⟨p,fun b u e hb=>⟨by rw[aQ (fun(z:b=a)=>hZ (by rw[<-z];exact hb))];exact e,zb b hb⟩⟩
def tS(δ:ak)(i:Nat):R (List D):=match δ[i]? with | some (.bld ds)=> .ok ds | _=> .no
theorem DF{δ:ak}{i:Nat}{ds:List D}(h:tS δ i= .ok ds):δ[i]? =some (.bld ds):=by
 unfold tS at h;split at h
 .rename_i q;cases h;exact q
 .cases h
def Bm(i:Nat)(f:FD):FS:=fun δ=>(f δ).bind fun d=>(tS δ i).bind fun ds=>R.bg (decide (ds.length < sizeLine)) (.ok (.nx (δ.set i (.bld (ds++[d])))))
theorem FI{i:Nat}{x:Str}{e:Expr}{f:FD}{lF apos dR pos:Pos}(hN:X.N[i]? =some x)(hv:GN X.env.scope x)(he:PD X e f)
 (hd:(x==("__debug__":Str))=false:=by decide) (sN:(x==("__classdict__":Str))=false:=by decide)
 (hs:starEach [e] X.env=(false,eval e X.env) ::starEach [] X.env:=by rfl) (rT:(apos.endLine==dR.line)=true:=by rfl)
 (yT:((backTo dR (starEach [e] X.env)).all (fun x=>!x.1) && (backToKw dR (keywordEach [] X.env)).all (fun x=>x.1.isSome)
   && decide (([e]:List Expr).length+([]:List Keyword).length+(if([]:List Keyword).isEmpty then 0 else 1) < 30))=true:=by rfl)
 (GC:swapsWith (.Call (.Attribute (.Name x lF) "append" apos) [e] [] dR) none pos.line X.env=pure false:=by rfl)
 (rR:attributeBase (.Name x lF) "append" X.env (eval (.Name x lF) X.env)=eval (.Name x lF) X.env:=by rfl) :
 Gb X (.Expr (.Call (.Attribute (.Name x lF) "append" apos) [e] [] dR) pos) (Bm i f):=by
 refine(zB (G9 (X:=X) PySem.F.plainAttrs_list PySem.F.slot_list_append PySem.F.type_list_append oC (uJ hN hv hd sN) (dv he gL hs) rR yT rT hs) GC).imp fun D σ H ⟨Z,B,δ,o,E,hf,q⟩=>?_
 obtain⟨d,h1,h2⟩:=R.ab hf;obtain⟨ds,h3,h4⟩:=R.ab h2;obtain⟨hl,h5⟩:=R.aP h4;cases h5;have hb:=DF h3;obtain⟨a,xs,q1,q2,q3,q4,q5⟩:=E.bld i ds hb;refine⟨.ref a,q1, .inl ⟨rfl,xs,mZ.of q4⟩,⟨Z,B,δ,d,E,h1,fun v H1 s1 r1=>?_⟩⟩
 have E1:=E.same s1;refine⟨a,xs,v,rfl,rfl,s1 a _ q4,by rw[<-q5.length];exact of_decide_eq_true hl,?_⟩
 obtain⟨E2,p2⟩:=E1.grow (es:=ds++[d]) (ys:=xs++[v]) hb q1 q2 (s1 a _ q4) ((q5.same s1).append (av.cons r1 av.nil));exact q σ B _ ((Ev.same E.zb s1).trans (Ev.grow E.zb q3 p2)) E2
def QY(i:Nat)(f:ak->R (List D)):FS:=fun δ=>(f δ).bind fun es=>(tS δ i).bind fun ds=>R.bg (decide (ds.length+es.length<=sizeLine)) (.ok (.nx (δ.set i (.bld (ds++es)))))
def jf(i:Nat)(δ:ak):ak:=match δ[i]? with | some (.bld ds)=>δ.set i (.val (.lst ds)) | _=>δ
theorem dz.jf{K:W.Frag}{Z B:List Addr}{δ:ak}(E:dz K Z B H σ δ)(i:Nat):∃B',Ev Z B H B' H/\dz K Z B' H σ (jf i δ):=by
 unfold L2.jf;cases hd:δ[i]? with
 | none=>exact⟨B,Ev.refl Z B H E.zb,E⟩
 | some x=>
   cases x with
   | un=>exact⟨B,Ev.refl Z B H E.zb,E⟩
   | val d=>exact⟨B,Ev.refl Z B H E.zb,E⟩
   | bld ds=>
     obtain⟨a,xs,q1,q2,q3,q4,q5⟩:=E.bld i ds hd;have hi:i < δ.length:=(List.getElem?_eq_some_iff.mp hd).1;have p:cZ B H (B.filter fun b=>decide (b≠a)) H:=fun b o e nb=>⟨e,fun hb=>nb (List.mem_filter.mp hb).1⟩
     have zb:∀b∈Z,b∈B.filter fun b=>decide (b≠a):=fun b hb=>List.mem_filter.mpr ⟨E.zb b hb,decide_eq_true fun z=>q3 (z▸hb)⟩
     refine⟨B.filter fun b=>decide (b≠a),⟨p,fun b o e hb=>⟨e,zb b hb⟩⟩,{
      len:=by rw[List.length_set];exact E.len
      bs:=fun b hb=>E.bs b (List.mem_filter.mp hb).1
      zb:=zb
      val:=fun j d e=>by
       by_cases h:i=j
       .subst h;rw [List.getElem?_set_self hi] at e;cases e;refine⟨.ref a,q1,?_⟩;unfold Rep;exact⟨a,xs,rfl, .inl ⟨fun hb=>by simpa using(List.mem_filter.mp hb).2, .inl q4⟩,q5.aU p⟩
       .rw [List.getElem?_set_ne h] at e;obtain⟨v,z1,z2⟩:=E.val j d e;exact⟨v,z1,z2.aU p⟩
      bld:=fun j fs e=>by
       by_cases h:i=j
       .subst h;rw [List.getElem?_set_self hi] at e;cases e
       .rw [List.getElem?_set_ne h] at e;obtain⟨b,zs,z1,z2,z3,z4,z5⟩:=E.bld j fs e;exact⟨b,zs,z1,List.mem_filter.mpr ⟨z2,decide_eq_true fun z=>by subst z;exact h (E.dis i j b ds fs hd e q1 z1)⟩,z3,z4,z5.aU p⟩
      dis:=fun j k b LM LN e1 e2 e3 e4=>by
       by_cases h:i=j
       .subst h;rw [List.getElem?_set_self hi] at e1;cases e1
       .by_cases h':i=k
        .subst h';rw [List.getElem?_set_self hi] at e2;cases e2
        .rw [List.getElem?_set_ne h] at e1;rw[List.getElem?_set_ne h'] at e2;exact E.dis j k b LM LN e1 e2 e3 e4}⟩
def F4(i:Nat)(F:FS):FS:=fun δ=>F (jf i δ)
theorem Iv{K:W.Frag}{i:Nat}{F:FS}{D:Ends}(h:sD K (F4 i F) D σ H):sD K F D σ H:=by
 obtain⟨Z,B,δ,o,E,hf,q⟩:=h;obtain⟨B1,ev,E1⟩:=E.jf i;refine⟨Z,B1,L2.jf i δ,o,E1,hf,?_⟩;cases o with
 | nx dr=>exact fun cj B' H' Bb E'=>q cj B' H' (ev.trans Bb) E'
 | rt d=>exact fun v B' H' Bb z r=>q v B' H' (ev.trans Bb) z r
theorem E9(i:Nat){F:FS}(h:pN X Hi F):pN X Hi (F4 i F):=h.imp fun D σ H h=>Iv h
def jw(f:FD):FS:=fun δ=>(f δ).bind fun d=> .ok (.rt d)
theorem Gw(he:PD X e f):Gb X (.Return (some e) pos) (jw f):=(C8 he).imp fun D σ H ⟨Z,B,δ,o,E,hf,q⟩=>by
 obtain⟨d,h1,h2⟩:=R.ab hf;cases h2;exact⟨Z,B,δ,d,E,h1,fun v H1 s1 r1=>q v B H1 (Ev.same E.zb s1) E.zb r1⟩
def Be(c:ak->R Bool)(F G:FS):FS:=fun δ=>(c δ).bind fun b=>if b then F δ else G δ
theorem Jy{fc:ak->R Bool}{F G:FS}(hc:PB X c fc)(ha:pN X a F)(hb:pN X b G):Gb X (.If c a b pos) (Be fc F G):=(Dv hc ha hb).imp fun D σ H ⟨Z,B,δ,o,E,hf,q⟩=>by
 obtain⟨k,h1,h2⟩:=R.ab hf;refine⟨Z,B,δ,k,E,h1,fun H1 s1=>?_⟩
 have q':=q.ev (Ev.same E.zb s1);cases k with
 | true=>rw [if_pos rfl] at h2;exact AV ⟨Z,B,δ,o,E.same s1,h2,q'⟩
 | false=>rw [if_neg (by decide)] at h2;exact Aj ⟨Z,B,δ,o,E.same s1,h2,q'⟩
abbrev FT:=D->ak->R ak
def gD(K:W.Frag)(t:FT):TG:=fun v σ H Q=>∃Z B δ d dr,dz K Z B H σ δ/\Rep K B H d v/\t d δ= .ok dr/\∀cj H',aI H H'->dz K Z B H' cj dr->cj.length=σ.length->Q cj H'
abbrev J0(X:Cx)(tg:Expr)(t:FT):Prop:=PG X tg (gD X.K t)
def bq(i:Nat):FT:=fun d δ=>R.bg (decide (i < δ.length)) (.ok (δ.set i (.val d)))
theorem C9{i:Nat}{pos:Pos}(hN:X.N.Nodup)(hi:X.N[i]? =some x)(hx:Loc X.env.scope x)(hf:X.fn x=true\/X.env.scope.names.lookup x=some .local:=by first | exact .inl rfl | exact .inr rfl | assumption):J0 X (.Name x pos) (bq i):=
 (yX hN hi hx hf).imp fun v σ H Q ⟨Z,B,δ,d,dr,E,r,ht,q⟩=>by
   obtain⟨hi,h⟩:=R.aP ht;cases h;exact q _ H (aI.refl H) (E.set (by rw[<-E.len];exact of_decide_eq_true hi) r) (List.length_set ..)
abbrev Bu:=List D->ak->R ak
def Rv(K:W.Frag)(t:Bu):BG:=fun vs σ H Q=>∃Z B δ ds dr,dz K Z B H σ δ/\av K B H ds vs/\t ds δ= .ok dr/\∀cj H',aI H H'->dz K Z B H' cj dr->cj.length=σ.length->Q cj H'
abbrev Dg(X:Cx)(ts:List Expr)(t:Bu):Prop:=Fv X ts (Rv X.K t)
theorem Fv.imp{X:Cx}{t t':BG}(h:Fv X e t)(w:∀v σ H Q,t' v σ H Q->t v σ H Q):Fv X e t':=fun pins s σ H v u Q I r hq=>h pins s σ H v u Q I r (w v σ H Q hq)
def pf:Bu:=fun ds δ=>match ds with | []=> .ok δ | _=> .no
def eO(t:FT)(u:Bu):Bu:=fun ds δ=>match ds with | d ::r=>(t d δ).bind fun dr=>u r dr | []=> .no
theorem BX:Dg X [] pf:=zl.imp fun vs σ H Q ⟨Z,B,δ,ds,dr,E,r,ht,q⟩=>by
 cases ds with
 | nil=>unfold av at r;cases ht;exact⟨r,q σ H (aI.refl H) E rfl⟩
 | cons=>cases ht
theorem AB{u:Bu}(h1:J0 X e t)(h2:Dg X es u)(hs:(assignEach (e ::es) X.env).map (·.2)=assign e X.env ::(assignEach es X.env).map (·.2):=by rfl):Dg X (e ::es) (eO t u):=
 (wu h1 h2 hs).imp fun vs σ H Q ⟨Z,B,δ,ds,dr,E,r,ht,q⟩=>by
   cases ds with
   | nil=>cases ht
   | cons d ds=>
     obtain⟨x,xs,rfl,r1,r2⟩:=r.bu;obtain⟨cz,h1,h2⟩:=R.ab ht;exact⟨x,xs,rfl,Z,B,δ,d,cz,E,r1,h1,fun En H1 s1 E1 l1=>⟨Z,B,cz,ds,dr,E1,r2.same s1,h2,fun rS H2 s2 E2 l2=>q rS H2 (s1.trans s2) E2 (l2.trans l1)⟩⟩
def o9(n:Nat)(t:Bu):FT:=fun d δ=>match d with | .tup ds=>R.bg (decide (ds.length=n)) (t ds δ) | _=> .no
theorem Fp{k:Nat}{t:Bu}{n:Nat}{pos:Pos}(hc:X.calm=true)(h:Dg X es t)(hn:(assignEach es X.env).length=n:=by rfl)(D5:(assignEach es X.env).findIdx? (·.1)=none:=by rfl):J0 X (.Tuple es k pos) (o9 n t):=
 (Ca hc h hn D5).imp fun v σ H Q ⟨Z,B,δ,d,dr,E,r,ht,q⟩=>by
   cases d with
   | tup ds=>
     unfold Rep at r;obtain⟨a,xs,rfl,l,r⟩:=r;obtain⟨hl,h⟩:=R.aP ht;exact⟨a,xs,rfl,l.sq,by rw[<-r.length];exact of_decide_eq_true hl,Z,B,δ,ds,dr,E,r,h,q⟩
   | _=>cases ht
def QG(f:FD)(t:FT):FS:=fun δ=>(f δ).bind fun d=>(t d δ).bind fun dr=> .ok (.nx dr)
def zF(K:W.Frag)(B:List Addr)(H:Hp)(J:It)(ds:List D):Prop:=∀B' H',cZ B H B' H'->(∀(i:Nat) (d:D),ds[i]? =some d->J.go i H'/\∀x kK,J.yld i H' x kK->(∀a∈B',∃o,H' a=some o)->aI H' kK/\Rep K B' kK d x)/\J.stop ds.length H'
def iD(K:W.Frag)(f:ak->R (List D)):TI:=fun σ H R=>∃Z B δ ds,dz K Z B H σ δ/\f δ= .ok ds/\∀J H1,aI H H1->zF K B H1 J ds->R J H1
abbrev JY(X:Cx)(tg e:Expr)(f:ak->R (List D)):Prop:=PI X tg e (iD X.K f)
def cS(f:FD):ak->R (List D):=fun δ=>(f δ).bind fun d=>match d with | .lst ds=> .ok ds | .tup ds=> .ok ds | _=> .no
theorem F8(h:PD X e f):JY X tg e (cS f):=by
 intro pins s σ H RR I ⟨Z,B,δ,ds,E,hf,q⟩;obtain⟨d,h1,h2⟩:=R.ab hf;refine du (h pins s σ H (fun v H1=>aI H H1/\Rep X.K B H1 d v) I ⟨Z,B,δ,d,E,h1,fun v H1 s1 r1=>⟨s1,r1⟩⟩) fun v s1 ⟨x,H1,I1,r1,ss,rr⟩=>?_
 cases d with
 | lst es=>
   cases h2;unfold Rep at rr;obtain⟨a,xs,rfl,l,rr⟩:=rr;cases r1;obtain⟨its,rv,p,hz⟩:=I1.list l.sq;refine wpAny_pyIter_list p.isList ?_;refine⟨s1.heap.objs.size,[s1.heap.objs.size],_,_,H1,rfl,I1.kept (t':=s1.toks) fun b o e=>Heap.get?_push_of_some _ e,tP a _,⟨_,Heap.get?_push_size _ rfl,rfl,rfl⟩,fun b hb=>?_,q _ H1 ss fun B' H' pr=>?_⟩
   .have e:b=s1.heap.objs.size:=by simpa using hb
    subst e;exact I1.pT (Nat.le_refl _) (I1.hok.fresh (Nat.le_refl _))
   .have l':rY X.K B' H' a xs:=l.aU pr;have JU:=rr.aU pr;refine⟨fun i d hd=>?_,⟨xs,l'.sq,by rw[rr.length];exact Nat.le_refl _⟩⟩
    obtain⟨x,hx,rx⟩:=JU.get hd;exact⟨⟨xs,x,l'.sq,hx⟩,fun y kK ⟨e1,e2⟩ _=>by
     subst e1;have:=e2 xs l'.sq;rw[hx] at this;cases this;exact⟨aI.refl _,rx⟩⟩
 | tup es=>
   cases h2;unfold Rep at rr;obtain⟨a,xs,rfl,l,rr⟩:=rr;cases r1;obtain⟨its,rv,p,hz⟩:=I1.tuple l.sq;refine wpAny_pyIter_tuple (show s1.heap.IsTuple a its.toArray from p) ?_
   refine⟨s1.heap.objs.size,[s1.heap.objs.size],_,_,H1,rfl,I1.kept (t':=s1.toks) fun b o e=>Heap.get?_push_of_some _ e,x4 a _,⟨_,Heap.get?_push_size _ rfl,rfl,rfl⟩,fun b hb=>?_,q _ H1 ss fun B' H' pr=>?_⟩
   .have e:b=s1.heap.objs.size:=by simpa using hb
    subst e;exact I1.pT (Nat.le_refl _) (I1.hok.fresh (Nat.le_refl _))
   .have l':tR X.K B' H' a xs:=l.elim (fun z=> .inl ⟨(pr.rd z.2 z.1).2,(pr.rd z.2 z.1).1⟩) .inr
    have JU:=rr.aU pr;refine⟨fun i d hd=>?_,⟨xs,l'.sq,by rw[rr.length];exact Nat.le_refl _⟩⟩
    obtain⟨x,hx,rx⟩:=JU.get hd;exact⟨⟨xs,x,l'.sq,hx⟩,fun y kK ⟨e1,e2⟩ _=>by
     subst e1;have:=e2 xs l'.sq;rw[hx] at this;cases this;exact⟨aI.refl _,rx⟩⟩
 | _=>cases h2
def gI(lo:Int)(n:Nat):List D:=(List.range n).map fun(i:Nat)=>D.int (lo+i)
theorem CU{K:W.Frag}{B:List Addr}(lo:Int)(n:Nat):zF K B H (K0 lo n) (gI lo n):=fun B' H' _=>by
 refine⟨fun i d hd=>?_,?_⟩
 .unfold gI at hd;rw[List.getElem?_map] at hd;cases e:(List.range n)[i]? with
  | none=>rw [e] at hd;cases hd
  | some j=>
    rw[e] at hd;cases hd;obtain⟨hi,ej⟩:=List.getElem?_eq_some_iff.mp e;rw[List.getElem_range] at ej;subst ej;rw[List.length_range] at hi;exact⟨hi,fun x kK ⟨e1,e2⟩ _=>by subst e1 e2;exact⟨aI.refl _,by unfold Rep;rfl⟩⟩
 .show n<=(gI lo n).length;unfold gI;rw[List.length_map,List.length_range];exact Nat.le_refl _
def kL(f:FD):ak->R (List D):=fun δ=>(f δ).bind fun d=>match d with | .int j=>R.bg (decide (-(2 ^ 62)<=j/\j < 2 ^ 62)) (.ok (gI 0 j.toNat)) | _=> .no
theorem xD{tg a:Expr}{p pos:Pos}(h:PD X a f)(hg:Gl X "range")(hm:X.mg "range"=none)(hs:starEach [a] X.env=[(false,eval a X.env)]:=by rfl):JY X tg (.Call (.Name "range" p) [a] [] pos) (kL f):=
 (sQ hg hm (dv h gL hs) hs).imp fun σ H RR ⟨Z,B,δ,ds,E,hf,q⟩=>by
   obtain⟨d,h1,h2⟩:=R.ab hf;cases d with
   | int j=>
     obtain⟨hb,h3⟩:=R.aP h2;cases h3;have hb:=of_decide_eq_true hb;refine⟨Z,B,δ, .int j,E,h1,fun v H1 s1 r1=>⟨j,?_,hb.1,hb.2,q _ H1 s1 (CU 0 _)⟩⟩
     unfold Rep at r1;rw[r1]
   | _=>cases h2
def NB(f g:FD):ak->R (List D):=fun δ=>(f δ).bind fun d=>(g δ).bind fun e=>match d,e with
 | .int i, .int j=>R.bg (decide (-(2 ^ 62)<=i/\i < 2 ^ 62/\ -(2 ^ 62)<=j/\j < 2 ^ 62)) (.ok (gI i (j - i).toNat)) | _,_=> .no
def o4(t:FT)(body:FS):List D->FS
 | [],δ=> .ok (.nx δ)
 | d ::ds,δ=>(t d δ).bind fun cz=>(body cz).bind fun o=>match o with | .nx d7=>o4 t body ds d7 | .rt r=> .ok (.rt r)
def yB(it:ak->R (List D))(t:FT)(body:FS):FS:=fun δ=>(it δ).bind fun ds=>o4 t body ds δ
theorem FH{tg iter:Expr}{body:List Stmt}{it:ak->R (List D)}{t:FT}{F:FS}{pos:Pos}(hp:PassesOwn (model X.prog X.w) X.A X.env X.xe)(hc:X.calm=true)(hi:JY X tg iter it)(hg:J0 X tg t)(hb:pN X body F)
 (hs:∀x,foldedSetIterable iter X.env x=pure x:=by intro _;rfl):Gb X (.For tg iter body [] pos) (yB it t F):=(yh hp hc hi hg hb hs).imp fun D σ H ⟨Z,B,δ,o,E,hf,q⟩=>by
 obtain⟨ds,h1,h2⟩:=R.ab hf;refine⟨Z,B,δ,ds,E,h1,fun J H1 s1 ir=>?_⟩
 refine⟨fun i m cj H'=>m=ds.length - i/\i<=ds.length/\∃B' dr,Ev Z B H1 B' H'/\dz X.K Z B' H' cj dr/\o4 t F (ds.drop i) dr= .ok o,⟨ds.length,rfl,Nat.zero_le _,B,δ,Ev.refl Z B H1 E.zb,E.same s1,by simpa using h2⟩,?_⟩
 rintro i m cj H' ⟨rfl,hi,B',dr,ev,E',hl⟩;obtain⟨go,stop⟩:=ir B' H' ev.aU;by_cases hlt:i < ds.length
 .have hd:ds[i]? =some ds[i]:=List.getElem?_eq_getElem hlt;have hdrop:ds.drop i=ds[i] ::ds.drop (i+1):=List.drop_eq_getElem_cons hlt;rw[hdrop] at hl;obtain⟨cz,h3,h4⟩:=R.ab hl;obtain⟨o1,h5,h6⟩:=R.ab h4;obtain⟨g1,g2⟩:=go i _ hd;refine .inr ⟨g1,fun rS H2=>∃B2 d7,Ev Z B H1 B2 H2/\dz X.K Z B2 H2 rS d7/\o4 t F (ds.drop (i+1)) d7= .ok o,fun rS H2 n=>⟨ds.length - (i+1),by omega,rfl,hlt,n⟩,fun x kK y=>?_⟩
  obtain⟨ss,rr⟩:=g2 x kK y E'.bs;refine⟨Z,B',dr,ds[i],cz,E'.same ss,rr,h3,fun rS H2 s2 E2 l2=>⟨Z,B',cz,o1,E2,h5,?_⟩⟩
  have ev2:Ev Z B H1 B' H2:=ev.trans (Ev.same E'.zb (ss.trans s2));cases o1 with
  | nx d7=>exact fun xm B3 H3 NZ E3=>⟨B3,d7,ev2.trans NZ,E3,h6⟩
  | rt d=>
    cases h6;exact fun v B3 H3 NZ z r=>q v B3 H3 ((Ev.same E.zb s1).trans (ev2.trans NZ)) z r
 .have e:i=ds.length:=by omega
  subst e;rw[List.drop_length] at hl;cases hl;exact .inl ⟨stop,q cj B' H' ((Ev.same E.zb s1).trans ev) E'⟩
def C7(c:ak->R Bool)(body:FS):Nat->FS
 | 0,_=> .no
 | n+1,δ=>(c δ).bind fun b=>if b then(body δ).bind fun o=>match o with | .nx d7=>C7 c body n d7 | .rt r=> .ok (.rt r) else .ok (.nx δ)
def Np(n:Nat)(c:ak->R Bool)(body:FS):FS:=fun δ=>C7 c body n δ
def rf(δ:ak)(i:Nat):Sl:=match δ[i]? with | some (.val d)=> .val d | _=> .un
def sd(own:List Str)(kp:List Nat)(δ:ak):ak:=List.replicate own.length .un++kp.map (rf δ)
def nH(t:FT)(c:ak->R Bool)(f:FD)(δ:ak):List D->R (List D)
 | []=> .ok []
 | d ::ds=>(t d δ).bind fun cz=>(c cz).bind fun b=>if b then(f cz).bind fun y=>(nH t c f δ ds).bind fun ys=> .ok (y ::ys) else nH t c f δ ds
def ef(it:ak->R (List D))(t:FT)(c:ak->R Bool)(f:FD)(own:List Str)(kp:List Nat):ak->R (List D):=fun δ=>(it δ).bind fun ds=>R.bg (decide (ds.length<=sizeLine)) (nH t c f (sd own kp δ) ds)
theorem Iz{K:W.Frag}{Z B B':List Addr}{H H':Hp}{δ:ak}{own:List Str}{kp:List Nat}(E:dz K Z B H σ δ)(p:cZ B H B' H')(hB:∀a∈B',∃o,H' a=some o):dz K [] B' H' (cX own kp σ) (sd own kp δ) where
 len:=by unfold cX sd;simp
 bs:=hB
 zb:=fun a ha=>by cases ha
 val:=fun i d e=>by
  unfold sd at e;unfold cX;by_cases hi:i < own.length
  .rw [List.getElem?_append_left (by simpa using hi),List.getElem?_replicate] at e
   split at e <;> cases e
  .rw [List.getElem?_append_right (by simpa using hi),List.length_replicate,List.getElem?_map] at e ⊢
   cases q:kp[i - own.length]? with
   | none=>rw [q] at e;cases e
   | some j=>
     rw[q] at e;have e:rf δ j= .val d:=Option.some.inj e;unfold rf at e;split at e
     .rename_i d' ed;cases e;obtain⟨v,h1,h2⟩:=E.val j d ed;exact⟨v,by simp [h1],h2.aU p⟩
     .cases e
 bld:=fun i ds e=>by
  unfold sd at e;by_cases hi:i < own.length
  .rw [List.getElem?_append_left (by simpa using hi),List.getElem?_replicate] at e
   split at e <;> cases e
  .rw [List.getElem?_append_right (by simpa using hi),List.length_replicate,List.getElem?_map] at e
   cases q:kp[i - own.length]? with
   | none=>rw [q] at e;cases e
   | some j=>
     rw[q] at e;have e:rf δ j= .bld ds:=Option.some.inj e;unfold rf at e;split at e <;> cases e
 dis:=fun i j a ds es e=>by
  unfold sd at e;by_cases hi:i < own.length
  .rw [List.getElem?_append_left (by simpa using hi),List.getElem?_replicate] at e
   split at e <;> cases e
  .rw [List.getElem?_append_right (by simpa using hi),List.length_replicate,List.getElem?_map] at e
   cases q:kp[i - own.length]? with
   | none=>rw [q] at e;cases e
   | some j=>
     rw[q] at e;have e:rf δ j= .bld ds:=Option.some.inj e;unfold rf at e;split at e <;> cases e
theorem EV{K:W.Frag}{it:ak->R (List D)}{c:ak->R Bool}{own:List Str}{kp:List Nat}{Q:VK}(h:tN K (ef it t c f own kp) σ H Q) :
 y9 (iD K it) (gD K t) (IB K c) (tD K f) own kp σ H Q:=by
 obtain⟨Z,B,δ,ds,E,hf,q⟩:=h;obtain⟨es,h1,h2⟩:=R.ab hf;obtain⟨hl,h3⟩:=R.aP h2;have hl:=of_decide_eq_true hl;refine⟨Z,B,δ,es,E,h1,fun J H1 s1 ir Dd hD=>?_⟩
 have E1:=E.same s1;have pD:cZ B H1 (Dd ::B) (upd H1 Dd (.lst [])):=wG hD;refine⟨fun i m ys H'=>m=es.length - i/\i<=es.length/\ys.length<=i/\H' Dd=some (.lst ys)/\aI H1 H'/\∃done rest,ds=done++rest/\av K (Dd ::B) H' done ys/\nH t c f (sd own kp δ) (es.drop i)= .ok rest,
  ⟨es.length,rfl,Nat.zero_le _,Nat.le_refl _,aL,aC hD,[],ds,rfl,av.nil,by simpa using h3⟩,?_⟩
 rintro i m ys H' ⟨rfl,hi,hy,hDl,ss,done,rest,rfl,rd,hc⟩;have dB:Dd ∉ B:=fun hb=>by obtain⟨o,ho⟩:=E1.bs Dd hb;rw [hD] at ho;cases ho
 have p':cZ B H1 (Dd ::B) H':=fun b o e nb=>⟨ss b o e,fun hb=>by
  rcases List.mem_cons.mp hb with z | z
  .exact bR e hD z
  .exact nb z⟩
 have DZ:∀a∈Dd ::B,∃o,H' a=some o:=fun a ha=>by
  rcases List.mem_cons.mp ha with z | z
  .subst z;exact⟨_,hDl⟩
  .obtain⟨o,ho⟩:=E1.bs a z;exact⟨o,ss a o ho⟩
 obtain⟨go,stop⟩:=ir (Dd ::B) H' p';by_cases hlt:i < es.length
 .have hd:es[i]? =some es[i]:=List.getElem?_eq_getElem hlt;have hdrop:es.drop i=es[i] ::es.drop (i+1):=List.drop_eq_getElem_cons hlt;rw[hdrop] at hc;obtain⟨cz,h4,h5⟩:=R.ab hc;obtain⟨b,h6,h7⟩:=R.ab h5;obtain⟨g1,g2⟩:=go i _ hd;refine .inr ⟨g1,fun x H2 y=>?_⟩
  obtain⟨sy,ry⟩:=g2 x H2 y DZ;have Ec:dz K [] (Dd ::B) H2 (cX own kp σ) (sd own kp δ):=Iz E1 (p'.trans (cZ.same sy)) fun a ha=>let⟨o,ho⟩:=DZ a ha;⟨o,sy a o ho⟩
  refine⟨[],Dd ::B,sd own kp δ,es[i],cz,Ec,ry,h4,fun xm H3 s3 E3 _=>⟨[],Dd ::B,cz,b,E3,h6,fun H4 s4=>?_⟩⟩
  have sAll:aI H' H4:=sy.trans (s3.trans s4);cases b with
  | true=>
    rw[if_pos rfl] at h7;refine AV ?_;obtain⟨yv,h8,h9⟩:=R.ab h7;obtain⟨rs,LJ,Ob⟩:=R.ab h9;cases Ob;refine⟨[],Dd ::B,cz,yv,E3.same s4,h8,fun v H5 s5 r5=>?_⟩
    have s':aI H' H5:=sAll.trans s5;have Oz:H5 Dd=some (.lst ys):=s' Dd _ hDl;have pu:cZ (Dd ::B) H5 (Dd ::B) (upd H5 Dd (.lst (ys++[v]))):=fun b o e nb=>⟨by rw[aQ (fun(z:b=Dd)=>nb (by rw[z];exact List.mem_cons_self))];exact e,nb⟩
    refine⟨Oz,by omega,es.length - (i+1),by omega,rfl,hlt,by rw[List.length_append,List.length_singleton];omega,aL,fun b o e=>?_,done++[yv],rs,by simp,((rd.same s').append (av.cons r5 av.nil)).aU pu,LJ⟩
    rw[aQ (bR e hD)];exact s' b o (ss b o e)
  | false=>
    rw[if_neg (by decide)] at h7
    refine Aj ?_;exact⟨es.length - (i+1),by omega,rfl,hlt,by omega,sAll Dd _ hDl,ss.trans sAll,done,rest,rfl,rd.same sAll,h7⟩
 .have e:i=es.length:=by omega
  subst e;rw[List.drop_length] at hc;cases hc;rw[List.append_nil] at q;exact .inl ⟨stop,q Dd ys H' (s1.trans ss) (s1.free hD) hDl rd⟩
theorem Gx{scope:Scope}{own:List Str}{kp:List Nat}{kn:List Str}{tg iter elt:Expr}{ifs:List Expr}{it:ak->R (List D)}{t:FT}{c:ak->R Bool}{f:FD}{pos:Pos}(hc:X.calm=true)(C:bL X scope own kp kn)(hi:JY X tg iter it)
 (hg:∀fp s H,J0 (bp X scope (own++kn) fp s H) tg t) (DX:∀fp s H,oy (bp X scope (own++kn) fp s H) ifs (IB X.K c)) (he:∀fp s H,PD (bp X scope (own++kn) fp s H) elt f)
 (hs:∀x,foldedSetIterable iter X.env x=pure x:=by intro _;rfl):PN X (.ListComp elt [⟨tg,iter,ifs,0⟩] scope pos) (ef it t c f own kp):=
 (zK hc C hi hg DX he hs).imp fun σ H Q h=>EV h
def k8:ak->R Bool:=fun _=> .ok true
theorem By:oy X [] (IB X.K k8):=fun pins s σ H Q I ⟨Z,B,δ,b,E,hf,q⟩=>wm pins s σ H Q I (by cases hf;exact q H (aI.refl H))
theorem F_{c:ak->R Bool}(h:PB X e c):oy X [e] (IB X.K c):=v8 h
end
def fP(N:List Str)(ds:List D):ak:=ds.map .val++List.replicate (N.length - ds.length) .un
def wz(N:List Str)(F:FS):List D->R D:=fun ds=>(F (fP N ds)).bind fun o=>match o with | .rt d=> .ok d | .nx _=> .ok .bQ
theorem EN{K:W.Frag}{B:List Addr}{H:Hp}{N:List Str}{ds:List D}{vs:List V}(hB:∀a∈B,∃o,H a=some o)(r:av K B H ds vs):dz K B B H (start N vs) (fP N ds) where
 len:=by unfold start fP;simp [r.length]
 bs:=hB
 zb:=fun a ha=>ha
 val:=fun i d e=>by
  unfold fP at e;unfold start;by_cases hi:i < ds.length
  .rw [List.getElem?_append_left (by simpa using hi),List.getElem?_map] at e
   cases q:ds[i]? with
   | none=>rw [q] at e;cases e
   | some d'=>
     rw[q] at e;cases e;obtain⟨x,h1,h2⟩:=r.get q;exact⟨x,by rw[List.getElem?_append_left (by rw[List.length_map,<-r.length];exact hi),List.getElem?_map,h1];rfl,h2⟩
  .rw [List.getElem?_append_right (by simpa using hi),List.getElem?_replicate] at e
   split at e <;> cases e
 bld:=fun i es e=>by
  unfold fP at e;by_cases hi:i < ds.length
  .rw [List.getElem?_append_left (by simpa using hi),List.getElem?_map] at e
   cases q:ds[i]? with
   | none=>rw [q] at e;cases e
   | some d'=>rw [q] at e;cases e
  .rw [List.getElem?_append_right (by simpa using hi),List.getElem?_replicate] at e
   split at e <;> cases e
 dis:=fun i j a es fs e=>by
  unfold fP at e;by_cases hi:i < ds.length
  .rw [List.getElem?_append_left (by simpa using hi),List.getElem?_map] at e
   cases q:ds[i]? with
   | none=>rw [q] at e;cases e
   | some d'=>rw [q] at e;cases e
  .rw [List.getElem?_append_right (by simpa using hi),List.getElem?_replicate] at e
   split at e <;> cases e
theorem Ft{P:Program}{w:World}{K:W.Frag}{mg:Ut}{base:Heap}{x qual:Str}{st:Stmt}{f:Addr}{fd:FuncData}{N ps:List Str}{k:Nat}{F:FS}(Fn:zk K x qual st f fd)(S:aY N ps (ax st))
 (j1:∀(dI:Value) (A:Around) (outer:List Env) (s:Shared) (H:Hp) (E:XK),dQ k (A.deeper (envOfC qual (ax st) s.heap.objs.size f dI))->
   pN (qm rZ P w K mg base N qual (ax st) f dI A outer s H E).F6 (aJ st) F):gH P w K mg base rZ (k+1) f fd ps (Dz K ps.length (wz N F)):=by
 refine Fn.ok S (fun vs H Q E h=>h.1) (fun dI A outer s H vs Q E hr h=>⟨_,j1 dI A outer s H E hr,?_⟩)
 obtain⟨_,B,ds,d,hB,r,hg,q⟩:=h;obtain⟨o,h1,h2⟩:=R.ab hg;refine⟨B,B,fP N ds,o,EN hB r,h1,?_⟩;have sm:∀{B':List Addr} {H':Hp},Ev B B H B' H'->aI H H':=fun {B' H'} ev b u e=>by
  by_cases hb:b∈B
  .exact(ev.zs b u e hb).1
  .exact(ev.aU b u e hb).1
 cases o with
 | nx dr=>
   cases h2;exact fun cj B' H' ev _=>q _ H' (sm ev) (by unfold Rep;rfl)
 | rt d'=>
   cases h2;exact fun v B' H' ev z rr=>q v H' (sm ev) (rr.aU fun b o e nb=>⟨e,fun hb=>nb (z b hb)⟩)
end L2
end
section
namespace L2
open PySem PySem.Spec PyProof.Rows
theorem Rep.int{K:W.Frag}{B:List Addr}{i:Int}{v:V}:Rep K B H (.int i) v↔v= .int i:=by unfold Rep;exact Iff.rfl
theorem Rep.bl{K:W.Frag}{B:List Addr}{i:Bool}{v:V}:Rep K B H (.bl i) v↔v= .bl i:=by unfold Rep;exact Iff.rfl
theorem Rep.str{K:W.Frag}{B:List Addr}{v:V}:Rep K B H (.str i) v↔v= .str i:=by unfold Rep;exact Iff.rfl
theorem Rep.bQ{K:W.Frag}{B:List Addr}{v:V}:Rep K B H .bQ v↔v= .bQ:=by unfold Rep;exact Iff.rfl
theorem Rep.lst{K:W.Frag}{B:List Addr}{ds:List D}{v:V}:Rep K B H (.lst ds) v↔∃a xs,v= .ref a/\rY K B H a xs/\av K B H ds xs:=by rw[Rep]
theorem Rep.tup{K:W.Frag}{B:List Addr}{ds:List D}{v:V}:Rep K B H (.tup ds) v↔∃a xs,v= .ref a/\tR K B H a xs/\av K B H ds xs:=by rw[Rep]
section
variable {X:Cx}
theorem jv.of{f:Value->Value->Sem Value}{r:R2}{g:D->D->R D}(h:kD X f r)
 (w:∀(B:List Addr) (H:Hp) (da db d:D) (x y:V) (Q:VK),(∀a∈B,∃o,H a=some o)->Rep X.K B H da x->Rep X.K B H db y->g da db= .ok d->(∀z H',aI H H'->Rep X.K B H' d z->Q z H')->r x y H Q):jv X f g:=by
 intro pins s σ H B da db d x y v u I hb rx ry ra rb hg;exact h pins s σ H x y v u _ I rx ry (w B H da db d x y _ hb ra rb hg fun z H' s1 r1=>⟨s1,r1⟩)
theorem cM.of{f:Value}{r:List V->Hp->VK->Prop}{g:List D->R D}(h:kC X f r)
 (w:∀(B:List Addr) (H:Hp) (ds:List D) (d:D) (xs:List V) (Q:VK),(∀a∈B,∃o,H a=some o)->av X.K B H ds xs->g ds= .ok d->(∀z H',aI H H'->Rep X.K B H' d z->Q z H')->r xs H Q):cM X f g:=by
 intro pins s σ H B ds d xs us I hb rx rs hg;exact h pins s σ H xs us _ I rx (w B H ds d xs _ hb rs hg fun z H' s1 r1=>⟨s1,r1⟩)
theorem cM.or{f:Value}{g g1 g2:List D->R D}(h1:cM X f g1)(h2:cM X f g2)(e:∀a d,g a= .ok d->g1 a= .ok d\/g2 a= .ok d):cM X f g:=by
 intro pins s σ H B ds d xs us I hb rx rs hg;rcases e ds d hg with q | q
 .exact h1 pins s σ H B ds d xs us I hb rx rs q
 .exact h2 pins s σ H B ds d xs us I hb rx rs q
def vx(C:Int->Int->Bool)(g:Int->Int->Int):D->D->R D
 | .int i, .int j=>R.bg (C i j) (.ok (.int (g i j)))
 | _,_=> .no
theorem za{f:Value->Value->Sem Value}{C:Int->Int->Bool}{Cp:Int->Int->Prop}{g:Int->Int->Int}(h:kD X f (rI Cp fun i j=> .int (g i j)))(hc:∀i j,C i j=true->Cp i j):jv X f (vx C g):=
 jv.of h fun B H da db d x y Q _ ra rb hg q=>by
  unfold vx at hg;split at hg
  .obtain⟨h1,h2⟩:=R.aP hg;cases h2;exact⟨_,_,Rep.int.mp ra,Rep.int.mp rb,hc _ _ h1,q _ H (aI.refl H) (Rep.int.mpr rfl)⟩
  .cases hg
def AA(g:Int->Int->Int):D->D->R D
 | .int i, .int j=> .ok (.int (g i j))
 | _,_=> .no
theorem vj{f:Value->Value->Sem Value}{g:Int->Int->Int}(h:kD X f (Bd fun i j=> .int (g i j))):jv X f (AA g):=
 jv.of h fun B H da db d x y Q _ ra rb hg q=>by
  unfold AA at hg;split at hg
  .cases hg;exact⟨_,_,Rep.int.mp ra,Rep.int.mp rb,q _ H (aI.refl H) (Rep.int.mpr rfl)⟩
  .cases hg
def Av(g:Int->Int->Bool):D->D->R D
 | .int i, .int j=> .ok (.bl (g i j))
 | _,_=> .no
theorem Dq{f:Value->Value->Sem Value}{g:Int->Int->Bool}(h:kD X f (Bd fun i j=> .bl (g i j))):jv X f (Av g):=
 jv.of h fun B H da db d x y Q _ ra rb hg q=>by
  unfold Av at hg;split at hg
  .cases hg;exact⟨_,_,Rep.int.mp ra,Rep.int.mp rb,q _ H (aI.refl H) (Rep.bl.mpr rfl)⟩
  .cases hg
abbrev xc:D->D->R D:=AA fun i j=>i - j
theorem rm:jv X (binaryOp .Sub) xc:=vj Jd
abbrev vK:D->D->R D:=vx (fun _ j=>decide (0 < j/\j < 1073741824)) fun i j=>i / j
theorem Dx:jv X (binaryOp .FloorDiv) vK:=za Ge fun i j h=>(of_decide_eq_true h:0 < j/\j < 1073741824)
abbrev qM:D->D->R D:=vx (fun _ j=>decide (0 < j)) fun i j=>i % j
theorem tF:jv X (binaryOp .Mod) qM:=za Jk fun i j h=>of_decide_eq_true h
abbrev KC:D->D->R D:=vx (fun i j=>decide (0<=j/\j<=1000000/\i.natAbs < 2 ^ 64)) fun i j=>i ^ j.toNat
theorem K4:jv X (binaryOp .Pow) KC:=za HZ fun i j h=>(of_decide_eq_true h:0<=j/\j<=1000000/\i.natAbs < 2 ^ 64)
abbrev QS:D->D->R D:=vx (fun _ j=>decide (0<=j)) fun i j=>i / 2 ^ j.toNat
abbrev EX:D->D->R D:=AA fun i j=>Builtin.bitAnd i j
theorem x_:jv X (binaryOp .BitAnd) EX:=vj Jl
abbrev Em:D->D->R D:=AA fun i j=>Builtin.bitOr i j
theorem vI:jv X (binaryOp .BitOr) Em:=vj Kj
abbrev z6:D->D->R D:=AA fun i j=>Builtin.bitXor i j
theorem sf:jv X (binaryOp .BitXor) z6:=vj Ic
abbrev T6:D->D->R D:=Av fun i j=>decide (i < j)
abbrev GO:D->D->R D:=Av fun i j=>decide (i<=j)
theorem Ir:jv X (compareOp .LtE) GO:=Dq Lu
abbrev KH:D->D->R D:=Av fun i j=>decide (j < i)
theorem Iy:jv X (compareOp .Gt) KH:=Dq Ls
abbrev O0:D->D->R D:=Av fun i j=>decide (j<=i)
theorem Nh:jv X (compareOp .GtE) O0:=Dq Ke
theorem rY.mi{K:W.Frag}{B:List Addr}{H:Hp}{a:Addr}{xs:List V}(h:H a=some (.lst xs))(n:a ∉ B):rY K B H a xs:= .inl ⟨n, .inl h⟩
theorem Inv.GV{pins:Um}{s:Shared}{a:Addr}{xs:List V}{B:List Addr}(I:Inv X pins σ H s)(h:rY X.K B H a xs):∃(its:List Value) (n:Nat),Vals xs its/\s.heap.get? a=some {cls:= .type "list",data:= .seq its.toArray n}/\xs.length<=sizeLine:=by
 rcases h with⟨_,h⟩ | ⟨its,n,hk,hz,r⟩
 .obtain⟨z,its,n,r,e⟩:=h.ok I.hok;exact⟨its,n,r,e,z⟩
 .exact⟨its,n,r,I.n0 a _ hk,hz⟩
theorem Fh:kD X (binaryOp .Add) (fun x y H Q=>∃B l b xs zs,x= .ref l/\y= .ref b/\rY X.K B H l xs/\rY X.K B H b zs/\xs.length+zs.length<=sizeLine/\∀p,H p=none->Q (.ref p) (upd H p (.lst (xs++zs)))):=by
 intro pins s σ H x y v u Q I rx ry h;obtain⟨B,l,b,xs,zs,rfl,rfl,hH,hB,hz,q⟩:=h;cases rx;cases ry;obtain⟨its,n,r,e,_⟩:=I.GV hH;obtain⟨GI,n2,r2,e2,_⟩:=I.GV hB;have l1:=r.length;have l2:=r2.length;refine PySem.P.add_list e e2 ?_ (by rw[List.size_toArray,List.size_toArray];omega)
 have ea:its.toArray++GI.toArray=(its++GI).toArray:=by simp
 rw[ea];exact⟨.ref _,_,I.EY (t':=s.toks) (r.append r2) (by rw[List.length_append];omega),rfl,q _ I.fresh⟩
def gA:D->D->R D
 | .int i, .int j=> .ok (.int (i+j))
 | .str a, .str b=>R.bg (decide (a.length+b.length<=sizeLine)) (.ok (.str (a++b)))
 | .lst a, .lst b=>R.bg (decide (a.length+b.length<=sizeLine)) (.ok (.lst (a++b)))
 | _,_=> .no
theorem jb:jv X (binaryOp .Add) gA:=by
 intro pins s σ H B da db d x y v u I hb rx ry ra rb hg;unfold gA at hg;split at hg
 .cases hg;exact HM pins s σ H x y v u _ I rx ry ⟨_,_,Rep.int.mp ra,Rep.int.mp rb,aI.refl H,Rep.int.mpr rfl⟩
 .obtain⟨h1,h2⟩:=R.aP hg;cases h2;exact xN pins s σ H x y v u _ I rx ry ⟨_,_,Rep.str.mp ra,Rep.str.mp rb,of_decide_eq_true h1,aI.refl H,Rep.str.mpr rfl⟩
 .obtain⟨h1,h2⟩:=R.aP hg;cases h2;obtain⟨a1,N3,rfl,l1,r1⟩:=Rep.lst.mp ra;obtain⟨a2,Oh,rfl,l2,r2⟩:=Rep.lst.mp rb;refine Fh pins s σ H _ _ v u _ I rx ry ⟨B,a1,a2,N3,Oh,rfl,rfl,l1,l2,by rw[<-r1.length,<-r2.length];exact of_decide_eq_true h1,fun p hp=>⟨aC hp,Rep.lst.mpr ⟨p,_,rfl, .mi aL fun ha=>?_,(r1.append r2).same (aC hp)⟩⟩⟩
  obtain⟨o,ho⟩:=hb p ha;rw[hp] at ho;cases ho
 .cases hg
theorem Gd:kD X (binaryOp .Mult) (fun x y H Q=>∃z n,x= .str z/\y= .int n/\MulOk z n/\Q (.str (Txt.mul z n)) H):=by
 intro pins s σ H x y v u Q I rx ry h;obtain⟨z,n,rfl,rfl,hm,q⟩:=h;obtain⟨t,rfl⟩:=rx;obtain⟨t',rfl⟩:=ry;exact SB.mul hm fun t2 k=>⟨.str _,H,I.tok _,⟨_,rfl⟩,q⟩
end
end L2
end
section
namespace L2
open PySem PySem.Spec PyProof.Rows
section
variable {X:Cx}
theorem mulOk_of{x:Str}{n:Int}(h1: -(2 ^ 63)<=n)(h2:n < 2 ^ 63)(h3:x.length*n.toNat<=sizeLine):MulOk x n:=by
 refine⟨by simp only[Bool.or_eq_false_iff,decide_eq_false_iff_not];omega,fun hn _=>?_,fun hn _=>?_⟩
 .have hz:sizeLine=16777216:=sizeLine_eq;have e:(n.toNat:Int)=n:=by omega
  have h4:(x.length:Int)*n<=16777216:=by
   have:((x.length*n.toNat:Nat):Int)<=((16777216:Nat):Int):=Int.ofNat_le.mpr (by omega)
   rw[Int.natCast_mul,e] at this;exact this
  have:(x.length:Int)<=(2 ^ 63 - 1) / n:=(Int.le_ediv_iff_mul_le (by omega)).mpr (by omega)
  omega
 .unfold Builtin.Str.tooLong;exact decide_eq_false (by omega)
def lX:D->D->R D
 | .int i, .int j=>R.bg (decide ((-(2 ^ 64) < i/\i < 2 ^ 64)\/(-(2 ^ 64) < j/\j < 2 ^ 64))) (.ok (.int (i*j)))
 | .str x, .int n=>R.bg (decide (-(2 ^ 63)<=n/\n < 2 ^ 63/\x.length*n.toNat<=sizeLine)) (.ok (.str (Txt.mul x n)))
 | _,_=> .no
theorem tj:jv X (binaryOp .Mult) lX:=by
 intro pins s σ H B da db d x y v u I hb rx ry ra rb hg;unfold lX at hg;split at hg
 .obtain⟨h1,h2⟩:=R.aP hg;cases h2;have h1:=of_decide_eq_true h1;exact Iw pins s σ H x y v u _ I rx ry ⟨_,_,Rep.int.mp ra,Rep.int.mp rb,h1,aI.refl H,Rep.int.mpr rfl⟩
 .obtain⟨h1,h2⟩:=R.aP hg;cases h2;have h1:=of_decide_eq_true h1;exact Gd pins s σ H x y v u _ I rx ry ⟨_,_,Rep.str.mp ra,Rep.int.mp rb,mulOk_of h1.1 h1.2.1 h1.2.2,aI.refl H,Rep.str.mpr rfl⟩
 .cases hg
mutual
def toPy:D->PyData
 | .bQ=> .none
 | .bl b=> .bool b
 | .int i=> .int i
 | .str x=> .str x
 | .lst ds=> .list (kx ds)
 | .tup ds=> .tuple (kx ds)
 | .dct _ _=> .dict []
def kx:List D->List PyData
 | []=>[]
 | d ::ds=>toPy d ::kx ds
end
mutual
def eG:D->Bool
 | .dct _ _=>false
 | .lst ds=>i9 ds
 | .tup ds=>i9 ds
 | _=>true
def i9:List D->Bool
 | []=>true
 | d ::ds=>eG d && i9 ds
end
mutual
theorem Rep.reads{pins:Um}{s:Shared}{B:List Addr}(I:Inv X pins σ H s):∀{d:D} {v:V} {u:Value},eG d=true->Rep X.K B H d v->RelV v u->∃as,Reads s.heap u (toPy d) as
 | .bQ,v,u,_,r,q=>by rw[Rep.bQ.mp r] at q;cases q;unfold toPy;exact⟨_, .none⟩
 | .bl b,v,u,_,r,q=>by rw[Rep.bl.mp r] at q;cases q;unfold toPy;exact⟨_, .bool b⟩
 | .int i,v,u,_,r,q=>by rw[Rep.int.mp r] at q;obtain⟨t,rfl⟩:=q;unfold toPy;exact⟨_, .int i t⟩
 | .str x,v,u,_,r,q=>by rw[Rep.str.mp r] at q;obtain⟨t,rfl⟩:=q;unfold toPy;exact⟨_, .str x t⟩
 | .lst ds,v,u,hp,r,q=>by
   obtain⟨a,xs,rfl,l,rs⟩:=Rep.lst.mp r;cases q;obtain⟨its,rv,⟨o,n,e,hc,hd,he⟩,_⟩:=I.list l.sq;obtain⟨as,ra⟩:=av.reads I (by unfold eG at hp;exact hp) rs rv
   unfold toPy;exact⟨_, .list e hc he (by simpa using ra)⟩
 | .tup ds,v,u,hp,r,q=>by
   obtain⟨a,xs,rfl,l,rs⟩:=Rep.tup.mp r;cases q;obtain⟨its,rv,⟨o,e,hc,n,hd⟩,_⟩:=I.tuple l.sq;obtain⟨as,ra⟩:=av.reads I (by unfold eG at hp;exact hp) rs rv
   unfold toPy;exact⟨_, .tuple e hc hd (by simpa using ra)⟩
 | .dct _ _,v,u,hp,r,q=>by unfold eG at hp;cases hp
theorem av.reads{pins:Um}{s:Shared}{B:List Addr}(I:Inv X pins σ H s):∀{ds:List D} {vs:List V} {us:List Value},i9 ds=true->av X.K B H ds vs->Vals vs us->∃as,ReadsAll s.heap us (kx ds) as
 | [],vs,us,_,r,q=>by unfold av at r;subst r;cases q;unfold kx;exact⟨_, .nil⟩
 | d ::ds,vs,us,hp,r,q=>by
   obtain⟨x,xs,rfl,r1,r2⟩:=r.bu;cases q with
   | cons q1 q2=>
     unfold i9 at hp;obtain⟨h1,h2⟩:=Bool.and_eq_true_iff.mp hp;obtain⟨as,a1⟩:=Rep.reads I h1 r1 q1;obtain⟨bs,a2⟩:=av.reads I h2 r2 q2;unfold kx;exact⟨_, .cons a1 a2⟩
end
def Ej:D->D->R Bool
 | .int i, .int j=> .ok (decide (i=j))
 | .str x, .str y=> .ok (decide (x=y))
 | .bl a, .bl b=> .ok (decide (a=b))
 | d,e=>R.bg (eG d && eG e && SeqAt.shaped (toPy d) && SeqAt.shaped (toPy e)) (.ok (PyData.eqv (toPy d) (toPy e)))
def r6(d e:D):R D:=(Ej d e).bind fun b=> .ok (.bl b)
def Fg(d e:D):R D:=(Ej d e).bind fun b=> .ok (.bl (!b))
theorem qC(hu:X.A.units+64 < cLine):jv X (compareOp .Eq) r6:=by
 intro pins s σ H B da db d x y v u I hb rx ry ra rb hg;obtain⟨b,h1,h2⟩:=R.ab hg;cases h2;unfold Ej at h1;split at h1
 .cases h1;rename_i i j;have:=Co pins s σ H x y v u (fun z H'=>aI H H'/\Rep X.K B H' (.bl (decide (i=j))) z) I rx ry
  rw[Rep.int.mp ra,Rep.int.mp rb] at this;refine this ⟨rfl,aI.refl H,Rep.bl.mpr ?_⟩;simp [V.int.injEq]
 .cases h1;rename_i i j;have:=Co pins s σ H x y v u (fun z H'=>aI H H'/\Rep X.K B H' (.bl (decide (i=j))) z) I rx ry
  rw[Rep.str.mp ra,Rep.str.mp rb] at this;refine this ⟨rfl,aI.refl H,Rep.bl.mpr ?_⟩;simp [V.str.injEq]
 .cases h1;rename_i i j;have:=Co pins s σ H x y v u (fun z H'=>aI H H'/\Rep X.K B H' (.bl (decide (i=j))) z) I rx ry
  rw[Rep.bl.mp ra,Rep.bl.mp rb] at this;refine this ⟨rfl,aI.refl H,Rep.bl.mpr ?_⟩;simp [V.bl.injEq]
 .obtain⟨h3,h4⟩:=R.aP h1;cases h4;simp only[Bool.and_eq_true] at h3;obtain⟨⟨⟨p1,p2⟩,s1⟩,s2⟩:=h3;obtain⟨as,r1⟩:=ra.reads I p1 rx;obtain⟨bs,r2⟩:=rb.reads I p2 ry;exact eq_dataH r1 r2 s1 s2 hu ⟨.bl _,H,I,rfl,aI.refl H,Rep.bl.mpr rfl⟩
theorem Jf(hu:X.A.units+64 < cLine):jv X (compareOp .NotEq) Fg:=by
 intro pins s σ H B da db d x y v u I hb rx ry ra rb hg;obtain⟨b,h1,h2⟩:=R.ab hg;cases h2;unfold Ej at h1;split at h1
 .cases h1;rename_i i j;have:=DD pins s σ H x y v u (fun z H'=>aI H H'/\Rep X.K B H' (.bl (!decide (i=j))) z) I rx ry
  rw[Rep.int.mp ra,Rep.int.mp rb] at this;refine this ⟨rfl,aI.refl H,Rep.bl.mpr ?_⟩;simp [V.int.injEq]
 .cases h1;rename_i i j;have:=DD pins s σ H x y v u (fun z H'=>aI H H'/\Rep X.K B H' (.bl (!decide (i=j))) z) I rx ry
  rw[Rep.str.mp ra,Rep.str.mp rb] at this;refine this ⟨rfl,aI.refl H,Rep.bl.mpr ?_⟩;simp [V.str.injEq]
 .cases h1;rename_i i j;have:=DD pins s σ H x y v u (fun z H'=>aI H H'/\Rep X.K B H' (.bl (!decide (i=j))) z) I rx ry
  rw[Rep.bl.mp ra,Rep.bl.mp rb] at this;refine this ⟨rfl,aI.refl H,Rep.bl.mpr ?_⟩;simp [V.bl.injEq]
 .obtain⟨h3,h4⟩:=R.aP h1;cases h4;simp only[Bool.and_eq_true] at h3;obtain⟨⟨⟨p1,p2⟩,s1⟩,s2⟩:=h3;obtain⟨as,r1⟩:=ra.reads I p1 rx;obtain⟨bs,r2⟩:=rb.reads I p2 ry;exact ne_dataH r1 r2 s1 s2 hu ⟨.bl _,H,I,rfl,aI.refl H,Rep.bl.mpr rfl⟩
def strs?:List D->Option (List Str)
 | []=>some []
 | .str x ::ds=>(strs? ds).map (x ::·)
 | _ ::_=>none
theorem jR{K:W.Frag}{B:List Addr}:∀{ds:List D} {xs:List V} {ss:List Str},av K B H ds xs->strs? ds=some ss->xs=ss.map V.str
 | [],xs,ss,r,h=>by unfold av at r;subst r;cases h;rfl
 | d ::ds,xs,ss,r,h=>by
   obtain⟨x,r',rfl,r1,r2⟩:=r.bu;cases d with
   | str z=>
     unfold strs? at h;cases e:strs? ds with
     | none=>rw [e] at h;cases h
     | some tt=>
       rw[e] at h;cases h;rw[Rep.str.mp r1,jR r2 e];rfl
   | _=>cases h
def ints?:List D->Option (List Int)
 | []=>some []
 | .int x ::ds=>(ints? ds).map (x ::·)
 | _ ::_=>none
theorem hV{K:W.Frag}{B:List Addr}:∀{ds:List D} {xs:List V} {ss:List Int},av K B H ds xs->ints? ds=some ss->xs=ss.map V.int
 | [],xs,ss,r,h=>by unfold av at r;subst r;cases h;rfl
 | d ::ds,xs,ss,r,h=>by
   obtain⟨x,r',rfl,r1,r2⟩:=r.bu;cases d with
   | int z=>
     unfold ints? at h;cases e:ints? ds with
     | none=>rw [e] at h;cases h
     | some tt=>
       rw[e] at h;cases h;rw[Rep.int.mp r1,hV r2 e];rfl
   | _=>cases h
def inD(d e:D):R Bool:=match d,e with
 | .str x, .lst ds=>(match strs? ds with | some ss=> .ok (ss.contains x) | none=> .no)
 | .str x, .tup ds=>(match strs? ds with | some ss=> .ok (ss.contains x) | none=> .no)
 | .str x, .str y=> .ok (!(Builtin.Str.occurrences y x 0 y.length 1).isEmpty)
 | .int x, .lst ds=>(match ints? ds with | some ss=> .ok (ss.contains x) | none=> .no)
 | .int x, .tup ds=>(match ints? ds with | some ss=> .ok (ss.contains x) | none=> .no)
 | _,_=> .no
def Ei(d e:D):R D:=(inD d e).bind fun b=> .ok (.bl b)
def u6(d e:D):R D:=(inD d e).bind fun b=> .ok (.bl (!b))
theorem qP(x:Str):∀ss:List Str,GX (.str x) (ss.map V.str)=ss.contains x
 | []=>rfl
 | y ::ss=>by
   unfold GX;rw[List.map_cons,List.any_cons];have ih:=qP x ss;unfold GX at ih;rw[ih];show(y==x || ss.contains x)=_
   rw[List.contains_cons];congr 1;exact Bool.eq_iff_iff.mpr ⟨fun h=>by simpa using(beq_iff_eq.mp h).symm,fun h=>by simpa using(beq_iff_eq.mp h).symm⟩
theorem rC(x:Int):∀ss:List Int,GX (.int x) (ss.map V.int)=ss.contains x
 | []=>rfl
 | y ::ss=>by
   unfold GX;rw[List.map_cons,List.any_cons];have ih:=rC x ss;unfold GX at ih;rw[ih];show(y==x || ss.contains x)=_
   rw[List.contains_cons];congr 1;exact Bool.eq_iff_iff.mpr ⟨fun h=>by simpa using(beq_iff_eq.mp h).symm,fun h=>by simpa using(beq_iff_eq.mp h).symm⟩
theorem tf(ss:List Int):(ss.map V.int).all kE=true:=by
 rw[List.all_map];simp [List.all_eq_true,kE]
theorem tw(ss:List Str):(ss.map V.str).all kE=true:=by
 rw[List.all_map];simp [List.all_eq_true,kE]
theorem DO{neg:Bool}{op:CmpOp}{g:D->D->R D}(h1:kD X (compareOp op) (M_ X.K neg))(h2:kD X (compareOp op) (fun x y H Q=>∃i j,x= .str i/\y= .str j/\Q (.bl (if neg then !(!(Builtin.Str.occurrences j i 0 j.length 1).isEmpty) else(!(Builtin.Str.occurrences j i 0 j.length 1).isEmpty))) H))
 (hg:∀d e r,g d e= .ok r->∃b,inD d e= .ok b/\r= .bl (if neg then !b else b)):jv X (compareOp op) g:=by
 intro pins s σ H B da db d x y v u I hb rx ry ra rb hg';obtain⟨b,hi,rfl⟩:=hg da db d hg';unfold inD at hi;split at hi
 .rename_i z ds;split at hi
  .rename_i ss e;cases hi;obtain⟨a,xs,rfl,l,rs⟩:=Rep.lst.mp rb;refine h1 pins s σ H x _ v u _ I rx ry ⟨a,xs,rfl, .inl l.sq,by rw[Rep.str.mp ra];rfl,by rw[jR rs e];exact tw _,aI.refl H,Rep.bl.mpr ?_⟩
   rw[jR rs e,Rep.str.mp ra,qP]
  .cases hi
 .rename_i z ds;split at hi
  .rename_i ss e;cases hi;obtain⟨a,xs,rfl,l,rs⟩:=Rep.tup.mp rb;refine h1 pins s σ H x _ v u _ I rx ry ⟨a,xs,rfl, .inr l.sq,by rw[Rep.str.mp ra];rfl,by rw[jR rs e];exact tw _,aI.refl H,Rep.bl.mpr ?_⟩
   rw[jR rs e,Rep.str.mp ra,qP]
  .cases hi
 .cases hi;exact h2 pins s σ H x y v u _ I rx ry ⟨_,_,Rep.str.mp ra,Rep.str.mp rb,aI.refl H,Rep.bl.mpr rfl⟩
 .rename_i z ds;split at hi
  .rename_i ss e;cases hi;obtain⟨a,xs,rfl,l,rs⟩:=Rep.lst.mp rb;refine h1 pins s σ H x _ v u _ I rx ry ⟨a,xs,rfl, .inl l.sq,by rw[Rep.int.mp ra];rfl,by rw[hV rs e];exact tf _,aI.refl H,Rep.bl.mpr ?_⟩
   rw[hV rs e,Rep.int.mp ra,rC]
  .cases hi
 .rename_i z ds;split at hi
  .rename_i ss e;cases hi;obtain⟨a,xs,rfl,l,rs⟩:=Rep.tup.mp rb;refine h1 pins s σ H x _ v u _ I rx ry ⟨a,xs,rfl, .inr l.sq,by rw[Rep.int.mp ra];rfl,by rw[hV rs e];exact tf _,aI.refl H,Rep.bl.mpr ?_⟩
   rw[hV rs e,Rep.int.mp ra,rC]
  .cases hi
 .cases hi
theorem IG:jv X (compareOp .In) Ei:=DO (neg:=false) Aq Ad fun d e r h=>by
 obtain⟨b,h1,h2⟩:=R.ab h;cases h2;exact⟨b,h1,rfl⟩
theorem EG:jv X (compareOp .NotIn) u6:=DO (neg:=true) uP uQ fun d e r h=>by
 obtain⟨b,h1,h2⟩:=R.ab h;cases h2;exact⟨b,h1,rfl⟩
def cN(d e:D):R D:=match d,e with
 | .lst ds, .int i=>(match pj ds i with | some x=> .ok x | none=> .no)
 | .tup ds, .int i=>(match pj ds i with | some x=> .ok x | none=> .no)
 | .str x, .int i=>R.bg (decide (x.length<=sizeLine)) (match pj x.cps.toList i with | some c=> .ok (.str ⟨#[c]⟩) | none=> .no)
 | _,_=> .no
theorem m6{K:W.Frag}{B:List Addr}{ds:List D}{xs:List V}{i:Int}{d:D}(r:av K B H ds xs)(h:pj ds i=some d):∃x,pj xs i=some x/\Rep K B H d x:=by
 unfold pj at h ⊢;rw[<-r.length];cases e:yb ds.length i with
 | none=>rw [e] at h;cases h
 | some j=>
   rw[e] at h;exact r.get h
theorem KA(ha:PD X a fa)(hb:PD X b fb)(hs:p8 b):PD X (.Subscript a b pos) (e2 cN fa fb):=by
 refine(G8 (r:=MI X.K) B8 ha hb hs).imp fun σ H Q ⟨Z,B,δ,d,E,hf,q⟩=>?_
 obtain⟨d1,h1,h2⟩:=R.ab hf;obtain⟨d2,h3,h4⟩:=R.ab h2;refine⟨Z,B,δ,d1,E,h1,fun v1 H1 s1 r1=>⟨Z,B,δ,d2,E.same s1,h3,fun v2 H2 s2 r2=>?_⟩⟩
 have lZ:=r1.same s2;unfold cN at h4;split at h4
 .split at h4
  .rename_i e;cases h4;obtain⟨p,xs,rfl,l,rs⟩:=Rep.lst.mp lZ;obtain⟨y,e1,e2⟩:=m6 rs e;exact .inl ⟨p,xs,_,y,rfl,Rep.int.mp r2,l.sq,e1,q y H2 (s1.trans s2) e2⟩
  .cases h4
 .split at h4
  .rename_i e;cases h4;obtain⟨p,xs,rfl,l,rs⟩:=Rep.tup.mp lZ;obtain⟨y,e1,e2⟩:=m6 rs e;exact .inr (.inl ⟨p,xs,_,y,rfl,Rep.int.mp r2,l.sq,e1,q y H2 (s1.trans s2) e2⟩)
  .cases h4
 .obtain⟨hl,h5⟩:=R.aP h4;split at h5
  .rename_i e;cases h5;exact .inr (.inr ⟨_,_,_,Rep.str.mp lZ,Rep.int.mp r2,of_decide_eq_true hl,e,q _ H2 (s1.trans s2) (Rep.str.mpr rfl)⟩)
  .cases h5
 .cases h4
abbrev FO:=ak->R (Option Int)
def Rw(K:W.Frag)(f:FO):TO:=fun σ H Q=>∃Z B δ o,dz K Z B H σ δ/\f δ= .ok o/\∀H',aI H H'->Q o H'
theorem PO.imp{X:Cx}{e:Option Expr}{t t':TO}(h:PO X e t)(w:∀σ H Q,t' σ H Q->t σ H Q):PO X e t':=fun pins s σ H Q I hq=>h pins s σ H Q I (w σ H Q hq)
abbrev PP(X:Cx)(e:Option Expr)(f:FO):Prop:=PO X e (Rw X.K f)
def t_:FO:=fun _=> .ok none
def ph(f:FD):FO:=fun δ=>(f δ).bind fun d=>match d with | .int i=> .ok (some i) | _=> .no
theorem Fc:PP X none t_:=zh.imp fun σ H Q ⟨Z,B,δ,o,E,hf,q⟩=>by cases hf;exact q H (aI.refl H)
theorem Fy(h:PD X e f):PP X (some e) (ph f):=(y_ h).imp fun σ H Q ⟨Z,B,δ,o,E,hf,q⟩=>by
 obtain⟨d,h1,h2⟩:=R.ab hf;cases d with
 | int i=>cases h2;exact⟨Z,B,δ, .int i,E,h1,fun v H1 s1 r1=>⟨i,Rep.int.mp r1,q H1 s1⟩⟩
 | _=>cases h2
theorem yn:HD X (fun x lo hi H Q=>∃z,x= .str z/\z.length<=sizeLine/\Q (.str (Txt.slice z lo hi)) H):=by
 intro pins s σ H x v vl vu lo hi sl Q I rx hs pl pu h;obtain⟨z,rfl,hz,q⟩:=h;obtain⟨t,rfl⟩:=rx;refine⟨"str",_,F.slot_str_getitem.lookup,typeIs_str _ _ _,?_⟩;have fin:∀t' k,EP X pins σ Q (.str (Txt.slice z lo hi) t') {s with toks:=k}:=fun t' k=>⟨.str _,H,I.tok _,⟨_,rfl⟩,q⟩
 obtain⟨o,ho,hc,hd⟩:=hs;cases pl with
 | none=>
   cases pu with
   | none=>exact wpAny_getItem_str_slice (l:=none) (u:=none) (st:=none) ⟨o,ho,hc,hd⟩ rfl (post_val_or_str ⟨Nat.le_trans (Txt.slice_le z _ _) hz,fin⟩)
   | int j u=>exact wpAny_getItem_str_slice (l:=none) (u:=some (j,u)) (st:=none) ⟨o,ho,hc,hd⟩ rfl (post_val_or_str ⟨Nat.le_trans (Txt.slice_le z _ _) hz,fin⟩)
 | int i t1=>
   cases pu with
   | none=>exact wpAny_getItem_str_slice (l:=some (i,t1)) (u:=none) (st:=none) ⟨o,ho,hc,hd⟩ rfl (post_val_or_str ⟨Nat.le_trans (Txt.slice_le z _ _) hz,fin⟩)
   | int j u=>exact wpAny_getItem_str_slice (l:=some (i,t1)) (u:=some (j,u)) (st:=none) ⟨o,ho,hc,hd⟩ rfl (post_val_or_str ⟨Nat.le_trans (Txt.slice_le z _ _) hz,fin⟩)
def cutD{α:Type}(xs:List α)(lo hi:Option Int):List α:=(xs.drop (HT.qd xs.length 0 lo)).take (HT.qd xs.length xs.length hi - HT.qd xs.length 0 lo)
def Hb(d:D)(lo hi:Option Int):R D:=match d with
 | .str x=>R.bg (decide (x.length<=sizeLine)) (.ok (.str (Txt.slice x lo hi)))
 | .lst ds=> .ok (.lst (cutD ds lo hi))
 | _=> .no
theorem wx{K:W.Frag}{B:List Addr}{ds:List D}{xs:List V}(r:av K B H ds xs)(lo hi:Option Int):av K B H (cutD ds lo hi) (xZ xs lo hi):=by
 unfold cutD xZ;rw[<-r.length];exact(r.drop _).take _
def GY(f:FD)(fl fh:FO):FD:=fun δ=>(f δ).bind fun d=>(fl δ).bind fun lo=>(fh δ).bind fun hi=>Hb d lo hi
theorem K5{lo hi:Option Expr}{fl fh:FO}(he:PD X e f)(hl:PP X lo fl)(hh:PP X hi fh):PD X (.Subscript e (.Slice lo hi none p2) pos) (GY f fl fh):=by
 refine(rE (yn.or uK) he hl hh).imp fun σ H Q ⟨Z,B,δ,d,E,hf,q⟩=>?_
 obtain⟨d1,h1,h2⟩:=R.ab hf;obtain⟨l,h3,h4⟩:=R.ab h2;obtain⟨h,h5,h6⟩:=R.ab h4;refine⟨Z,B,δ,d1,E,h1,fun v1 H1 s1 r1=>⟨Z,B,δ,l,E.same s1,h3,fun H2 s2=>⟨Z,B,δ,h,(E.same s1).same s2,h5,fun H3 s3=>?_⟩⟩⟩
 have sA:aI H H3:=s1.trans (s2.trans s3);have lZ:=r1.same (s2.trans s3);unfold Hb at h6;split at h6
 .obtain⟨hz,h7⟩:=R.aP h6;cases h7;exact .inl ⟨_,Rep.str.mp lZ,of_decide_eq_true hz,q _ H3 sA (Rep.str.mpr rfl)⟩
 .cases h6;obtain⟨a,xs,rfl,ls,rs⟩:=Rep.lst.mp lZ;refine .inr ⟨a,xs,rfl,ls.sq,fun p hp=>q _ _ (sA.trans (aC hp)) (Rep.lst.mpr ⟨p,_,rfl, .mi aL fun ha=>?_,(wx rs l h).same (aC hp)⟩)⟩
  obtain⟨o,ho⟩:=(E.same sA).bs p ha;rw[hp] at ho;cases ho
 .cases h6
end
end L2
end
section
namespace L2
open PySem PySem.Spec PyProof.Rows
section
variable {X:Cx}
theorem av.one{K:W.Frag}{B:List Addr}{d:D}{xs:List V}(h:av K B H [d] xs):∃x,xs=[x]/\Rep K B H d x:=by
 obtain⟨x,r,rfl,h1,h2⟩:=h.bu;unfold av at h2;subst h2;exact⟨x,rfl,h1⟩
theorem av.two{K:W.Frag}{B:List Addr}{d e:D}{xs:List V}(h:av K B H [d,e] xs):∃x y,xs=[x,y]/\Rep K B H d x/\Rep K B H e y:=by
 obtain⟨x,r,rfl,h1,h2⟩:=h.bu;obtain⟨y,rfl,h3⟩:=h2.one;exact⟨x,y,rfl,h1,h3⟩
def gx:List D->R D
 | [.str x]=>R.bg (decide (x.length<=sizeLine)) (.ok (.int x.length))
 | [.lst ds]=> .ok (.int ds.length)
 | [.tup ds]=> .ok (.int ds.length)
 | _=> .no
theorem fD:cM X (.builtin "len") gx:=cM.of CM fun B H ds d xs Q _ rs hg q=>by
 unfold gx at hg;split at hg
 .obtain⟨h1,h2⟩:=R.aP hg;cases h2;obtain⟨x,rfl,r⟩:=rs.one;exact⟨x,_,rfl,by rw[Rep.str.mp r];exact⟨of_decide_eq_true h1,rfl⟩,q _ H (aI.refl H) (Rep.int.mpr rfl)⟩
 .cases hg;obtain⟨x,rfl,r⟩:=rs.one;obtain⟨a,ys,rfl,l,r⟩:=Rep.lst.mp r;exact⟨_,_,rfl, .inl ⟨ys,l.sq,rfl⟩,q _ H (aI.refl H) (Rep.int.mpr (by rw[r.length]))⟩
 .cases hg;obtain⟨x,rfl,r⟩:=rs.one;obtain⟨a,ys,rfl,l,r⟩:=Rep.tup.mp r;exact⟨_,_,rfl, .inr ⟨ys,l.sq,rfl⟩,q _ H (aI.refl H) (Rep.int.mpr (by rw[r.length]))⟩
 .cases hg
def cInt:List D->R D
 | [.int i]=> .ok (.int i)
 | [.bl b]=> .ok (.int (if b then 1 else 0))
 | _=> .no
theorem KW:cM X (.type "int") cInt:=cM.of Ax fun B H ds d xs Q _ rs hg q=>by
 unfold cInt at hg;split at hg
 .cases hg;obtain⟨x,rfl,r⟩:=rs.one;exact .inl ⟨_,by rw[Rep.int.mp r],q _ H (aI.refl H) (Rep.int.mpr rfl)⟩
 .cases hg;obtain⟨x,rfl,r⟩:=rs.one;exact .inr ⟨_,by rw[Rep.bl.mp r],q _ H (aI.refl H) (Rep.int.mpr rfl)⟩
 .cases hg
def cStr:List D->R D
 | [.int i]=>R.bg (decide (i.natAbs.log2 < 1920)) (.ok (.str (toString i)))
 | _=> .no
def Jh:List D->R D
 | [.int i, .int j]=> .ok (.int (if j < i then j else i))
 | _=> .no
theorem Kh(hc:X.calm=true):cM X (.builtin "min") Jh:=cM.of (A_ hc) fun B H ds d xs Q _ rs hg q=>by
 unfold Jh at hg;split at hg
 .cases hg;obtain⟨x,y,rfl,r1,r2⟩:=rs.two;exact⟨_,_,by rw[Rep.int.mp r1,Rep.int.mp r2],q _ H (aI.refl H) (Rep.int.mpr rfl)⟩
 .cases hg
def MY:List D->R D
 | [.int i, .int j]=> .ok (.int (if j > i then j else i))
 | _=> .no
def qy:List D->R D
 | [.lst ds]=> .ok (.tup ds)
 | [.tup ds]=> .ok (.tup ds)
 | _=> .no
theorem zM:cM X (.type "tuple") qy:=cM.of se fun B H ds d xs Q hb rs hg q=>by
 unfold qy at hg;split at hg
 .cases hg;obtain⟨x,rfl,r⟩:=rs.one;obtain⟨a,ys,rfl,l,r⟩:=Rep.lst.mp r;refine⟨a,ys,rfl, .inl ⟨l.sq,fun p hp=>q _ _ (aC hp) (Rep.tup.mpr ⟨p,ys,rfl, .inl ⟨fun ha=>?_, .inl aL⟩,r.same (aC hp)⟩)⟩⟩
  obtain⟨o,ho⟩:=hb p ha;rw[hp] at ho;cases ho
 .cases hg;obtain⟨x,rfl,r⟩:=rs.one;have r0:=r;obtain⟨a,ys,rfl,l,r⟩:=Rep.tup.mp r;exact⟨a,ys,rfl, .inr ⟨l.sq,q _ H (aI.refl H) r0⟩⟩
 .cases hg
def CP:List D->R D
 | [.lst ds]=> .ok (.lst ds)
 | [.tup ds]=> .ok (.lst ds)
 | _=> .no
theorem Hq:cM X (.type "list") CP:=cM.of uq fun B H ds d xs Q hb rs hg q=>by
 unfold CP at hg;split at hg
 .cases hg;obtain⟨x,rfl,r⟩:=rs.one;obtain⟨a,ys,rfl,l,r⟩:=Rep.lst.mp r;refine⟨a,ys,rfl, .inl l.sq,fun p hp=>q _ _ (aC hp) (Rep.lst.mpr ⟨p,ys,rfl, .mi aL fun ha=>?_,r.same (aC hp)⟩)⟩
  obtain⟨o,ho⟩:=hb p ha;rw[hp] at ho;cases ho
 .cases hg;obtain⟨x,rfl,r⟩:=rs.one;obtain⟨a,ys,rfl,l,r⟩:=Rep.tup.mp r;refine⟨a,ys,rfl, .inr l.sq,fun p hp=>q _ _ (aC hp) (Rep.lst.mpr ⟨p,ys,rfl, .mi aL fun ha=>?_,r.same (aC hp)⟩)⟩
  obtain⟨o,ho⟩:=hb p ha;rw[hp] at ho;cases ho
 .cases hg
def cAbs:List D->R D
 | [.int i]=> .ok (.int (if i < 0 then -i else i))
 | _=> .no
def M5:List D->R D
 | [.lst ds]=>(match ints? ds with | some ns=> .ok (.int ns.sum) | none=> .no)
 | _=> .no
theorem l7:∀{ns:List Int} {us:List Value},Vals (ns.map V.int) us->∃l:List (Int × Tok),us=l.map (fun p=>Value.int p.1 p.2)/\l.map (·.1)=ns
 | [],_, .nil=>⟨[],rfl,rfl⟩
 | n ::ns,_, .cons r t=>by
   obtain⟨l,rfl,e⟩:=l7 t;obtain⟨tk,rfl⟩:=r;exact⟨(n,tk) ::l,rfl,by rw[List.map_cons,e]⟩
def tyName:D->String
 | .bQ=>"NoneType" | .bl _=>"bool" | .int _=>"int" | .str _=>"str" | .lst _=>"list" | .tup _=>"tuple" | .dct _ _=>"dict"
def QE(T:String)(f:FD):FD:=fun δ=>(f δ).bind fun d=>R.bg (tyName d==T && d.atom) (.ok (.bl true))
def Tw(X:Cx)(id:String)(g:D->List D->R D):Prop:=
 ∀(pins:Um) (s:Shared) (σ:St) (H:Hp) (B:List Addr) (da d:D) (ds:List D) (x:V) (xs:List V) (v:Value) (us:List Value),Inv X pins σ H s->(∀a∈B,∃o,H a=some o)->RelV x v->Vals xs us->Rep X.K B H da x->av X.K B H ds xs->g da ds= .ok d->
  wpAny (model X.prog X.w) X.A (call (.builtin id) (v ::us)) (EP X pins σ fun z H'=>aI H H'/\Rep X.K B H' d z) X.xe s
def Tu(T:String)(g:D->List D->R D)(f:FD)(fs:ak->R (List D)):FD:=fun δ=>(f δ).bind fun d=>R.bg (tyName d==T && (d.atom || T=="list")) ((fs δ).bind fun ds=>g d ds)
def Pd(d:D)(ds:List D):R D:=match d,ds with
 | .str sep,[.lst es]=>(match strs? es with | some ss=>R.bg (JoinOk sep ss) (.ok (.str (Str.join sep ss))) | none=> .no)
 | _,_=> .no
abbrev PJ(X:Cx)(es:List Expr)(f:ak->R (List Str)):Prop:=
 ∀(pins:Um) (s:Shared) (σ:St) (H:Hp) (Z B:List Addr) (δ:ak) (acc:Str) (ss:List Str) (Q:VK),Inv X pins σ H s->dz X.K Z B H σ δ->f δ= .ok ss->(ss.foldl (·++·) acc).length<=sizeLine->(∀H',aI H H'->Q (.str (ss.foldl (·++·) acc)) H')->
  wpAny (model X.prog X.w) X.A (joinParts acc (evalEach es X.env)) (EP X pins σ Q) X.xe s
def Q4:ak->R (List Str):=fun _=> .ok []
def Pj(f:FD)(g:ak->R (List Str)):ak->R (List Str):=fun δ=>(f δ).bind fun d=>match d with | .str x=>(g δ).bind fun ss=> .ok (x ::ss) | _=> .no
def Mg(g:ak->R (List Str)):FD:=fun δ=>(g δ).bind fun ss=>R.bg (decide ((ss.foldl (·++·) Str.empty).length<=sizeLine)) (.ok (.str (ss.foldl (·++·) Str.empty)))
def Nt:D->R D
 | .str x=>R.bg (decide (x.length<=sizeLine)) (.ok (.str x))
 | .int i=>R.bg (decide (i.natAbs.log2 < 1920)) (.ok (.str (toString i)))
 | _=> .no
def Qq(f:FD):FD:=fun δ=>(f δ).bind Nt
def KO:List (D × D)->Str->R (Option D)
 | [],_=> .ok none
 | (.str y,d) ::r,x=>(KO r x).bind fun o=> .ok (match o with | some e=>some e | none=>if y=x then some d else none)
 | _ ::_,_=> .no
def K3(x:Str):List D:=x.cps.toList.map fun c=> .str ⟨#[c]⟩
def TL(x:Str):It:=⟨fun i _=>i < x.cps.size,fun i H v H'=>H'=H/\∃c,x.cps[i]? =some c/\v= .str ⟨#[c]⟩,fun i _=>x.cps.size<=i⟩
def OW(f:FD):ak->R (List D):=fun δ=>(f δ).bind fun d=>match d with | .str x=> .ok (K3 x) | _=> .no
def Qh(K:W.Frag)(a:Addr):It:=
 ⟨fun i H=>∃xs x,mZ K H a xs/\xs[i]? =some x,fun i H v H'=>∃p x,H p=none/\v= .ref p/\(∀xs,mZ K H a xs->xs[i]? =some x)/\H'=upd H p (.tup [.int i,x]),fun i H=>∃xs,mZ K H a xs/\xs.length<=i⟩
theorem tm{K:W.Frag}{k:Nat}(a e it:Addr)(J7:e≠it):Turn P w K (.Tuple elts k pos) (Qh K a) [e,it] e (fun i h=>(∃old,IsEnum h e it ((i:Nat):Int) old)/\h.IsListIter it a i) where
 mem:=by simp
 obj:=fun i h st b hb=>by
  obtain⟨⟨old,he⟩,o,ho,c,d⟩:=st;rcases List.mem_cons.mp hb with rfl | hb
  .exact⟨_,he,fun v z=>by cases z⟩
  .have e:b=it:=by simpa using hb
   subst e;exact⟨o,ho,fun v z=>by rw[d] at z;cases z⟩
 keep:=fun i h h' st k=>by
  obtain⟨⟨old,he⟩,hi⟩:=st;exact⟨⟨old,k e (by simp) _ he⟩,hi.at fun o x=>k it (by simp) o x⟩
 item:=by
  intro X hP hw hK hc i pins s σ H E I hf st hg;subst hP hw hK;obtain⟨xs,x,hq,hx⟩:=hg;obtain⟨its,rv,p,hz⟩:=I.list hq;obtain⟨u,hu,ru⟩:=rv.get hx;obtain⟨⟨old,he⟩,hit⟩:=st;obtain⟨f0,f1,f2,f3,f4,f5⟩:=hf e (by simp)
  obtain⟨g0,g1,g2,g3,g4,g5⟩:=hf it (by simp)
  refine wpAny_pyNext_enum_item he hit p.isList (x:=u) (by simpa using hu) J7 fun gS Ep yR D8 md ub=>⟨_,rfl,?_⟩
  refine wpAny_letOwnedTupleGo_enum Ep fun fA D0 cn=>?_
  replace cn:Heap.SameBut e gS fA:=cn
  have hel:e < s.heap.objs.size:=Heap.lt_size he;have xn:fA.get? s.heap.objs.size=some {cls:= .type "tuple",data:= .seq #[.int i s.toks,u]}:=(cn.2 _ (Nat.ne_of_gt hel)).trans D8;have kk:∀b o,b≠e->b≠it->s.heap.get? b=some o->fA.get? b=some o:=fun b o h1 h2 q=>(cn.2 b h1).trans (ub b o h1 h2 q)
  have hn:H s.heap.objs.size=none:=I.fresh;have sm:aI H (upd H s.heap.objs.size (.tup [.int i,x])):=aC hn;have nit:∀b o,H b=some o->b≠e/\b≠it:=fun b o q=>⟨fun z=>(by rw[z,f0] at q;cases q),fun z=>(by rw[z,g0] at q;cases q)⟩
  have hok:lT X.prog X.w (upd H s.heap.objs.size (.tup [.int i,x])) fA:=fun b ob q=>by
   by_cases hb:b=s.heap.objs.size
   .subst hb;rw[aL] at q;cases q;exact⟨by show 2<=sizeLine;decide,[.int i s.toks,u], .cons ⟨_,rfl⟩ (.cons ru .nil),⟨_,xn,rfl,_,rfl⟩⟩
   .rw [aQ hb] at q;refine(I.hok b ob q).ui (fun c v hc z=>?_) (fun c z=>sm c _ z) fun c ys z=>sm c _ z
    rcases hc with rfl | hc
    .exact kk c v (nit c _ q).1 (nit c _ q).2 z
    .exact kk c v (nit c _ hc).1 (nit c _ hc).2 z
  have nch:∀b,b ∉ [e,it]->b≠e/\b≠it:=fun b hb=>⟨fun z=>hb (by simp [z]),fun z=>hb (by simp [z])⟩
  have I2:Inv X pins σ (upd H s.heap.objs.size (.tup [.int i,x])) {s with heap:=fA,toks:=s.toks+1}:=by
   refine I.step (g':=s.gens) (d':=s.drawn) (ch:=[e,it]) (fun b hb=>?_) (fun b o _ _ hb q _=>kk b o (nch b hb).1 (nch b hb).2 q) (fun b o _ _ hb q _=>⟨o.slots,kk b o (nch b hb).1 (nch b hb).2 q⟩)
    (fun b o hb q n=>by rw[aQ (Nat.ne_of_lt (Heap.lt_size q))];exact n) (fun b o hb q=>⟨o,kk b o (nch b hb).1 (nch b hb).2 q⟩) (fun b ys z=>sm b _ z) (fun b o u z=>sm b _ z) (fun b ps z=>⟨#[],by rw[sm b _ z];simp⟩) (fun m hm=>?_) hok I.bare
   .rcases List.mem_cons.mp hb with rfl | hb
    .exact⟨f3,f1,f4,f5⟩
    .have z:b=it:=by simpa using hb
     subst z;exact⟨g3,g1,g4,g5⟩
   .obtain⟨o,es,ep,ho,r⟩:=hm;exact⟨o,es,ep,kk _ o (Ne.symm f1) (Ne.symm g1) ho,r⟩
  refine⟨.ref s.heap.objs.size,_,I2,rfl,⟨s.heap.objs.size,x,hn,rfl,fun ys hy=>(by rw[I.m8 hy hq];exact hx),rfl⟩,⟨⟨_,by simpa using D0⟩,yR.at fun o q=>(cn.2 it (Ne.symm J7)).trans q⟩,fun b hb=>?_⟩
  rcases List.mem_cons.mp hb with rfl | hb
  .rw [aQ (Nat.ne_of_lt hel)];exact f0
  .have z:b=it:=by simpa using hb
   subst z;obtain⟨o,ho,_⟩:=hit;rw[aQ (Nat.ne_of_lt (Heap.lt_size ho))];exact g0
 done:=by
  intro X hP hw hK hc i pins s σ H E I hf st hg;subst hP hw hK;obtain⟨xs,hq,hx⟩:=hg;obtain⟨its,rv,p,hz⟩:=I.list hq;obtain⟨⟨old,he⟩,hit⟩:=st;obtain⟨g0,g1,g2,g3,g4,g5⟩:=hf it (by simp)
  have hl:=rv.length;exact wpAny_pyNext_enum_end (I.ok.hd hc) he hit p.isList (by simp;omega) fun h' eb=>⟨rfl,I.turned (t':=s.toks) (fun b o hb q=>eb b o hb q) g0 g1 g3 g4 g5⟩
 self:=fun A i s Q E st h=>let⟨⟨_,he⟩,_⟩:=st;wpAny_pyIter_enum he h
def bO(ds:List D):List D:=ds.zipIdx.map fun p=> .tup [.int p.2,p.1]
def ip(f:FD):ak->R (List D):=fun δ=>(f δ).bind fun d=>match d with | .lst ds=> .ok (bO ds) | _=> .no
theorem vZ{elts:List Expr}{k:Nat}{oY:Pos}{p pos:Pos}(h:PD X a f)(hg:Gl X "enumerate")(hm:X.mg "enumerate"=none)(hs:starEach [a] X.env=[(false,eval a X.env)]:=by rfl):JY X (.Tuple elts k oY) (.Call (.Name "enumerate" p) [a] [] pos) (ip f):=by
 intro pins s σ H RR I ⟨Z,B,δ,ds,E,hf,q⟩;obtain⟨d,h1,h2⟩:=R.ab hf;have hA:=dv h gL hs pos pins s σ H (fun vs H1=>aI H H1/\∃v,vs=[v]/\Rep X.K B H1 d v) I ⟨Z,B,δ,d,E,h1,fun v H1 s1 r1=>⟨s1,v,rfl,r1⟩⟩
 refine Call_ (ji I hg hm boot_enumerate (PyProof.Rows.callWith_type1 (du hA fun us s1 ⟨vs,H1,I1,r1,ss,v,ev,rr⟩=>?_) hs rfl))
 subst ev;obtain⟨u,rfl,ru⟩:=vals1 r1;cases d with
 | lst es=>
   cases h2;obtain⟨b,xs,rfl,l,rs⟩:=Rep.lst.mp rr;cases ru;obtain⟨its,n,rv,e1,hz⟩:=I1.GV l;refine call_enumerate_list (items:=its.toArray) ⟨_,e1,rfl,n,rfl⟩ fun h' he hit hsz kk=>wpAny_pyIter_enum he ?_
   have I2:Inv X pins σ H1 {s1 with heap:=h'}:=I1.kept (t':=s1.toks) kk
   refine⟨s1.heap.objs.size+1,[s1.heap.objs.size+1,s1.heap.objs.size],_,_,H1,rfl,I2,tm b (s1.heap.objs.size+1) s1.heap.objs.size (Nat.succ_ne_self _),⟨⟨_,he⟩,hit⟩,fun c hc=>?_,q _ H1 ss fun B' H' pr=>?_⟩
   .have hle:s1.heap.objs.size<=c:=by
     rcases List.mem_cons.mp hc with z | hc
     .rw [z];exact Nat.le_succ _
     .have z:c=s1.heap.objs.size:=by simpa using hc
      rw[z];exact Nat.le_refl _
    exact I1.pT hle (I1.hok.fresh hle)
   .have l':rY X.K B' H' b xs:=l.aU pr;have rs':=rs.aU pr;refine⟨fun i d hd=>?_,⟨xs,l'.sq,by rw[<-rs.length];unfold bO;simp⟩⟩
    unfold bO at hd;rw[List.getElem?_map,List.getElem?_zipIdx] at hd;cases e:es[i]? with
    | none=>rw [e] at hd;cases hd
    | some d0=>
      rw[e] at hd;have hd:D.tup [.int ((0+i:Nat):Int),d0]=d:=Option.some.inj hd;rw[Nat.zero_add] at hd;obtain⟨x,hx,rx⟩:=rs'.get e;refine⟨⟨xs,x,l'.sq,hx⟩,fun v kK y DZ=>?_⟩
      obtain⟨p,y,hp,rfl,hy,rfl⟩:=y;refine⟨aC hp,?_⟩;subst hd;have xt:=hy xs l'.sq;rw[hx] at xt;cases xt;refine Rep.tup.mpr ⟨p,_,rfl, .inl ⟨fun ha=>?_, .inl aL⟩,av.cons (Rep.int.mpr rfl) (av.cons (rx.same (aC hp)) av.nil)⟩
      obtain⟨o,ho⟩:=DZ p ha;rw[hp] at ho;cases ho
 | _=>cases h2
end
end L2
end
section
namespace L2
open PySem PySem.Spec PyProof.Rows
def Def(K:W.Frag)(mg:Ut)(x:Str)(st:Stmt):Prop:=∃f fd,zk K x x st f fd/\mg x=some (.ref f)
def Callee(P:Program)(w:World)(K:W.Frag)(mg:Ut)(base:Heap)(k:Nat)(x:Str)(n:Nat)(g:List D->R D):Prop:=
 ∃f fd ps,gH P w K mg base rZ k f fd ps (Dz K n g)/\mg x=some (.ref f)/\PySem.W.keepIn K (.ref f)=true/\Binds K fd ps []
theorem dA:∀(δ:ak) (ds:List D),aZ δ= .ok ds->ds.length=0:=fun δ ds h=>by cases h;rfl
theorem bf{g:ak->R (List D)}{n:Nat}(h:∀(δ:ak) (ds:List D),g δ= .ok ds->ds.length=n):∀(δ:ak) (ds:List D),aw f g δ= .ok ds->ds.length=n+1:=fun δ ds e=>by
 obtain⟨d,h1,h2⟩:=R.ab e;obtain⟨es,h3,h4⟩:=R.ab h2;cases h4;rw[List.length_cons,h δ es h3]
theorem Cm{P:Program}{w:World}{K:W.Frag}{mg:Ut}{base:Heap}{x qual:Str}{st:Stmt}{f:Addr}{fd:FuncData}{N ps:List Str}{k:Nat}{F:FS}{b:List Stmt}{sc:Scope}(hb:aJ st=b)(hs:ax st=sc)(Fn:zk K x qual st f fd)(S:aY N ps sc)
 (j1:∀(dI:Value) (A:Around) (outer:List Env) (s:Shared) (H:Hp) (E:XK),dQ k (A.deeper (envOfC qual sc s.heap.objs.size f dI))->
   pN (qm rZ P w K mg base N qual sc f dI A outer s H E).F6 b F):gH P w K mg base rZ (k+1) f fd ps (Dz K ps.length (wz N F)):=by
 subst hb hs;exact Ft Fn S j1
section
variable {X:Cx}
theorem BW{g:List D->R D}{k j n:Nat}{x:Str}{p pos:Pos}{e:Expr}{es:List Expr}{fs:ak->R (List D)}(C:Callee X.prog X.w X.K X.mg X.base k x n g)(hr:dQ j X.A)(DT:k<=j)(hg:Gl X x)(ha:Eg X (e ::es) fs)
 (hn:∀δ ds,fs δ= .ok ds->ds.length=n) (nR:(x==("__debug__":Str))=false:=by decide) (he:starEach (e ::es) X.env=(false,eval e X.env) ::starEach es X.env:=by rfl) (kG:(backTo pos (starEach es X.env)).any (·.1)=false:=by rfl) :
 PD X (.Call (.Name x p) (e ::es) [] pos) (aS g fs):=by
 obtain⟨f,fd,ps,F,hm,hk,hb⟩:=C;exact FC F (hr.mono DT) hg hm hk hb ha hn nR he kG
def Ld(sc:Scope)(N:List Str)(scope:Scope)(kp:List Nat)(kn:List Str):Bool:=
 decide (scope.kind= .function) && scope.names.all (fun y=>decide (y.2= .cell->scope.names.lookup y.1=some .cell)) && scope.names.all (fun y=>decide (y.2= .local->scope.names.lookup y.1=some .local))
  && scope.names.all (fun y=>decide (y.2= .free->(sc.names.lookup y.1=some .cell\/sc.names.lookup y.1=some .free))) && scope.names.all (fun y=>decide (y.2= .free->scope.names.lookup y.1=some .free)) && decide (kn.length=kp.length)
  && (List.range kp.length).all (fun j=>decide ((kp[j]?).bind (N[·]?)=kn[j]?)) && kn.all (fun x=>decide (scope.names.lookup x=some .free))
theorem bL.of{own:List Str}{kp:List Nat}{kn:List Str}{N:List Str}(h1:X.env.scope=sc)(h2:X.N=N)(h:Ld sc N scope kp kn=true):bL X scope own kp kn:=by
 unfold Ld at h;simp only[Bool.and_eq_true,decide_eq_true_eq,List.all_eq_true] at h;obtain⟨⟨⟨⟨⟨⟨⟨a1,a2⟩,a3⟩,a4⟩,a8⟩,a5⟩,a6⟩,a7⟩:=h;refine⟨a1,a2,a3,fun y hy hf=>?_,a8,a5,fun j i x hj hx=>?_,a7⟩
 .have:=a4 y hy hf;unfold Env.kindOf;rw[h1];exact this
 .have hlt:j < kp.length:=(List.getElem?_eq_some_iff.mp hj).1;have:=a6 j (List.mem_range.mpr hlt);rw[hj] at this;rw[h2];exact this.trans hx
def Ri(kvs:List (Key × V))(f g:FD):FD:=fun δ=>(f δ).bind fun k=>(g δ).bind fun d=>match k with
 | .str x=>(match j6 (CL [] kvs) (Sum.inr x) with | some (.int i)=> .ok (.int i) | none=> .ok d | _=> .no)
 | _=> .no
def OR(i:Nat)(f:FD):FS:=fun δ=>(f δ).bind fun d=>match d with
 | .lst es=>(tS δ i).bind fun ds=>R.bg (decide (ds.length+es.length<=sizeLine)) (.ok (.nx (δ.set i (.bld (ds++es)))))
 | _=> .no
end
end L2
end
section
namespace L2
open PySem PySem.Spec PyProof.Rows
structure QD (X:Cx) (e:Expr) (f:FD):Prop where
 h:PD X e f
structure QN (X:Cx) (e:Expr) (f:ak->R (List D)):Prop where
 h:PN X e f
structure QB (X:Cx) (e:Expr) (f:ak->R Bool):Prop where
 h:PB X e f
structure Iq (X:Cx) (e:Expr) (f:ak->R Bool):Prop where
 h:El X e f
structure GW (X:Cx) (e:List Expr) (f:ak->R (List D)):Prop where
 h:Eg X e f
structure GR (X:Cx) (e:Stmt) (f:FS):Prop where
 h:Gb X e f
structure su (X:Cx) (e:List Stmt) (f:FS):Prop where
 h:pN X e f
structure KP (X:Cx) (e:Expr) (f:FT):Prop where
 h:J0 X e f
structure Fb (X:Cx) (e:List Expr) (f:Bu):Prop where
 h:Dg X e f
structure ye (X:Cx) (tg e:Expr) (f:ak->R (List D)):Prop where
 h:JY X tg e f
structure QP (X:Cx) (e:Option Expr) (f:FO):Prop where
 h:PP X e f
structure QJ (X:Cx) (e:List Expr) (f:ak->R (List Str)):Prop where
 h:PJ X e f
structure IA (X:Cx) (e:List Expr) (c:ak->R Bool):Prop where
 h:oy X e (IB X.K c)
section
variable {X:Cx}
theorem dw{f:ak->R (List D)}(h:QN X e f):QD X e (eNew f):=⟨Ju h.1⟩
theorem aa(i:Nat){pos:Pos}(hN:X.N[i]? =some x:=by rfl)(hv:GN X.env.scope x:=by first | exact Or.inl rfl | exact Or.inr (Or.inl rfl) | exact Or.inr (Or.inr rfl))(hd:(x==("__debug__":Str))=false:=by decide)(sN:(x==("__classdict__":Str))=false:=by decide):QD X (.Name x pos) (af i):=⟨JH i hN hv hd sN⟩
theorem ae{i j pos}:QD X (.Constant (.int i) j pos) (eC (.int i)):=⟨Jo⟩
theorem yz{b j pos}:QD X (.Constant (.bool b) j pos) (eC (.bl b)):=⟨Lf⟩
theorem qc{j pos}:QD X (.Constant .none j pos) (eC .bQ):=⟨HQ⟩
theorem cQ{x j pos}:QD X (.Constant (.str x) j pos) (eC (.str x)):=⟨Ip⟩
theorem aq:GW X [] aZ:=⟨ET⟩
theorem ag{g:ak->R (List D)}(h:QD X e f)(t:GW X es g)(hs:starEach (e ::es) X.env=(false,eval e X.env) ::starEach es X.env:=by rfl):GW X (e ::es) (aw f g):=⟨Dc h.1 t.1 hs⟩
theorem d8{g:ak->R (List D)}{x1 pos}(h:GW X es g):QD X (.Tuple es x1 pos) (kI g):=⟨JF h.1⟩
theorem dJ{g:ak->R (List D)}{pos}(h:GW X es g):QN X (.List es pos) (j0 g):=⟨Hy h.1⟩
theorem az{op:Operator}{g:D->D->R D}(ho:jv X (binaryOp op) g)(ha:QD X a fa)(hb:QD X b fb):QD X (.BinOp a op b pos) (e2 g fa fb):=⟨Ks ho ha.1 hb.1⟩
theorem vf{op:CmpOp}{g:D->D->R D}(ho:jv X (compareOp op) g)(ha:QD X a fa)(hb:QD X b fb)(hm:behindInMarks op b=false):QD X (.Compare a [op] [b] pos) (e2 g fa fb):=⟨Jz ho ha.1 hb.1 hm⟩
theorem cq{op:CmpOp}{g:D->D->R D}(ho:jv X (compareOp op) g)(ha:QD X a fa)(hb:QD X b fb)(hm:behindInMarks op b=false):QB X (.Compare a [op] [b] pos) (b2 g fa fb):=⟨HC ho ha.1 hb.1 hm⟩
theorem nF{a:Expr}(ha:QD X a f)(he:∀whole,isTrue a X.env whole=(do let v <-whole;standAt a.pos;holding [v] (truthy v)):=by intro _;rfl):QB X a (qX f):=⟨Jg ha.1 he⟩
theorem zO{f:ak->R Bool}(h:Iq X e f):QB X e f:=⟨El.pb h.1⟩
theorem Af{f:ak->R Bool}(h:QB X a f):Iq X (.BoolOp .And [a] pos) f:=⟨Ci h.1⟩
theorem BY{f:ak->R Bool}(h:QB X a f):Iq X (.BoolOp .Or [a] pos) f:=⟨FY h.1⟩
theorem DQ{rest:List Expr}{f g:ak->R Bool}(ha:QB X a f)(hb:Iq X (.BoolOp .And (b ::rest) pos) g):Iq X (.BoolOp .And (a ::b ::rest) pos) (Gq f g):=⟨Fw ha.1 hb.1⟩
theorem FL{rest:List Expr}{f g:ak->R Bool}(ha:QB X a f)(hb:Iq X (.BoolOp .Or (b ::rest) pos) g):Iq X (.BoolOp .Or (a ::b ::rest) pos) (Ms f g):=⟨HN ha.1 hb.1⟩
theorem pY{f:ak->R Bool}(ha:QB X a f):QB X (.UnaryOp .Not a pos) (uI f):=⟨Ik ha.1⟩
theorem yK{fc:ak->R Bool}(hc:QB X c fc)(ha:QD X a f)(hb:QD X b g):QD X (.IfExp c a b pos) (HK fc f g):=⟨LG hc.1 ha.1 hb.1⟩
theorem bb{g:List D->R D}{id:String}{p pos:Pos}{fs:ak->R (List D)}(hc:cM X (.builtin id) g)(hg:Gl X x)(hm:X.mg x=none)(hv:bootBuiltins x=some (.builtin id))(ha:GW X (e ::es) fs)(hn:x≠"__name__":=by decide)(nR:(x==("__debug__":Str))=false:=by decide)(he:starEach (e ::es) X.env=(false,eval e X.env) ::starEach es X.env:=by rfl)(kG:(backTo pos (starEach es X.env)).any (·.1)=false:=by rfl):QD X (.Call (.Name x p) (e ::es) [] pos) (aS g fs):=⟨C4 hc hg hm hv ha.1 hn nR he kG⟩
theorem iq{g:List D->R D}{T:String}{p pos:Pos}{fs:ak->R (List D)}(hc:cM X (.type T) g)(hg:Gl X x)(hm:X.mg x=none)(hv:bootBuiltins x=some (.type T))(ha:GW X (e ::es) fs)(hn:x≠"__name__":=by decide)(nR:(x==("__debug__":Str))=false:=by decide)(he:starEach (e ::es) X.env=(false,eval e X.env) ::starEach es X.env:=by rfl)(kG:(backTo pos (starEach es X.env)).any (·.1)=false:=by rfl):QD X (.Call (.Name x p) (e ::es) [] pos) (aS g fs):=⟨Au hc hg hm hv ha.1 hn nR he kG⟩
theorem jx:su X [] xg:=⟨Gf⟩
theorem c9{st:Stmt}{rest:List Stmt}{F G:FS}(h1:GR X st F)(h2:su X rest G):su X (st ::rest) (kJ F G):=⟨Bx h1.1 h2.1⟩
theorem bH{st:Stmt}{F:FS}(h1:GR X st F):su X [st] F:=⟨EI h1.1⟩
theorem qr{i:Nat}{pos pos':Pos}(hN:X.N.Nodup)(hi:X.N[i]? =some x)(hx:Loc X.env.scope x)(he:QD X e f)(hs:swapsWith e (some (.Name x pos')) pos.line X.env=pure false:=by rfl)(hf:X.fn x=true\/X.env.scope.names.lookup x=some .local:=by first | exact .inl rfl | exact .inr rfl | assumption):GR X (.Assign [.Name x pos'] e pos) (wa i f):=⟨Fs hN hi hx he.1 hs hf⟩
theorem Ct{i:Nat}{f:ak->R (List D)}{pos pos':Pos}(hN:X.N.Nodup)(hi:X.N[i]? =some x)(hx:Loc X.env.scope x)(he:QN X e f)(hs:swapsWith e (some (.Name x pos')) pos.line X.env=pure false:=by rfl)(hf:X.fn x=true\/X.env.scope.names.lookup x=some .local:=by first | exact .inl rfl | exact .inr rfl | assumption):GR X (.Assign [.Name x pos'] e pos) (Ae i f):=⟨EM hN hi hx he.1 hs hf⟩
theorem Cs{i:Nat}{x:Str}{e:Expr}{f:FD}{lF apos dR pos:Pos}(hN:X.N[i]? =some x)(hv:GN X.env.scope x)(he:QD X e f)(hd:(x==("__debug__":Str))=false:=by decide)(sN:(x==("__classdict__":Str))=false:=by decide)(hs:starEach [e] X.env=(false,eval e X.env) ::starEach [] X.env:=by rfl)(rT:(apos.endLine==dR.line)=true:=by rfl)(yT:((backTo dR (starEach [e] X.env)).all (fun x=>!x.1) && (backToKw dR (keywordEach [] X.env)).all (fun x=>x.1.isSome)
 && decide (([e]:List Expr).length+([]:List Keyword).length+(if([]:List Keyword).isEmpty then 0 else 1) < 30))=true:=by rfl) (GC:swapsWith (.Call (.Attribute (.Name x lF) "append" apos) [e] [] dR) none pos.line X.env=pure false:=by rfl) (rR:attributeBase (.Name x lF) "append" X.env (eval (.Name x lF) X.env)=eval (.Name x lF) X.env:=by rfl):GR X (.Expr (.Call (.Attribute (.Name x lF) "append" apos) [e] [] dR) pos) (Bm i f):=⟨FI hN hv he.1 hd sN hs rT yT GC rR⟩
theorem DB(i:Nat){F:FS}(h:su X Hi F):su X Hi (F4 i F):=⟨E9 i h.1⟩
theorem ck(he:QD X e f):GR X (.Return (some e) pos) (jw f):=⟨Gw he.1⟩
theorem lJ{fc:ak->R Bool}{F G:FS}(hc:QB X c fc)(ha:su X a F)(hb:su X b G):GR X (.If c a b pos) (Be fc F G):=⟨Jy hc.1 ha.1 hb.1⟩
theorem bt{i:Nat}{pos:Pos}(hN:X.N.Nodup)(hi:X.N[i]? =some x)(hx:Loc X.env.scope x)(hf:X.fn x=true\/X.env.scope.names.lookup x=some .local:=by first | exact .inl rfl | exact .inr rfl | assumption):KP X (.Name x pos) (bq i):=⟨C9 hN hi hx hf⟩
theorem oF:Fb X [] pf:=⟨BX⟩
theorem fO{u:Bu}(h1:KP X e t)(h2:Fb X es u)(hs:(assignEach (e ::es) X.env).map (·.2)=assign e X.env ::(assignEach es X.env).map (·.2):=by rfl):Fb X (e ::es) (eO t u):=⟨AB h1.1 h2.1 hs⟩
theorem qG{k:Nat}{t:Bu}{n:Nat}{pos:Pos}(hc:X.calm=true)(h:Fb X es t)(hn:(assignEach es X.env).length=n:=by rfl)(D5:(assignEach es X.env).findIdx? (·.1)=none:=by rfl):KP X (.Tuple es k pos) (o9 n t):=⟨Fp hc h.1 hn D5⟩
theorem bE(h:QD X e f):ye X tg e (cS f):=⟨F8 h.1⟩
theorem i0{tg a:Expr}{p pos:Pos}(h:QD X a f)(hg:Gl X "range")(hm:X.mg "range"=none)(hs:starEach [a] X.env=[(false,eval a X.env)]:=by rfl):ye X tg (.Call (.Name "range" p) [a] [] pos) (kL f):=⟨xD h.1 hg hm hs⟩
theorem rj{it:ak->R (List D)}{F:FS}{pos:Pos}(hp:PassesOwn (model X.prog X.w) X.A X.env X.xe)(hc:X.calm=true)(hi:ye X tg iter it)(hg:KP X tg t)(hb:su X body F)(hs:∀x,foldedSetIterable iter X.env x=pure x:=by intro _;rfl):GR X (.For tg iter body [] pos) (yB it t F):=⟨FH hp hc hi.1 hg.1 hb.1 hs⟩
theorem c_{own:List Str}{kp:List Nat}{kn:List Str}{it:ak->R (List D)}{c:ak->R Bool}{pos:Pos}(hc:X.calm=true)(C:bL X scope own kp kn)(hi:ye X tg iter it)(hg:∀fp s H,KP (bp X scope (own++kn) fp s H) tg t)(DX:∀fp s H,IA (bp X scope (own++kn) fp s H) ifs c)(he:∀fp s H,QD (bp X scope (own++kn) fp s H) elt f)(hs:∀x,foldedSetIterable iter X.env x=pure x:=by intro _;rfl):QN X (.ListComp elt [⟨tg,iter,ifs,0⟩] scope pos) (ef it t c f own kp):=⟨Gx hc C hi.1 (fun fp s H=>(hg fp s H).1) (fun fp s H=>(DX fp s H).1) (fun fp s H=>(he fp s H).1) hs⟩
theorem dF:IA X [] k8:=⟨By⟩
theorem qq{c:ak->R Bool}(h:QB X e c):IA X [e] c:=⟨F_ h.1⟩
theorem aH(ha:QD X a fa)(hb:QD X b fb)(hs:p8 b):QD X (.Subscript a b pos) (e2 cN fa fb):=⟨KA ha.1 hb.1 hs⟩
theorem nj:QP X none t_:=⟨Fc⟩
theorem m5(h:QD X e f):QP X (some e) (ph f):=⟨Fy h.1⟩
theorem u9{lo hi:Option Expr}{fl fh:FO}(he:QD X e f)(hl:QP X lo fl)(hh:QP X hi fh):QD X (.Subscript e (.Slice lo hi none p2) pos) (GY f fl fh):=⟨K5 he.1 hl.1 hh.1⟩
theorem lS{elts:List Expr}{k:Nat}{oY:Pos}{p pos:Pos}(h:QD X a f)(hg:Gl X "enumerate")(hm:X.mg "enumerate"=none)(hs:starEach [a] X.env=[(false,eval a X.env)]:=by rfl):ye X (.Tuple elts k oY) (.Call (.Name "enumerate" p) [a] [] pos) (ip f):=⟨vZ h.1 hg hm hs⟩
theorem dH{P:Program}{w:World}{K:W.Frag}{mg:Ut}{base:Heap}{x qual:Str}{st:Stmt}{f:Addr}{fd:FuncData}{N ps:List Str}{k:Nat}{F:FS}{b:List Stmt}{sc:Scope}(hb:aJ st=b)(hs:ax st=sc)(Fn:zk K x qual st f fd)(S:aY N ps sc)(j1:∀(dI:Value) (A:Around) (outer:List Env) (s:Shared) (H:Hp) (E:XK),dQ k (A.deeper (envOfC qual sc s.heap.objs.size f dI))->
 su (qm rZ P w K mg base N qual sc f dI A outer s H E).F6 b F):gH P w K mg base rZ (k+1) f fd ps (Dz K ps.length (wz N F)):=Cm hb hs Fn S (fun dI A outer s H E hr=>(j1 dI A outer s H E hr).1)
theorem cP{g:List D->R D}{k j n:Nat}{p pos:Pos}{fs:ak->R (List D)}(C:Callee X.prog X.w X.K X.mg X.base k x n g)(hr:dQ j X.A)(DT:k<=j)(hg:Gl X x)(ha:GW X (e ::es) fs)(hn:∀δ ds,fs δ= .ok ds->ds.length=n)(nR:(x==("__debug__":Str))=false:=by decide)(he:starEach (e ::es) X.env=(false,eval e X.env) ::starEach es X.env:=by rfl)(kG:(backTo pos (starEach es X.env)).any (·.1)=false:=by rfl):QD X (.Call (.Name x p) (e ::es) [] pos) (aS g fs):=⟨BW C hr DT hg ha.1 hn nR he kG⟩
end
end L2
end
section
namespace L2
open PySem PySem.Spec PyProof.Rows
theorem AJ{P:Program}{w:World}{K:W.Frag}{mg mb:Ut}{CX:B_}{k:Nat}{fa a:Addr}{fd:FuncData}{x:Str}{sp:Sp}{s₁:Shared}{vs:List Value}{ns:List Int}
 (KX:K.In s₁.heap) (Qa:s₁.heap.Ns mainGlobals mg) (hb:s₁.heap.Ns builtinsNs mb) (Sr:∀x:Str,x≠"__name__"->mb x=bootBuiltins x) (N6:s₁.heap.NoLimit) (hg:s₁.gens=#[])
 (ha:s₁.heap.get? a=some {cls:= .type "list",data:= .seq vs.toArray}) (hi:IntsAre vs ns) (hl:ns.length<=sizeLine) (hr:dQ k callerA)
 (F:∀base:Heap,K.In base->base.Ns mainGlobals mg->gH P w K mg base CX k fa fd [x] sp) (LP:∀(s:Shared) (u:Value),BindsTo s fd ⟨[u],[]⟩ [(x,u)])
 (J4:∀H:Hp,Ly H->rY K [] H a (ns.map V.int)->sp [.ref a] H (fun v _=>v= .bl true) fun _ _ _=>False)
 (SQ:∀H e s',CX [] H s₁ (fun _ _ _=>False) e s'->False) :
 codeAny (model P w) callerA (.call (.ref fa) ⟨[.ref a],[]⟩) (fun r s'=>r= .ok (.ret (.bool true))/\OldK s₁.heap s'.heap/\s'.os=s₁.os/\AllBare s'.gens) s₁:=by
 have rv:=tG hi;have lenV:=hi.length;have core:∀H:Hp,Ly H->rY K [] H a (ns.map V.int)->lT P w H s₁.heap->(∀b,H b≠none->b=a)->(H a≠none->K.lookup a=none)->
  codeAny (model P w) callerA (.call (.ref fa) ⟨[.ref a],[]⟩) (fun r s'=>r= .ok (.ret (.bool true))/\OldK s₁.heap s'.heap/\s'.os=s₁.os/\AllBare s'.gens) s₁:=by
  intro H hO hS hok hA hK;have z7:∀{b:Addr} {o:Obj},s₁.heap.get? b=some o->H b=none->(vc s₁.heap H).get? b=some o:=fun e n=>BO e n
  have noA:∀{b:Addr} {o:Obj} {es:Array DictEntry} {ep:Nat},s₁.heap.get? b=some o->o.data= .dict es ep->H b=none:=fun {b o es ep} e d=>by
   cases q:H b with
   | none=>rfl
   | some u=>
     have e':b=a:=hA b (by rw[q];simp)
     subst e';rw[ha] at e;cases e;have d':Data.seq vs.toArray _=Data.dict es ep:=d;cases d'
  have nsK:∀{b:Addr} {m:Ut},s₁.heap.Ns b m->(vc s₁.heap H).Ns b m:=fun {b m} ⟨o,es,ep,e,d,r⟩=>⟨o,es,ep,z7 e (noA e d),d,r⟩
  have hKb:K.In (vc s₁.heap H):=fun b o e=>z7 (KX b o e) (by
   cases q:H b with
   | none=>rfl
   | some u=>
     have e':b=a:=hA b (by rw[q];simp)
     subst e';rw[hK (by rw[q];simp)] at e;cases e)
  have hM:Mod K mg (vc s₁.heap H):=⟨hKb,nsK Qa,⟨mb,nsK hb,Sr⟩,let⟨mc,h1,h2⟩:=N6;⟨mc,nsK h1,h2⟩⟩
  have e0:yd P w K mg (vc s₁.heap H) callerA [] s₁ H:=⟨rfl,hM,fun b o e=>EO e,Nat.le_of_eq (Am _ _),trivial,fun b hb=>absurd (show b∈([]:List Addr) from hb) (by simp),hok, .of_eq hg⟩
  refine codeAny_mono ((F _ hKb (nsK Qa)).run callerA [] s₁ H ⟨[.ref a],[]⟩ [.ref a] [.ref a] _ _ hr e0 (LP s₁ (.ref a)) (.cons rfl .nil) (J4 H hO hS)) fun r s' h=>?_
  cases r with
  | error e=>exact(SQ H e s' h).elim
  | ok fl=>
    cases fl with
    | next=>exact False.elim h
    | brk=>exact False.elim h
    | cont=>exact False.elim h
    | ret u=>
      obtain⟨v,H',os,bare,un,Oq,r',q⟩:=h;have q':v= .bl true:=q;subst q';obtain rfl:u=Value.bool true:=r';refine⟨rfl,OldK.of_keep fun b o e=>?_,os,bare⟩
      cases q:H b with
      | none=>exact un.keep b o e q (by intro z;exact absurd (show b∈([]:List Addr) from z) (by simp)) (by simp)
      | some u=>
        rcases hO b with z | ⟨ob,xs,z⟩
        .rw [q] at z;cases z
        .have z2:=un.frzs b ob _ z;obtain⟨e1,_⟩:=hok b _ z;obtain⟨e2,_⟩:=Oq b _ z2;rw[e] at e1;cases e1;exact e2
 cases hk:K.lookup a with
 | some o=>
   have e:=KX a o hk;rw[ha] at e;cases e;refine core (fun _=>none) (fun _=> .inl rfl) (.inr ⟨vs,_,hk,by rw[List.length_map];exact hl,rv⟩) (fun b u z=>by have z':(none:Option HO)=some u:=z;cases z') (fun b z=>absurd rfl z) fun z=>absurd rfl z
 | none=>
   refine core (fun b=>if b=a then some (.jf {cls:= .type "list",data:= .seq vs.toArray} (.lst (ns.map V.int))) else none) (fun b=>?_) (.inl ⟨by simp, .inr ⟨{cls:= .type "list",data:= .seq vs.toArray},if_pos rfl⟩⟩) (fun b u z=>?_) (fun b z=>?_) fun _=>hk
   .by_cases hb:b=a
    .exact .inr ⟨_,_,if_pos hb⟩
    .exact .inl (if_neg hb)
   .by_cases hb:b=a
    .have z':=(if_pos hb).symm.trans z;cases z';subst hb;exact⟨ha,by rw[List.length_map];exact hl,vs,_,rv,ha⟩
    .have z':=(if_neg hb).symm.trans z;cases z'
   .by_cases hb:b=a
    .exact hb
    .exact absurd (if_neg hb) z
theorem ints_rep{K:W.Frag}{B:List Addr}:∀ns:List Int,av K B H (ns.map D.int) (ns.map V.int)
 | []=>av.nil
 | n ::ns=>av.cons (Rep.int.mpr rfl) (ints_rep ns)
theorem K_{l:PySem.W.OpenLaw}{n k:Nat}{q:Program}{loose:List Str}{XP:(Str->Option Value)->Heap->Prop}{YP:World->Heap->Prop}{d:DefRec}{K:Params->W.Frag}{x:Str}{g:List D->R D}
 (hn:l.most=some n) (MC:n<=sizeLine) (Oo:d.params.defaults=[]) (hr:dQ k callerA) (hY:∀(w:World) (h:Heap),YP w h->(K w.params).In h)
 (F:∀(w:World) (mg:Ut) (fa:Addr) (h:Heap),(K w.params).In h->h.Ns mainGlobals mg->mg d.name=some (.ref fa)->
   ∃fd:FuncData,(∀(s:Shared) (u:Value),BindsTo s fd ⟨[u],[]⟩ [(x,u)])/\∀base:Heap,(K w.params).In base->base.Ns mainGlobals mg->gH l.prog w (K w.params) mg base rZ k fa fd [x] (Dz (K w.params) 1 g))
 (hg:∀ns:List Int,ns.length<=n->g [.lst (ns.map D.int)]= .ok (.bl true)):PySem.W.WalkO q loose XP YP l.row.toRowW d [] (fun f vs=>PySem.call f vs):=by
 refine Att.vX hn Oo fun w s₀ s₁ mg mb fa o pm cd doc a vs ns G Y ho hd sN LU JM hints hlen N9=>?_
 have KX:=hY w _ Y;obtain⟨fd,hb,hF⟩:=F w mg fa _ KX G.T.g LU;refine AJ KX G.T.g G.T.b G.T.builtins G.T.nolimit N9 JM hints (Nat.le_trans hlen MC) hr hF hb (fun H hO hS=>?_) fun H e s' h=>h
 refine⟨rfl,[],[.lst (ns.map D.int)], .bl true,fun b hb=>(by cases hb),av.cons (Rep.lst.mpr ⟨_,_,rfl,hS,ints_rep ns⟩) av.nil,hg ns hlen,fun z H' _ r=>Rep.bl.mp r⟩
theorem cG{K:W.Frag}{h:Heap}{mg:Ut}{x:Str}{st:Stmt}{f:Addr}{oc:Value}{od an:Option Addr}{Et:Array (Option Value)}{kV doc pm dI ct:Value}(X:K.In h)(G:h.Ns mainGlobals mg)(a:PySem.W.nsIn K mainGlobals x=some (some (.ref f)))
 (l:K.lookup f=some ⟨oc,od, .func (PySem.W.fnOf x x (gg st) (aJ st) (ax st) .none kV doc pm an dI ct),Et⟩) (c:PySem.W.codeIn K dI x=true) (k:PySem.W.keepIn K (.ref f)=true):Def K mg x st:=
 ⟨f,_,oi l c k,PySem.W.mg_of X G a⟩
end L2
end
section
namespace L2
open PySem PySem.Spec PyProof.Rows
theorem qz{t:FT}{body:FS}:∀(ds:List D) (n:Nat) (P:Nat->ak->Prop) {δ:ak},P n δ->
 (∀i d δ,ds[i]? =some d->P (n+i) δ->∃dr,((t d δ).bind body)= .ok (.nx dr)/\P (n+i+1) dr)->∃dr,o4 t body ds δ= .ok (.nx dr)/\P (n+ds.length) dr
 | [],n,P,δ,h0,_=>⟨δ,rfl,h0⟩
 | d ::ds,n,P,δ,h0,hs=>by
   obtain⟨cz,e1,p1⟩:=hs 0 d δ rfl h0;obtain⟨d7,e2,p2⟩:=qz ds (n+1) P p1 (fun i d' dr hi hp=>by
    have:=hs (i+1) d' dr (by simpa using hi) (by rw[show n+(i+1)=n+1+i by omega];exact hp)
    rw[show n+(i+1)+1=n+1+i+1 by omega] at this
    exact this)
   refine⟨d7,?_,by rw[List.length_cons,show n+(ds.length+1)=n+1+ds.length by omega];exact p2⟩
   obtain⟨T8,h1,h2⟩:=R.ab e1;show(t d δ).bind (fun cz=>(body cz).bind fun o=>match o with | .nx d7=>o4 t body ds d7 | .rt r=> .ok (.rt r))=_
   rw[h1,R.aN,h2,R.aN];exact e2
theorem og{t:FT}{body:FS}{ds:List D}(P:Nat->ak->Prop){δ:ak}(h0:P 0 δ)
 (hs:∀i d δ,ds[i]? =some d->P i δ->∃dr,((t d δ).bind body)= .ok (.nx dr)/\P (i+1) dr):∃dr,o4 t body ds δ= .ok (.nx dr)/\P ds.length dr:=by
 have:=qz (t:=t) (body:=body) ds 0 P h0 (fun i d δ hi hp=>by simpa using hs i d δ hi (by simpa using hp))
 simpa using this
theorem xw{α:Type} [DecidableEq α]:∀(L F:List α),L.Nodup->(∀x∈L,x∈F)->L.length<=F.length
 | [],_,_,_=>Nat.zero_le _
 | x ::L,F,hn,hs=>by
   obtain⟨h1,h2⟩:=List.nodup_cons.mp hn;have hx:x∈F:=hs x List.mem_cons_self;have ih:=xw L (F.erase x) h2 (fun y hy=>(List.mem_erase_of_ne (fun(e:y=x)=>h1 (by rw[<-e];exact hy))).mpr (hs y (List.mem_cons_of_mem _ hy)))
   rw[List.length_erase_of_mem hx] at ih;have:0 < F.length:=List.length_pos_of_mem hx;rw[List.length_cons];omega
theorem n9{α:Type}{xs:List α}{i:Int}(h0:0<=i)(h:i.toNat < xs.length):pj xs i=some xs[i.toNat]:=by
 unfold pj yb;rw[if_pos h0,if_pos (by omega)]
 simp [h]
theorem ints_map:∀ss:List Int,ints? (ss.map D.int)=some ss
 | []=>rfl
 | s ::ss=>by show(ints? (ss.map D.int)).map (s ::·)=_;rw [ints_map ss];rfl
theorem cu{F G:FS}{δ cz:ak}{r:R Out}(h:F δ= .ok (.nx cz))(h2:G cz=r):kJ F G δ=r:=by unfold kJ;rw [h,R.aN];exact h2
theorem eD{f:ak->R (List D)}{δ:ak}{ds:List D}(h:f δ= .ok ds):eNew f δ= .ok (.lst ds):=by unfold eNew;rw [h];rfl
theorem sR{c:ak->R Bool}{F G:FS}{δ:ak}{r:R Out}(h:c δ= .ok true)(h2:F δ=r):Be c F G δ=r:=by unfold Be;rw [h,R.aN,if_pos rfl];exact h2
theorem jT{c:ak->R Bool}{F G:FS}{δ:ak}{r:R Out}(h:c δ= .ok false)(h2:G δ=r):Be c F G δ=r:=by unfold Be;rw [h,R.aN,if_neg (by decide)];exact h2
theorem um{it:ak->R (List D)}{F:FS}{δ:ak}{ds:List D}{r:R Out}(h:it δ= .ok ds)(h2:o4 t F ds δ=r):yB it t F δ=r:=by unfold yB;rw [h,R.aN];exact h2
theorem cU{f:FD}{δ:ak}{d:D}(h:f δ= .ok d):jw f δ= .ok (.rt d):=by unfold jw;rw [h];rfl
theorem d4{N:List Str}{F:FS}{ds:List D}{d:D}(h:F (fP N ds)= .ok (.rt d)):wz N F ds= .ok d:=by unfold wz;rw [h];rfl
theorem bJ{α:Type}{p:Prop} [Decidable p](r:R α)(h:p):R.bg (decide p) r=r:=by rw[decide_eq_true h];rfl
theorem qe{i:Nat}{f:FD}{δ:ak}{d:D}(h:f δ= .ok d)(hi:i < δ.length):wa i f δ= .ok (.nx (δ.set i (.val d))):=by unfold wa;rw [h,R.aN,bJ _ hi]
theorem Fq{i:Nat}{f:ak->R (List D)}{δ:ak}{ds:List D}(h:f δ= .ok ds)(hi:i < δ.length):Ae i f δ= .ok (.nx (δ.set i (.bld ds))):=by unfold Ae;rw [h,R.aN,bJ _ hi]
theorem EF{i:Nat}{f:FD}{δ:ak}{d:D}{ds:List D}(h:f δ= .ok d)(hb:δ[i]? =some (.bld ds))(hl:ds.length < sizeLine):Bm i f δ= .ok (.nx (δ.set i (.bld (ds++[d])))):=by unfold Bm tS;rw [h,R.aN,hb];show R.bg _ _=_;rw [bJ _ hl]
theorem dc{it:ak->R (List D)}{c:ak->R Bool}{own:List Str}{kp:List Nat}{δ:ak}{ds ys:List D}(h1:it δ= .ok ds)(h2:ds.length<=sizeLine)(h3:nH t c f (sd own kp δ) ds= .ok ys):ef it t c f own kp δ= .ok ys:=by unfold ef;rw [h1,R.aN,bJ _ h2,h3]
theorem ym{ds:List D}{i:Int}{d:D}(h:pj ds i=some d):cN (.lst ds) (.int i)= .ok d:=by unfold cN;simp only[h]
theorem ud{ds:List D}{i:Int}{d:D}(h:pj ds i=some d):cN (.tup ds) (.int i)= .ok d:=by unfold cN;simp only[h]
end L2
end
section
namespace L2
open PySem PySem.Spec PyProof.Rows
theorem ay{g:D->D->R D}{fa fb:FD}{δ:ak}{a b:D}{r:R D}(ha:fa δ= .ok a)(hb:fb δ= .ok b)(h:g a b=r):e2 g fa fb δ=r:=by unfold e2;rw [ha,R.aN,hb,R.aN];exact h
theorem jZ{g:D->D->R D}{fa fb:FD}{δ:ak}{a b:D}{k:Bool}(ha:fa δ= .ok a)(hb:fb δ= .ok b)(h:g a b= .ok (.bl k)):b2 g fa fb δ= .ok k:=by unfold b2;rw [ay ha hb h];rfl
theorem aV{f:FD}{g:ak->R (List D)}{δ:ak}{d:D}{ds:List D}(h:f δ= .ok d)(h2:g δ= .ok ds):aw f g δ= .ok (d ::ds):=by unfold aw;rw [h,R.aN,h2];rfl
theorem aM{g:List D->R D}{fs:ak->R (List D)}{δ:ak}{ds:List D}{r:R D}(h:fs δ= .ok ds)(h2:g ds=r):aS g fs δ=r:=by unfold aS;rw [h,R.aN];exact h2
theorem g9{g:ak->R (List D)}{δ:ak}{ds:List D}(h:g δ= .ok ds)(hl:ds.length<=sizeLine):kI g δ= .ok (.tup ds):=by unfold kI;rw [h,R.aN,bJ _ hl]
theorem qa{g:ak->R (List D)}{δ:ak}{ds:List D}(h:g δ= .ok ds)(hl:ds.length<=sizeLine):j0 g δ= .ok ds:=by unfold j0;rw [h,R.aN,bJ _ hl]
theorem uN{f:FD}{fl fh:FO}{δ:ak}{d:D}{lo hi:Option Int}{r:R D}(h:f δ= .ok d)(h1:fl δ= .ok lo)(h2:fh δ= .ok hi)(h3:Hb d lo hi=r):GY f fl fh δ=r:=by unfold GY;rw [h,R.aN,h1,R.aN,h2,R.aN];exact h3
theorem vQ{f:FD}{δ:ak}{i:Int}(h:f δ= .ok (.int i)):ph f δ= .ok (some i):=by unfold ph;rw [h];rfl
theorem BD{a b:Int}(h:0 < b):qM (.int a) (.int b)= .ok (.int (a % b)):=by unfold qM vx;exact bJ _ h
theorem E_{a b:Int}(h:0 < b)(h2:b < 1073741824):vK (.int a) (.int b)= .ok (.int (a / b)):=by unfold vK vx;exact bJ _ ⟨h,h2⟩
theorem qf{f:FD}{δ:ak}{n:Nat}(h:f δ= .ok (.int n))(hn:n < 1000000):kL f δ= .ok (gI 0 n):=by
 unfold kL;rw [h,R.aN];show R.bg (decide (-(2 ^ 62)<=(n:Int)/\(n:Int) < 2 ^ 62)) _=_;rw[bJ _ ⟨by omega,by omega⟩,Int.toNat_natCast]
theorem eP{f:FD}{δ:ak}{ds:List D}(h:f δ= .ok (.lst ds)):cS f δ= .ok ds:=by unfold cS;rw [h];rfl
theorem xY{f:FD}{δ:ak}{ds:List D}(h:f δ= .ok (.tup ds)):cS f δ= .ok ds:=by unfold cS;rw [h];rfl
theorem Ih{f:FD}{δ:ak}{ds:List D}(h:f δ= .ok (.lst ds)):ip f δ= .ok (bO ds):=by unfold ip;rw [h];rfl
theorem mE(ds:List D):gx [.lst ds]= .ok (.int ds.length):=rfl
end L2
end
section
namespace L3
open PySem PySem.Spec PyProof.Rows L2
inductive V3 where
 | d (x:D) | loc (k:Nat) | lst (vs:List V3) | tup (vs:List V3)
inductive SO where
 | lst (ds:List D) | dct (kvs:List (Key × D)) | ins (c:Nat) (fs:List (Str × V3)) | jf
abbrev aD:=List SO
inductive R3 (α:Type) where
 | ok (a:α) (S:aD) | ex (c:Nat) (S:aD) | no
def R3.bind{α β:Type}:R3 α->(α->aD->R3 β)->R3 β
 | .ok a S,f=>f a S
 | .ex c S,_=> .ex c S
 | .no,_=> .no
theorem R3.ab{α β:Type}{r:R3 α}{f:α->aD->R3 β}{b:β}{S':aD}(h:r.bind f= .ok b S'):∃a S,r= .ok a S/\f a S= .ok b S':=by
 cases r with
 | ok a S=>exact⟨a,S,rfl,h⟩
 | ex c S=>cases h
 | no=>cases h
@[simp] theorem R3.aN{α β:Type}(a:α)(S:aD)(f:α->aD->R3 β):(R3.ok a S).bind f=f a S:=rfl
def R3.bg{α:Type}(c:Bool)(r:R3 α):R3 α:=if c then r else .no
theorem R3.aP{α:Type}{c:Bool}{r:R3 α}{a:α}{S:aD}(h:R3.bg c r= .ok a S):c=true/\r= .ok a S:=by
 cases c with
 | true=>exact⟨rfl,h⟩
 | false=>cases h
def R3.of{α:Type}(r:R α)(S:aD):R3 α:=match r with | .ok a=> .ok a S | _=> .no
theorem R3.of_ok{α:Type}{r:R α}{S S':aD}{a:α}(h:R3.of r S= .ok a S'):r= .ok a/\S'=S:=by
 cases r with
 | ok b=>cases h;exact⟨rfl,rfl⟩
 | ex c=>cases h
 | no=>cases h
structure P3 where
 r:List Addr
 z:List Addr
 f:List Addr
def P3.b(ρ:P3):List Addr:=ρ.r.filter (fun a=>!ρ.f.contains a)++ρ.z
theorem P3.dt{ρ:P3}{a:Addr}:a∈ρ.b↔(a∈ρ.r/\a ∉ ρ.f)\/a∈ρ.z:=by
 unfold P3.b;rw[List.mem_append,List.mem_filter];simp
def P3.push(ρ:P3)(a:Addr):P3:=⟨ρ.r++[a],ρ.z,ρ.f⟩
def P3.cut(ρ:P3)(n:Nat):P3:=⟨ρ.r.take n,ρ.z,ρ.f⟩
mutual
def aK(K:W.Frag)(ρ:P3)(H:Hp):V3->V->Prop
 | .d x,v=>Rep K ρ.b H x v
 | .loc k,v=>∃a,ρ.r[k]? =some a/\v= .ref a
 | .lst vs,v=>∃a xs,v= .ref a/\rY K ρ.b H a xs/\au K ρ H vs xs
 | .tup vs,v=>∃a xs,v= .ref a/\tR K ρ.b H a xs/\au K ρ H vs xs
def au(K:W.Frag)(ρ:P3)(H:Hp):List V3->List V->Prop
 | [],xs=>xs=[]
 | d ::ds,xs=>∃x r,xs=x ::r/\aK K ρ H d x/\au K ρ H ds r
end
structure Pre (ρ:P3) (H:Hp) (bW:P3) (H':Hp):Prop where
 aU:cZ ρ.b H bW.b H'
 zz:bW.z=ρ.z
 zs:∀(b:Addr) (o:HO),b∈ρ.z->H b=some o->H' b=some o
 ext:∀(k:Nat) (a:Addr),ρ.r[k]? =some a->bW.r[k]? =some a
theorem Pre.refl(ρ:P3)(H:Hp):Pre ρ H ρ H:=⟨cZ.refl ρ.b H,rfl,fun _ _ _ h=>h,fun _ _ h=>h⟩
theorem Pre.trans(a:Pre ρ H bW H')(b:Pre bW H' D2 kK):Pre ρ H D2 kK:=⟨a.aU.trans b.aU,b.zz.trans a.zz,fun c o hc h=>b.zs c o (by rw[a.zz];exact hc) (a.zs c o hc h),fun k x h=>b.ext k x (a.ext k x h)⟩
theorem Pre.same(s:aI H H'):Pre ρ H ρ H':=⟨cZ.same s,rfl,fun b o _ h=>s b o h,fun _ _ h=>h⟩
theorem tR.aU{K:W.Frag}{B B':List Addr}(p:cZ B H B' H'){a:Addr}{xs:List V}(l:tR K B H a xs):tR K B' H' a xs:=
 l.elim (fun z=> .inl ⟨(p.rd z.2 z.1).2,(p.rd z.2 z.1).1⟩) .inr
mutual
theorem aK.pre{K:W.Frag}(p:Pre ρ H bW H'):∀{d:V3} {v:V},aK K ρ H d v->aK K bW H' d v
 | .d x,v,h=>by unfold aK at h ⊢;exact h.aU p.aU
 | .loc k,v,h=>by unfold aK at h ⊢;obtain⟨a,h1,h2⟩:=h;exact⟨a,p.ext k a h1,h2⟩
 | .lst vs,v,h=>by unfold aK at h ⊢;obtain⟨a,xs,e,l,r⟩:=h;exact⟨a,xs,e,l.aU p.aU,au.pre p r⟩
 | .tup vs,v,h=>by unfold aK at h ⊢;obtain⟨a,xs,e,l,r⟩:=h;exact⟨a,xs,e,tR.aU p.aU l,au.pre p r⟩
theorem au.pre{K:W.Frag}(p:Pre ρ H bW H'):∀{ds:List V3} {xs:List V},au K ρ H ds xs->au K bW H' ds xs
 | [],_,h=>by unfold au at h ⊢;exact h
 | d ::ds,xs,h=>by
   unfold au at h ⊢;obtain⟨x,r,e,h1,h2⟩:=h;exact⟨x,r,e,aK.pre p h1,au.pre p h2⟩
end
structure PW (ρ:P3) (H:Hp) (bW:P3) (H':Hp):Prop where
 aU:cZ ρ.b H bW.b H'
 ext:∀(k:Nat) (a:Addr),ρ.r[k]? =some a->bW.r[k]? =some a
theorem Pre.pw(p:Pre ρ H bW H'):PW ρ H bW H':=⟨p.aU,p.ext⟩
theorem PW.trans(a:PW ρ H bW H')(b:PW bW H' D2 kK):PW ρ H D2 kK:=⟨a.aU.trans b.aU,fun k x h=>b.ext k x (a.ext k x h)⟩
mutual
theorem aK.pw{K:W.Frag}(p:PW ρ H bW H'):∀{d:V3} {v:V},aK K ρ H d v->aK K bW H' d v
 | .d x,v,h=>by unfold aK at h ⊢;exact h.aU p.aU
 | .loc k,v,h=>by unfold aK at h ⊢;obtain⟨a,h1,h2⟩:=h;exact⟨a,p.ext k a h1,h2⟩
 | .lst vs,v,h=>by unfold aK at h ⊢;obtain⟨a,xs,e,l,r⟩:=h;exact⟨a,xs,e,l.aU p.aU,au.pw p r⟩
 | .tup vs,v,h=>by unfold aK at h ⊢;obtain⟨a,xs,e,l,r⟩:=h;exact⟨a,xs,e,tR.aU p.aU l,au.pw p r⟩
theorem au.pw{K:W.Frag}(p:PW ρ H bW H'):∀{ds:List V3} {xs:List V},au K ρ H ds xs->au K bW H' ds xs
 | [],_,h=>by unfold au at h ⊢;exact h
 | d ::ds,xs,h=>by
   unfold au at h ⊢;obtain⟨x,r,e,h1,h2⟩:=h;exact⟨x,r,e,aK.pw p h1,au.pw p h2⟩
end
theorem au.nil{K:W.Frag}:au K ρ H [] []:=by unfold au;rfl
theorem au.cons{K:W.Frag}{d:V3}{ds:List V3}{x:V}{xs:List V}(h:aK K ρ H d x)(t:au K ρ H ds xs):au K ρ H (d ::ds) (x ::xs):=by
 unfold au;exact⟨x,xs,rfl,h,t⟩
theorem au.bu{K:W.Frag}{d:V3}{ds:List V3}{xs:List V}(h:au K ρ H (d ::ds) xs):∃x r,xs=x ::r/\aK K ρ H d x/\au K ρ H ds r:=by
 unfold au at h;exact h
theorem au.length{K:W.Frag}:∀{ds:List V3} {xs:List V},au K ρ H ds xs->ds.length=xs.length
 | [],_,h=>by unfold au at h;rw [h];rfl
 | d ::ds,xs,h=>by
   obtain⟨x,r,rfl,_,h2⟩:=h.bu;simp [h2.length]
theorem au.of{K:W.Frag}{ρ:P3}:∀{ds:List D} {xs:List V},av K ρ.b H ds xs->au K ρ H (ds.map .d) xs
 | [],_,h=>by unfold av at h;subst h;exact au.nil
 | d ::ds,xs,h=>by
   obtain⟨x,r,rfl,h1,h2⟩:=h.bu;exact au.cons (by unfold aK;exact h1) (au.of h2)
theorem au.to{K:W.Frag}{ρ:P3}:∀{ds:List D} {xs:List V},au K ρ H (ds.map .d) xs->av K ρ.b H ds xs
 | [],_,h=>by unfold au at h;subst h;exact av.nil
 | d ::ds,xs,h=>by
   obtain⟨x,r,rfl,h1,h2⟩:=au.bu h;unfold aK at h1;exact av.cons h1 (au.to h2)
def CS(K:W.Frag)(cl:Uu)(ρ:P3)(H:Hp):SO->Option HO->Prop
 | .lst ds,h=>∃xs,h=some (.lst xs)/\av K ρ.b H ds xs
 | .dct kvs,h=>∃ys,h=some (.dK ys)/\ys.map (·.1)=kvs.map (·.1)/\av K ρ.b H (kvs.map (·.2)) (ys.map (·.2))
 | .ins c fs,h=>∃dx ys,h=some (.ins (cl c) dx ys)/\ys.map (·.1)=fs.map (·.1)/\au K ρ H (fs.map (·.2)) (ys.map (·.2))
 | .jf,h=>∃u,h=some u
theorem CS.pre{K:W.Frag}{cl:Uu}(p:Pre ρ H bW H'){o:SO}{h:Option HO}(r:CS K cl ρ H o h):CS K cl bW H' o h:=by
 cases o with
 | lst ds=>obtain⟨xs,e,q⟩:=r;exact⟨xs,e,q.aU p.aU⟩
 | dct kvs=>obtain⟨ys,e,e2,q⟩:=r;exact⟨ys,e,e2,q.aU p.aU⟩
 | ins c fs=>obtain⟨dx,ys,e,e2,q⟩:=r;exact⟨dx,ys,e,e2,q.pre p⟩
 | jf=>exact r
theorem CS.pw{K:W.Frag}{cl:Uu}(p:PW ρ H bW H'){o:SO}{h:Option HO}(r:CS K cl ρ H o h):CS K cl bW H' o h:=by
 cases o with
 | lst ds=>obtain⟨xs,e,q⟩:=r;exact⟨xs,e,q.aU p.aU⟩
 | dct kvs=>obtain⟨ys,e,e2,q⟩:=r;exact⟨ys,e,e2,q.aU p.aU⟩
 | ins c fs=>obtain⟨dx,ys,e,e2,q⟩:=r;exact⟨dx,ys,e,e2,q.pw p⟩
 | jf=>exact r
theorem CS.some{K:W.Frag}{cl:Uu}{o:SO}{h:Option HO}(r:CS K cl ρ H o h):∃u,h=some u:=by
 cases o with
 | lst ds=>obtain⟨xs,e,q⟩:=r;exact⟨_,e⟩
 | dct kvs=>obtain⟨ys,e,e2,q⟩:=r;exact⟨_,e⟩
 | ins c fs=>obtain⟨dx,ys,e,e2,q⟩:=r;exact⟨_,e⟩
 | jf=>exact r
structure SW (K:W.Frag) (cl:Uu) (ρ:P3) (H:Hp) (S:aD):Prop where
 len:ρ.r.length=S.length
 nd:∀(i j:Nat) (a:Addr),ρ.r[i]? =some a->ρ.r[j]? =some a->i=j
 ob:∀(k:Nat) (a:Addr) (o:SO),ρ.r[k]? =some a->S[k]? =some o->CS K cl ρ H o (H a)
 zb:∀b∈ρ.z,(∃xs,H b=some (.lst xs))/\b ∉ ρ.r
 fz:∀(k:Nat) (a:Addr),ρ.r[k]? =some a->S[k]?≠some .jf->a ∉ ρ.f
 ff:∀a∈ρ.f,∃o,H a=some o
 fi:∀(k:Nat) (a:Addr),ρ.r[k]? =some a->S[k]? =some .jf->a∈ρ.f
theorem SW.rs{K:W.Frag}{cl:Uu}{ρ:P3}{H:Hp}{S:aD}(w:SW K cl ρ H S):∀a∈ρ.r,∃o,H a=some o:=fun a z=>by
 obtain⟨k,hk⟩:=List.getElem?_of_mem z;have hl:=(List.getElem?_eq_some_iff.mp hk).1;exact(w.ob k a _ hk (List.getElem?_eq_getElem (by rw[<-w.len];exact hl))).some
theorem SW.bs{K:W.Frag}{cl:Uu}{ρ:P3}{H:Hp}{S:aD}(w:SW K cl ρ H S):∀a∈ρ.b,∃o,H a=some o:=fun a ha=>by
 rcases P3.dt.mp ha with z | z
 .exact w.rs a z.1
 .obtain⟨xs,h⟩:=(w.zb a z).1;exact⟨_,h⟩
theorem SW.same{K:W.Frag}{cl:Uu}{S:aD}(w:SW K cl ρ H S)(s:aI H H'):SW K cl ρ H' S:=
 ⟨w.len,w.nd,fun k a o h1 h2=>by
   have r:=w.ob k a o h1 h2;obtain⟨u,hu⟩:=r.some;rw[s a u hu,<-hu];exact r.pre (Pre.same s),fun b hb=>let⟨⟨o,ho⟩,n⟩:=w.zb b hb;⟨⟨o,s b _ ho⟩,n⟩,w.fz,fun a ha=>let⟨o,ho⟩:=w.ff a ha;⟨o,s a o ho⟩,w.fi⟩
theorem P3.mem_push{ρ:P3}{a b:Addr}(h:b∈(ρ.push a).b):b∈ρ.b\/b=a:=by
 rcases P3.dt.mp h with⟨z,n⟩ | z
 .rcases List.mem_append.mp z with y | y
  .exact .inl (P3.dt.mpr (.inl ⟨y,n⟩))
  .exact .inr (List.mem_singleton.mp y)
 .exact .inl (P3.dt.mpr (.inr z))
theorem SW.new{K:W.Frag}{cl:Uu}{ρ:P3}{H H':Hp}{S:aD}(w:SW K cl ρ H S){a:Addr}{o:SO}(s:aI H H')(n:H a=none)(r:CS K cl (ρ.push a) H' o (H' a))(oP:o≠SO.jf:=by intro h;cases h) :
 SW K cl (ρ.push a) H' (S++[o])/\Pre ρ H (ρ.push a) H':=by
 have na:a ∉ ρ.b:=fun ha=>by obtain⟨o,ho⟩:=w.bs a ha;rw [n] at ho;cases ho
 have nr:a ∉ ρ.r:=fun ha=>by obtain⟨o,ho⟩:=w.rs a ha;rw [n] at ho;cases ho
 have nf:a ∉ ρ.f:=fun ha=>by obtain⟨o,ho⟩:=w.ff a ha;rw [n] at ho;cases ho
 have p:Pre ρ H (ρ.push a) H':=⟨fun b u e nb=>⟨s b u e,fun hb=>by
  rcases P3.mem_push hb with z | z
  .exact nb z
  .subst z;rw [n] at e;cases e⟩,rfl,fun b o _ h=>s b o h,fun k x hx=>by
   show(ρ.r++[a])[k]? =_;rw[List.getElem?_append_left (List.getElem?_eq_some_iff.mp hx).1];exact hx⟩
 have last:∀(i:Nat) (b:Addr),(ρ.push a).r[i]? =some b->(i < ρ.r.length/\ρ.r[i]? =some b)\/(i=ρ.r.length/\b=a):=fun i b h=>by
  have h:(ρ.r++[a])[i]? =some b:=h;by_cases q:i < ρ.r.length
  .rw [List.getElem?_append_left q] at h;exact .inl ⟨q,h⟩
  .rw [List.getElem?_append_right (by omega)] at h
   have h0:i - ρ.r.length=0:=by
    have:=(List.getElem?_eq_some_iff.mp h).1;simp at this;omega
   rw[h0] at h;cases h;exact .inr ⟨by omega,rfl⟩
 refine⟨⟨by show(ρ.r++[a]).length=_;rw [List.length_append,List.length_append,w.len];rfl,fun i j b hi hj=>?_,fun k b u hk hu=>?_,fun b hb=>?_,fun k b hk hu=>?_,fun b hb=>?_,fun k b hk hu=>?_⟩,p⟩
 .rcases last i b hi with⟨q1,q2⟩ | ⟨q1,rfl⟩
  .rcases last j b hj with⟨z1,z2⟩ | ⟨z1,rfl⟩
   .exact w.nd i j b q2 z2
   .exact absurd (List.mem_of_getElem? q2) nr
  .rcases last j b hj with⟨z1,z2⟩ | ⟨z1,z3⟩
   .exact absurd (List.mem_of_getElem? z2) nr
   .omega
 .rcases last k b hk with⟨q1,q2⟩ | ⟨q1,rfl⟩
  .rw [List.getElem?_append_left (by rw[<-w.len];exact q1)] at hu
   have r0:=w.ob k b u q2 hu;obtain⟨x,hx⟩:=r0.some;rw[s b x hx,<-hx];exact r0.pre p
  .rw [List.getElem?_append_right (by rw[<-w.len];omega),q1,w.len,Nat.sub_self] at hu
   cases hu;exact r
 .obtain⟨⟨o,ho⟩,nb⟩:=w.zb b hb;refine⟨⟨o,s b _ ho⟩,fun h=>?_⟩
  rcases List.mem_append.mp h with y | y
  .exact nb y
  .rw [List.mem_singleton] at y;subst y;rw [n] at ho;cases ho
 .rcases last k b hk with⟨q1,q2⟩ | ⟨q1,rfl⟩
  .rw [List.getElem?_append_left (by rw[<-w.len];exact q1)] at hu
   exact w.fz k b q2 hu
  .exact nf
 .obtain⟨o,ho⟩:=w.ff b hb;exact⟨o,s b o ho⟩
 .rcases last k b hk with⟨q1,q2⟩ | ⟨q1,rfl⟩
  .rw [List.getElem?_append_left (by rw[<-w.len];exact q1)] at hu
   exact w.fi k b q2 hu
  .rw [List.getElem?_append_right (by rw[<-w.len];omega),q1,w.len,Nat.sub_self] at hu
   cases hu;exact absurd rfl oP
theorem SW.put{K:W.Frag}{cl:Uu}{ρ:P3}{S:aD}(w:SW K cl ρ H S){k:Nat}{a:Addr}{o:SO}{u:HO}(hk:ρ.r[k]? =some a)(hf:a ∉ ρ.f)(r:CS K cl ρ H o (some u))(oP:o≠SO.jf:=by intro h;cases h) :
 SW K cl ρ (upd H a u) (S.set k o)/\Pre ρ H ρ (upd H a u):=by
 have ha:a∈ρ.r:=List.mem_of_getElem? hk;have hb:a∈ρ.b:=P3.dt.mpr (.inl ⟨ha,hf⟩);have nz:∀b∈ρ.z,b≠a:=fun b hb z=>(w.zb b hb).2 (by rw[z];exact ha)
 have p:Pre ρ H ρ (upd H a u):=⟨fun b x e nb=>⟨by rw[aQ (fun(z:b=a)=>nb (by rw[z];exact hb))];exact e,nb⟩,rfl,fun b o hb h=>by rw[aQ (nz b hb)];exact h,fun _ _ h=>h⟩
 have hl:k < S.length:=by rw[<-w.len];exact(List.getElem?_eq_some_iff.mp hk).1
 refine⟨⟨by rw[List.length_set];exact w.len,w.nd,fun j b x hj hx=>?_,fun b hb=>?_,fun j b hj hx=>?_,fun b hb=>?_,fun j b hj hx=>?_⟩,p⟩
 .by_cases q:k=j
  .subst q;rw[hk] at hj;cases hj;rw[List.getElem?_set_self hl] at hx;cases hx;rw[aL];exact r.pre p
  .rw [List.getElem?_set_ne q] at hx;have ne:b≠a:=fun z=>by subst z;exact q (w.nd k j b hk hj)
   rw[aQ ne];exact(w.ob j b x hj hx).pre p
 .obtain⟨⟨o,ho⟩,nb⟩:=w.zb b hb;exact⟨⟨o,by rw[aQ (nz b hb)];exact ho⟩,nb⟩
 .by_cases q:k=j
  .subst q;rw[hk] at hj;cases hj;exact hf
  .rw [List.getElem?_set_ne q] at hx;exact w.fz j b hj hx
 .obtain⟨o,ho⟩:=w.ff b hb;exact⟨o,by rw[aQ (fun z=>hf (by rw[<-z];exact hb))];exact ho⟩
 .by_cases q:k=j
  .subst q;rw[List.getElem?_set_self hl] at hx;cases hx;exact absurd rfl oP
  .rw [List.getElem?_set_ne q] at hx;exact w.fi j b hj hx
theorem SW.jf{K:W.Frag}{cl:Uu}{ρ:P3}{S:aD}(w:SW K cl ρ H S){k:Nat}{a:Addr}{ds:List D}(hk:ρ.r[k]? =some a)(hS:S[k]? =some (.lst ds)) :
 SW K cl ⟨ρ.r,ρ.z,a ::ρ.f⟩ H (S.set k .jf)/\Pre ρ H ⟨ρ.r,ρ.z,a ::ρ.f⟩ H/\Rep K (⟨ρ.r,ρ.z,a ::ρ.f⟩:P3).b H (.lst ds) (.ref a):=by
 have hl:k < S.length:=by rw[<-w.len];exact(List.getElem?_eq_some_iff.mp hk).1
 have sub:∀b,b∈(⟨ρ.r,ρ.z,a ::ρ.f⟩:P3).b->b∈ρ.b:=fun b hb=>by
  rcases P3.dt.mp hb with⟨z,n⟩ | z
  .exact P3.dt.mpr (.inl ⟨z,fun h=>n (List.mem_cons_of_mem _ h)⟩)
  .exact P3.dt.mpr (.inr z)
 have p:Pre ρ H ⟨ρ.r,ρ.z,a ::ρ.f⟩ H:=⟨fun b o e nb=>⟨e,fun hb=>nb (sub b hb)⟩,rfl,fun _ _ _ h=>h,fun _ _ h=>h⟩
 obtain⟨xs,e1,r1⟩:=w.ob k a _ hk hS;refine⟨⟨by rw[List.length_set];exact w.len,w.nd,fun j b x hj hx=>?_,w.zb,fun j b hj hx=>?_,fun b hb=>?_,fun j b hj hx=>?_⟩,p,?_⟩
 .by_cases q:k=j
  .subst q;rw[List.getElem?_set_self hl] at hx;cases hx;rw[hk] at hj;cases hj;exact⟨_,e1⟩
  .rw [List.getElem?_set_ne q] at hx;exact(w.ob j b x hj hx).pre p
 .by_cases q:k=j
  .subst q;rw[List.getElem?_set_self hl] at hx;exact absurd rfl hx
  .rw [List.getElem?_set_ne q] at hx;intro h;rcases List.mem_cons.mp h with z | z
   .subst z;exact q (w.nd k j b hk hj)
   .exact w.fz j b hj hx z
 .rcases List.mem_cons.mp hb with z | z
  .subst z;exact⟨_,e1⟩
  .exact w.ff b z
 .by_cases q:k=j
  .subst q;rw[hk] at hj;cases hj;exact List.mem_cons_self
  .rw [List.getElem?_set_ne q] at hx;exact List.mem_cons_of_mem _ (w.fi j b hj hx)
 .refine Rep.lst.mpr ⟨a,xs,rfl, .inl ⟨fun hb=>?_, .inl e1⟩,r1.aU p.aU⟩
  rcases P3.dt.mp hb with⟨_,n⟩ | z
  .exact n List.mem_cons_self
  .exact(w.zb a z).2 (List.mem_of_getElem? hk)
mutual
def vH:D->Bool
 | .lst _=>false
 | .dct _ _=>false
 | .tup ds=>v_ ds
 | _=>true
def v_:List D->Bool
 | []=>true
 | d ::ds=>vH d && v_ ds
end
mutual
theorem Rep.wg{K:W.Frag}{B:List Addr}(hB:∀b∈B,∀xs,¬Rd H b (.tup xs)):∀{d:D} {v:V},vH d=true->Rep K [] H d v->Rep K B H d v
 | .bQ,v,_,r=>Rep.bQ.mpr (Rep.bQ.mp r)
 | .bl _,v,_,r=>Rep.bl.mpr (Rep.bl.mp r)
 | .int _,v,_,r=>Rep.int.mpr (Rep.int.mp r)
 | .str _,v,_,r=>Rep.str.mpr (Rep.str.mp r)
 | .lst _,v,h,_=>by unfold vH at h;cases h
 | .dct _ _,v,h,_=>by unfold vH at h;cases h
 | .tup ds,v,h,r=>by
   unfold vH at h;obtain⟨a,xs,rfl,l,rs⟩:=Rep.tup.mp r;exact Rep.tup.mpr ⟨a,xs,rfl,l.elim (fun z=> .inl ⟨fun hb=>hB a hb xs z.2,z.2⟩) .inr,av.wg hB h rs⟩
theorem av.wg{K:W.Frag}{B:List Addr}(hB:∀b∈B,∀xs,¬Rd H b (.tup xs)):∀{ds:List D} {vs:List V},v_ ds=true->av K [] H ds vs->av K B H ds vs
 | [],_,_,r=>by unfold av at r;subst r;exact av.nil
 | d ::ds,vs,h,r=>by
   unfold v_ at h;obtain⟨h1,h2⟩:=Bool.and_eq_true_iff.mp h;obtain⟨x,xs,rfl,r1,r2⟩:=r.bu;exact av.cons (Rep.wg hB h1 r1) (av.wg hB h2 r2)
end
theorem SW.nt{K:W.Frag}{cl:Uu}{ρ:P3}{S:aD}(w:SW K cl ρ H S):∀b∈ρ.b,∀xs,¬Rd H b (.tup xs):=fun b hb xs h=>by
 have key:∀o,H b=some o->(∀xs,o≠ .tup xs)->(∀ob xs,o≠ .jf ob (.tup xs))->False:=fun o e h1 h2=>by
  rcases h with z | ⟨ob,z⟩
  .rw [e] at z;cases z;exact h1 _ rfl
  .rw [e] at z;cases z;exact h2 _ _ rfl
 rcases P3.dt.mp hb with⟨z,n⟩ | z
 .obtain⟨k,hk⟩:=List.getElem?_of_mem z;have hl:=(List.getElem?_eq_some_iff.mp hk).1;have hS:S[k]? =some (S[k]'(by rw[<-w.len];exact hl)):=List.getElem?_eq_getElem (by rw[<-w.len];exact hl)
  have r:=w.ob k b _ hk hS;generalize S[k]'(by rw[<-w.len];exact hl)=o at r hS
  cases o with
  | lst ds=>obtain⟨ys,e,_⟩:=r;exact key _ e (fun _ q=>by cases q) (fun _ _ q=>by cases q)
  | dct kvs=>obtain⟨ys,e,_⟩:=r;exact key _ e (fun _ q=>by cases q) (fun _ _ q=>by cases q)
  | ins c fs=>obtain⟨dx,ys,e,_⟩:=r;exact key _ e (fun _ q=>by cases q) (fun _ _ q=>by cases q)
  | jf=>exact n (w.fi k b hk hS)
 .obtain⟨⟨ys,e⟩,_⟩:=w.zb b z;exact key _ e (fun _ q=>by cases q) (fun _ _ q=>by cases q)
abbrev DE:=List (Option V3)
structure dX (K:W.Frag) (cl:Uu) (ρ:P3) (H:Hp) (S:aD) (σ:L2.St) (δ:DE):Prop where
 len:δ.length=σ.length
 sw:SW K cl ρ H S
 val:∀(i:Nat) (d:V3),δ[i]? =some (some d)->∃v,σ[i]? =some (some v)/\aK K ρ H d v
theorem dX.to{K:W.Frag}{cl:Uu}{S S':aD}{σ:L2.St}{δ:DE}(E:dX K cl ρ H S σ δ)(p:Pre ρ H bW H')(w:SW K cl bW H' S'):dX K cl bW H' S' σ δ:=
 ⟨E.len,w,fun i d e=>let⟨v,h1,h2⟩:=E.val i d e;⟨v,h1,h2.pre p⟩⟩
theorem dX.set{K:W.Frag}{cl:Uu}{S:aD}{σ:L2.St}{δ:DE}(E:dX K cl ρ H S σ δ){i:Nat}{d:V3}{v:V}(hi:i < σ.length)(r:aK K ρ H d v):dX K cl ρ H S (σ.set i (some v)) (δ.set i (some d)):=
 ⟨by rw[List.length_set,List.length_set];exact E.len,E.sw,fun j d' e=>by
   by_cases h:i=j
   .subst h;rw[List.getElem?_set_self (by rw[E.len];exact hi)] at e
    cases e;exact⟨v,List.getElem?_set_self hi,r⟩
   .rw [List.getElem?_set_ne h] at e ⊢;exact E.val j d' e⟩
def down(δ:DE):ak:=δ.map fun x=>match x with | some (.d d)=> .val d | _=> .un
theorem dX.down{K:W.Frag}{cl:Uu}{ρ:P3}{S:aD}{σ:L2.St}{δ:DE}(E:dX K cl ρ H S σ δ):dz K [] ρ.b H σ (down δ) where
 len:=by unfold L3.down;rw [List.length_map];exact E.len
 bs:=E.sw.bs
 zb:=fun a ha=>by cases ha
 val:=fun i d e=>by
  unfold L3.down at e;rw[List.getElem?_map] at e;cases q:δ[i]? with
  | none=>rw [q] at e;cases e
  | some x=>
    rw[q] at e
    match x,e,q with
    | some (.d y),e,q=>
      cases e;obtain⟨v,h1,h2⟩:=E.val i _ q;unfold aK at h2;exact⟨v,h1,h2⟩
    | some (.loc k),e,q=>cases e
    | some (.lst k),e,q=>cases e
    | some (.tup k),e,q=>cases e
    | none,e,q=>cases e
 bld:=fun i ds e=>by
  unfold L3.down at e;rw[List.getElem?_map] at e;cases q:δ[i]? with
  | none=>rw [q] at e;cases e
  | some x=>
    rw[q] at e
    match x,e with
    | some (.d y),e=>cases e
    | some (.loc k),e=>cases e
    | some (.lst k),e=>cases e
    | some (.tup k),e=>cases e
    | none,e=>cases e
 dis:=fun i j a ds es e=>by
  unfold L3.down at e;rw[List.getElem?_map] at e;cases q:δ[i]? with
  | none=>rw [q] at e;cases e
  | some x=>
    rw[q] at e
    match x,e with
    | some (.d y),e=>cases e
    | some (.loc k),e=>cases e
    | some (.lst k),e=>cases e
    | some (.tup k),e=>cases e
    | none,e=>cases e
mutual
def res(S:aD):V3->Option D
 | .d x=>some x
 | .loc k=>(match S[k]? with | some (.lst ds)=>some (.lst ds) | _=>none)
 | .lst vs=>(wD S vs).map D.lst
 | .tup vs=>(wD S vs).map D.tup
def wD(S:aD):List V3->Option (List D)
 | []=>some []
 | v ::vs=>(res S v).bind fun d=>(wD S vs).map (d ::·)
end
def cK(S:aD)(δ:DE):ak:=δ.map fun x=>match x with | some v=>(match res S v with | some d=> .val d | none=> .un) | none=> .un
theorem lL{α β:Type}{o:Option α}{f:α->β}{b:β}(h:o.map f=some b):∃a,o=some a/\f a=b:=by
 cases o with
 | none=>cases h
 | some a=>cases h;exact⟨a,rfl,rfl⟩
theorem yc{α β:Type}{o:Option α}{f:α->Option β}{b:β}(h:o.bind f=some b):∃a,o=some a/\f a=some b:=by
 cases o with
 | none=>cases h
 | some a=>exact⟨a,rfl,h⟩
mutual
def eL(n:Nat):V3->Bool
 | .d _=>true
 | .loc k=>decide (n<=k)
 | .lst vs=>m_ n vs
 | .tup vs=>m_ n vs
def m_(n:Nat):List V3->Bool
 | []=>true
 | v ::vs=>eL n v && m_ n vs
end
mutual
theorem aK.resB{K:W.Frag}{cl:Uu}{ρ:P3}{S:aD}{B':List Addr}{n:Nat}(w:SW K cl ρ H S)(p:cZ ρ.b H B' H)(hn:∀(k:Nat) (a:Addr),n<=k->ρ.r[k]? =some a->a ∉ B'):∀{v:V3} {d:D} {x:V},eL n v=true->res S v=some d->aK K ρ H v x->Rep K B' H d x
 | .d y,d,x,_,h,r=>by unfold L3.res at h;cases h;unfold aK at r;exact r.aU p
 | .loc k,d,x,g,h,r=>by
   unfold L3.res at h;unfold aK at r;unfold eL at g;obtain⟨a,h1,rfl⟩:=r;split at h
   .rename_i ds e;cases h;obtain⟨xs,e2,q⟩:=w.ob k a _ h1 e;unfold Rep;exact⟨a,xs,rfl, .inl ⟨hn k a (of_decide_eq_true g) h1, .inl e2⟩,q.aU p⟩
   .cases h
 | .lst vs,d,x,g,h,r=>by
   unfold L3.res at h;unfold eL at g;obtain⟨ds,e,rfl⟩:=lL h;unfold aK at r;obtain⟨a,xs,rfl,l,r⟩:=r;unfold Rep;exact⟨a,xs,rfl,l.aU p,au.resB w p hn g e r⟩
 | .tup vs,d,x,g,h,r=>by
   unfold L3.res at h;unfold eL at g;obtain⟨ds,e,rfl⟩:=lL h;unfold aK at r;obtain⟨a,xs,rfl,l,r⟩:=r;unfold Rep;exact⟨a,xs,rfl,tR.aU p l,au.resB w p hn g e r⟩
theorem au.resB{K:W.Frag}{cl:Uu}{ρ:P3}{S:aD}{B':List Addr}{n:Nat}(w:SW K cl ρ H S)(p:cZ ρ.b H B' H)(hn:∀(k:Nat) (a:Addr),n<=k->ρ.r[k]? =some a->a ∉ B'):∀{vs:List V3} {ds:List D} {xs:List V},m_ n vs=true->wD S vs=some ds->au K ρ H vs xs->av K B' H ds xs
 | [],ds,xs,_,h,r=>by unfold wD at h;cases h;unfold au at r;subst r;exact av.nil
 | v ::vs,ds,xs,g,h,r=>by
   unfold wD at h;unfold m_ at g;obtain⟨g1,g2⟩:=Bool.and_eq_true_iff.mp g;obtain⟨d,e1,h2⟩:=yc h;obtain⟨es,e2,rfl⟩:=lL h2;obtain⟨y,ys,rfl,r1,r2⟩:=r.bu;exact av.cons (aK.resB w p hn g1 e1 r1) (au.resB w p hn g2 e2 r2)
end
mutual
theorem sP:∀v:V3,eL 0 v=true
 | .d _=>by unfold eL;rfl
 | .loc k=>by unfold eL;exact decide_eq_true (Nat.zero_le _)
 | .lst vs=>by unfold eL;exact mn vs
 | .tup vs=>by unfold eL;exact mn vs
theorem mn:∀vs:List V3,m_ 0 vs=true
 | []=>by unfold m_;rfl
 | v ::vs=>by unfold m_;rw [sP v,mn vs];rfl
end
theorem aK.res{K:W.Frag}{cl:Uu}{S:aD}(w:SW K cl ρ H S){v:V3}{d:D}{x:V}(h:res S v=some d)(r:aK K ρ H v x):Rep K [] H d x:=
 r.resB w (fun b o e _=>⟨e,by simp⟩) (n:=0) (fun _ _ _ _=>by simp) (sP v) h
theorem oA{S:aD}{δ:DE}{i:Nat}{y:Sl}(e:(cK S δ)[i]? =some y):(∃v d,δ[i]? =some (some v)/\res S v=some d/\y= .val d)\/y= .un:=by
 unfold cK at e;rw[List.getElem?_map] at e;cases q:δ[i]? with
 | none=>rw [q] at e;cases e
 | some x=>
   rw[q] at e;cases x with
   | none=>cases e;exact .inr rfl
   | some v=>
     cases z:res S v with
     | none=>
       have e:some (match res S v with | some d=>Sl.val d | none=> .un)=some y:=e
       rw[z] at e;cases e;exact .inr rfl
     | some d=>
       have e:some (match res S v with | some d=>Sl.val d | none=> .un)=some y:=e
       rw[z] at e;cases e;exact .inl ⟨v,d,rfl,z,rfl⟩
theorem dX.cK{K:W.Frag}{cl:Uu}{S:aD}{σ:L2.St}{δ:DE}(E:dX K cl ρ H S σ δ):dz K [] [] H σ (cK S δ) where
 len:=by unfold L3.cK;rw [List.length_map];exact E.len
 bs:=fun a ha=>by cases ha
 zb:=fun a ha=>by cases ha
 val:=fun i d e=>by
  rcases oA e with⟨v,d',h1,h2,h3⟩ | h
  .cases h3;obtain⟨x,q1,q2⟩:=E.val i v h1;exact⟨x,q1,q2.res E.sw h2⟩
  .cases h
 bld:=fun i ds e=>by
  rcases oA e with⟨v,d',h1,h2,h3⟩ | h
  .cases h3
  .cases h
 dis:=fun i j a ds es e=>by
  rcases oA e with⟨v,d',h1,h2,h3⟩ | h
  .cases h3
  .cases h
abbrev FX:=DE->aD->R3 V3
abbrev FB:=DE->aD->R3 Bool
abbrev FA:=DE->aD->R3 (List V3)
def tX(K:W.Frag)(cl:Uu)(f:FX):TE:=fun σ H Q=>∃ρ S δ v S',dX K cl ρ H S σ δ/\f δ S= .ok v S'/\∀u bW H',Pre ρ H bW H'->SW K cl bW H' S'->aK K bW H' v u->Q u H'
def Hn(K:W.Frag)(cl:Uu)(f:FB):TT:=fun σ H Q=>∃ρ S δ b S',dX K cl ρ H S σ δ/\f δ S= .ok b S'/\∀bW H',Pre ρ H bW H'->SW K cl bW H' S'->Q b H'
def OQ(K:W.Frag)(cl:Uu)(f:FA):TA:=fun σ H Q=>∃ρ S δ vs S',dX K cl ρ H S σ δ/\f δ S= .ok vs S'/\∀us bW H',Pre ρ H bW H'->SW K cl bW H' S'->au K bW H' vs us->Q us H'
structure PX (X:Cx) (cl:Uu) (e:Expr) (f:FX):Prop where
 go:PE X e (tX X.K cl f)
structure C2 (X:Cx) (cl:Uu) (e:Expr) (f:FB):Prop where
 go:PT X e (Hn X.K cl f)
structure Eh (X:Cx) (cl:Uu) (es:List Expr) (f:FA):Prop where
 go:PA X es (OQ X.K cl f)
section
variable {X:Cx} {cl:Uu}
def xP(f:FD):FX:=fun δ S=>(R3.of (f (down δ)) S).bind fun d S=> .ok (.d d) S
theorem ah(h:QD X e f):PX X cl e (xP f):=⟨h.1.imp fun σ H Q ⟨ρ,S,δ,v,S',E,hf,q⟩=>by
 obtain⟨d,S1,h1,h2⟩:=R3.ab hf;obtain⟨h3,e3⟩:=R3.of_ok h1;cases h2;subst e3;exact⟨[],ρ.b,down δ,d,E.down,h3,fun v H' s r=>q v ρ H' (Pre.same s) (E.sw.same s) (by unfold aK;exact r)⟩⟩
def xT(f:FD):FX:=fun δ S=>(R3.of (f (cK S δ)) S).bind fun d S=>R3.bg (vH d) (.ok (.d d) S)
theorem gd(h:QD X e f):PX X cl e (xT f):=⟨h.1.imp fun σ H Q ⟨ρ,S,δ,v,S',E,hf,q⟩=>by
 obtain⟨d,S1,h1,h2⟩:=R3.ab hf;obtain⟨h4,e3⟩:=R3.of_ok h1;obtain⟨ha,h3⟩:=R3.aP h2;cases h3;subst e3;exact⟨[],[],cK _ δ,d,E.cK,h4,fun v H' s r=>q v ρ H' (Pre.same s) (E.sw.same s) (by unfold aK;exact Rep.wg (E.sw.same s).nt ha r)⟩⟩
def bP(f:ak->R Bool):FB:=fun δ S=>R3.of (f (down δ)) S
theorem eU{f:ak->R Bool}(h:QB X e f):C2 X cl e (bP f):=⟨h.1.imp fun σ H Q ⟨ρ,S,δ,v,S',E,hf,q⟩=>by
 obtain⟨h1,e3⟩:=R3.of_ok hf;subst e3;exact⟨[],ρ.b,down δ,v,E.down,h1,fun H' s=>q ρ H' (Pre.same s) (E.sw.same s)⟩⟩
def bT(f:ak->R Bool):FB:=fun δ S=>R3.of (f (cK S δ)) S
theorem BC{f:ak->R Bool}(h:QB X e f):C2 X cl e (bT f):=⟨h.1.imp fun σ H Q ⟨ρ,S,δ,v,S',E,hf,q⟩=>by
 obtain⟨h1,e3⟩:=R3.of_ok hf;subst e3;exact⟨[],[],cK _ δ,v,E.cK,h1,fun H' s=>q ρ H' (Pre.same s) (E.sw.same s)⟩⟩
def bY(i:Nat):FX:=fun δ S=>match δ[i]? with | some (some v)=> .ok v S | _=> .no
theorem aX(i:Nat){x:Str}{pos:Pos}(hN:X.N[i]? =some x:=by rfl)(hv:GN X.env.scope x:=by first | exact Or.inl rfl | exact Or.inr (Or.inl rfl) | exact Or.inr (Or.inr rfl))(hd:(x==("__debug__":Str))=false:=by decide)
 (sN:(x==("__classdict__":Str))=false:=by decide):PX X cl (.Name x pos) (bY i):=⟨(uJ hN hv hd sN).imp fun σ H Q ⟨ρ,S,δ,v,S',E,hf,q⟩=>by
 unfold bY at hf;split at hf
 .rename_i d' e;cases hf;obtain⟨u,h1,h2⟩:=E.val i _ e;exact⟨u,h1,q u ρ H (Pre.refl ρ H) E.sw h2⟩
 .cases hf⟩
def nV(f:ak->R (List D)):FX:=fun δ S=>(R3.of (f (down δ)) S).bind fun ds S=> .ok (.loc S.length) (S++[.lst ds])
theorem iC{f:ak->R (List D)}(h:QN X e f):PX X cl e (nV f):=⟨h.1.imp fun σ H Q ⟨ρ,S,δ,v,S',E,hf,q⟩=>by
 obtain⟨ds,S1,h1,h2⟩:=R3.ab hf;obtain⟨h3,e3⟩:=R3.of_ok h1;cases h2;subst e3;refine⟨[],ρ.b,down δ,ds,E.down,h3,fun a xs H' s n e r=>?_⟩
 have r':av X.K (ρ.push a).b H' ds xs:=r.aU fun b o e nb=>⟨e,fun hb=>nb (by
  rcases P3.mem_push hb with z | z
  .exact List.mem_cons_of_mem _ z
  .subst z;exact List.mem_cons_self)⟩
 obtain⟨w,p⟩:=E.sw.new (o:= .lst ds) s n ⟨xs,e,r'⟩;exact q _ _ H' p w (by unfold aK;exact⟨a,by show(ρ.r++[a])[_]? =_;rw [<-E.sw.len,List.getElem?_append_right (by omega),Nat.sub_self];rfl,rfl⟩)⟩
end
end L3
end
section
namespace L3
open PySem PySem.Spec PyProof.Rows L2
section
variable {X:Cx} {cl:Uu}
def cB:FA:=fun _ S=> .ok [] S
def aA(f:FX)(g:FA):FA:=fun δ S=>(f δ S).bind fun v S1=>(g δ S1).bind fun vs S2=> .ok (v ::vs) S2
theorem aO:Eh X cl [] cB:=⟨gL.imp fun σ H Q ⟨ρ,S,δ,v,S',E,hf,q⟩=>by
 cases hf;exact q [] ρ H (Pre.refl ρ H) E.sw au.nil⟩
theorem ai(h:PX X cl e f)(t:Eh X cl es g)(hs:starEach (e ::es) X.env=(false,eval e X.env) ::starEach es X.env:=by rfl):Eh X cl (e ::es) (aA f g):=
 ⟨(dv h.1 t.1 hs).imp fun σ H Q ⟨ρ,S,δ,v,S',E,hf,q⟩=>by
   obtain⟨v1,S1,h1,h2⟩:=R3.ab hf;obtain⟨vs,S2,h3,h4⟩:=R3.ab h2;cases h4;exact⟨ρ,S,δ,v1,S1,E,h1,fun u bh H1 p1 w1 r1=>⟨bh,S1,δ,vs,_,E.to p1 w1,h3,fun us lD H2 p2 w2 r2=>q _ lD H2 (p1.trans p2) w2 (au.cons (r1.pre p2) r2)⟩⟩⟩
def pK:List V3->Option (List D)
 | []=>some []
 | .d x ::r=>(pK r).map (x ::·)
 | _ ::_=>none
theorem hJ:∀{vs:List V3} {ds:List D},pK vs=some ds->vs=ds.map .d
 | [],ds,h=>by cases h;rfl
 | .d x ::r,ds,h=>by
   cases e:pK r with
   | none=>have h:(pK r).map (x ::·)=some ds:=h;rw [e] at h;cases h
   | some es=>
     have h:(pK r).map (x ::·)=some ds:=h
     rw[e] at h;cases h;rw[hJ e];rfl
 | .loc _ ::_,_,h=>by cases h
 | .lst _ ::_,_,h=>by cases h
 | .tup _ ::_,_,h=>by cases h
theorem qJ:∀ds:List D,pK (ds.map .d)=some ds
 | []=>rfl
 | d ::ds=>by show(pK (ds.map .d)).map (d ::·)=_;rw [qJ ds];rfl
def zx(vs:List V3):V3:=match pK vs with | some ds=> .d (.tup ds) | none=> .tup vs
def pq(vs:List V3):V3:=match pK vs with | some ds=> .d (.lst ds) | none=> .lst vs
def va(g:FA):FX:=fun δ S=>(g δ S).bind fun vs S=>R3.bg (decide (vs.length<=sizeLine)) (.ok (zx vs) S)
theorem i5{H:Hp}{p:Addr}{o:HO}(hp:H p=none):Pre ρ H ρ (upd H p o):=Pre.same (aC hp)
theorem AE{K:W.Frag}{ρ:P3}{vs:List V3}{xs:List V}{a:Addr}(l:tR K ρ.b H a xs)(r:au K ρ H vs xs):aK K ρ H (zx vs) (.ref a):=by
 unfold zx;split
 .rename_i ds e;rw[hJ e] at r;unfold aK Rep;exact⟨a,xs,rfl,l,r.to⟩
 .unfold aK;exact⟨a,xs,rfl,l,r⟩
theorem tL{K:W.Frag}{ρ:P3}{vs:List V3}{xs:List V}{a:Addr}(l:rY K ρ.b H a xs)(r:au K ρ H vs xs):aK K ρ H (pq vs) (.ref a):=by
 unfold pq;split
 .rename_i ds e;rw[hJ e] at r;unfold aK Rep;exact⟨a,xs,rfl,l,r.to⟩
 .unfold aK;exact⟨a,xs,rfl,l,r⟩
theorem oz{x1 pos}(h:Eh X cl es g):PX X cl (.Tuple es x1 pos) (va g):=⟨(Dy h.1).imp fun σ H Q ⟨ρ,S,δ,v,S',E,hf,q⟩=>by
 obtain⟨vs,S1,h1,h2⟩:=R3.ab hf;obtain⟨hl,h3⟩:=R3.aP h2;cases h3;refine⟨ρ,S,δ,vs,_,E,h1,fun us bh H1 p1 w1 r1=>⟨by rw[<-r1.length];exact of_decide_eq_true hl,fun p hp=>q _ bh _ (p1.trans (i5 hp)) (w1.same (aC hp)) ?_⟩⟩
 refine AE (.inl ⟨fun ha=>?_, .inl aL⟩) (r1.pre (i5 hp))
 obtain⟨o,ho⟩:=w1.bs p ha;rw[hp] at ho;cases ho⟩
def Ij(g:FA):FX:=fun δ S=>(g δ S).bind fun vs S=>R3.bg (decide (vs.length<=sizeLine)) (.ok (pq vs) S)
theorem JA{pos}(h:Eh X cl es g):PX X cl (.List es pos) (Ij g):=⟨(BK h.1).imp fun σ H Q ⟨ρ,S,δ,v,S',E,hf,q⟩=>by
 obtain⟨vs,S1,h1,h2⟩:=R3.ab hf;obtain⟨hl,h3⟩:=R3.aP h2;cases h3;refine⟨ρ,S,δ,vs,_,E,h1,fun us bh H1 p1 w1 r1=>⟨by rw[<-r1.length];exact of_decide_eq_true hl,fun p hp=>q _ bh _ (p1.trans (i5 hp)) (w1.same (aC hp)) ?_⟩⟩
 refine tL (.inl ⟨fun ha=>?_, .inl aL⟩) (r1.pre (i5 hp))
 obtain⟨o,ho⟩:=w1.bs p ha;rw[hp] at ho;cases ho⟩
def x2(g:D->D->R D)(fa fb:FX):FX:=fun δ S=>(fa δ S).bind fun a S1=>(fb δ S1).bind fun b S2=>match a,b with
 | .d x, .d y=>(R3.of (g x y) S2).bind fun d S=> .ok (.d d) S
 | _,_=> .no
theorem HG{K:W.Frag}{g:D->D->R D}{σ:L2.St}{Q:VK}(h:tX K cl (x2 g fa fb) σ H Q) :
 J1 (fun x y H Q=>∃B da db d,(∀a∈B,∃o,H a=some o)/\Rep K B H da x/\Rep K B H db y/\g da db= .ok d/\∀z H',aI H H'->Rep K B H' d z->Q z H') (tX K cl fa) (tX K cl fb) σ H Q:=by
 obtain⟨ρ,S,δ,v,S',E,hf,q⟩:=h;obtain⟨a,S1,h1,h2⟩:=R3.ab hf;obtain⟨b,S2,h3,h4⟩:=R3.ab h2
 match a,b,h1,h3,h4 with
 | .d x, .d y,h1,h3,h4=>
   obtain⟨d,S3,h5,h6⟩:=R3.ab h4;obtain⟨h7,e⟩:=R3.of_ok h5;cases h6;subst e;refine⟨ρ,S,δ, .d x,S1,E,h1,fun u1 bh H1 p1 w1 r1=>⟨bh,S1,δ, .d y,_,E.to p1 w1,h3,fun u2 lD H2 p2 w2 r2=>?_⟩⟩
   have lZ:=r1.pre p2;unfold aK at lZ r2;exact⟨lD.b,x,y,d,w2.bs,lZ,r2,h7,fun z H' s r=>q z lD H' (p1.trans (p2.trans (Pre.same s))) (w2.same s) (by unfold aK;exact r)⟩
 | .d x, .loc _,_,_,h4=>cases h4
 | .d x, .lst _,_,_,h4=>cases h4
 | .d x, .tup _,_,_,h4=>cases h4
 | .loc _,_,_,_,h4=>cases h4
 | .lst _,_,_,_,h4=>cases h4
 | .tup _,_,_,_,h4=>cases h4
theorem sS{op:Operator}{g:D->D->R D}(ho:jv X (binaryOp op) g)(ha:PX X cl a fa)(hb:PX X cl b fb):PX X cl (.BinOp a op b pos) (x2 g fa fb):=
 ⟨(B5 ho.r ha.1 hb.1).imp fun σ H Q h=>HG h⟩
theorem C_{op:CmpOp}{g:D->D->R D}(ho:jv X (compareOp op) g)(ha:PX X cl a fa)(hb:PX X cl b fb)(hm:behindInMarks op b=false):PX X cl (.Compare a [op] [b] pos) (x2 g fa fb):=
 ⟨(zy ho.r ha.1 hb.1 hm).imp fun σ H Q h=>HG h⟩
def Lr(g:D->D->R D)(fa fb:FX):FB:=fun δ S=>(x2 g fa fb δ S).bind fun v S=>match v with | .d (.bl b)=> .ok b S | _=> .no
theorem uW{op:CmpOp}{g:D->D->R D}(ho:jv X (compareOp op) g)(ha:PX X cl a fa)(hb:PX X cl b fb)(hm:behindInMarks op b=false):C2 X cl (.Compare a [op] [b] pos) (Lr g fa fb):=
 ⟨(zG ho.r ha.1 hb.1 hm).imp fun σ H Q ⟨ρ,S,δ,b,S',E,hf,q⟩=>by
   obtain⟨v,S1,h1,h2⟩:=R3.ab hf;have hv:v= .d (.bl b)/\S1=S':=by
    match v,h2 with
    | .d (.bl k),h2=>cases h2;exact⟨rfl,rfl⟩
    | .d .bQ,h2=>cases h2
    | .d (.int _),h2=>cases h2
    | .d (.str _),h2=>cases h2
    | .d (.lst _),h2=>cases h2
    | .d (.tup _),h2=>cases h2
    | .d (.dct _ _),h2=>cases h2
    | .loc _,h2=>cases h2
    | .lst _,h2=>cases h2
    | .tup _,h2=>cases h2
   obtain⟨rfl,rfl⟩:=hv;exact HG (g:=g) (Q:=fun x H'=>∃k,x= .bl k/\Q k H') ⟨ρ,S,δ,_,_,E,h1,fun u bW H' p w r=>⟨b,by unfold aK Rep at r;exact r,q bW H' p w⟩⟩⟩
inductive Ou where
 | nx (δ:DE) | rt (v:V3)
abbrev FZ:=DE->aD->R3 Ou
def FQ(K:W.Frag)(cl:Uu)(ρ:P3)(H:Hp)(D:Ends)(S':aD):Ou->Prop
 | .nx dr=>∀cj bW H',Pre ρ H bW H'->dX K cl bW H' S' cj dr->D.nx cj H'
 | .rt v=>∀u bW H',Pre ρ H bW H'->SW K cl bW H' S'->aK K bW H' v u->D.rt u H'
theorem FQ.pre{K:W.Frag}{D:Ends}{S':aD}{o:Ou}(q:FQ K cl ρ H D S' o)(p:Pre ρ H bh H1):FQ K cl bh H1 D S' o:=by
 cases o with
 | nx dr=>exact fun cj bW H' p' E'=>q cj bW H' (p.trans p') E'
 | rt d=>exact fun v bW H' p' w r=>q v bW H' (p.trans p') w r
def sX(K:W.Frag)(cl:Uu)(F:FZ):TS:=fun D σ H=>∃ρ S δ o S',dX K cl ρ H S σ δ/\F δ S= .ok o S'/\FQ K cl ρ H D S' o
structure PZ (X:Cx) (cl:Uu) (st:Stmt) (F:FZ):Prop where
 go:PS X st (sX X.K cl F)
structure AF (X:Cx) (cl:Uu) (st:List Stmt) (F:FZ):Prop where
 go:uT X st (sX X.K cl F)
def nO:FZ:=fun δ S=> .ok (.nx δ) S
def bo(F G:FZ):FZ:=fun δ S=>(F δ S).bind fun o S1=>match o with | .nx dr=>G dr S1 | .rt d=> .ok (.rt d) S1
theorem gf:AF X cl [] nO:=⟨vb.imp fun D σ H ⟨ρ,S,δ,o,S',E,hf,q⟩=>by
 cases hf;exact q σ ρ H (Pre.refl ρ H) E⟩
theorem ao{st:Stmt}{rest:List Stmt}(h1:PZ X cl st F)(h2:AF X cl rest G):AF X cl (st ::rest) (bo F G):=⟨(rN h1.1 h2.1).imp fun D σ H ⟨ρ,S,δ,o,S',E,hf,q⟩=>by
 obtain⟨o1,S1,h1,h2⟩:=R3.ab hf;refine⟨ρ,S,δ,o1,S1,E,h1,?_⟩;cases o1 with
 | nx cz=>
   intro En bh H1 p1 E1;exact⟨bh,S1,cz,o,S',E1,h2,q.pre p1⟩
 | rt d=>
   cases h2;exact q⟩
theorem aF{st:Stmt}(h1:PZ X cl st F):AF X cl [st] F:=⟨u_ h1.1⟩
def cx(i:Nat)(f:FX):FZ:=fun δ S=>(f δ S).bind fun v S=>R3.bg (decide (i < δ.length)) (.ok (.nx (δ.set i (some v))) S)
theorem ba{i:Nat}{pos pos':Pos}(hN:X.N.Nodup)(hi:X.N[i]? =some x)(hx:Loc X.env.scope x)(he:PX X cl e f)(hs:swapsWith e (some (.Name x pos')) pos.line X.env=pure false:=by rfl)(hf:X.fn x=true\/X.env.scope.names.lookup x=some .local:=by first | exact .inl rfl | exact .inr rfl | assumption) :
 PZ X cl (.Assign [.Name x pos'] e pos) (cx i f):=⟨(xM hN hi hx he.1 hs hf).imp fun D σ H ⟨ρ,S,δ,o,S',E,hf,q⟩=>by
 obtain⟨v,S1,h1,h2⟩:=R3.ab hf;obtain⟨hi,h3⟩:=R3.aP h2;cases h3;refine⟨ρ,S,δ,v,_,E,h1,fun u bh H1 p1 w1 r1=>?_⟩
 exact q _ bh H1 p1 ((E.to p1 w1).set (by rw[<-E.len];exact of_decide_eq_true hi) r1)⟩
def gZ(f:FX):FZ:=fun δ S=>(f δ S).bind fun v S=> .ok (.rt v) S
theorem cO(he:PX X cl e f):PZ X cl (.Return (some e) pos) (gZ f):=⟨(C8 he.1).imp fun D σ H ⟨ρ,S,δ,o,S',E,hf,q⟩=>by
 obtain⟨v,S1,h1,h2⟩:=R3.ab hf;cases h2;exact⟨ρ,S,δ,v,_,E,h1,fun u bh H1 p1 w1 r1=>q u bh H1 p1 w1 r1⟩⟩
def yG(c:FB)(F G:FZ):FZ:=fun δ S=>(c δ S).bind fun b S=>if b then F δ S else G δ S
theorem kQ(hc:C2 X cl c fc)(ha:AF X cl a F)(hb:AF X cl b G):PZ X cl (.If c a b pos) (yG fc F G):=⟨(Dv hc.1 ha.1 hb.1).imp fun D σ H ⟨ρ,S,δ,o,S',E,hf,q⟩=>by
 obtain⟨k,S1,h1,h2⟩:=R3.ab hf;refine⟨ρ,S,δ,k,S1,E,h1,fun bh H1 p1 w1=>?_⟩
 cases k with
 | true=>rw [if_pos rfl] at h2;exact AV ⟨bh,S1,δ,o,S',E.to p1 w1,h2,q.pre p1⟩
 | false=>rw [if_neg (by decide)] at h2;exact Aj ⟨bh,S1,δ,o,S',E.to p1 w1,h2,q.pre p1⟩⟩
def OO(f:FX):FZ:=fun δ S=>(f δ S).bind fun _ S=> .ok (.nx δ) S
def ki(c:FB)(body:FZ):Nat->FZ
 | 0,_,_=> .no
 | n+1,δ,S=>(c δ S).bind fun b S=>if b then(body δ S).bind fun o S=>match o with | .nx d7=>ki c body n d7 S | .rt r=> .ok (.rt r) S else .ok (.nx δ) S
def yD(n:Nat)(c:FB)(body:FZ):FZ:=fun δ S=>ki c body n δ S
theorem BS(n:Nat)(hp:PassesOwn (model X.prog X.w) X.A X.env X.xe)(hc:C2 X cl c fc)(hb:AF X cl body F):PZ X cl (.While c body [] pos) (yD n fc F):=
 ⟨(DR hp hc.1 hb.1).imp fun D σ H ⟨ρ,S,δ,o,S',E,hf,q⟩=>by
   refine⟨fun m cj H'=>∃bh S1 cz,Pre ρ H bh H'/\dX X.K cl bh H' S1 cj cz/\ki fc F m cz S1= .ok o S',⟨n,ρ,S,δ,Pre.refl ρ H,E,hf⟩,?_⟩
   rintro m cj H' ⟨bh,S1,cz,p1,E1,hw⟩;cases m with
   | zero=>cases hw
   | succ m=>
     obtain⟨b,S2,h1,h2⟩:=R3.ab hw;refine⟨bh,S1,cz,b,S2,E1,h1,fun lD H2 p2 w2=>?_⟩
     cases b with
     | false=>
       rw[if_neg (by decide)] at h2
       cases h2;exact Aj (q cj lD H2 (p1.trans p2) (E1.to p2 w2))
     | true=>
       rw[if_pos rfl] at h2;obtain⟨o1,S3,h3,h4⟩:=R3.ab h2;refine AV ⟨fun PR H4=>∃D6 S4 δ4,Pre ρ H D6 H4/\dX X.K cl D6 H4 S4 PR δ4/\ki fc F m δ4 S4= .ok o S',fun PR H4 n=>⟨m,Nat.lt_succ_self _,n⟩,lD,S2,cz,o1,S3,E1.to p2 w2,h3,?_⟩
       cases o1 with
       | nx d7=>exact fun xm pF H3 p3 E3=>⟨pF,S3,d7,(p1.trans p2).trans p3,E3,h4⟩
       | rt d=>
         cases h4;exact fun v pF H3 p3 w r=>q v pF H3 ((p1.trans p2).trans p3) w r⟩
end
end L3
end
section
namespace L3
open PySem PySem.Spec PyProof.Rows L2
theorem au.get{K:W.Frag}:∀{ds:List V3} {xs:List V} {i:Nat} {d:V3},au K ρ H ds xs->ds[i]? =some d->∃x,xs[i]? =some x/\aK K ρ H d x
 | [],_,_,_,_,e=>by simp at e
 | d ::ds,xs,0,d',h,e=>by
   obtain⟨x,r,rfl,h1,h2⟩:=h.bu;simp at e;subst e;exact⟨x,rfl,h1⟩
 | d ::ds,xs,i+1,d',h,e=>by
   obtain⟨x,r,rfl,h1,h2⟩:=h.bu;obtain⟨y,e1,e2⟩:=au.get (i:=i) h2 (by simpa using e)
   exact⟨y,by simpa using e1,e2⟩
def JD(K:W.Frag)(ρ:P3)(H:Hp)(J:It)(vs:List V3):Prop:=∀bW H',PW ρ H bW H'->(∀a∈bW.b,∃o,H' a=some o)->(∀(i:Nat) (d:V3),vs[i]? =some d->J.go i H'/\∀x kK,J.yld i H' x kK->aI H' kK/\aK K bW kK d x)/\J.stop vs.length H'
theorem JD.of{K:W.Frag}{ρ:P3}{J:It}{ds:List D}(h:zF K ρ.b H J ds):JD K ρ H J (ds.map .d):=fun bW H' p bs=>by
 obtain⟨h1,h2⟩:=h bW.b H' p.aU;refine⟨fun i v hv=>?_,by rw[List.length_map];exact h2⟩
 rw[List.getElem?_map] at hv;cases e:ds[i]? with
 | none=>rw [e] at hv;cases hv
 | some d=>
   rw[e] at hv;cases hv;obtain⟨g1,g2⟩:=h1 i d e;exact⟨g1,fun x kK y=>let⟨s,r⟩:=g2 x kK y bs;⟨s,by unfold aK;exact r⟩⟩
def OU(K:W.Frag)(cl:Uu)(f:FA):TI:=fun σ H R=>∃ρ S δ vs S',dX K cl ρ H S σ δ/\f δ S= .ok vs S'/\∀J bh H1,Pre ρ H bh H1->SW K cl bh H1 S'->JD K bh H1 J vs->R J H1
structure Fe (X:Cx) (cl:Uu) (tg e:Expr) (f:FA):Prop where
 go:PI X tg e (OU X.K cl f)
section
variable {X:Cx} {cl:Uu}
def iP(f:ak->R (List D)):FA:=fun δ S=>(R3.of (f (down δ)) S).bind fun ds S=> .ok (ds.map .d) S
theorem cF{f:ak->R (List D)}(h:ye X tg e f):Fe X cl tg e (iP f):=⟨h.1.imp fun σ H Q ⟨ρ,S,δ,vs,S',E,hf,q⟩=>by
 obtain⟨ds,S1,h1,h2⟩:=R3.ab hf;obtain⟨h3,e3⟩:=R3.of_ok h1;cases h2;subst e3;exact⟨[],ρ.b,down δ,ds,E.down,h3,fun J H1 s r=>q J ρ H1 (Pre.same s) (E.sw.same s) (JD.of r)⟩⟩
def vT(f:FX):FA:=fun δ S=>(f δ S).bind fun v S=>match v with | .d (.int j)=>R3.bg (decide (-(2 ^ 62)<=j/\j < 2 ^ 62)) (.ok ((gI 0 j.toNat).map .d) S) | _=> .no
theorem yp{tg a:Expr}{p pos:Pos}(h:PX X cl a f)(hg:Gl X "range")(hm:X.mg "range"=none)(hs:starEach [a] X.env=[(false,eval a X.env)]:=by rfl):Fe X cl tg (.Call (.Name "range" p) [a] [] pos) (vT f):=
 ⟨(sQ hg hm (dv h.1 gL hs) hs).imp fun σ H RR ⟨ρ,S,δ,vs,S',E,hf,q⟩=>by
   obtain⟨v,S1,h1,h2⟩:=R3.ab hf
   match v,h1,h2 with
   | .d (.int j),h1,h2=>
     obtain⟨hb,h3⟩:=R3.aP h2;cases h3;have hb:=of_decide_eq_true hb;refine⟨ρ,S,δ, .d (.int j),_,E,h1,fun u bh H1 p1 w1 r1=>⟨j,?_,hb.1,hb.2,q _ bh H1 p1 w1 (JD.of (CU 0 _))⟩⟩
     unfold aK Rep at r1;rw[r1]
   | .d .bQ,_,h2=>cases h2
   | .d (.bl _),_,h2=>cases h2
   | .d (.str _),_,h2=>cases h2
   | .d (.lst _),_,h2=>cases h2
   | .d (.tup _),_,h2=>cases h2
   | .d (.dct _ _),_,h2=>cases h2
   | .loc _,_,h2=>cases h2
   | .lst _,_,h2=>cases h2
   | .tup _,_,h2=>cases h2⟩
def wV(f:FX):FA:=fun δ S=>(f δ S).bind fun v S=>match v with | .d (.lst ds)=> .ok (ds.map .d) S | .lst vs=> .ok vs S | _=> .no
theorem nG(h:PX X cl e f):Fe X cl tg e (wV f):=⟨by
 intro pins s σ H RR I ⟨ρ,S,δ,vs,S',E,hf,q⟩;obtain⟨v,S1,h1,h2⟩:=R3.ab hf;refine du (h.1 pins s σ H (fun u H1=>∃bh,Pre ρ H bh H1/\SW X.K cl bh H1 S1/\aK X.K bh H1 v u) I ⟨ρ,S,δ,v,S1,E,h1,fun u bh H1 p1 w1 r1=>⟨bh,p1,w1,r1⟩⟩) fun u s1 ⟨x,H1,I1,r1,bh,p1,w1,rr⟩=>?_
 have key:S1=S'/\∃a xs,x= .ref a/\rY X.K bh.b H1 a xs/\au X.K bh H1 vs xs:=by
  match v,h2,rr with
  | .d (.lst ds),h2,rr=>
    cases h2;unfold aK Rep at rr;obtain⟨a,xs,e,l,r⟩:=rr;exact⟨rfl,a,xs,e,l,au.of r⟩
  | .lst ws,h2,rr=>
    cases h2;unfold aK at rr;exact⟨rfl,rr⟩
  | .d .bQ,h2,_=>cases h2
  | .d (.bl _),h2,_=>cases h2
  | .d (.int _),h2,_=>cases h2
  | .d (.str _),h2,_=>cases h2
  | .d (.tup _),h2,_=>cases h2
  | .d (.dct _ _),h2,_=>cases h2
  | .loc _,h2,_=>cases h2
  | .tup _,h2,_=>cases h2
 obtain⟨rfl,a,xs,rfl,l,rr⟩:=key;cases r1;obtain⟨its,rv,p,hz⟩:=I1.list l.sq;refine wpAny_pyIter_list p.isList ?_;refine⟨s1.heap.objs.size,[s1.heap.objs.size],_,_,H1,rfl,I1.kept (t':=s1.toks) fun b o e=>Heap.get?_push_of_some _ e,tP a _,⟨_,Heap.get?_push_size _ rfl,rfl,rfl⟩,fun b hb=>?_,q _ bh H1 p1 w1 fun bW H' pr bs=>?_⟩
 .have e:b=s1.heap.objs.size:=by simpa using hb
  subst e;exact I1.pT (Nat.le_refl _) (I1.hok.fresh (Nat.le_refl _))
 .have l':rY X.K bW.b H' a xs:=l.aU pr.aU;have JU:=rr.pw pr;refine⟨fun i d hd=>?_,⟨xs,l'.sq,by rw[rr.length];exact Nat.le_refl _⟩⟩
  obtain⟨x,hx,rx⟩:=JU.get hd;exact⟨⟨xs,x,l'.sq,hx⟩,fun y kK ⟨e1,e2⟩=>by
   subst e1;have:=e2 xs l'.sq;rw[hx] at this;cases this;exact⟨aI.refl _,rx⟩⟩⟩
abbrev FG:=V3->DE->Option DE
abbrev Gk:=List V3->DE->Option DE
def gX(K:W.Frag)(cl:Uu)(t:FG):TG:=fun v σ H Q=>∃ρ S δ x dr,dX K cl ρ H S σ δ/\aK K ρ H x v/\t x δ=some dr/\∀cj H',aI H H'->dX K cl ρ H' S cj dr->Q cj H'
def Ry(K:W.Frag)(cl:Uu)(t:Gk):BG:=fun v σ H Q=>∃ρ S δ x dr,dX K cl ρ H S σ δ/\au K ρ H x v/\t x δ=some dr/\∀cj H',aI H H'->dX K cl ρ H' S cj dr->Q cj H'
structure Hf (X:Cx) (cl:Uu) (tg:Expr) (t:FG):Prop where
 go:PG X tg (gX X.K cl t)
structure EZ (X:Cx) (cl:Uu) (tg:List Expr) (t:Gk):Prop where
 go:Fv X tg (Ry X.K cl t)
theorem dX.same{K:W.Frag}{S:aD}{σ:L2.St}{δ:DE}(E:dX K cl ρ H S σ δ)(s:aI H H'):dX K cl ρ H' S σ δ:=E.to (Pre.same s) (E.sw.same s)
def lH(i:Nat):FG:=fun d δ=>if i < δ.length then some (δ.set i (some d)) else none
theorem aR{i:Nat}{pos:Pos}(hN:X.N.Nodup)(hi:X.N[i]? =some x)(hx:Loc X.env.scope x)(hf:X.fn x=true\/X.env.scope.names.lookup x=some .local:=by first | exact .inl rfl | exact .inr rfl | assumption):Hf X cl (.Name x pos) (lH i):=
 ⟨(yX hN hi hx hf).imp fun v σ H Q ⟨ρ,S,δ,d,dr,E,r,ht,q⟩=>by
   unfold lH at ht;split at ht
   .rename_i hi;cases ht;exact q _ H (aI.refl H) (E.set (by rw[<-E.len];exact hi) r)
   .cases ht⟩
def GL:Gk:=fun ds δ=>match ds with | []=>some δ | _=>none
def xp(t:FG)(u:Gk):Gk:=fun ds δ=>match ds with | d ::r=>(t d δ).bind fun dr=>u r dr | []=>none
theorem ig:EZ X cl [] GL:=⟨zl.imp fun vs σ H Q ⟨ρ,S,δ,ds,dr,E,r,ht,q⟩=>by
 cases ds with
 | nil=>unfold au at r;cases ht;exact⟨r,q σ H (aI.refl H) E⟩
 | cons=>cases ht⟩
theorem bS{u:Gk}(h1:Hf X cl e t)(h2:EZ X cl es u)(hs:(assignEach (e ::es) X.env).map (·.2)=assign e X.env ::(assignEach es X.env).map (·.2):=by rfl):EZ X cl (e ::es) (xp t u):=
 ⟨(wu h1.1 h2.1 hs).imp fun vs σ H Q ⟨ρ,S,δ,ds,dr,E,r,ht,q⟩=>by
   cases ds with
   | nil=>cases ht
   | cons d ds=>
     obtain⟨x,xs,rfl,r1,r2⟩:=r.bu;have ht:(t d δ).bind (fun dr=>u ds dr)=some dr:=ht
     cases e1:t d δ with
     | none=>rw [e1] at ht;cases ht
     | some cz=>
       rw[e1] at ht;exact⟨x,xs,rfl,ρ,S,δ,d,cz,E,r1,e1,fun En H1 s1 E1=>⟨ρ,S,cz,ds,dr,E1,r2.pre (Pre.same s1),ht,fun rS H2 s2 E2=>q rS H2 (s1.trans s2) E2⟩⟩⟩
def Ga(n:Nat)(t:Gk):FG:=fun d δ=>match d with
 | .d (.tup ds)=>if ds.length=n then t (ds.map .d) δ else none
 | .tup vs=>if vs.length=n then t vs δ else none
 | _=>none
theorem j_{k:Nat}{t:Gk}{n:Nat}{pos:Pos}(hc:X.calm=true)(h:EZ X cl es t)(hn:(assignEach es X.env).length=n:=by rfl)(D5:(assignEach es X.env).findIdx? (·.1)=none:=by rfl):Hf X cl (.Tuple es k pos) (Ga n t):=
 ⟨(Ca hc h.1 hn D5).imp fun v σ H Q ⟨ρ,S,δ,d,dr,E,r,ht,q⟩=>by
   have key:∃vs a xs,v= .ref a/\tR X.K ρ.b H a xs/\au X.K ρ H vs xs/\vs.length=n/\t vs δ=some dr:=by
    unfold Ga at ht;split at ht
    .rename_i ds;split at ht
     .rename_i hl;unfold aK Rep at r;obtain⟨a,xs,e,l,r⟩:=r;exact⟨ds.map .d,a,xs,e,l,au.of r,by rw[List.length_map];exact hl,ht⟩
     .cases ht
    .rename_i vs;split at ht
     .rename_i hl;unfold aK at r;obtain⟨a,xs,e,l,r⟩:=r;exact⟨vs,a,xs,e,l,r,hl,ht⟩
     .cases ht
    .cases ht
   obtain⟨vs,a,xs,rfl,l,r,hl,ht⟩:=key;exact⟨a,xs,rfl,l.sq,by rw[<-r.length];exact hl,ρ,S,δ,vs,dr,E,r,ht,q⟩⟩
def Ia(f:FX)(t:FG):FZ:=fun δ S=>(f δ S).bind fun d S=>match t d δ with | some dr=> .ok (.nx dr) S | none=> .no
theorem HR{tg e:Expr}{f:FX}{t:FG}{pos:Pos}(he:PX X cl e f)(hg:Hf X cl tg t)(hs:swapsWithSole [tg] e pos.line X.env=pure false:=by rfl)(hw:swappedStores [tg] e X.env=pure none:=by rfl)
 (h1:(assignEach [tg] X.env).map (·.2)=[assign tg X.env]:=by rfl):PZ X cl (.Assign [tg] e pos) (Ia f t):=⟨(Bo he.1 hg.1 hs hw h1).imp fun D σ H ⟨ρ,S,δ,o,S',E,hf,q⟩=>by
 obtain⟨d,S1,h1,h2⟩:=R3.ab hf;split at h2
 .rename_i cz e1;cases h2;exact⟨ρ,S,δ,d,_,E,h1,fun v bh H1 p1 w1 r1=>⟨bh,_,δ,d,cz,E.to p1 w1,r1,e1,fun cj H2 s2 E2=>q cj bh H2 (p1.trans (Pre.same s2)) E2⟩⟩
 .cases h2⟩
def i4(t:FG)(body:FZ):List V3->FZ
 | [],δ,S=> .ok (.nx δ) S
 | d ::ds,δ,S=>match t d δ with
   | none=> .no
   | some cz=>(body cz S).bind fun o S=>match o with | .nx d7=>i4 t body ds d7 S | .rt r=> .ok (.rt r) S
def iZ(it:FA)(t:FG)(body:FZ):FZ:=fun δ S=>(it δ S).bind fun vs S=>i4 t body vs δ S
theorem dS{tg iter:Expr}{body:List Stmt}{it:FA}{t:FG}{F:FZ}{pos:Pos}(hp:PassesOwn (model X.prog X.w) X.A X.env X.xe)(hc:X.calm=true)(hi:Fe X cl tg iter it)(hg:Hf X cl tg t)(hb:AF X cl body F)
 (hs:∀x,foldedSetIterable iter X.env x=pure x:=by intro _;rfl):PZ X cl (.For tg iter body [] pos) (iZ it t F):=⟨(yh hp hc hi.1 hg.1 hb.1 hs).imp fun D σ H ⟨ρ,S,δ,o,S',E,hf,q⟩=>by
 obtain⟨ds,S0,h1,h2⟩:=R3.ab hf;refine⟨ρ,S,δ,ds,S0,E,h1,fun J bh H1 p1 w1 ir=>?_⟩
 refine⟨fun i m cj H'=>m=ds.length - i/\i<=ds.length/\∃bW S1 dr,Pre bh H1 bW H'/\dX X.K cl bW H' S1 cj dr/\i4 t F (ds.drop i) dr S1= .ok o S',⟨ds.length,rfl,Nat.zero_le _,bh,S0,δ,Pre.refl bh H1,E.to p1 w1,by simpa using h2⟩,?_⟩
 rintro i m cj H' ⟨rfl,hi,bW,S1,dr,pv,E',hl⟩;obtain⟨go,stop⟩:=ir bW H' pv.pw E'.sw.bs;by_cases hlt:i < ds.length
 .have hd:ds[i]? =some ds[i]:=List.getElem?_eq_getElem hlt;have hdrop:ds.drop i=ds[i] ::ds.drop (i+1):=List.drop_eq_getElem_cons hlt;rw[hdrop] at hl;unfold i4 at hl;split at hl
  .cases hl
  .rename_i cz h3;obtain⟨o1,S2,h5,h6⟩:=R3.ab hl;obtain⟨g1,g2⟩:=go i _ hd;refine .inr ⟨g1,fun rS H2=>∃lD S2 d7,Pre bh H1 lD H2/\dX X.K cl lD H2 S2 rS d7/\i4 t F (ds.drop (i+1)) d7 S2= .ok o S',fun rS H2 n=>⟨ds.length - (i+1),by omega,rfl,hlt,n⟩,fun x kK y=>?_⟩
   obtain⟨ss,rr⟩:=g2 x kK y;refine⟨bW,S1,dr,ds[i],cz,E'.same ss,rr,h3,fun rS H2 s2 E2=>⟨bW,S1,cz,o1,S2,E2,h5,?_⟩⟩
   have pv2:Pre bh H1 bW H2:=pv.trans (Pre.same (ss.trans s2));cases o1 with
   | nx d7=>exact fun xm pF H3 p3 E3=>⟨pF,S2,d7,pv2.trans p3,E3,h6⟩
   | rt d=>
     cases h6;exact fun v pF H3 p3 w r=>q v pF H3 (p1.trans (pv2.trans p3)) w r
 .have e:i=ds.length:=by omega
  subst e;rw[List.drop_length] at hl;cases hl;exact .inl ⟨stop,q cj bW H' (p1.trans pv) E'⟩⟩
end
end L3
end
section
namespace L3
open PySem PySem.Spec PyProof.Rows L2
mutual
def kW(n:Nat):V3->Bool
 | .d _=>true
 | .loc k=>decide (k < n)
 | .lst vs=>iG n vs
 | .tup vs=>iG n vs
def iG(n:Nat):List V3->Bool
 | []=>true
 | v ::vs=>kW n v && iG n vs
end
def mR(n:Nat):SO->Bool
 | .ins _ fs=>iG n (fs.map (·.2))
 | _=>true
theorem FN{ρ:P3}{n:Nat}{b:Addr}(h:b∈(ρ.cut n).b):b∈ρ.b:=by
 rcases P3.dt.mp h with z | z
 .exact P3.dt.mpr (.inl ⟨List.mem_of_mem_take z.1,z.2⟩)
 .exact P3.dt.mpr (.inr z)
theorem iQ{ρ:P3}(n:Nat):cZ ρ.b H (ρ.cut n).b H:=fun b o e nb=>⟨e,fun hb=>nb (FN hb)⟩
mutual
theorem aK.cut{K:W.Frag}{ρ:P3}{n:Nat}:∀{v:V3} {x:V},kW n v=true->aK K ρ H v x->aK K (ρ.cut n) H v x
 | .d y,x,_,h=>by unfold aK at h ⊢;exact h.aU (iQ n)
 | .loc k,x,o,h=>by
   unfold aK at h ⊢;unfold kW at o;obtain⟨a,h1,h2⟩:=h;exact⟨a,by show(ρ.r.take n)[k]? =_;rw [List.getElem?_take_of_lt (of_decide_eq_true o)];exact h1,h2⟩
 | .lst vs,x,o,h=>by
   unfold aK at h ⊢;unfold kW at o;obtain⟨a,xs,e,l,r⟩:=h;exact⟨a,xs,e,l.aU (iQ n),au.cut o r⟩
 | .tup vs,x,o,h=>by
   unfold aK at h ⊢;unfold kW at o;obtain⟨a,xs,e,l,r⟩:=h;exact⟨a,xs,e,tR.aU (iQ n) l,au.cut o r⟩
theorem au.cut{K:W.Frag}{ρ:P3}{n:Nat}:∀{vs:List V3} {xs:List V},iG n vs=true->au K ρ H vs xs->au K (ρ.cut n) H vs xs
 | [],_,_,h=>by unfold au at h ⊢;exact h
 | v ::vs,xs,o,h=>by
   unfold iG at o;obtain⟨o1,o2⟩:=Bool.and_eq_true_iff.mp o;obtain⟨x,r,rfl,h1,h2⟩:=h.bu;exact au.cons (aK.cut o1 h1) (au.cut o2 h2)
end
theorem SW.cut{K:W.Frag}{cl:Uu}{ρ:P3}{S:aD}(w:SW K cl ρ H S){n:Nat}(ok:(S.take n).all (mR n)=true):SW K cl (ρ.cut n) H (S.take n):=
 ⟨by show(ρ.r.take n).length=_;rw [List.length_take,List.length_take,w.len],fun i j a hi hj=>by
   have hi:(ρ.r.take n)[i]? =some a:=hi;have hj:(ρ.r.take n)[j]? =some a:=hj;have gi:ρ.r[i]? =some a:=by
    rw[List.getElem?_take] at hi;split at hi
    .exact hi
    .cases hi
   have gj:ρ.r[j]? =some a:=by
    rw[List.getElem?_take] at hj;split at hj
    .exact hj
    .cases hj
   exact w.nd i j a gi gj,fun k a o hk ho=>by
   have hk:(ρ.r.take n)[k]? =some a:=hk;have gk:ρ.r[k]? =some a:=by
    rw[List.getElem?_take] at hk;split at hk
    .exact hk
    .cases hk
   have go:S[k]? =some o:=by
    rw[List.getElem?_take] at ho;split at ho
    .exact ho
    .cases ho
   have r:=w.ob k a o gk go;have oo:mR n o=true:=List.all_eq_true.mp ok o (List.mem_of_getElem? ho);cases o with
   | lst ds=>obtain⟨xs,e,q⟩:=r;exact⟨xs,e,q.aU (iQ n)⟩
   | dct kvs=>obtain⟨ys,e,e2,q⟩:=r;exact⟨ys,e,e2,q.aU (iQ n)⟩
   | ins c fs=>obtain⟨dx,ys,e,e2,q⟩:=r;exact⟨dx,ys,e,e2,q.cut oo⟩
   | jf=>exact r,fun b hb=>let⟨h1,h2⟩:=w.zb b hb;⟨h1,fun h=>h2 (List.mem_of_mem_take h)⟩,(fun k a hk ho=>by
   have hk:(ρ.r.take n)[k]? =some a:=hk;rw[List.getElem?_take] at hk;split at hk
   .rename_i hlt;rw[List.getElem?_take_of_lt hlt] at ho;exact w.fz k a hk ho
   .cases hk),w.ff,(fun k a hk ho=>by
   have hk:(ρ.r.take n)[k]? =some a:=hk;rw[List.getElem?_take] at hk;split at hk
   .rename_i hlt;rw[List.getElem?_take_of_lt hlt] at ho;exact w.fi k a hk ho
   .cases hk)⟩
theorem SW.IM{K:W.Frag}{cl:Uu}{ρ bW:P3}{n:Nat}(hn:ρ.r.length<=n)(p:Pre ρ H bW H'):Pre ρ H (bW.cut n) H':=
 ⟨p.aU.trans (iQ n),p.zz,p.zs,fun k a h=>by show(bW.r.take n)[k]? =_;rw [List.getElem?_take_of_lt (Nat.lt_of_lt_of_le (List.getElem?_eq_some_iff.mp h).1 hn)];exact p.ext k a h⟩
section
variable {X:Cx} {cl:Uu}
def dj(S:aD)(k:Nat):Option (List D):=match S[k]? with | some (.lst ds)=>some ds | _=>none
theorem fM{S:aD}{k:Nat}{ds:List D}(h:dj S k=some ds):S[k]? =some (.lst ds):=by
 unfold dj at h;split at h
 .rename_i e;cases h;exact e
 .cases h
def jX(δ:DE)(i:Nat):Option Nat:=match δ[i]? with | some (some (.loc k))=>some k | _=>none
theorem mJ{δ:DE}{i k:Nat}(h:jX δ i=some k):δ[i]? =some (some (.loc k)):=by
 unfold jX at h;split at h
 .rename_i e;cases h;exact e
 .cases h
def oJ(i:Nat)(f:FX):FZ:=fun δ S=>match jX δ i with
 | none=> .no
 | some k=>match dj S k with
   | none=> .no
   | some _=>(f δ S).bind fun v S1=>match v with
     | .d d=>(match dj S1 k with | some ds=>R3.bg (decide (ds.length < sizeLine)) (.ok (.nx δ) (S1.set k (.lst (ds++[d])))) | none=> .no)
     | _=> .no
theorem mQ{i:Nat}{x:Str}{e:Expr}{f:FX}{lF apos dR pos:Pos}(hN:X.N[i]? =some x)(hv:GN X.env.scope x)(he:PX X cl e f)
 (hd:(x==("__debug__":Str))=false:=by decide) (sN:(x==("__classdict__":Str))=false:=by decide)
 (hs:starEach [e] X.env=(false,eval e X.env) ::starEach [] X.env:=by rfl) (rT:(apos.endLine==dR.line)=true:=by rfl)
 (yT:((backTo dR (starEach [e] X.env)).all (fun x=>!x.1) && (backToKw dR (keywordEach [] X.env)).all (fun x=>x.1.isSome)
   && decide (([e]:List Expr).length+([]:List Keyword).length+(if([]:List Keyword).isEmpty then 0 else 1) < 30))=true:=by rfl)
 (GC:swapsWith (.Call (.Attribute (.Name x lF) "append" apos) [e] [] dR) none pos.line X.env=pure false:=by rfl)
 (rR:attributeBase (.Name x lF) "append" X.env (eval (.Name x lF) X.env)=eval (.Name x lF) X.env:=by rfl) :
 PZ X cl (.Expr (.Call (.Attribute (.Name x lF) "append" apos) [e] [] dR) pos) (oJ i f):=by
 refine⟨(zB (G9 (X:=X) PySem.F.plainAttrs_list PySem.F.slot_list_append PySem.F.type_list_append oC (uJ hN hv hd sN) (dv he.1 gL hs) rR yT rT hs) GC).imp fun D σ H ⟨ρ,S,δ,o,S',E,hf,q⟩=>?_⟩
 unfold oJ at hf;split at hf
 .cases hf
 .rename_i k hk;split at hf
  .cases hf
  .rename_i ds0 h0;obtain⟨v,S1,h1,h2⟩:=R3.ab hf;split at h2
   .rename_i d;split at h2
    .rename_i ds h3;obtain⟨hl,h4⟩:=R3.aP h2;cases h4;obtain⟨u,u1,u2⟩:=E.val i _ (mJ hk);unfold aK at u2;obtain⟨a,a1,rfl⟩:=u2;obtain⟨RZ,x0,_⟩:=E.sw.ob k a _ a1 (fM h0);refine⟨.ref a,u1, .inl ⟨rfl,RZ,mZ.of x0⟩,⟨ρ,S,δ, .d d,S1,E,h1,fun y bh H1 p1 w1 r1=>?_⟩⟩
     have b1:=p1.ext k a a1;obtain⟨xs,x1,x2⟩:=w1.ob k a _ b1 (fM h3);refine⟨a,xs,y,rfl,rfl,x1,by rw[<-x2.length];exact of_decide_eq_true hl,?_⟩
     unfold aK at r1;obtain⟨w2,p2⟩:=w1.put (o:= .lst (ds++[d])) (u:= .lst (xs++[y])) b1 (w1.fz k a b1 (by rw[fM h3];intro h;cases h)) ⟨xs++[y],rfl,x2.append (av.cons r1 av.nil)⟩
     exact q σ bh _ (p1.trans p2) (E.to (p1.trans p2) w2)
    .cases h2
   .cases h2
def A5(fo fi fe:FX):FZ:=fun δ S=>(fe δ S).bind fun v S1=>(fo δ S1).bind fun o S2=>(fi δ S2).bind fun j S3=>match v,o,j with
 | .d d, .loc k, .d (.int n)=>(match dj S3 k with
   | some ds=>(match yb ds.length n with | some m=> .ok (.nx δ) (S3.set k (.lst (ds.set m d))) | none=> .no)
   | none=> .no)
 | _,_,_=> .no
def Bf(K:W.Frag)(cl:Uu)(n:Nat)(g:List V3->aD->R3 V3):Sp:=fun vs H Q _=>vs.length=n/\∃ρ S xs v S',SW K cl ρ H S/\au K ρ H xs vs/\g xs S= .ok v S'/\∀u bW H',Pre ρ H bW H'->SW K cl bW H' S'->aK K bW H' v u->Q u H'
def c8(g:List V3->aD->R3 V3)(fs:FA):FX:=fun δ S=>(fs δ S).bind g
def bC(P:Program)(w:World)(K:W.Frag)(mg:Ut)(base:Heap)(cl:Uu)(k:Nat)(x:Str)(n:Nat)(g:List V3->aD->R3 V3):Prop:=
 ∃(f:Addr) (fd:FuncData) (ps:List Str),gH P w K mg base rZ k f fd ps (Bf K cl n g)/\mg x=some (.ref f)/\PySem.W.keepIn K (.ref f)=true/\Binds K fd ps []
theorem bK{g:List V3->aD->R3 V3}{k j n:Nat}{x:Str}{p pos:Pos}{e:Expr}{es:List Expr}{fs:FA}(C:bC X.prog X.w X.K X.mg X.base cl k x n g)(hr:dQ j X.A)(DT:k<=j)(hg:Gl X x)(ha:Eh X cl (e ::es) fs)
 (hn:∀δ S ds S',fs δ S= .ok ds S'->ds.length=n) (nR:(x==("__debug__":Str))=false:=by decide) (he:starEach (e ::es) X.env=(false,eval e X.env) ::starEach es X.env:=by rfl) (kG:(backTo pos (starEach es X.env)).any (·.1)=false:=by rfl) :
 PX X cl (.Call (.Name x p) (e ::es) [] pos) (c8 g fs):=by
 obtain⟨f,fd,ps,F,hm,hk,hb⟩:=C;refine⟨(uY F (hr.mono DT) hg hm hk hb .nil wW ha.1 nR he kG).imp fun σ H Q ⟨ρ,S,δ,v,S',E,hf,q⟩=>?_⟩
 obtain⟨vs,S1,h1,h2⟩:=R3.ab hf;refine⟨ρ,S,δ,vs,S1,E,h1,fun us bh H1 p1 w1 r1=>?_⟩
 show Bf X.K cl n g (us++[]) H1 Q E0;rw[List.append_nil];exact⟨by rw[<-r1.length];exact hn δ S vs S1 h1,bh,S1,vs,v,S',w1,r1,h2,fun z lD H2 p2 w2 r2=>q z lD H2 (p1.trans p2) w2 r2⟩
end
def cg(N:List Str)(vs:List V3):DE:=vs.map some++List.replicate (N.length - vs.length) none
theorem Bw{K:W.Frag}{cl:Uu}{S:aD}{N:List Str}{ds:List V3}{vs:List V}(w:SW K cl ρ H S)(r:au K ρ H ds vs):dX K cl ρ H S (L2.start N vs) (cg N ds) where
 len:=by unfold L2.start cg;simp [r.length]
 sw:=w
 val:=fun i d e=>by
  unfold cg at e;unfold L2.start;by_cases hi:i < ds.length
  .rw [List.getElem?_append_left (by simpa using hi),List.getElem?_map] at e
   cases q:ds[i]? with
   | none=>rw [q] at e;cases e
   | some d'=>
     rw[q] at e;cases e;obtain⟨x,h1,h2⟩:=r.get q;exact⟨x,by rw[List.getElem?_append_left (by rw[List.length_map,<-r.length];exact hi),List.getElem?_map,h1];rfl,h2⟩
  .rw [List.getElem?_append_right (by simpa using hi),List.getElem?_replicate] at e
   split at e <;> cases e
def nK(N:List Str)(F:FZ):List V3->aD->R3 V3:=fun vs S=>(F (cg N vs) S).bind fun o S'=>match o with | .rt v=> .ok v S' | .nx _=> .ok (.d .bQ) S'
def nS(N:List Str)(F:FZ):List V3->aD->R3 V3:=fun vs S=>(nK N F vs S).bind fun v S'=>match res S' v with
 | some d=>R3.bg ((S'.take S.length).all (mR S.length) && eL S.length v) (.ok (.d d) (S'.take S.length))
 | none=> .no
theorem FR{P:Program}{w:World}{K:W.Frag}{mg:Ut}{base:Heap}{cl:Uu}{x qual:Str}{st:Stmt}{f:Addr}{fd:FuncData}{N ps:List Str}{k:Nat}{F:FZ}(Fn:zk K x qual st f fd)(S:aY N ps (ax st))
 (j1:∀(dI:Value) (A:Around) (outer:List Env) (s:Shared) (H:Hp) (E:XK),dQ k (A.deeper (envOfC qual (ax st) s.heap.objs.size f dI))->
   AF (qm rZ P w K mg base N qual (ax st) f dI A outer s H E).F6 cl (aJ st) F):gH P w K mg base rZ (k+1) f fd ps (Bf K cl ps.length (nK N F)):=by
 refine Fn.ok S (fun vs H Q E h=>h.1) (fun dI A outer s H vs Q E hr h=>⟨_,(j1 dI A outer s H E hr).1,?_⟩)
 obtain⟨_,ρ,S,ds,v,S',w,r,hg,q⟩:=h;obtain⟨o,S1,h1,h2⟩:=R3.ab hg;refine⟨ρ,S,cg N ds,o,S1,Bw w r,h1,?_⟩;cases o with
 | nx dr=>
   cases h2;exact fun cj bW H' p' E'=>q _ bW H' p' E'.sw (by unfold aK Rep;rfl)
 | rt d'=>
   cases h2;exact fun u bW H' p' w' r'=>q u bW H' p' w' r'
theorem yk{K:W.Frag}{cl:Uu}{N:List Str}{n:Nat}{vs:List V}{Q:VK}{E:XK}(h:Bf K cl n (nS N F) vs H Q E):Bf K cl n (nK N F) vs H Q E:=by
 obtain⟨hl,ρ,S,xs,v,S',w,r,hg,q⟩:=h;obtain⟨v1,S1,h1,h2⟩:=R3.ab hg;refine⟨hl,ρ,S,xs,v1,S1,w,r,h1,fun u bh H1 p1 w1 r1=>?_⟩
 have pc:Pre ρ H (bh.cut S.length) H1:=SW.IM (K:=K) (cl:=cl) (by rw[w.len];exact Nat.le_refl _) p1
 split at h2
 .rename_i d e;obtain⟨ok,h3⟩:=R3.aP h2;obtain⟨ok,hk⟩:=Bool.and_eq_true_iff.mp ok;cases h3;refine q u _ H1 pc (w1.cut ok) ?_;unfold aK;refine r1.resB w1 (iQ _) (fun k a hk a1 ha=>?_) hk e
  rcases P3.dt.mp ha with⟨z,_⟩ | z
  .obtain⟨j,hj⟩:=List.getElem?_of_mem z;have hj:(bh.r.take S.length)[j]? =some a:=hj;rw[List.getElem?_take] at hj;split at hj
   .rename_i hjl;have:=w1.nd j k a hj a1;omega
   .cases hj
  .exact(w1.zb a z).2 (List.mem_of_getElem? a1)
 .cases h2
end L3
end
section
namespace L3
open PySem PySem.Spec PyProof.Rows L2
theorem av.setAt{K:W.Frag}{ρ:P3}:∀{ds:List D} {xs:List V} {m:Nat} {d:D} {v:V},av K ρ.b H ds xs->Rep K ρ.b H d v->av K ρ.b H (ds.set m d) (xs.set m v)
 | [],_,_,_,_,h,_=>by unfold av at h;subst h;exact av.nil
 | e ::ds,xs,0,d,v,h,r=>by
   obtain⟨x,r',rfl,h1,h2⟩:=h.bu;exact av.cons r h2
 | e ::ds,xs,m+1,d,v,h,r=>by
   obtain⟨x,r',rfl,h1,h2⟩:=h.bu;exact av.cons h1 (av.setAt h2 r)
section
variable {X:Cx} {cl:Uu}
theorem uc{o i e:Expr}{fo fi fe:FX}{pW pos:Pos}(he:PX X cl e fe)
 (hg:PG X (.Subscript o i pW) (Lx (tX X.K cl fo) (tX X.K cl fi) G_))
 (hs:swapsWithSole [.Subscript o i pW] e pos.line X.env=pure false:=by rfl) (hw:swappedStores [.Subscript o i pW] e X.env=pure none:=by rfl)
 (h1:(assignEach [.Subscript o i pW] X.env).map (·.2)=[assign (.Subscript o i pW) X.env]:=by rfl):PZ X cl (.Assign [.Subscript o i pW] e pos) (A5 fo fi fe):=⟨(Bo he.1 hg hs hw h1).imp fun D σ H ⟨ρ,S,δ,ou,S',E,hf,q⟩=>by
 obtain⟨v,S1,h1,h2⟩:=R3.ab hf;obtain⟨vo,S2,h3,h4⟩:=R3.ab h2;obtain⟨vi,S3,h5,h6⟩:=R3.ab h4;split at h6
 .rename_i d k n;split at h6
  .rename_i ds hds;split at h6
   .rename_i m hm;cases h6;refine⟨ρ,S,δ, .d d,S1,E,h1,fun u bh H1 p1 w1 r1=>⟨bh,S1,δ, .loc k,S2,E.to p1 w1,h3,fun u2 lD H2 p2 w2 r2=>⟨lD,S2,δ, .d (.int n),S3,(E.to p1 w1).to p2 w2,h5,fun u3 pF H3 p3 w3 r3=>?_⟩⟩⟩
    unfold aK at r2;obtain⟨a,a1,rfl⟩:=r2;have a3:=p3.ext k a a1;obtain⟨xs,x1,x2⟩:=w3.ob k a _ a3 (fM hds);unfold aK Rep at r3;have lZ:=r1.pre (p2.trans p3);unfold aK at lZ;obtain⟨w4,p4⟩:=w3.put (o:= .lst (ds.set m d)) (u:= .lst (xs.set m u)) a3 (w3.fz k a a3 (by rw[fM hds];intro h;cases h)) ⟨xs.set m u,rfl,av.setAt x2 lZ⟩
    exact⟨a,xs,n,m,rfl,r3,x1,by rw[<-x2.length];exact hm,q σ pF _ (((p1.trans p2).trans p3).trans p4) (E.to (((p1.trans p2).trans p3).trans p4) w4)⟩
   .cases h6
  .cases h6
 .cases h6⟩
def kX(δ:DE)(i:Nat):Option V3:=match δ[i]? with | some (some v)=>some v | _=>none
def ma(own:List Str)(kp:List Nat)(δ:DE):DE:=List.replicate own.length none++kp.map (kX δ)
theorem E4{K:W.Frag}{S S':aD}{σ:L2.St}{δ:DE}{own:List Str}{kp:List Nat}(E:dX K cl ρ H S σ δ)(p:PW ρ H bW H')(w:SW K cl bW H' S'):dX K cl bW H' S' (cX own kp σ) (ma own kp δ) where
 len:=by unfold cX ma;simp
 sw:=w
 val:=fun i d e=>by
  unfold ma at e;unfold cX;by_cases hi:i < own.length
  .rw [List.getElem?_append_left (by simpa using hi),List.getElem?_replicate] at e
   split at e <;> cases e
  .rw [List.getElem?_append_right (by simpa using hi),List.length_replicate,List.getElem?_map] at e ⊢
   cases q:kp[i - own.length]? with
   | none=>rw [q] at e;cases e
   | some j=>
     rw[q] at e;have e:kX δ j=some d:=Option.some.inj e;unfold kX at e;split at e
     .rename_i d' ed;cases e;obtain⟨v,h1,h2⟩:=E.val j d ed;exact⟨v,by simp [h1],h2.pw p⟩
     .cases e
def kU(t:FG)(c:FB)(f:FX)(δ:DE):List V3->aD->R3 (List V3)
 | [],S=> .ok [] S
 | v ::vs,S=>match t v δ with
   | none=> .no
   | some cz=>(c cz S).bind fun b S1=>if b then(f cz S1).bind fun y S2=>(kU t c f δ vs S2).bind fun ys S3=> .ok (y ::ys) S3 else kU t c f δ vs S1
def l3(it:FA)(t:FG)(c:FB)(f:FX)(own:List Str)(kp:List Nat):FX:=fun δ S=>(it δ S).bind fun vs S1=>R3.bg (decide (vs.length<=sizeLine)) ((kU t c f (ma own kp δ) vs S1).bind fun ys S2=> .ok (pq ys) S2)
theorem au.append{K:W.Frag}:∀{ds es:List V3} {xs ys:List V},au K ρ H ds xs->au K ρ H es ys->au K ρ H (ds++es) (xs++ys)
 | [],_,_,_,h,t=>by unfold au at h;subst h;exact t
 | d ::ds,es,xs,ys,h,t=>by
   obtain⟨x,r,rfl,h1,h2⟩:=h.bu;exact au.cons h1 (au.append h2 t)
theorem zc{K:W.Frag}{own:List Str}{kp:List Nat}{σ:L2.St}{Q:VK}(h:tX K cl (l3 it t c f own kp) σ H Q) :
 y9 (OU K cl it) (gX K cl t) (Hn K cl c) (tX K cl f) own kp σ H Q:=by
 obtain⟨ρ,S,δ,v,SF,E,hf,q⟩:=h;obtain⟨es,S1,h1,h2⟩:=R3.ab hf;obtain⟨hl,h3⟩:=R3.aP h2;have hl:=of_decide_eq_true hl;obtain⟨vs,S2,h4,h5⟩:=R3.ab h3;cases h5;refine⟨ρ,S,δ,es,S1,E,h1,fun J bh H1 p1 w1 ir Dd hD=>?_⟩
 have nDz:Dd ∉ bh.b:=fun hb=>by obtain⟨o,ho⟩:=w1.bs Dd hb;rw [hD] at ho;cases ho
 have nDr:Dd ∉ bh.r:=fun hb=>by obtain⟨o,ho⟩:=w1.rs Dd hb;rw [hD] at ho;cases ho
 have toZ:∀{r' f':List Addr} {H':Hp},Pre bh H1 ⟨r',bh.z,f'⟩ H'->PW bh H1 ⟨r',Dd ::bh.z,f'⟩ H':=fun {r' f' H'} p=>⟨fun b o e nb=>⟨(p.aU b o e nb).1,fun hb=>by
  rcases P3.dt.mp hb with z | z
  .exact(p.aU b o e nb).2 (P3.dt.mpr (.inl z))
  .rcases List.mem_cons.mp z with y | y
   .exact bR e hD y
   .exact(p.aU b o e nb).2 (P3.dt.mpr (.inr y))⟩,p.ext⟩
 have w0:SW K cl ⟨bh.r,Dd ::bh.z,bh.f⟩ (upd H1 Dd (.lst [])) S1:=by
  have s0:aI H1 (upd H1 Dd (.lst [])):=aC hD;have ws:=w1.same s0;refine⟨ws.len,ws.nd,fun k a o hk ho=>?_,fun b hb=>?_,ws.fz,ws.ff,ws.fi⟩
  .have r:=w1.ob k a o hk ho;obtain⟨u,hu⟩:=r.some;rw[s0 a u hu,<-hu];exact r.pw (toZ (Pre.same s0))
  .rcases List.mem_cons.mp hb with y | y
   .subst y;exact⟨⟨_,aL⟩,nDr⟩
   .exact ws.zb b y
 refine⟨fun i m ys H'=>m=es.length - i/\i<=es.length/\ys.length<=i/\H' Dd=some (.lst ys)/\∃r' f' S' done rest,Pre bh H1 ⟨r',bh.z,f'⟩ H'/\SW K cl ⟨r',Dd ::bh.z,f'⟩ H' S'/\vs=done++rest/\au K ⟨r',Dd ::bh.z,f'⟩ H' done ys/\kU t c f (ma own kp δ) (es.drop i) S'= .ok rest SF,
  ⟨es.length,rfl,Nat.zero_le _,Nat.le_refl _,aL,bh.r,bh.f,S1,[],vs,Pre.same (aC hD),w0,rfl,au.nil,by simpa using h4⟩,?_⟩
 rintro i m ys H' ⟨rfl,hi,hy,hDl,r',f',S',done,rest,pv,w',rfl,rd,hc⟩;obtain⟨go,stop⟩:=ir ⟨r',Dd ::bh.z,f'⟩ H' (toZ pv) w'.bs;have unZ:∀{D6:P3} {H4:Hp},Pre ⟨r',Dd ::bh.z,f'⟩ H' D6 H4->Pre bh H1 ⟨D6.r,bh.z,D6.f⟩ H4:=fun {D6 H4} p4=>⟨fun b o e nb=>by
  obtain⟨e1,n1⟩:=(toZ pv).aU b o e nb;obtain⟨gY,n2⟩:=p4.aU b o e1 n1;refine⟨gY,fun hb=>n2 ?_⟩
  rcases P3.dt.mp hb with z | z
  .exact P3.dt.mpr (.inl z)
  .exact P3.dt.mpr (.inr (by rw[p4.zz];exact List.mem_cons_of_mem _ z)),rfl,fun b o hb h=>p4.zs b o (List.mem_cons_of_mem _ hb) (pv.zs b o hb h),fun k a h=>p4.ext k a (pv.ext k a h)⟩
 by_cases hlt:i < es.length
 .have hd:es[i]? =some es[i]:=List.getElem?_eq_getElem hlt;have hdrop:es.drop i=es[i] ::es.drop (i+1):=List.drop_eq_getElem_cons hlt;rw[hdrop] at hc;unfold kU at hc;split at hc
  .cases hc
  .rename_i cz h6;obtain⟨b,T1,h7,h8⟩:=R3.ab hc;obtain⟨g1,g2⟩:=go i _ hd;refine .inr ⟨g1,fun x H2 y=>?_⟩
   obtain⟨sy,ry⟩:=g2 x H2 y;have Ec:dX K cl ⟨r',Dd ::bh.z,f'⟩ H2 S' (cX own kp σ) (ma own kp δ):=E4 E (p1.pw.trans ((toZ pv).trans (Pre.same sy).pw)) (w'.same sy);refine⟨⟨r',Dd ::bh.z,f'⟩,S',ma own kp δ,es[i],cz,Ec,ry,h6,fun xm H3 s3 E3=>⟨⟨r',Dd ::bh.z,f'⟩,S',cz,b,T1,E3,h7,fun D6 H4 p4 w4=>?_⟩⟩
   have L7:Pre ⟨r',Dd ::bh.z,f'⟩ H' D6 H4:=(Pre.same (sy.trans s3)).trans p4;cases b with
   | true=>
     rw[if_pos rfl] at h8;refine AV ?_;obtain⟨yv,T2,h9,LJ⟩:=R3.ab h8;obtain⟨rs,T3,Ob,S_⟩:=R3.ab LJ;cases S_;refine⟨D6,T1,cz,yv,T2,E3.to p4 w4,h9,fun v5 P5 H5 p5 w5 r5=>?_⟩
     have pv5:Pre ⟨r',Dd ::bh.z,f'⟩ H' P5 H5:=L7.trans p5;have Oz:H5 Dd=some (.lst ys):=pv5.zs Dd _ List.mem_cons_self hDl;have u5:=unZ pv5;obtain⟨My,z5,f5⟩:=P5;have ez:z5=Dd ::bh.z:=pv5.zz;subst ez;have nr:Dd ∉ My:=(w5.zb Dd List.mem_cons_self).2;have pw:PW ⟨My,Dd ::bh.z,f5⟩ H5 ⟨My,Dd ::bh.z,f5⟩ (upd H5 Dd (.lst (ys++[v5]))):=⟨fun b o e nb=>⟨by rw[aQ (fun(z:b=Dd)=>nb (by rw[z];exact P3.dt.mpr (.inr List.mem_cons_self)))];exact e,nb⟩,fun _ _ h=>h⟩
     refine⟨Oz,by omega,es.length - (i+1),by omega,rfl,hlt,by rw[List.length_append,List.length_singleton];omega,aL,My,f5,T2,done++[yv],rs,?_,?_,by simp,au.append ((rd.pre pv5).pw pw) (au.cons (r5.pw pw) au.nil),Ob⟩
     .refine⟨fun b o e nb=>⟨by rw[aQ (bR e hD)];exact(u5.aU b o e nb).1,(u5.aU b o e nb).2⟩,rfl,fun b o hb h=>?_,u5.ext⟩
      rw[aQ (bR h hD)];exact u5.zs b o hb h
     .refine⟨w5.len,w5.nd,fun k a o hk ho=>?_,fun b hb=>?_,w5.fz,fun b hb=>?_,w5.fi⟩
      .have ne:a≠Dd:=fun z=>nr (by rw[<-z];exact List.mem_of_getElem? hk)
       rw[aQ ne];exact(w5.ob k a o hk ho).pw pw
      .obtain⟨⟨o,ho⟩,n⟩:=w5.zb b hb;refine⟨?_,n⟩;by_cases z:b=Dd
       .subst z;exact⟨_,aL⟩
       .rw [aQ z];exact⟨o,ho⟩
      .obtain⟨o,ho⟩:=w5.ff b hb;by_cases z:b=Dd
       .subst z;exact⟨_,aL⟩
       .rw [aQ z];exact⟨o,ho⟩
   | false=>
     rw[if_neg (by decide)] at h8
     refine Aj ?_;have Su:H4 Dd=some (.lst ys):=L7.zs Dd _ List.mem_cons_self hDl;have u4:=unZ L7;obtain⟨RM,z4,f4⟩:=D6;have ez:z4=Dd ::bh.z:=L7.zz;subst ez;exact⟨es.length - (i+1),by omega,rfl,hlt,by omega,Su,RM,f4,T1,done,rest,u4,w4,rfl,rd.pre L7,h8⟩
 .have e:i=es.length:=by omega
  subst e;rw[List.drop_length] at hc;cases hc;rw[List.append_nil] at q;refine .inl ⟨stop,?_⟩;have back:PW ⟨r',Dd ::bh.z,f'⟩ H' ⟨r',bh.z,f'⟩ H':=⟨fun b o e nb=>⟨e,fun hb=>nb (by
   rcases P3.dt.mp hb with z | z
   .exact P3.dt.mpr (.inl z)
   .exact P3.dt.mpr (.inr (List.mem_cons_of_mem _ z)))⟩,fun _ _ h=>h⟩
  have wB:SW K cl ⟨r',bh.z,f'⟩ H' _:=⟨w'.len,w'.nd,fun k a o hk ho=>(w'.ob k a o hk ho).pw back,fun b hb=>w'.zb b (List.mem_cons_of_mem _ hb),w'.fz,w'.ff,w'.fi⟩
  refine q _ ⟨r',bh.z,f'⟩ H' (p1.trans pv) wB (tL (.inl ⟨fun hb=>?_, .inl hDl⟩) (rd.pw back))
  rcases P3.dt.mp hb with z | z
  .exact(w'.zb Dd List.mem_cons_self).2 z.1
  .exact nDz (P3.dt.mpr (.inr z))
end
end L3
end
section
namespace L3
open PySem PySem.Spec PyProof.Rows L2
section
variable {X:Cx} {cl:Uu}
theorem vg{scope:Scope}{own:List Str}{kp:List Nat}{kn:List Str}{tg iter elt:Expr}{ifs:List Expr}{it:FA}{t:FG}{c:FB}{f:FX}{pos:Pos}(hc:X.calm=true)(C:bL X scope own kp kn)(hi:Fe X cl tg iter it)
 (hg:∀fp s H,Hf (bp X scope (own++kn) fp s H) cl tg t) (DX:∀fp s H,oy (bp X scope (own++kn) fp s H) ifs (Hn X.K cl c)) (he:∀fp s H,PX (bp X scope (own++kn) fp s H) cl elt f)
 (hs:∀x,foldedSetIterable iter X.env x=pure x:=by intro _;rfl):PX X cl (.ListComp elt [⟨tg,iter,ifs,0⟩] scope pos) (l3 it t c f own kp):=
 ⟨(zK hc C hi.1 (fun fp s H=>(hg fp s H).1) DX (fun fp s H=>(he fp s H).1) hs).imp fun σ H Q h=>zc h⟩
def AO:FB:=fun _ S=> .ok true S
theorem lR:oy X [] (Hn X.K cl AO):=fun pins s σ H Q I ⟨ρ,S,δ,b,S',E,hf,q⟩=>wm pins s σ H Q I (by cases hf;exact q ρ H (Pre.refl ρ H) E.sw)
theorem C5(h:C2 X cl e c):oy X [e] (Hn X.K cl c):=v8 h.1
theorem IY{K:W.Frag}{i:Nat}{D:Ends}{σ:L2.St}(h:sX K cl (cx i f) D σ H):Ar (tX K cl f) (qB i) D σ H:=by
 obtain⟨ρ,S,δ,o,S',E,hf,q⟩:=h;obtain⟨v,S1,h1,h2⟩:=R3.ab hf;obtain⟨hi,h3⟩:=R3.aP h2;cases h3;refine⟨ρ,S,δ,v,_,E,h1,fun u bh H1 p1 w1 r1=>?_⟩
 exact q _ bh H1 p1 ((E.to p1 w1).set (by rw[<-E.len];exact of_decide_eq_true hi) r1)
theorem rO{i:Nat}{x:Str}{pos' pW:Pos}{scope:Scope}{own:List Str}{kp:List Nat}{kn:List Str}{tg iter elt:Expr}{ifs:List Expr}{it:FA}{t:FG}{c:FB}{f:FX}{pos:Pos}(hc:X.calm=true)
 (hN:X.N.Nodup) (hx:X.N[i]? =some x) (Kc:X.env.scope.names.lookup x=some .local) (C:bL X scope own kp kn) (hi:Fe X cl tg iter it)
 (hg:∀fp s H,Hf (bp X scope (own++kn) fp s H) cl tg t) (DX:∀fp s H,oy (bp X scope (own++kn) fp s H) ifs (Hn X.K cl c)) (he:∀fp s H,PX (bp X scope (own++kn) fp s H) cl elt f)
 (GC:swapsWith (.ListComp elt [⟨tg,iter,ifs,0⟩] scope pos) (some (.Name x pos')) pW.line X.env=pure true:=by rfl)
 (hs:∀x,foldedSetIterable iter X.env x=pure x:=by intro _;rfl):PZ X cl (.Assign [.Name x pos'] (.ListComp elt [⟨tg,iter,ifs,0⟩] scope pos) pW) (cx i (l3 it t c f own kp)):=
 ⟨(xu hc hN hx Kc C hi.1 (fun fp s H=>(hg fp s H).1) DX (fun fp s H=>(he fp s H).1) GC hs).imp fun D σ H h=>zc (IY h)⟩
def TB(g:FA):FX:=fun δ S=>(g δ S).bind fun vs S1=>match pK vs with
 | some ds=>R3.bg (decide (ds.length<=sizeLine)) (.ok (.loc S1.length) (S1++[.lst ds]))
 | none=> .no
end
end L3
end
section
namespace L3
open PySem PySem.Spec PyProof.Rows L2
section
variable {X:Cx} {cl:Uu}
def mz(g:List D->R D)(fs:FA):FX:=fun δ S=>(fs δ S).bind fun vs S1=>match pK vs with
 | some ds=>(R3.of (g ds) S1).bind fun d S=> .ok (.d d) S
 | none=> .no
theorem Dr{K:W.Frag}{g:List D->R D}{σ:L2.St}{Q:VK}(h:tX K cl (mz g fs) σ H Q) :
 OQ K cl fs σ H fun vs H1=>∃B ds d,(∀a∈B,∃o,H1 a=some o)/\av K B H1 ds vs/\g ds= .ok d/\∀z H',aI H1 H'->Rep K B H' d z->Q z H':=by
 obtain⟨ρ,S,δ,v,S',E,hf,q⟩:=h;obtain⟨vs,S1,h1,h2⟩:=R3.ab hf;split at h2
 .rename_i ds e;obtain⟨d,S2,h3,h4⟩:=R3.ab h2;obtain⟨h5,e5⟩:=R3.of_ok h3;cases h4;subst e5;refine⟨ρ,S,δ,vs,_,E,h1,fun us bh H1 p1 w1 r1=>?_⟩
  rw[hJ e] at r1;exact⟨bh.b,ds,d,w1.bs,r1.to,h5,fun z H' s r=>q z bh H' (p1.trans (Pre.same s)) (w1.same s) (by unfold aK;exact r)⟩
 .cases h2
theorem BH{g:List D->R D}{x:Str}{id:String}{p pos:Pos}{e:Expr}{es:List Expr}{fs:FA}(hc:cM X (.builtin id) g)(hg:Gl X x)(hm:X.mg x=none)(hv:bootBuiltins x=some (.builtin id))(ha:Eh X cl (e ::es) fs)(hn:x≠"__name__":=by decide)(nR:(x==("__debug__":Str))=false:=by decide)
 (he:starEach (e ::es) X.env=(false,eval e X.env) ::starEach es X.env:=by rfl) (kG:(backTo pos (starEach es X.env)).any (·.1)=false:=by rfl):PX X cl (.Call (.Name x p) (e ::es) [] pos) (mz g fs):=
 ⟨(nQ hc.r hg hm hv ha.1 hn nR he kG).imp fun σ H Q h=>Dr h⟩
def Tr(c:FB)(f g:FX):FX:=fun δ S=>(c δ S).bind fun b S=>if b then f δ S else g δ S
theorem aW:∀(δ:DE) (S:aD) (ds:List V3) (S':aD),cB δ S= .ok ds S'->ds.length=0:=fun δ S ds S' h=>by cases h;rfl
theorem aj{g:FA}{n:Nat}(h:∀(δ:DE) (S:aD) (ds:List V3) (S':aD),g δ S= .ok ds S'->ds.length=n):∀(δ:DE) (S:aD) (ds:List V3) (S':aD),aA f g δ S= .ok ds S'->ds.length=n+1:=fun δ S ds S' e=>by
 obtain⟨v,S1,h1,h2⟩:=R3.ab e;obtain⟨vs,S2,h3,h4⟩:=R3.ab h2;cases h4;rw[List.length_cons,h δ S1 vs _ h3]
end
end L3
end
section
namespace L3
open PySem PySem.Spec PyProof.Rows L2
theorem t9{K:W.Frag}{ds:List V3}{xs:List V}{i:Int}{d:V3}(r:au K ρ H ds xs)(h:pj ds i=some d):∃x,pj xs i=some x/\aK K ρ H d x:=by
 unfold pj at h ⊢;rw[<-r.length];cases e:yb ds.length i with
 | none=>rw [e] at h;cases h
 | some j=>
   rw[e] at h;exact r.get h
section
variable {X:Cx} {cl:Uu}
def LA(fa fb:FX):FX:=fun δ S=>(fa δ S).bind fun a S1=>(fb δ S1).bind fun b S2=>match a,b with
 | .d x, .d y=>(R3.of (cN x y) S2).bind fun d S=> .ok (.d d) S
 | .lst vs, .d (.int i)=>(match pj vs i with | some v=> .ok v S2 | none=> .no)
 | .tup vs, .d (.int i)=>(match pj vs i with | some v=> .ok v S2 | none=> .no)
 | _,_=> .no
theorem Hd(ha:PX X cl a fa)(hb:PX X cl b fb)(hs:p8 b):PX X cl (.Subscript a b pos) (LA fa fb):=by
 refine⟨(G8 (r:=MI X.K) B8 ha.1 hb.1 hs).imp fun σ H Q ⟨ρ,S,δ,v,S',E,hf,q⟩=>?_⟩
 obtain⟨v1,S1,h1,h2⟩:=R3.ab hf;obtain⟨v2,S2,h3,h4⟩:=R3.ab h2;refine⟨ρ,S,δ,v1,S1,E,h1,fun u1 bh H1 p1 w1 r1=>⟨bh,S1,δ,v2,S2,E.to p1 w1,h3,fun u2 lD H2 p2 w2 r2=>?_⟩⟩
 have lZ:=r1.pre p2;have L4:=p1.trans p2;split at h4
 .rename_i x y;obtain⟨d,S3,h5,h6⟩:=R3.ab h4;obtain⟨h7,e7⟩:=R3.of_ok h5;cases h6;subst e7;unfold aK at lZ r2;unfold cN at h7;split at h7
  .split at h7
   .rename_i e;cases h7;obtain⟨p,xs,rfl,l,rs⟩:=Rep.lst.mp lZ;obtain⟨y,e1,e2⟩:=m6 rs e;exact .inl ⟨p,xs,_,y,rfl,Rep.int.mp r2,l.sq,e1,q y lD H2 L4 w2 (by unfold aK;exact e2)⟩
   .cases h7
  .split at h7
   .rename_i e;cases h7;obtain⟨p,xs,rfl,l,rs⟩:=Rep.tup.mp lZ;obtain⟨y,e1,e2⟩:=m6 rs e;exact .inr (.inl ⟨p,xs,_,y,rfl,Rep.int.mp r2,l.sq,e1,q y lD H2 L4 w2 (by unfold aK;exact e2)⟩)
   .cases h7
  .obtain⟨hl,h8⟩:=R.aP h7;split at h8
   .rename_i e;cases h8;exact .inr (.inr ⟨_,_,_,Rep.str.mp lZ,Rep.int.mp r2,of_decide_eq_true hl,e,q _ lD H2 L4 w2 (by unfold aK;exact Rep.str.mpr rfl)⟩)
   .cases h8
  .cases h7
 .split at h4
  .rename_i e;cases h4;unfold aK at lZ r2;obtain⟨p,xs,rfl,l,rs⟩:=lZ;obtain⟨y,e1,e2⟩:=t9 rs e;exact .inl ⟨p,xs,_,y,rfl,Rep.int.mp r2,l.sq,e1,q y lD H2 L4 w2 e2⟩
  .cases h4
 .split at h4
  .rename_i e;cases h4;unfold aK at lZ r2;obtain⟨p,xs,rfl,l,rs⟩:=lZ;obtain⟨y,e1,e2⟩:=t9 rs e;exact .inr (.inl ⟨p,xs,_,y,rfl,Rep.int.mp r2,l.sq,e1,q y lD H2 L4 w2 e2⟩)
  .cases h4
 .cases h4
end
end L3
end
section
namespace L3
open PySem PySem.Spec PyProof.Rows L2
section
variable {X:Cx} {cl:Uu}
structure TF (X:Cx) (cl:Uu) (e:Expr) (f:FB):Prop where
 go:L2.PW X e (Hn X.K cl f)
def Rk(f g:FB):FB:=fun δ S=>(f δ S).bind fun b S=>if b then g δ S else .ok false S
def TY(f g:FB):FB:=fun δ S=>(f δ S).bind fun b S=>if b then .ok true S else g δ S
def Ie(f:FB):FB:=fun δ S=>(f δ S).bind fun b S=> .ok (!b) S
theorem Fz(ha:C2 X cl a f):C2 X cl (.UnaryOp .Not a pos) (Ie f):=⟨(CG ha.1).imp fun σ H Q ⟨ρ,S,δ,k,S',E,hf,q⟩=>by
 obtain⟨c,S1,h1,h2⟩:=R3.ab hf;cases h2;exact⟨ρ,S,δ,c,_,E,h1,fun bh H1 p1 w1=>q bh H1 p1 w1⟩⟩
def Fj(f:FX):FB:=fun δ S=>(f δ S).bind fun v S=>match v with | .d d=>R3.of (Ez d) S | _=> .no
theorem Gr(ha:PX X cl a f)(ht:∀{t:TE},PE X a t->PT X a (fun σ H Q=>t σ H fun x H'=>∃b,Ff X.K x H' b/\Q b H')):C2 X cl a (Fj f):=
 ⟨(ht ha.1).imp fun σ H Q ⟨ρ,S,δ,b,S',E,hf,q⟩=>by
   obtain⟨v,S1,h1,h2⟩:=R3.ab hf;split at h2
   .rename_i d;obtain⟨h3,e3⟩:=R3.of_ok h2;subst e3;exact⟨ρ,S,δ, .d d,_,E,h1,fun u bh H1 p1 w1 r1=>⟨b,Cu (by unfold aK at r1;exact r1) h3,q bh H1 p1 w1⟩⟩
   .cases h2⟩
abbrev Ek:=DE->aD->R3 (Option Int)
def QH(K:W.Frag)(cl:Uu)(f:Ek):TO:=fun σ H Q=>∃ρ S δ o S',dX K cl ρ H S σ δ/\f δ S= .ok o S'/\∀bW H',Pre ρ H bW H'->SW K cl bW H' S'->Q o H'
structure JZ (X:Cx) (cl:Uu) (e:Option Expr) (f:Ek):Prop where
 go:PO X e (QH X.K cl f)
def uz:Ek:=fun _ S=> .ok none S
def uH(f:FX):Ek:=fun δ S=>(f δ S).bind fun v S=>match v with | .d (.int i)=> .ok (some i) S | _=> .no
theorem wc:JZ X cl none uz:=⟨zh.imp fun σ H Q ⟨ρ,S,δ,o,S',E,hf,q⟩=>by cases hf;exact q ρ H (Pre.refl ρ H) E.sw⟩
theorem xi(h:PX X cl e f):JZ X cl (some e) (uH f):=⟨(y_ h.1).imp fun σ H Q ⟨ρ,S,δ,o,S',E,hf,q⟩=>by
 obtain⟨v,S1,h1,h2⟩:=R3.ab hf;split at h2
 .rename_i i;cases h2;exact⟨ρ,S,δ, .d (.int i),_,E,h1,fun u bh H1 p1 w1 r1=>⟨i,Rep.int.mp (by unfold aK at r1;exact r1),q bh H1 p1 w1⟩⟩
 .cases h2⟩
def MV(f:FX)(fl fh:Ek):FX:=fun δ S=>(f δ S).bind fun v S1=>(fl δ S1).bind fun lo S2=>(fh δ S2).bind fun hi S3=>match v with
 | .d d=>(R3.of (Hb d lo hi) S3).bind fun r S=> .ok (.d r) S
 | _=> .no
theorem LH{lo hi:Option Expr}{fl fh:Ek}(he:PX X cl e f)(hl:JZ X cl lo fl)(hh:JZ X cl hi fh):PX X cl (.Subscript e (.Slice lo hi none p2) pos) (MV f fl fh):=by
 refine⟨(rE (yn.or uK) he.1 hl.1 hh.1).imp fun σ H Q ⟨ρ,S,δ,v,S',E,hf,q⟩=>?_⟩
 obtain⟨v1,S1,h1,h2⟩:=R3.ab hf;obtain⟨l,S2,h3,h4⟩:=R3.ab h2;obtain⟨h,S3,h5,h6⟩:=R3.ab h4;refine⟨ρ,S,δ,v1,S1,E,h1,fun u1 bh H1 p1 w1 r1=>⟨bh,S1,δ,l,S2,E.to p1 w1,h3,fun lD H2 p2 w2=>⟨lD,S2,δ,h,S3,(E.to p1 w1).to p2 w2,h5,fun pF H3 p3 w3=>?_⟩⟩⟩
 have pA:Pre ρ H pF H3:=p1.trans (p2.trans p3);have lZ:=r1.pre (p2.trans p3);split at h6
 .rename_i d;obtain⟨r,S4,h7,h8⟩:=R3.ab h6;obtain⟨h9,e9⟩:=R3.of_ok h7;cases h8;subst e9;unfold aK at lZ;unfold Hb at h9;split at h9
  .obtain⟨hz,LJ⟩:=R.aP h9;cases LJ;exact .inl ⟨_,Rep.str.mp lZ,of_decide_eq_true hz,q _ pF H3 pA w3 (by unfold aK;exact Rep.str.mpr rfl)⟩
  .cases h9;obtain⟨a,xs,rfl,ls,rs⟩:=Rep.lst.mp lZ;refine .inr ⟨a,xs,rfl,ls.sq,fun p hp=>q _ pF _ (pA.trans (i5 hp)) (w3.same (aC hp)) ?_⟩
   unfold aK;refine Rep.lst.mpr ⟨p,_,rfl, .mi aL fun ha=>?_,(wx rs l h).same (aC hp)⟩
   obtain⟨o,ho⟩:=w3.bs p ha;rw[hp] at ho;cases ho
  .cases h9
 .cases h6
end
end L3
end
section
namespace L2
open PySem PySem.Spec PyProof.Rows
section
variable {X:Cx}
def x8(t T:String):Bool:=t==T || (t=="bool" && T=="int")
theorem n_{K:W.Frag}(t T:String)(ht:t∈["NoneType","bool","int","str","list","tuple"])(hT:T∈["bool","int","str","list","tuple"]):PySem.W.kitOne K (.type t) (.type T)=some (x8 t T):=by
 simp only[List.mem_cons,List.not_mem_nil,or_false] at ht hT;rcases ht with rfl | rfl | rfl | rfl | rfl | rfl <;> rcases hT with rfl | rfl | rfl | rfl | rfl <;> rfl
def Ja(T:String)(f:FD):FD:=fun δ=>(f δ).bind fun d=>match d with | .dct _ _=> .no | _=> .ok (.bl (x8 (tyName d) T))
theorem EB{T:Str}{Ts:String}{p p2 pos:Pos}{e:Expr}{f:FD}(he:QD X e f)(hT:Ts∈["bool","int","str","list","tuple"])(hg:Gl X "isinstance")(hm:X.mg "isinstance"=none)(Sv:Gl X T)(RX:X.mg T=none)(Ti:bootBuiltins T=some (.type Ts))(R5:T≠"__name__":=by decide)(RQ:(T==("__debug__":Str))=false:=by decide)
 (hs:starEach [e, .Name T p2] X.env=(false,eval e X.env) ::starEach [.Name T p2] X.env:=by rfl) (kG:(backTo pos (starEach [.Name T p2] X.env)).any (·.1)=false:=by rfl):QD X (.Call (.Name "isinstance" p) [e, .Name T p2] [] pos) (Ja Ts f):=by
 have hc:kC X (.builtin "isinstance") (fun xs H Q=>∃B d x,Rep X.K B H d x/\(∀a b,d≠ .dct a b)/\xs=[x, .ty Ts]/\Q (.bl (x8 (tyName d) Ts)) H):=by
  intro pins s σ H xs us Q I r h;obtain⟨B,d,x,rd,ha,rfl,q⟩:=h;obtain⟨u,w',rfl,ru,Es⟩:=vals2 r;cases Es;have fin:∀tk,EP X pins σ Q (.bool (x8 (tyName d) Ts)) {s with toks:=tk}:=fun tk=>⟨.bl _,H,I.tok _,rfl,q⟩
  cases d with
  | bQ=>exact lQ I ru (by rw[Rep.bQ.mp rd];exact .bQ) (n_ "NoneType" Ts (by decide) hT) fin
  | bl b=>exact lQ I ru (by rw[Rep.bl.mp rd];exact .bl b) (n_ "bool" Ts (by decide) hT) fin
  | int i=>exact lQ I ru (by rw[Rep.int.mp rd];exact .int i) (n_ "int" Ts (by decide) hT) fin
  | str z=>exact lQ I ru (by rw[Rep.str.mp rd];exact .str z) (n_ "str" Ts (by decide) hT) fin
  | lst es=>
    obtain⟨a,ys,rfl,l,_⟩:=Rep.lst.mp rd;cases(show u=Value.ref a from ru)
    obtain⟨GI,n2,r2,h1,z2⟩:=I.GV l;exact PySem.W.kia_one PySem.W.kitx_list I.n0 ⟨_,h1,rfl⟩ (n_ "list" Ts (by decide) hT) (fun z=>nomatch z) fin
  | tup es=>
    obtain⟨a,ys,rfl,l,_⟩:=Rep.tup.mp rd;cases(show u=Value.ref a from ru)
    obtain⟨its,rv,p,hz⟩:=I.tuple l.sq;obtain⟨o,h1,h2,_⟩:=p;exact PySem.W.kia_one PySem.W.kitx_tuple I.n0 ⟨o,h1,h2⟩ (n_ "tuple" Ts (by decide) hT) (fun z=>nomatch z) fin
  | dct a b=>exact absurd rfl (ha a b)
 refine⟨(nQ hc hg hm boot_isinstance (dv he.1 (dv (FV (v:= .ty Ts) Sv RX Ti rfl R5 RQ) gL) hs) (by decide) (by decide) hs kG).imp fun σ H Q ⟨Z,B,δ,d,E,hf,q⟩=>?_⟩
 obtain⟨d1,h1,h2⟩:=R.ab hf;have key:(∀a b,d1≠ .dct a b)/\d= .bl (x8 (tyName d1) Ts):=by
  cases d1 with
  | dct a b=>cases h2
  | _=>cases h2;exact⟨fun _ _ z=>(by cases z),rfl⟩
 obtain⟨k1,rfl⟩:=key;exact⟨Z,B,δ,d1,E,h1,fun v H1 s1 r1=>⟨B,d1,v,r1,k1,rfl,q _ H1 s1 (Rep.bl.mpr rfl)⟩⟩
def nList(f:FD):ak->R (List D):=fun δ=>(f δ).bind fun d=>match d with | .lst ds=> .ok ds | .tup ds=> .ok ds | _=> .no
end
end L2
namespace L3
open PySem PySem.Spec PyProof.Rows L2
theorem bN{P:Program}{w:World}{K:W.Frag}{mg:Ut}{base:Heap}{cl:Uu}{x qual:Str}{st:Stmt}{f:Addr}{fd:FuncData}{N ps:List Str}{k:Nat}{F:FZ}{b:List Stmt}{sc:Scope}(hb:aJ st=b)(hs:ax st=sc)(Fn:zk K x qual st f fd)(S:aY N ps sc)
 (j1:∀(dI:Value) (A:Around) (outer:List Env) (s:Shared) (H:Hp) (E:XK),dQ k (A.deeper (envOfC qual sc s.heap.objs.size f dI))->
   AF (qm rZ P w K mg base N qual sc f dI A outer s H E).F6 cl b F):gH P w K mg base rZ (k+1) f fd ps (Bf K cl ps.length (nK N F)):=by
 subst hb hs;exact FR Fn S j1
theorem bC.p{K:W.Frag}{mg:Ut}{cl:Uu}{k:Nat}{n:Nat}{N:List Str}(C:bC P w K mg base cl k x n (nK N F)):bC P w K mg base cl k x n (nS N F):=
 let⟨f,fd,ps,F,h⟩:=C;⟨f,fd,ps,F.imp fun _ _ _ _ h=>yk h,h⟩
def Mc(N:List Str)(F:FZ):List D->R D:=fun ds=>match nS N F (ds.map .d) [] with
 | .ok (.d d) []=>R.bg d.atom (.ok d)
 | _=> .no
theorem HI{K:W.Frag}{cl:Uu}{N:List Str}{n:Nat}{vs:List V}{Q:VK}{E:XK}(h:Dz K n (Mc N F) vs H Q E):Bf K cl n (nK N F) vs H Q E:=by
 obtain⟨hl,B,ds,d,hb,r,hg,q⟩:=h;unfold Mc at hg;split at hg
 .rename_i d' e;obtain⟨ha,h2⟩:=R.aP hg;cases h2;have r0:av K (⟨[],[],[]⟩:P3).b H ds vs:=r.aU fun b o e _=>⟨e,by simp [P3.b]⟩
  refine yk ⟨hl,⟨[],[],[]⟩,[],ds.map .d, .d d,[],⟨rfl,fun i j a hi=>by simp at hi,fun k a o hk=>by simp at hk,fun b hb=>by simp at hb,fun k a hk=>by simp at hk,fun b hb=>by simp at hb,fun k a hk=>by simp at hk⟩,au.of r0,e,fun u bW H' p w' r'=>q u H' (fun b o eb=>?_) ?_⟩
  .exact(p.aU b o eb (by simp [P3.b])).1
  .unfold aK at r';exact r'.atom ha
 .cases hg
section
variable {X:Cx} {cl:Uu}
theorem Cn{a:Expr}(ha:PX X cl a f)(he:∀whole,isTrue a X.env whole=(do let v <-whole;standAt a.pos;holding [v] (truthy v)):=by intro _;rfl):C2 X cl a (Fj f):=Gr ha fun h=>wZ h he
theorem vU{g:List D->R D}{k j n:Nat}{x:Str}{p pos:Pos}{e:Expr}{es:List Expr}{fs:FA}(C:Callee X.prog X.w X.K X.mg X.base k x n g)(hr:dQ j X.A)(DT:k<=j)(hg:Gl X x)(ha:Eh X cl (e ::es) fs)
 (hn:∀δ S ds S',fs δ S= .ok ds S'->ds.length=n) (nR:(x==("__debug__":Str))=false:=by decide) (he:starEach (e ::es) X.env=(false,eval e X.env) ::starEach es X.env:=by rfl) (kG:(backTo pos (starEach es X.env)).any (·.1)=false:=by rfl) :
 PX X cl (.Call (.Name x p) (e ::es) [] pos) (mz g fs):=by
 obtain⟨f,fd,ps,F,hm,hk,hb⟩:=C;refine⟨(uY F (hr.mono DT) hg hm hk hb .nil wW ha.1 nR he kG).imp fun σ H Q ⟨ρ,S,δ,v,S',E,hf,q⟩=>?_⟩
 obtain⟨vs,S1,h1,h2⟩:=R3.ab hf;split at h2
 .rename_i ds e;obtain⟨d,S2,h3,h4⟩:=R3.ab h2;obtain⟨h5,e5⟩:=R3.of_ok h3;cases h4;subst e5;refine⟨ρ,S,δ,vs,_,E,h1,fun us bh H1 p1 w1 r1=>?_⟩
  have hl:=hn δ S vs _ h1;rw[hJ e] at r1;show Dz X.K n g (us++[]) H1 Q E0;rw[List.append_nil];exact⟨by rw[<-r1.length,<-hJ e];exact hl,bh.b,ds,d,w1.bs,r1.to,h5,fun z H' s r=>q z bh H' (p1.trans (Pre.same s)) (w1.same s) (by unfold aK;exact r)⟩
 .cases h2
def MH(f:FX):FA:=fun δ S=>(f δ S).bind fun v S=>match v with | .d (.tup ds)=> .ok (ds.map .d) S | .tup vs=> .ok vs S | _=> .no
end
end L3
end
section
namespace L3
open PySem PySem.Spec PyProof.Rows L2
def W3{α:Type}(r:R3 α)(Q:α->aD->Prop):Prop:=∃a S,r= .ok a S/\Q a S
section
variable {α β:Type} {Q Q':α->aD->Prop} {S:aD} {δ:DE}
theorem W3.ok{a:α}(h:Q a S):W3 (.ok a S) Q:=⟨a,S,rfl,h⟩
theorem W3.bind{Q:β->aD->Prop}{r:R3 α}{f:α->aD->R3 β}(h:W3 r fun a S=>W3 (f a S) Q):W3 (r.bind f) Q:=by
 obtain⟨a,S1,e1,b,S2,h2,q⟩:=h;exact⟨b,S2,by rw[e1];exact h2,q⟩
theorem W3.mono{r:R3 α}(h:W3 r Q)(m:∀a S,Q a S->Q' a S):W3 r Q':=let⟨a,S,e,q⟩:=h;⟨a,S,e,m a S q⟩
theorem W3.wh{c:Bool}{r:R3 α}(hc:c=true)(h:W3 r Q):W3 (R3.bg c r) Q:=by rw[hc];exact h
theorem W3.of{r:R α}{a:α}(e:r= .ok a)(h:Q a S):W3 (R3.of r S) Q:=by rw[e];exact⟨a,S,rfl,h⟩
end
section
variable {S:aD} {δ:DE} {QV:V3->aD->Prop} {QB:Bool->aD->Prop} {QA:List V3->aD->Prop} {QO:Ou->aD->Prop}
theorem cy{f:FD}{d:D}(e:f (down δ)= .ok d)(h:QV (.d d) S):W3 (xP f δ S) QV:=W3.bind (W3.of e (W3.ok h))
theorem Ed{f:FD}{d:D}(e:f (cK S δ)= .ok d)(ha:vH d=true)(h:QV (.d d) S):W3 (xT f δ S) QV:=W3.bind (W3.of e (W3.wh ha (W3.ok h)))
theorem ny{f:ak->R Bool}{b:Bool}(e:f (down δ)= .ok b)(h:QB b S):W3 (bP f δ S) QB:=W3.of e h
theorem Nc{f:ak->R Bool}{b:Bool}(e:f (cK S δ)= .ok b)(h:QB b S):W3 (bT f δ S) QB:=W3.of e h
theorem w_var{i:Nat}{v:V3}(e:δ[i]? =some (some v))(h:QV v S):W3 (bY i δ S) QV:=by unfold bY;rw [e];exact W3.ok h
theorem kM{f:ak->R (List D)}{ds:List D}(e:f (down δ)= .ok ds)(h:QV (.loc S.length) (S++[.lst ds])):W3 (nV f δ S) QV:=W3.bind (W3.of e (W3.ok h))
theorem cA(h:QA [] S):W3 (cB δ S) QA:=W3.ok h
theorem aG{f:FX}{g:FA}(h:W3 (f δ S) fun v S1=>W3 (g δ S1) fun vs S2=>QA (v ::vs) S2):W3 (aA f g δ S) QA:=W3.bind (h.mono fun _ _ h=>W3.bind (h.mono fun _ _ h=>W3.ok h))
theorem tW{g:FA}(h:W3 (g δ S) fun vs S1=>vs.length<=sizeLine/\QV (zx vs) S1):W3 (va g δ S) QV:=W3.bind (h.mono fun _ _ h=>W3.wh (decide_eq_true h.1) (W3.ok h.2))
theorem Lh{g:FA}(h:W3 (g δ S) fun vs S1=>vs.length<=sizeLine/\QV (pq vs) S1):W3 (Ij g δ S) QV:=W3.bind (h.mono fun _ _ h=>W3.wh (decide_eq_true h.1) (W3.ok h.2))
theorem Fd{g:D->D->R D}{fa fb:FX}(h:W3 (fa δ S) fun a S1=>W3 (fb δ S1) fun b S2=>∃x y d,a= .d x/\b= .d y/\g x y= .ok d/\QV (.d d) S2):W3 (x2 g fa fb δ S) QV:=
 W3.bind (h.mono fun _ _ h=>W3.bind (h.mono fun _ _ ⟨_,_,_,e1,e2,e3,q⟩=>by subst e1 e2;exact W3.bind (W3.of e3 (W3.ok q))))
theorem HB{g:D->D->R D}{fa fb:FX}(h:W3 (fa δ S) fun a S1=>W3 (fb δ S1) fun b S2=>∃x y k,a= .d x/\b= .d y/\g x y= .ok (.bl k)/\QB k S2):W3 (Lr g fa fb δ S) QB:=
 W3.bind (Fd (h.mono fun _ _ h=>h.mono fun _ _ ⟨x,y,k,e1,e2,e3,q⟩=>⟨x,y, .bl k,e1,e2,e3,W3.ok q⟩))
theorem MJ{fa fb:FX}(h:W3 (fa δ S) fun a S1=>W3 (fb δ S1) fun b S2=>∃x y d,a= .d x/\b= .d y/\cN x y= .ok d/\QV (.d d) S2):W3 (LA fa fb δ S) QV:=
 W3.bind (h.mono fun _ _ h=>W3.bind (h.mono fun _ _ ⟨_,_,_,e1,e2,e3,q⟩=>by subst e1 e2;exact W3.bind (W3.of e3 (W3.ok q))))
theorem MZ{f:FX}{fl fh:Ek}(h:W3 (f δ S) fun v S1=>W3 (fl δ S1) fun lo S2=>W3 (fh δ S2) fun hi S3=>∃x d,v= .d x/\Hb x lo hi= .ok d/\QV (.d d) S3):W3 (MV f fl fh δ S) QV:=
 W3.bind (h.mono fun _ _ h=>W3.bind (h.mono fun _ _ h=>W3.bind (h.mono fun _ _ ⟨_,_,e1,e3,q⟩=>by subst e1;exact W3.bind (W3.of e3 (W3.ok q)))))
theorem Kv{QP:Option Int->aD->Prop}(h:QP none S):W3 (uz δ S) QP:=W3.ok h
theorem Lw{QP:Option Int->aD->Prop}{f:FX}(h:W3 (f δ S) fun v S1=>∃i,v= .d (.int i)/\QP (some i) S1):W3 (uH f δ S) QP:=W3.bind (h.mono fun _ _ ⟨_,e,q⟩=>by subst e;exact W3.ok q)
theorem eF{g:List V3->aD->R3 V3}{fs:FA}(h:W3 (fs δ S) fun vs S1=>W3 (g vs S1) QV):W3 (c8 g fs δ S) QV:=W3.bind h
theorem ve{g:List D->R D}{fs:FA}(h:W3 (fs δ S) fun vs S1=>∃ds d,vs=ds.map .d/\g ds= .ok d/\QV (.d d) S1):W3 (mz g fs δ S) QV:=
 W3.bind (h.mono fun _ _ ⟨ds,_,e1,e2,q⟩=>by subst e1;rw [qJ];exact W3.bind (W3.of e2 (W3.ok q)))
theorem CD{it:FA}{own:List Str}{kp:List Nat}(h:W3 (it δ S) fun vs S1=>vs.length<=sizeLine/\W3 (kU t c f (ma own kp δ) vs S1) fun ys S2=>QV (pq ys) S2):W3 (l3 it t c f own kp δ S) QV:=
 W3.bind (h.mono fun _ _ h=>W3.wh (decide_eq_true h.1) (W3.bind (h.2.mono fun _ _ h=>W3.ok h)))
theorem Lb{f:FX}(h:W3 (f δ S) fun v S1=>∃d b,v= .d d/\Ez d= .ok b/\QB b S1):W3 (Fj f δ S) QB:=W3.bind (h.mono fun _ _ ⟨_,_,e,e2,q⟩=>by subst e;exact W3.of e2 q)
theorem w_not{f:FB}(h:W3 (f δ S) fun b S1=>QB (!b) S1):W3 (Ie f δ S) QB:=W3.bind (h.mono fun _ _ h=>W3.ok h)
theorem aT{F G:FZ}(h:W3 (F δ S) fun o S1=>∃cz,o= .nx cz/\W3 (G cz S1) QO):W3 (bo F G δ S) QO:=W3.bind (h.mono fun _ _ ⟨_,e,h⟩=>by subst e;exact h)
theorem CW{F G:FZ}(h:W3 (F δ S) fun o S1=>∃v,o= .rt v/\QO (.rt v) S1):W3 (bo F G δ S) QO:=W3.bind (h.mono fun _ _ ⟨_,e,h⟩=>by subst e;exact W3.ok h)
theorem bA{i:Nat}{f:FX}(hi:i < δ.length)(h:W3 (f δ S) fun v S1=>QO (.nx (δ.set i (some v))) S1):W3 (cx i f δ S) QO:=W3.bind (h.mono fun _ _ h=>W3.wh (decide_eq_true hi) (W3.ok h))
theorem eh{f:FX}(h:W3 (f δ S) fun v S1=>QO (.rt v) S1):W3 (gZ f δ S) QO:=W3.bind (h.mono fun _ _ h=>W3.ok h)
theorem lV{c:FB}{F G:FZ}(h:W3 (c δ S) fun b S1=>if b then W3 (F δ S1) QO else W3 (G δ S1) QO):W3 (yG c F G δ S) QO:=W3.bind (h.mono fun b _ h=>by cases b <;> exact h)
theorem Ki{f:FX}{t:FG}(h:W3 (f δ S) fun v S1=>∃cz,t v δ=some cz/\QO (.nx cz) S1):W3 (Ia f t δ S) QO:=W3.bind (h.mono fun _ _ ⟨_,e,q⟩=>by rw[e];exact W3.ok q)
theorem ic(h:QO (.nx δ) S):W3 (nO δ S) QO:=W3.ok h
theorem mh{f:ak->R (List D)}{ds:List D}(e:f (down δ)= .ok ds)(h:QA (ds.map .d) S):W3 (iP f δ S) QA:=W3.bind (W3.of e (W3.ok h))
theorem IU{f:FX}(h:W3 (f δ S) fun v S1=>∃n:Nat,v= .d (.int n)/\n < 1000000/\QA ((gI 0 n).map .d) S1):W3 (vT f δ S) QA:=W3.bind (h.mono fun _ _ ⟨n,e,hn,q⟩=>by
 subst e;refine W3.wh (decide_eq_true ⟨by omega,by omega⟩) (W3.ok ?_)
 rw[Int.toNat_natCast];exact q)
theorem pZ{f:FX}(h:W3 (f δ S) fun v S1=>∃ds,v= .d (.lst ds)/\QA (ds.map .d) S1):W3 (wV f δ S) QA:=W3.bind (h.mono fun _ _ ⟨n,e,q⟩=>by subst e;exact W3.ok q)
theorem ED{f:FX}(h:W3 (f δ S) fun v S1=>∃vs,v= .lst vs/\QA vs S1):W3 (wV f δ S) QA:=W3.bind (h.mono fun _ _ ⟨n,e,q⟩=>by subst e;exact W3.ok q)
theorem fB{it:FA}(h:W3 (it δ S) fun vs S1=>W3 (i4 t F vs δ S1) QO):W3 (iZ it t F δ S) QO:=W3.bind h
theorem qt{i k:Nat}{f:FX}(hk:δ[i]? =some (some (.loc k)))(h0:∃ds,S[k]? =some (.lst ds))(h:W3 (f δ S) fun v S1=>∃d ds,v= .d d/\S1[k]? =some (.lst ds)/\ds.length < sizeLine/\QO (.nx δ) (S1.set k (.lst (ds++[d])))):W3 (oJ i f δ S) QO:=by
 obtain⟨es,h0⟩:=h0;unfold oJ;have e1:jX δ i=some k:=by unfold jX;rw [hk]
 have e2:dj S k=some es:=by unfold dj;simp only[h0]
 rw[e1];show W3 (match dj S k with | none=>_ | some _=>_) _
 rw[e2];refine W3.bind (h.mono fun v S1 ⟨d,ds,e,h1,hl,q⟩=>?_)
 subst e;have e3:dj S1 k=some ds:=by unfold dj;simp only[h1]
 show W3 (match dj S1 k with | some ds=>_ | none=>_) _
 rw[e3];exact W3.wh (decide_eq_true hl) (W3.ok q)
theorem zu{fo fi fe:FX}(h:W3 (fe δ S) fun v S1=>W3 (fo δ S1) fun o S2=>W3 (fi δ S2) fun j S3=>∃d k n ds m,v= .d d/\o= .loc k/\j= .d (.int n)/\S3[k]? =some (.lst ds)/\yb ds.length n=some m/\QO (.nx δ) (S3.set k (.lst (ds.set m d)))):W3 (A5 fo fi fe δ S) QO:=
 W3.bind (h.mono fun _ _ h=>W3.bind (h.mono fun _ _ h=>W3.bind (h.mono fun _ S3 ⟨d,k,n,ds,m,e1,e2,e3,h1,h2,q⟩=>by
  subst e1 e2 e3;have e3:dj S3 k=some ds:=by unfold dj;simp only[h1]
  show W3 (match dj S3 k with | some ds=>_ | none=>_) _
  rw[e3];show W3 (match yb ds.length n with | some m=>_ | none=>_) _
  rw[h2];exact W3.ok q)))
theorem rM{t:FG}{body:FZ}:∀(vs:List V3) (n:Nat) (P:Nat->DE->aD->Prop) {δ:DE} {S:aD},P n δ S->
 (∀i v δ S,vs[i]? =some v->P (n+i) δ S->∃cz,t v δ=some cz/\W3 (body cz S) fun o S1=>∃d7,o= .nx d7/\P (n+i+1) d7 S1)->W3 (i4 t body vs δ S) fun o S1=>∃d7,o= .nx d7/\P (n+vs.length) d7 S1
 | [],n,P,δ,S,h0,_=>W3.ok ⟨δ,rfl,h0⟩
 | v ::vs,n,P,δ,S,h0,hs=>by
   obtain⟨cz,e1,o,S1,e2,d7,rfl,p2⟩:=hs 0 v δ S rfl h0;have ih:=rM vs (n+1) P p2 (fun i v' dr S' hi hp=>by
    have:=hs (i+1) v' dr S' (by simpa using hi) (by rw[show n+(i+1)=n+1+i by omega];exact hp)
    rw[show n+(i+1)+1=n+1+i+1 by omega] at this
    exact this)
   rw[show n+1+vs.length=n+(v ::vs).length by rw[List.length_cons];omega] at ih
   unfold i4;rw[e1];refine W3.bind ⟨_,_,e2,?_⟩;exact ih
theorem bF{t:FG}{body:FZ}{vs:List V3}(P:Nat->DE->aD->Prop){δ:DE}{S:aD}(h0:P 0 δ S)
 (hs:∀i v δ S,vs[i]? =some v->P i δ S->∃cz,t v δ=some cz/\W3 (body cz S) fun o S1=>∃d7,o= .nx d7/\P (i+1) d7 S1):W3 (i4 t body vs δ S) fun o S1=>∃d7,o= .nx d7/\P vs.length d7 S1:=by
 have:=rM (t:=t) (body:=body) vs 0 P h0 (fun i v δ S hi hp=>by simpa using hs i v δ S hi (by simpa using hp))
 simpa using this
theorem qQ{t:FG}{c:FB}{f:FX}{δ:DE}:∀(vs:List V3) (n:Nat) (P:Nat->List V3->aD->Prop) {ys:List V3} {S:aD},P n ys S->
 (∀i v ys S,vs[i]? =some v->P (n+i) ys S->∃cz,t v δ=some cz/\W3 (c cz S) fun b S1=>if b then W3 (f cz S1) fun y S2=>P (n+i+1) (ys++[y]) S2 else P (n+i+1) ys S1)->W3 (kU t c f δ vs S) fun zs S1=>P (n+vs.length) (ys++zs) S1
 | [],n,P,ys,S,h0,_=>W3.ok (by rw[List.append_nil];exact h0)
 | v ::vs,n,P,ys,S,h0,hs=>by
   obtain⟨cz,e1,b,S1,e2,h2⟩:=hs 0 v ys S rfl h0;have ih:∀{LY S'},P (n+1) LY S'->W3 (kU t c f δ vs S') fun zs S1=>P (n+(v ::vs).length) (LY++zs) S1:=fun {LY S'} p=>by
    have:=qQ (t:=t) (c:=c) (f:=f) (δ:=δ) vs (n+1) P p (fun i v' LY S' hi hp=>by
     have:=hs (i+1) v' LY S' (by simpa using hi) (by rw[show n+(i+1)=n+1+i by omega];exact hp)
     rw[show n+(i+1)+1=n+1+i+1 by omega] at this
     exact this)
    rw[show n+1+vs.length=n+(v ::vs).length by rw[List.length_cons];omega] at this
    exact this
   unfold kU;rw[e1];refine W3.bind ⟨b,S1,e2,?_⟩;cases b with
   | true=>
     rw[if_pos rfl] at h2 ⊢;exact W3.bind (h2.mono fun y S2 p=>W3.bind ((ih p).mono fun zs S3 q=>W3.ok (by rw[List.append_assoc] at q;exact q)))
   | false=>rw [if_neg (by decide)] at h2 ⊢;exact ih h2
theorem tZ{t:FG}{c:FB}{f:FX}{δ:DE}{vs:List V3}(P:Nat->List V3->aD->Prop){S:aD}(h0:P 0 [] S)
 (hs:∀i v ys S,vs[i]? =some v->P i ys S->∃cz,t v δ=some cz/\W3 (c cz S) fun b S1=>if b then W3 (f cz S1) fun y S2=>P (i+1) (ys++[y]) S2 else P (i+1) ys S1):W3 (kU t c f δ vs S) fun zs S1=>P vs.length zs S1:=by
 have:=qQ (t:=t) (c:=c) (f:=f) (δ:=δ) vs 0 P h0 (fun i v ys S hi hp=>by simpa using hs i v ys S hi (by simpa using hp))
 simpa using this
theorem zg{QB:Bool->aD->Prop}(h:QB true S):W3 (AO δ S) QB:=W3.ok h
theorem xq{N:List Str}{F:FZ}{vs:List V3}{δ:DE}(e:cg N vs=δ)(h:W3 (F δ S) fun o S1=>∃v,o= .rt v/\QV v S1):W3 (nK N F vs S) QV:=by
 subst e;exact W3.bind (h.mono fun _ _ ⟨_,e,q⟩=>by subst e;exact W3.ok q)
def Pb(S:aD):Prop:=∀o∈S,∃ds,o=SO.lst ds
end
section
variable {S:aD} {δ:DE} {QV:V3->aD->Prop}
theorem pX{it:FA}{t:FG}{c:FB}{f:FX}{own:List Str}{kp:List Nat}(P:Nat->List D->aD->Prop)(h:W3 (it δ S) fun vs S1=>vs.length<=sizeLine/\P 0 [] S1/\
 (∀i v ds S2,vs[i]? =some v->P i ds S2->∃cz,t v (ma own kp δ)=some cz/\W3 (c cz S2) fun b S3=>if b then W3 (f cz S3) fun y S4=>∃d,y= .d d/\P (i+1) (ds++[d]) S4 else P (i+1) ds S3)/\
 ∀ds S2,P vs.length ds S2->QV (.d (.lst ds)) S2):W3 (l3 it t c f own kp δ S) QV:=by
 refine CD (h.mono fun vs S1 ⟨hl,h0,hs,hq⟩=>⟨hl,?_⟩)
 refine(tZ (fun i ys S=>∃ds,ys=ds.map V3.d/\P i ds S) ⟨[],rfl,h0⟩ ?_).mono fun zs S2 ⟨ds,e,p⟩=>?_
 .rintro i v ys S2 hv ⟨ds,rfl,p⟩;obtain⟨cz,e1,h1⟩:=hs i v ds S2 hv p;refine⟨cz,e1,h1.mono fun b S3 h3=>?_⟩
  cases b with
  | true=>
    rw[if_pos rfl] at h3 ⊢;exact h3.mono fun y S4 ⟨d,e,p⟩=>by subst e;exact⟨ds++[d],by simp,p⟩
  | false=>rw [if_neg (by decide)] at h3 ⊢;exact⟨ds,rfl,h3⟩
 .subst e;unfold pq;rw[qJ];exact hq ds S2 p
structure mC (n:Nat) (d:D):Prop where
 pl:eG d=true
 ly:(toPy d).canLay0=true
 dp:(toPy d).depth<=n
theorem mC.int(i:Int):mC 0 (.int i):=⟨by unfold eG;rfl,by unfold toPy PyData.canLay0;rfl,by unfold toPy PyData.depth;omega⟩
theorem mC.all{n:Nat}:∀{ds:List D},(∀d∈ds,mC n d)->i9 ds=true/\PyData.canLayAll0 (kx ds)=true/\PyData.depthAll (kx ds)<=n
 | [],_=>⟨by unfold i9;rfl,by unfold kx PyData.canLayAll0;rfl,by unfold kx PyData.depthAll;omega⟩
 | d ::ds,h=>by
   obtain⟨h1,h2,h3⟩:=mC.all (ds:=ds) fun x hx=>h x (List.mem_cons_of_mem _ hx)
   have f:=h d List.mem_cons_self;refine⟨by unfold i9;rw [f.pl,h1];rfl,by unfold kx PyData.canLayAll0;rw [f.ly,h2];rfl,?_⟩
   unfold kx PyData.depthAll;have:=f.dp;omega
theorem mC.lst{n:Nat}{ds:List D}(h:∀d∈ds,mC n d):mC (n+1) (.lst ds):=by
 obtain⟨h1,h2,h3⟩:=mC.all h;exact⟨by unfold eG;exact h1,by unfold toPy PyData.canLay0;exact h2,by unfold toPy PyData.depth;omega⟩
theorem mC.tup{n:Nat}{ds:List D}(h:∀d∈ds,mC n d):mC (n+1) (.tup ds):=by
 obtain⟨h1,h2,h3⟩:=mC.all h;exact⟨by unfold eG;exact h1,by unfold toPy PyData.canLay0;exact h2,by unfold toPy PyData.depth;omega⟩
theorem mC.sh{n:Nat}{d:D}(h:mC n d)(hn:n<=64):SeqAt.shaped (toPy d)=true:=by
 unfold SeqAt.shaped;rw[h.ly,decide_eq_true (Nat.le_trans h.dp hn)];rfl
theorem Ig{d e:List D}:Ej (.lst d) (.lst e)=R.bg (eG (.lst d) && eG (.lst e) && SeqAt.shaped (toPy (.lst d)) && SeqAt.shaped (toPy (.lst e))) (.ok (PyData.eqv (toPy (.lst d)) (toPy (.lst e)))):=rfl
theorem HH{d e:List D}:Ej (.tup d) (.tup e)=R.bg (eG (.tup d) && eG (.tup e) && SeqAt.shaped (toPy (.tup d)) && SeqAt.shaped (toPy (.tup e))) (.ok (PyData.eqv (toPy (.tup d)) (toPy (.tup e)))):=rfl
theorem mC.eqT{n:Nat}{ds:List D}(h:mC n (.tup ds))(hn:n<=64):Ej (.tup ds) (.tup ds)= .ok true:=by
 rw[HH,h.pl,h.sh hn,SeqAt.eqv_refl _ h.ly];rfl
theorem mC.Rg{n:Nat}{ds:List D}(h:mC n (.lst ds))(hn:n<=64):Ej (.lst ds) (.lst ds)= .ok true:=by
 rw[Ig,h.pl,h.sh hn,SeqAt.eqv_refl _ h.ly];rfl
end
theorem xy{α:Type}(ds:List α){n:Int}(h:0<=n):L2.cutD ds none (some n)=ds.take n.toNat:=by
 obtain⟨k,rfl⟩:=Int.eq_ofNat_of_zero_le h;unfold L2.cutD;rw[HT.qo,HT.p7,List.drop_zero,Nat.sub_zero,Int.toNat_natCast];by_cases hk:k<=ds.length
 .rw [Nat.min_eq_left hk]
 .rw [Nat.min_eq_right (by omega),List.take_of_length_le (Nat.le_refl _),List.take_of_length_le (by omega)]
theorem Cb{α:Type}(ds:List α){n:Int}(h:0<=n):L2.cutD ds (some n) none=ds.drop n.toNat:=by
 obtain⟨k,rfl⟩:=Int.eq_ofNat_of_zero_le h;unfold L2.cutD;rw[HT.qo,HT.p7,Int.toNat_natCast,List.take_of_length_le (by rw[List.length_drop];omega)]
 by_cases hk:k<=ds.length
 .rw [Nat.min_eq_left hk]
 .rw [Nat.min_eq_right (by omega),List.drop_of_length_le (Nat.le_refl _),List.drop_of_length_le (by omega)]
end L3
end
section
namespace L2
open PySem PySem.Spec PyProof.Rows
section
variable {X:Cx}
def Bt:D->Bool | .bQ=>true | _=>false
def Mr(d e:D):R D:=match e with | .bQ=> .ok (.bl (Bt d)) | _=> .no
def Im(d e:D):R D:=match e with | .bQ=> .ok (.bl (!Bt d)) | _=> .no
theorem y8{K:W.Frag}{B:List Addr}{d:D}{x:V}(r:Rep K B H d x):decide (x= .bQ)=Bt d:=by
 cases d with
 | bQ=>rw [Rep.bQ.mp r];rfl
 | bl b=>rw [Rep.bl.mp r];rfl
 | int b=>rw [Rep.int.mp r];rfl
 | str b=>rw [Rep.str.mp r];rfl
 | lst ds=>obtain⟨a,xs,rfl,_⟩:=Rep.lst.mp r;rfl
 | tup ds=>obtain⟨a,xs,rfl,_⟩:=Rep.tup.mp r;rfl
 | dct ks ds=>unfold Rep at r;obtain⟨a,xs,rfl,_⟩:=r;rfl
theorem NK:jv X (compareOp .Is) Mr:=jv.of IK fun B H da db d x y Q _ ra rb hg q=>by
 unfold Mr at hg;split at hg
 .cases hg;exact⟨Rep.bQ.mp rb,by rw[y8 ra];exact q _ H (aI.refl H) (Rep.bl.mpr rfl)⟩
 .cases hg
theorem KL:jv X (compareOp .IsNot) Im:=jv.of EC fun B H da db d x y Q _ ra rb hg q=>by
 unfold Im at hg;split at hg
 .cases hg;exact⟨Rep.bQ.mp rb,by rw[y8 ra];exact q _ H (aI.refl H) (Rep.bl.mpr rfl)⟩
 .cases hg
theorem A2:kC X (.type "int") (fun xs H Q=>∃x n,xs=[.str x]/\PySem.intText? x=some n/\x.length<=640/\Q (.int n) H):=by
 intro pins s σ H xs us Q I r h;obtain⟨x,n,rfl,h1,h2,q⟩:=h;obtain⟨u,rfl,ru⟩:=vals1 r;obtain⟨t,rfl⟩:=ru;exact PySem.W.KIN.call_text h1 h2 ⟨.int n,H,I.tok _,⟨_,rfl⟩,q⟩
def DN:List D->R D
 | [.str x]=>R.bg (decide (x.length<=640)) (match PySem.intText? x with | some n=> .ok (.int n) | none=> .no)
 | _=> .no
theorem Je:cM X (.type "int") DN:=cM.of A2 fun B H ds d xs Q _ rs hg q=>by
 unfold DN at hg;split at hg
 .obtain⟨h1,h2⟩:=R.aP hg;split at h2
  .rename_i e;cases h2;obtain⟨x,rfl,r⟩:=rs.one;exact⟨_,_,by rw[Rep.str.mp r],e,of_decide_eq_true h1,q _ H (aI.refl H) (Rep.int.mpr rfl)⟩
  .cases h2
 .cases hg
def o7(ds:List D):R D:=match ds with | [.str _]=>DN ds | _=>cInt ds
theorem BE:cM X (.type "int") o7:=cM.or Je KW fun a d h=>by
 unfold o7 at h;split at h
 .exact .inl h
 .exact .inr h
def AI(f:FD):FD:=fun δ=>(f δ).bind fun d=>match d with | .int i=> .ok (.int (-i)) | _=> .no
theorem uV(h:QD X a f):QD X (.UnaryOp .USub a pos) (AI f):=⟨(K6 JG h.1).imp fun σ H Q ⟨Z,B,δ,d,E,hf,q⟩=>by
 obtain⟨d1,h1,h2⟩:=R.ab hf;split at h2
 .cases h2;exact⟨Z,B,δ,_,E,h1,fun v H1 s1 r1=>⟨_,Rep.int.mp r1,q _ H1 s1 (Rep.int.mpr rfl)⟩⟩
 .cases h2⟩
def O4(d:D)(ds:List D):R D:=match d,ds with
 | .str x,[.str y]=> .ok (.int (Txt.find x y))
 | _,_=> .no
def Qe(kvs:List (Str × Str)):D:= .dct (kvs.map fun p=>Sum.inr p.1) (kvs.map fun p=> .str p.2)
def TJ(kvs:List (Str × Str)):List (Key × V):=kvs.map fun p=>((Sum.inr p.1:Key),V.str p.2)
def Qs(d k:D):R D:=match d,k with
 | .dct ks ds, .str x=>(match (ks.zip ds).find? fun p=>decide (p.1=Sum.inr x) with | some p=> .ok p.2 | none=> .no)
 | _,_=> .no
end
theorem Kg{K:W.Frag}{mg:Ut}{k n:Nat}{f:Addr}{fd:FuncData}{ps:List Str}:gH P w K mg base rZ k f fd ps (Dz K n fun _=> .no):=
 ⟨fun vs H Q E h=>(by obtain⟨_,_,_,_,_,_,h,_⟩:=h;cases h),fun A outer s H args us vs Q E _ _ _ _ h=>(by obtain⟨_,_,_,_,_,_,h,_⟩:=h;cases h)⟩
end L2
namespace L3
open PySem PySem.Spec PyProof.Rows L2
section
variable {X:Cx} {cl:Uu}
def Pf(f:FX):FB:=fun δ S=>(f δ S).bind fun v S=>match v with | .d (.bl b)=> .ok b S | _=> .no
def Rp(f g:FX):FX:=fun δ S=>(Pf f δ S).bind fun b S=>if b then g δ S else .ok (.d (.bl false)) S
def Tt(f g:FX):FX:=fun δ S=>(Pf f δ S).bind fun b S=>if b then .ok (.d (.bl true)) S else g δ S
def A1(i:Nat)(F:FZ):FZ:=fun δ S=>match jX δ i with
 | some k=>(match dj S k with | some ds=>F (δ.set i (some (.d (.lst ds)))) (S.set k .jf) | none=> .no)
 | none=> .no
theorem zE(i:Nat)(h:AF X cl Hi F):AF X cl Hi (A1 i F):=⟨h.1.imp fun D σ H ⟨ρ,S,δ,o,S',E,hf,q⟩=>by
 unfold A1 at hf;split at hf
 .rename_i k hk;split at hf
  .rename_i ds hds;obtain⟨v,v1,v2⟩:=E.val i _ (mJ hk);unfold aK at v2;obtain⟨a,a1,rfl⟩:=v2;obtain⟨w,p,r⟩:=E.sw.jf a1 (fM hds);have E1:dX X.K cl ⟨ρ.r,ρ.z,a ::ρ.f⟩ H (S.set k .jf) σ (δ.set i (some (.d (.lst ds)))):=⟨by rw[List.length_set];exact E.len,w,fun j d e=>by
    by_cases h:i=j
    .subst h;rw[List.getElem?_set_self (by obtain⟨h1,_⟩:=List.getElem?_eq_some_iff.mp (mJ hk);exact h1)] at e
     cases e;exact⟨_,v1,by unfold aK;exact r⟩
    .rw [List.getElem?_set_ne h] at e;obtain⟨u,u1,u2⟩:=E.val j d e;exact⟨u,u1,u2.pre p⟩⟩
   exact⟨_,_,_,o,S',E1,hf,q.pre p⟩
  .cases hf
 .cases hf⟩
theorem Hg{i k:Nat}{ds:List D}{F:FZ}{δ:DE}{S:aD}{QO:Ou->aD->Prop}(hk:δ[i]? =some (some (.loc k)))(hS:S[k]? =some (.lst ds))(h:W3 (F (δ.set i (some (.d (.lst ds)))) (S.set k .jf)) QO):W3 (A1 i F δ S) QO:=by
 unfold A1;have e1:jX δ i=some k:=by unfold jX;rw [hk]
 have e2:dj S k=some ds:=by unfold dj;simp only[hS]
 simp only[e1,e2];exact h
end
def Flat(S:aD):Prop:=∀o∈S,∀n,mR n o=true
theorem Flat.all{S:aD}(h:Flat S)(n:Nat):(S.take n).all (mR n)=true:=List.all_eq_true.mpr fun o ho=>h o (List.mem_of_mem_take ho) n
theorem Flat.set{S:aD}(h:Flat S)(k:Nat){x:SO}(hx:∀n,mR n x=true):Flat (S.set k x):=fun o ho=>by
 rcases List.mem_or_eq_of_mem_set ho with z | z
 .exact h o z
 .rw [z];exact hx
theorem Flat.push{S:aD}(h:Flat S){x:SO}(hx:∀n,mR n x=true):Flat (S++[x]):=fun o ho=>by
 rcases List.mem_append.mp ho with z | z
 .exact h o z
 .rw [List.mem_singleton.mp z];exact hx
theorem Flat.take{S:aD}(h:Flat S)(n:Nat):Flat (S.take n):=fun o ho=>h o (List.mem_of_mem_take ho)
theorem BV{N:List Str}{vs:List V3}{S:aD}{QV:V3->aD->Prop}(h:W3 (nK N F vs S) fun v S1=>Flat S1/\eL S.length v=true/\∃d,res S1 v=some d/\QV (.d d) (S1.take S.length)):W3 (nS N F vs S) QV:=
 W3.bind (h.mono fun v S1 ⟨hl,hg,d,e,q⟩=>by
  rw[e];exact W3.wh (by rw[hl.all,hg];rfl) (W3.ok q))
end L3
end
section
namespace PySem
open Sem (wp)
open AutoSeq1 (wpAny_loadPart')
section
variable {prog:Program} {w:World} {A:Around} {E:Uo} {s:Shared}
end
end PySem
namespace L2
open PySem PySem.Spec PyProof.Rows
section
variable {X:Cx}
def Mm(f:FD):FD:=fun δ=>(f δ).bind fun d=>match d with
 | .int j=>R.bg (decide (-(2 ^ 62)<=j/\j < 16777216)) (.ok (.tup (gI 0 j.toNat)))
 | _=> .no
end
end L2
end
section
namespace PySem
open Sem (wp)
open AutoSeq1 (wpAny_loadPart')
section
variable {prog:Program} {w:World} {A:Around} {E:Uo} {s:Shared}
theorem kz{it l:Addr}{i:Nat}{items:Array Value}{x:Value}{Q:Uo}(hit:s.heap.IsTupleIter it l i)(hl:s.heap.IsTuple l items)(hx:items[i]? =some x)
 (hQ:∀h',h'.IsTupleIter it l (i+1)->Heap.SameBut it s.heap h'->Q x {s with heap:=h'}):wpAny (model prog w) A (Builtin.SmallTypes.nextOf (.ref it)) Q E s:=by
 obtain⟨o,ho,hc,hd⟩:=id hit;obtain⟨ol,hol,_,nl,hdl⟩:=hl;unfold Builtin.SmallTypes.nextOf;refine wpAny_bind (wpAny_callSpecial?_slot (name:="__next__") hit.typeIs F.slot_tuple_iterator_next (wpAny_call_entry F.slot_tuple_iterator_next hit.typeIs F.entry_tuple_iterator_next ?_ (F.args_tuple_iterator_next_1 _)));show wpAny _ _ (field (.ref it) 0 >>=_) _ _ s;refine wpAny_bind (wpAny_field ho hd (x:= .ref l) rfl ?_);show wpAny _ _ (if(Value.ref l==Value.none)=true then _ else _) _ _ s;rw [if_neg (show ¬((Value.ref l==Value.none)=true) from Bool.false_ne_true)]
 show wpAny _ _ (field (.ref it) 1 >>=_) _ _ s;refine wpAny_bind (wpAny_field ho hd (x:= .int i 0) rfl ?_);show wpAny _ _ (seqItems? (.ref l) >>=_) _ _ s;refine wpAny_bind (wpAny_seqItems hol hdl ?_);simp only[Int.toNat_natCast,hx];refine wpAny_bind (wpAny_setField ho hd (by simp) (wpAny_pure ⟨x,rfl,wpAny_pure (hQ _ ⟨_,Heap.get?_update_self _ ho (Obj.isFreed_of_fields (Obj.data_mapFields hd _)),(Obj.cls_mapFields ..).trans hc,by rw[Obj.data_mapFields hd];simp [rawInt]⟩ (Heap.SameBut.update ..))⟩))
theorem iH{it l:Addr}{i:Nat}{items:Array Value}{Q:Uo}(hh:A.handled=none)(hit:s.heap.IsTupleIter it l i)(hl:s.heap.IsTuple l items)(hx:items[i]? =none)
 (hE:∀h' e,Heap.ExtBut it s.heap h'->(∃o,h'.get? e=some o/\o.cls= .type "StopIteration")->E (.ref e) {s with heap:=h'}):wpAny (model prog w) A (Builtin.SmallTypes.nextOf (.ref it)) Q E s:=by
 obtain⟨o,ho,hc,hd⟩:=id hit;obtain⟨ol,hol,_,nl,hdl⟩:=hl;unfold Builtin.SmallTypes.nextOf;refine wpAny_bind (wpAny_callSpecial?_slot (name:="__next__") hit.typeIs F.slot_tuple_iterator_next (wpAny_call_entry F.slot_tuple_iterator_next hit.typeIs F.entry_tuple_iterator_next ?_ (F.args_tuple_iterator_next_1 _)));show wpAny _ _ (field (.ref it) 0 >>=_) _ _ s;refine wpAny_bind (wpAny_field ho hd (x:= .ref l) rfl ?_);show wpAny _ _ (if(Value.ref l==Value.none)=true then _ else _) _ _ s;rw [if_neg (show ¬((Value.ref l==Value.none)=true) from Bool.false_ne_true)]
 show wpAny _ _ (field (.ref it) 1 >>=_) _ _ s;refine wpAny_bind (wpAny_field ho hd (x:= .int i 0) rfl ?_);show wpAny _ _ (seqItems? (.ref l) >>=_) _ _ s;refine wpAny_bind (wpAny_seqItems hol hdl ?_);simp only[Int.toNat_natCast,hx];refine wpAny_bind (wpAny_rule (wpAny_bind (wpAny_setField ho hd (by simp) ?_)))
 show wpAny _ _ (newExc (.type "StopIteration") [] >>=_) _ _ _;refine wpAny_bind ?_;simp only[newExc,newTuple];refine wpAny_bind (wpAny_newObj_type ?_ (by size_fits))
 refine wpAny_bind (m:=firstArgMember _ _) (wpAny_of_eq (a:=Value.none) (by first | rfl | (simp only[firstArgMember];rfl)) ?_);refine wpAny_newObj_type ?_ (by size_fits)
 simp only[raiseNew];refine wpAny_bind (wpAny_handled ?_)
 first | rw[show A.in1.handled=none from hh] | rw[hh]
 exact wpAny_bind (wpAny_pure (wpAny_throw (hE _ _ (((Heap.SameBut.update ..).extBut.push _).push _) ⟨_,Heap.get?_push_size _ rfl,rfl⟩)))
end
theorem Ah{prog:Program}{w:World}{A:Around}(hh:A.handled=none)(it l:Addr)(oP:l≠it)(items:Array Value) :
 Draws prog w A it [it,l] items.size (fun i v=>items[i]? =some v) (fun i h=>h.IsTupleIter it l i/\h.IsTuple l items) where
 live:=fun _ _ st=>let⟨o,ho,_⟩:=st.1;⟨o,ho⟩
 frame:=fun _ _ _ st hk=>⟨st.1.at fun o e=>hk it (by simp) o e,Heap.IsTuple.at st.2 fun o e=>hk l (by simp) o e⟩
 item:=fun i s Q E hi st hQ=>kz st.1 st.2 (x:=items[i]) (by simp [hi]) fun h' Od P_=>hQ _ h' s.toks (by simp [hi]) ⟨Od,st.2.extBut P_.extBut oP⟩ P_
 done:=fun s Q E st hE=>iH hh st.1 st.2 (by simp) hE
theorem pS(l:Addr)(items:Array Value)(o:Obj)(n:Nat)(hc:o.cls= .type "tuple")(hd:o.data= .seq items n) :
 Meets (Builtin.«enumerate.__new__» ⟨[.type "enumerate", .ref l],[]⟩) (fun _ R s=>s.heap.get? l=some o/\
  R (.ok (.ret (.ref (s.heap.push {cls:= .type "tuple_iterator",data:= .fields #[.ref l, .int 0 0]}).objs.size)))
   {s with heap:=(s.heap.push {cls:= .type "tuple_iterator",data:= .fields #[.ref l, .int 0 0]}).push {cls:= .type "enumerate",data:= .fields #[.none, .bool false, .ref s.heap.objs.size,rawInt 0, .none, .none]}}):=
 .of_wp fun prog w A R s h=>by
   obtain⟨hp,g,d,tk,os⟩:=s;obtain⟨hl,h⟩:=h;have hsub:=sub_enumerate;have hL:Heap.IsTuple (Shared.heap ⟨hp,g,d,tk,os⟩) l items:=⟨_,hl,hc,n,hd⟩
   wp_walk using wpAny_loadPart' hl
   refine wpAny_stack_any fun st=>wpAny_pure ?_
   split
   .rename_i c _ _ _ _ _;cases(c==Value.type "enumerate") <;> (wp_walk using wpAny_loadPart' hl,wpAny_pyIter_tuple hL;exact⟨_,rfl,h⟩)
   .wp_walk using wpAny_loadPart' hl,wpAny_pyIter_tuple hL
    exact⟨_,rfl,h⟩
theorem xE{prog:Program}{w:World}{A:Around}{E:Uo}{s:Shared}{l:Addr}{items:Array Value}{Q:Uo}(hL:s.heap.IsTuple l items)
 (h:∀h':Heap,IsEnum h' (s.heap.objs.size+1) s.heap.objs.size 0 .none->h'.IsTupleIter s.heap.objs.size l 0->(∀b o,s.heap.get? b=some o->h'.get? b=some o)->Q (.ref (s.heap.objs.size+1)) {s with heap:=h'}) :
 wpAny (model prog w) A (call (.type "enumerate") [.ref l]) Q E s:=by
 obtain⟨o,hl,hc,n,hd⟩:=hL;refine callType_new F.called_enumerate (by decide) (F.typeCall_enumerate_1 _) (F.newCall_enumerate_1 _) (fun obj=>F.args_object_init_2 obj _) F.entry_enumerate_new (pS l items o n hc hd) ⟨hl,?_⟩
 have hz:(s.heap.push {cls:= .type "tuple_iterator",data:= .fields #[.ref l, .int 0 0]}).objs.size=s.heap.objs.size+1:=Heap.size_push ..;show _/\_;rw [hz];have he:IsEnum ((s.heap.push {cls:= .type "tuple_iterator",data:= .fields #[.ref l, .int 0 0]}).push {cls:= .type "enumerate",data:= .fields #[.none, .bool false, .ref s.heap.objs.size,rawInt 0, .none, .none]}) (s.heap.objs.size+1) s.heap.objs.size 0 .none:=by
  have:=Heap.get?_push_size (s.heap.push {cls:= .type "tuple_iterator",data:= .fields #[.ref l, .int 0 0]}) (o:={cls:= .type "enumerate",data:= .fields #[.none, .bool false, .ref s.heap.objs.size,rawInt 0, .none, .none]}) rfl;rw[hz] at this;exact this
 exact⟨⟨_,he,rfl⟩,h _ he ⟨_,Heap.get?_push_of_some _ (Heap.get?_push_size _ rfl),rfl,rfl⟩ fun b o x=>Heap.get?_push_of_some _ (Heap.get?_push_of_some _ x)⟩
end PySem
namespace L2
open PySem PySem.Spec PyProof.Rows
def MO(K:W.Frag)(a:Addr):It:=
 ⟨fun i H=>∃xs x,pB K H a xs/\xs[i]? =some x,fun i H v H'=>∃p x,H p=none/\v= .ref p/\(∀xs,pB K H a xs->xs[i]? =some x)/\H'=upd H p (.tup [.int i,x]),fun i H=>∃xs,pB K H a xs/\xs.length<=i⟩
theorem x6{K:W.Frag}{k:Nat}(a e it:Addr)(J7:e≠it):Turn P w K (.Tuple elts k pos) (MO K a) [e,it] e (fun i h=>(∃old,IsEnum h e it ((i:Nat):Int) old)/\h.IsTupleIter it a i) where
 mem:=by simp
 obj:=fun i h st b hb=>by
  obtain⟨⟨old,he⟩,o,ho,c,d⟩:=st;rcases List.mem_cons.mp hb with rfl | hb
  .exact⟨_,he,fun v z=>by cases z⟩
  .have e:b=it:=by simpa using hb
   subst e;exact⟨o,ho,fun v z=>by rw[d] at z;cases z⟩
 keep:=fun i h h' st k=>by
  obtain⟨⟨old,he⟩,hi⟩:=st;exact⟨⟨old,k e (by simp) _ he⟩,hi.at fun o x=>k it (by simp) o x⟩
 item:=by
  intro X hP hw hK hc i pins s σ H E I hf st hg;subst hP hw hK;obtain⟨xs,x,hq,hx⟩:=hg;obtain⟨its,rv,p,hz⟩:=I.tuple hq;have p':s.heap.IsTuple a its.toArray:=p;obtain⟨u,hu,ru⟩:=rv.get hx;obtain⟨⟨old,he⟩,hit⟩:=st;obtain⟨f0,f1,f2,f3,f4,f5⟩:=hf e (by simp)
  obtain⟨g0,g1,g2,g3,g4,g5⟩:=hf it (by simp)
  have ha_it:a≠it:=fun z=>by
   obtain⟨o1,h1,c1,_⟩:=p';obtain⟨o2,h2,c2,_⟩:=hit;rw[z,h2] at h1;cases h1;rw[c2] at c1;exact absurd c1 (by decide)
  have ha_e:e ∉ [it,a]:=fun z=>by
   rcases List.mem_cons.mp z with q | q
   .exact J7 q
   .have q:e=a:=by simpa using q
    obtain⟨o1,h1,c1,_⟩:=p';rw[<-q,he] at h1;cases h1;exact absurd (show Value.type "enumerate"=Value.type "tuple" from c1) (by decide)
  refine wpAny_pyNext_enum_itemD (Ah (A:=X.A.in1) (I.ok.hd hc) it a ha_it its.toArray) he ⟨hit,p'⟩ (by have:=(List.getElem?_eq_some_iff.mp hu).1;simpa using this) J7 ha_e fun u2 gS tk Sb Ep LS D8 md ub=>⟨_,rfl,?_⟩
  obtain rfl:u2=u:=by
   have h1:its[i]? =some u2:=by simpa using Sb
   rw[hu] at h1;cases h1;rfl
  obtain⟨yR,_⟩:=LS;refine wpAny_letOwnedTupleGo_enum Ep fun fA D0 cn=>?_
  replace cn:Heap.SameBut e gS fA:=cn
  have hel:e < s.heap.objs.size:=Heap.lt_size he;have xn:fA.get? s.heap.objs.size=some {cls:= .type "tuple",data:= .seq #[.int i tk,u2]}:=(cn.2 _ (Nat.ne_of_gt hel)).trans D8;have kk:∀b o,b≠e->b≠it->s.heap.get? b=some o->fA.get? b=some o:=fun b o h1 h2 q=>(cn.2 b h1).trans (ub b o h1 h2 q)
  have hn:H s.heap.objs.size=none:=I.fresh;have sm:aI H (upd H s.heap.objs.size (.tup [.int i,x])):=aC hn;have nit:∀b o,H b=some o->b≠e/\b≠it:=fun b o q=>⟨fun z=>(by rw[z,f0] at q;cases q),fun z=>(by rw[z,g0] at q;cases q)⟩
  have hok:lT X.prog X.w (upd H s.heap.objs.size (.tup [.int i,x])) fA:=fun b ob q=>by
   by_cases hb:b=s.heap.objs.size
   .subst hb;rw[aL] at q;cases q;exact⟨by show 2<=sizeLine;decide,[.int i tk,u2], .cons ⟨_,rfl⟩ (.cons ru .nil),⟨_,xn,rfl,_,rfl⟩⟩
   .rw [aQ hb] at q;refine(I.hok b ob q).ui (fun c v hc z=>?_) (fun c z=>sm c _ z) fun c ys z=>sm c _ z
    rcases hc with rfl | hc
    .exact kk c v (nit c _ q).1 (nit c _ q).2 z
    .exact kk c v (nit c _ hc).1 (nit c _ hc).2 z
  have nch:∀b,b ∉ [e,it]->b≠e/\b≠it:=fun b hb=>⟨fun z=>hb (by simp [z]),fun z=>hb (by simp [z])⟩
  have I2:Inv X pins σ (upd H s.heap.objs.size (.tup [.int i,x])) {s with heap:=fA,toks:=tk+1}:=by
   refine I.step (g':=s.gens) (d':=s.drawn) (ch:=[e,it]) (fun b hb=>?_) (fun b o _ _ hb q _=>kk b o (nch b hb).1 (nch b hb).2 q) (fun b o _ _ hb q _=>⟨o.slots,kk b o (nch b hb).1 (nch b hb).2 q⟩)
    (fun b o hb q n=>by rw[aQ (Nat.ne_of_lt (Heap.lt_size q))];exact n) (fun b o hb q=>⟨o,kk b o (nch b hb).1 (nch b hb).2 q⟩) (fun b ys z=>sm b _ z) (fun b o u z=>sm b _ z) (fun b ps z=>⟨#[],by rw[sm b _ z];simp⟩) (fun m hm=>?_) hok I.bare
   .rcases List.mem_cons.mp hb with rfl | hb
    .exact⟨f3,f1,f4,f5⟩
    .have z:b=it:=by simpa using hb
     subst z;exact⟨g3,g1,g4,g5⟩
   .obtain⟨o,es,ep,ho,r⟩:=hm;exact⟨o,es,ep,kk _ o (Ne.symm f1) (Ne.symm g1) ho,r⟩
  refine⟨.ref s.heap.objs.size,_,I2,rfl,⟨s.heap.objs.size,x,hn,rfl,fun ys hy=>(by rw[I.nX hy hq];exact hx),rfl⟩,⟨⟨_,by simpa using D0⟩,yR.at fun o q=>(cn.2 it (Ne.symm J7)).trans q⟩,fun b hb=>?_⟩
  rcases List.mem_cons.mp hb with rfl | hb
  .rw [aQ (Nat.ne_of_lt hel)];exact f0
  .have z:b=it:=by simpa using hb
   subst z;obtain⟨o,ho,_⟩:=hit;rw[aQ (Nat.ne_of_lt (Heap.lt_size ho))];exact g0
 done:=by
  intro X hP hw hK hc i pins s σ H E I hf st hg;subst hP hw hK;obtain⟨xs,hq,hx⟩:=hg;obtain⟨its,rv,p,hz⟩:=I.tuple hq;have p':s.heap.IsTuple a its.toArray:=p;obtain⟨⟨old,he⟩,hit⟩:=st;obtain⟨g0,g1,g2,g3,g4,g5⟩:=hf it (by simp)
  have hl:=rv.length;have hT:s.TypeIs (.ref e) "enumerate":=⟨_,he,rfl⟩;unfold pyNext;refine wpAny_bind (wpAny_attempt (wpAny_callSpecial?_slot (name:="__next__") hT F.slot_enumerate_next (wpAny_call_entry F.slot_enumerate_next hT F.entry_enumerate_next ?_ (F.args_enumerate_next_1 _))));show wpAny _ _ (field (.ref e) 2 >>=_) _ _ _;refine wpAny_bind (wpAny_field he rfl (x:= .ref it) rfl ?_);refine wpAny_bind (iH (A:=X.A.in1) (I.ok.hd hc) hit p' (by simp;omega) fun h' x Og Ea=>?_)
  obtain⟨o,ho,hcl⟩:=Ea;refine wpAny_bind (wpAny_isInstance (T:="StopIteration") (b:=true) ⟨o,ho,hcl⟩ isSubtype_stop ?_);exact wpAny_pure ⟨rfl,I.turned (t':=s.toks) (fun b o hb q=>Og b o hb q) g0 g1 g3 g4 g5⟩
 self:=fun A i s Q E st h=>let⟨⟨_,he⟩,_⟩:=st;wpAny_pyIter_enum he h
section
variable {X:Cx}
def uu(f:FD):ak->R (List D):=fun δ=>(f δ).bind fun d=>match d with | .tup ds=> .ok (bO ds) | _=> .no
theorem xU{elts:List Expr}{k:Nat}{oY:Pos}{p pos:Pos}(h:QD X a f)(hg:Gl X "enumerate")(hm:X.mg "enumerate"=none)(hs:starEach [a] X.env=[(false,eval a X.env)]:=by rfl):ye X (.Tuple elts k oY) (.Call (.Name "enumerate" p) [a] [] pos) (uu f):=by
 refine⟨?_⟩;intro pins s σ H RR I ⟨Z,B,δ,ds,E,hf,q⟩;obtain⟨d,h1,h2⟩:=R.ab hf;have hA:=dv h.1 gL hs pos pins s σ H (fun vs H1=>aI H H1/\∃v,vs=[v]/\Rep X.K B H1 d v) I ⟨Z,B,δ,d,E,h1,fun v H1 s1 r1=>⟨s1,v,rfl,r1⟩⟩
 refine Call_ (ji I hg hm boot_enumerate (PyProof.Rows.callWith_type1 (du hA fun us s1 ⟨vs,H1,I1,r1,ss,v,ev,rr⟩=>?_) hs rfl))
 subst ev;obtain⟨u,rfl,ru⟩:=vals1 r1;cases d with
 | tup es=>
   cases h2;obtain⟨b,xs,rfl,l,rs⟩:=Rep.tup.mp rr;cases ru;obtain⟨its,rv,pt,hz⟩:=I1.tuple l.sq;refine xE (items:=its.toArray) pt fun h' he hit kk=>wpAny_pyIter_enum he ?_
   have I2:Inv X pins σ H1 {s1 with heap:=h'}:=I1.kept (t':=s1.toks) kk
   refine⟨s1.heap.objs.size+1,[s1.heap.objs.size+1,s1.heap.objs.size],_,_,H1,rfl,I2,x6 b (s1.heap.objs.size+1) s1.heap.objs.size (Nat.succ_ne_self _),⟨⟨_,he⟩,hit⟩,fun c hc=>?_,q _ H1 ss fun B' H' pr=>?_⟩
   .have hle:s1.heap.objs.size<=c:=by
     rcases List.mem_cons.mp hc with z | hc
     .rw [z];exact Nat.le_succ _
     .have z:c=s1.heap.objs.size:=by simpa using hc
      rw[z];exact Nat.le_refl _
    exact I1.pT hle (I1.hok.fresh hle)
   .have l':tR X.K B' H' b xs:=l.elim (fun z=> .inl ⟨(pr.rd z.2 z.1).2,(pr.rd z.2 z.1).1⟩) .inr
    have rs':=rs.aU pr;refine⟨fun i d hd=>?_,⟨xs,l'.sq,by rw[<-rs.length];unfold bO;simp⟩⟩
    unfold bO at hd;rw[List.getElem?_map,List.getElem?_zipIdx] at hd;cases e:es[i]? with
    | none=>rw [e] at hd;cases hd
    | some d0=>
      rw[e] at hd;have hd:D.tup [.int ((0+i:Nat):Int),d0]=d:=Option.some.inj hd;rw[Nat.zero_add] at hd;obtain⟨x,hx,rx⟩:=rs'.get e;refine⟨⟨xs,x,l'.sq,hx⟩,fun v kK y DZ=>?_⟩
      obtain⟨p,y,hp,rfl,hy,rfl⟩:=y;refine⟨aC hp,?_⟩;subst hd;have xt:=hy xs l'.sq;rw[hx] at xt;cases xt;refine Rep.tup.mpr ⟨p,_,rfl, .inl ⟨fun ha=>?_, .inl aL⟩,av.cons (Rep.int.mpr rfl) (av.cons (rx.same (aC hp)) av.nil)⟩
      obtain⟨o,ho⟩:=DZ p ha;rw[hp] at ho;cases ho
 | _=>cases h2
end
end L2
end
section
namespace L2
open PySem PySem.Spec PyProof.Rows
section
variable {X:Cx}
abbrev O6:D->D->R D:=vx (fun _ j=>decide (0 < j/\j.natAbs.log2 < 9000)) fun i j=>i / j
theorem vP:∀{ns:List Int} {us:List Value},Vals (ns.map V.int) us->IntsAre us ns
 | [],_, .nil=> .nil
 | n ::ns,_, .cons r t=>by obtain⟨tk,rfl⟩:=r;exact .cons _ _ (vP t)
theorem Cg:∀{ns:List Int} {us:List Value},IntsAre us ns->Vals (ns.map V.int) us:=fun h=>by
 induction h with
 | nil=>exact .nil
 | cons _ _ _ ih=>exact .cons ⟨_,rfl⟩ ih
theorem wI{K:W.Frag}{B:List Addr}{ds:List D}{xs:List V}(r:av K B H ds xs):∀n:Nat,av K B H (List.replicate n ds).flatten (List.replicate n xs).flatten
 | 0=>av.nil
 | n+1=>by rw[List.replicate_succ,List.replicate_succ,List.flatten_cons,List.flatten_cons];exact r.append (wI r n)
def EU(f:ak->R (List D))(g:FD):ak->R (List D):=fun δ=>(f δ).bind fun ds=>(g δ).bind fun d=>match d with
 | .int k=>R.bg (decide (0<=k/\k < 1000000/\ds.length*k.toNat<=sizeLine)) (.ok (List.replicate k.toNat ds).flatten)
 | _=> .no
theorem EL{f:ak->R (List D)}(ha:QN X a f)(hb:QD X b g):QN X (.BinOp a .Mult b pos) (EU f g):=by
 refine⟨(B5 HE ha.1 hb.1).imp fun σ H Q ⟨Z,B,δ,es,E,hf,q⟩=>?_⟩
 obtain⟨ds,h1,h2⟩:=R.ab hf;obtain⟨d,h3,h4⟩:=R.ab h2;split at h4
 .rename_i k;obtain⟨h5,h6⟩:=R.aP h4;cases h6;obtain⟨k0,k1,k2⟩:=of_decide_eq_true h5;refine⟨Z,B,δ,ds,E,h1,fun a xs H1 s1 n1 e1 r1=>⟨Z,B,δ, .int k,E.same s1,h3,fun v H2 s2 r2=>⟨a,k,xs,rfl,Rep.int.mp r2,s2 a _ e1,by omega,by omega,by rw[<-r1.length];exact k2,fun p hp=>?_⟩⟩⟩
  refine q p _ _ (s1.trans (s2.trans (aC hp))) ((s1.trans s2).free hp) aL ?_;refine(wI r1 k.toNat).aU fun b o e nb=>⟨(s2.trans (aC hp)) b o e,fun hm=>?_⟩
  rcases List.mem_cons.mp hm with z | z
  .rw [z] at e;rw [s2 p _ e] at hp;cases hp
  .exact nb (List.mem_cons_of_mem _ z)
 .cases h4
def o8(ns:List Int):List Int:=ns.mergeSort fun a b=>decide (a<=b)
theorem wq{a ns:List Int}(p:a.Perm ns)(o:a.Pairwise (·<=·)):a=o8 ns:=by
 refine PySem.W.ksm_same (p.trans (List.mergeSort_perm ns _).symm) o ?_;have:=List.pairwise_mergeSort (le:=fun a b:Int=>decide (a<=b)) (fun a b c h1 h2=>by simp at*;omega) (fun a b=>by simp;omega) ns
 exact this.imp fun h=>by simpa using h
def Mn:List D->R D
 | [.lst ds]=>(match ints? ds with | some ns=>R.bg (decide (ns.length < 64)) (.ok (.lst ((o8 ns).map .int))) | none=> .no)
 | _=> .no
theorem getD_in{l:List Int}{i:Nat}(h:i < l.length):l.getD i 0∈l:=by
 have e:l.getD i 0=l[i]:=by simp [h]
 rw[e];exact List.getElem_mem h
theorem fold_min:∀(ns:List Int) (n:Int),ns.foldl min n∈n ::ns/\∀a∈n ::ns,ns.foldl min n<=a
 | [],n=>⟨by simp,fun a ha=>by simp at ha;subst ha;exact Int.le_refl _⟩
 | x ::ns,n=>by
   obtain⟨h1,h2⟩:=fold_min ns (min n x);rw[List.foldl_cons];refine⟨?_,fun a ha=>?_⟩
   .rcases List.mem_cons.mp h1 with z | z
    .rw [z];by_cases hc:n<=x
     .rw [Int.min_eq_left hc];simp
     .rw [Int.min_eq_right (by omega)];simp
    .exact List.mem_cons_of_mem _ (List.mem_cons_of_mem _ z)
   .have hm:=h2 _ List.mem_cons_self;rcases List.mem_cons.mp ha with z | z
    .subst z;omega
    .rcases List.mem_cons.mp z with z | z
     .subst z;omega
     .exact h2 a (List.mem_cons_of_mem _ z)
def nD:List D->R D
 | [.lst ds]=>(match ints? ds with | some (n ::ns)=> .ok (.int (ns.foldl min n)) | _=> .no)
 | ds=>Jh ds
def O_:List D->R D
 | [.lst ds]=>(match ints? ds with | some (n ::ns)=> .ok (.int (ns.foldl max n)) | _=> .no)
 | ds=>MY ds
theorem xO(hc:X.calm=true):cM X (.builtin "min") nD:=by
 intro pins s σ H B ds d xs us I hb rx rs hg;unfold nD at hg;split at hg
 .split at hg
  .rename_i es n ns e;cases hg;obtain⟨x,rfl,r⟩:=rs.one;obtain⟨a,ys,rfl,l,r⟩:=Rep.lst.mp r;obtain⟨u,rfl,ru⟩:=vals1 rx;cases ru;obtain⟨its,k,rv,e1,hz⟩:=I.GV l;rw[hV r e] at rv;obtain⟨ps,rfl,hps⟩:=l7 rv;have hl:s.heap.IsList a (intItems ps.toArray):=⟨_,e1,rfl,k,by simp [intItems]⟩
   have hlp:ps.length=ns.length+1:=by have:=congrArg List.length hps;simpa using this
   refine min_intList (I.ok.hd hc) hl (by simp;omega) fun v h' tk hv hk=>?_
   obtain⟨t,rfl⟩:=intItems_at hv;obtain⟨b1,b2⟩:=argBest_lt (numAt ps.toArray) (ps.toArray.size - 1);refine⟨.int _,H,I.kept hk,⟨t,rfl⟩,aI.refl H,Rep.int.mpr ?_⟩;obtain⟨m1,m2⟩:=fold_min ns n;have hge:∀j,j < ps.length->numAt ps.toArray j=(n ::ns).getD j 0:=fun j hj=>by rw[numAt_eq,<-hps]
   have hin:numAt ps.toArray (argBest (fun i j=>decide (numAt ps.toArray i < numAt ps.toArray j)) (ps.toArray.size - 1))∈n ::ns:=by
    rw[hge _ (by simp at b1 ⊢;omega)];exact getD_in (by simp at b1 ⊢;omega)
   have hle:=m2 _ hin;obtain⟨j,hj,ej⟩:=List.getElem_of_mem m1;have Ov:j < ns.length+1:=by simpa using hj
   have h3:=b2 j (by simp;omega)
   rw[hge j (by omega)] at h3
   have h4:(n ::ns).getD j 0=ns.foldl min n:=by rw[<-ej,List.getD_eq_getElem?_getD,List.getElem?_eq_getElem hj];rfl
   rw[h4] at h3;congr 1;omega
  .cases hg
 .exact Kh hc pins s σ H B _ d xs us I hb rx rs hg
end
end L2
namespace L3
open PySem PySem.Spec PyProof.Rows L2
def Kt(S:aD):V3->Option (List D)
 | .d (.lst ds)=>some ds
 | .loc k=>dj S k
 | _=>none
section
variable {X:Cx} {cl:Uu}
def Qz(fa fb:FX):FX:=fun δ S=>(fa δ S).bind fun a S1=>(fb δ S1).bind fun b S2=>match Kt S2 a,Kt S2 b with
 | some ds,some es=>R3.bg (decide (ds.length+es.length<=sizeLine)) (.ok (.loc S2.length) (S2++[.lst (ds++es)]))
 | _,_=> .no
def Rq(i:Nat):FZ:=fun δ S=>match jX δ i with
 | none=> .no
 | some k=>(match dj S k with | some _=> .ok (.nx δ) (S.set k (.lst [])) | none=> .no)
end
end L3
end
section
namespace L3
open PySem PySem.Spec PyProof.Rows L2
def kT(S:aD)(c k:Nat):Option (List (Str × V3)):=match S[k]? with | some (.ins c' fs)=>(if c'=c then some fs else none) | _=>none
theorem j3{S:aD}{c k:Nat}{fs:List (Str × V3)}(h:kT S c k=some fs):S[k]? =some (.ins c fs):=by
 unfold kT at h;split at h
 .rename_i c' J_ e;split at h
  .rename_i hc;cases h;rw [e,hc]
  .cases h
 .cases h
theorem zW{K:W.Frag}{v:V3}:∀{fs:List (Str × V3)} {ys:List (Str × V)},ys.map (·.1)=fs.map (·.1)->au K ρ H (fs.map (·.2)) (ys.map (·.2))->fs.lookup f=some v->∃x,ys.lookup f=some x/\aK K ρ H v x
 | [],ys,_,_,h=>by simp at h
 | (g,w) ::fs,[],e,_,_=>by simp at e
 | (g,w) ::fs,(g',y) ::ys,e,r,h=>by
   obtain⟨e1,gY⟩:=List.cons.inj e;have e1:g'=g:=e1;subst e1;obtain⟨x,xs,ex,r1,r2⟩:=r.bu;cases ex;rw[List.lookup_cons] at h ⊢;cases hq:f==g' with
   | true=>rw [hq] at h;cases h;exact⟨y,rfl,r1⟩
   | false=>rw [hq] at h;exact zW gY r2 h
theorem wA:∀{fs:List (Str × V3)} {ys:List (Str × V)},ys.map (·.1)=fs.map (·.1)->fs.lookup f=none->ys.lookup f=none
 | [],[],_,_=>rfl
 | [],_ ::_,e,_=>by simp at e
 | _ ::_,[],e,_=>by simp at e
 | (g,w) ::fs,(g',y) ::ys,e,h=>by
   obtain⟨e1,gY⟩:=List.cons.inj e;have e1:g'=g:=e1;subst e1;rw[List.lookup_cons] at h ⊢;cases hq:f==g' with
   | true=>rw [hq] at h;cases h
   | false=>rw [hq] at h;exact wA gY h
def wo(f:Str)(v:V3):List (Str × V3)->List (Str × V3)
 | []=>[(f,v)]
 | (g,x) ::r=>if g=f then(g,v) ::r else(g,x) ::wo f v r
theorem zX{K:W.Frag}{f:Str}{v:V3}{u:V}(rv:aK K ρ H v u):∀{fs:List (Str × V3)} {ys:List (Str × V)},ys.map (·.1)=fs.map (·.1)->au K ρ H (fs.map (·.2)) (ys.map (·.2))->
 (jl f u ys).map (·.1)=(wo f v fs).map (·.1)/\au K ρ H ((wo f v fs).map (·.2)) ((jl f u ys).map (·.2))
 | [],[],_,_=>⟨rfl,au.cons rv au.nil⟩
 | [],_ ::_,e,_=>by simp at e
 | _ ::_,[],e,_=>by simp at e
 | (g,w) ::fs,(g',y) ::ys,e,r=>by
   obtain⟨e1,gY⟩:=List.cons.inj e;have e1:g'=g:=e1;subst e1;obtain⟨x,xs,ex,r1,r2⟩:=r.bu;cases ex;unfold wo jl;by_cases hg:g'=f
   .rw [if_pos hg,if_pos hg];exact⟨by rw[List.map_cons,List.map_cons,gY],au.cons rv r2⟩
   .rw [if_neg hg,if_neg hg];obtain⟨h1,h2⟩:=zX rv gY r2;exact⟨by rw[List.map_cons,List.map_cons,h1],au.cons r1 h2⟩
section
variable {X:Cx} {cl:Uu}
def rJ(c:Nat)(f:Str)(g:FX):FX:=fun δ S=>(g δ S).bind fun v S1=>match v with
 | .loc k=>(match kT S1 c k with | some fs=>(match fs.lookup f with | some v=> .ok v S1 | none=> .no) | none=> .no)
 | _=> .no
theorem j7{c:Nat}{pos:Pos}(hC:vw X.K (cl c))(hn:cI X.K (cl c) f)(he:PX X cl e g)(hb:attributeBase e f X.env (eval e X.env)=eval e X.env:=by rfl):PX X cl (.Attribute e f pos) (rJ c f g):=⟨(Jv he.1 hb).imp fun σ H Q ⟨ρ,S,δ,v,S',E,hf,q⟩=>by
 obtain⟨o,S1,h1,h2⟩:=R3.ab hf;split at h2
 .rename_i k;split at h2
  .rename_i fs e1;split at h2
   .rename_i w gY;cases h2;refine⟨ρ,S,δ, .loc k,_,E,h1,fun u bh H1 p1 w1 r1=>?_⟩
    unfold aK at r1;obtain⟨a,a1,rfl⟩:=r1;obtain⟨dx,ys,ey,ek,rs⟩:=w1.ob k a _ a1 (j3 e1);obtain⟨x,hx,rx⟩:=zW ek rs gY;exact⟨a,cl c,dx,ys,x,rfl,ey,hC,hn,hx,q x bh H1 p1 w1 rx⟩
   .cases h2
  .cases h2
 .cases h2⟩
theorem w_fld{c k:Nat}{g:FX}{δ:DE}{S:aD}{Q:V3->aD->Prop}(h:W3 (g δ S) fun v S1=>∃fs w,v= .loc k/\S1[k]? =some (.ins c fs)/\fs.lookup f=some w/\Q w S1):W3 (rJ c f g δ S) Q:=
 W3.bind (h.mono fun v S1 ⟨fs,w,e1,gY,e3,q⟩=>by
  subst e1;have e4:kT S1 c k=some fs:=by unfold kT;simp only[gY,if_true]
  simp only[e4,e3];exact W3.ok q)
def lu(P:Program)(w:World)(K:W.Frag)(mg:Ut)(base:Heap)(cl:Uu)(k c:Nat)(m:Str)(n:Nat)(g:List V3->aD->R3 V3):Prop:=
 ∃(f:Addr) (fd:FuncData) (ps:List Str),vw K (cl c)/\Meth K (cl c) m f/\gH P w K mg base rZ k f fd ps (Bf K cl (n+1) g)/\Binds K fd ps []
def s_(c:Nat)(m:Str)(g:List V3->aD->R3 V3)(fo:FX)(fs:FA):FX:=fun δ S=>(fo δ S).bind fun o S1=>match o with
 | .loc k=>(match kT S1 c k with | some ys=>(match ys.lookup m with | none=>(fs δ S1).bind fun vs S2=>g (.loc k ::vs) S2 | some _=> .no) | none=> .no)
 | _=> .no
theorem p6{g:List V3->aD->R3 V3}{k j n c:Nat}{m:Str}{o e:Expr}{es:List Expr}{fo:FX}{fs:FA}{apos pos:Pos}{pl:Sem Bool}(M:lu X.prog X.w X.K X.mg X.base cl k c m n g)(hr:dQ j X.A)(DT:k<=j)(ho:PX X cl o fo)(ha:Eh X cl (e ::es) fs)(hn:∀δ S ds S',fs δ S= .ok ds S'->ds.length=n)
 (D5:starEach (e ::es) X.env=(false,eval e X.env) ::starEach es X.env:=by rfl) (kG:(backTo pos (starEach es X.env)).any (·.1)=false:=by rfl)
 (ht:eval (.Call (.Attribute o m apos) (e ::es) [] pos) X.env=(do
   let ov <-eval o X.env
   standAt apos.atName
   let(f,first) <-holding [ov] (getMethod ov m pl)
   callWith pos f first (backTo pos (starEach (e ::es) X.env)) (backToKw pos (keywordEach [] X.env))):=by rfl) :
 PX X cl (.Call (.Attribute o m apos) (e ::es) [] pos) (s_ c m g fo fs):=by
 obtain⟨f,fd,ps,hC,hm,F,hb⟩:=M;refine⟨(Gm ho.1 hC hm F (hr.mono DT) hb .nil wW ha.1 D5 kG ht).imp fun σ H Q ⟨ρ,S,δ,v,S',E,hf,q⟩=>?_⟩
 obtain⟨ov,S1,h1,h2⟩:=R3.ab hf;split at h2
 .rename_i kk;split at h2
  .rename_i ys e1;split at h2
   .rename_i gY;obtain⟨vs,S2,h3,h4⟩:=R3.ab h2;refine⟨ρ,S,δ, .loc kk,S1,E,h1,fun u bh H1 p1 w1 r1=>?_⟩
    have lZ:=r1;unfold aK at r1;obtain⟨a,a1,rfl⟩:=r1;obtain⟨dx,zs,ey,ek,rs⟩:=w1.ob kk a _ a1 (j3 e1);refine⟨a,dx,zs,rfl,ey,wA ek gY,bh,S1,δ,vs,S2,E.to p1 w1,h3,fun us lD H2 p2 w2 r2=>?_⟩
    show Bf X.K cl (n+1) g (V.ref a ::(us++[])) H2 Q E0;rw[List.append_nil];exact⟨by rw[List.length_cons,<-r2.length,hn δ S1 vs S2 h3],lD,S2, .loc kk ::vs,v,S',w2,au.cons (lZ.pre p2) r2,h4,fun z pF H3 p3 w3 r3=>q z pF H3 (p1.trans (p2.trans p3)) w3 r3⟩
   .cases h2
  .cases h2
 .cases h2
def vV(P:Program)(w:World)(K:W.Frag)(mg:Ut)(base:Heap)(cl:Uu)(k c:Nat)(x:Str)(n:Nat)(g:List V3->aD->R3 V3):Prop:=
 ∃(f:Addr) (fd:FuncData) (ps:List Str),Mk K (cl c) f/\gH P w K mg base rZ k f fd ps (Bf K cl (n+1) g)/\mg x=some (.ref (cl c))/\Binds K fd ps []
def zP(c:Nat)(g:List V3->aD->R3 V3)(fs:FA):FX:=fun δ S=>(fs δ S).bind fun vs S1=>(g (.loc S1.length ::vs) (S1++[.ins c []])).bind fun v S2=>match v with
 | .d .bQ=> .ok (.loc S1.length) S2
 | _=> .no
theorem y0{g:List V3->aD->R3 V3}{k j n c:Nat}{x:Str}{p pos:Pos}{e:Expr}{es:List Expr}{fs:FA}(M:vV X.prog X.w X.K X.mg X.base cl k c x n g)(hr:dQ j X.A)(DT:k+1<=j)(hg:Gl X x)(ha:Eh X cl (e ::es) fs)(hn:∀δ S ds S',fs δ S= .ok ds S'->ds.length=n)
 (nR:(x==("__debug__":Str))=false:=by decide) (he:starEach (e ::es) X.env=(false,eval e X.env) ::starEach es X.env:=by rfl) (kG:(backTo pos (starEach es X.env)).any (·.1)=false:=by rfl) :
 PX X cl (.Call (.Name x p) (e ::es) [] pos) (zP c g fs):=by
 obtain⟨f,fd,ps,M,F,hm,hb⟩:=M;refine⟨(Ex M F (hr.mono DT) hg hm hb .nil wW ha.1 nR he kG).imp fun σ H Q ⟨ρ,S,δ,v,S',E,hf,q⟩=>?_⟩
 obtain⟨vs,S1,h1,h2⟩:=R3.ab hf;obtain⟨v0,S2,h3,h4⟩:=R3.ab h2;split at h4
 .cases h4;refine⟨ρ,S,δ,vs,S1,E,h1,fun us bh H1 p1 w1 r1 xa dx hx SY oP=>?_⟩
  have hx1:upd H1 dx (.own xa) xa=none:=by rw[aQ (fun z=>oP z.symm)];exact hx
  have sm:aI H1 (upd (upd H1 dx (.own xa)) xa (.ins (cl c) dx [])):=(aC SY).trans (aC hx1);obtain⟨w2,p2⟩:=w1.new (a:=xa) (o:= .ins c []) sm hx ⟨dx,[],aL,rfl,au.nil⟩;show Bf X.K cl (n+1) g (V.ref xa ::(us++[])) _ _ E0;rw[List.append_nil];have rl:aK X.K (bh.push xa) (upd (upd H1 dx (.own xa)) xa (.ins (cl c) dx [])) (.loc S1.length) (.ref xa):=by
   unfold aK;exact⟨xa,by show(bh.r++[xa])[_]? =_;rw [<-w1.len,List.getElem?_append_right (Nat.le_refl _),Nat.sub_self];rfl,rfl⟩
  exact⟨by rw[List.length_cons,<-r1.length,hn δ S vs S1 h1],_,_, .loc S1.length ::vs, .d .bQ,_,w2,au.cons rl (r1.pre p2),h3,fun z pF H3 p3 w3 r3=>⟨by unfold aK Rep at r3;exact r3,q _ pF H3 (p1.trans (p2.trans p3)) w3 (rl.pre p3)⟩⟩
 .cases h4
def uh(c:Nat)(f:Str)(fo fe:FX):FZ:=fun δ S=>(fe δ S).bind fun v S1=>(fo δ S1).bind fun o S2=>match o with
 | .loc k=>(match kT S2 c k with | some fs=>R3.bg (decide (fs.length < 1000)) (.ok (.nx δ) (S2.set k (.ins c (wo f v fs)))) | none=> .no)
 | _=> .no
theorem mq{c:Nat}{pos pos':Pos}(hC:vw X.K (cl c))(hn:cI X.K (cl c) f)(ho:PX X cl o fo)(he:PX X cl value fe)(hs:swapsWith value (some (.Attribute o f pos')) pos.line X.env=pure false:=by rfl) :
 PZ X cl (.Assign [.Attribute o f pos'] value pos) (uh c f fo fe):=⟨(Jp ho.1 he.1 hs).imp fun D σ H ⟨ρ,S,δ,ou,S',E,hf,q⟩=>by
 obtain⟨v,S1,h1,h2⟩:=R3.ab hf;obtain⟨vo,S2,h3,h4⟩:=R3.ab h2;split at h4
 .rename_i k;split at h4
  .rename_i fs e1;obtain⟨hl,h5⟩:=R3.aP h4;cases h5;refine⟨ρ,S,δ,v,S1,E,h1,fun u bh H1 p1 w1 r1=>⟨bh,S1,δ, .loc k,S2,E.to p1 w1,h3,fun u2 lD H2 p2 w2 r2=>?_⟩⟩
   unfold aK at r2;obtain⟨a,a1,rfl⟩:=r2;obtain⟨dx,ys,ey,ek,rs⟩:=w2.ob k a _ a1 (j3 e1);have hlen:ys.length=fs.length:=by have:=congrArg List.length ek;simpa using this
   obtain⟨k1,k2⟩:=zX (f:=f) (r1.pre p2) ek rs;obtain⟨w3,p3⟩:=w2.put (o:= .ins c (wo f v fs)) (u:= .ins (cl c) dx (jl f u ys)) a1 (w2.fz k a a1 (by rw[j3 e1];intro h;cases h)) ⟨dx,_,rfl,k1,k2⟩
   exact⟨a,cl c,dx,ys,rfl,ey,hC,hn,by rw[hlen];exact of_decide_eq_true hl,q σ lD _ (p1.trans (p2.trans p3)) (E.to (p1.trans (p2.trans p3)) w3)⟩
  .cases h4
 .cases h4⟩
theorem iS{c k:Nat}{fo fe:FX}{δ:DE}{S:aD}{QO:Ou->aD->Prop}(h:W3 (fe δ S) fun v S1=>W3 (fo δ S1) fun o S2=>∃fs,o= .loc k/\S2[k]? =some (.ins c fs)/\fs.length < 1000/\QO (.nx δ) (S2.set k (.ins c (wo f v fs)))):W3 (uh c f fo fe δ S) QO:=
 W3.bind (h.mono fun v S1 h=>W3.bind (h.mono fun o S2 ⟨fs,e1,gY,hl,q⟩=>by
  subst e1;have e4:kT S2 c k=some fs:=by unfold kT;simp only[gY,if_true]
  simp only[e4];exact W3.wh (decide_eq_true hl) (W3.ok q)))
theorem ur{c k:Nat}{g:List V3->aD->R3 V3}{fo:FX}{fs:FA}{δ:DE}{S:aD}{Q:V3->aD->Prop}(h:W3 (fo δ S) fun o S1=>∃ys,o= .loc k/\S1[k]? =some (.ins c ys)/\ys.lookup m=none/\W3 (fs δ S1) fun vs S2=>W3 (g (.loc k ::vs) S2) Q):W3 (s_ c m g fo fs δ S) Q:=
 W3.bind (h.mono fun o S1 ⟨ys,e1,gY,e3,h⟩=>by
  subst e1;have e4:kT S1 c k=some ys:=by unfold kT;simp only[gY,if_true]
  simp only[e4,e3];exact W3.bind h)
theorem Cw{c:Nat}{g:List V3->aD->R3 V3}{fs:FA}{δ:DE}{S:aD}{Q:V3->aD->Prop}(h:W3 (fs δ S) fun vs S1=>W3 (g (.loc S1.length ::vs) (S1++[.ins c []])) fun v S2=>v= .d .bQ/\Q (.loc S1.length) S2):W3 (zP c g fs δ S) Q:=
 W3.bind (h.mono fun vs S1 h=>W3.bind (h.mono fun v S2 ⟨e,q⟩=>by subst e;exact W3.ok q))
end
end L3
end
section
namespace PySem
open Sem (wp)
def eV(t:Bool)(h:Heap)(i l:Addr)(k:Nat):Prop:=cond t (h.IsTupleIter i l k) (h.IsListIter i l k)
def iX(t:Bool)(h:Heap)(l:Addr)(xs:Array Value):Prop:=cond t (h.IsTuple l xs) (h.IsList l xs)
def qk(t:Bool):String:=cond t "tuple_iterator" "list_iterator"
theorem eV.at{t:Bool}{h h':Heap}{i l:Addr}{k:Nat}(x:eV t h i l k)(e:∀o,h.get? i=some o->h'.get? i=some o):eV t h' i l k:=by
 cases t with
 | true=>exact Heap.IsTupleIter.at x e
 | false=>exact Heap.IsListIter.at x e
theorem iX.at{t:Bool}{h h':Heap}{l:Addr}{xs:Array Value}(x:iX t h l xs)(e:∀o,h.get? l=some o->h'.get? l=some o):iX t h' l xs:=by
 cases t with
 | true=>exact Heap.IsTuple.at x e
 | false=>exact Heap.IsList.at x e
theorem eV.xb{t:Bool}{i l b:Addr}{k:Nat}(x:eV t h i l k)(hs:Heap.ExtBut b h h')(Kd:i≠b):eV t h' i l k:=x.at fun o e=>hs i o Kd e
theorem iX.xb{t:Bool}{l b:Addr}{xs:Array Value}(x:iX t h l xs)(hs:Heap.ExtBut b h h')(Kd:l≠b):iX t h' l xs:=x.at fun o e=>hs l o Kd e
theorem eV.ob{t:Bool}{h:Heap}{i l:Addr}{k:Nat}(x:eV t h i l k):∃o,h.get? i=some o/\∀v,o.data≠ .cell v:=by
 cases t with
 | true=>obtain⟨o,e,_,d⟩:=x;exact⟨o,e,fun v z=>by rw[d] at z;cases z⟩
 | false=>obtain⟨o,e,_,d⟩:=x;exact⟨o,e,fun v z=>by rw[d] at z;cases z⟩
theorem iX.lt{t:Bool}{h:Heap}{l:Addr}{xs:Array Value}(x:iX t h l xs):l < h.objs.size:=by
 cases t with
 | true=>obtain⟨o,e,_⟩:=x;exact Heap.lt_size e
 | false=>obtain⟨o,e,_⟩:=x;exact Heap.lt_size e
theorem eV.lt{t:Bool}{h:Heap}{i l:Addr}{k:Nat}(x:eV t h i l k):i < h.objs.size:=let⟨_,e,_⟩:=x.ob;Heap.lt_size e
section
variable {prog:Program} {w:World} {A:Around} {E:Uo} {s:Shared}
theorem iI{t:Bool}{it l:Addr}{i:Nat}{items:Array Value}{x:Value}{Q:Uo}(hit:eV t s.heap it l i)(hl:iX t s.heap l items)(hx:items[i]? =some x)
 (hQ:∀h',eV t h' it l (i+1)->Heap.SameBut it s.heap h'->Q x {s with heap:=h'}):wpAny (model prog w) A (Builtin.SmallTypes.nextOf (.ref it)) Q E s:=by
 cases t with
 | true=>exact kz hit hl hx hQ
 | false=>exact wpAny_nextOf_list_item hit hl hx hQ
theorem l_{t:Bool}{it l:Addr}{i:Nat}{items:Array Value}{Q:Uo}(hh:A.handled=none)(hit:eV t s.heap it l i)(hl:iX t s.heap l items)(hx:items[i]? =none)
 (hE:∀h' e,Heap.ExtBut it s.heap h'->(∃o,h'.get? e=some o/\o.cls= .type "StopIteration")->E (.ref e) {s with heap:=h'}):wpAny (model prog w) A (Builtin.SmallTypes.nextOf (.ref it)) Q E s:=by
 cases t with
 | true=>exact iH hh hit hl hx hE
 | false=>exact wpAny_nextOf_list_end hh hit hl hx hE
theorem tO{t:Bool}{l:Addr}{items:Array Value}{Q:Uo}(hl:iX t s.heap l items)
 (hQ:Q (.ref s.heap.objs.size) {s with heap:=s.heap.push {cls:= .type (qk t),data:= .fields #[.ref l, .int 0 0]}}):wpAny (model prog w) A (pyIter (.ref l)) Q E s:=by
 cases t with
 | true=>exact wpAny_pyIter_tuple hl hQ
 | false=>exact wpAny_pyIter_list hl hQ
theorem An{t u:Bool}{z TI TO i1 i2 l1 l2:Addr}{k1 k2:Nat}{xs ys:Array Value}{x y a b:Value}{Q:Uo}(D:ZipApart z TI TO i1 i2 l1 l2)(hz:IsZip s.heap z TI TO .none)(yQ:IsPair s.heap TI (.ref i1) (.ref i2))
 (z9:IsPair s.heap TO a b) (h1:eV t s.heap i1 l1 k1) (h2:eV u s.heap i2 l2 k2) (Bc:iX t s.heap l1 xs) (JS:iX u s.heap l2 ys) (hx:xs[k1]? =some x) (hy:ys[k2]? =some y)
 (hQ:∀h',IsZip h' z TI TO (rawInt s.heap.objs.size)->IsPair h' TO x y->eV t h' i1 l1 (k1+1)->eV u h' i2 l2 (k2+1)->IsPair h' s.heap.objs.size x y->h'.objs.size=s.heap.objs.size+1->(∀c o,c≠z->c≠TO->c≠i1->c≠i2->s.heap.get? c=some o->h'.get? c=some o)->Q (.ref s.heap.objs.size) {s with heap:=h'}) :
 wpAny (model prog w) A (Builtin.«zip.__next__» ⟨[.ref z],[]⟩) (fun fin s'=>∃v,fin= .done (.ret v)/\Q v s') E s:=by
 show wpAny _ _ (field (.ref z) 2 >>=_) _ _ _;refine wpAny_bind (wpAny_field hz rfl (x:= .bool false) rfl ?_);show wpAny _ _ (field (.ref z) 3 >>=_) _ _ _;refine wpAny_bind (wpAny_field hz rfl (x:= .ref TI) rfl ?_);refine wpAny_bind (wpAny_seqItems yQ rfl ?_);show wpAny _ _ (Builtin.SmallTypes.ownedTupleIsFree (.ref z) >>=_) _ _ _;refine wpAny_bind ?_;unfold Builtin.SmallTypes.ownedTupleIsFree;refine wpAny_bind (wpAny_field hz rfl (x:= .none) rfl (wpAny_pure ?_));simp only[if_true];refine wpAny_bind (wpAny_rule ?_);refine wpAny_bind (wpAny_field hz rfl (x:= .ref TO) rfl ?_);refine wpAny_bind (wpAny_setField_rec hz (by simp) fun gS md gC=>?_)
 replace md:IsZip gS z TI TO .ellipsis:=md;refine wpAny_bind ?_;simp only[List.zipIdx_cons,List.zipIdx_nil,List.forIn_cons,List.forIn_nil]
 refine wpAny_bind (wpAny_bind (wpAny_onRaise ?_));show wpAny _ _ (Builtin.SmallTypes.nextOf (.ref i1) >>=_) _ _ _;refine wpAny_bind (iI (h1.xb gC.extBut D.i1z) (Bc.xb gC.extBut D.l1z) hx fun fA Hk cn=>wpAny_pure ?_)
 have hTO₂:IsPair fA TO a b:=cn.extBut _ _ D.TOi1 (gC.extBut _ _ D.TOz z9);refine wpAny_bind (wpAny_seqItems hTO₂ rfl ?_);refine wpAny_bind (wpAny_updateSeq_pair hTO₂ fun GB vq jc=>?_)
 replace vq:IsPair GB TO x b:=vq;refine wpAny_bind (wpAny_letGo (wpAny_pure ?_));refine wpAny_bind (wpAny_bind (wpAny_onRaise ?_));show wpAny _ _ (Builtin.SmallTypes.nextOf (.ref i2) >>=_) _ _ _
 refine wpAny_bind (iI (((h2.xb gC.extBut D.i2z).xb cn.extBut D.i12.symm).xb jc.extBut D.TOi2.symm) (((JS.xb gC.extBut D.l2z).xb cn.extBut D.l2i1).xb jc.extBut D.l2TO) hy fun JO LQ pE=>wpAny_pure ?_)
 have hTO₄:IsPair JO TO x b:=pE.extBut _ _ D.TOi2 vq;refine wpAny_bind (wpAny_seqItems hTO₄ rfl ?_);refine wpAny_bind (wpAny_updateSeq_pair hTO₄ fun lY vp pC=>?_)
 replace vp:IsPair lY TO x y:=vp;refine wpAny_bind (wpAny_letGo (wpAny_pure (wpAny_pure ?_)));refine wpAny_bind (wpAny_seqItems vp rfl ?_);refine wpAny_bind (wpAny_newTuple ?_)
 have hsz:lY.objs.size=s.heap.objs.size:=(pC.1.trans (pE.1.trans (jc.1.trans (cn.1.trans gC.1))));have hz₅:IsZip lY z TI TO .ellipsis:=pC.extBut _ _ D.TOz.symm <| pE.extBut _ _ D.i2z.symm <| jc.extBut _ _ D.TOz.symm <| cn.extBut _ _ D.i1z.symm md
 have hk₅:∀c o,c≠z->c≠TO->c≠i1->c≠i2->s.heap.get? c=some o->lY.get? c=some o:=fun c o c1 c2 c3 c4 e=>pC.extBut _ _ c2 <| pE.extBut _ _ c4 <| jc.extBut _ _ c2 <| cn.extBut _ _ c3 <| gC.extBut _ _ c1 e
 have h1₅:eV t lY i1 l1 (k1+1):=((Hk.xb jc.extBut D.TOi1.symm).xb pE.extBut D.i12).xb pC.extBut D.TOi1.symm;have h2₅:eV u lY i2 l2 (k2+1):=LQ.xb pC.extBut D.TOi2.symm;have hzlt:=Heap.lt_size hz₅;show wpAny _ _ (Builtin.SmallTypes.ownedTupleHandOut (.ref z) (.ref lY.objs.size) >>=_) _ _ _;refine wpAny_bind ?_;unfold Builtin.SmallTypes.ownedTupleHandOut;have hz₆:IsZip (lY.push {cls:= .type "tuple",data:= .seq #[x,y]}) z TI TO .ellipsis:=Heap.get?_push_of_some _ hz₅;refine wpAny_bind (wpAny_setField_rec hz₆ (by simp) fun Oc D9 D7=>?_)
 replace D9:IsZip Oc z TI TO (rawInt lY.objs.size):=D9;refine wpAny_setField_rec D9 (by simp) fun DS Aa D_=>?_;replace Aa:IsZip DS z TI TO (rawInt lY.objs.size):=Aa
 have up:∀c o,c≠z->lY.get? c=some o->DS.get? c=some o:=fun c o c1 e=>D_.extBut _ _ c1 <| D7.extBut _ _ c1 (Heap.get?_push_of_some _ e)
 have hT₈:IsPair DS lY.objs.size x y:=D_.extBut _ _ (Nat.ne_of_gt hzlt) <| D7.extBut _ _ (Nat.ne_of_gt hzlt) (Heap.get?_push_size _ rfl)
 have hz8:DS.objs.size=lY.objs.size+1:=(D_.1.trans D7.1).trans (Heap.size_push ..);rw[hsz] at Aa hT₈ hz8;refine wpAny_pure ⟨_,rfl,?_⟩;show Q (.ref lY.objs.size) _;rw [hsz];exact hQ DS Aa (up _ _ D.TOz vp) (h1₅.at fun o e=>up _ o D.i1z e) (h2₅.at fun o e=>up _ o D.i2z e) hT₈ hz8 fun c o c1 c2 c3 c4 e=>up c o c1 (hk₅ c o c1 c2 c3 c4 e)
theorem Dn{t u:Bool}{z TI TO i1 i2 l1 l2:Addr}{k1 k2:Nat}{xs ys:Array Value}{a b:Value}{Q:Fin->Shared->Prop}(hh:A.handled=none)(D:ZipApart z TI TO i1 i2 l1 l2)(hz:IsZip s.heap z TI TO .none)
 (yQ:IsPair s.heap TI (.ref i1) (.ref i2)) (z9:IsPair s.heap TO a b) (h1:eV t s.heap i1 l1 k1) (h2:eV u s.heap i2 l2 k2) (Bc:iX t s.heap l1 xs) (JS:iX u s.heap l2 ys) (NY:xs[k1]? =none\/ys[k2]? =none)
 (hE:∀h' e,(∀c o,c≠z->c≠TO->c≠i1->c≠i2->s.heap.get? c=some o->h'.get? c=some o)->(∃o,h'.get? e=some o/\o.cls= .type "StopIteration")->E (.ref e) {s with heap:=h'}):wpAny (model prog w) A (Builtin.«zip.__next__» ⟨[.ref z],[]⟩) Q E s:=by
 show wpAny _ _ (field (.ref z) 2 >>=_) _ _ _;refine wpAny_bind (wpAny_field hz rfl (x:= .bool false) rfl ?_);show wpAny _ _ (field (.ref z) 3 >>=_) _ _ _;refine wpAny_bind (wpAny_field hz rfl (x:= .ref TI) rfl ?_);refine wpAny_bind (wpAny_seqItems yQ rfl ?_);show wpAny _ _ (Builtin.SmallTypes.ownedTupleIsFree (.ref z) >>=_) _ _ _;refine wpAny_bind ?_;unfold Builtin.SmallTypes.ownedTupleIsFree;refine wpAny_bind (wpAny_field hz rfl (x:= .none) rfl (wpAny_pure ?_));simp only[if_true];refine wpAny_bind (wpAny_rule ?_);refine wpAny_bind (wpAny_field hz rfl (x:= .ref TO) rfl ?_);refine wpAny_bind (wpAny_setField_rec hz (by simp) fun gS md gC=>?_)
 replace md:IsZip gS z TI TO .ellipsis:=md;refine wpAny_bind ?_;simp only[List.zipIdx_cons,List.zipIdx_nil,List.forIn_cons,List.forIn_nil]
 refine wpAny_bind (wpAny_bind (wpAny_onRaise ?_));show wpAny _ _ (Builtin.SmallTypes.nextOf (.ref i1) >>=_) _ _ _;cases hx:xs[k1]? with
 | none=>
   refine wpAny_bind (l_ hh (h1.xb gC.extBut D.i1z) (Bc.xb gC.extBut D.l1z) hx fun fA e cn he=>?_)
   obtain⟨oe,hoe,hce⟩:=he;have z8:IsZip fA z TI TO .ellipsis:=cn _ _ D.i1z.symm md;have hez:e≠z:=fun x=>by {subst x;rw [z8] at hoe;cases hoe;simp at hce}
   exact wpAny_setField_rec z8 (by simp) fun GB _ jc=>hE GB e (fun c o c1 _ c3 _ x=>jc.extBut _ _ c1 <| cn _ _ c3 <| gC.extBut _ _ c1 x) ⟨oe,jc.extBut _ _ hez hoe,hce⟩
 | some x=>
   have hy:ys[k2]? =none:=NY.resolve_left fun h=>by {rw [hx] at h;cases h}
   refine wpAny_bind (iI (h1.xb gC.extBut D.i1z) (Bc.xb gC.extBut D.l1z) hx fun fA Hk cn=>wpAny_pure ?_)
   have hTO₂:IsPair fA TO a b:=cn.extBut _ _ D.TOi1 (gC.extBut _ _ D.TOz z9);refine wpAny_bind (wpAny_seqItems hTO₂ rfl ?_);refine wpAny_bind (wpAny_updateSeq_pair hTO₂ fun GB vq jc=>?_)
   refine wpAny_bind (wpAny_letGo (wpAny_pure ?_));refine wpAny_bind (wpAny_bind (wpAny_onRaise ?_));show wpAny _ _ (Builtin.SmallTypes.nextOf (.ref i2) >>=_) _ _ _;refine wpAny_bind (l_ hh (((h2.xb gC.extBut D.i2z).xb cn.extBut D.i12.symm).xb jc.extBut D.TOi2.symm) (((JS.xb gC.extBut D.l2z).xb cn.extBut D.l2i1).xb jc.extBut D.l2TO) hy fun JO e pE he=>?_)
   obtain⟨oe,hoe,hce⟩:=he;have hz₄:IsZip JO z TI TO .ellipsis:=pE _ _ D.i2z.symm <| jc.extBut _ _ D.TOz.symm <| cn.extBut _ _ D.i1z.symm md
   have hez:e≠z:=fun x=>by {subst x;rw [hz₄] at hoe;cases hoe;simp at hce}
   exact wpAny_setField_rec hz₄ (by simp) fun lY _ pC=>hE lY e (fun c o c1 c2 c3 c4 x=>pC.extBut _ _ c1 <| pE _ _ c4 <| jc.extBut _ _ c2 <| cn.extBut _ _ c3 <| gC.extBut _ _ c1 x) ⟨oe,pC.extBut _ _ hez hoe,hce⟩
end
abbrev Me(t:Bool)(h:Heap)(l1:Addr):Heap:=h.push {cls:= .type (qk t),data:= .fields #[.ref l1, .int 0 0]}
abbrev Mq(t u:Bool)(h:Heap)(l1 l2:Addr):Heap:=(Me t h l1).push {cls:= .type (qk u),data:= .fields #[.ref l2, .int 0 0]}
abbrev Mh(t u:Bool)(h:Heap)(l1 l2:Addr):Heap:=(Mq t u h l1 l2).push {cls:= .type "tuple",data:= .seq #[.ref h.objs.size, .ref (Me t h l1).objs.size]}
abbrev Mb(t u:Bool)(h:Heap)(l1 l2:Addr):Heap:=(Mh t u h l1 l2).push {cls:= .type "tuple",data:= .seq #[.none, .none]}
abbrev J2(t u:Bool)(h:Heap)(l1 l2:Addr):Heap:=(Mb t u h l1 l2).push {cls:= .type "zip",data:= .fields #[.none, .bool false, .bool false, .ref (Mq t u h l1 l2).objs.size, .ref (Mh t u h l1 l2).objs.size]}
theorem yO(t u:Bool)(l1 l2:Addr)(xs ys:Array Value):Meets (Builtin.«zip.__new__» ⟨[.type "zip", .ref l1, .ref l2],[]⟩) (fun _ R s=>iX t s.heap l1 xs/\iX u s.heap l2 ys/\R (.ok (.ret (.ref (Mb t u s.heap l1 l2).objs.size))) {s with heap:=J2 t u s.heap l1 l2}):=
 .of_wp fun prog w A R s h=>by
   obtain⟨hp,g,d,tk,os⟩:=s;obtain⟨Bc,JS,h⟩:=h;have hsub:=sub_zip;have L6:iX t (Shared.heap ⟨hp,g,d,tk,os⟩) l1 xs:=Bc;have hL2:iX u (Shared.heap ⟨hp.push {cls:= .type (qk t),data:= .fields #[.ref l1, .int 0 0]},g,d,tk,os⟩) l2 ys:=JS.at fun o e=>Heap.get?_push_of_some _ e
   wp_walk using tO L6,tO hL2
   exact⟨_,rfl,h⟩
theorem eV.new{t:Bool}{h:Heap}{i l:Addr}(e:h.get? i=some {cls:= .type (qk t),data:= .fields #[.ref l, .int 0 0]}):eV t h i l 0:=by
 cases t with
 | true=>exact⟨_,e,rfl,rfl⟩
 | false=>exact⟨_,e,rfl,rfl⟩
theorem AM{prog:Program}{w:World}{A:Around}{E:Uo}{s:Shared}{t u:Bool}{l1 l2:Addr}{xs ys:Array Value}{Q:Uo}(Bc:iX t s.heap l1 xs)(JS:iX u s.heap l2 ys)
 (h:∀h',IsZip h' (s.heap.objs.size+4) (s.heap.objs.size+2) (s.heap.objs.size+3) .none->IsPair h' (s.heap.objs.size+2) (.ref s.heap.objs.size) (.ref (s.heap.objs.size+1))->IsPair h' (s.heap.objs.size+3) .none .none->
   eV t h' s.heap.objs.size l1 0->eV u h' (s.heap.objs.size+1) l2 0->(∀c o,s.heap.get? c=some o->h'.get? c=some o)->Q (.ref (s.heap.objs.size+4)) {s with heap:=h'}):wpAny (model prog w) A (call (.type "zip") [.ref l1, .ref l2]) Q E s:=by
 refine callType_new F.called_zip (by decide) (F.typeCall_zip_2 _ _) (F.newCall_zip_2 _ _) (fun obj=>F.args_object_init_3 obj _ _) F.entry_zip_new (yO t u l1 l2 xs ys) ⟨Bc,JS,?_⟩
 have z1:(Me t s.heap l1).objs.size=s.heap.objs.size+1:=Heap.size_push ..;have z2:(Mq t u s.heap l1 l2).objs.size=s.heap.objs.size+2:=(Heap.size_push ..).trans (congrArg (·+1) z1)
 have z3:(Mh t u s.heap l1 l2).objs.size=s.heap.objs.size+3:=(Heap.size_push ..).trans (congrArg (·+1) z2)
 have z4:(Mb t u s.heap l1 l2).objs.size=s.heap.objs.size+4:=(Heap.size_push ..).trans (congrArg (·+1) z3)
 have g5:(J2 t u s.heap l1 l2).get? (Mb t u s.heap l1 l2).objs.size=some _:=Heap.get?_push_size _ rfl;have g4:(J2 t u s.heap l1 l2).get? (Mh t u s.heap l1 l2).objs.size=some _:=Heap.get?_push_of_some _ (Heap.get?_push_size _ rfl);have g3:(J2 t u s.heap l1 l2).get? (Mq t u s.heap l1 l2).objs.size=some _:=Heap.get?_push_of_some _ <| Heap.get?_push_of_some _ (Heap.get?_push_size _ rfl)
 have g2:(J2 t u s.heap l1 l2).get? (Me t s.heap l1).objs.size=some _:=Heap.get?_push_of_some _ <| Heap.get?_push_of_some _ <| Heap.get?_push_of_some _ (Heap.get?_push_size _ rfl)
 have g1:(J2 t u s.heap l1 l2).get? s.heap.objs.size=some _:=Heap.get?_push_of_some _ <| Heap.get?_push_of_some _ <| Heap.get?_push_of_some _ <| Heap.get?_push_of_some _ (Heap.get?_push_size _ rfl)
 show _/\_;rw[z2,z3,z4] at g5;rw [z1,z2] at g3;rw [z3] at g4;rw [z1] at g2;rw [z4];exact⟨⟨_,g5,rfl⟩,h _ g5 g3 g4 (eV.new g1) (eV.new g2) fun c o x=>Heap.get?_push_of_some _ <| Heap.get?_push_of_some _ <| Heap.get?_push_of_some _ <| Heap.get?_push_of_some _ <| Heap.get?_push_of_some _ x⟩
end PySem
namespace L2
open PySem PySem.Spec PyProof.Rows
def Ee(t:Bool)(K:W.Frag)(H:Hp)(a:Addr)(xs:List V):Prop:=cond t (pB K H a xs) (mZ K H a xs)
theorem Inv.EE{X:Cx}{pins:Um}{σ:L2.St}{s:Shared}{t:Bool}{a:Addr}{xs:List V}(I:Inv X pins σ H s)(h:Ee t X.K H a xs):∃its:List Value,Vals xs its/\iX t s.heap a its.toArray:=by
 cases t with
 | true=>obtain⟨its,r,p,_⟩:=I.tuple h;exact⟨its,r,p⟩
 | false=>obtain⟨its,r,p,_⟩:=I.list h;exact⟨its,r,p.isList⟩
theorem Inv.zT{X:Cx}{pins:Um}{σ:L2.St}{s:Shared}{t:Bool}{a:Addr}{xs ys:List V}(I:Inv X pins σ H s)(h:Ee t X.K H a xs)(h':Ee t X.K H a ys):xs=ys:=by
 cases t with
 | true=>exact I.nX h h'
 | false=>exact I.m8 h h'
def Qx(K:W.Frag)(t u:Bool)(a b:Addr):It:=
 ⟨fun i H=>∃xs ys x y,Ee t K H a xs/\Ee u K H b ys/\xs[i]? =some x/\ys[i]? =some y,
  fun i H v H'=>∃p x y,H p=none/\v= .ref p/\(∀xs,Ee t K H a xs->xs[i]? =some x)/\(∀ys,Ee u K H b ys->ys[i]? =some y)/\H'=upd H p (.tup [x,y]),
  fun i H=>∃xs ys,Ee t K H a xs/\Ee u K H b ys/\(xs.length<=i\/ys.length<=i)⟩
theorem Cq{K:W.Frag}{k:Nat}{t u:Bool}{z TI TO i1 i2 a b:Addr}(D:ZipApart z TI TO i1 i2 a b):Turn P w K (.Tuple elts k pos) (Qx K t u a b) [z,TI,TO,i1,i2] z
 (fun i h=>IsZip h z TI TO .none/\IsPair h TI (.ref i1) (.ref i2)/\(∃x y,IsPair h TO x y)/\eV t h i1 a i/\eV u h i2 b i) where
 mem:=by simp
 obj:=fun i h st c hc=>by
  obtain⟨hz,yQ,⟨x,y,z9⟩,h1,h2⟩:=st;simp only[List.mem_cons,List.not_mem_nil,or_false] at hc;rcases hc with rfl | rfl | rfl | rfl | rfl
  .exact⟨_,hz,fun v z=>by cases z⟩
  .exact⟨_,yQ,fun v z=>by cases z⟩
  .exact⟨_,z9,fun v z=>by cases z⟩
  .exact h1.ob
  .exact h2.ob
 keep:=fun i h h' st k=>by
  obtain⟨hz,yQ,⟨x,y,z9⟩,h1,h2⟩:=st;exact⟨k z (by simp) _ hz,k TI (by simp) _ yQ,⟨x,y,k TO (by simp) _ z9⟩,h1.at fun o e=>k i1 (by simp) o e,h2.at fun o e=>k i2 (by simp) o e⟩
 item:=by
  intro X hP hw hK hc i pins s σ H E I hf st hg;subst hP hw hK;obtain⟨xs,ys,x,y,hq,hr,hx,hy⟩:=hg;obtain⟨its,rv,p⟩:=I.EE hq;obtain⟨jts,Es,p'⟩:=I.EE hr;obtain⟨ux,hu,ru⟩:=rv.get hx;obtain⟨uy,Sx,J6⟩:=Es.get hy;obtain⟨hz,yQ,⟨a0,b0,z9⟩,h1,h2⟩:=st;have hT:s.TypeIs (.ref z) "zip":=⟨_,hz,rfl⟩;unfold pyNext;refine wpAny_bind (wpAny_attempt (wpAny_callSpecial?_slot (name:="__next__") hT F.slot_zip_next (wpAny_call_entry F.slot_zip_next hT F.entry_zip_next (An D hz yQ z9 h1 h2 p p' (x:=ux) (y:=uy) (by simpa using hu) (by simpa using Sx) fun gS a1 a2 a3 a4 a5 a6 ub=>wpAny_pure ?_) (F.args_zip_next_1 _))))
  refine⟨_,rfl,wpAny_letOwnedTupleGo_zip a1 fun fA z8 cn=>?_⟩
  replace cn:Heap.SameBut z gS fA:=cn
  have hzl:z < s.heap.objs.size:=Heap.lt_size hz;have xn:fA.get? s.heap.objs.size=some {cls:= .type "tuple",data:= .seq #[ux,uy]}:=(cn.2 _ (Nat.ne_of_gt hzl)).trans a5;have kk:∀b o,b≠z->b≠TO->b≠i1->b≠i2->s.heap.get? b=some o->fA.get? b=some o:=fun b o c1 c2 c3 c4 q=>(cn.2 b c1).trans (ub b o c1 c2 c3 c4 q)
  have hn:H s.heap.objs.size=none:=I.fresh;have sm:aI H (upd H s.heap.objs.size (.tup [x,y])):=aC hn;have f0:∀c∈[z,TI,TO,i1,i2],H c=none:=fun c hc=>(hf c hc).1
  have nit:∀b o,H b=some o->b≠z/\b≠TO/\b≠i1/\b≠i2:=fun b o q=>by
   refine⟨fun e=>?_,fun e=>?_,fun e=>?_,fun e=>?_⟩
   .rw [e,f0 z (by simp)] at q;cases q
   .rw [e,f0 TO (by simp)] at q;cases q
   .rw [e,f0 i1 (by simp)] at q;cases q
   .rw [e,f0 i2 (by simp)] at q;cases q
  have kH:∀b o q,H b=some q->s.heap.get? b=some o->fA.get? b=some o:=fun b o q hb e=>let⟨c1,c2,c3,c4⟩:=nit b q hb;kk b o c1 c2 c3 c4 e
  have hok:lT X.prog X.w (upd H s.heap.objs.size (.tup [x,y])) fA:=fun b ob q=>by
   by_cases hb:b=s.heap.objs.size
   .subst hb;rw[aL] at q;cases q;exact⟨by show 2<=sizeLine;decide,[ux,uy], .cons ru (.cons J6 .nil),⟨_,xn,rfl,_,rfl⟩⟩
   .rw [aQ hb] at q;refine(I.hok b ob q).ui (fun c v hc e=>?_) (fun c e=>sm c _ e) fun c ys e=>sm c _ e
    rcases hc with rfl | hc
    .exact kH c v _ q e
    .exact kH c v _ hc e
  have nch:∀b,b ∉ [z,TI,TO,i1,i2]->b≠z/\b≠TO/\b≠i1/\b≠i2:=fun b hb=>⟨fun e=>hb (by simp [e]),fun e=>hb (by simp [e]),fun e=>hb (by simp [e]),fun e=>hb (by simp [e])⟩
  have kc:∀b o,b ∉ [z,TI,TO,i1,i2]->s.heap.get? b=some o->fA.get? b=some o:=fun b o hb e=>let⟨c1,c2,c3,c4⟩:=nch b hb;kk b o c1 c2 c3 c4 e
  have I2:Inv X pins σ (upd H s.heap.objs.size (.tup [x,y])) {s with heap:=fA,toks:=s.toks}:=by
   refine I.step (g':=s.gens) (d':=s.drawn) (ch:=[z,TI,TO,i1,i2]) (fun b hb=>?_) (fun b o _ _ hb q _=>kc b o hb q) (fun b o _ _ hb q _=>⟨o.slots,kc b o hb q⟩)
    (fun b o hb q n=>by rw[aQ (Nat.ne_of_lt (Heap.lt_size q))];exact n) (fun b o hb q=>⟨o,kc b o hb q⟩) (fun b ys e=>sm b _ e) (fun b o u e=>sm b _ e) (fun b ps e=>⟨#[],by rw[sm b _ e];simp⟩) (fun m hm=>?_) hok I.bare
   .obtain⟨g0,g1,g2,g3,g4,g5⟩:=hf b hb;exact⟨g3,g1,g4,g5⟩
   .obtain⟨o,es,ep,ho,r⟩:=hm;refine⟨o,es,ep,kc _ o (fun hb=>?_) ho,r⟩
    exact(hf _ hb).2.1 rfl
  have up:∀c,c≠z->∀o,gS.get? c=some o->fA.get? c=some o:=fun c hc o e=>(cn.2 c hc).trans e
  refine⟨.ref s.heap.objs.size,_,I2,rfl,⟨s.heap.objs.size,x,y,hn,rfl,fun zs JV=>(by rw[I.zT JV hq];exact hx),fun zs JV=>(by rw[I.zT JV hr];exact hy),rfl⟩,
   ⟨z8,up _ D.TIz _ (ub TI _ D.TIz D.TITO D.TIi1 D.TIi2 yQ),⟨_,_,up _ D.TOz _ a2⟩,a3.at fun o e=>up _ D.i1z o e,a4.at fun o e=>up _ D.i2z o e⟩,fun c hc=>?_⟩
  have hlt:c < s.heap.objs.size:=by
   simp only[List.mem_cons,List.not_mem_nil,or_false] at hc;rcases hc with rfl | rfl | rfl | rfl | rfl
   .exact hzl
   .exact Heap.lt_size yQ
   .exact Heap.lt_size z9
   .exact h1.lt
   .exact h2.lt
  rw[aQ (Nat.ne_of_lt hlt)];exact f0 c hc
 done:=by
  intro X hP hw hK hc i pins s σ H E I hf st hg;subst hP hw hK;obtain⟨xs,ys,hq,hr,hl⟩:=hg;obtain⟨its,rv,p⟩:=I.EE hq;obtain⟨jts,Es,p'⟩:=I.EE hr;obtain⟨hz,yQ,⟨a0,b0,z9⟩,h1,h2⟩:=st;have hT:s.TypeIs (.ref z) "zip":=⟨_,hz,rfl⟩;have l1:=rv.length;have l2:=Es.length;unfold pyNext;refine wpAny_bind (wpAny_attempt (wpAny_callSpecial?_slot (name:="__next__") hT F.slot_zip_next (wpAny_call_entry F.slot_zip_next hT F.entry_zip_next (Dn (I.ok.hd hc) D hz yQ z9 h1 h2 p p' ?_ fun h' e hk he=>?_) (F.args_zip_next_1 _))))
  .rcases hl with hl | hl
   .exact .inl (by simp;omega)
   .exact .inr (by simp;omega)
  obtain⟨o,ho,hcl⟩:=he;refine wpAny_bind (wpAny_isInstance (T:="StopIteration") (b:=true) ⟨o,ho,hcl⟩ isSubtype_stop ?_);have nch:∀b,b ∉ [z,TI,TO,i1,i2]->b≠z/\b≠TO/\b≠i1/\b≠i2:=fun b hb=>⟨fun e=>hb (by simp [e]),fun e=>hb (by simp [e]),fun e=>hb (by simp [e]),fun e=>hb (by simp [e])⟩
  have kc:∀b o,b ∉ [z,TI,TO,i1,i2]->s.heap.get? b=some o->h'.get? b=some o:=fun b o hb e=>let⟨c1,c2,c3,c4⟩:=nch b hb;hk b o c1 c2 c3 c4 e
  have f0:∀c∈[z,TI,TO,i1,i2],H c=none:=fun c hc=>(hf c hc).1
  have kH:∀b o q,H b=some q->s.heap.get? b=some o->h'.get? b=some o:=fun b o q hb e=>kc b o (fun z=>by rw[f0 b z] at hb;cases hb) e
  refine wpAny_pure ⟨rfl,?_⟩;refine I.step (h':=h') (H':=H) (g':=s.gens) (d':=s.drawn) (t':=s.toks) (ch:=[z,TI,TO,i1,i2]) (fun b hb=>?_) (fun b o _ _ hb q _=>kc b o hb q) (fun b o _ _ hb q _=>⟨o.slots,kc b o hb q⟩)
   (fun b o hb q n=>n) (fun b o hb q=>⟨o,kc b o hb q⟩) (fun b ys e=>e) (fun b o u e=>e) (fun b ps e=>⟨#[],by rw[e];simp⟩) (fun m hm=>?_) (fun b ob q=>?_) I.bare
  .obtain⟨g0,g1,g2,g3,g4,g5⟩:=hf b hb;exact⟨g3,g1,g4,g5⟩
  .obtain⟨o,es,ep,ho,r⟩:=hm;refine⟨o,es,ep,kc _ o (fun hb=>?_) ho,r⟩
   exact(hf _ hb).2.1 rfl
  .refine(I.hok b ob q).ui (fun c v hc e=>?_) (fun c e=>e) fun c ys e=>e
   rcases hc with rfl | hc
   .exact kH c v _ q e
   .exact kH c v _ hc e
 self:=fun A i s Q E st h=>wpAny_pyIter_zip st.1 h
section
variable {X:Cx}
def xj(ds es:List D):List D:=(ds.zip es).map fun p=> .tup [p.1,p.2]
def seqD?:D->Option (List D)
 | .lst ds=>some ds
 | .tup ds=>some ds
 | _=>none
def O3(f g:FD):ak->R (List D):=fun δ=>(f δ).bind fun d=>(g δ).bind fun e=>match seqD? d,seqD? e with | some ds,some es=> .ok (xj ds es) | _,_=> .no
theorem Rep.EE{K:W.Frag}{B:List Addr}{d:D}{v:V}{ds:List D}(r:Rep K B H d v)(h:seqD? d=some ds):∃t a xs,v= .ref a/\(∀B' H',cZ B H B' H'->Ee t K H' a xs/\av K B' H' ds xs):=by
 cases d with
 | lst es=>
   cases h;obtain⟨a,xs,rfl,l,rs⟩:=Rep.lst.mp r;exact⟨false,a,xs,rfl,fun B' H' p=>⟨(l.aU p).sq,rs.aU p⟩⟩
 | tup es=>
   cases h;obtain⟨a,xs,rfl,l,rs⟩:=Rep.tup.mp r;refine⟨true,a,xs,rfl,fun B' H' p=>⟨?_,rs.aU p⟩⟩
   have l':tR K B' H' a xs:=l.elim (fun z=> .inl ⟨(p.rd z.2 z.1).2,(p.rd z.2 z.1).1⟩) .inr
   exact l'.sq
 | _=>cases h
def OZ(T U:String)(f:FD):FD:=fun δ=>(f δ).bind fun d=>match d with | .dct _ _=> .no | _=> .ok (.bl (x8 (tyName d) T || x8 (tyName d) U))
def Pt(lo:Int)(n:Nat):It:=⟨fun i _=>i < n,fun i H x H'=>H'=H/\x= .int (lo - i),fun i _=>n<=i⟩
theorem vR{K:W.Frag}(it:Addr)(lo:Int)(n:Nat):Turn P w K tg (Pt lo n) [it] it (fun i h=>IsRangeIter h it (lo+(i:Nat)*(-1)) ((n:Int) - (i:Nat)) (-1)) where
 mem:=by simp
 obj:=fun i h st b hb=>by
  have e:b=it:=by simpa using hb
  subst e;exact⟨_,st,fun v z=>by
   have z':Data.fields _=Data.cell v:=z;cases z'⟩
 keep:=fun i h h' st k=>k it (by simp) _ st
 item:=by
  intro X hP hw hK hc i pins s σ H E I hf st hg;subst hP hw hK;obtain⟨f0,f1,f2,f3,f4,f5⟩:=hf it (by simp)
  have W:=Walks.range (prog:=X.prog) (w:=X.w) (I.ok.hd hc) it lo (-1) n;refine W.item i s _ _ hg st fun v h' tk hv z_ kk=>?_
  obtain⟨t,rfl⟩:=hv;have I1:Inv X pins σ H {s with heap:=h',toks:=tk}:=I.turned (fun b o hb e=>kk b o (by simpa using hb) e) f0 f1 f3 f4 f5
  refine⟨_,rfl,wQ (s:={s with heap:=h',toks:=tk}) (n:="range_iterator") z_ rfl rfl (by decide) ⟨.int (lo - i),H,I1,⟨t,?_⟩,⟨rfl,rfl⟩,z_,fun b hb=>(hf b hb).1⟩⟩
  rw[show lo+(i:Int)*(-1)=lo - i by omega]
 done:=by
  intro X hP hw hK hc i pins s σ H E I hf st hg;subst hP hw hK;obtain⟨f0,f1,f2,f3,f4,f5⟩:=hf it (by simp)
  exact wpAny_pyNext_range_end (I.ok.hd hc) st (by have:n<=i:=hg;omega) fun h' eb=>⟨rfl,I.turned (t':=s.toks) (fun b o hb e=>eb b o hb e) f0 f1 f3 f4 f5⟩
 self:=fun _ _ _ _ _ st h=>wpAny_pyIter_rangeiter st h
theorem l0(a b:Int):Builtin.Range.rangeSize a b (-1)=((a - b).toNat:Int):=by
 unfold Builtin.Range.rangeSize;rw[if_neg (by omega),show(-(-1:Int))=1 from rfl,Int.ediv_one]
 split <;> omega
theorem Ao{a b:Int}(h1: -(2 ^ 60)<=a)(h2:a < 2 ^ 60)(h3: -(2 ^ 60)<=b)(h4:b < 2 ^ 60):Builtin.Range.small a b (-1)=true:=by
 unfold Builtin.Range.small;rw[l0];simp only[Builtin.Range.rangeFitsLong,Bool.and_eq_true,Bool.or_eq_true,decide_eq_true_eq,beq_iff_eq];simp;omega
def q_(lo:Int)(n:Nat):List D:=(List.range n).map fun(i:Nat)=>D.int (lo - i)
theorem JC{K:W.Frag}{B:List Addr}(lo:Int)(n:Nat):zF K B H (Pt lo n) (q_ lo n):=fun B' H' _=>by
 refine⟨fun i d hd=>?_,?_⟩
 .unfold q_ at hd;rw[List.getElem?_map] at hd;cases e:(List.range n)[i]? with
  | none=>rw [e] at hd;cases hd
  | some j=>
    rw[e] at hd;cases hd;obtain⟨hi,ej⟩:=List.getElem?_eq_some_iff.mp e;rw[List.getElem_range] at ej;subst ej;rw[List.length_range] at hi;exact⟨hi,fun x kK ⟨e1,e2⟩ _=>by subst e1 e2;exact⟨aI.refl _,Rep.int.mpr rfl⟩⟩
 .show n<=(q_ lo n).length;unfold q_;rw[List.length_map,List.length_range];exact Nat.le_refl _
def BP(f g h:FD):ak->R (List D):=fun δ=>(f δ).bind fun d=>(g δ).bind fun e=>(h δ).bind fun k=>match d,e,k with
 | .int i, .int j, .int m=>R.bg (decide (m= -1/\ -(2 ^ 60)<=i/\i < 2 ^ 60/\ -(2 ^ 60)<=j/\j < 2 ^ 60)) (.ok (q_ i (i - j).toNat)) | _,_,_=> .no
theorem vals3{x y z:V}{us:List Value}(r:Vals [x,y,z] us):∃u v w',us=[u,v,w']/\RelV x u/\RelV y v/\RelV z w':=by
 cases r with
 | cons r1 r2=>obtain⟨v,w',rfl,h1,h2⟩:=vals2 r2;exact⟨_,v,w',rfl,r1,h1,h2⟩
theorem De{tg a b c:Expr}{p pos:Pos}(ha:QD X a f)(hb:QD X b g)(hc:QD X c h)(hg:Gl X "range")(hm:X.mg "range"=none)(hs:starEach [a,b,c] X.env=[(false,eval a X.env),(false,eval b X.env),(false,eval c X.env)]:=by rfl)(Bh:starEach [b,c] X.env=[(false,eval b X.env),(false,eval c X.env)]:=by rfl)(Hj:starEach [c] X.env=[(false,eval c X.env)]:=by rfl) :
 ye X tg (.Call (.Name "range" p) [a,b,c] [] pos) (BP f g h):=by
 refine⟨?_⟩;intro pins s σ H RR I ⟨Z,B,δ,ds,E,hf,q⟩;obtain⟨d,h1,h2⟩:=R.ab hf;obtain⟨e,h3,h4⟩:=R.ab h2;obtain⟨k,h5,h6⟩:=R.ab h4;have hA:=dv ha.1 (dv hb.1 (dv hc.1 gL Hj) (by rw[Bh,Hj])) (by rw[hs,Bh]) pos pins s σ H (fun vs H1=>aI H H1/\∃v v' LX,vs=[v,v',LX]/\Rep X.K B H1 d v/\Rep X.K B H1 e v'/\Rep X.K B H1 k LX) I
  ⟨Z,B,δ,d,E,h1,fun v H1 s1 r1=>⟨Z,B,δ,e,E.same s1,h3,fun v' H2 s2 r2=>⟨Z,B,δ,k,(E.same s1).same s2,h5,fun LX H3 s3 r3=>⟨(s1.trans s2).trans s3,v,v',LX,rfl,(r1.same s2).same s3,r2.same s3,r3⟩⟩⟩⟩
 refine Call_ (ji I hg hm boot_range (PyProof.Rows.callWith_type1 (du hA fun us s1 ⟨vs,H1,I1,r1,ss,v,v',LX,ev,rr,JU,Ow⟩=>?_) (by rw[hs,Bh]) (by rw[Bh];rfl)))
 subst ev;obtain⟨u,u',Uc,rfl,ru,J6,LV⟩:=vals3 r1;obtain⟨i,rfl⟩:∃i,d= .int i:=by cases d <;> first | exact⟨_,rfl⟩ | cases h6
 obtain⟨j,rfl⟩:∃j,e= .int j:=by cases e <;> first | exact⟨_,rfl⟩ | cases h6
 obtain⟨m,rfl⟩:∃m,k= .int m:=by cases k <;> first | exact⟨_,rfl⟩ | cases h6
 .obtain⟨hb,h7⟩:=R.aP h6;cases h7;obtain⟨rfl,b1,b2,b3,b4⟩:=of_decide_eq_true hb;rw[Rep.int.mp rr] at ru;rw[Rep.int.mp JU] at J6;rw[Rep.int.mp Ow] at LV;obtain⟨t,rfl⟩:=ru;obtain⟨t',rfl⟩:=J6;obtain⟨MF,rfl⟩:=LV;refine call_range_3 (by decide) ?_ (Or.inl ?_)
  .refine wpAny_pyIter_range (IsRange.new ..) (Ao b1 b2 b3 b4) ?_;have I2:Inv X pins σ H1 {s1 with heap:=s1.heap.push {cls:= .type "range",data:= .fields #[.int i t, .int j t', .int (-1) MF]},toks:=s1.toks}:=I1.kept fun b o e=>Heap.get?_push_of_some _ e
   refine⟨(s1.heap.push {cls:= .type "range",data:= .fields #[.int i t, .int j t', .int (-1) MF]}).objs.size,[(s1.heap.push {cls:= .type "range",data:= .fields #[.int i t, .int j t', .int (-1) MF]}).objs.size],_,_,H1,rfl,
    I2.kept (t':=s1.toks) fun b o e=>Heap.get?_push_of_some _ e,vR _ i (i - j).toNat,?_,fun b hb=>?_,q _ H1 ss (JC i _)⟩
   .show IsRangeIter _ _ (i+((0:Nat):Int)*(-1)) ((((i - j).toNat:Nat):Int) - ((0:Nat):Int)) (-1);rw[show i+((0:Nat):Int)*(-1)=i by simp,show(((i - j).toNat:Nat):Int) - ((0:Nat):Int)=Builtin.Range.rangeSize i j (-1) by rw[l0];simp]
    exact Heap.get?_push_size _ rfl
   .have e:b=(s1.heap.push {cls:= .type "range",data:= .fields #[.int i t, .int j t', .int (-1) MF]}).objs.size:=by simpa using hb
    subst e;exact I2.pT (Nat.le_refl _) (I2.hok.fresh (Nat.le_refl _))
  .exact PyProof.noPylong_of_log2 (by decide+kernel)
def bls?:List D->Option (List Bool)
 | []=>some []
 | .bl b ::ds=>(bls? ds).map (b ::·)
 | _ ::_=>none
theorem rz{K:W.Frag}{B:List Addr}:∀{ds:List D} {xs:List V} {bs:List Bool},av K B H ds xs->bls? ds=some bs->xs=bs.map V.bl
 | [],xs,bs,r,h=>by unfold av at r;subst r;cases h;rfl
 | d ::ds,xs,bs,r,h=>by
   obtain⟨x,q,rfl,r1,r2⟩:=r.bu;cases d with
   | bl b=>
     have h:(bls? ds).map (b ::·)=some bs:=h
     cases e:bls? ds with
     | none=>rw [e] at h;cases h
     | some cs=>
       rw[e] at h;cases h;rw[Rep.bl.mp r1,rz r2 e];rfl
   | _=>cases h
theorem qb:∀bs:List Bool,bls? (bs.map D.bl)=some bs
 | []=>rfl
 | b ::bs=>by show(bls? (bs.map D.bl)).map (b ::·)=_;rw [qb bs];rfl
theorem ml:∀{bs:List Bool} {us:List Value},Vals (bs.map V.bl) us->us=bs.map Value.bool
 | [],us,h=>by cases h;rfl
 | b ::bs,us,h=>by
   cases h with
   | cons r t=>rw [ml t,show _=Value.bool b from r];rfl
theorem range_all(bs:List Bool):(List.range bs.length).all (fun i=>bs.getD i false)=bs.all id:=by
 rw[Bool.eq_iff_iff];simp only[List.all_eq_true,List.mem_range,id];constructor
 .intro h b hb;obtain⟨i,hi,rfl⟩:=List.getElem_of_mem hb;have:=h i hi;rw[List.getD_eq_getElem?_getD,List.getElem?_eq_getElem hi] at this;exact this
 .intro h i hi;rw[List.getD_eq_getElem?_getD,List.getElem?_eq_getElem hi];exact h _ (List.getElem_mem hi)
theorem range_any(bs:List Bool):(List.range bs.length).any (fun i=>bs.getD i false)=bs.any id:=by
 rw[Bool.eq_iff_iff];simp only[List.any_eq_true,List.mem_range,id];constructor
 .rintro⟨i,hi,h⟩;rw[List.getD_eq_getElem?_getD,List.getElem?_eq_getElem hi] at h;exact⟨_,List.getElem_mem hi,h⟩
 .rintro⟨b,hb,h⟩;obtain⟨i,hi,rfl⟩:=List.getElem_of_mem hb;exact⟨i,hi,by rw[List.getD_eq_getElem?_getD,List.getElem?_eq_getElem hi];exact h⟩
def IP:List D->R D
 | [.lst ds]=>(match bls? ds with | some bs=> .ok (.bl (bs.all id)) | none=> .no)
 | _=> .no
def BQ:List D->R D
 | [.lst ds]=>(match bls? ds with | some bs=> .ok (.bl (bs.any id)) | none=> .no)
 | _=> .no
theorem He{bs:List Bool}{i:Nat}{v:Value}(h:((bs.map Value.bool).toArray)[i]? =some v):v= .bool (bs.getD i false):=by
 rw[List.getElem?_toArray,List.getElem?_map] at h;rw[List.getD_eq_getElem?_getD];cases e:bs[i]? with
 | none=>rw [e] at h;cases h
 | some b=>rw [e] at h;cases h;rfl
theorem K2(hc:X.calm=true):cM X (.builtin "all") IP:=by
 intro pins s σ H B ds d xs us I hb rx rs hg;unfold IP at hg;split at hg
 .split at hg
  .rename_i es bs e;cases hg;obtain⟨x,rfl,r⟩:=rs.one;obtain⟨a,ys,rfl,l,r⟩:=Rep.lst.mp r;obtain⟨u,rfl,ru⟩:=vals1 rx;cases ru;obtain⟨its,n,rv,e1,hz⟩:=I.GV l;rw[rz r e] at rv;obtain rfl:=ml rv;have hl:s.heap.IsList a (bs.map Value.bool).toArray:=⟨_,e1,rfl,n,rfl⟩;have hlt:a < s.heap.objs.size:=Heap.lt_size e1;refine call_all_walk (wpAny_pyIter_list hl ?_);refine⟨_,_,_,_,_,_,fun i=>bs.getD i false,rfl,Walks.list (A:=X.A.in1) (I.ok.hd hc) _ a (Nat.ne_of_lt hlt) _,⟨⟨_,Heap.get?_push_size _ rfl,rfl,rfl⟩,hl.push _⟩,?_,fun h' tk hk=>?_⟩
   .intro i v s Q E hP hQ;rw[He hP];exact wpAny_truthy_bool hQ
   .refine⟨.bl (bs.all id),H,I.kept (old_kept hk),?_,aI.refl H,Rep.bl.mpr rfl⟩;show Value.bool _=Value.bool _;rw[<-range_all];simp
  .cases hg
 .cases hg
theorem Ha(hc:X.calm=true):cM X (.builtin "any") BQ:=by
 intro pins s σ H B ds d xs us I hb rx rs hg;unfold BQ at hg;split at hg
 .split at hg
  .rename_i es bs e;cases hg;obtain⟨x,rfl,r⟩:=rs.one;obtain⟨a,ys,rfl,l,r⟩:=Rep.lst.mp r;obtain⟨u,rfl,ru⟩:=vals1 rx;cases ru;obtain⟨its,n,rv,e1,hz⟩:=I.GV l;rw[rz r e] at rv;obtain rfl:=ml rv;have hl:s.heap.IsList a (bs.map Value.bool).toArray:=⟨_,e1,rfl,n,rfl⟩;have hlt:a < s.heap.objs.size:=Heap.lt_size e1;refine call_any_walk (wpAny_pyIter_list hl ?_);refine⟨_,_,_,_,_,_,fun i=>bs.getD i false,rfl,Walks.list (A:=X.A.in1) (I.ok.hd hc) _ a (Nat.ne_of_lt hlt) _,⟨⟨_,Heap.get?_push_size _ rfl,rfl,rfl⟩,hl.push _⟩,?_,fun h' tk hk=>?_⟩
   .intro i v s Q E hP hQ;rw[He hP];exact wpAny_truthy_bool hQ
   .refine⟨.bl (bs.any id),H,I.kept (old_kept hk),?_,aI.refl H,Rep.bl.mpr rfl⟩;show Value.bool _=Value.bool _;rw[<-range_any];simp
  .cases hg
 .cases hg
end
end L2
end
section
namespace L2
open PySem PySem.Spec PyProof.Rows
section
variable {X:Cx}
def TN:FS:=fun _=> .no
def O9(f:FD):FS:=fun δ=>(f δ).bind fun _=> .ok (.nx δ)
end
end L2
namespace L3
open PySem PySem.Spec PyProof.Rows L2
section
variable {X:Cx} {cl:Uu}
def TH:FZ:=fun _ _=> .no
def Pn(f:ak->R (List D)):FX:=fun δ S=>(R3.of (f (cK S δ)) S).bind fun ds S=>R3.bg (v_ ds) (.ok (.loc S.length) (S++[.lst ds]))
def QW(i:Nat)(f:FX):FZ:=fun δ S=>match jX δ i with
 | none=> .no
 | some k=>match dj S k with
   | none=> .no
   | some _=>(f δ S).bind fun v S1=>match v with
     | .d (.lst es)=>(match dj S1 k with
       | some ds=>R3.bg (decide (ds.length+es.length<=sizeLine)) (.ok (.nx δ) (S1.set k (.lst (ds++es))))
       | none=> .no)
     | _=> .no
end
end L3
end
section
namespace L2
open PySem PySem.Spec PyProof.Rows
section
variable {X:Cx}
theorem Bl{prog:Program}{w:World}{A:Around}{E:Uo}{s:Shared}{t b:Addr}{vs ws:List Value}{Q:Uo}(ht:IsTup s.heap t vs.toArray)(hb:IsTup s.heap b ws.toArray)
 (h0:vs=[]->Q (.ref b) s) (h1:vs≠[]->ws=[]->Q (.ref t) s) (h2:vs≠[]->ws≠[]->Q (.ref s.heap.objs.size) {s with heap:=s.heap.push {cls:= .type "tuple",data:= .seq (vs++ws).toArray}})
 (hsz:vs.length+ws.length<=sizeLine):wpAny (model prog w) A (binaryOp .Add (.ref t) (.ref b)) Q E s:=by
 by_cases hv:vs=[]
 .obtain⟨⟨cls,dd,data,sl⟩,ho,hc,n,hd⟩:=id ht;obtain⟨⟨Ol,Mx,data2,J3⟩,JN,hc2,n2,hd2⟩:=id hb;simp only at hc hd hc2 hd2;subst hc hd hc2 hd2;exact concat_meets ⟨_,ho,rfl⟩ ⟨_,JN,rfl⟩ noFill_tuple_add seq_tuple_add PySem.F.slot_tuple_add PySem.F.entry_tuple_add (PySem.F.args_tuple_add_2 _ _) (tuple_addW0 t b vs.toArray ws.toArray n n2 dd Mx sl J3 (by simp [hv])) ⟨ho,JN,h0 hv⟩
 .exact HT.ES ht hb hv (h1 hv) (h2 hv) hsz
def fF(d e:D):R D:=match d,e with
 | .tup a, .tup b=>R.bg (decide (a.length+b.length<=sizeLine)) (.ok (.tup (a++b)))
 | d,e=>gA d e
theorem tR.fresh{K:W.Frag}{B:List Addr}{H:Hp}{p:Addr}{xs:List V}(hb:∀a∈B,∃o,H a=some o)(hp:H p=none):tR K B (upd H p (.tup xs)) p xs:= .inl ⟨fun ha=>(by obtain⟨o,ho⟩:=hb p ha;rw [hp] at ho;cases ho), .inl aL⟩
theorem iL:jv X (binaryOp .Add) fF:=by
 intro pins s σ H B da db d x y v u I hb rx ry ra rb hg;by_cases ht:∃a b,da= .tup a/\db= .tup b
 .obtain⟨a,b,rfl,rfl⟩:=ht;have hg:R.bg (decide (a.length+b.length<=sizeLine)) (.ok (.tup (a++b)))= .ok d:=hg;obtain⟨h1,h2⟩:=R.aP hg;cases h2;have h1:=of_decide_eq_true h1;have ra':=ra;have rb':=rb;obtain⟨a1,N3,rfl,l1,r1⟩:=Rep.tup.mp ra;obtain⟨a2,Oh,rfl,l2,r2⟩:=Rep.tup.mp rb;cases rx;cases ry;obtain⟨its,P0,p1,_⟩:=I.tuple l1.sq;obtain⟨GI,MB,p2,_⟩:=I.tuple l2.sq;have e1:=P0.length;have e2:=MB.length;have e3:=r1.length;have e4:=r2.length;refine Bl p1 p2 (fun z=>⟨.ref a2,H,I,rfl,aI.refl H,?_⟩) (fun _ z=>⟨.ref a1,H,I,rfl,aI.refl H,?_⟩) (fun _ _=>?_) (by omega)
  .obtain rfl:a=[]:=List.eq_nil_of_length_eq_zero (by rw[e3,e1,z];rfl)
   exact rb'
  .obtain rfl:b=[]:=List.eq_nil_of_length_eq_zero (by rw[e4,e2,z];rfl)
   rw[List.append_nil];exact ra'
  .have hp:H s.heap.objs.size=none:=I.hok.fresh (Nat.le_refl _);refine⟨.ref s.heap.objs.size,_,I.laid (t':=s.toks) (o:= .tup (N3++Oh)) (fun b ob q=>Heap.get?_push_of_some _ q) (Nat.le_refl _) ⟨by rw[List.length_append];omega,_,P0.append MB,IsTup.new _ _⟩,rfl,aC hp,Rep.tup.mpr ⟨_,_,rfl,tR.fresh hb hp,(r1.append r2).same (aC hp)⟩⟩
 .have hg:gA da db= .ok d:=by
   unfold fF at hg;split at hg
   .exact absurd ⟨_,_,rfl,rfl⟩ ht
   .exact hg
  exact jb pins s σ H B da db d x y v u I hb rx ry ra rb hg
theorem ye.or{F F1 F2:ak->R (List D)}(h1:ye X tg e F1)(h2:ye X tg e F2)(h:∀δ ds,F δ= .ok ds->F1 δ= .ok ds\/F2 δ= .ok ds):ye X tg e F:=
 ⟨fun pins s σ H R I ⟨Z,B,δ,ds,E,hf,q⟩=>(h δ ds hf).elim (fun z=>h1.1 pins s σ H R I ⟨Z,B,δ,ds,E,z,q⟩) fun z=>h2.1 pins s σ H R I ⟨Z,B,δ,ds,E,z,q⟩⟩
def zS(f:FD):ak->R (List D):=fun δ=>(f δ).bind fun d=>match d with | .lst ds=> .ok (bO ds) | .tup ds=> .ok (bO ds) | _=> .no
theorem xK{elts:List Expr}{k:Nat}{oY:Pos}{p pos:Pos}(h:QD X a f)(hg:Gl X "enumerate")(hm:X.mg "enumerate"=none)(hs:starEach [a] X.env=[(false,eval a X.env)]:=by rfl):ye X (.Tuple elts k oY) (.Call (.Name "enumerate" p) [a] [] pos) (zS f):=
 ye.or (F1:=ip f) (F2:=uu f) ⟨vZ h.1 hg hm hs⟩ (xU h hg hm hs) fun δ ds hf=>by
  obtain⟨d,h1,h2⟩:=R.ab hf;cases d with
  | lst es=>cases h2;exact .inl (by unfold ip;rw [h1];rfl)
  | tup es=>cases h2;exact .inr (by unfold uu;rw [h1];rfl)
  | _=>cases h2
def Rt(K:W.Frag)(a:Addr)(n:Nat):It:=
 ⟨fun i H=>∃xs x,mZ K H a xs/\xs.length=n/\i < n/\xs[n - 1 - i]? =some x,fun i H v H'=>H'=H/\∀xs,mZ K H a xs->xs[n - 1 - i]? =some v,fun i H=>(∃xs,mZ K H a xs)/\i=n⟩
theorem DP{K:W.Frag}(a it:Addr)(n:Nat):Turn P w K tg (Rt K a n) [it] it (fun i h=>h.IsRevIter it a ((n:Int) - 1 - (i:Int))) where
 mem:=by simp
 obj:=fun i h st b hb=>by
  have e:b=it:=by simpa using hb
  subst e;obtain⟨o,e,c,d⟩:=st;exact⟨o,e,fun v z=>by rw[d] at z;cases z⟩
 keep:=fun i h h' st k=>st.at fun o e=>k it (by simp) o e
 item:=by
  intro X hP hw hK hc i pins s σ H E I hf st hg;subst hP hw hK;obtain⟨xs,x,hq,hn,hi,hx⟩:=hg;obtain⟨its,rv,p,hz⟩:=I.list hq;obtain⟨u,hu,ru⟩:=rv.get hx;obtain⟨f0,f1,f2,f3,f4,f5⟩:=hf it (by simp)
  have e0:(n:Int) - 1 - (i:Int)=((n - 1 - i:Nat):Int):=by omega
  rw[e0] at st;refine wpAny_pyNext_rev_item st p.isList (x:=u) (by simpa using hu) fun h' z_ sb=>?_
  have I1:Inv X pins σ H {s with heap:=h'}:=I.turned (t':=s.toks) (fun b o hb e=>(sb.2 b hb).trans e) f0 f1 f3 f4 f5
  have Eo:h'.IsRevIter it a ((n:Int) - 1 - ((i+1:Nat):Int)):=by
   rw[show((n - 1 - i:Nat):Int) - 1=(n:Int) - 1 - ((i+1:Nat):Int) by omega] at z_;exact z_
  obtain⟨o,e,c,d⟩:=id Eo;exact⟨u,rfl,wQ (s:={s with heap:=h'}) e c d (by decide) ⟨x,H,I1,ru,⟨rfl,fun ys hy=>by rw[I.m8 hy hq];exact hx⟩,Eo,fun b hb=>(hf b hb).1⟩⟩
 done:=by
  intro X hP hw hK hc i pins s σ H E I hf st hg;subst hP hw hK;obtain⟨_,rfl⟩:=hg;obtain⟨f0,f1,f2,f3,f4,f5⟩:=hf it (by simp)
  rw[show(i:Int) - 1 - (i:Int)= -1 by omega] at st
  exact wpAny_pyNext_rev_end (I.ok.hd hc) st fun h' eb=>⟨rfl,I.turned (t':=s.toks) (fun b o hb e=>eb b o hb e) f0 f1 f3 f4 f5⟩
 self:=fun _ _ _ _ _ st h=>wpAny_pyIter_revIter st h
def Hc(f:FD):ak->R (List D):=fun δ=>(f δ).bind fun d=>match d with | .lst ds=> .ok ds.reverse | _=> .no
theorem Du{tg a:Expr}{p pos:Pos}(h:QD X a f)(hg:Gl X "reversed")(hm:X.mg "reversed"=none)(hs:starEach [a] X.env=[(false,eval a X.env)]:=by rfl):ye X tg (.Call (.Name "reversed" p) [a] [] pos) (Hc f):=by
 refine⟨?_⟩;intro pins s σ H RR I ⟨Z,B,δ,ds,E,hf,q⟩;obtain⟨d,h1,h2⟩:=R.ab hf;have hA:=dv h.1 gL hs pos pins s σ H (fun vs H1=>aI H H1/\∃v,vs=[v]/\Rep X.K B H1 d v) I ⟨Z,B,δ,d,E,h1,fun v H1 s1 r1=>⟨s1,v,rfl,r1⟩⟩
 refine Call_ (ji I hg hm boot_reversed (PyProof.Rows.callWith_type1 (du hA fun us s1 ⟨vs,H1,I1,r1,ss,v,ev,rr⟩=>?_) hs rfl))
 subst ev;obtain⟨u,rfl,ru⟩:=vals1 r1;cases d with
 | lst es=>
   cases h2;obtain⟨b,xs,rfl,l,rs⟩:=Rep.lst.mp rr;cases ru;obtain⟨its,rv,pl,hz⟩:=I1.list l.sq;have e1:=rv.length;have e2:=rs.length;refine call_reversed_list pl.isList (wpAny_pyIter_revIter (i:=(its.toArray.size:Int) - 1) ⟨_,Heap.get?_push_size _ rfl,rfl,rfl⟩ ?_);refine⟨s1.heap.objs.size,[s1.heap.objs.size],_,_,H1,rfl,I1.kept (t':=s1.toks) fun b o e=>Heap.get?_push_of_some _ e,DP b _ es.length,?_,fun c hc=>?_,q _ H1 ss fun B' H' pr=>?_⟩
   .refine⟨_,Heap.get?_push_size _ rfl,rfl,?_⟩;show Data.fields #[.ref b,rawInt ((its.toArray.size:Int) - 1)]=Data.fields #[.ref b,rawInt ((es.length:Int) - 1 - ((0:Nat):Int))];rw[List.size_toArray,<-e1,<-e2,show((es.length:Nat):Int) - 1 - ((0:Nat):Int)=(es.length:Int) - 1 by omega]
   .have e:c=s1.heap.objs.size:=by simpa using hc
    subst e;exact I1.pT (Nat.le_refl _) (I1.hok.fresh (Nat.le_refl _))
   .have l':rY X.K B' H' b xs:=l.aU pr;have rs':=rs.aU pr;refine⟨fun i d hd=>?_,⟨xs,l'.sq⟩,by rw[List.length_reverse]⟩
    have hi:i < es.length:=by have:=(List.getElem?_eq_some_iff.mp hd).1;rwa [List.length_reverse] at this
    rw[List.getElem?_reverse hi] at hd;obtain⟨x,hx,rx⟩:=rs'.get hd;refine⟨⟨xs,x,l'.sq,e2.symm,hi,hx⟩,fun v kK yl DZ=>?_⟩
    obtain⟨rfl,hy⟩:=yl;have xt:=hy xs l'.sq;rw[hx] at xt;cases xt;exact⟨aI.refl _,rx⟩
 | _=>cases h2
def uS(K:W.Frag)(C:Addr)(m qual:Str)(st:Stmt):Prop:=∃f fd,zk K m qual st f fd/\Meth K C m f
def Ay(K:W.Frag)(C:Addr)(m qual:Str)(st:Stmt):Prop:=∃f fd,zk K m qual st f fd/\Mk K C f
end
end L2
namespace L3
open PySem PySem.Spec PyProof.Rows L2
section
variable {X:Cx} {cl:Uu}
theorem lu.p{K:W.Frag}{mg:Ut}{cl:Uu}{k c:Nat}{n:Nat}{N:List Str}(C:lu P w K mg base cl k c m n (nK N F)):lu P w K mg base cl k c m n (nS N F):=
 let⟨f,fd,ps,c1,c2,F,h⟩:=C;⟨f,fd,ps,c1,c2,F.imp fun _ _ _ _ h=>yk h,h⟩
end
end L3
end
section
namespace L2
open PySem PySem.Spec PyProof.Rows
section
variable {X:Cx}
def RA(f:FD):ak->R (List D):=fun δ=>(f δ).bind fun d=>match d with | .int j=>R.bg (decide (-(2 ^ 62)<=j/\j < 16777216)) (.ok (gI 0 j.toNat)) | _=> .no
def QZ(f:FD):FD:=fun δ=>(f δ).bind fun d=>match d with | .lst ds=> .ok (.lst ds.reverse) | _=> .no
end
end L2
end
section
namespace L2
open PySem PySem.Spec PyProof.Rows
section
variable {X:Cx}
def Q8(K:W.Frag)(n:Nat)(t:BG):TG:=fun v σ H Q=>∃a xs,v= .ref a/\mZ K H a xs/\xs.length=n/\t xs σ H Q
end
end L2
namespace L3
open PySem PySem.Spec PyProof.Rows L2
section
variable {X:Cx} {cl:Uu}
def TV(n:Nat)(t:Gk):FG:=fun d δ=>match d with
 | .d (.lst ds)=>if ds.length=n then t (ds.map .d) δ else none
 | .lst vs=>if vs.length=n then t vs δ else none
 | _=>none
def Hm(f g:FX):FA:=fun δ S=>(aA f (aA g cB) δ S).bind fun vs S1=>match vs with
 | [.d d, .d e]=>(match seqD? d,seqD? e with | some ds,some es=> .ok ((xj ds es).map .d) S1 | _,_=> .no)
 | _=> .no
theorem Gp{elts:List Expr}{k:Nat}{oY:Pos}{p pos:Pos}(h:PX X cl a f)(h':PX X cl b g)(hg:Gl X "zip")(hm:X.mg "zip"=none)(hs:starEach [a,b] X.env=[(false,eval a X.env),(false,eval b X.env)]:=by rfl)(Bh:starEach [b] X.env=[(false,eval b X.env)]:=by rfl) :
 Fe X cl (.Tuple elts k oY) (.Call (.Name "zip" p) [a,b] [] pos) (Hm f g):=by
 refine⟨?_⟩;intro pins s σ H RR I ⟨ρ,S,δ,vs,S',E,hf,q⟩;obtain⟨ws,S1,h1,h2⟩:=R3.ab hf;have hA:=(ai h (ai h' aO Bh) (by rw[hs,Bh])).1 pos pins s σ H (fun us H1=>∃bh,Pre ρ H bh H1/\SW X.K cl bh H1 S1/\au X.K bh H1 ws us) I
  ⟨ρ,S,δ,ws,S1,E,h1,fun us bh H1 p1 w1 r1=>⟨bh,p1,w1,r1⟩⟩
 refine Call_ (ji I hg hm boot_zip (PyProof.Rows.callWith_type1 (du hA fun us s1 ⟨xs,H1,I1,r1,bh,p1,w1,rr⟩=>?_) (by rw[hs,Bh]) (by rw[Bh];rfl)))
 rcases hsh:ws with _ | ⟨w0,_ | ⟨w2,_ | ⟨w3,wr⟩⟩⟩ <;> subst hsh
 .cases h2
 .cases w0 <;> cases h2
 .rcases w0 with d | _ | _ | _ <;> rcases w2 with e | _ | _ | _ <;> try (cases h2;done)
  have h2:(match seqD? d,seqD? e with | some ds,some es=>R3.ok ((xj ds es).map V3.d) S1 | _,_=> .no)= .ok vs S':=h2
  cases e1:seqD? d with
  | none=>rw [e1] at h2;cases h2
  | some ls=>
    cases e2:seqD? e with
    | none=>rw [e1,e2] at h2;cases h2
    | some ms=>
      rw[e1,e2] at h2;cases h2;obtain⟨v,ys,ev,ra,rr⟩:=rr.bu;obtain⟨v',zs,Bb,rb,rr⟩:=rr.bu;unfold au at rr;subst rr Bb ev;obtain⟨u,u',rfl,ru,J6⟩:=vals2 r1;unfold aK at ra rb;obtain⟨t,a,xs,rfl,k1⟩:=ra.EE e1;obtain⟨w,b,ys,rfl,k2⟩:=rb.EE e2;cases ru;cases J6;obtain⟨its,rv,pp⟩:=I1.EE (k1 bh.b H1 (cZ.refl _ H1)).1;obtain⟨jts,Es,PY⟩:=I1.EE (k2 bh.b H1 (cZ.refl _ H1)).1;have la:=pp.lt;have lb:=PY.lt;refine AM pp PY fun fA hz yQ z9 R8 Ss kk=>wpAny_pyIter_zip hz ?_
      have I2:Inv X pins σ H1 {s1 with heap:=fA}:=I1.kept (t':=s1.toks) kk
      refine⟨s1.heap.objs.size+4,[s1.heap.objs.size+4,s1.heap.objs.size+2,s1.heap.objs.size+3,s1.heap.objs.size,s1.heap.objs.size+1],_,_,H1,rfl,I2,Cq (t:=t) (u:=w) (zipApart_new la lb),⟨hz,yQ,⟨_,_,z9⟩,R8,Ss⟩,fun c hc=>?_,q _ bh H1 p1 w1 (JD.of fun B' H' pr=>?_)⟩
      .have hle:s1.heap.objs.size<=c:=by
        simp only[List.mem_cons,List.not_mem_nil,or_false] at hc;rcases hc with rfl | rfl | rfl | rfl | rfl <;> omega
       exact I1.pT hle (I1.hok.fresh hle)
      .obtain⟨l1,PM⟩:=k1 B' H' pr;obtain⟨l2,PV⟩:=k2 B' H' pr;refine⟨fun i d hd=>?_,⟨xs,ys,l1,l2,?_⟩⟩
       .unfold xj at hd;rw[List.getElem?_map] at hd;cases ez:(ls.zip ms)[i]? with
        | none=>rw [ez] at hd;cases hd
        | some pr'=>
          rw[ez] at hd;have hd:D.tup [pr'.1,pr'.2]=d:=Option.some.inj hd;obtain⟨ea,eb⟩:=List.getElem?_zip_eq_some.mp ez;obtain⟨x,hx,rx⟩:=PM.get ea;obtain⟨y,hy,ry⟩:=PV.get eb;refine⟨⟨xs,ys,x,y,l1,l2,hx,hy⟩,fun v kK yl DZ=>?_⟩
          obtain⟨p,x2,y2,hp,rfl,J5,xt,rfl⟩:=yl;refine⟨aC hp,?_⟩;subst hd;have J5:=J5 xs l1;have xt:=xt ys l2;rw[hx] at J5;cases J5;rw[hy] at xt;cases xt;refine Rep.tup.mpr ⟨p,_,rfl, .inl ⟨fun ha=>?_, .inl aL⟩,av.cons (rx.same (aC hp)) (av.cons (ry.same (aC hp)) av.nil)⟩
          obtain⟨o,ho⟩:=DZ p ha;rw[hp] at ho;cases ho
       .rw [<-PM.length,<-PV.length];unfold xj;rw[List.length_map,List.length_zip];omega
 .cases w0 <;> cases w2 <;> cases h2
theorem KZ{f g:FX}{δ:DE}{S:aD}{Q:List V3->aD->Prop}(h:W3 (f δ S) fun v S1=>W3 (g δ S1) fun w S2=>∃d e ds es,v= .d d/\w= .d e/\seqD? d=some ds/\seqD? e=some es/\Q ((xj ds es).map .d) S2):W3 (Hm f g δ S) Q:=
 W3.bind (W3.bind (h.mono fun v S1 h2=>W3.bind (W3.bind (h2.mono fun w S2 ⟨d,e,ds,es,e1,gY,e3,e4,q⟩=>by
  subst e1 gY;exact W3.bind (W3.ok (W3.ok (W3.ok (by simp only[e3,e4];exact W3.ok q))))))))
def mX(S:aD):Prop:=∀o∈S,mR S.length o=true
theorem Flat.Rm{S:aD}(h:Flat S):mX S:=fun o ho=>h o ho _
theorem GQ{N:List Str}{vs:List V3}{S:aD}{QV:V3->aD->Prop}(h:W3 (nK N F vs S) fun v S1=>(∀o∈S1.take S.length,mR S.length o=true)/\eL S.length v=true/\∃d,res S1 v=some d/\QV (.d d) (S1.take S.length)):W3 (nS N F vs S) QV:=
 W3.bind (h.mono fun v S1 ⟨hl,hg,d,e,q⟩=>by
  rw[e];exact W3.wh (by rw[List.all_eq_true.mpr hl,hg];rfl) (W3.ok q))
theorem l4{N:List Str}{vs:List V3}{S:aD}{QV:V3->aD->Prop}(hS:mX S)(h:W3 (nK N F vs S) fun v S1=>eL S.length v=true/\(∃T,S1=S++T)/\∃d,res S1 v=some d/\QV (.d d) S):W3 (nS N F vs S) QV:=
 GQ (h.mono fun v S1 ⟨hg,⟨T,e1⟩,d,e,q⟩=>by
  subst e1;rw[List.take_append_of_le_length (Nat.le_refl _),List.take_length];exact⟨hS,hg,d,e,q⟩)
end
end L3
end
section
namespace L2
open PySem PySem.Spec PyProof.Rows
section
variable {X:Cx}
def ois?:List D->Option (List (Option Int))
 | []=>some []
 | .int i ::ds=>(ois? ds).map (some i ::·)
 | .bQ ::ds=>(ois? ds).map (none ::·)
 | _ ::_=>none
def TZ:Option Int->V | some i=> .int i | none=> .bQ
def QK(d e:D):R Bool:=match d,e with
 | .bQ, .lst ds=>(match ois? ds with | some ss=> .ok (ss.any (·.isNone)) | none=> .no)
 | _,_=> .no
def QL(d e:D):R D:=(QK d e).bind fun b=> .ok (.bl b)
end
end L2
end
section
namespace L2
open PySem PySem.Spec PyProof.Rows
section
variable {X:Cx}
def NH(d:D)(ds:List D):R D:=match d,ds with
 | .lst es,[.int k]=>(match ints? es with | some ss=> .ok (.int (ss.count k:Nat)) | none=> .no)
 | _,_=> .no
end
end L2
end
section
namespace L2
open PySem PySem.Spec PyProof.Rows
section
variable {X:Cx}
abbrev Fm:D->D->R D:=vx (fun i j=>decide (0<=j/\j < 1000/\ -1000 < i/\i < 1000)) fun i j=>i*2 ^ j.toNat
theorem Kq:jv X (binaryOp .LShift) Fm:=za HX fun i j h=>by
 have:=of_decide_eq_true h;exact⟨this.1,by omega,by omega⟩
def Pp(d e:D):R D:=match d,e with | .bl a, .bl b=> .ok (.bl (a !=b)) | _,_=> .no
end
end L2
namespace L3
open PySem PySem.Spec PyProof.Rows L2
section
variable {X:Cx} {cl:Uu}
def Pz(fo f:FX):FZ:=fun δ S=>(fo δ S).bind fun o S0=>match o with
 | .loc k=>(match dj S0 k with
   | none=> .no
   | some _=>(f δ S0).bind fun v S1=>match v with
     | .d d=>(match dj S1 k with | some ds=>R3.bg (decide (ds.length < sizeLine)) (.ok (.nx δ) (S1.set k (.lst (ds++[d])))) | none=> .no)
     | _=> .no)
 | _=> .no
def B6(f:FX):FA:=fun δ S=>(aA f cB δ S).bind fun vs S1=>match vs with
 | [.d (.lst ds)]=> .ok ((bO ds).map .d) S1
 | _=> .no
theorem BN{elts:List Expr}{k:Nat}{oY:Pos}{p pos:Pos}(h:PX X cl a f)(hg:Gl X "enumerate")(hm:X.mg "enumerate"=none)(hs:starEach [a] X.env=[(false,eval a X.env)]:=by rfl) :
 Fe X cl (.Tuple elts k oY) (.Call (.Name "enumerate" p) [a] [] pos) (B6 f):=by
 refine⟨?_⟩;intro pins s σ H RR I ⟨ρ,S,δ,vs,S',E,hf,q⟩;obtain⟨ws,S1,h1,h2⟩:=R3.ab hf;have hA:=(ai h aO hs).1 pos pins s σ H (fun us H1=>∃bh,Pre ρ H bh H1/\SW X.K cl bh H1 S1/\au X.K bh H1 ws us) I
  ⟨ρ,S,δ,ws,S1,E,h1,fun us bh H1 p1 w1 r1=>⟨bh,p1,w1,r1⟩⟩
 refine Call_ (ji I hg hm boot_enumerate (PyProof.Rows.callWith_type1 (du hA fun us s1 ⟨xs,H1,I1,r1,bh,p1,w1,rr⟩=>?_) hs rfl))
 split at h2
 .rename_i es _;cases h2;obtain⟨v,ys,ev,ra,rr⟩:=rr.bu;unfold au at rr;subst rr ev;obtain⟨u,rfl,ru⟩:=vals1 r1;unfold aK at ra;obtain⟨b,xs,rfl,l,rs⟩:=Rep.lst.mp ra;cases ru;obtain⟨its,n,rv,e1,hz⟩:=I1.GV l;refine call_enumerate_list (items:=its.toArray) ⟨_,e1,rfl,n,rfl⟩ fun h' he hit hsz kk=>wpAny_pyIter_enum he ?_
  have I2:Inv X pins σ H1 {s1 with heap:=h'}:=I1.kept (t':=s1.toks) kk
  refine⟨s1.heap.objs.size+1,[s1.heap.objs.size+1,s1.heap.objs.size],_,_,H1,rfl,I2,tm b (s1.heap.objs.size+1) s1.heap.objs.size (Nat.succ_ne_self _),⟨⟨_,he⟩,hit⟩,fun c hc=>?_,q _ bh H1 p1 w1 (JD.of fun B' H' pr=>?_)⟩
  .have hle:s1.heap.objs.size<=c:=by
    rcases List.mem_cons.mp hc with z | hc
    .rw [z];exact Nat.le_succ _
    .have z:c=s1.heap.objs.size:=by simpa using hc
     rw[z];exact Nat.le_refl _
   exact I1.pT hle (I1.hok.fresh hle)
  .have l':rY X.K B' H' b xs:=l.aU pr;have rs':=rs.aU pr;refine⟨fun i d hd=>?_,⟨xs,l'.sq,by rw[<-rs.length];unfold bO;simp⟩⟩
   unfold bO at hd;rw[List.getElem?_map,List.getElem?_zipIdx] at hd;cases e:es[i]? with
   | none=>rw [e] at hd;cases hd
   | some d0=>
     rw[e] at hd;have hd:D.tup [.int ((0+i:Nat):Int),d0]=d:=Option.some.inj hd;rw[Nat.zero_add] at hd;obtain⟨x,hx,rx⟩:=rs'.get e;refine⟨⟨xs,x,l'.sq,hx⟩,fun v kK y DZ=>?_⟩
     obtain⟨p,y,hp,rfl,hy,rfl⟩:=y;refine⟨aC hp,?_⟩;subst hd;have xt:=hy xs l'.sq;rw[hx] at xt;cases xt;refine Rep.tup.mpr ⟨p,_,rfl, .inl ⟨fun ha=>?_, .inl aL⟩,av.cons (Rep.int.mpr rfl) (av.cons (rx.same (aC hp)) av.nil)⟩
     obtain⟨o,ho⟩:=DZ p ha;rw[hp] at ho;cases ho
 .cases h2
theorem Ji{f:FX}{δ:DE}{S:aD}{Q:List V3->aD->Prop}(h:W3 (f δ S) fun v S1=>∃ds,v= .d (.lst ds)/\Q ((bO ds).map .d) S1):W3 (B6 f δ S) Q:=
 W3.bind (W3.bind (h.mono fun v S1 ⟨ds,e1,q⟩=>by
  subst e1;exact W3.bind (W3.ok (W3.ok (W3.ok q)))))
end
end L3
end
section
namespace L2
open PySem PySem.Spec PyProof.Rows
section
variable {X:Cx}
end
end L2
end
section
namespace L3
open PySem PySem.Spec PyProof.Rows L2
section
variable {cl:Uu}
def Ng(it:FA)(t:FG)(c:FB)(f:FX)(own:List Str)(kp:List Nat):FX:=fun δ S=>(it δ S).bind fun vs S1=>R3.bg (decide (vs.length<=sizeLine)) ((kU t c f (ma own kp δ) vs S1).bind fun ys S2=>match pK ys with | some ds=> .ok (.loc S2.length) (S2++[.lst ds]) | none=> .no)
end
section
variable {X:Cx} {cl:Uu}
end
end L3
end
section
namespace L3
open PySem PySem.Spec PyProof.Rows L2
section
variable {X:Cx} {cl:Uu}
def NI(g:List D->R D)(fs:FA):FX:=fun δ S=>(fs δ S).bind fun vs S1=>match wD S1 vs with
 | some ds=>(R3.of (g ds) S1).bind fun d S=>R3.bg (vH d) (.ok (.d d) S)
 | none=> .no
end
end L3
end
section
namespace L2
open PySem PySem.Spec PyProof.Rows
section
variable {X:Cx}
def QM(f:FD):FD:=fun δ=>(f δ).bind fun d=>match d with | .int i=> .ok (.int (-i - 1)) | _=> .no
def Qy(d:D)(lo hi:Option Int):R D:=match d with
 | .tup ds=>R.bg (decide (¬(HT.qd ds.length 0 lo=0/\HT.qd ds.length ds.length hi=ds.length))) (.ok (.tup (cutD ds lo hi)))
 | _=> .no
def Qf(f:FD)(fl fh:FO):FD:=fun δ=>(f δ).bind fun d=>(fl δ).bind fun lo=>(fh δ).bind fun hi=>Qy d lo hi
end
end L2
namespace L3
open PySem PySem.Spec PyProof.Rows L2
section
variable {X:Cx} {cl:Uu}
structure Mj (X:Cx) (cl:Uu) (st:List Stmt) (F:FZ):Prop where
 go:uT X st (fun D σ H=>D.ct=D.nx/\sX X.K cl F D σ H)
theorem Jm{st:List Stmt}(h:AF X cl st F):Mj X cl st F:=⟨h.1.imp fun D σ H z=>z.2⟩
theorem BF{rest:List Stmt}(hc:C2 X cl c fc)(h2:Mj X cl rest G):Mj X cl (.If c [.Continue N5] [] pos ::rest) (yG fc nO G):=
 ⟨(rN (Dv hc.1 (u_ we) vb) h2.1).imp fun D σ H ⟨ec,ρ,S,δ,o,S',E,hf,q⟩=>by
   obtain⟨k,S1,h1,h2⟩:=R3.ab hf;refine⟨ρ,S,δ,k,S1,E,h1,fun bh H1 p1 w1=>?_⟩
   cases k with
   | true=>
     rw[if_pos rfl] at h2;cases h2;refine AV ?_;show D.ct σ H1;rw[ec];exact q σ bh H1 p1 (E.to p1 w1)
   | false=>rw [if_neg (by decide)] at h2;exact Aj ⟨ec,bh,S1,δ,o,S',E.to p1 w1,h2,q.pre p1⟩⟩
theorem EJ{tg iter:Expr}{body:List Stmt}{it:FA}{t:FG}{F:FZ}{pos:Pos}(hp:PassesOwn (model X.prog X.w) X.A X.env X.xe)(hc:X.calm=true)(hi:Fe X cl tg iter it)(hg:Hf X cl tg t)(hb:Mj X cl body F)
 (hs:∀x,foldedSetIterable iter X.env x=pure x:=by intro _;rfl):PZ X cl (.For tg iter body [] pos) (iZ it t F):=⟨(yh hp hc hi.1 hg.1 hb.1 hs).imp fun D σ H ⟨ρ,S,δ,o,S',E,hf,q⟩=>by
 obtain⟨ds,S0,h1,h2⟩:=R3.ab hf;refine⟨ρ,S,δ,ds,S0,E,h1,fun J bh H1 p1 w1 ir=>?_⟩
 refine⟨fun i m cj H'=>m=ds.length - i/\i<=ds.length/\∃bW S1 dr,Pre bh H1 bW H'/\dX X.K cl bW H' S1 cj dr/\i4 t F (ds.drop i) dr S1= .ok o S',⟨ds.length,rfl,Nat.zero_le _,bh,S0,δ,Pre.refl bh H1,E.to p1 w1,by simpa using h2⟩,?_⟩
 rintro i m cj H' ⟨rfl,hi,bW,S1,dr,pv,E',hl⟩;obtain⟨go,stop⟩:=ir bW H' pv.pw E'.sw.bs;by_cases hlt:i < ds.length
 .have hd:ds[i]? =some ds[i]:=List.getElem?_eq_getElem hlt;have hdrop:ds.drop i=ds[i] ::ds.drop (i+1):=List.drop_eq_getElem_cons hlt;rw[hdrop] at hl;unfold i4 at hl;split at hl
  .cases hl
  .rename_i cz h3;obtain⟨o1,S2,h5,h6⟩:=R3.ab hl;obtain⟨g1,g2⟩:=go i _ hd;refine .inr ⟨g1,fun rS H2=>∃lD S2 d7,Pre bh H1 lD H2/\dX X.K cl lD H2 S2 rS d7/\i4 t F (ds.drop (i+1)) d7 S2= .ok o S',fun rS H2 n=>⟨ds.length - (i+1),by omega,rfl,hlt,n⟩,fun x kK y=>?_⟩
   obtain⟨ss,rr⟩:=g2 x kK y;refine⟨bW,S1,dr,ds[i],cz,E'.same ss,rr,h3,fun rS H2 s2 E2=>⟨rfl,bW,S1,cz,o1,S2,E2,h5,?_⟩⟩
   have pv2:Pre bh H1 bW H2:=pv.trans (Pre.same (ss.trans s2));cases o1 with
   | nx d7=>exact fun xm pF H3 p3 E3=>⟨pF,S2,d7,pv2.trans p3,E3,h6⟩
   | rt d=>
     cases h6;exact fun v pF H3 p3 w r=>q v pF H3 (p1.trans (pv2.trans p3)) w r
 .have e:i=ds.length:=by omega
  subst e;rw[List.drop_length] at hl;cases hl;exact .inl ⟨stop,q cj bW H' (p1.trans pv) E'⟩⟩
end
end L3
end
section
namespace L2
open PySem PySem.Spec PyProof.Rows
end L2
namespace L3
open PySem PySem.Spec PyProof.Rows L2
section
variable {X:Cx} {cl:Uu}
def Qw(i:Nat)(f:FX):FX:=fun δ S=>match jX δ i with
 | none=> .no
 | some k=>match dj S k with
   | none=> .no
   | some _=>(f δ S).bind fun v S1=>match v with
     | .d (.int j)=>(match dj S1 k with
       | some ds=>(match yb ds.length j with
         | some p=>(match ds[p]? with | some d=>R3.bg (decide (-(2 ^ 63)<=j/\j < 2 ^ 63)) (.ok (.d d) (S1.set k (.lst (ds.eraseIdx p)))) | none=> .no)
         | none=> .no)
       | none=> .no)
     | _=> .no
end
end L3
end
section
namespace L3
open PySem PySem.Spec PyProof.Rows L2
section
variable {X:Cx} {cl:Uu}
theorem au.drop{K:W.Frag}:∀{ds:List V3} {xs:List V} (n:Nat),au K ρ H ds xs->au K ρ H (ds.drop n) (xs.drop n)
 | ds,xs,0,r=>by rw[List.drop_zero,List.drop_zero];exact r
 | [],xs,n+1,r=>by unfold au at r;subst r;exact au.nil
 | d ::ds,xs,n+1,r=>by
   obtain⟨x,r',rfl,_,h2⟩:=r.bu;exact h2.drop n
theorem au.take{K:W.Frag}:∀{ds:List V3} {xs:List V} (n:Nat),au K ρ H ds xs->au K ρ H (ds.take n) (xs.take n)
 | ds,xs,0,r=>by rw[List.take_zero,List.take_zero];exact au.nil
 | [],xs,n+1,r=>by unfold au at r;subst r;exact au.nil
 | d ::ds,xs,n+1,r=>by
   obtain⟨x,r',rfl,h1,h2⟩:=r.bu;exact au.cons h1 (h2.take n)
def IH(f:FX)(fl fh:Ek):FX:=fun δ S=>(f δ S).bind fun v S1=>(fl δ S1).bind fun lo S2=>(fh δ S2).bind fun hi S3=>match v with
 | .lst vs=> .ok (.lst (L2.cutD vs lo hi)) S3
 | _=> .no
theorem Jt{lo hi:Option Expr}{fl fh:Ek}(he:PX X cl e f)(hl:JZ X cl lo fl)(hh:JZ X cl hi fh):PX X cl (.Subscript e (.Slice lo hi none p2) pos) (IH f fl fh):=by
 refine⟨(rE (yn.or uK) he.1 hl.1 hh.1).imp fun σ H Q ⟨ρ,S,δ,v,S',E,hf,q⟩=>?_⟩
 obtain⟨v1,S1,h1,h2⟩:=R3.ab hf;obtain⟨l,S2,h3,h4⟩:=R3.ab h2;obtain⟨h,S3,h5,h6⟩:=R3.ab h4;refine⟨ρ,S,δ,v1,S1,E,h1,fun u1 bh H1 p1 w1 r1=>⟨bh,S1,δ,l,S2,E.to p1 w1,h3,fun lD H2 p2 w2=>⟨lD,S2,δ,h,S3,(E.to p1 w1).to p2 w2,h5,fun pF H3 p3 w3=>?_⟩⟩⟩
 have pA:Pre ρ H pF H3:=p1.trans (p2.trans p3);have lZ:=r1.pre (p2.trans p3);split at h6
 .rename_i vs;cases h6;unfold aK at lZ;obtain⟨a,xs,rfl,ls,rs⟩:=lZ;refine .inr ⟨a,xs,rfl,ls.sq,fun p hp=>q _ pF _ (pA.trans (i5 hp)) (w3.same (aC hp)) ?_⟩
  unfold aK;refine⟨p,_,rfl, .mi aL fun ha=>?_,?_⟩
  .obtain⟨o,ho⟩:=w3.bs p ha;rw[hp] at ho;cases ho
  .unfold L2.cutD;rw[rs.length];exact((rs.drop _).take _).pre (i5 hp)
 .cases h6
theorem Ln{f:FX}{fl fh:Ek}{δ:DE}{S:aD}{QV:V3->aD->Prop}(h:W3 (f δ S) fun v S1=>W3 (fl δ S1) fun lo S2=>W3 (fh δ S2) fun hi S3=>∃vs,v= .lst vs/\QV (.lst (L2.cutD vs lo hi)) S3):W3 (IH f fl fh δ S) QV:=
 W3.bind (h.mono fun _ _ h=>W3.bind (h.mono fun _ _ h=>W3.bind (h.mono fun _ _ ⟨vs,e,q⟩=>by subst e;exact W3.ok q)))
end
end L3
end
section
namespace L2
open PySem PySem.Spec PyProof.Rows
section
variable {X:Cx}
theorem Gn{n:Int}{v:Value}(h:(c0 P w).is (.inl n) v=true):∃t,v= .int n t:=by
 have h:rA (.inl n) v=true:=h;rcases cv h with⟨i,t,e1,e2⟩ | ⟨x,t,e1,_⟩
 .cases e1;exact⟨t,e2⟩
 .cases e1
theorem wY:∀{ns:List Int} {us:List Value},us.length=ns.length->(∀(j:Nat) (v:Value) (n:Int),us[j]? =some v->ns[j]? =some n->∃t,v=Value.int n t)->Vals (ns.map V.int) us
 | [],[],_,_=> .nil
 | [],_ ::_,h,_=>by simp at h
 | _ ::_,[],h,_=>by simp at h
 | n ::ns,u ::us,h,hv=> .cons (hv 0 u n rfl rfl) (wY (by simpa using h) fun j v m h1 h2=>hv (j+1) v m h1 h2)
theorem Cv{κ:Type}:∀{kvs:List (κ × V)} {vs:List (κ × Value)},KV kvs vs->vs.map (·.1)=kvs.map (·.1)
 | [],_, .nil=>rfl
 | _ ::_,_, .cons h t=>by rw[List.map_cons,List.map_cons,Cv t,h.1]
theorem gather{P:Program}{w:World}{B:Around}{E:Uo}{z:Shared}{ty:String}{src own:Addr}{len:Nat}{it:Nat->Value->Prop}{ok:Heap->Prop}{Y:List Value->Shared->Prop}(G:PySem.W.KdlSrc P w ty src own len it ok)(nh:B.handled=none)(o0:ok z.heap)(few:len<=sizeLine)
 (fin:∀(g:Heap) (tk:Nat) (xs:Array Value),z.heap.objs.size < g.objs.size->(∀b o,z.heap.get? b=some o->g.get? b=some o)->ItemsOf it xs len->Y xs.toList {z with heap:=g,toks:=tk}):wpAny (model P w) B (collect (.ref src)) Y E z:=by
 obtain⟨l1,l2⟩:=G.there _ o0
 let z1:Shared:={z with heap:=z.heap.push {cls:= .type "list",data:= .seq ([]:List Value).toArray}}
 let Fn:Result->Shared->Prop:=fun q y=>∃g tk xs c,q= .ok (.ret (.ref z.heap.objs.size))/\y={z with heap:=g,toks:=tk}/\(∀b o,z.heap.get? b=some o->g.get? b=some o)/\g.get? z.heap.objs.size=some {cls:= .type "list",dict:=none,data:= .seq xs c,slots:=#[]}/\ItemsOf it xs len
 have mid:wpAny (model P w) B.in1 (Builtin.List.listExtendWith (.ref z.heap.objs.size) (.ref src) (.ref z.heap.objs.size)) (fun q y=>match q with | .done f=>Fn (.ok f) y | .again c=>c.quiet=true/\codeAny (model P w) B c Fn y) (fun e y=>Fn (.error e) y) z1:=
  PySem.W.kdl_extend (s:=z1) (R:=Fn) G nh (G.keep _ _ o0 fun b _ o e=>Heap.get?_push_of_some _ e) _ (Nat.ne_of_gt l1) (Nat.ne_of_gt l2) _ 0 (Heap.get?_push_size _ rfl)
   (fun g tk xs c hk hg hi=>⟨g,tk,xs,c,rfl,rfl,fun b o e=>hk b o (Nat.ne_of_lt (Heap.lt_size e)) (Heap.get?_push_of_some _ e),hg,hi⟩) few
 have out:∀q y,Fn q y->q= .ok (.ret (.ref z.heap.objs.size))/\∃g tk xs c,y={z with heap:=g,toks:=tk}/\g.get? z.heap.objs.size=some {cls:= .type "list",dict:=none,data:= .seq xs c,slots:=#[]}/\Y xs.toList {z with heap:=g,toks:=tk}:=fun q y ⟨g,tk,xs,c,e1,e2,hk,hg,hi⟩=>⟨e1,g,tk,xs,c,e2,hg,fin g tk xs (Heap.lt_size hg) hk hi⟩
 unfold collect;refine wpAny_bind (wpAny_runValue (codeAny_builtin entry_proto_collect' ?_));rw[Around.under_plainId PySem.F.plain_proto_collect _];refine wpAny_bind (m:=newList []) (wpAny_newObj_type (wpAny_pure ⟨plainId_quiet PySem.F.plain_list_iadd _,codeAny_builtin entry_list_iadd' ?_⟩));rw[Around.under_plainId PySem.F.plain_list_iadd _];refine wpAny_mono mid (fun q y hq=>?_) fun e y he=>?_
 .cases q with
  | done f=>
    obtain⟨e1,g,tk,xs,c,rfl,hg,hy⟩:=out _ _ hq;cases e1;exact wpAny_bind (wpAny_load hg (wpAny_pure hy))
  | again c=>
    refine⟨hq.1,codeAny_mono hq.2 fun q y hq=>?_⟩
    obtain⟨rfl,g,tk,xs,c,rfl,hg,hy⟩:=out _ _ hq;exact wpAny_bind (wpAny_load hg (wpAny_pure hy))
 .obtain⟨e1,_⟩:=out _ _ he;cases e1
def Jn:List V->Hp->VK->Prop:=fun xs H Q=>∃a kvs ns,xs=[V.ref a]/\H a=some (.dK kvs)/\kvs.map (·.1)=ns.map Sum.inl/\ns.length < 64/\∀p,H p=none->Q (.ref p) (upd H p (.lst ((o8 ns).map V.int)))
theorem yN(hc:X.calm=true):kC X (.builtin "sorted") Jn:=by
 intro pins s σ H xs us Q I r h;obtain⟨a,kvs,ns,rfl,e,hk,Ug,q⟩:=h;obtain⟨u,rfl,ru⟩:=vals1 r;cases ru;obtain⟨hz,lo,vs,rel,dd⟩:=GP I.hok e;obtain⟨ep,hat⟩:=dd.dictAt;have L1:=Cv rel;rw[hk] at L1;have hvl:vs.length=ns.length:=by
  have h2:=congrArg List.length L1;rw[List.length_map,List.length_map] at h2;exact h2
 have hzz:sizeLine=16777216:=sizeLine_eq;refine Calls.call_function_entry kind_sorted plain_sorted entry_sorted (args_sorted1 _) ?_;unfold Builtin.«sorted»;refine wpAny_bind (m:=checkCount "sorted" 1 1 _) (wpAny_pure ?_);refine wpAny_bind (gather (PySem.W.kdl_dict (knd:=c0 X.prog X.w) (kvs:=vs) (ep:=ep) lo) (I.ok.hd hc) hat (by omega) fun h' tk acc Oa P7 L_=>?_)
 have hal:acc.toList.length=ns.length:=by rw[Array.length_toList];exact L_.1.trans hvl
 have hI:IntsAre acc.toList ns:=by
  refine vP (wY hal fun j v n h1 h2=>?_)
  obtain⟨k,x,h3,h4⟩:=L_.2 j v (by rw[<-Array.getElem?_toList];exact h1)
  have h5:(vs.map (·.1))[j]? =some k:=by rw[List.getElem?_map,h3];rfl
  rw[L1,List.getElem?_map,h2] at h5;have h6:(Sum.inl n:Key)=k:=Option.some.inj h5;rw[<-h6] at h4;exact Gn h4
 refine wpAny_bind (wpAny_newList ?_ (by rw[hal];omega))
 have hoL:(h'.push (seqObj "list" acc.toList.toArray 0)).get? h'.objs.size=some (seqObj "list" acc.toList.toArray 0):=Heap.get?_push_size _ rfl;show wpAny _ _ _ _ _ {s with heap:=h'.push (seqObj "list" acc.toList.toArray 0),toks:=tk}
 refine wpAny_bind (wpAny_holding (wpAny_call_entry slot_list_sort ⟨_,hoL,rfl⟩ entry_list_sort (list_sort_tree hoL hI (by omega) fun out Uh a1 a2 a3=>⟨_,rfl,?_⟩) (args_list_sort _)))
 refine wpAny_pure ⟨_,rfl,?_⟩;have hs:=wq a2 a3;subst hs;have MB:=Cg a1;have hle:((o8 ns).map V.int).length<=sizeLine:=by
  have h1:=a2.length_eq;rw[List.length_map];omega
 obtain⟨LK,Og⟩:=sortedHeap_at (out:=out) hoL;have hbig:s.heap.objs.size<=h'.objs.size:=Nat.le_of_lt Oa;have hn:H h'.objs.size=none:=I.hok.fresh hbig;have I2:=I.laid (a:=h'.objs.size) (o:= .lst ((o8 ns).map V.int)) (h':=sortedHeap (h'.push (seqObj "list" acc.toList.toArray 0)) h'.objs.size acc.toList out) (t':=tk) (fun b o hb=>by
  have hlt:=Heap.lt_size (P7 b o hb);rw[sortedHeap_old (Nat.ne_of_lt hlt) (by rw[size_push'];exact Nat.lt_succ_of_lt hlt)]
  exact Heap.get?_push_of_some _ (P7 b o hb)) hbig (show cY X.prog X.w _ _ _ (.lst _) from⟨hle,out.toList,LK,MB,by simpa [seqObj] using Og⟩)
 exact⟨.ref h'.objs.size,_,I2,rfl,q _ hn⟩
end
end L2
end
section
namespace L3
open PySem PySem.Spec PyProof.Rows L2
section
variable {X:Cx} {cl:Uu}
def uj(kvs:List (Key × D))(k:Key)(d:D):List (Key × D):=if(kvs.any fun kv=>decide (kv.1=k))=true then kvs.map (fun kv=>if kv.1=k then(kv.1,d) else kv) else kvs++[(k,d)]
def kA(S:aD)(k:Nat):Option (List (Key × D)):=match S[k]? with | some (.dct kvs)=>some kvs | _=>none
theorem kg{S:aD}{k:Nat}{kvs:List (Key × D)}(h:kA S k=some kvs):S[k]? =some (.dct kvs):=by
 unfold kA at h;split at h
 .rename_i e;cases h;exact e
 .cases h
theorem uk{α β:Type}(k:Key):∀{a:List (Key × α)} {b:List (Key × β)},a.map (·.1)=b.map (·.1)->(a.any fun kv=>decide (kv.1=k))=b.any fun kv=>decide (kv.1=k)
 | [],[],_=>rfl
 | [],_ ::_,h=>by simp at h
 | _ ::_,[],h=>by simp at h
 | x ::a,y ::b,h=>by
   rw[List.map_cons,List.map_cons] at h;obtain⟨h1,h2⟩:=List.cons.inj h;rw[List.any_cons,List.any_cons,uk k h2,h1]
theorem y6{K:W.Frag}{B:List Addr}{k:Key}{d:D}{v:V}(rv:Rep K B H d v):∀{kvs:List (Key × D)} {ys:List (Key × V)},ys.map (·.1)=kvs.map (·.1)->av K B H (kvs.map (·.2)) (ys.map (·.2))->
 (ys.map fun kv=>if kv.1=k then(kv.1,v) else kv).map (·.1)=(kvs.map fun kv=>if kv.1=k then(kv.1,d) else kv).map (·.1)/\av K B H ((kvs.map fun kv=>if kv.1=k then(kv.1,d) else kv).map (·.2)) ((ys.map fun kv=>if kv.1=k then(kv.1,v) else kv).map (·.2))
 | [],[],_,_=>⟨rfl,av.nil⟩
 | [],_ ::_,h,_=>by simp at h
 | _ ::_,[],h,_=>by simp at h
 | (k1,d1) ::kvs,(k2,v2) ::ys,h,r=>by
   obtain⟨h1,h2⟩:=List.cons.inj h;have h1:k2=k1:=h1;subst h1;obtain⟨x,r',e,q1,q2⟩:=av.bu r;cases e;obtain⟨i1,i2⟩:=y6 rv h2 q2;simp only[List.map_cons];by_cases hk:k2=k
   .rw [if_pos hk,if_pos hk];exact⟨by rw[i1],av.cons rv i2⟩
   .rw [if_neg hk,if_neg hk];exact⟨by rw[i1],av.cons q1 i2⟩
theorem K9{K:W.Frag}{B:List Addr}{k:Key}{d:D}{v:V}(rv:Rep K B H d v){kvs:List (Key × D)}{ys:List (Key × V)}(h:ys.map (·.1)=kvs.map (·.1))(r:av K B H (kvs.map (·.2)) (ys.map (·.2))) :
 (putK ys k v).map (·.1)=(uj kvs k d).map (·.1)/\av K B H ((uj kvs k d).map (·.2)) ((putK ys k v).map (·.2)):=by
 unfold putK uj;rw[uk k h];split
 .exact y6 rv h r
 .rw [List.map_append,List.map_append,List.map_append,List.map_append,h];exact⟨rfl,r.append (av.cons rv av.nil)⟩
def zj:FX:=fun δ S=> .ok (.loc S.length) (S++[.dct []])
theorem zm:PX X cl (.Dict [] [] pos) zj:=⟨CT.imp fun σ H Q ⟨ρ,S,δ,v,S',E,hf,q⟩=>by
 cases hf;intro p hp;obtain⟨w,pr⟩:=E.sw.new (a:=p) (o:= .dct []) (aC (o:= .dK []) hp) hp ⟨[],aL,rfl,av.nil⟩;exact q _ _ _ pr w (by unfold aK;exact⟨p,by show(ρ.r++[p])[_]? =_;rw [<-E.sw.len,List.getElem?_append_right (by omega),Nat.sub_self];rfl,rfl⟩)⟩
def zq(fo fi fe:FX):FZ:=fun δ S=>(fe δ S).bind fun v S1=>(fo δ S1).bind fun o S2=>(fi δ S2).bind fun j S3=>match v,o,j with
 | .d d, .loc k, .d (.int n)=>(match kA S3 k with | some kvs=>R3.bg (decide (kvs.length < sizeLine)) (.ok (.nx δ) (S3.set k (.dct (uj kvs (Sum.inl n) d)))) | none=> .no)
 | _,_,_=> .no
theorem zi{pos pos':Pos}(hu:X.A.units+1 < cLine)(hv:PX X cl value fe)(ho:PX X cl o fo)(hi:PX X cl i fi)(hs:swapsWith value (some (.Subscript o i pos')) pos.line X.env=pure false:=by rfl):PZ X cl (.Assign [.Subscript o i pos'] value pos) (zq fo fi fe):=
 ⟨(F5 hu ho.1 hi.1 hv.1 hs).imp fun D σ H ⟨ρ,S,δ,ou,S',E,hf,q⟩=>by
   obtain⟨v,S1,h1,h2⟩:=R3.ab hf;obtain⟨o,S2,h3,h4⟩:=R3.ab h2;obtain⟨j,S3,h5,h6⟩:=R3.ab h4;refine⟨ρ,S,δ,v,S1,E,h1,fun u1 bh H1 p1 w1 r1=>⟨bh,S1,δ,o,S2,E.to p1 w1,h3,fun u2 lD H2 p2 w2 r2=>⟨lD,S2,δ,j,S3,(E.to p1 w1).to p2 w2,h5,fun u3 pF H3 p3 w3 r3=>?_⟩⟩⟩
   split at h6
   .rename_i d k n;split at h6
    .rename_i kvs hd;obtain⟨hl,h7⟩:=R3.aP h6;cases h7;have r2':=r2.pre p3;unfold aK at r2';obtain⟨a,a1,rfl⟩:=r2';unfold aK Rep at r3;subst r3;obtain⟨ys,y1,y2,y3⟩:=w3.ob k a _ a1 (kg hd);have lZ:=(r1.pre p2).pre p3;unfold aK at lZ;obtain⟨e1,gY⟩:=K9 (k:=Sum.inl n) lZ y2 y3;have PQ:ys.length=kvs.length:=by have:=congrArg List.length y2;simpa using this
     refine⟨a,_,rfl,AX.k (k:=Sum.inl n) y1 (by rw[PQ];exact of_decide_eq_true hl),?_⟩
     obtain⟨w4,p4⟩:=w3.put (o:= .dct (uj kvs (Sum.inl n) d)) (u:= .dK (putK ys (Sum.inl n) u1)) a1 (w3.fz k a a1 (by rw[kg hd];intro h;cases h)) ⟨_,rfl,e1,gY⟩
     exact q σ pF _ (p1.trans (p2.trans (p3.trans p4))) (E.to (p1.trans (p2.trans (p3.trans p4))) w4)
    .cases h6
   .cases h6⟩
def II(fa fo:FX):FX:=fun δ S=>(fa δ S).bind fun j S1=>(fo δ S1).bind fun o S2=>match j,o with
 | .d (.int n), .loc k=>(match kA S2 k with | some kvs=> .ok (.d (.bl (kvs.any fun kv=>decide (kv.1=Sum.inl n)))) S2 | none=> .no)
 | _,_=> .no
theorem Fx{κ:Type} [DecidableEq κ](kvs:List (κ × V))(k:κ):(j6 kvs k).isSome=kvs.any fun kv=>decide (kv.1=k):=by
 unfold j6;rw[Option.isSome_map,Bool.eq_iff_iff,List.find?_isSome,List.any_eq_true]
theorem HU(hu:X.A.units+1 < cLine)(ha:PX X cl a fa)(hb:PX X cl b fb)(hm:behindInMarks .In b=false):PX X cl (.Compare a [.In] [b] pos) (II fa fb):=
 ⟨(HL (Js hu ha.1 hb.1) hm).imp fun σ H Q ⟨ρ,S,δ,v,S',E,hf,q⟩=>by
   obtain⟨j,S1,h1,h2⟩:=R3.ab hf;obtain⟨o,S2,h3,h4⟩:=R3.ab h2;refine⟨ρ,S,δ,j,S1,E,h1,fun u1 bh H1 p1 w1 r1=>⟨bh,S1,δ,o,S2,E.to p1 w1,h3,fun u2 lD H2 p2 w2 r2=>?_⟩⟩
   split at h4
   .rename_i n k;split at h4
    .rename_i kvs hd;cases h4;unfold aK at r2;obtain⟨ad,a1,rfl⟩:=r2;unfold aK Rep at r1;subst r1;obtain⟨ys,y1,y2,y3⟩:=w2.ob k ad _ a1 (kg hd);refine⟨ad,j6 ys (Sum.inl n),rfl,sJ.k (k:=Sum.inl n) y1,?_⟩;refine q _ lD H2 (p1.trans p2) w2 ?_;unfold aK Rep;rw[Fx,uk (Sum.inl n) y2]
    .cases h4
   .cases h4⟩
def intK?:List Key->Option (List Int)
 | []=>some []
 | .inl n ::ks=>(intK? ks).map (n ::·)
 | .inr _ ::_=>none
theorem wF:∀{ks:List Key} {ns:List Int},intK? ks=some ns->ks=ns.map Sum.inl
 | [],ns,h=>by cases h;rfl
 | .inl n ::ks,ns,h=>by
   obtain⟨ms,h1,rfl⟩:=lL (show(intK? ks).map (n ::·)=some ns from h)
   rw[List.map_cons,<-wF h1]
 | .inr x ::ks,ns,h=>by cases h
theorem zN:∀ns:List Int,intK? (ns.map Sum.inl)=some ns
 | []=>rfl
 | n ::ns=>by show(intK? (ns.map Sum.inl)).map (n ::·)=_;rw [zN ns];rfl
def xI(f:FX):FX:=fun δ S=>(f δ S).bind fun o S1=>match o with
 | .loc k=>(match kA S1 k with
   | some kvs=>(match intK? (kvs.map (·.1)) with | some ns=>R3.bg (decide (ns.length < 64)) (.ok (.d (.lst ((o8 ns).map .int))) S1) | none=> .no)
   | none=> .no)
 | _=> .no
theorem Ce{p pos:Pos}(hc:X.calm=true)(h:PX X cl e f)(hg:Gl X "sorted")(hm:X.mg "sorted"=none)(he:starEach [e] X.env=(false,eval e X.env) ::starEach [] X.env:=by rfl):PX X cl (.Call (.Name "sorted" p) [e] [] pos) (xI f):=
 ⟨(nQ (yN hc) hg hm PyProof.Rows.boot_sorted (dv h.1 gL he) (he:=he)).imp fun σ H Q ⟨ρ,S,δ,v,S',E,hf,q⟩=>by
   obtain⟨o,S1,h1,h2⟩:=R3.ab hf;refine⟨ρ,S,δ,o,S1,E,h1,fun u1 bh H1 p1 w1 r1=>?_⟩
   split at h2
   .rename_i k;split at h2
    .rename_i kvs hd;split at h2
     .rename_i ns hn;obtain⟨hl,h3⟩:=R3.aP h2;cases h3;unfold aK at r1;obtain⟨a,a1,rfl⟩:=r1;obtain⟨ys,y1,y2,y3⟩:=w1.ob k a _ a1 (kg hd);refine⟨a,ys,ns,rfl,y1,by rw[y2];exact wF hn,of_decide_eq_true hl,fun p hp=>q _ bh _ (p1.trans (i5 hp)) (w1.same (aC hp)) ?_⟩
      unfold aK;refine Rep.lst.mpr ⟨p,_,rfl, .mi aL fun ha=>?_,ints_rep _⟩
      obtain⟨o,ho⟩:=w1.bs p ha;rw[hp] at ho;cases ho
     .cases h2
    .cases h2
   .cases h2⟩
theorem Jw{K:W.Frag}{mg:Ut}{k n:Nat}{f:Addr}{fd:FuncData}{ps:List Str}:gH P w K mg base rZ k f fd ps (Bf K cl n fun _ _=> .no):=
 ⟨fun vs H Q E h=>(by obtain⟨_,_,_,_,_,_,_,_,h,_⟩:=h;cases h),fun A outer s H args us vs Q E _ _ _ _ h=>(by obtain⟨_,_,_,_,_,_,_,_,h,_⟩:=h;cases h)⟩
theorem CK{δ:DE}{S:aD}{QV:V3->aD->Prop}(h:QV (.loc S.length) (S++[.dct []])):W3 (zj δ S) QV:=W3.ok h
theorem BI{fo fi fe:FX}{δ:DE}{S:aD}{QO:Ou->aD->Prop}(h:W3 (fe δ S) fun v S1=>W3 (fo δ S1) fun o S2=>W3 (fi δ S2) fun j S3=>∃d k n kvs,v= .d d/\o= .loc k/\j= .d (.int n)/\S3[k]? =some (.dct kvs)/\kvs.length < sizeLine/\QO (.nx δ) (S3.set k (.dct (uj kvs (Sum.inl n) d)))):W3 (zq fo fi fe δ S) QO:=
 W3.bind (h.mono fun _ _ h=>W3.bind (h.mono fun _ _ h=>W3.bind (h.mono fun _ S3 ⟨d,k,n,kvs,e1,e2,e3,e4,hl,q⟩=>by
  subst e1 e2 e3;have e5:kA S3 k=some kvs:=by unfold kA;simp only[e4]
  simp only[e5];exact W3.wh (decide_eq_true hl) (W3.ok q))))
theorem Li{fa fb:FX}{δ:DE}{S:aD}{QV:V3->aD->Prop}(h:W3 (fa δ S) fun j S1=>W3 (fb δ S1) fun o S2=>∃n k kvs,j= .d (.int n)/\o= .loc k/\S2[k]? =some (.dct kvs)/\QV (.d (.bl (kvs.any fun kv=>decide (kv.1=Sum.inl n)))) S2):W3 (II fa fb δ S) QV:=
 W3.bind (h.mono fun _ _ h=>W3.bind (h.mono fun _ S2 ⟨n,k,kvs,e1,e2,e3,q⟩=>by
  subst e1 e2;have e4:kA S2 k=some kvs:=by unfold kA;simp only[e3]
  simp only[e4];exact W3.ok q))
theorem Fu{f:FX}{δ:DE}{S:aD}{QV:V3->aD->Prop}(h:W3 (f δ S) fun o S1=>∃k kvs ns,o= .loc k/\S1[k]? =some (.dct kvs)/\kvs.map (·.1)=ns.map Sum.inl/\ns.length < 64/\QV (.d (.lst ((o8 ns).map .int))) S1):W3 (xI f δ S) QV:=
 W3.bind (h.mono fun _ S1 ⟨k,kvs,ns,e1,e2,e3,hl,q⟩=>by
  subst e1;have e4:kA S1 k=some kvs:=by unfold kA;simp only[e2]
  simp only[e4,e3,zN];exact W3.wh (decide_eq_true hl) (W3.ok q))
end
end L3
end
section
namespace L2
open PySem PySem.Spec PyProof.Rows
section
variable {X:Cx}
def Ml:V->List V->Hp->VK->Prop:=fun x vs H Q=>∃(l:Addr) (xs:List V) (j:Int) (i:Nat) (y:V),x= .ref l/\vs=[.int j,y]/\H l=some (.lst xs)/\j=i/\i<=xs.length/\xs.length < sizeLine/\Q .bQ (upd H l (.lst (xs.take i++y ::xs.drop i)))
end
end L2
namespace L3
open PySem PySem.Spec PyProof.Rows L2
section
variable {X:Cx} {cl:Uu}
def Rl(i:Nat)(f g:FX):FZ:=fun δ S=>match jX δ i with
 | none=> .no
 | some k=>match dj S k with
   | none=> .no
   | some _=>(f δ S).bind fun v S1=>match v with
     | .d (.int j)=>(g δ S1).bind fun w S2=>(match w with
       | .d d=>(match dj S2 k with
         | some ds=>R3.bg (decide (0<=j/\j.toNat<=ds.length/\ds.length < sizeLine)) (.ok (.nx δ) (S2.set k (.lst (ds.take j.toNat++d ::ds.drop j.toNat))))
         | none=> .no)
       | _=> .no)
     | _=> .no
end
end L3
end
section
namespace L3
open PySem PySem.Spec PyProof.Rows L2
section
variable {X:Cx} {cl:Uu}
structure Tx (X:Cx) (pos:Pos) (keys:List (Option Expr)) (values:List Expr) (ks:List Str) (g:ak->R (List D)):Prop where
 h:∃Kb,RB X pos keys values Kb/\∀(σ:L2.St) (H:Hp) (Q:List (V × V)->Hp->Prop),(∃Z B δ ds,dz X.K Z B H σ δ/\g δ= .ok ds/\∀vs H',aI H H'->av X.K B H' ds vs->Q ((ks.zip vs).map fun p=>(V.str p.1,p.2)) H')->vd Kb σ H Q
def HS(ks:List Str)(ns:List Int):List (Key × D):=(ks.zip ns).foldl (fun acc p=>uj acc (Sum.inr p.1) (.int p.2)) []
def MW(ks:List Str)(g:ak->R (List D)):FX:=fun δ S=>(R3.of (g (down δ)) S).bind fun ds S=>match ints? ds with
 | some ns=>R3.bg (decide (ns.length=ks.length/\ks.length<=15)) (.ok (.loc S.length) (S++[.dct (HS ks ns)]))
 | none=> .no
def Na(kvs:List (Key × D))(k:Key):Option D:=(kvs.find? fun kv=>decide (kv.1=k)).map (·.2)
def Po(i:Nat)(f g:FD):FX:=fun δ S=>match jX δ i with
 | none=> .no
 | some k=>match kA S k with
   | none=> .no
   | some kvs=>(R3.of (f (down δ)) S).bind fun kd S=>(R3.of (g (down δ)) S).bind fun d S=>match kd with
     | .str x=> .ok (.d ((Na kvs (Sum.inr x)).getD d)) S
     | _=> .no
end
end L3
end
section
namespace L2
open PySem PySem.Spec PyProof.Rows
section
variable {X:Cx}
def Pr:List D->R D
 | [.tup ds]=>(match ints? ds with | some ns=> .ok (.int ns.sum) | none=> .no)
 | ds=>M5 ds
end
end L2
end
section
namespace L2
open PySem PySem.Spec PyProof.Rows
section
variable {X:Cx}
def ON(d e:D):R D:=match d,e with
 | .tup a, .int k=>R.bg (decide (2<=k/\k < 1000/\a≠[]/\a.length*k.toNat<=sizeLine)) (.ok (.tup (List.replicate k.toNat a).flatten))
 | d,e=>lX d e
end
end L2
end
section
namespace NT
def mx(f:Nat->Nat)(w:List Nat):Nat:=(w.map f).foldl max 0
structure BA (f:Nat->Nat) (M:Nat) (bs:List Int):Prop where
 a:∀(z:Nat) (v:Int),bs[z]? =some v->v= -1\/(0<=v/\v+f z<=M)
def BB(f:Nat->Nat)(M:Nat)(bs:List Int)(n:Nat):Prop:=∃(z:Nat) (v:Int),z < n/\bs[z]? =some v/\0<=v/\(M:Int)<=v+f z
def Up(bs P4:List Int):Prop:=P4.length=bs.length/\∀(z:Nat) (v:Int),bs[z]? =some v->∃v',P4[z]? =some v'/\v<=v'
end NT
namespace NT
open PySem PySem.Spec PyProof.Rows L2 L3
structure Gt where
 k:Str
 w:List Nat
 s:Bool
def nN(z:Nat):D:= .int z
def wN(w:List Nat):D:= .tup (w.map nN)
def gN(g:Gt):D:= .tup [.str g.k,wN g.w, .bl g.s]
def iN(x:Str × Nat):D:= .tup [.str x.1, .int x.2]
def oN(x:Str × List Nat):D:= .tup [.str x.1,wN x.2]
structure Net where
 i:Uq
 g:List Gt
 o:Ur
def Net.d(n:Net):D:= .tup [.lst (n.i.map iN), .lst (n.g.map gN), .lst (n.o.map oN)]
def Net.first(n:Net):Nat:=(n.i.map (·.2)).sum
structure O5 (n:Nat) (w:List Nat):Prop where
 ne:w≠[]
 le:w.length<=3
 lt:∀z∈w,z < n
structure Net.Ok (n:Net):Prop where
 i1:1<=n.i.length
 i6:n.i.length<=6
 iw:∀x∈n.i,1<=x.2/\x.2<=3
 is:∀x∈n.i,mC 0 (.str x.1)
 g60:n.g.length<=60
 gw:∀(p:Nat) (g:Gt),n.g[p]? =some g->O5 (n.first+p) g.w
 gs:∀g∈n.g,mC 0 (.str g.k)
 o1:1<=n.o.length
 o6:n.o.length<=6
 ow:∀x∈n.o,O5 (n.first+n.g.length) x.2
 os:∀x∈n.o,mC 0 (.str x.1)
theorem eq_self{n:Nat}{ds:List D}(h:mC n (.tup ds))(hn:n<=64):r6 (.tup ds) (.tup ds)= .ok (.bl true):=by unfold r6;rw [h.eqT hn];rfl
inductive Sm:Nat->D->Prop where
 | int (n:Nat) (i:Int):Sm n (.int i)
 | bl (n:Nat) (b:Bool):Sm n (.bl b)
 | str (n:Nat) (s:Str):Sm n (.str s)
 | lst {n:Nat} {ds:List D} (h:∀d∈ds,Sm n d) (hl:ds.length<=1000000):Sm (n+1) (.lst ds)
 | tup {n:Nat} {ds:List D} (h:∀d∈ds,Sm n d) (hl:ds.length<=1000000):Sm (n+1) (.tup ds)
theorem lI{F G:FS}{δ:ak}{d:D}(h:F δ= .ok (.rt d)):kJ F G δ= .ok (.rt d):=by unfold kJ;rw [h];rfl
theorem CJ{m i:Nat}{v:V3}(h:((gI 0 m).map V3.d)[i]? =some v):i < m/\v= .d (.int i):=by
 rw[List.getElem?_map,gI,List.getElem?_map] at h;cases q:(List.range m)[i]? with
 | none=>rw [q] at h;cases h
 | some j=>
   rw[q] at h;cases h;obtain⟨q1,q2⟩:=List.getElem?_eq_some_iff.mp q;rw[List.getElem_range] at q2;rw[List.length_range] at q1;subst q2;exact⟨q1,by simp⟩
theorem Gj(lo:Int)(m:Nat):(gI lo m).length=m:=by rw[gI,List.length_map,List.length_range]
theorem wU(lo:Int)(m:Nat):((gI lo m).map V3.d).length=m:=by rw[List.length_map,Gj]
theorem iE{α:Type}{l:List α}{f:α->D}{i:Nat}{v:V3}(h:((l.map f).map V3.d)[i]? =some v):∃x,l[i]? =some x/\v= .d (f x):=by
 rw[List.getElem?_map,List.getElem?_map] at h;cases q:l[i]? with
 | none=>rw [q] at h;cases h
 | some x=>rw [q] at h;cases h;exact⟨x,rfl,rfl⟩
theorem p_{α:Type}{l:List α}{f:α->D}{i:Nat}{v:D}(h:(l.map f)[i]? =some v):∃x,l[i]? =some x/\v=f x:=by
 rw[List.getElem?_map] at h;cases q:l[i]? with
 | none=>rw [q] at h;cases h
 | some x=>rw [q] at h;cases h;exact⟨x,rfl,rfl⟩
theorem cH{α:Type}{t:FT}{c:ak->R Bool}{f:FD}{δ:ak}(a b:α->D):∀{xs:List α},(∀x∈xs,∃cz,t (a x) δ= .ok cz/\c cz= .ok true/\f cz= .ok (b x))->nH t c f δ (xs.map a)= .ok (xs.map b)
 | [],_=>rfl
 | x ::xs,h=>by
   obtain⟨cz,h1,h2,h3⟩:=h x List.mem_cons_self;have ih:=cH (t:=t) (c:=c) (f:=f) (δ:=δ) a b (xs:=xs) fun y hy=>h y (List.mem_cons_of_mem _ hy)
   rw[List.map_cons];unfold nH;rw[h1,R.aN,h2,R.aN,if_pos rfl,h3,R.aN,ih];rfl
theorem km{α:Type}{t:FT}{c:ak->R Bool}{f:FD}{δ:ak}(p:α->Bool)(a b:α->D):∀{xs:List α},(∀x∈xs,∃cz,t (a x) δ= .ok cz/\c cz= .ok (p x)/\(p x=true->f cz= .ok (b x)))->nH t c f δ (xs.map a)= .ok ((xs.filter p).map b)
 | [],_=>rfl
 | x ::xs,h=>by
   obtain⟨cz,h1,h2,h3⟩:=h x List.mem_cons_self;have ih:=km (t:=t) (c:=c) (f:=f) (δ:=δ) p a b (xs:=xs) fun y hy=>h y (List.mem_cons_of_mem _ hy)
   rw[List.map_cons];unfold nH;rw[h1,R.aN,h2,R.aN];cases e:p x with
   | true=>rw [if_pos rfl,h3 e,R.aN,ih,List.filter_cons,if_pos e];rfl
   | false=>rw [if_neg (by decide),ih,List.filter_cons,if_neg (by rw[e];decide)]
theorem uD{n z:Nat}(h:z < n):yb n (z:Int)=some z:=by
 unfold yb;rw[if_pos (by omega),if_pos (by omega)]
 simp
theorem Cz{α:Type}{xs:List α}{z:Nat}{x:α}(h:xs[z]? =some x):pj xs (z:Int)=some x:=by
 have hl:=(List.getElem?_eq_some_iff.mp h).1;unfold pj;rw[uD hl];exact h
theorem u0{ds:List D}{z:Nat}{x:D}(h:ds[z]? =some x):cN (.lst ds) (.int z)= .ok x:=ym (Cz h)
end NT
end
section
namespace MT
open PySem PySem.Spec PyProof.Rows L2 L3
abbrev M:=Nat->Bool
theorem KN{N:List Str}{F:FZ}{vs:List V3}{δ:DE}{S:aD}{QV:V3->aD->Prop}(e:cg N vs=δ)(h:W3 (F δ S) fun o S1=>∃dr,o= .nx dr/\QV (.d .bQ) S1):W3 (nK N F vs S) QV:=by
 subst e;exact W3.bind (h.mono fun _ _ ⟨_,e,q⟩=>by subst e;exact W3.ok q)
def jO:Nat->M->Nat
 | 0,_=>0
 | N+1,f=>(if f 0 then 1 else 0)+2*jO N (fun i=>f (i+1))
theorem g7:∀(N:Nat) (f:M) (i:Nat),(jO N f).testBit i=(decide (i < N) && f i)
 | 0,f,i=>by unfold jO;simp
 | N+1,f,0=>by
   unfold jO;rw[Nat.testBit_zero];cases f 0 <;> simp <;> omega
 | N+1,f,i+1=>by
   unfold jO;rw[Nat.testBit_succ];have:((if f 0=true then 1 else 0)+2*jO N fun i=>f (i+1)) / 2=jO N fun i=>f (i+1):=by split <;> omega
   rw[this,g7 N _ i];simp
theorem lO:∀{N:Nat} {f g:M},(∀i,i < N->f i=g i)->jO N f=jO N g
 | 0,_,_,_=>rfl
 | N+1,f,g,h=>by
   unfold jO;rw[h 0 (by omega),lO (N:=N) fun i hi=>h (i+1) (by omega)]
theorem zY(N:Nat)(f g:M):jO N f &&& jO N g=jO N fun i=>f i && g i:=by
 refine Nat.eq_of_testBit_eq fun i=>?_
 rw[Nat.testBit_and,g7,g7,g7];cases decide (i < N) <;> simp
theorem B4(N:Nat)(f g:M):jO N f ||| jO N g=jO N fun i=>f i || g i:=by
 refine Nat.eq_of_testBit_eq fun i=>?_
 rw[Nat.testBit_or,g7,g7,g7];cases decide (i < N) <;> simp
theorem zI:∀(N:Nat) (f g:M),((jO N fun i=>f i || g i:Nat):Int) - (jO N fun i=>f i && g i:Nat)=(jO N fun i=>f i !=g i:Nat)
 | 0,f,g=>rfl
 | N+1,f,g=>by
   have ih:=zI N (fun i=>f (i+1)) (fun i=>g (i+1))
   have e:∀h:M,jO (N+1) h=(if h 0 then 1 else 0)+2*jO N (fun i=>h (i+1)):=fun _=>rfl
   rw[e,e,e];generalize jO N (fun i=>f (i+1) || g (i+1))=a at ih ⊢
   generalize jO N (fun i=>f (i+1) && g (i+1))=b at ih ⊢
   generalize jO N (fun i=>f (i+1) !=g (i+1))=c at ih ⊢
   show(((if(f 0 || g 0) then 1 else 0)+2*a:Nat):Int) - ((if(f 0 && g 0) then 1 else 0)+2*b:Nat)=((if(f 0 !=g 0) then 1 else 0)+2*c:Nat)
   cases f 0 <;> cases g 0 <;> simp <;> omega
theorem wC(x y:Nat):Builtin.bitAnd (x:Int) (y:Int)=((x &&& y:Nat):Int):=by
 unfold Builtin.bitAnd;rw[decide_eq_true (by omega:(0:Int)<=x),decide_eq_true (by omega:(0:Int)<=y)]
 simp
theorem zQ(x y:Nat):Builtin.bitOr (x:Int) (y:Int)=((x ||| y:Nat):Int):=by
 unfold Builtin.bitOr Builtin.bitAnd Builtin.bitNot;rw[decide_eq_false (by omega:¬(0:Int)<= -(x:Int) - 1),decide_eq_false (by omega:¬(0:Int)<= -(y:Int) - 1)]
 show -(-(((-(-(x:Int) - 1) - 1).toNat ||| (-(-(y:Int) - 1) - 1).toNat:Nat):Int) - 1) - 1=_
 rw[show(-(-(x:Int) - 1) - 1).toNat=x by omega,show(-(-(y:Int) - 1) - 1).toNat=y by omega]
 omega
def mI(N:Nat)(f:M):D:= .int (jO N f:Nat)
theorem xl{N:Nat}{f g:M}(h:∀i,i < N->f i=g i):mI N f=mI N g:=by unfold mI;rw [lO h]
theorem rG(N:Nat)(f g:M):EX (mI N f) (mI N g)= .ok (mI N fun i=>f i && g i):=by
 show R.ok (D.int (Builtin.bitAnd (jO N f:Int) (jO N g:Int)))=_;rw[wC,zY];rfl
theorem vS(N:Nat)(f g:M):Em (mI N f) (mI N g)= .ok (mI N fun i=>f i || g i):=by
 show R.ok (D.int (Builtin.bitOr (jO N f:Int) (jO N g:Int)))=_;rw[zQ,B4];rfl
theorem tp(N:Nat)(f g:M):z6 (mI N f) (mI N g)= .ok (mI N fun i=>f i !=g i):=by
 show R.ok (D.int (Builtin.bitOr (jO N f:Int) (jO N g:Int) - Builtin.bitAnd (jO N f:Int) (jO N g:Int)))=_;rw[zQ,wC,B4,zY,zI];rfl
def one:M:=fun _=>true
theorem vL(N:Nat)(f:M):z6 (mI N one) (mI N f)= .ok (mI N fun i=>!f i):=by
 rw[tp];have:(fun i=>one i !=f i)=fun i=>!f i:=by funext i;unfold one;simp
 rw[this]
theorem BM(N:Nat)(f:M)(c:Bool):(if c then z6 (mI N one) (mI N f) else .ok (mI N f))= .ok (mI N fun i=>f i !=c):=by
 cases c with
 | true=>
   rw[if_pos rfl,vL];have:(fun i=>!f i)=fun i=>f i !=true:=by funext i;cases f i <;> rfl
   rw[this]
 | false=>
   rw[if_neg (by decide)]
   have:f=fun i=>f i !=false:=by funext i;cases f i <;> rfl
   rw[<-this]
theorem jy{N:Nat}{f:M}:jO N f=0↔∀i,i < N->f i=false:=by
 constructor
 .intro h i hi;have:=g7 N f i;rw[h,Nat.zero_testBit,decide_eq_true hi,Bool.true_and] at this;exact this.symm
 .intro h;refine Nat.eq_of_testBit_eq fun i=>?_
  rw[g7,Nat.zero_testBit];by_cases q:i < N
  .rw [h i q];simp
  .rw [decide_eq_false q];rfl
def bI(b:Bool):D:= .int (if b then 1 else 0)
def Ef:List Bool->Nat
 | []=>0
 | b ::bs=>(if b then 1 else 0)+2*Ef bs
theorem DM:∀bs:List Bool,Ef bs=jO bs.length fun i=>bs.getD i false
 | []=>rfl
 | b ::bs=>by
   unfold Ef;rw[DM bs];rfl
def nI(n:Nat):D:= .int (n:Int)
def kS:Nat->Str | 0=>"not" | 1=>"and" | 2=>"or" | 3=>"xor" | _=>"vote"
def ar:Nat->Nat | 0=>1 | 4=>3 | _=>2
theorem Kr(k:Nat):ar k<=3:=by unfold ar;split <;> omega
def gv:Nat->List Bool->Bool
 | 0,[a]=>!a
 | 1,[a,b]=>a && b
 | 2,[a,b]=>a || b
 | 3,[a,b]=>a !=b
 | 4,[a,b,c]=>(a && b) || (a && c) || (b && c)
 | _,_=>false
def cm(ws:List M)(n:Nat):M:=ws.getD n fun _=>false
theorem F9{ws:List M}{b:M}{n:Nat}(h:n < ws.length):cm (ws++[b]) n=cm ws n:=by
 unfold cm;rw[List.getD_eq_getElem?_getD,List.getElem?_append_left h,List.getD_eq_getElem?_getD]
theorem CH(ws:List M)(b:M):cm (ws++[b]) ws.length=b:=by
 unfold cm;rw[List.getD_eq_getElem?_getD,List.getElem?_append_right (Nat.le_refl _),Nat.sub_self];rfl
abbrev Gt:=Nat × List Nat × Bool
def eQ(g:Gt):D:= .tup [.str (kS g.1), .tup (g.2.1.map nI), .bl g.2.2]
def uC(n:Nat)(g:Gt):Prop:=g.1<=4/\g.2.1.length=ar g.1/\∀w∈g.2.1,w < n
def inD(x:Str × Nat):D:= .tup [.str x.1,nI x.2]
def yu(x:Str × List Nat):D:= .tup [.str x.1, .tup (x.2.map nI)]
def bV(ins:Uq)(gs:List Gt)(os:Ur):D:= .tup [.lst (ins.map inD), .lst (gs.map eQ), .lst (os.map yu)]
def mY(ins:Uq):Nat:=(ins.map (·.2)).sum
def gF(g:Gt)(ws:List M):M:=fun p=>gv g.1 (g.2.1.map fun n=>cm ws n p)
def m7(bad:List Int)(b:M):Nat->List M->List M
 | 0,ws=>ws
 | n+1,ws=>m7 bad b n ws++[fun p=>b p !=bad.contains ((m7 bad b n ws).length:Int)]
theorem lP(bad:List Int)(b:M):∀n ws,(m7 bad b n ws).length=ws.length+n
 | 0,ws=>rfl
 | n+1,ws=>by unfold m7;rw [List.length_append,lP bad b n ws];rfl
def fv(ins:Uq)(bits:List M)(bad:List Int):Nat->List M
 | 0=>[]
 | i+1=>match ins[i]?,bits[i]? with | some x,some b=>m7 bad b x.2 (fv ins bits bad i) | _,_=>fv ins bits bad i
theorem nE{ins:Uq}{bits:List M}{bad:List Int}(hb:bits.length=ins.length):∀i,i<=ins.length->(fv ins bits bad i).length=mY (ins.take i)
 | 0,_=>rfl
 | i+1,hi=>by
   have h1:ins[i]? =some ins[i]:=List.getElem?_eq_getElem (by omega)
   have h2:bits[i]? =some bits[i]:=List.getElem?_eq_getElem (by omega)
   unfold fv;rw[h1,h2];show(m7 bad bits[i] ins[i].2 (fv ins bits bad i)).length=_;rw[lP,nE hb i (by omega),List.take_add_one,h1]
   unfold mY;simp only[Option.toList_some,List.map_append,List.sum_append,List.map_cons,List.map_nil,List.sum_cons,List.sum_nil];omega
def tH(gs:List Gt)(turned:List Int)(w0:List M):Nat->List M
 | 0=>w0
 | i+1=>match gs[i]? with | some g=>tH gs turned w0 i++[fun p=>gF g (tH gs turned w0 i) p !=turned.contains (i:Int)] | none=>tH gs turned w0 i
theorem nB{gs:List Gt}{turned:List Int}{w0:List M}:∀i,i<=gs.length->(tH gs turned w0 i).length=w0.length+i
 | 0,_=>rfl
 | i+1,hi=>by
   have h1:gs[i]? =some gs[i]:=List.getElem?_eq_getElem (by omega)
   unfold tH;rw[h1];show(tH gs turned w0 i++[_]).length=_;rw[List.length_append,nB i (by omega)]
   rfl
structure l8 (ins:Uq) (gs:List Gt) (os:Ur):Prop where
 hi:ins.length < 100
 hw:∀x∈ins,x.2 < 100
 hg:gs.length < 1000
 g:∀(i:Nat) (x:Gt),gs[i]? =some x->uC (mY ins+i) x
 ho:os.length < 1000
 o:∀x∈os,x.2.length < 1000/\∀w∈x.2,w < mY ins+gs.length
def uo(ins:Uq)(gs:List Gt)(bits:List M)(turned bad:List Int):List M:=tH gs turned (fv ins bits bad ins.length) gs.length
theorem B9:∀{l:Uq},(∀x∈l,x.2 < 100)->mY l<=100*l.length
 | [],_=>by simp [mY]
 | x ::l,h=>by
   have ih:=B9 (l:=l) fun y hy=>h y (List.mem_cons_of_mem _ hy)
   have:=h x List.mem_cons_self;unfold mY at ih ⊢;rw[List.map_cons,List.sum_cons,List.length_cons];omega
theorem B0{ins:Uq}{gs:List Gt}{bits:List M}{turned bad:List Int}(hb:bits.length=ins.length):(uo ins gs bits turned bad).length=mY ins+gs.length:=by unfold uo;rw [nB _ (Nat.le_refl _),nE hb _ (Nat.le_refl _),List.take_length]
def tell(ws:List M)(x:Str × List Nat):List M:=x.2.map (cm ws)
def NF:List Bool->Bool × Bool
 | [a]=>(!a,a)
 | [a,b]=>(!(a || b),a && b)
 | [a,b,c]=>let v:=(a && b) || (a && c) || (b && c);(!v,v)
 | _=>(false,false)
def brk(safe:Bool)(x y:Bool × Bool):Bool:=if safe then(x.1 && y.2) || (x.2 && y.1) else(x.1 !=y.1) || (x.2 !=y.2)
theorem ue(i:Int)(ps:List Int):Ei (.int i) (.tup (ps.map .int))= .ok (.bl (ps.contains i)):=by
 show((match ints? (ps.map D.int) with | some ss=>R.ok (ss.contains i) | none=> .no)).bind (fun b=>R.ok (D.bl b))=_
 rw[L2.ints_map];rfl
theorem m3{ds:List D}{i:Nat}{v:V3}(h:((bO ds).map V3.d)[i]? =some v):∃d,ds[i]? =some d/\v= .d (.tup [.int i,d]):=by
 rw[List.getElem?_map,bO,List.getElem?_map,List.getElem?_zipIdx] at h;cases q:ds[i]? with
 | none=>rw [q] at h;cases h
 | some d=>
   rw[q] at h;simp at h;exact⟨d,rfl,h.symm⟩
theorem uv{c:ak->R Bool}{δ:ak}{b:Bool}{r:R D}(h:c δ= .ok b)(h2:(if b then f δ else g δ)=r):HK c f g δ=r:=by unfold HK;rw [h,R.aN];exact h2
theorem cC(S:aD)(x y:SO):(S++[x]).set S.length y=S++[y]:=by
 rw[List.set_append_right _ _ (Nat.le_refl _),Nat.sub_self];rfl
theorem a_(S:aD)(x:SO):(S++[x])[S.length]? =some x:=by rw[List.getElem?_append_right (Nat.le_refl _),Nat.sub_self];rfl
theorem uL{N:Nat}{ws:List M}{n:Nat}(h:n < ws.length):cN (.lst (ws.map (mI N))) (nI n)= .ok (mI N (cm ws n)):=by
 refine NT.u0 ?_;rw[List.getElem?_map,List.getElem?_eq_getElem h];unfold cm;rw[List.getD_eq_getElem?_getD,List.getElem?_eq_getElem h];rfl
def h_:List Nat->Nat->Us
 | _,0=>[[]]
 | ps,s+1=>(List.range ps.length).flatMap fun a=>(h_ (ps.drop (a+1)) s).map (ps.getD a 0 ::·)
theorem iu:∀{s:Nat} {ps T:List Nat},T∈h_ ps s->T.length=s/\∀x∈T,x∈ps
 | 0,ps,T,h=>by unfold h_ at h;rw [List.mem_singleton.mp h];simp
 | s+1,ps,T,h=>by
   unfold h_ at h;obtain⟨a,ha,h⟩:=List.mem_flatMap.mp h;obtain⟨R,hR,rfl⟩:=List.mem_map.mp h;rw[List.mem_range] at ha;obtain⟨h1,h2⟩:=iu hR;refine⟨by simp [h1],fun x hx=>?_⟩
   rcases List.mem_cons.mp hx with rfl | hx
   .rw [List.getD_eq_getElem?_getD,List.getElem?_eq_getElem ha];exact List.getElem_mem ha
   .exact List.mem_of_mem_drop (h2 x hx)
theorem yr:∀{l:List Nat} {m:Nat},(∀x∈l,x<=m)->l.sum<=l.length*m
 | [],_,_=>by simp
 | x ::l,m,h=>by
   have:=yr (l:=l) (m:=m) fun y hy=>h y (List.mem_cons_of_mem _ hy)
   have h0:=h x List.mem_cons_self;rw[List.sum_cons,List.length_cons,Nat.add_mul];omega
theorem lN:∀{s:Nat} {ps:List Nat} {n:Nat},ps.length<=n->(h_ ps s).length<=n ^ s
 | 0,ps,n,_=>by unfold h_;simp
 | s+1,ps,n,h=>by
   unfold h_;rw[List.length_flatMap,Nat.pow_succ];refine Nat.le_trans (yr (m:=n ^ s) fun x hx=>?_) ?_
   .obtain⟨a,_,rfl⟩:=List.mem_map.mp hx;rw[List.length_map];exact lN (by rw[List.length_drop];omega)
   .rw [List.length_map,List.length_range,Nat.mul_comm];exact Nat.mul_le_mul_left _ h
theorem qL{F G:FZ}{δ:DE}{S:aD}{QO:Ou->aD->Prop}(h:W3 (F δ S) fun o S1=>match o with | .nx cz=>W3 (G cz S1) QO | .rt v=>QO (.rt v) S1):W3 (bo F G δ S) QO:=
 W3.bind (h.mono fun o S1 q=>by cases o with | nx cz=>exact q | rt v=>exact W3.ok q)
end MT
end
section
set_option maxHeartbeats 400000
namespace MT
open PySem PySem.Spec PyProof.Rows L2 L3
theorem uF{gs:List Gt}{t:List Int}{w0:List M}{n:Nat}:∀{j i:Nat},i<=j->j<=gs.length->n < w0.length+i->cm (tH gs t w0 j) n=cm (tH gs t w0 i) n
 | 0,i,h,_,_=>by rw[Nat.le_zero.mp h]
 | j+1,i,h,hj,hn=>by
   by_cases e:i=j+1
   .rw [e]
   .have h1:gs[j]? =some gs[j]:=List.getElem?_eq_getElem (by omega)
    rw[<-uF (j:=j) (i:=i) (by omega) (by omega) hn]
    conv=>lhs;unfold tH
    rw[h1];exact F9 (by rw[nB _ (by omega)];omega)
section
variable {ins:Uq} {gs:List Gt} {bits:List M} {T bad:List Int} {p:Nat}
theorem Hh(hb:bits.length=ins.length):(fv ins bits bad ins.length).length=mY ins:=by rw[nE hb _ (Nat.le_refl _),List.take_length]
theorem GU(hb:bits.length=ins.length){n:Nat}(h:n < mY ins):cm (uo ins gs bits T bad) n=cm (fv ins bits bad ins.length) n:=by
 unfold uo;rw[uF (i:=0) (Nat.zero_le _) (Nat.le_refl _) (by rw[Hh hb];exact h)]
 rfl
theorem zL(hb:bits.length=ins.length){i:Nat}{g:Gt}(h:gs[i]? =some g)(hg:uC (mY ins+i) g) :
 cm (uo ins gs bits T bad) (mY ins+i) p=(gv g.1 (g.2.1.map fun n=>cm (uo ins gs bits T bad) n p) !=T.contains (i:Int)):=by
 have hi:i < gs.length:=(List.getElem?_eq_some_iff.mp h).1;have hw:=Hh (bad:=bad) hb;unfold uo;rw[uF (i:=i+1) (by omega) (Nat.le_refl _) (by rw[hw];omega)]
 conv=>lhs;unfold tH
 rw[h];have hl:(tH gs T (fv ins bits bad ins.length) i).length=mY ins+i:=by rw[nB _ (by omega),hw]
 show cm (tH gs T (fv ins bits bad ins.length) i++[_]) (mY ins+i) p=_;rw[<-hl,CH];show(gv g.1 (g.2.1.map fun n=>cm (tH gs T (fv ins bits bad ins.length) i) n p) !=T.contains (i:Int))=_
 congr 2;refine List.map_congr_left fun n hn=>?_
 rw[uF (j:=gs.length) (i:=i) (by omega) (Nat.le_refl _) (by rw[hw];exact hg.2.2 n hn)]
end
theorem yi{m:Nat}:∀{ins:Uq},(∀x∈ins,x.2=m)->mY ins=m*ins.length
 | [],_=>rfl
 | x ::l,h=>by
   have ih:=yi (ins:=l) fun y hy=>h y (List.mem_cons_of_mem _ hy)
   have:=h x List.mem_cons_self;unfold mY at ih ⊢;rw[List.map_cons,List.sum_cons,List.length_cons,ih,this,Nat.mul_succ,Nat.add_comm]
section
variable {ins:Uq} {gs:List Gt} {bits:List M} {T bad:List Int} {p m:Nat}
end
def Ql(m:Nat)(ins:Uq):Uq:=ins.map fun x=>(x.1,m)
def Q0(m:Nat)(g:Gt)(k:Nat):Gt:=(g.1,g.2.1.map (fun w=>m*w+k),g.2.2)
def Q6(m:Nat)(gs:List Gt):List Gt:=gs.flatMap fun g=>(List.range m).map (Q0 m g)
def TX(m:Nat)(os:Ur):Ur:=os.map fun x=>(x.1,(List.range m).map fun k=>m*x.2.getD 0 0+k)
def shr(m k n:Nat)(T:List Int):List Int:=((List.range n).filter fun i=>T.contains ((m*i+k:Nat):Int)).map fun(i:Nat)=>(i:Int)
section
variable {ins:Uq} {gs:List Gt} {os:Ur} {bits:List M} {T bad:List Int} {p m:Nat}
end
end MT
end
section
set_option maxHeartbeats 4000000
namespace K23
open PySem PySem.Spec PyProof.Rows L2 L3
variable {P:Program} {w:World} {K:W.Frag} {mg:Ut} {base:Heap} {cl:Uu}
def top(i:Nat):Stmt:=PySem.Challenge.pw_bearfaults_k23_surest_of_turning_gates.main.body.getD i (.Pass ⟨0,0,0,0⟩)
structure Tp (K:W.Frag) (mg:Ut) (cl:Uu):Prop where
 z_enumerate:mg "enumerate"=none
 z_range:mg "range"=none
 z_len:mg "len"=none
 z_tuple:mg "tuple"=none
 z_reversed:mg "reversed"=none
 z_all:mg "all"=none
 z_zip:mg "zip"=none
 z_any:mg "any"=none
 z_min:mg "min"=none
 z_sorted:mg "sorted"=none
 z_list:mg "list"=none
 z_int:mg "int"=none
 z_isinstance:mg "isinstance"=none
 C_Bench:vw K (cl 0)
 N_Bench_net:cI K (cl 0) "net"
 N_Bench_many_inputs:cI K (cl 0) "many_inputs"
 N_Bench_full:cI K (cl 0) "full"
 N_Bench_in_masks:cI K (cl 0) "in_masks"
 M_Bench:mg "Bench"=some (.ref (cl 0))
 C_Trial:vw K (cl 1)
 N_Trial_bench:cI K (cl 1) "bench"
 N_Trial_plain:cI K (cl 1) "plain"
 N_Trial_unsure:cI K (cl 1) "unsure"
 M_Trial:mg "Trial"=some (.ref (cl 1))
abbrev jJ:Stmt:=top 2
noncomputable abbrev tI:List Str:=["masks"]
noncomputable def yy:{b:List Stmt // aJ jJ=b}:=⟨_,by conv=>lhs;whnf⟩
noncomputable def qR:{b:Scope // ax jJ=b}:=⟨_,by conv=>lhs;whnf⟩
theorem Ai:aY tI ["masks"] qR.1:=⟨rfl,rfl,rfl,by decide+kernel,rfl,by decide+kernel,by decide+kernel⟩
def t7:FS:=(jw (e2 Em (e2 Em (e2 EX (e2 cN (af 0) (eC (.int 0))) (e2 cN (af 0) (eC (.int 1)))) (e2 EX (e2 cN (af 0) (eC (.int 0))) (e2 cN (af 0) (eC (.int 2))))) (e2 EX (e2 cN (af 0) (eC (.int 1))) (e2 cN (af 0) (eC (.int 2))))))
def fJ:List D->R D:=wz tI t7
theorem Az(T:Tp K mg cl)(h:Def K mg "vote_of" jJ):Callee P w K mg base 1 "vote_of" 1 fJ:=by
 obtain⟨f,fd,F,hm⟩:=h;exact⟨f,fd,_,dH (k:=0) yy.2 qR.2 F Ai (fun dI A outer s H E hr=>(bH (ck (az vI (az vI (az x_ (aH (aa 0) ae (fun _ _=>rfl)) (aH (aa 0) ae (fun _ _=>rfl))) (az x_ (aH (aa 0) ae (fun _ _=>rfl)) (aH (aa 0) ae (fun _ _=>rfl)))) (az x_ (aH (aa 0) ae (fun _ _=>rfl)) (aH (aa 0) ae (fun _ _=>rfl))))))),hm,F.kp,F.binds fun _ _ _ _ _ _ us hl=>match us,hl with | [_],_=>rfl⟩
abbrev gy:Stmt:=top 3
noncomputable abbrev lj:List Str:=["kind","masks","full"]
noncomputable def vh:{b:List Stmt // aJ gy=b}:=⟨_,by conv=>lhs;whnf⟩
noncomputable def nk:{b:Scope // ax gy=b}:=⟨_,by conv=>lhs;whnf⟩
theorem xk:aY lj ["kind","masks","full"] nk.1:=⟨rfl,rfl,rfl,by decide+kernel,rfl,by decide+kernel,by decide+kernel⟩
def pz:FS:=(kJ (Be (b2 r6 (af 0) (eC (.str "not"))) (jw (e2 z6 (af 2) (e2 cN (af 1) (eC (.int 0))))) xg) (kJ (Be (b2 r6 (af 0) (eC (.str "and"))) (jw (e2 EX (e2 cN (af 1) (eC (.int 0))) (e2 cN (af 1) (eC (.int 1))))) xg) (kJ (Be (b2 r6 (af 0) (eC (.str "or"))) (jw (e2 Em (e2 cN (af 1) (eC (.int 0))) (e2 cN (af 1) (eC (.int 1))))) xg) (kJ (Be (b2 r6 (af 0) (eC (.str "xor"))) (jw (e2 z6 (e2 cN (af 1) (eC (.int 0))) (e2 cN (af 1) (eC (.int 1))))) xg) (jw (aS fJ (aw (af 1) aZ)))))))
def gB:List D->R D:=wz lj pz
theorem vA(T:Tp K mg cl)(h:Def K mg "gate_mask" gy)(ia:Callee P w K mg base 1 "vote_of" 1 fJ):Callee P w K mg base 2 "gate_mask" 3 gB:=by
 obtain⟨f,fd,F,hm⟩:=h;exact⟨f,fd,_,dH (k:=1) vh.2 nk.2 F xk (fun dI A outer s H E hr=>(c9 (lJ (cq (qC hr.units) (aa 0) cQ (cD _)) (bH (ck (az sf (aa 2) (aH (aa 1) ae (fun _ _=>rfl))))) jx) (c9 (lJ (cq (qC hr.units) (aa 0) cQ (cD _)) (bH (ck (az x_ (aH (aa 1) ae (fun _ _=>rfl)) (aH (aa 1) ae (fun _ _=>rfl))))) jx) (c9 (lJ (cq (qC hr.units) (aa 0) cQ (cD _)) (bH (ck (az vI (aH (aa 1) ae (fun _ _=>rfl)) (aH (aa 1) ae (fun _ _=>rfl))))) jx) (c9 (lJ (cq (qC hr.units) (aa 0) cQ (cD _)) (bH (ck (az sf (aH (aa 1) ae (fun _ _=>rfl)) (aH (aa 1) ae (fun _ _=>rfl))))) jx) (bH (ck (cP ia hr (by decide) rfl (ag (aa 1) aq) (bf dA))))))))),hm,F.kp,F.binds fun _ _ _ _ _ _ us hl=>match us,hl with | [_,_,_],_=>rfl⟩
abbrev dD:Stmt:=top 4
noncomputable abbrev eB:List Str:=["ins","in_masks","full","bad","wires","place","mask","figure"]
noncomputable def oq:{b:List Stmt // aJ dD=b}:=⟨_,by conv=>lhs;whnf⟩
noncomputable def jL:{b:Scope // ax dD=b}:=⟨_,by conv=>lhs;whnf⟩
theorem dC:aY eB ["ins","in_masks","full","bad"] jL.1:=⟨rfl,rfl,rfl,by decide+kernel,rfl,by decide+kernel,by decide+kernel⟩
def eX:FZ:=(oJ 4 (xT (HK (b2 Ei (aS gx (aw (af 4) aZ)) (af 3)) (e2 z6 (af 2) (af 6)) (af 6))))
def i3:FZ:=(iZ (iP (kL (e2 cN (e2 cN (af 0) (af 5)) (eC (.int 1))))) (lH 7) eX)
def gE:FZ:=(bo (cx 4 (nV (j0 aZ))) (bo (iZ (iP (zS (af 1))) (Ga 2 (xp (lH 5) (xp (lH 6) GL))) i3) (gZ (bY 4))))
def di:List V3->aD->R3 V3:=nK eB gE
def AS:List V3->aD->R3 V3:=nS eB gE
theorem pQ(T:Tp K mg cl)(h:Def K mg "in_wire_masks" dD):bC P w K mg base cl 1 "in_wire_masks" 4 di:=by
 obtain⟨f,fd,F,hm⟩:=h;exact⟨f,fd,_,bN (k:=0) oq.2 jL.2 F dC (fun dI A outer s H E hr=>(ao (ba dC.nd rfl (Or.inl rfl) (iC (dJ aq))) (ao (dS PassesOwn.never rfl (cF (xK (aa 1) rfl T.z_enumerate)) (j_ rfl (bS (aR dC.nd rfl (Or.inl rfl)) (bS (aR dC.nd rfl (Or.inl rfl)) ig))) (aF (dS PassesOwn.never rfl (cF (i0 (aH (aH (aa 0) (aa 5) (fun _ _=>rfl)) ae (fun _ _=>rfl)) rfl T.z_range)) (aR dC.nd rfl (Or.inl rfl)) (aF (mQ rfl (Or.inl rfl) (gd (yK (cq IG (bb fD rfl T.z_len PySem.boot_len (ag (aa 4) aq)) (aa 3) (by with_unfolding_all rfl)) (az sf (aa 2) (aa 6)) (aa 6)))))))) (aF (cO (aX 4)))))),hm,F.kp,F.binds fun _ _ _ _ _ _ us hl=>match us,hl with | [_,_,_,_],_=>rfl⟩
abbrev iJ:Stmt:=top 5
noncomputable abbrev mf:List Str:=["wires","numbers"]
noncomputable def wJ:{b:List Stmt // aJ iJ=b}:=⟨_,by conv=>lhs;whnf⟩
noncomputable def lq:{b:Scope // ax iJ=b}:=⟨_,by conv=>lhs;whnf⟩
theorem xH:aY mf ["wires","numbers"] lq.1:=⟨rfl,rfl,rfl,by decide+kernel,rfl,by decide+kernel,by decide+kernel⟩
def qY:FS:=(jw (aS qy (aw (eNew (ef (cS (af 1)) (bq 0) k8 (e2 cN (af 1) (af 0)) ["number"] [0])) aZ)))
def eI:List D->R D:=wz mf qY
theorem xC(T:Tp K mg cl)(h:Def K mg "masks_at" iJ):Callee P w K mg base 1 "masks_at" 2 eI:=by
 obtain⟨f,fd,F,hm⟩:=h;exact⟨f,fd,_,dH (k:=0) wJ.2 lq.2 F xH (fun dI A outer s H E hr=>(bH (ck (iq zM rfl T.z_tuple PyProof.Rows.boot_tuple (ag (dw (c_ rfl (bL.of (own:=["number"]) (kp:=[0]) (kn:=["wires"]) (sc:=lq.1) (N:=mf) rfl rfl (by decide+kernel)) (bE (aa 1)) (fun _ _ _=>(bt (show List.Nodup [(Str.ofString "number"),"wires"] from by decide+kernel) rfl (Or.inl rfl))) (fun _ _ _=>dF) (fun _ _ _=>(aH (aa 1) (aa 0) (fun _ _=>rfl))))) aq))))),hm,F.kp,F.binds fun _ _ _ _ _ _ us hl=>match us,hl with | [_,_],_=>rfl⟩
abbrev eW:Stmt:=top 6
noncomputable abbrev g6:List Str:=["net","in_masks","full","turned","bad","wires","place","gate","mask"]
noncomputable def sx:{b:List Stmt // aJ eW=b}:=⟨_,by conv=>lhs;whnf⟩
noncomputable def l9:{b:Scope // ax eW=b}:=⟨_,by conv=>lhs;whnf⟩
theorem eT:aY g6 ["net","in_masks","full","turned","bad"] l9.1:=⟨rfl,rfl,rfl,by decide+kernel,rfl,by decide+kernel,by decide+kernel⟩
def ie:FZ:=(bo (cx 8 (xT (aS gB (aw (e2 cN (af 7) (eC (.int 0))) (aw (aS eI (aw (af 5) (aw (e2 cN (af 7) (eC (.int 1))) aZ))) (aw (af 2) aZ)))))) (oJ 5 (xP (HK (b2 Ei (af 6) (af 3)) (e2 z6 (af 2) (af 8)) (af 8)))))
def j2:FZ:=(bo (cx 5 (c8 di (aA (xP (e2 cN (af 0) (eC (.int 0)))) (aA (xP (af 1)) (aA (xP (af 2)) (aA (xP (af 4)) cB)))))) (bo (iZ (iP (ip (e2 cN (af 0) (eC (.int 1))))) (Ga 2 (xp (lH 6) (xp (lH 7) GL))) ie) (gZ (bY 5))))
def si:List V3->aD->R3 V3:=nK g6 j2
def gb:List V3->aD->R3 V3:=nS g6 j2
theorem uG(T:Tp K mg cl)(h:Def K mg "wire_masks" eW)(fW:Callee P w K mg base 1 "masks_at" 2 eI)(lG:Callee P w K mg base 2 "gate_mask" 3 gB)(d_:bC P w K mg base cl 1 "in_wire_masks" 4 di):bC P w K mg base cl 3 "wire_masks" 5 si:=by
 obtain⟨f,fd,F,hm⟩:=h;exact⟨f,fd,_,bN (k:=2) sx.2 l9.2 F eT (fun dI A outer s H E hr=>(ao (ba eT.nd rfl (Or.inl rfl) (bK d_ hr (by decide) rfl (ai (ah (aH (aa 0) ae (fun _ _=>rfl))) (ai (ah (aa 1)) (ai (ah (aa 2)) (ai (ah (aa 4)) aO)))) (aj (aj (aj (aj aW)))))) (ao (dS PassesOwn.never rfl (cF (lS (aH (aa 0) ae (fun _ _=>rfl)) rfl T.z_enumerate)) (j_ rfl (bS (aR eT.nd rfl (Or.inl rfl)) (bS (aR eT.nd rfl (Or.inl rfl)) ig))) (ao (ba eT.nd rfl (Or.inl rfl) (gd (cP lG hr (by decide) rfl (ag (aH (aa 7) ae (fun _ _=>rfl)) (ag (cP fW hr (by decide) rfl (ag (aa 5) (ag (aH (aa 7) ae (fun _ _=>rfl)) aq)) (bf (bf dA))) (ag (aa 2) aq))) (bf (bf (bf dA)))))) (aF (mQ rfl (Or.inl rfl) (ah (yK (cq IG (aa 6) (aa 3) (by with_unfolding_all rfl)) (az sf (aa 2) (aa 8)) (aa 8))))))) (aF (cO (aX 5)))))),hm,F.kp,F.binds fun _ _ _ _ _ _ us hl=>match us,hl with | [_,_,_,_,_],_=>rfl⟩
abbrev gu:Stmt:=top 7
noncomputable abbrev gz:List Str:=["net","wires"]
noncomputable def uZ:{b:List Stmt // aJ gu=b}:=⟨_,by conv=>lhs;whnf⟩
noncomputable def kh:{b:Scope // ax gu=b}:=⟨_,by conv=>lhs;whnf⟩
theorem w9:aY gz ["net","wires"] kh.1:=⟨rfl,rfl,rfl,by decide+kernel,rfl,by decide+kernel,by decide+kernel⟩
def kY:FZ:=(gZ (nV (ef (cS (e2 cN (af 0) (eC (.int 2)))) (o9 2 (eO (bq 0) (eO (bq 1) pf))) k8 (aS eI (aw (af 2) (aw (af 1) aZ))) ["name","numbers"] [1])))
def uM:List V3->aD->R3 V3:=nK gz kY
def g8:List V3->aD->R3 V3:=nS gz kY
theorem wM(T:Tp K mg cl)(h:Def K mg "out_masks" gu)(fW:Callee P w K mg base 1 "masks_at" 2 eI):bC P w K mg base cl 2 "out_masks" 2 uM:=by
 obtain⟨f,fd,F,hm⟩:=h;exact⟨f,fd,_,bN (k:=1) uZ.2 kh.2 F w9 (fun dI A outer s H E hr=>(aF (cO (iC (c_ rfl (bL.of (own:=["name","numbers"]) (kp:=[1]) (kn:=["wires"]) (sc:=kh.1) (N:=gz) rfl rfl (by decide+kernel)) (bE (aH (aa 0) ae (fun _ _=>rfl))) (fun _ _ _=>(qG rfl (fO (bt (show List.Nodup [(Str.ofString "name"),"numbers","wires"] from by decide+kernel) rfl (Or.inl rfl)) (fO (bt (show List.Nodup [(Str.ofString "name"),"numbers","wires"] from by decide+kernel) rfl (Or.inl rfl)) oF)))) (fun _ _ _=>dF) (fun _ _ _=>(cP fW hr (by decide) rfl (ag (aa 2) (ag (aa 1) aq)) (bf (bf dA))))))))),hm,F.kp,F.binds fun _ _ _ _ _ _ us hl=>match us,hl with | [_,_],_=>rfl⟩
abbrev jY:Stmt:=top 8
noncomputable abbrev lK:List Str:=["masks","full","ones"]
noncomputable def yC:{b:List Stmt // aJ jY=b}:=⟨_,by conv=>lhs;whnf⟩
noncomputable def qZ:{b:Scope // ax jY=b}:=⟨_,by conv=>lhs;whnf⟩
theorem tJ:aY lK ["masks","full"] qZ.1:=⟨rfl,rfl,rfl,by decide+kernel,rfl,by decide+kernel,by decide+kernel⟩
def sV:FS:=(kJ (Be (b2 r6 (aS gx (aw (af 0) aZ)) (eC (.int 2))) (jw (kI (aw (e2 z6 (af 1) (e2 Em (e2 cN (af 0) (eC (.int 0))) (e2 cN (af 0) (eC (.int 1))))) (aw (e2 EX (e2 cN (af 0) (eC (.int 0))) (e2 cN (af 0) (eC (.int 1)))) aZ)))) xg) (kJ (wa 2 (HK (b2 r6 (aS gx (aw (af 0) aZ)) (eC (.int 1))) (e2 cN (af 0) (eC (.int 0))) (aS fJ (aw (af 0) aZ)))) (jw (kI (aw (e2 z6 (af 1) (af 2)) (aw (af 2) aZ))))))
def jF:List D->R D:=wz lK sV
theorem A9(T:Tp K mg cl)(h:Def K mg "reading" jY)(ia:Callee P w K mg base 1 "vote_of" 1 fJ):Callee P w K mg base 2 "reading" 2 jF:=by
 obtain⟨f,fd,F,hm⟩:=h;exact⟨f,fd,_,dH (k:=1) yC.2 qZ.2 F tJ (fun dI A outer s H E hr=>(c9 (lJ (cq (qC hr.units) (bb fD rfl T.z_len PySem.boot_len (ag (aa 0) aq)) ae (cD _)) (bH (ck (d8 (ag (az sf (aa 1) (az vI (aH (aa 0) ae (fun _ _=>rfl)) (aH (aa 0) ae (fun _ _=>rfl)))) (ag (az x_ (aH (aa 0) ae (fun _ _=>rfl)) (aH (aa 0) ae (fun _ _=>rfl))) aq))))) jx) (c9 (qr tJ.nd rfl (Or.inl rfl) (yK (cq (qC hr.units) (bb fD rfl T.z_len PySem.boot_len (ag (aa 0) aq)) ae (cD _)) (aH (aa 0) ae (fun _ _=>rfl)) (cP ia hr (by decide) rfl (ag (aa 0) aq) (bf dA)))) (bH (ck (d8 (ag (az sf (aa 1) (aa 2)) (ag (aa 2) aq)))))))),hm,F.kp,F.binds fun _ _ _ _ _ _ us hl=>match us,hl with | [_,_],_=>rfl⟩
abbrev eM:Stmt:=top 9
noncomputable abbrev g_:List Str:=["count","inputs","place","longer","bits"]
noncomputable def sC:{b:List Stmt // aJ eM=b}:=⟨_,by conv=>lhs;whnf⟩
noncomputable def l5:{b:Scope // ax eM=b}:=⟨_,by conv=>lhs;whnf⟩
theorem d9:aY g_ ["count"] l5.1:=⟨rfl,rfl,rfl,by decide+kernel,rfl,by decide+kernel,by decide+kernel⟩
def k_:FZ:=(bo (oJ 3 (xP (e2 fF (af 4) (kI (aw (eC (.int 0)) aZ))))) (oJ 3 (xP (e2 fF (af 4) (kI (aw (eC (.int 1)) aZ))))))
def lh:FZ:=(A1 1 (bo (cx 3 (nV (j0 aZ))) (bo (iZ (iP (cS (af 1))) (lH 4) k_) (cx 1 (bY 3)))))
def j9:FZ:=(bo (cx 1 (nV (j0 (aw (kI aZ) aZ)))) (bo (iZ (iP (kL (af 0))) (lH 2) lh) (gZ (bY 1))))
def sF:List V3->aD->R3 V3:=nK g_ j9
def gm:List V3->aD->R3 V3:=nS g_ j9
theorem uf(T:Tp K mg cl)(h:Def K mg "all_inputs" eM):bC P w K mg base cl 1 "all_inputs" 1 sF:=by
 obtain⟨f,fd,F,hm⟩:=h;exact⟨f,fd,_,bN (k:=0) sC.2 l5.2 F d9 (fun dI A outer s H E hr=>(ao (ba d9.nd rfl (Or.inl rfl) (iC (dJ (ag (d8 aq) aq)))) (ao (dS PassesOwn.never rfl (cF (i0 (aa 0) rfl T.z_range)) (aR d9.nd rfl (Or.inl rfl)) (zE 1 (ao (ba d9.nd rfl (Or.inl rfl) (iC (dJ aq))) (ao (dS PassesOwn.never rfl (cF (bE (aa 1))) (aR d9.nd rfl (Or.inl rfl)) (ao (mQ rfl (Or.inl rfl) (ah (az iL (aa 4) (d8 (ag ae aq))))) (aF (mQ rfl (Or.inl rfl) (ah (az iL (aa 4) (d8 (ag ae aq)))))))) (aF (ba d9.nd rfl (Or.inl rfl) (aX 3))))))) (aF (cO (aX 1)))))),hm,F.kp,F.binds fun _ _ _ _ _ _ us hl=>match us,hl with | [_],_=>rfl⟩
abbrev jH:Stmt:=top 10
noncomputable abbrev oa:List Str:=["bits","mask","bit"]
noncomputable def yj:{b:List Stmt // aJ jH=b}:=⟨_,by conv=>lhs;whnf⟩
noncomputable def rB:{b:Scope // ax jH=b}:=⟨_,by conv=>lhs;whnf⟩
theorem lM:aY oa ["bits"] rB.1:=⟨rfl,rfl,rfl,by decide+kernel,rfl,by decide+kernel,by decide+kernel⟩
def lz:FS:=(wa 1 (e2 gA (e2 lX (af 1) (eC (.int 2))) (af 2)))
def sW:FS:=(kJ (wa 1 (eC (.int 0))) (kJ (yB (Hc (af 0)) (bq 2) lz) (jw (af 1))))
def fH:List D->R D:=wz oa sW
theorem AN(T:Tp K mg cl)(h:Def K mg "mask_of" jH):Callee P w K mg base 1 "mask_of" 1 fH:=by
 obtain⟨f,fd,F,hm⟩:=h;exact⟨f,fd,_,dH (k:=0) yj.2 rB.2 F lM (fun dI A outer s H E hr=>(c9 (qr lM.nd rfl (Or.inl rfl) ae) (c9 (rj PassesOwn.never rfl (Du (aa 0) rfl T.z_reversed) (bt lM.nd rfl (Or.inl rfl)) (bH (qr lM.nd rfl (Or.inl rfl) (az jb (az tj (aa 1) ae) (aa 2))))) (bH (ck (aa 1)))))),hm,F.kp,F.binds fun _ _ _ _ _ _ us hl=>match us,hl with | [_],_=>rfl⟩
abbrev jG:Stmt:=top 11
noncomputable abbrev nU:List Str:=["inputs","place"]
noncomputable def yJ:{b:List Stmt // aJ jG=b}:=⟨_,by conv=>lhs;whnf⟩
noncomputable def mH:{b:Scope // ax jG=b}:=⟨_,by conv=>lhs;whnf⟩
theorem AW:aY nU ["inputs","place"] mH.1:=⟨rfl,rfl,rfl,by decide+kernel,rfl,by decide+kernel,by decide+kernel⟩
def tu:FS:=(jw (aS fH (aw (eNew (ef (cS (af 0)) (bq 0) k8 (e2 cN (af 0) (af 1)) ["bits"] [1])) aZ)))
def jS:List D->R D:=wz nU tu
theorem A0(T:Tp K mg cl)(h:Def K mg "in_mask" jG)(ib:Callee P w K mg base 1 "mask_of" 1 fH):Callee P w K mg base 2 "in_mask" 2 jS:=by
 obtain⟨f,fd,F,hm⟩:=h;exact⟨f,fd,_,dH (k:=1) yJ.2 mH.2 F AW (fun dI A outer s H E hr=>(bH (ck (cP ib hr (by decide) rfl (ag (dw (c_ rfl (bL.of (own:=["bits"]) (kp:=[1]) (kn:=["place"]) (sc:=mH.1) (N:=nU) rfl rfl (by decide+kernel)) (bE (aa 0)) (fun _ _ _=>(bt (show List.Nodup [(Str.ofString "bits"),"place"] from by decide+kernel) rfl (Or.inl rfl))) (fun _ _ _=>dF) (fun _ _ _=>(aH (aa 0) (aa 1) (fun _ _=>rfl))))) aq) (bf dA))))),hm,F.kp,F.binds fun _ _ _ _ _ _ us hl=>match us,hl with | [_,_],_=>rfl⟩
abbrev jB:Stmt:=top 14
noncomputable abbrev jN:List Str:=["places","size","found","ahead","place","rest"]
noncomputable def yF:{b:List Stmt // aJ jB=b}:=⟨_,by conv=>lhs;whnf⟩
noncomputable def qv:{b:Scope // ax jB=b}:=⟨_,by conv=>lhs;whnf⟩
theorem jP:aY jN ["places","size"] qv.1:=⟨rfl,rfl,rfl,by decide+kernel,rfl,by decide+kernel,by decide+kernel⟩
def lp(self:List D->R D):FS:=(Bm 2 (e2 fF (kI (aw (af 4) aZ)) (af 5)))
def kR(self:List D->R D):FS:=(yB (cS (aS self (aw (GY (af 0) (ph (e2 fF (af 3) (eC (.int 1)))) t_) (aw (e2 xc (af 1) (eC (.int 1))) aZ)))) (bq 5) (lp self))
def jW(self:List D->R D):FS:=(kJ (Be (b2 r6 (af 1) (eC (.int 0))) (jw (eNew (j0 (aw (kI aZ) aZ)))) xg) (kJ (Ae 2 (j0 aZ)) (kJ (yB (ip (af 0)) (o9 2 (eO (bq 3) (eO (bq 4) pf))) (kR self)) (F4 2 (jw (af 2))))))
def dG:Nat->List D->R D
 | 0=>fun _=> .no
 | n+1=>wz jN (jW (dG n))
theorem sZ(T:Tp K mg cl)(h:Def K mg "choices" jB):∀n,Callee P w K mg base (1+n) "choices" 2 (dG n)
 | 0=>by
   obtain⟨f,fd,F,hm⟩:=h;exact⟨f,fd,["places","size"],Kg,hm,F.kp,F.binds fun _ _ _ _ _ _ us hl=>match us,hl with | [_,_],_=>rfl⟩
 | n+1=>by
   have JJ:=sZ T h n;obtain⟨f,fd,F,hm⟩:=h;exact⟨f,fd,_,dH (k:=1+n) yF.2 qv.2 F jP (fun dI A outer s H E hr=>(c9 (lJ (cq (qC hr.units) (aa 1) ae (cD _)) (bH (ck (dw (dJ (ag (d8 aq) aq))))) jx) (c9 (Ct jP.nd rfl (Or.inl rfl) (dJ aq)) (c9 (rj PassesOwn.never rfl (lS (aa 0) rfl T.z_enumerate) (qG rfl (fO (bt jP.nd rfl (Or.inl rfl)) (fO (bt jP.nd rfl (Or.inl rfl)) oF))) (bH (rj PassesOwn.never rfl (bE (cP JJ hr (by omega) rfl (ag (u9 (aa 0) (m5 (az iL (aa 3) ae)) nj) (ag (az rm (aa 1) ae) aq)) (bf (bf dA)))) (bt jP.nd rfl (Or.inl rfl)) (bH (Cs rfl (Or.inl rfl) (az iL (d8 (ag (aa 4) aq)) (aa 5))))))) (DB 2 (bH (ck (aa 2)))))))),hm,F.kp,F.binds fun _ _ _ _ _ _ us hl=>match us,hl with | [_,_],_=>rfl⟩
abbrev jQ:Stmt:=top 17
noncomputable abbrev oj:List Str:=["places","others"]
noncomputable def yM:{b:List Stmt // aJ jQ=b}:=⟨_,by conv=>lhs;whnf⟩
noncomputable def mK:{b:Scope // ax jQ=b}:=⟨_,by conv=>lhs;whnf⟩
theorem Ab:aY oj ["places","others"] mK.1:=⟨rfl,rfl,rfl,by decide+kernel,rfl,by decide+kernel,by decide+kernel⟩
def tU:FS:=(jw (aS IP (aw (eNew (ef (cS (af 1)) (bq 0) k8 (e2 Ei (af 0) (af 1)) ["place"] [0])) aZ)))
def hW:List D->R D:=wz oj tU
theorem Ak(T:Tp K mg cl)(h:Def K mg "has_all" jQ):Callee P w K mg base 1 "has_all" 2 hW:=by
 obtain⟨f,fd,F,hm⟩:=h;exact⟨f,fd,_,dH (k:=0) yM.2 mK.2 F Ab (fun dI A outer s H E hr=>(bH (ck (bb (K2 rfl) rfl T.z_all PyProof.Rows.boot_all (ag (dw (c_ rfl (bL.of (own:=["place"]) (kp:=[0]) (kn:=["places"]) (sc:=mK.1) (N:=oj) rfl rfl (by decide+kernel)) (bE (aa 1)) (fun _ _ _=>(bt (show List.Nodup [(Str.ofString "place"),"places"] from by decide+kernel) rfl (Or.inl rfl))) (fun _ _ _=>dF) (fun _ _ _=>(vf IG (aa 0) (aa 1) (by with_unfolding_all rfl))))) aq))))),hm,F.kp,F.binds fun _ _ _ _ _ _ us hl=>match us,hl with | [_,_],_=>rfl⟩
abbrev bz:Stmt:=inClass (top 12) 0
noncomputable abbrev cw:List Str:=["self","net","inputs"]
noncomputable def nu:{b:List Stmt // aJ bz=b}:=⟨_,by conv=>lhs;whnf⟩
noncomputable def dM:{b:Scope // ax bz=b}:=⟨_,by conv=>lhs;whnf⟩
theorem jD:aY cw ["self","net"] dM.1:=⟨rfl,rfl,rfl,by decide+kernel,rfl,by decide+kernel,by decide+kernel⟩
def fN:FZ:=(bo (cx 2 (c8 gm (aA (xP (aS gx (aw (e2 cN (af 1) (eC (.int 0))) aZ))) cB))) (bo (uh 0 "net" (bY 0) (xP (af 1))) (bo (uh 0 "many_inputs" (bY 0) (xP (aS gx (aw (af 2) aZ)))) (bo (uh 0 "full" (bY 0) (xP (aS fH (aw (eNew (ef (cS (af 2)) (bq 0) k8 (eC (.int 1)) ["bits"] [])) aZ)))) (uh 0 "in_masks" (bY 0) (xP (eNew (ef (kL (aS gx (aw (e2 cN (af 1) (eC (.int 0))) aZ))) (bq 0) k8 (aS jS (aw (af 1) (aw (af 0) aZ))) ["place"] [2]))))))))
def cR:List V3->aD->R3 V3:=nK cw fN
def y7:List V3->aD->R3 V3:=nS cw fN
theorem dg(T:Tp K mg cl)(h:Ay K (cl 0) "__init__" "Bench.__init__" bz)(ib:Callee P w K mg base 1 "mask_of" 1 fH)(oO:Callee P w K mg base 2 "in_mask" 2 jS)(jt:bC P w K mg base cl 1 "all_inputs" 1 gm):vV P w K mg base cl 3 0 "Bench" 1 cR:=by
 obtain⟨f,fd,F,hm⟩:=h;exact⟨f,fd,_,hm,bN (k:=2) nu.2 dM.2 F jD (fun dI A outer s H E hr=>(ao (ba jD.nd rfl (Or.inr rfl) (bK jt hr (by decide) rfl (ai (ah (bb fD rfl T.z_len PySem.boot_len (ag (aH (aa 1) ae (fun _ _=>rfl)) aq))) aO) (aj aW))) (ao (mq T.C_Bench T.N_Bench_net (aX 0) (ah (aa 1))) (ao (mq T.C_Bench T.N_Bench_many_inputs (aX 0) (ah (bb fD rfl T.z_len PySem.boot_len (ag (aa 2) aq)))) (ao (mq T.C_Bench T.N_Bench_full (aX 0) (ah (cP ib hr (by decide) rfl (ag (dw (c_ rfl (bL.of (own:=["bits"]) (kp:=[]) (kn:=[]) (sc:=dM.1) (N:=cw) rfl rfl (by decide+kernel)) (bE (aa 2)) (fun _ _ _=>(bt (show List.Nodup [(Str.ofString "bits")] from by decide+kernel) rfl (Or.inl rfl))) (fun _ _ _=>dF) (fun _ _ _=>ae))) aq) (bf dA)))) (aF (mq T.C_Bench T.N_Bench_in_masks (aX 0) (ah (dw (c_ rfl (bL.of (own:=["place"]) (kp:=[2]) (kn:=["inputs"]) (sc:=dM.1) (N:=cw) rfl rfl (by decide+kernel)) (i0 (bb fD rfl T.z_len PySem.boot_len (ag (aH (aa 1) ae (fun _ _=>rfl)) aq)) rfl T.z_range) (fun _ _ _=>(bt (show List.Nodup [(Str.ofString "place"),"inputs"] from by decide+kernel) rfl (Or.inl rfl))) (fun _ _ _=>dF) (fun _ _ _=>(cP oO hr (by decide) rfl (ag (aa 1) (ag (aa 0) aq)) (bf (bf dA)))))))))))))),T.M_Bench,F.binds fun _ _ _ _ _ _ us hl=>match us,hl with | [_,_],_=>rfl⟩
abbrev bU:Stmt:=inClass (top 12) 1
noncomputable abbrev gh:List Str:=["self","turned","bad"]
noncomputable def rF:{b:List Stmt // aJ bU=b}:=⟨_,by conv=>lhs;whnf⟩
noncomputable def k3:{b:Scope // ax bU=b}:=⟨_,by conv=>lhs;whnf⟩
theorem r_:aY gh ["self","turned","bad"] k3.1:=⟨rfl,rfl,rfl,by decide+kernel,rfl,by decide+kernel,by decide+kernel⟩
def jj:FZ:=(gZ (c8 g8 (aA (rJ 0 "net" (bY 0)) (aA (c8 gb (aA (rJ 0 "net" (bY 0)) (aA (rJ 0 "in_masks" (bY 0)) (aA (rJ 0 "full" (bY 0)) (aA (xP (af 1)) (aA (xP (af 2)) cB)))))) cB))))
def rH:List V3->aD->R3 V3:=nK gh jj
def eN:List V3->aD->R3 V3:=nS gh jj
theorem en(T:Tp K mg cl)(h:uS K (cl 0) "tells" "Bench.tells" bU)(js:bC P w K mg base cl 3 "wire_masks" 5 gb)(kr:bC P w K mg base cl 2 "out_masks" 2 g8):lu P w K mg base cl 4 0 "tells" 2 rH:=by
 obtain⟨f,fd,F,hm⟩:=h;exact⟨f,fd,_,T.C_Bench,hm,bN (k:=3) rF.2 k3.2 F r_ (fun dI A outer s H E hr=>(aF (cO (bK kr hr (by decide) rfl (ai (j7 T.C_Bench T.N_Bench_net (aX 0)) (ai (bK js hr (by decide) rfl (ai (j7 T.C_Bench T.N_Bench_net (aX 0)) (ai (j7 T.C_Bench T.N_Bench_in_masks (aX 0)) (ai (j7 T.C_Bench T.N_Bench_full (aX 0)) (ai (ah (aa 1)) (ai (ah (aa 2)) aO))))) (aj (aj (aj (aj (aj aW)))))) aO)) (aj (aj aW)))))),F.binds fun _ _ _ _ _ _ us hl=>match us,hl with | [_,_,_],_=>rfl⟩
abbrev br:Stmt:=inClass (top 12) 2
noncomputable abbrev de:List Str:=["self","turned"]
noncomputable def nJ:{b:List Stmt // aJ br=b}:=⟨_,by conv=>lhs;whnf⟩
noncomputable def e8:{b:Scope // ax br=b}:=⟨_,by conv=>lhs;whnf⟩
theorem nW:aY de ["self","turned"] e8.1:=⟨rfl,rfl,rfl,by decide+kernel,rfl,by decide+kernel,by decide+kernel⟩
def fI:FZ:=(gZ (l3 (wV (s_ 0 "tells" eN (bY 0) (aA (xP (af 1)) (aA (xP (kI aZ)) cB)))) (lH 0) AO (mz jF (aA (xP (af 0)) (aA (rJ 0 "full" (bY 1)) cB))) ["masks"] [0]))
def nM:List V3->aD->R3 V3:=nK de fI
def bZ:List V3->aD->R3 V3:=nS de fI
theorem c7(T:Tp K mg cl)(h:uS K (cl 0) "readings" "Bench.readings" br)(oT:Callee P w K mg base 2 "reading" 2 jF)(iU:lu P w K mg base cl 4 0 "tells" 2 eN):lu P w K mg base cl 5 0 "readings" 1 nM:=by
 obtain⟨f,fd,F,hm⟩:=h;exact⟨f,fd,_,T.C_Bench,hm,bN (k:=4) nJ.2 e8.2 F nW (fun dI A outer s H E hr=>(aF (cO (vg rfl (bL.of (own:=["masks"]) (kp:=[0]) (kn:=["self"]) (sc:=e8.1) (N:=de) rfl rfl (by decide+kernel)) (nG (p6 iU hr (by decide) (aX 0) (ai (ah (aa 1)) (ai (ah (d8 aq)) aO)) (aj (aj aW)))) (fun _ _ _=>(aR (show List.Nodup [(Str.ofString "masks"),"self"] from by decide+kernel) rfl (Or.inl rfl))) (fun _ _ _=>lR) (fun _ _ _=>(vU oT hr (by decide) rfl (ai (ah (aa 0)) (ai (j7 T.C_Bench T.N_Bench_full (aX 1)) aO)) (aj (aj aW)))))))),F.binds fun _ _ _ _ _ _ us hl=>match us,hl with | [_,_],_=>rfl⟩
abbrev bw:Stmt:=inClass (top 15) 0
noncomputable abbrev dk:List Str:=["self","net"]
noncomputable def nP:{b:List Stmt // aJ bw=b}:=⟨_,by conv=>lhs;whnf⟩
noncomputable def eR:{b:Scope // ax bw=b}:=⟨_,by conv=>lhs;whnf⟩
theorem n5:aY dk ["self","net"] eR.1:=⟨rfl,rfl,rfl,by decide+kernel,rfl,by decide+kernel,by decide+kernel⟩
def fK:FZ:=(bo (uh 1 "bench" (bY 0) (zP 0 cR (aA (xP (af 1)) cB))) (bo (uh 1 "plain" (bY 0) (s_ 0 "readings" bZ (rJ 1 "bench" (bY 0)) (aA (xP (kI aZ)) cB))) (uh 1 "unsure" (bY 0) (xP (eNew (ef (ip (e2 cN (af 1) (eC (.int 1)))) (o9 2 (eO (bq 0) (eO (bq 1) pf))) (uI (qX (e2 cN (af 1) (eC (.int 2))))) (af 0) ["place","gate"] []))))))
def cV:List V3->aD->R3 V3:=nK dk fK
def zH:List V3->aD->R3 V3:=nS dk fK
theorem c6(T:Tp K mg cl)(h:Ay K (cl 1) "__init__" "Trial.__init__" bw)(fq:vV P w K mg base cl 3 0 "Bench" 1 cR)(b_:lu P w K mg base cl 5 0 "readings" 1 bZ):vV P w K mg base cl 6 1 "Trial" 1 cV:=by
 obtain⟨f,fd,F,hm⟩:=h;exact⟨f,fd,_,hm,bN (k:=5) nP.2 eR.2 F n5 (fun dI A outer s H E hr=>(ao (mq T.C_Trial T.N_Trial_bench (aX 0) (y0 fq hr (by decide) rfl (ai (ah (aa 1)) aO) (aj aW))) (ao (mq T.C_Trial T.N_Trial_plain (aX 0) (p6 b_ hr (by decide) (j7 T.C_Trial T.N_Trial_bench (aX 0)) (ai (ah (d8 aq)) aO) (aj aW))) (aF (mq T.C_Trial T.N_Trial_unsure (aX 0) (ah (dw (c_ rfl (bL.of (own:=["place","gate"]) (kp:=[]) (kn:=[]) (sc:=eR.1) (N:=dk) rfl rfl (by decide+kernel)) (lS (aH (aa 1) ae (fun _ _=>rfl)) rfl T.z_enumerate) (fun _ _ _=>(qG rfl (fO (bt (show List.Nodup [(Str.ofString "place"),"gate"] from by decide+kernel) rfl (Or.inl rfl)) (fO (bt (show List.Nodup [(Str.ofString "place"),"gate"] from by decide+kernel) rfl (Or.inl rfl)) oF)))) (fun _ _ _=>(qq (pY (nF (aH (aa 1) ae (fun _ _=>rfl)))))) (fun _ _ _=>(aa 0)))))))))),T.M_Trial,F.binds fun _ _ _ _ _ _ us hl=>match us,hl with | [_,_],_=>rfl⟩
abbrev bj:Stmt:=inClass (top 15) 1
noncomputable abbrev dO:List Str:=["self","turned","level","mask","before","after"]
noncomputable def mL:{b:List Stmt // aJ bj=b}:=⟨_,by conv=>lhs;whnf⟩
noncomputable def iA:{b:Scope // ax bj=b}:=⟨_,by conv=>lhs;whnf⟩
theorem b8:aY dO ["self","turned","level"] iA.1:=⟨rfl,rfl,rfl,by decide+kernel,rfl,by decide+kernel,by decide+kernel⟩
def gW:FZ:=(yG (bP (b2 r6 (af 2) (eC (.str "safe")))) (cx 3 (xP (e2 Em (e2 Em (af 3) (e2 EX (e2 cN (af 4) (eC (.int 0))) (e2 cN (af 5) (eC (.int 1))))) (e2 EX (e2 cN (af 4) (eC (.int 1))) (e2 cN (af 5) (eC (.int 0))))))) (cx 3 (xP (e2 Em (e2 Em (af 3) (e2 z6 (e2 cN (af 4) (eC (.int 0))) (e2 cN (af 5) (eC (.int 0))))) (e2 z6 (e2 cN (af 4) (eC (.int 1))) (e2 cN (af 5) (eC (.int 1))))))))
def eY:FZ:=(bo (cx 3 (xP (eC (.int 0)))) (bo (iZ (Hm (rJ 1 "plain" (bY 0)) (s_ 0 "readings" bZ (rJ 1 "bench" (bY 0)) (aA (xP (af 1)) cB))) (Ga 2 (xp (lH 4) (xp (lH 5) GL))) gW) (gZ (xP (af 3)))))
def mD:List V3->aD->R3 V3:=nK dO eY
def dy:List V3->aD->R3 V3:=nS dO eY
theorem cT(T:Tp K mg cl)(h:uS K (cl 1) "breaks_at" "Trial.breaks_at" bj)(b_:lu P w K mg base cl 5 0 "readings" 1 bZ):lu P w K mg base cl 6 1 "breaks_at" 2 mD:=by
 obtain⟨f,fd,F,hm⟩:=h;exact⟨f,fd,_,T.C_Trial,hm,bN (k:=5) mL.2 iA.2 F b8 (fun dI A outer s H E hr=>(ao (ba b8.nd rfl (Or.inl rfl) (ah ae)) (ao (dS PassesOwn.never rfl (Gp (j7 T.C_Trial T.N_Trial_plain (aX 0)) (p6 b_ hr (by decide) (j7 T.C_Trial T.N_Trial_bench (aX 0)) (ai (ah (aa 1)) aO) (aj aW)) rfl T.z_zip) (j_ rfl (bS (aR b8.nd rfl (Or.inl rfl)) (bS (aR b8.nd rfl (Or.inl rfl)) ig))) (aF (kQ (eU (cq (qC hr.units) (aa 2) cQ (cD _))) (aF (ba b8.nd rfl (Or.inl rfl) (ah (az vI (az vI (aa 3) (az x_ (aH (aa 4) ae (fun _ _=>rfl)) (aH (aa 5) ae (fun _ _=>rfl)))) (az x_ (aH (aa 4) ae (fun _ _=>rfl)) (aH (aa 5) ae (fun _ _=>rfl))))))) (aF (ba b8.nd rfl (Or.inl rfl) (ah (az vI (az vI (aa 3) (az sf (aH (aa 4) ae (fun _ _=>rfl)) (aH (aa 5) ae (fun _ _=>rfl)))) (az sf (aH (aa 4) ae (fun _ _=>rfl)) (aH (aa 5) ae (fun _ _=>rfl)))))))))) (aF (cO (ah (aa 3))))))),F.binds fun _ _ _ _ _ _ us hl=>match us,hl with | [_,_,_],_=>rfl⟩
abbrev iM:Stmt:=top 18
noncomputable abbrev fL:List Str:=["net","many","level","trial","found","size","places"]
noncomputable def wH:{b:List Stmt // aJ iM=b}:=⟨_,by conv=>lhs;whnf⟩
noncomputable def lx:{b:Scope // ax iM=b}:=⟨_,by conv=>lhs;whnf⟩
theorem ij:aY fL ["net","many","level"] lx.1:=⟨rfl,rfl,rfl,by decide+kernel,rfl,by decide+kernel,by decide+kernel⟩
def kl:FZ:=(yG (bT (qX (aS BQ (aw (eNew (ef (cS (af 4)) (bq 0) k8 (aS hW (aw (af 1) (aw (af 0) aZ))) ["others"] [6])) aZ)))) nO (yG (Lr Fg (s_ 1 "breaks_at" dy (bY 3) (aA (xP (af 6)) (aA (xP (af 2)) cB))) (xP (eC (.int 0)))) (oJ 4 (xP (af 6))) nO))
def nC:FZ:=(iZ (wV (mz (dG 4) (aA (rJ 1 "unsure" (bY 3)) (aA (xP (af 5)) cB)))) (lH 6) kl)
def kj:FZ:=(bo (cx 3 (zP 1 cV (aA (xP (af 0)) cB))) (bo (cx 4 (nV (j0 aZ))) (bo (iZ (iP (kL (e2 gA (af 1) (eC (.int 1))))) (lH 5) nC) (gZ (bY 4)))))
def kN:List V3->aD->R3 V3:=nK fL kj
def eK:List V3->aD->R3 V3:=nS fL kj
theorem xQ(T:Tp K mg cl)(h:Def K mg "breaking" iM)(oQ:Callee P w K mg base 5 "choices" 2 (dG 4))(oZ:Callee P w K mg base 1 "has_all" 2 hW)(fk:vV P w K mg base cl 6 1 "Trial" 1 cV)(eJ:lu P w K mg base cl 6 1 "breaks_at" 2 dy):bC P w K mg base cl 8 "breaking" 3 kN:=by
 obtain⟨f,fd,F,hm⟩:=h;exact⟨f,fd,_,bN (k:=7) wH.2 lx.2 F ij (fun dI A outer s H E hr=>(ao (ba ij.nd rfl (Or.inl rfl) (y0 fk hr (by decide) rfl (ai (ah (aa 0)) aO) (aj aW))) (ao (ba ij.nd rfl (Or.inl rfl) (iC (dJ aq))) (ao (dS PassesOwn.never rfl (cF (i0 (az jb (aa 1) ae) rfl T.z_range)) (aR ij.nd rfl (Or.inl rfl)) (aF (EJ PassesOwn.never rfl (nG (vU oQ hr (by decide) rfl (ai (j7 T.C_Trial T.N_Trial_unsure (aX 3)) (ai (ah (aa 5)) aO)) (aj (aj aW)))) (aR ij.nd rfl (Or.inr rfl)) (BF (BC (nF (bb (Ha rfl) rfl T.z_any PyProof.Rows.boot_any (ag (dw (c_ rfl (bL.of (own:=["others"]) (kp:=[6]) (kn:=["places"]) (sc:=lx.1) (N:=fL) rfl rfl (by decide+kernel)) (bE (aa 4)) (fun _ _ _=>(bt (show List.Nodup [(Str.ofString "others"),"places"] from by decide+kernel) rfl (Or.inl rfl))) (fun _ _ _=>dF) (fun _ _ _=>(cP oZ hr (by decide) rfl (ag (aa 1) (ag (aa 0) aq)) (bf (bf dA)))))) aq)))) (Jm (aF (kQ (uW (Jf hr.units) (p6 eJ hr (by decide) (aX 3) (ai (ah (aa 6)) (ai (ah (aa 2)) aO)) (aj (aj aW))) (ah ae) (cD _)) (aF (mQ rfl (Or.inl rfl) (ah (aa 6)))) gf))))))) (aF (cO (aX 4))))))),hm,F.kp,F.binds fun _ _ _ _ _ _ us hl=>match us,hl with | [_,_,_],_=>rfl⟩
abbrev eu:Stmt:=top 19
noncomputable abbrev ei:List Str:=["groups","taken","count","group","place"]
noncomputable def qW:{b:List Stmt // aJ eu=b}:=⟨_,by conv=>lhs;whnf⟩
noncomputable def ik:{b:Scope // ax eu=b}:=⟨_,by conv=>lhs;whnf⟩
theorem dE:aY ei ["groups"] ik.1:=⟨rfl,rfl,rfl,by decide+kernel,rfl,by decide+kernel,by decide+kernel⟩
def kB:FZ:=(zq (bY 1) (xP (af 4)) (xP (eC (.bl true))))
def ky:FZ:=(yG (Ie (Fj (mz BQ (aA (l3 (iP (cS (af 3))) (lH 0) AO (II (xP (af 0)) (bY 1)) ["place"] [1]) cB)))) (bo (cx 2 (xP (e2 gA (af 2) (eC (.int 1))))) (iZ (iP (cS (af 3))) (lH 4) kB)) nO)
def jk:FZ:=(bo (cx 1 zj) (bo (cx 2 (xP (eC (.int 0)))) (bo (iZ (iP (cS (af 0))) (lH 3) ky) (gZ (xP (af 2))))))
def rK:List V3->aD->R3 V3:=nK ei jk
def eZ:List V3->aD->R3 V3:=nS ei jk
theorem sk(T:Tp K mg cl)(h:Def K mg "count_apart" eu):bC P w K mg base cl 1 "count_apart" 1 rK:=by
 obtain⟨f,fd,F,hm⟩:=h;exact⟨f,fd,_,bN (k:=0) qW.2 ik.2 F dE (fun dI A outer s H E hr=>(ao (ba dE.nd rfl (Or.inr rfl) zm) (ao (ba dE.nd rfl (Or.inl rfl) (ah ae)) (ao (dS PassesOwn.never rfl (cF (bE (aa 0))) (aR dE.nd rfl (Or.inl rfl)) (aF (kQ (Fz (Cn (BH (Ha rfl) rfl T.z_any PyProof.Rows.boot_any (ai (vg rfl (bL.of (own:=["place"]) (kp:=[1]) (kn:=["taken"]) (sc:=ik.1) (N:=ei) rfl rfl (by decide+kernel)) (cF (bE (aa 3))) (fun _ _ _=>(aR (show List.Nodup [(Str.ofString "place"),"taken"] from by decide+kernel) rfl (Or.inl rfl))) (fun _ _ _=>lR) (fun _ _ _=>(HU (Bp hr) (ah (aa 0)) (aX 1) (by with_unfolding_all rfl)))) aO)))) (ao (ba dE.nd rfl (Or.inl rfl) (ah (az jb (aa 2) ae))) (aF (dS PassesOwn.never rfl (cF (bE (aa 3))) (aR dE.nd rfl (Or.inl rfl)) (aF (zi (Bp hr) (ah yz) (aX 1) (ah (aa 4))))))) gf))) (aF (cO (ah (aa 2)))))))),hm,F.kp,F.binds fun _ _ _ _ _ _ us hl=>match us,hl with | [_],_=>rfl⟩
abbrev k5:Stmt:=top 20
noncomputable abbrev rq:List Str:=["group","place"]
noncomputable def AR:{b:List Stmt // aJ k5=b}:=⟨_,by conv=>lhs;whnf⟩
noncomputable def oh:{b:Scope // ax k5=b}:=⟨_,by conv=>lhs;whnf⟩
theorem CQ:aY rq ["group","place"] oh.1:=⟨rfl,rfl,rfl,by decide+kernel,rfl,by decide+kernel,by decide+kernel⟩
def vN:FS:=(jw (eNew (ef (cS (af 0)) (bq 0) (b2 KH (af 0) (af 1)) (af 0) ["other"] [1])))
def k9:List D->R D:=wz rq vN
theorem Ds(T:Tp K mg cl)(h:Def K mg "behind" k5):Callee P w K mg base 1 "behind" 2 k9:=by
 obtain⟨f,fd,F,hm⟩:=h;exact⟨f,fd,_,dH (k:=0) AR.2 oh.2 F CQ (fun dI A outer s H E hr=>(bH (ck (dw (c_ rfl (bL.of (own:=["other"]) (kp:=[1]) (kn:=["place"]) (sc:=oh.1) (N:=rq) rfl rfl (by decide+kernel)) (bE (aa 0)) (fun _ _ _=>(bt (show List.Nodup [(Str.ofString "other"),"place"] from by decide+kernel) rfl (Or.inl rfl))) (fun _ _ _=>(qq (cq Iy (aa 0) (aa 1) (cD _)))) (fun _ _ _=>(aa 0))))))),hm,F.kp,F.binds fun _ _ _ _ _ _ us hl=>match us,hl with | [_,_],_=>rfl⟩
abbrev eg:Stmt:=top 21
noncomputable abbrev je:List Str:=["groups","place"]
noncomputable def rp:{b:List Stmt // aJ eg=b}:=⟨_,by conv=>lhs;whnf⟩
noncomputable def ix:{b:Scope // ax eg=b}:=⟨_,by conv=>lhs;whnf⟩
theorem sH:aY je ["groups","place"] ix.1:=⟨rfl,rfl,rfl,by decide+kernel,rfl,by decide+kernel,by decide+kernel⟩
def l6:FS:=(jw (eNew (ef (cS (af 0)) (bq 0) (b2 u6 (af 1) (af 0)) (aS k9 (aw (af 0) (aw (af 1) aZ))) ["group"] [1])))
def et:List D->R D:=wz je l6
theorem sL(T:Tp K mg cl)(h:Def K mg "groups_left" eg)(rX:Callee P w K mg base 1 "behind" 2 k9):Callee P w K mg base 2 "groups_left" 2 et:=by
 obtain⟨f,fd,F,hm⟩:=h;exact⟨f,fd,_,dH (k:=1) rp.2 ix.2 F sH (fun dI A outer s H E hr=>(bH (ck (dw (c_ rfl (bL.of (own:=["group"]) (kp:=[1]) (kn:=["place"]) (sc:=ix.1) (N:=je) rfl rfl (by decide+kernel)) (bE (aa 0)) (fun _ _ _=>(bt (show List.Nodup [(Str.ofString "group"),"place"] from by decide+kernel) rfl (Or.inl rfl))) (fun _ _ _=>(qq (cq EG (aa 1) (aa 0) (by with_unfolding_all rfl)))) (fun _ _ _=>(cP rX hr (by decide) rfl (ag (aa 0) (ag (aa 1) aq)) (bf (bf dA))))))))),hm,F.kp,F.binds fun _ _ _ _ _ _ us hl=>match us,hl with | [_,_],_=>rfl⟩
abbrev dY:Stmt:=top 22
noncomputable abbrev dZ:List Str:=["groups","most","last","tried","group","place","rest"]
noncomputable def pJ:{b:List Stmt // aJ dY=b}:=⟨_,by conv=>lhs;whnf⟩
noncomputable def gP:{b:Scope // ax dY=b}:=⟨_,by conv=>lhs;whnf⟩
theorem cJ:aY dZ ["groups","most"] gP.1:=⟨rfl,rfl,rfl,by decide+kernel,rfl,by decide+kernel,by decide+kernel⟩
def jV(self:List V3->aD->R3 V3):FZ:=(yG (bP (b2 GO (af 5) (af 2))) (zq (bY 3) (xP (af 5)) (xP (eC (.bl true)))) nO)
def jz(self:List V3->aD->R3 V3):FZ:=(iZ (iP (cS (af 4))) (lH 5) (jV self))
def jM(self:List V3->aD->R3 V3):FZ:=(bo (cx 6 (c8 self (aA (xP (aS et (aw (af 0) (aw (af 5) aZ)))) (aA (xP (e2 xc (af 1) (eC (.int 1)))) cB)))) (yG (bP (b2 Im (af 6) (eC .bQ))) (gZ (xP (e2 fF (kI (aw (af 5) aZ)) (af 6)))) nO))
def iB(self:List V3->aD->R3 V3):FZ:=(bo (yG (Lr KH (c8 eZ (aA (xP (af 0)) cB)) (xP (af 1))) (gZ (xP (eC .bQ))) nO) (bo (yG (bP (uI (qX (af 0)))) (gZ (xP (kI aZ))) nO) (bo (cx 2 (xP (aS nD (aw (eNew (ef (cS (af 0)) (bq 0) k8 (e2 cN (af 0) (AI (eC (.int 1)))) ["group"] [])) aZ)))) (bo (cx 3 zj) (bo (iZ (iP (cS (af 0))) (lH 4) (jz self)) (bo (iZ (wV (xI (bY 3))) (lH 5) (jM self)) (gZ (xP (eC .bQ)))))))))
def cb:Nat->List V3->aD->R3 V3
 | 0=>fun _ _=> .no
 | n+1=>nS dZ (iB (cb n))
theorem kZ(T:Tp K mg cl)(h:Def K mg "first_places" dY)(gn:Callee P w K mg base 2 "groups_left" 2 et)(fu:bC P w K mg base cl 1 "count_apart" 1 eZ):∀n,bC P w K mg base cl (3+n) "first_places" 2 (cb n)
 | 0=>by
   obtain⟨f,fd,F,hm⟩:=h;exact⟨f,fd,["groups","most"],Jw,hm,F.kp,F.binds fun _ _ _ _ _ _ us hl=>match us,hl with | [_,_],_=>rfl⟩
 | n+1=>by
   have GF:=kZ T h gn fu n;obtain⟨f,fd,F,hm⟩:=h;exact bC.p ⟨f,fd,_,bN (k:=3+n) pJ.2 gP.2 F cJ (fun dI A outer s H E hr=>(ao (kQ (uW Iy (bK fu hr (by omega) rfl (ai (ah (aa 0)) aO) (aj aW)) (ah (aa 1)) (cD _)) (aF (cO (ah qc))) gf) (ao (kQ (eU (pY (nF (aa 0)))) (aF (cO (ah (d8 aq)))) gf) (ao (ba cJ.nd rfl (Or.inl rfl) (ah (bb (xO rfl) rfl T.z_min PyProof.Rows.boot_min (ag (dw (c_ rfl (bL.of (own:=["group"]) (kp:=[]) (kn:=[]) (sc:=gP.1) (N:=dZ) rfl rfl (by decide+kernel)) (bE (aa 0)) (fun _ _ _=>(bt (show List.Nodup [(Str.ofString "group")] from by decide+kernel) rfl (Or.inl rfl))) (fun _ _ _=>dF) (fun _ _ _=>(aH (aa 0) (uV ae) (fun _ _=>rfl))))) aq)))) (ao (ba cJ.nd rfl (Or.inl rfl) zm) (ao (dS PassesOwn.never rfl (cF (bE (aa 0))) (aR cJ.nd rfl (Or.inl rfl)) (aF (dS PassesOwn.never rfl (cF (bE (aa 4))) (aR cJ.nd rfl (Or.inl rfl)) (aF (kQ (eU (cq Ir (aa 5) (aa 2) (cD _))) (aF (zi (Bp hr) (ah yz) (aX 3) (ah (aa 5)))) gf))))) (ao (dS PassesOwn.never rfl (nG (Ce rfl (aX 3) rfl T.z_sorted)) (aR cJ.nd rfl (Or.inl rfl)) (ao (ba cJ.nd rfl (Or.inl rfl) (bK GF hr (by omega) rfl (ai (ah (cP gn hr (by omega) rfl (ag (aa 0) (ag (aa 5) aq)) (bf (bf dA)))) (ai (ah (az rm (aa 1) ae)) aO)) (aj (aj aW)))) (aF (kQ (eU (cq KL (aa 6) qc (cD _))) (aF (cO (ah (az iL (d8 (ag (aa 5) aq)) (aa 6))))) gf)))) (aF (cO (ah qc)))))))))),hm,F.kp,F.binds fun _ _ _ _ _ _ us hl=>match us,hl with | [_,_],_=>rfl⟩
abbrev kP:Stmt:=top 23
noncomputable abbrev k6:List Str:=["net","many","level","groups","most","places"]
noncomputable def Al:{b:List Stmt // aJ kP=b}:=⟨_,by conv=>lhs;whnf⟩
noncomputable def oI:{b:Scope // ax kP=b}:=⟨_,by conv=>lhs;whnf⟩
theorem jE:aY k6 ["net","many","level"] oI.1:=⟨rfl,rfl,rfl,by decide+kernel,rfl,by decide+kernel,by decide+kernel⟩
def mO:FZ:=(bo (cx 4 (xP (e2 gA (af 4) (eC (.int 1))))) (cx 5 (c8 (cb 42) (aA (xP (af 3)) (aA (xP (af 4)) cB)))))
def qU:FZ:=(bo (cx 3 (l3 (wV (c8 eK (aA (xP (af 0)) (aA (xP (af 1)) (aA (xP (af 2)) cB))))) (lH 0) AO (xP (aS CP (aw (af 0) aZ))) ["places"] [])) (bo (cx 4 (xP (eC (.int 0)))) (bo (cx 5 (c8 (cb 42) (aA (xP (af 3)) (aA (xP (af 4)) cB)))) (bo (yD 1000 (bP (b2 Mr (af 5) (eC .bQ))) mO) (gZ (xP (af 5)))))))
def AZ:List V3->aD->R3 V3:=nK k6 qU
def oE:List V3->aD->R3 V3:=nS k6 qU
theorem C3(T:Tp K mg cl)(h:Def K mg "surest" kP)(jd:bC P w K mg base cl 8 "breaking" 3 eK)(eE:bC P w K mg base cl 45 "first_places" 2 (cb 42)):bC P w K mg base cl 46 "surest" 3 AZ:=by
 obtain⟨f,fd,F,hm⟩:=h;exact⟨f,fd,_,bN (k:=45) Al.2 oI.2 F jE (fun dI A outer s H E hr=>(ao (rO rfl jE.nd rfl rfl (bL.of (own:=["places"]) (kp:=[]) (kn:=[]) (sc:=oI.1) (N:=k6) rfl rfl (by decide+kernel)) (nG (bK jd hr (by decide) rfl (ai (ah (aa 0)) (ai (ah (aa 1)) (ai (ah (aa 2)) aO))) (aj (aj (aj aW))))) (fun _ _ _=>(aR (show List.Nodup [(Str.ofString "places")] from by decide+kernel) rfl (Or.inl rfl))) (fun _ _ _=>lR) (fun _ _ _=>(ah (iq Hq rfl T.z_list PyProof.Rows.boot_list (ag (aa 0) aq))))) (ao (ba jE.nd rfl (Or.inl rfl) (ah ae)) (ao (ba jE.nd rfl (Or.inl rfl) (bK eE hr (by decide) rfl (ai (ah (aa 3)) (ai (ah (aa 4)) aO)) (aj (aj aW)))) (ao (BS 1000 PassesOwn.never (eU (cq NK (aa 5) qc (cD _))) (ao (ba jE.nd rfl (Or.inl rfl) (ah (az jb (aa 4) ae))) (aF (ba jE.nd rfl (Or.inl rfl) (bK eE hr (by decide) rfl (ai (ah (aa 3)) (ai (ah (aa 4)) aO)) (aj (aj aW))))))) (aF (cO (ah (aa 5))))))))),hm,F.kp,F.binds fun _ _ _ _ _ _ us hl=>match us,hl with | [_,_,_],_=>rfl⟩
abbrev iF:Stmt:=top 25
noncomputable abbrev j4:List Str:=["pot","many","cell","stir"]
noncomputable def xh:{b:List Stmt // aJ iF=b}:=⟨_,by conv=>lhs;whnf⟩
noncomputable def pd:{b:Scope // ax iF=b}:=⟨_,by conv=>lhs;whnf⟩
theorem j5:aY j4 ["pot","many"] pd.1:=⟨rfl,rfl,rfl,by decide+kernel,rfl,by decide+kernel,by decide+kernel⟩
def mM:FZ:=(bo (A5 (bY 0) (xP (eC (.int 1))) (xT (e2 gA (e2 cN (af 0) (eC (.int 1))) (eC (.int 1))))) (bo (cx 2 (xT (e2 cN (af 0) (eC (.int 0))))) (bo (yG (bP (b2 O0 (af 2) (e2 KC (eC (.int 10)) (eC (.int 18))))) (bo (A5 (bY 0) (xP (eC (.int 0))) (xP (e2 vK (af 2) (af 1)))) (gZ (xP (e2 qM (af 2) (af 1))))) nO) (bo (cx 3 (xT (e2 qM (e2 gA (e2 gA (e2 lX (af 2) (eC (.int 69621))) (e2 lX (e2 cN (af 0) (eC (.int 1))) (eC (.int 7919)))) (eC (.int 13))) (eC (.int 2147483647))))) (bo (cx 3 (xP (e2 qM (e2 lX (af 3) (af 3)) (eC (.int 2147483629))))) (gZ (xT (e2 qM (e2 vK (e2 qM (e2 gA (e2 lX (af 3) (eC (.int 48271))) (e2 lX (e2 cN (af 0) (eC (.int 1))) (eC (.int 40692)))) (eC (.int 2147483587))) (eC (.int 8))) (af 1)))))))))
def wR:List V3->aD->R3 V3:=nK j4 mM
def bB:List V3->aD->R3 V3:=nS j4 mM
theorem yg(T:Tp K mg cl)(h:Def K mg "_law_next" iF):bC P w K mg base cl 1 "_law_next" 2 wR:=by
 obtain⟨f,fd,F,hm⟩:=h;exact⟨f,fd,_,bN (k:=0) xh.2 pd.2 F j5 (fun dI A outer s H E hr=>(ao (uc (gd (az jb (aH (aa 0) ae (fun _ _=>rfl)) ae)) (ug (PX.go (aX 0)) (PX.go (ah ae)) set_list)) (ao (ba j5.nd rfl (Or.inl rfl) (gd (aH (aa 0) ae (fun _ _=>rfl)))) (ao (kQ (eU (cq Nh (aa 2) (az K4 ae ae) (cD _))) (ao (uc (ah (az Dx (aa 2) (aa 1))) (ug (PX.go (aX 0)) (PX.go (ah ae)) set_list)) (aF (cO (ah (az tF (aa 2) (aa 1)))))) gf) (ao (ba j5.nd rfl (Or.inl rfl) (gd (az tF (az jb (az jb (az tj (aa 2) ae) (az tj (aH (aa 0) ae (fun _ _=>rfl)) ae)) ae) ae))) (ao (ba j5.nd rfl (Or.inl rfl) (ah (az tF (az tj (aa 3) (aa 3)) ae))) (aF (cO (gd (az tF (az Dx (az tF (az jb (az tj (aa 3) ae) (az tj (aH (aa 0) ae (fun _ _=>rfl)) ae)) ae) ae) (aa 1))))))))))),hm,F.kp,F.binds fun _ _ _ _ _ _ us hl=>match us,hl with | [_,_],_=>rfl⟩
abbrev iK:Stmt:=top 26
noncomputable abbrev iR:List Str:=["script"]
noncomputable def wX:{b:List Stmt // aJ iK=b}:=⟨_,by conv=>lhs;whnf⟩
noncomputable def k7:{b:Scope // ax iK=b}:=⟨_,by conv=>lhs;whnf⟩
theorem yq:aY iR ["script"] k7.1:=⟨rfl,rfl,rfl,by decide+kernel,rfl,by decide+kernel,by decide+kernel⟩
def mB:FZ:=(bo (yG (bP (b2 r6 (aS gx (aw (af 0) aZ)) (eC (.int 0)))) (gZ (Ij (aA (nV (j0 (aw (eC (.int 0)) (aw (eC (.int 0)) aZ)))) cB))) nO) (gZ (l3 (iP (cS (GY (af 0) t_ (ph (eC (.int 63)))))) (lH 0) AO (nV (j0 (aw (af 0) (aw (eC (.int 0)) aZ)))) ["cell"] [])))
def i_:List V3->aD->R3 V3:=nK iR mB
def GK:List V3->aD->R3 V3:=nS iR mB
theorem xR(T:Tp K mg cl)(h:Def K mg "_law_pots" iK):bC P w K mg base cl 1 "_law_pots" 1 i_:=by
 obtain⟨f,fd,F,hm⟩:=h;exact⟨f,fd,_,bN (k:=0) wX.2 k7.2 F yq (fun dI A outer s H E hr=>(ao (kQ (eU (cq (qC hr.units) (bb fD rfl T.z_len PySem.boot_len (ag (aa 0) aq)) ae (cD _))) (aF (cO (JA (ai (iC (dJ (ag ae (ag ae aq)))) aO)))) gf) (aF (cO (vg rfl (bL.of (own:=["cell"]) (kp:=[]) (kn:=[]) (sc:=k7.1) (N:=iR) rfl rfl (by decide+kernel)) (cF (bE (u9 (aa 0) nj (m5 ae)))) (fun _ _ _=>(aR (show List.Nodup [(Str.ofString "cell")] from by decide+kernel) rfl (Or.inl rfl))) (fun _ _ _=>lR) (fun _ _ _=>(iC (dJ (ag (aa 0) (ag ae aq)))))))))),hm,F.kp,F.binds fun _ _ _ _ _ _ us hl=>match us,hl with | [_],_=>rfl⟩
abbrev dU:Stmt:=top 27
noncomputable abbrev d6:List Str:=["pot","pots","names","gates","one","many","wires","kind","outs","k"]
noncomputable def pM:{b:List Stmt // aJ dU=b}:=⟨_,by conv=>lhs;whnf⟩
noncomputable def gJ:{b:Scope // ax dU=b}:=⟨_,by conv=>lhs;whnf⟩
theorem bc:aY d6 ["pot","pots"] gJ.1:=⟨rfl,rfl,rfl,by decide+kernel,rfl,by decide+kernel,by decide+kernel⟩
def fQ:FZ:=(bo (cx 5 (xT (e2 fF (aS gx (aw (af 2) aZ)) (aS gx (aw (af 3) aZ))))) (bo (cx 6 (va (aA (x2 xc (xP (e2 xc (af 5) (eC (.int 1)))) (c8 bB (aA (bY 4) (aA (xP (aS nD (aw (af 5) (aw (eC (.int 6)) aZ)))) cB)))) cB))) (bo (cx 7 (xP (eC (.str "not")))) (bo (yG (Lr KH (c8 bB (aA (bY 4) (aA (xP (eC (.int 3))) cB))) (xP (eC (.int 0)))) (bo (cx 7 (xP (eC (.str "xor")))) (cx 6 (x2 fF (xP (af 6)) (va (aA (c8 bB (aA (bY 4) (aA (xP (af 5)) cB))) cB))))) nO) (oJ 3 (va (aA (xP (af 7)) (aA (xP (af 6)) (aA (x2 r6 (c8 bB (aA (bY 4) (aA (xP (eC (.int 6))) cB))) (xP (eC (.int 0)))) cB)))))))))
def jK:FZ:=(oJ 8 (va (aA (xP (e2 fF (eC (.str "o")) (e2 cN (eC (.str "abcdef")) (af 9)))) (aA (va (aA (x2 xc (xP (e2 xc (af 5) (eC (.int 1)))) (c8 bB (aA (bY 0) (aA (xP (e2 cN (eNew (j0 (aw (af 5) (aw (aS nD (aw (af 5) (aw (eC (.int 8)) aZ))) aZ)))) (e2 qM (af 9) (eC (.int 2))))) cB)))) cB)) cB))))
def il:FZ:=(bo (cx 2 (MV (xP (eNew (j0 (aw (eC (.str "a")) (aw (eC (.str "bb")) (aw (eC (.str "signal")) (aw (eC (.str "x")) (aw (eC (.str "yes")) (aw (eC (.str "abcdefgh")) aZ))))))))) uz (uH (x2 fF (xP (eC (.int 1))) (c8 bB (aA (bY 0) (aA (xP (eC (.int 6))) cB))))))) (bo (cx 3 (nV (j0 aZ))) (bo (iZ (wV (bY 1)) (lH 4) fQ) (bo (cx 5 (xT (e2 fF (aS gx (aw (af 2) aZ)) (aS gx (aw (af 3) aZ))))) (bo (cx 8 (nV (j0 aZ))) (bo (iZ (vT (x2 fF (xP (eC (.int 1))) (c8 bB (aA (bY 0) (aA (xP (eC (.int 6))) cB))))) (lH 9) jK) (gZ (va (aA (nV (ef (cS (af 2)) (bq 0) k8 (kI (aw (af 0) (aw (eC (.int 1)) aZ))) ["name"] [])) (aA (bY 3) (aA (bY 8) cB)))))))))))
def pO:List V3->aD->R3 V3:=nK d6 il
def gG:List V3->aD->R3 V3:=nS d6 il
theorem qT(T:Tp K mg cl)(h:Def K mg "_law_some_net" dU)(bX:bC P w K mg base cl 1 "_law_next" 2 bB):bC P w K mg base cl 2 "_law_some_net" 2 pO:=by
 obtain⟨f,fd,F,hm⟩:=h;exact⟨f,fd,_,bN (k:=1) pM.2 gJ.2 F bc (fun dI A outer s H E hr=>(ao (ba bc.nd rfl (Or.inl rfl) (LH (ah (dw (dJ (ag cQ (ag cQ (ag cQ (ag cQ (ag cQ (ag cQ aq))))))))) wc (xi (sS iL (ah ae) (bK bX hr (by decide) rfl (ai (aX 0) (ai (ah ae) aO)) (aj (aj aW))))))) (ao (ba bc.nd rfl (Or.inl rfl) (iC (dJ aq))) (ao (dS PassesOwn.never rfl (nG (aX 1)) (aR bc.nd rfl (Or.inl rfl)) (ao (ba bc.nd rfl (Or.inl rfl) (gd (az iL (bb fD rfl T.z_len PySem.boot_len (ag (aa 2) aq)) (bb fD rfl T.z_len PySem.boot_len (ag (aa 3) aq))))) (ao (ba bc.nd rfl (Or.inl rfl) (oz (ai (sS rm (ah (az rm (aa 5) ae)) (bK bX hr (by decide) rfl (ai (aX 4) (ai (ah (bb (xO rfl) rfl T.z_min PyProof.Rows.boot_min (ag (aa 5) (ag ae aq)))) aO)) (aj (aj aW)))) aO))) (ao (ba bc.nd rfl (Or.inl rfl) (ah cQ)) (ao (kQ (uW Iy (bK bX hr (by decide) rfl (ai (aX 4) (ai (ah ae) aO)) (aj (aj aW))) (ah ae) (cD _)) (ao (ba bc.nd rfl (Or.inl rfl) (ah cQ)) (aF (ba bc.nd rfl (Or.inl rfl) (sS iL (ah (aa 6)) (oz (ai (bK bX hr (by decide) rfl (ai (aX 4) (ai (ah (aa 5)) aO)) (aj (aj aW))) aO)))))) gf) (aF (mQ rfl (Or.inl rfl) (oz (ai (ah (aa 7)) (ai (ah (aa 6)) (ai (C_ (qC hr.units) (bK bX hr (by decide) rfl (ai (aX 4) (ai (ah ae) aO)) (aj (aj aW))) (ah ae) (cD _)) aO))))))))))) (ao (ba bc.nd rfl (Or.inl rfl) (gd (az iL (bb fD rfl T.z_len PySem.boot_len (ag (aa 2) aq)) (bb fD rfl T.z_len PySem.boot_len (ag (aa 3) aq))))) (ao (ba bc.nd rfl (Or.inl rfl) (iC (dJ aq))) (ao (dS PassesOwn.never rfl (yp (sS iL (ah ae) (bK bX hr (by decide) rfl (ai (aX 0) (ai (ah ae) aO)) (aj (aj aW)))) rfl T.z_range) (aR bc.nd rfl (Or.inl rfl)) (aF (mQ rfl (Or.inl rfl) (oz (ai (ah (az iL cQ (aH cQ (aa 9) (fun _ _=>rfl)))) (ai (oz (ai (sS rm (ah (az rm (aa 5) ae)) (bK bX hr (by decide) rfl (ai (aX 0) (ai (ah (aH (dw (dJ (ag (aa 5) (ag (bb (xO rfl) rfl T.z_min PyProof.Rows.boot_min (ag (aa 5) (ag ae aq))) aq)))) (az tF (aa 9) ae) (fun _ _=>rfl))) aO)) (aj (aj aW)))) aO)) aO)))))) (aF (cO (oz (ai (iC (c_ rfl (bL.of (own:=["name"]) (kp:=[]) (kn:=[]) (sc:=gJ.1) (N:=d6) rfl rfl (by decide+kernel)) (bE (aa 2)) (fun _ _ _=>(bt (show List.Nodup [(Str.ofString "name")] from by decide+kernel) rfl (Or.inl rfl))) (fun _ _ _=>dF) (fun _ _ _=>(d8 (ag (aa 0) (ag ae aq)))))) (ai (aX 3) (ai (aX 8) aO))))))))))))),hm,F.kp,F.binds fun _ _ _ _ _ _ us hl=>match us,hl with | [_,_],_=>rfl⟩
abbrev er:Stmt:=top 28
noncomputable abbrev gc:List Str:=["net","ins","gates","outs","masks","k","name","wires","place","wire"]
noncomputable def q9:{b:List Stmt // aJ er=b}:=⟨_,by conv=>lhs;whnf⟩
noncomputable def k4:{b:Scope // ax er=b}:=⟨_,by conv=>lhs;whnf⟩
theorem bG:aY gc ["net"] k4.1:=⟨rfl,rfl,rfl,by decide+kernel,rfl,by decide+kernel,by decide+kernel⟩
def gQ:FZ:=(A5 (bY 4) (xP (e2 cN (af 7) (eC (.int 0)))) (xT (e2 z6 (e2 cN (af 4) (e2 cN (af 7) (eC (.int 0)))) (e2 Fm (eC (.int 1)) (af 5)))))
def gK:FZ:=(A5 (bY 4) (xP (af 9)) (xT (e2 z6 (e2 cN (af 4) (af 9)) (e2 cN (af 4) (e2 gA (aS gx (aw (af 1) aZ)) (af 8))))))
def gM:FZ:=(iZ (iP (cS (e2 cN (e2 cN (af 2) (af 8)) (eC (.int 1))))) (lH 9) gK)
def jh:FZ:=(bo (Ia (xP (af 0)) (Ga 3 (xp (lH 1) (xp (lH 2) (xp (lH 3) GL))))) (bo (cx 4 (nV (EU (j0 (aw (eC (.int 0)) aZ)) (e2 gA (aS gx (aw (af 1) aZ)) (aS gx (aw (af 2) aZ)))))) (bo (iZ (iP (ip (af 3))) (Ga 2 (xp (lH 5) (xp (Ga 2 (xp (lH 6) (xp (lH 7) GL))) GL))) gQ) (bo (iZ (iP (BP (e2 xc (aS gx (aw (af 2) aZ)) (eC (.int 1))) (AI (eC (.int 1))) (AI (eC (.int 1))))) (lH 8) gM) (A1 4 (gZ (xP (GY (af 4) (ph (aS gx (aw (af 1) aZ))) t_))))))))
def qF:List V3->aD->R3 V3:=nK gc jh
def iz:List V3->aD->R3 V3:=nS gc jh
theorem sI(T:Tp K mg cl)(h:Def K mg "_law_turning" er):bC P w K mg base cl 1 "_law_turning" 1 qF:=by
 obtain⟨f,fd,F,hm⟩:=h;exact⟨f,fd,_,bN (k:=0) q9.2 k4.2 F bG (fun dI A outer s H E hr=>(ao (HR (ah (aa 0)) (j_ rfl (bS (aR bG.nd rfl (Or.inl rfl)) (bS (aR bG.nd rfl (Or.inl rfl)) (bS (aR bG.nd rfl (Or.inl rfl)) ig))))) (ao (ba bG.nd rfl (Or.inl rfl) (iC (EL (dJ (ag ae aq)) (az jb (bb fD rfl T.z_len PySem.boot_len (ag (aa 1) aq)) (bb fD rfl T.z_len PySem.boot_len (ag (aa 2) aq)))))) (ao (dS PassesOwn.never rfl (cF (lS (aa 3) rfl T.z_enumerate)) (j_ rfl (bS (aR bG.nd rfl (Or.inl rfl)) (bS (j_ rfl (bS (aR bG.nd rfl (Or.inl rfl)) (bS (aR bG.nd rfl (Or.inl rfl)) ig))) ig))) (aF (uc (gd (az sf (aH (aa 4) (aH (aa 7) ae (fun _ _=>rfl)) (fun _ _=>rfl)) (az Kq ae (aa 5)))) (ug (PX.go (aX 4)) (PX.go (ah (aH (aa 7) ae (fun _ _=>rfl)))) set_list)))) (ao (dS PassesOwn.never rfl (cF (De (az rm (bb fD rfl T.z_len PySem.boot_len (ag (aa 2) aq)) ae) (uV ae) (uV ae) rfl T.z_range)) (aR bG.nd rfl (Or.inl rfl)) (aF (dS PassesOwn.never rfl (cF (bE (aH (aH (aa 2) (aa 8) (fun _ _=>rfl)) ae (fun _ _=>rfl)))) (aR bG.nd rfl (Or.inl rfl)) (aF (uc (gd (az sf (aH (aa 4) (aa 9) (fun _ _=>rfl)) (aH (aa 4) (az jb (bb fD rfl T.z_len PySem.boot_len (ag (aa 1) aq)) (aa 8)) (fun _ _=>rfl)))) (ug (PX.go (aX 4)) (PX.go (ah (aa 9))) set_list)))))) (zE 4 (aF (cO (ah (u9 (aa 4) (m5 (bb fD rfl T.z_len PySem.boot_len (ag (aa 1) aq))) nj)))))))))),hm,F.kp,F.binds fun _ _ _ _ _ _ us hl=>match us,hl with | [_],_=>rfl⟩
abbrev zJ:Stmt:=top 29
noncomputable abbrev nq:List Str:=["script","pots","pot","net","most","many","level","due","heard"]
noncomputable def IC:{b:List Stmt // aJ zJ=b}:=⟨_,by conv=>lhs;whnf⟩
noncomputable def uB:{b:Scope // ax zJ=b}:=⟨_,by conv=>lhs;whnf⟩
theorem nA:aY nq ["script"] uB.1:=⟨rfl,rfl,rfl,by decide+kernel,rfl,by decide+kernel,by decide+kernel⟩
def tE:FZ:=(bo (cx 1 (c8 i_ (aA (xP (GY (af 0) t_ (ph (eC (.int 41))))) cB))) (bo (cx 2 (LA (bY 1) (xP (eC (.int 0))))) (bo (cx 3 (c8 gG (aA (bY 2) (aA (IH (bY 1) (uH (xP (eC (.int 1)))) uz) cB)))) (bo (cx 4 (xP (e2 gA (e2 gA (eC (.int 1)) (aS o7 (aw (e2 GO (aS gx (aw (e2 cN (af 3) (eC (.int 1))) aZ)) (eC (.int 16))) aZ))) (aS o7 (aw (e2 GO (aS gx (aw (e2 cN (af 3) (eC (.int 1))) aZ)) (eC (.int 12))) aZ))))) (bo (cx 5 (x2 gA (xP (eC (.int 1))) (c8 bB (aA (bY 2) (aA (xP (af 4)) cB))))) (bo (cx 6 (LA (xP (eNew (j0 (aw (eC (.str "right")) (aw (eC (.str "safe")) aZ))))) (c8 bB (aA (bY 2) (aA (xP (eC (.int 2))) cB))))) (bo (cx 7 (l3 (B6 (c8 iz (aA (xP (af 3)) cB))) (Ga 2 (xp (lH 0) (xp (lH 1) GL))) (bP (Gq (b2 Fg (af 1) (eC (.int 0))) (uI (qX (e2 cN (e2 cN (e2 cN (af 2) (eC (.int 1))) (af 0)) (eC (.int 2))))))) (xP (af 0)) ["place","mask"] [3])) (bo (cx 8 (c8 oE (aA (xP (af 3)) (aA (xP (af 5)) (aA (xP (af 6)) cB))))) (bo (yG (bP (Ms (uI (qX (Ja "tuple" (af 8)))) (b2 Fg (af 8) (aS qy (aw (af 7) aZ))))) (gZ (xP (eC (.bl false)))) nO) (gZ (x2 r6 (c8 eK (aA (xP (af 3)) (aA (xP (af 5)) (aA (xP (af 6)) cB)))) (xP (eNew (ef (cS (af 7)) (bq 0) k8 (kI (aw (af 0) aZ)) ["place"] []))))))))))))))
def MQ:List V3->aD->R3 V3:=nK nq tE
def NV:List V3->aD->R3 V3:=nS nq tE
def yU:List D->R D:=Mc nq tE
structure Cf (K:W.Frag) (mg:Ut) (cl:Uu):Prop where
 C_Bench:vw K (cl 0)
 N_Bench_net:cI K (cl 0) "net"
 N_Bench_many_inputs:cI K (cl 0) "many_inputs"
 N_Bench_full:cI K (cl 0) "full"
 N_Bench_in_masks:cI K (cl 0) "in_masks"
 M_Bench:mg "Bench"=some (.ref (cl 0))
 C_Trial:vw K (cl 1)
 N_Trial_bench:cI K (cl 1) "bench"
 N_Trial_plain:cI K (cl 1) "plain"
 N_Trial_unsure:cI K (cl 1) "unsure"
 M_Trial:mg "Trial"=some (.ref (cl 1))
 dq:Ay K (cl 0) "__init__" "Bench.__init__" bz
 eA:uS K (cl 0) "tells" "Bench.tells" bU
 dn:uS K (cl 0) "readings" "Bench.readings" br
 dm:Ay K (cl 1) "__init__" "Trial.__init__" bw
 cW:uS K (cl 1) "breaks_at" "Trial.breaks_at" bj
theorem K1{K:W.Frag}{h:Heap}{mg:Ut}(X:K.In h)(G:h.Ns mainGlobals mg){C0:Addr}{C1:Addr}{f0:Addr}{So Ta:Option Addr}{Tb:Array (Option Value)}{Sw Tn Te Sz PL RU:Value}{f1:Addr}{RW Th:Option Addr}{Td:Array (Option Value)}{SH RE SR R4 Qb Tc:Value}{f2:Addr}{Sn RO:Option Addr}{J3:Array (Option Value)}{RN SE SD R7 P1 Tg:Value}{f3:Addr}{Tq R6:Option Addr}{RT:Array (Option Value)}{RK SI Tj SS P2 Sf:Value}{f4:Addr}{SV To:Option Addr}{RI:Array (Option Value)}{RL Sg Si RH P8 RV:Value}(OH:PySem.W.nsIn K mainGlobals "Bench"=some (some (.ref C0)))(N0:PySem.W.plainGet K C0 Str.empty=true)(JQ:PySem.W.hasDictIn K C0=true)(Oe:PySem.W.plainOver K C0=true)(N1:PySem.W.findIn K (.ref C0) "__setattr__"=some (some (.builtin "object.__setattr__")))(N7:PySem.W.makesIn K C0=true)(OG:PySem.W.keepIn K (.ref C0)=true)(yS:PySem.W.findIn K (.ref C0) "net"=some none)(iW:PySem.W.findIn K (.ref C0) "many_inputs"=some none)(vm:PySem.W.findIn K (.ref C0) "full"=some none)(lE:PySem.W.findIn K (.ref C0) "in_masks"=some none)(OI:PySem.W.nsIn K mainGlobals "Trial"=some (some (.ref C1)))(Om:PySem.W.plainGet K C1 Str.empty=true)(OM:PySem.W.hasDictIn K C1=true)(OC:PySem.W.plainOver K C1=true)(Oj:PySem.W.findIn K (.ref C1) "__setattr__"=some (some (.builtin "object.__setattr__")))(Of:PySem.W.makesIn K C1=true)(OF:PySem.W.keepIn K (.ref C1)=true)(rQ:PySem.W.findIn K (.ref C1) "bench"=some none)(rV:PySem.W.findIn K (.ref C1) "plain"=some none)(oV:PySem.W.findIn K (.ref C1) "unsure"=some none)(fX:PySem.W.findIn K (.ref C0) "__init__"=some (some (.ref f0)))(fS:PySem.W.isFn K (.ref f0)=true)(fU:K.lookup f0=some ⟨Sw,So, .func (PySem.W.fnOf "__init__" "Bench.__init__" (gg bz) (aJ bz) (ax bz) .none Tn Te Sz Ta PL RU),Tb⟩)(dg:PySem.W.codeIn K PL "Bench.__init__"=true)(f7:PySem.W.keepIn K (.ref f0)=true)(jn:PySem.W.findIn K (.ref C0) "tells"=some (some (.ref f1)))(jr:PySem.W.isFn K (.ref f1)=true)(jm:K.lookup f1=some ⟨SH,RW, .func (PySem.W.fnOf "tells" "Bench.tells" (gg bU) (aJ bU) (ax bU) .none RE SR R4 Th Qb Tc),Td⟩)(en:PySem.W.codeIn K Qb "Bench.tells"=true)(gp:PySem.W.keepIn K (.ref f1)=true)(fT:PySem.W.findIn K (.ref C0) "readings"=some (some (.ref f2)))(f9:PySem.W.isFn K (.ref f2)=true)(f6:K.lookup f2=some ⟨RN,Sn, .func (PySem.W.fnOf "readings" "Bench.readings" (gg br) (aJ br) (ax br) .none SE SD R7 RO P1 Tg),J3⟩)(c7:PySem.W.codeIn K P1 "Bench.readings"=true)(ee:PySem.W.keepIn K (.ref f2)=true)(fY:PySem.W.findIn K (.ref C1) "__init__"=some (some (.ref f3)))(f_:PySem.W.isFn K (.ref f3)=true)(fV:K.lookup f3=some ⟨RK,Tq, .func (PySem.W.fnOf "__init__" "Trial.__init__" (gg bw) (aJ bw) (ax bw) .none SI Tj SS R6 P2 Sf),RT⟩)(c6:PySem.W.codeIn K P2 "Trial.__init__"=true)(fZ:PySem.W.keepIn K (.ref f3)=true)(fg:PySem.W.findIn K (.ref C1) "breaks_at"=some (some (.ref f4)))(e_:PySem.W.isFn K (.ref f4)=true)(ft:K.lookup f4=some ⟨RL,SV, .func (PySem.W.fnOf "breaks_at" "Trial.breaks_at" (gg bj) (aJ bj) (ax bj) .none Sg Si RH To P8 RV),RI⟩)(cT:PySem.W.codeIn K P8 "Trial.breaks_at"=true)(dP:PySem.W.keepIn K (.ref f4)=true):∃cl,Cf K mg cl:=by
 exact⟨fun n=>if n=0 then C0 else C1,⟨N0,JQ,Oe,N1⟩,yS,iW,vm,lE,PySem.W.mg_of X G OH,⟨Om,OM,OC,Oj⟩,rQ,rV,oV,PySem.W.mg_of X G OI,⟨_,_,oi (st:=bz) fU dg f7,⟨N7,fX,fS,OG⟩⟩,⟨_,_,oi (st:=bU) jm en gp,⟨jn,jr,gp⟩⟩,⟨_,_,oi (st:=br) f6 c7 ee,⟨fT,f9,ee⟩⟩,⟨_,_,oi (st:=bw) fV c6 fZ,⟨Of,fY,f_,OF⟩⟩,⟨_,_,oi (st:=bj) ft cT dP,⟨fg,e_,dP⟩⟩⟩
theorem JB{K:W.Frag}{mg:Ut}{f:Addr}{fd:FuncData}{cl:Uu}(T:Tp K mg cl)(oW:Def K mg "vote_of" jJ)(lC:Def K mg "gate_mask" gy)(gR:Def K mg "in_wire_masks" dD)(mV:Def K mg "masks_at" iJ)(ko:Def K mg "wire_masks" eW)(lB:Def K mg "out_masks" gu)(oS:Def K mg "reading" jY)(kq:Def K mg "all_inputs" eM)(o3:Def K mg "mask_of" jH)(oX:Def K mg "in_mask" jG)(oU:Def K mg "choices" jB)(oR:Def K mg "has_all" jQ)(dq:Ay K (cl 0) "__init__" "Bench.__init__" bz)(eA:uS K (cl 0) "tells" "Bench.tells" bU)(dn:uS K (cl 0) "readings" "Bench.readings" br)(dm:Ay K (cl 1) "__init__" "Trial.__init__" bw)(cW:uS K (cl 1) "breaks_at" "Trial.breaks_at" bj)(mT:Def K mg "breaking" iM)(ju:Def K mg "count_apart" eu)(rW:Def K mg "behind" k5)(jo:Def K mg "groups_left" eg)(iT:Def K mg "first_places" dY)(rP:Def K mg "surest" kP)(mW:Def K mg "_law_next" iF)(mU:Def K mg "_law_pots" iK)(iV:Def K mg "_law_some_net" dU)(jq:Def K mg "_law_turning" er)(F:zk K "law" "law" zJ f fd):gH P w K mg base rZ 47 f fd ["script"] (Dz K 1 yU):=by
 have ia:=Az (P:=P) (w:=w) (base:=base) T oW;have lG:=vA (P:=P) (w:=w) (base:=base) T lC ia;have d_:=pQ (P:=P) (w:=w) (base:=base) T gR;have XP_in_wire_masks:=d_.p;have fW:=xC (P:=P) (w:=w) (base:=base) T mV;have XK_wire_masks:=uG (P:=P) (w:=w) (base:=base) T ko fW lG d_;have js:=XK_wire_masks.p;have XK_out_masks:=wM (P:=P) (w:=w) (base:=base) T lB fW;have kr:=XK_out_masks.p;have oT:=A9 (P:=P) (w:=w) (base:=base) T oS ia;have XK_all_inputs:=uf (P:=P) (w:=w) (base:=base) T kq;have jt:=XK_all_inputs.p;have ib:=AN (P:=P) (w:=w) (base:=base) T o3;have oO:=A0 (P:=P) (w:=w) (base:=base) T oX ib;have oQ:=sZ (P:=P) (w:=w) (base:=base) T oU 4;have oZ:=Ak (P:=P) (w:=w) (base:=base) T oR;have fq:=dg (P:=P) (w:=w) (base:=base) T dq ib oO jt;have XK_Bench_tells:=en (P:=P) (w:=w) (base:=base) T eA js kr;have iU:=XK_Bench_tells.p;have XK_Bench_readings:=c7 (P:=P) (w:=w) (base:=base) T dn oT iU;have b_:=XK_Bench_readings.p;have fk:=c6 (P:=P) (w:=w) (base:=base) T dm fq b_;have XK_Trial_breaks_at:=cT (P:=P) (w:=w) (base:=base) T cW b_;have eJ:=XK_Trial_breaks_at.p;have XK_breaking:=xQ (P:=P) (w:=w) (base:=base) T mT oQ oZ fk eJ;have jd:=XK_breaking.p;have XK_count_apart:=sk (P:=P) (w:=w) (base:=base) T ju;have fu:=XK_count_apart.p;have rX:=Ds (P:=P) (w:=w) (base:=base) T rW;have gn:=sL (P:=P) (w:=w) (base:=base) T jo rX;have eE:=kZ (P:=P) (w:=w) (base:=base) T iT gn fu 42;have XK_surest:=C3 (P:=P) (w:=w) (base:=base) T rP jd eE;have XP_surest:=XK_surest.p;have XK_law_next:=yg (P:=P) (w:=w) (base:=base) T mW;have bX:=XK_law_next.p;have XK_law_pots:=xR (P:=P) (w:=w) (base:=base) T mU;have XP_law_pots:=XK_law_pots.p;have XK_law_some_net:=qT (P:=P) (w:=w) (base:=base) T iV bX;have XP_law_some_net:=XK_law_some_net.p;have XK_law_turning:=sI (P:=P) (w:=w) (base:=base) T jq;have XP_law_turning:=XK_law_turning.p;exact(bN (cl:=cl) (N:=nq) (F:=tE) (k:=46) IC.2 uB.2 F nA (fun dI A outer s H E hr=>(ao (ba nA.nd rfl (Or.inl rfl) (bK XK_law_pots hr (by decide) rfl (ai (ah (u9 (aa 0) nj (m5 ae))) aO) (aj aW))) (ao (ba nA.nd rfl (Or.inl rfl) (Hd (aX 1) (ah ae) (fun _ _=>rfl))) (ao (ba nA.nd rfl (Or.inr rfl) (bK XP_law_some_net hr (by decide) rfl (ai (aX 2) (ai (Jt (aX 1) (xi (ah ae)) wc) aO)) (aj (aj aW)))) (ao (ba nA.nd rfl (Or.inl rfl) (ah (az jb (az jb ae (iq BE rfl T.z_int PyProof.Rows.boot_int (ag (vf Ir (bb fD rfl T.z_len PySem.boot_len (ag (aH (aa 3) ae (fun _ _=>rfl)) aq)) ae (cD _)) aq))) (iq BE rfl T.z_int PyProof.Rows.boot_int (ag (vf Ir (bb fD rfl T.z_len PySem.boot_len (ag (aH (aa 3) ae (fun _ _=>rfl)) aq)) ae (cD _)) aq))))) (ao (ba nA.nd rfl (Or.inl rfl) (sS jb (ah ae) (bK bX hr (by decide) rfl (ai (aX 2) (ai (ah (aa 4)) aO)) (aj (aj aW))))) (ao (ba nA.nd rfl (Or.inl rfl) (Hd (ah (dw (dJ (ag cQ (ag cQ aq))))) (bK bX hr (by decide) rfl (ai (aX 2) (ai (ah ae) aO)) (aj (aj aW))) (fun _ _=>rfl))) (ao (rO rfl nA.nd rfl rfl (bL.of (own:=["place","mask"]) (kp:=[3]) (kn:=["net"]) (sc:=uB.1) (N:=nq) rfl rfl (by decide+kernel)) (BN (bK XP_law_turning hr (by decide) rfl (ai (ah (aa 3)) aO) (aj aW)) rfl T.z_enumerate) (fun _ _ _=>(j_ rfl (bS (aR (show List.Nodup [(Str.ofString "place"),"mask","net"] from by decide+kernel) rfl (Or.inl rfl)) (bS (aR (show List.Nodup [(Str.ofString "place"),"mask","net"] from by decide+kernel) rfl (Or.inl rfl)) ig)))) (fun _ _ _=>(C5 (eU (zO (DQ (cq (Jf hr.units) (aa 1) ae (cD _)) (Af (pY (nF (aH (aH (aH (aa 2) ae (fun _ _=>rfl)) (aa 0) (fun _ _=>rfl)) ae (fun _ _=>rfl)))))))))) (fun _ _ _=>(ah (aa 0)))) (ao (ba nA.nd rfl (Or.inl rfl) (bK XP_surest hr (by decide) rfl (ai (ah (aa 3)) (ai (ah (aa 5)) (ai (ah (aa 6)) aO))) (aj (aj (aj aW))))) (ao (kQ (eU (zO (FL (pY (nF (EB (aa 8) (by decide) rfl T.z_isinstance rfl T.z_tuple PyProof.Rows.boot_tuple))) (BY (cq (Jf hr.units) (aa 8) (iq zM rfl T.z_tuple PyProof.Rows.boot_tuple (ag (aa 7) aq)) (cD _)))))) (aF (cO (ah yz))) gf) (aF (cO (C_ (qC hr.units) (bK jd hr (by decide) rfl (ai (ah (aa 3)) (ai (ah (aa 5)) (ai (ah (aa 6)) aO))) (aj (aj (aj aW)))) (ah (dw (c_ rfl (bL.of (own:=["place"]) (kp:=[]) (kn:=[]) (sc:=uB.1) (N:=nq) rfl rfl (by decide+kernel)) (bE (aa 7)) (fun _ _ _=>(bt (show List.Nodup [(Str.ofString "place")] from by decide+kernel) rfl (Or.inl rfl))) (fun _ _ _=>dF) (fun _ _ _=>(d8 (ag (aa 0) aq)))))) (cD _))))))))))))))).imp fun _ _ _ _ h=>HI h
end K23
end
section
namespace K23
open PySem PySem.Spec PyProof.Rows L2 L3
theorem zr{S:aD}{k:Nat}{o x:SO}(h:S[k]? =some x):(S.set k o)[k]? =some o:=by
 obtain⟨h1,_⟩:=List.getElem?_eq_some_iff.mp h;rw[List.getElem?_set_self h1]
def yt(k:Nat)(S:aD):Prop:=Flat S/\∃a c,S[k]? =some (.lst [.int a, .int c])
structure Ev (k:Nat) (S S1:aD):Prop where
 p:yt k S1
 len:S1.length=S.length
 oth:∀j,j≠k->S1[j]? =S[j]?
theorem yt.lt{k:Nat}{S:aD}(p:yt k S):k < S.length:=by
 obtain⟨_,a,c,e⟩:=p;exact(List.getElem?_eq_some_iff.mp e).1
theorem ua(ds:List D):∀n,mR n (.lst ds)=true:=fun _=>rfl
theorem Gi{S:aD}{k:Nat}{m:Int}(p:yt k S)(hm:0 < m)(MD:m < 1000000){Q:V3->aD->Prop}
 (h:∀(r:Int) S1,0<=r->r < m->yt k S1->S1.length=S.length->(∀j,j≠k->S1[j]? =S[j]?)->Q (.d (.int r)) S1):W3 (bB [.loc k, .d (.int m)] S) Q:=by
 obtain⟨hL,a,c,e⟩:=p;unfold bB;refine BV (xq rfl ?_);simp only[cg,j4,List.map,List.length,List.replicate,List.cons_append,List.nil_append,Nat.reduceAdd,Nat.reduceSub];unfold mM;refine aT (zu (Ed (d:= .int (c+1)) ?_ rfl ?_))
 .simp (implicitDefEqProofs:=false) (disch:=first | omega | decide) only[af,eC,e2,b2,gA,vx,Av,lX,R.aN,List.map_cons,List.getElem?_cons_zero,List.getElem?_cons_succ,down,cK,res,bJ,decide_eq_true_eq,Int.reduceToNat,e,cN,pj]
  rfl
 refine w_var (v:= .loc k) rfl (cy (d:= .int 1) rfl ⟨_,k,1,[.int a, .int c],1,rfl,rfl,rfl,e,rfl,_,rfl,?_⟩);simp only[List.set];have e1:(S.set k (.lst [.int a, .int (c+1)]))[k]? =some (.lst [.int a, .int (c+1)]):=zr e;have L6:Flat (S.set k (.lst [.int a, .int (c+1)])):=hL.set _ (ua _);have Bc:(S.set k (.lst [.int a, .int (c+1)])).length=S.length:=List.length_set;have ho:∀j,j≠k->(S.set k (.lst [.int a, .int (c+1)]))[j]? =S[j]?:=fun j hj=>List.getElem?_set_ne (Ne.symm hj)
 generalize S.set k (.lst [.int a, .int (c+1)])=S1 at e1 L6 Bc ho;refine aT (bA (by simp) (Ed (d:= .int a) ?_ rfl ⟨_,rfl,?_⟩))
 .simp (implicitDefEqProofs:=false) (disch:=first | omega | decide) only[af,eC,e2,b2,gA,vx,Av,lX,R.aN,List.map_cons,List.getElem?_cons_zero,List.getElem?_cons_succ,down,cK,res,bJ,decide_eq_true_eq,Int.reduceToNat,e1,cN,pj]
  rfl
 simp only[List.set];have fin:∀(r:Int) S2,0<=r->r < m->yt k S2->S2.length=S1.length->(∀j,j≠k->S2[j]? =S1[j]?)->Flat S2/\eL S.length (.d (.int r))=true/\∃d,res S2 (.d (.int r))=some d/\Q (.d d) (S2.take S.length):=fun r S2 h1 h2 p2 hl hj=>by
  refine⟨p2.1,by unfold eL;rfl, .int r,by unfold res;rfl,?_⟩
  rw[List.take_of_length_le (by omega)]
  exact h r S2 h1 h2 p2 (by omega) fun j Ov=>(hj j Ov).trans (ho j Ov)
 by_cases hc:(1000000000000000000:Int)<=a
 .refine CW (lV (ny (b:=true) ?_ ?_))
  .simp (implicitDefEqProofs:=false) (disch:=first | omega | decide) only[af,eC,e2,b2,gA,vx,Av,lX,R.aN,List.map_cons,List.getElem?_cons_zero,List.getElem?_cons_succ,down,cK,res,bJ,decide_eq_true_eq,Int.reduceToNat,hc]
   simp [hc]
  rw[if_pos rfl];refine aT (zu (cy (d:= .int (a / m)) ?_ (w_var (v:= .loc k) rfl (cy (d:= .int 0) rfl ⟨_,k,0,_,0,rfl,rfl,rfl,e1,rfl,_,rfl,?_⟩))))
  .exact ay (a:= .int a) (b:= .int m) rfl rfl (E_ hm (by omega))
  refine eh (cy (d:= .int (a % m)) (ay (a:= .int a) (b:= .int m) rfl rfl (BD hm)) ⟨_,rfl,_,rfl,?_⟩);exact fin _ _ (Int.emod_nonneg _ (by omega)) (Int.emod_lt_of_pos _ hm) ⟨L6.set _ (ua _),_,_,zr e1⟩ List.length_set fun j hj=>List.getElem?_set_ne (Ne.symm hj)
 .refine aT (lV (ny (b:=false) ?_ ?_))
  .simp (implicitDefEqProofs:=false) (disch:=first | omega | decide) only[af,eC,e2,b2,gA,vx,Av,lX,R.aN,List.map_cons,List.getElem?_cons_zero,List.getElem?_cons_succ,down,cK,res,bJ,decide_eq_true_eq,Int.reduceToNat,hc]
   simp [hc]
  rw[if_neg (by decide)]
  refine ic ⟨_,rfl,?_⟩;refine aT (bA (by simp) (Ed (d:= .int ((a*69621+(c+1)*7919+13) % 2147483647)) ?_ rfl ⟨_,rfl,?_⟩))
  .have hi:cN (.lst [.int a, .int (c+1)]) (.int 1)= .ok (.int (c+1)):=rfl;simp (implicitDefEqProofs:=false) (disch:=first | omega | decide) only[af,eC,e2,b2,gA,vx,Av,lX,R.aN,List.map_cons,List.getElem?_cons_zero,List.getElem?_cons_succ,down,cK,res,bJ,decide_eq_true_eq,Int.reduceToNat,e1,hi]
  simp only[List.set];have hx1:0<=(a*69621+(c+1)*7919+13) % 2147483647:=Int.emod_nonneg _ (by omega)
  have J5:(a*69621+(c+1)*7919+13) % 2147483647 < 2147483647:=Int.emod_lt_of_pos _ (by omega)
  generalize (a*69621+(c+1)*7919+13) % 2147483647=x at hx1 J5;refine aT (bA (by simp) (cy (d:= .int (x*x % 2147483629)) ?_ ⟨_,rfl,?_⟩))
  .simp (implicitDefEqProofs:=false) (disch:=first | omega | decide) only[af,eC,e2,b2,gA,vx,Av,lX,R.aN,List.map_cons,List.getElem?_cons_zero,List.getElem?_cons_succ,down,cK,res,bJ,decide_eq_true_eq,Int.reduceToNat]
  simp only[List.set];generalize x*x % 2147483629=y;refine eh (Ed (d:= .int ((y*48271+(c+1)*40692) % 2147483587 / 8 % m)) ?_ rfl ⟨_,rfl,?_⟩)
  .have hi:cN (.lst [.int a, .int (c+1)]) (.int 1)= .ok (.int (c+1)):=rfl;simp (implicitDefEqProofs:=false) (disch:=first | omega | decide) only[af,eC,e2,b2,gA,vx,Av,lX,R.aN,List.map_cons,List.getElem?_cons_zero,List.getElem?_cons_succ,down,cK,res,bJ,decide_eq_true_eq,Int.reduceToNat,e1,hi]
  exact fin _ _ (Int.emod_nonneg _ (by omega)) (Int.emod_lt_of_pos _ hm) ⟨L6,_,_,e1⟩ rfl fun j hj=>rfl
section
variable {S:aD} {δ:DE} {k i:Nat}
theorem draw{Q:V3->aD->Prop}{f:FD}{m:Int}(hv:δ[i]? =some (some (.loc k)))(p:yt k S)(hf:f (down δ)= .ok (.int m))(hm:0 < m)(MD:m < 1000000)
 (h:∀(r:Int) S1,0<=r->r < m->Ev k S S1->Q (.d (.int r)) S1):W3 (c8 bB (aA (bY i) (aA (xP f) cB)) δ S) Q:=
 eF (aG (w_var hv (aG (cy hf (cA (Gi p hm MD fun r S1 h1 h2 p1 hl ho=>h r S1 h1 h2 ⟨p1,hl,ho⟩))))))
end
end K23
end
section
namespace K23
open PySem PySem.Spec PyProof.Rows L2 L3 MT
theorem AY{a:D}{r:List D}:cN (.tup (a ::r)) (.int 0)= .ok a:=ud (by rw[n9 (by omega) (by simp)];rfl)
theorem Bz{a b:D}{r:List D}:cN (.tup (a ::b ::r)) (.int 1)= .ok b:=ud (by rw[n9 (by omega) (by simp)];rfl)
theorem PF{a b c:D}{r:List D}:cN (.tup (a ::b ::c ::r)) (.int 2)= .ok c:=ud (by rw[n9 (by omega) (by simp)];rfl)
theorem zU{N:Nat}{a b c:M}:fJ [.tup [mI N a,mI N b,mI N c]]= .ok (mI N fun p=>(a p && b p) || (a p && c p) || (b p && c p)):=by
 unfold fJ t7;refine d4 (cU ?_);exact ay (ay (ay (ay rfl rfl AY) (ay rfl rfl Bz) (rG N a b)) (ay (ay rfl rfl AY) (ay rfl rfl PF) (rG N a c)) (vS N _ _)) (ay (ay rfl rfl Bz) (ay rfl rfl PF) (rG N b c)) (vS N _ _)
theorem Kl(k j:Nat)(hk:k<=4)(hj:j<=4):r6 (.str (kS k)) (.str (kS j))= .ok (.bl (decide (k=j))):=by
 show R.ok (D.bl (kS k==kS j))=_;congr 2
 revert hk hj
 have:∀a∈List.range 5,∀b∈List.range 5,(kS a==kS b)=decide (a=b):=by decide+kernel
 intro hk hj;exact this k (by rw[List.mem_range];omega) j (by rw[List.mem_range];omega)
theorem FP{N kd:Nat}{xs:List M}(hk:kd<=4)(hx:xs.length=ar kd):gB [.str (kS kd), .tup (xs.map (mI N)),mI N one]= .ok (mI N fun p=>gv kd (xs.map (· p))):=by
 unfold gB pz;have q:∀j,j<=4->b2 r6 (af 0) (eC (.str (kS j))) (fP lj [.str (kS kd), .tup (xs.map (mI N)),mI N one])= .ok (decide (kd=j)):=fun j hj=>jZ (a:= .str (kS kd)) (b:= .str (kS j)) rfl rfl (Kl kd j hk hj)
 have q0:=q 0 (by omega)
 have q1:=q 1 (by omega)
 have q2:=q 2 (by omega)
 have q3:=q 3 (by omega)
 match kd,hk,xs,hx with
 | 0,_,[a],_=>
   refine d4 (NT.lI (sR q0 (cU (ay (a:=mI N one) (b:=mI N a) rfl (ay rfl rfl AY) (vL N a)))))
 | 1,_,[a,b],_=>
   refine d4 (cu (jT q0 rfl) (NT.lI (sR q1 (cU (ay (ay rfl rfl AY) (ay rfl rfl Bz) (rG N a b))))))
 | 2,_,[a,b],_=>
   refine d4 (cu (jT q0 rfl) (cu (jT q1 rfl) (NT.lI (sR q2 (cU (ay (ay rfl rfl AY) (ay rfl rfl Bz) (vS N a b)))))))
 | 3,_,[a,b],_=>
   refine d4 (cu (jT q0 rfl) (cu (jT q1 rfl) (cu (jT q2 rfl) (NT.lI (sR q3 (cU (ay (ay rfl rfl AY) (ay rfl rfl Bz) (tp N a b))))))))
 | 4,_,[a,b,c],_=>
   refine d4 (cu (jT q0 rfl) (cu (jT q1 rfl) (cu (jT q2 rfl) (cu (jT q3 rfl) (cU (aM (ds:=[.tup [mI N a,mI N b,mI N c]]) rfl zU))))))
theorem G6{N:Nat}{ws:List M}{ns:List Nat}(hn:∀n∈ns,n < ws.length)(hl:ns.length < 1000):eI [.lst (ws.map (mI N)), .tup (ns.map nI)]= .ok (.tup ((ns.map (cm ws)).map (mI N))):=by
 have hz:sizeLine=16777216:=sizeLine_eq;unfold eI qY;refine d4 (cU (aM (ds:=[.lst ((ns.map (cm ws)).map (mI N))]) (aV (eD (dc (ds:=ns.map nI) (xY rfl) (by rw[List.length_map];omega) ?_)) rfl) rfl))
 rw[List.map_map];exact NT.cH nI _ fun n OB=>⟨[.val (nI n), .val (.lst (ws.map (mI N)))],rfl,rfl,ay (a:= .lst (ws.map (mI N))) (b:=nI n) rfl rfl (uL (hn n OB))⟩
def xF(N:Nat)(S:aD)(D3 kF OA:D)(a5 a6 a7:Option V3):DE:=[some (.d D3),some (.d kF),some (.d (mI N one)),some (.d OA),some (.loc S.length),a5,a6,a7]
theorem BZ{N:Nat}{S:aD}{D3 kF:D}{bad:List Int}{a5 a7:Option V3}{b:M}{ws:List M}(hl:ws.length < 10000) :
 W3 (eX (xF N S D3 kF (.tup (bad.map .int)) a5 (some (.d (mI N b))) a7) (S++[.lst (ws.map (mI N))])) fun o S1=>o= .nx (xF N S D3 kF (.tup (bad.map .int)) a5 (some (.d (mI N b))) a7)/\S1=S++[SO.lst ((ws++[fun p=>b p !=bad.contains (ws.length:Int)]).map (mI N))]:=by
 have hz:sizeLine=16777216:=sizeLine_eq;unfold eX;refine qt (k:=S.length) rfl ⟨_,a_ _ _⟩ (Ed (d:=mI N fun p=>b p !=bad.contains (ws.length:Int)) ?_ rfl ⟨_,_,rfl,a_ _ _,by rw[List.length_map];omega,rfl,?_⟩)
 .have h4:(cK (S++[.lst (ws.map (mI N))]) (xF N S D3 kF (.tup (bad.map .int)) a5 (some (.d (mI N b))) a7))[4]? =some (.val (.lst (ws.map (mI N)))):=by
   unfold cK xF;show some (match res (S++[.lst (ws.map (mI N))]) (.loc S.length) with | some d=>Sl.val d | none=> .un)=_
   unfold res;rw[a_]
  refine uv (b:=bad.contains (ws.length:Int)) (jZ (a:= .int ws.length) (b:= .tup (bad.map .int)) (aM (ds:=[.lst (ws.map (mI N))]) (aV (by unfold af;rw [h4]) rfl) (by rw[mE,List.length_map])) rfl (ue _ _)) ?_
  rw[<-BM];rfl
 .rw [cC,List.map_append];rfl
theorem wt{N:Nat}{S:aD}{bD:D}{ins:Uq}{bits:List M}{bad:List Int}(hB:bD= .lst (bits.map (mI N))\/bD= .tup (bits.map (mI N)))(hb:bits.length=ins.length)(hi:ins.length < 100)(hw:∀x∈ins,x.2 < 100){Q:V3->aD->Prop}
 (h:Q (.loc S.length) (S++[.lst ((fv ins bits bad ins.length).map (mI N))])) :
 W3 (di [.d (.lst (ins.map inD)), .d bD, .d (mI N one), .d (.tup (bad.map .int))] S) Q:=by
 have hz:sizeLine=16777216:=sizeLine_eq;unfold di;refine xq rfl ?_;simp only[cg,eB,List.map,List.length,List.replicate,List.cons_append,List.nil_append,Nat.reduceAdd,Nat.reduceSub];unfold gE;refine aT (bA (by simp) (kM (ds:=[]) rfl ⟨_,rfl,?_⟩))
 simp only[List.set];refine aT (fB (mh (ds:=bO (bits.map (mI N))) (by rcases hB with rfl | rfl <;> rfl) ?_))
 have big:∀i,i<=ins.length->(fv ins bits bad i).length<=100*i:=by
  intro i SN
  induction i with
  | zero=>simp [fv]
  | succ i ih=>
    have ih:=ih (by omega)
    have h1:ins[i]? =some ins[i]:=List.getElem?_eq_getElem (by omega)
    have h2:bits[i]? =some bits[i]:=List.getElem?_eq_getElem (by omega)
    unfold fv;rw[h1,h2];show(m7 bad bits[i] ins[i].2 (fv ins bits bad i)).length<=_;rw[lP];have:=hw ins[i] (List.getElem_mem _);omega
 refine(bF (fun i δ S2=>(∃a b c,δ=xF N S (.lst (ins.map inD)) bD (.tup (bad.map .int)) a b c)/\S2=S++[SO.lst ((fv ins bits bad i).map (mI N))])
  ⟨⟨_,_,_,rfl⟩,rfl⟩ ?_).mono fun o S2 ⟨d7,gY,⟨a,b,c,hδ⟩,hS⟩=>⟨d7,gY,?_⟩
 .rintro i v δ S2 hv ⟨⟨a,b,c,rfl⟩,rfl⟩;obtain⟨d,hd,rfl⟩:=m3 hv;rw[List.getElem?_map] at hd;have hib:i < bits.length:=by
   have:=(List.getElem?_eq_some_iff.mp hv).1;simpa [bO] using this
  have h1:ins[i]? =some ins[i]:=List.getElem?_eq_getElem (by omega)
  have h2:bits[i]? =some bits[i]:=List.getElem?_eq_getElem hib;rw[h2] at hd;cases hd;refine⟨xF N S (.lst (ins.map inD)) bD (.tup (bad.map .int)) (some (.d (.int i))) (some (.d (mI N bits[i]))) c,rfl,?_⟩;unfold i3;have hwi:=hw ins[i] (List.getElem_mem _);refine fB (mh (qf (n:=ins[i].2) ?_ (by omega)) ?_)
  .refine ay (a:=inD ins[i]) (b:= .int 1) (ay (a:= .lst (ins.map inD)) (b:= .int i) rfl rfl (ym ?_)) rfl rfl;rw[n9 (by omega) (by rw[List.length_map,Int.toNat_natCast];omega)]
   simp
  refine(bF (fun j δ S3=>(∃c,δ=xF N S (.lst (ins.map inD)) bD (.tup (bad.map .int)) (some (.d (.int i))) (some (.d (mI N bits[i]))) c)/\S3=S++[SO.lst ((m7 bad bits[i] j (fv ins bits bad i)).map (mI N))])
   ⟨⟨_,rfl⟩,rfl⟩ ?_).mono fun o S3 ⟨Bk,e3,⟨c3,vk⟩,Bi⟩=>⟨Bk,e3,⟨_,_,c3,vk⟩,?_⟩
  .rintro j v δ S3 hv ⟨⟨c3,rfl⟩,rfl⟩;refine⟨_,rfl,?_⟩;have hj:j < ins[i].2:=by
    have:=(List.getElem?_eq_some_iff.mp hv).1
    rwa [List.length_map,gI,List.length_map,List.length_range] at this
   refine(BZ ?_).mono fun o S4 ⟨e4,e5⟩=>⟨_,e4,⟨_,rfl⟩,e5⟩
   rw[lP];have:=big i (by omega)
   omega
  .rw [Bi,List.length_map,gI,List.length_map,List.length_range];show _=S++[SO.lst ((match ins[i]?,bits[i]? with | some x,some b=>m7 bad b x.2 (fv ins bits bad i) | _,_=>fv ins bits bad i).map (mI N))]
   rw[h1,h2]
 have hlen:((bO (bits.map (mI N))).map V3.d).length=ins.length:=by simp [bO,hb]
 rw[hlen] at hS;subst hδ hS;exact eh (w_var rfl ⟨_,rfl,h⟩)
section
variable {N:Nat} {ins:Uq} {gs:List Gt} {os:Ur} {bits:List M} {turned bad:List Int}
def w6(N:Nat)(S:aD)(nt kF tD bD:D)(a6 a7 a8:Option V3):DE:=[some (.d nt),some (.d kF),some (.d (mI N one)),some (.d tD),some (.d bD),some (.loc S.length),a6,a7,a8]
theorem Ac{S:aD}{nt kF bD:D}{a8:Option V3}{g:Gt}{i:Nat}{ws:List M}(hg:uC ws.length g)(hl:ws.length < 20000) :
 W3 (ie (w6 N S nt kF (.tup (turned.map .int)) bD (some (.d (.int i))) (some (.d (eQ g))) a8) (S++[.lst (ws.map (mI N))])) fun o S1=>(∃c,o= .nx (w6 N S nt kF (.tup (turned.map .int)) bD (some (.d (.int i))) (some (.d (eQ g))) c))/\S1=S++[SO.lst ((ws++[fun p=>gF g ws p !=turned.contains (i:Int)]).map (mI N))]:=by
 have hz:sizeLine=16777216:=sizeLine_eq;have ha:=Kr g.1;unfold ie;refine aT (bA (by unfold w6;simp only[List.length_cons,List.length_nil];omega) (Ed (d:=mI N (gF g ws)) ?_ rfl ⟨_,rfl,?_⟩))
 .have h5:(cK (S++[.lst (ws.map (mI N))]) (w6 N S nt kF (.tup (turned.map .int)) bD (some (.d (.int i))) (some (.d (eQ g))) a8))[5]? =some (.val (.lst (ws.map (mI N)))):=by
   unfold cK w6;show some (match res (S++[.lst (ws.map (mI N))]) (.loc S.length) with | some d=>Sl.val d | none=> .un)=_
   unfold res;rw[a_]
  refine(aM (ds:=[.str (kS g.1), .tup ((g.2.1.map (cm ws)).map (mI N)),mI N one]) (aV (ay (a:=eQ g) (b:= .int 0) rfl rfl rfl) (aV ?_ (aV rfl rfl))) (FP hg.1 (by rw[List.length_map];exact hg.2.1))).trans ?_
  .exact aM (ds:=[.lst (ws.map (mI N)), .tup (g.2.1.map nI)]) (aV (by unfold af;rw [h5]) (aV (ay (a:=eQ g) (b:= .int 1) rfl rfl rfl) rfl)) (G6 hg.2.2 (by rw[hg.2.1];omega))
  .have:(fun p=>gv g.1 ((g.2.1.map (cm ws)).map (· p)))=gF g ws:=by funext p;unfold gF;rw [List.map_map];rfl
   rw[this]
 .show W3 (oJ 5 _ (w6 N S nt kF (.tup (turned.map .int)) bD (some (.d (.int i))) (some (.d (eQ g))) (some (.d (mI N (gF g ws))))) _) _;refine qt (k:=S.length) rfl ⟨_,a_ _ _⟩ (cy (d:=mI N fun p=>gF g ws p !=turned.contains (i:Int)) ?_ ⟨_,_,rfl,a_ _ _,by rw[List.length_map];omega,⟨_,rfl⟩,?_⟩)
  .refine uv (b:=turned.contains (i:Int)) (jZ (a:= .int i) (b:= .tup (turned.map .int)) rfl rfl (ue _ _)) ?_;rw[<-BM];rfl
  .rw [cC,List.map_append];rfl
theorem CV{S:aD}{bD:D}(hB:bD= .lst (bits.map (mI N))\/bD= .tup (bits.map (mI N)))(NO:l8 ins gs os)(hb:bits.length=ins.length)(hS:mX S){Q:V3->aD->Prop}(h:Q (.d (.lst ((uo ins gs bits turned bad).map (mI N)))) S) :
 W3 (gb [.d (bV ins gs os), .d bD, .d (mI N one), .d (.tup (turned.map .int)), .d (.tup (bad.map .int))] S) Q:=by
 have hz:sizeLine=16777216:=sizeLine_eq;unfold gb;refine l4 hS (xq rfl ?_);simp only[cg,g6,List.map,List.length,List.replicate,List.cons_append,List.nil_append,Nat.reduceAdd,Nat.reduceSub];unfold j2;refine aT <| bA (by simp) <| eF <| aG <| cy (d:= .lst (ins.map inD)) rfl <| aG <| cy (d:=bD) rfl <| aG <| cy (d:=mI N one) rfl <| aG <| cy (d:= .tup (bad.map .int)) rfl <| cA <| wt hB hb NO.hi NO.hw ⟨_,rfl,?_⟩
 simp only[List.set];have hwd:=B9 NO.hw;have hN:=NO.hi;have hG:=NO.hg;refine aT (fB (mh (ds:=bO (gs.map eQ)) rfl ?_));refine(bF (fun i δ S2=>(∃a b c,δ=w6 N S (bV ins gs os) bD (.tup (turned.map .int)) (.tup (bad.map .int)) a b c)/\S2=S++[SO.lst ((tH gs turned (fv ins bits bad ins.length) i).map (mI N))])
  ⟨⟨_,_,_,rfl⟩,rfl⟩ ?_).mono fun o S2 ⟨d7,gY,⟨a,b,c,hδ⟩,qh⟩=>⟨d7,gY,?_⟩
 .rintro i v δ S2 hv ⟨⟨a,b,c,rfl⟩,rfl⟩;obtain⟨d,hd,rfl⟩:=m3 hv;rw[List.getElem?_map] at hd;cases q:gs[i]? with
  | none=>rw [q] at hd;cases hd
  | some g=>
    rw[q] at hd;cases hd;have hi:i < gs.length:=(List.getElem?_eq_some_iff.mp q).1;have hl:(tH gs turned (fv ins bits bad ins.length) i).length=mY ins+i:=by rw[nB _ (by omega),nE hb _ (Nat.le_refl _),List.take_length]
    refine⟨w6 N S (bV ins gs os) bD (.tup (turned.map .int)) (.tup (bad.map .int)) (some (.d (.int i))) (some (.d (eQ g))) c,rfl,?_⟩;refine(Ac (by rw[hl];exact NO.g i g q) (by rw[hl];omega)).mono fun o S4 ⟨⟨c4,e4⟩,e5⟩=>⟨_,e4,⟨_,_,_,rfl⟩,?_⟩
    rw[e5];show _=S++[SO.lst ((match gs[i]? with | some g=>tH gs turned (fv ins bits bad ins.length) i++[fun p=>gF g (tH gs turned (fv ins bits bad ins.length) i) p !=turned.contains (i:Int)] | none=>tH gs turned (fv ins bits bad ins.length) i).map (mI N))]
    rw[q]
 have hlen:((bO (gs.map eQ)).map V3.d).length=gs.length:=by simp [bO]
 rw[hlen] at qh;subst hδ qh;exact eh (w_var rfl ⟨_,rfl,by unfold eL;exact decide_eq_true (Nat.le_refl _),⟨_,rfl⟩,_,by unfold res;rw [a_];rfl,h⟩)
def mG(N:Nat)(os:Ur)(ws:List M):List D:=os.map fun x=> .tup ((tell ws x).map (mI N))
theorem F3{S:aD}{ws:List M}(hO:os.length < 1000)(ho:∀x∈os,x.2.length < 1000/\∀w∈x.2,w < ws.length)(hS:mX S){Q:V3->aD->Prop}(h:Q (.d (.lst (mG N os ws))) S) :
 W3 (g8 [.d (bV ins gs os), .d (.lst (ws.map (mI N)))] S) Q:=by
 have hz:sizeLine=16777216:=sizeLine_eq;unfold g8;refine l4 hS (xq rfl ?_);simp only[cg,gz,List.map,List.length,List.replicate,List.cons_append,List.nil_append,Nat.reduceAdd,Nat.reduceSub];unfold kY;refine eh (kM (ds:=mG N os ws) ?_ ⟨_,rfl,by unfold eL;exact decide_eq_true (Nat.le_refl _),⟨_,rfl⟩,_,by unfold res;rw [a_],h⟩)
 refine dc (ds:=os.map yu) (eP (ay (a:=bV ins gs os) (b:= .int 2) rfl rfl rfl)) (by rw[List.length_map];omega) ?_
 unfold mG;refine NT.cH yu _ fun(x:Str × List Nat) hx=>⟨[.val (.str x.1), .val (.tup (x.2.map nI)), .val (.lst (ws.map (mI N)))],rfl,rfl,?_⟩
 exact aM (ds:=[.lst (ws.map (mI N)), .tup (x.2.map nI)]) rfl (G6 (ho x hx).2 (ho x hx).1)
end
end K23
end
section
namespace K23
open PySem PySem.Spec PyProof.Rows L2 L3 MT
def r0(xs:List M):M:=fun p=>(NF (xs.map (· p))).1
def r1(xs:List M):M:=fun p=>(NF (xs.map (· p))).2
theorem qj{n:Nat}{ds:List D}{δ:ak}{j:Int}(h:af 0 δ= .ok (.tup ds))(hl:ds.length=n):b2 r6 (aS gx (aw (af 0) aZ)) (eC (.int j)) δ= .ok (decide ((n:Int)=j)):=by
 refine jZ (a:= .int n) (b:= .int j) (aM (ds:=[.tup ds]) (aV h rfl) ?_) rfl ?_
 .show R.ok (D.int ds.length)=_;rw[hl]
 .show R.ok (D.bl ((n:Int)==j))=_;congr 2
theorem yo{N:Nat}{xs:List M}(h:1<=xs.length/\xs.length<=3):jF [.tup (xs.map (mI N)),mI N one]= .ok (.tup [mI N (r0 xs),mI N (r1 xs)]):=by
 have hz:sizeLine=16777216:=sizeLine_eq;unfold jF sV
 match xs,h with
 | [a],_=>
   refine d4 (cu (jT (qj (n:=1) rfl rfl) rfl) (cu (qe (d:=mI N a) (uv (qj (n:=1) rfl rfl) (ay (a:= .tup [mI N a]) (b:= .int 0) rfl rfl AY)) (by simp [fP,lK])) (cU ?_)))
   exact g9 (aV (ay (a:=mI N one) (b:=mI N a) rfl rfl (vL N a)) (aV rfl rfl)) (by simp;omega)
 | [a,b],_=>
   refine d4 (NT.lI (sR (qj (n:=2) rfl rfl) (cU ?_)));exact g9 (aV (ay (a:=mI N one) (b:=mI N fun p=>a p || b p) rfl (ay (ay rfl rfl AY) (ay rfl rfl Bz) (vS N a b)) (vL N _)) (aV (ay (ay rfl rfl AY) (ay rfl rfl Bz) (rG N a b)) rfl)) (by simp;omega)
 | [a,b,c],_=>
   refine d4 (cu (jT (qj (n:=3) rfl rfl) rfl) (cu (qe (d:=mI N fun p=>(a p && b p) || (a p && c p) || (b p && c p)) (uv (qj (n:=3) rfl rfl) (aM (ds:=[.tup [mI N a,mI N b,mI N c]]) rfl zU)) (by simp [fP,lK])) (cU ?_)))
   exact g9 (aV (ay (a:=mI N one) (b:=mI N fun p=>(a p && b p) || (a p && c p) || (b p && c p)) rfl rfl (vL N _)) (aV rfl rfl)) (by simp;omega)
theorem rg{bs:List Bool}(hl:bs.length < 100000):fH [.lst (bs.map bI)]= .ok (.int (Ef bs)):=by
 unfold fH sW;refine d4 (cu (qe (d:= .int 0) rfl (by simp [fP,oa])) ?_)
 obtain⟨cz,e1,a2,DY⟩:=og (t:=bq 2) (body:=lz) (ds:=(bs.map bI).reverse)
  (fun i δ=>∃a2,δ=[.val (.lst (bs.map bI)), .val (.int (Ef (bs.drop (bs.length - i)))),a2]) (δ:=[.val (.lst (bs.map bI)), .val (.int 0), .un]) ⟨.un,by simp [Ef]⟩ (by
    rintro i d δ hd ⟨a2,rfl⟩;have hi:i < bs.length:=by
     have:=(List.getElem?_eq_some_iff.mp hd).1
     rwa [List.length_reverse,List.length_map] at this
    rw[List.getElem?_reverse (by rw[List.length_map];exact hi),List.length_map,List.getElem?_map,List.getElem?_eq_getElem (by omega:bs.length - 1 - i < bs.length)] at hd
    cases hd;have hdr:bs.drop (bs.length - (i+1))=bs[bs.length - 1 - i] ::bs.drop (bs.length - i):=by
     rw[show bs.length - (i+1)=bs.length - 1 - i by omega,List.drop_eq_getElem_cons (by omega:bs.length - 1 - i < bs.length),show bs.length - 1 - i+1=bs.length - i by omega]
    refine⟨_,?_,⟨.val (bI bs[bs.length - 1 - i]),rfl⟩⟩;have hm:(Ef (bs.drop (bs.length - (i+1))):Int)=(Ef (bs.drop (bs.length - i)):Int)*2+(if bs[bs.length - 1 - i] then 1 else 0):=by
     rw[hdr];show(((if bs[bs.length - 1 - i] then 1 else 0)+2*Ef (bs.drop (bs.length - i)):Nat):Int)=_
     cases bs[bs.length - 1 - i] <;> simp <;> omega
    rw[hm];generalize (Ef (bs.drop (bs.length - i)):Int)=m;generalize bs[bs.length - 1 - i]=x;generalize D.lst (bs.map bI)=y;rw[show bq 2 (bI x) [.val y, .val (.int m),a2]= .ok [.val y, .val (.int m), .val (bI x)] from rfl,R.aN]
    unfold lz;exact qe (ay (a:= .int (m*2)) (b:=bI x) (ay (a:= .int m) (b:= .int 2) rfl rfl (bJ _ (.inr ⟨by omega,by omega⟩))) rfl rfl) (by simp))
 refine cu (um (ds:=(bs.map bI).reverse) rfl e1) ?_;rw[List.length_reverse,List.length_map,Nat.sub_self,List.drop_zero] at DY;subst DY;exact cU rfl
def cL:Nat->List (List Bool)
 | 0=>[[]]
 | c+1=>(cL c).flatMap fun b=>[b++[false],b++[true]]
theorem dh:∀c,(cL c).length=2 ^ c
 | 0=>rfl
 | c+1=>by
   unfold cL;rw[List.length_flatMap];have:(cL c).map (fun b=>[b++[false],b++[true]].length)=(cL c).map fun _=>2:=rfl
   rw[this,List.map_const',List.sum_replicate_nat,dh c];omega
theorem om:∀c,∀b∈cL c,b.length=c
 | 0,b,h=>by unfold cL at h;rw [List.mem_singleton.mp h];rfl
 | c+1,b,h=>by
   unfold cL at h;obtain⟨a,ha,hb⟩:=List.mem_flatMap.mp h;have:=om c a ha;simp only[List.mem_cons,List.not_mem_nil,or_false] at hb;rcases hb with rfl | rfl <;> simp [this]
def fw(b:List Bool):D:= .tup (b.map bI)
def aE(c:Nat)(Sh:Option V3)(a2 a3 a4:Option V3):DE:=[some (.d (nI c)),Sh,a2,a3,a4]
theorem sG{c:Nat}{S:aD}(hc:c<=10)(hS:mX S){Q:V3->aD->Prop}(h:Q (.d (.lst ((cL c).map fw))) S):W3 (gm [.d (nI c)] S) Q:=by
 have hz:sizeLine=16777216:=sizeLine_eq;unfold gm;refine l4 hS (xq rfl ?_);simp only[cg,g_,List.map,List.length,List.replicate,List.cons_append,List.nil_append,Nat.reduceAdd,Nat.reduceSub];unfold j9;refine aT <| bA (by simp) <| kM (ds:=(cL 0).map fw) rfl ⟨_,rfl,?_⟩
 simp only[List.set];refine aT <| fB <| mh (qf (n:=c) rfl (by omega)) ?_
 refine(bF (fun i δ S2=>∃(T:aD) (a2 a3 a4:Option V3),S2=S++T++[.lst ((cL i).map fw)]/\δ=aE c (some (.loc (S++T).length)) a2 a3 a4)
  ⟨[],none,none,none,by simp,by simp [aE]⟩ ?_).mono fun o S2 ⟨d7,gY,T,a2,a3,a4,qh,hδ⟩=>⟨d7,gY,?_⟩
 .rintro i v δ S2 hv ⟨T,a2,a3,a4,rfl,rfl⟩;have hi:i < c:=by
   have:=(List.getElem?_eq_some_iff.mp hv).1
   rwa [List.length_map,gI,List.length_map,List.length_range] at this
  have hpow:(cL i).length<=1024:=by
   rw[dh];exact Nat.pow_le_pow_right (by omega) (by omega:i<=10)
  refine⟨aE c (some (.loc (S++T).length)) (some v) a3 a4,rfl,?_⟩;unfold lh aE;refine Hg (i:=1) rfl (a_ _ _) ?_;rw[cC];simp only[List.set];refine aT <| bA (by simp) <| kM (ds:=[]) rfl ⟨_,rfl,?_⟩
  simp only[List.set];generalize hU:S++T++[SO.jf]=U;refine aT <| fB <| mh (ds:=(cL i).map fw) rfl ?_
  refine(bF (fun j δ S3=>(∃b4,δ=[some (.d (nI c)),some (.d (.lst ((cL i).map fw))),some v,some (.loc U.length),b4])/\S3=U++[.lst ((((cL i).take j).flatMap fun b=>[b++[false],b++[true]]).map fw)])
   ⟨⟨_,rfl⟩,by simp⟩ ?_).mono fun o S3 ⟨Bk,e3,⟨b4,vk⟩,Bi⟩=>⟨Bk,e3,?_⟩
  .rintro j v3 δ S3 hv3 ⟨⟨b4,rfl⟩,rfl⟩;obtain⟨b,hb,rfl⟩:=NT.iE hv3;have hj:=(List.getElem?_eq_some_iff.mp hb).1;have hbl:=om i b (List.mem_of_getElem? hb);refine⟨[some (.d (nI c)),some (.d (.lst ((cL i).map fw))),some v,some (.loc U.length),some (.d (fw b))],rfl,?_⟩;unfold k_;generalize hL:((((cL i).take j).flatMap fun b=>[b++[false],b++[true]]).map fw)=L
   have hLl:L.length<=2048:=by
    rw[<-hL,List.length_map,List.length_flatMap];have:((cL i).take j).map (fun b=>[b++[false],b++[true]].length)=((cL i).take j).map fun _=>2:=rfl
    rw[this,List.map_const',List.sum_replicate_nat,List.length_take];omega
   have add:∀(x:Bool) (δ:ak),af 4 δ= .ok (fw b)->e2 fF (af 4) (kI (aw (eC (bI x)) aZ)) δ= .ok (fw (b++[x])):=fun x δ h4=>by
    refine ay (a:=fw b) (b:= .tup [bI x]) h4 (g9 rfl (by simp;omega)) ?_
    show R.bg (decide ((b.map bI).length+[bI x].length<=sizeLine)) _=_;rw[bJ _ (by rw[List.length_map];simp;omega)]
    unfold fw;rw[List.map_append];rfl
   refine aT <| qt (k:=U.length) rfl ⟨_,a_ _ _⟩ <| cy (d:=fw (b++[false])) (add false _ rfl) ⟨_,_,rfl,a_ _ _,by omega,_,rfl,?_⟩
   rw[cC];refine qt (k:=U.length) rfl ⟨_,a_ _ _⟩ <| cy (d:=fw (b++[true])) (add true _ rfl) ⟨_,_,rfl,a_ _ _,by rw[List.length_append];simp;omega,_,rfl,⟨_,rfl⟩,?_⟩
   rw[cC,List.take_add_one,hb,List.flatMap_append,List.map_append,hL];simp
  rw[List.length_map,List.length_map,List.take_length] at Bi;subst vk Bi;refine bA (by simp) <| w_var (v:= .loc U.length) rfl ⟨_,rfl,T++[SO.jf],some v,some (.loc U.length),b4,?_,?_⟩
  .rw [<-hU,List.append_assoc S];rfl
  .rw [<-hU,List.append_assoc S];rfl
 have hlen:((gI 0 c).map V3.d).length=c:=by simp [gI]
 rw[hlen] at qh;subst hδ qh;unfold aE;refine eh (w_var rfl ⟨_,rfl,by unfold eL;exact decide_eq_true (by rw[List.length_append];omega),⟨T++[.lst ((cL c).map fw)],by rw[List.append_assoc]⟩,_,by unfold res;rw [a_],h⟩)
end K23
end
section
namespace K23
open PySem PySem.Spec PyProof.Rows L2 L3 MT
def NS(c j:Nat):M:=fun p=>((cL c).getD p []).getD j false
def sr(c:Nat):List M:=(List.range c).map (NS c)
theorem I_{b:List Bool}{j:Nat}(h:j < b.length):cN (fw b) (.int j)= .ok (bI (b.getD j false)):=by
 refine ud ?_;rw[n9 (by omega) (by rw[List.length_map,Int.toNat_natCast];exact h)]
 rw[List.getD_eq_getElem?_getD,List.getElem?_eq_getElem h];simp
theorem xJ{c j:Nat}(hc:c<=10)(hj:j < c):jS [.lst ((cL c).map fw), .int j]= .ok (mI (2 ^ c) (NS c j)):=by
 have hz:sizeLine=16777216:=sizeLine_eq;have hp:2 ^ c<=1024:=Nat.pow_le_pow_right (by omega) hc
 unfold jS tu;refine d4 (cU (aM (ds:=[.lst (((cL c).map fun b=>b.getD j false).map bI)]) (aV (eD (dc (ds:=(cL c).map fw) rfl (by rw[List.length_map,dh];omega) ?_)) rfl) ?_))
 .rw [List.map_map];exact NT.cH fw _ fun b hb=>⟨[.val (fw b), .val (.int j)],rfl,rfl,ay (a:=fw b) (b:= .int j) rfl rfl (I_ (by rw[om c b hb];exact hj))⟩
 .rw [rg (by rw[List.length_map,dh];omega),DM,List.length_map,dh]
  unfold mI;congr 3;refine lO fun p N_=>?_
  unfold NS;rw[List.getD_eq_getElem?_getD,List.getElem?_map,List.getD_eq_getElem?_getD (l:=cL c),List.getElem?_eq_getElem (by rw[dh];exact N_)]
  rfl
section
variable {c:Nat} {ins:Uq} {gs:List Gt} {os:Ur}
abbrev BU:=Str.ofString "net"
abbrev zf:=Str.ofString "many_inputs"
abbrev sT:=Str.ofString "full"
abbrev nY:=Str.ofString "in_masks"
def d3(c:Nat)(nt:D):List (Str × V3):=[(BU, .d nt),(zf, .d (nI (2 ^ c))),(sT, .d (mI (2 ^ c) one)),(nY, .d (.lst ((sr c).map (mI (2 ^ c)))))]
theorem E7{S:aD}(hc:ins.length=c)(vz:c<=10)(hS:mX (S++[.ins 0 []])){Q:V3->aD->Prop}(h:Q (.d .bQ) (S++[.ins 0 (d3 c (bV ins gs os))])) :
 W3 (cR [.loc S.length, .d (bV ins gs os)] (S++[.ins 0 []])) Q:=by
 have hz:sizeLine=16777216:=sizeLine_eq;have hp:2 ^ c<=1024:=Nat.pow_le_pow_right (by omega) vz
 unfold cR;refine KN rfl ?_;simp only[cg,cw,List.map,List.length,List.replicate,List.cons_append,List.nil_append,Nat.reduceAdd,Nat.reduceSub];unfold fN;refine aT <| bA (by simp) <| eF <| aG <| cy (d:=nI c) (aM (ds:=[.lst (ins.map inD)]) rfl (by rw[mE,List.length_map,hc];rfl)) <| cA <| sG vz hS ⟨_,rfl,?_⟩
 simp only[List.set];refine aT <| iS (k:=S.length) <| cy (d:=bV ins gs os) rfl <| w_var (v:= .loc S.length) rfl ⟨_,rfl,a_ _ _,by simp,_,rfl,?_⟩
 rw[cC];refine aT <| iS (k:=S.length) <| cy (d:=nI (2 ^ c)) (aM (ds:=[.lst ((cL c).map fw)]) rfl (by rw[mE,List.length_map,dh];rfl)) <| w_var (v:= .loc S.length) rfl ⟨_,rfl,a_ _ _,by unfold wo;simp,_,rfl,?_⟩
 rw[cC];refine aT <| iS (k:=S.length) <| cy (d:=mI (2 ^ c) one) (aM (ds:=[.lst (((cL c).map fun _=>true).map bI)]) (aV (eD (dc (ds:=(cL c).map fw) rfl (by rw[List.length_map,dh];omega) ?_)) rfl) ?_) <| w_var (v:= .loc S.length) rfl ⟨_,rfl,a_ _ _,?_,_,rfl,?_⟩
 .rw [List.map_map];exact NT.cH fw _ fun b hb=>⟨[.val (fw b)],rfl,rfl,rfl⟩
 .rw [rg (by rw[List.length_map,dh];omega),DM,List.length_map,dh]
  unfold mI;congr 3;refine lO fun p N_=>?_
  rw[List.getD_eq_getElem?_getD,List.getElem?_map,List.getElem?_eq_getElem (by rw[dh];exact N_)]
  rfl
 .exact(by decide:2 < 1000)
 rw[cC];refine iS (k:=S.length) <| cy (d:= .lst ((sr c).map (mI (2 ^ c)))) (eD (dc (ds:=gI 0 c) (qf (n:=c) (aM (ds:=[.lst (ins.map inD)]) rfl (by rw[mE,List.length_map,hc])) (by omega)) (by simp [gI];omega) ?_)) <| w_var (v:= .loc S.length) rfl ⟨_,rfl,a_ _ _,?_,_,rfl,?_⟩
 .unfold sr;rw[List.map_map];unfold gI;refine NT.cH (fun i:Nat=>D.int (0+(i:Int))) _ fun j hj=>⟨[.val (.int (0+(j:Int))), .val (.lst ((cL c).map fw))],rfl,rfl,aM (ds:=[.lst ((cL c).map fw), .int j]) ?_ (xJ vz (List.mem_range.mp hj))⟩
  rw[Int.zero_add];rfl
 .exact(by decide:3 < 1000)
 rw[cC];exact h
end
end K23
end
section
namespace K23
open PySem PySem.Spec PyProof.Rows L2 L3 MT
section
variable {c:Nat} {ins:Uq} {gs:List Gt} {os:Ur} {S:aD} {k:Nat} {turned bad:List Int}
theorem QF:(sT==BU)=false:=by decide+kernel
theorem Rj:(sT==zf)=false:=by decide+kernel
theorem Qm:(nY==BU)=false:=by decide+kernel
theorem Rn:(nY==zf)=false:=by decide+kernel
theorem Rx:(nY==sT)=false:=by decide+kernel
theorem Dp{nt:D}:(d3 c nt).lookup BU=some (.d nt):=by unfold d3;rw [List.lookup_cons,beq_self_eq_true]
theorem yW{nt:D}:(d3 c nt).lookup sT=some (.d (mI (2 ^ c) one)):=by unfold d3;rw [List.lookup_cons,QF,List.lookup_cons,Rj,List.lookup_cons,beq_self_eq_true]
theorem DJ{nt:D}:(d3 c nt).lookup nY=some (.d (.lst ((sr c).map (mI (2 ^ c))))):=by unfold d3;rw [List.lookup_cons,Qm,List.lookup_cons,Rn,List.lookup_cons,Rx,List.lookup_cons,beq_self_eq_true]
theorem vD:(sr c).length=c:=by unfold sr;simp
abbrev Wd(c:Nat)(ins:Uq)(gs:List Gt)(turned bad:List Int):List M:=uo ins gs (sr c) turned bad
theorem Ib(m:Str)(nt:D)(h1:(m==BU)=false)(h2:(m==zf)=false)(h3:(m==sT)=false)(h4:(m==nY)=false):(d3 c nt).lookup m=none:=by unfold d3;rw [List.lookup_cons,h1,List.lookup_cons,h2,List.lookup_cons,h3,List.lookup_cons,h4];rfl
theorem Dh(NO:l8 ins gs os)(hc:ins.length=c)(hS:mX S)(hb:S[k]? =some (.ins 0 (d3 c (bV ins gs os)))){Q:V3->aD->Prop}(h:Q (.d (.lst (mG (2 ^ c) os (Wd c ins gs turned bad)))) S) :
 W3 (eN [.loc k, .d (.tup (turned.map .int)), .d (.tup (bad.map .int))] S) Q:=by
 have hz:sizeLine=16777216:=sizeLine_eq;unfold eN;refine l4 hS (xq rfl ?_);simp only[cg,gh,List.map,List.length,List.replicate,List.cons_append,List.nil_append,Nat.reduceAdd,Nat.reduceSub];unfold jj;have hl:(sr c).length=ins.length:=by rw[vD,hc]
 refine eh <| eF <| aG <| w_fld (k:=k) <| w_var (v:= .loc k) rfl ⟨_,_,rfl,hb,Dp,?_⟩
 refine aG <| eF <| aG <| w_fld (k:=k) <| w_var (v:= .loc k) rfl ⟨_,_,rfl,hb,Dp,?_⟩
 refine aG <| w_fld (k:=k) <| w_var (v:= .loc k) rfl ⟨_,_,rfl,hb,DJ,?_⟩
 refine aG <| w_fld (k:=k) <| w_var (v:= .loc k) rfl ⟨_,_,rfl,hb,yW,?_⟩
 refine aG <| cy (d:= .tup (turned.map .int)) rfl <| aG <| cy (d:= .tup (bad.map .int)) rfl <| cA ?_
 refine CV (.inl rfl) NO hl hS (cA ?_);refine F3 NO.ho (fun x hx=>⟨(NO.o x hx).1,fun w hw=>by rw[B0 hl];exact(NO.o x hx).2 w hw⟩) hS ?_
 exact⟨_,rfl,by unfold eL;rfl,⟨[],by simp⟩,_,by unfold res;rfl,h⟩
def FU(N:Nat)(os:Ur)(ws:List M):List D:=os.map fun x=> .tup [mI N (r0 (tell ws x)),mI N (r1 (tell ws x))]
theorem o5(NO:l8 ins gs os)(hc:ins.length=c)(ho:∀x∈os,1<=x.2.length/\x.2.length<=3)(hS:mX S)(hb:S[k]? =some (.ins 0 (d3 c (bV ins gs os)))){Q:V3->aD->Prop}(h:Q (.d (.lst (FU (2 ^ c) os (Wd c ins gs turned [])))) S) :
 W3 (bZ [.loc k, .d (.tup (turned.map .int))] S) Q:=by
 have hz:sizeLine=16777216:=sizeLine_eq;have hO:=NO.ho;unfold bZ;refine l4 hS (xq rfl ?_);simp only[cg,de,List.map,List.length,List.replicate,List.cons_append,List.nil_append,Nat.reduceAdd,Nat.reduceSub];unfold fI;refine eh <| pX (fun j ds S2=>S2=S/\ds=(FU (2 ^ c) os (Wd c ins gs turned [])).take j) ?_
 refine pZ <| ur (k:=k) <| w_var (v:= .loc k) rfl ⟨_,rfl,hb,Ib _ _ (by decide+kernel) (by decide+kernel) (by decide+kernel) (by decide+kernel),?_⟩
 refine aG <| cy (d:= .tup (turned.map .int)) rfl <| aG <| cy (d:= .tup (([]:List Int).map .int)) rfl <| cA ?_
 refine Dh NO hc hS hb ⟨_,rfl,?_,⟨rfl,by simp⟩,?_,?_⟩
 .rw [List.length_map,mG,List.length_map];omega
 .rintro j v ds S2 hv ⟨rfl,rfl⟩;rw[mG] at hv;obtain⟨x,hx,rfl⟩:=NT.iE hv;refine⟨[some (.d (.tup ((tell (Wd c ins gs turned []) x).map (mI (2 ^ c))))),some (.loc k)],rfl,zg ?_⟩;rw[if_pos rfl];refine ve <| aG <| cy (d:= .tup ((tell (Wd c ins gs turned []) x).map (mI (2 ^ c)))) rfl <| aG <| w_fld (k:=k) <| w_var (v:= .loc k) rfl ⟨_,_,rfl,hb,yW,cA ⟨[.tup ((tell (Wd c ins gs turned []) x).map (mI (2 ^ c))),mI (2 ^ c) one],_,rfl,yo ?_,_,rfl,rfl,?_⟩⟩
  .unfold tell;rw [List.length_map];exact ho x (List.mem_of_getElem? hx)
  .unfold FU;rw[List.take_add_one,List.getElem?_map,hx];rfl
 .rintro ds S2 ⟨rfl,rfl⟩;rw[List.length_map,mG,List.length_map,List.take_of_length_le (by rw[FU,List.length_map];exact Nat.le_refl _)]
  exact⟨_,rfl,by unfold eL;rfl,⟨[],by simp⟩,_,by unfold res;rfl,h⟩
end
end K23
end
section
namespace K23
open PySem PySem.Spec PyProof.Rows L2 L3 MT
def bM(T:List Nat):D:= .tup (T.map nI)
theorem Fo{ps:List Nat}{a:Nat}(ha:a < ps.length):Hb (.lst (ps.map nI)) (some ((a+1:Nat):Int)) none= .ok (.lst ((ps.drop (a+1)).map nI)):=by
 show R.ok (D.lst (L2.cutD (ps.map nI) (some ((a+1:Nat):Int)) none))=_;congr 2;unfold L2.cutD;rw[List.length_map,HT.p7,HT.qo,Nat.min_eq_left (by omega),<-List.map_drop,<-List.map_take,List.take_of_length_le (by rw[List.length_drop];omega)]
theorem Dm{ds es:List D}(h:ds.length+es.length<=sizeLine):fF (.tup ds) (.tup es)= .ok (.tup (ds++es)):=bJ _ h
theorem qw:∀(n s:Nat) (ps:List Nat),s<=n->n<=3->ps.length<=100->dG (n+1) [.lst (ps.map nI), .int s]= .ok (.lst ((h_ ps s).map bM))
 | n,0,ps,_,_,_=>by
   show wz jN (jW (dG n)) _=_;unfold jW;exact d4 (NT.lI (sR (jZ (a:= .int 0) (b:= .int 0) rfl rfl rfl) (cU rfl)))
 | 0,s+1,ps,h,_,_=>by omega
 | n+1,s+1,ps,h,hn,hp=>by
   have hz:sizeLine=16777216:=sizeLine_eq;show wz jN (jW (dG (n+1))) _=_;unfold jW;have hcl:(h_ ps (s+1)).length<=100 ^ (s+1):=lN hp;have hpow:∀m,m<=3->(100:Nat) ^ m<=1000000:=fun m hm=>Nat.pow_le_pow_right (by omega) hm
   refine d4 (cu (jT (jZ (a:= .int (s+1:Nat)) (b:= .int 0) (k:=false) rfl rfl ?_) rfl) ?_)
   .show R.ok (D.bl (((s+1:Nat):Int)==0))=_;congr 2
   refine cu (Fq (ds:=[]) rfl (by simp [fP,jN])) ?_
   let F:Nat->Us:=fun i=>(List.range i).flatMap fun a=>(h_ (ps.drop (a+1)) s).map (ps.getD a 0 ::·)
   have hF:∀i,i<=ps.length->(F i).length<=i*100 ^ s:=fun i hi=>by
    show((List.range i).flatMap fun a=>(h_ (ps.drop (a+1)) s).map (ps.getD a 0 ::·)).length<=_
    rw[List.length_flatMap];refine Nat.le_trans (yr (m:=100 ^ s) fun x hx=>?_) (by rw[List.length_map,List.length_range];exact Nat.le_refl _)
    obtain⟨a,_,rfl⟩:=List.mem_map.mp hx;rw[List.length_map];exact lN (by rw[List.length_drop];omega)
   have hFs:∀i,F (i+1)=F i++(h_ (ps.drop (i+1)) s).map (ps.getD i 0 ::·):=fun i=>by
    show(List.range (i+1)).flatMap _=_;rw[List.range_succ,List.flatMap_append];simp [F]
   obtain⟨cz,e1,a3,a4,a5,DY⟩:=og (t:=o9 2 (eO (bq 3) (eO (bq 4) pf))) (body:=kR (dG (n+1))) (ds:=bO (ps.map nI))
    (fun i δ=>∃a3 a4 a5,δ=[.val (.lst (ps.map nI)), .val (.int (s+1:Nat)), .bld ((F i).map bM),a3,a4,a5]) (δ:=[.val (.lst (ps.map nI)), .val (.int (s+1:Nat)), .bld [], .un, .un, .un]) ⟨.un, .un, .un,by simp [F]⟩ (by
      rintro i d δ hd ⟨a3,a4,a5,rfl⟩;have hv:((bO (ps.map nI)).map V3.d)[i]? =some (.d d):=by rw[List.getElem?_map,hd];rfl
      obtain⟨d0,JQ,ed⟩:=m3 hv;cases ed;obtain⟨x,hx,rfl⟩:=NT.p_ JQ;have hil:=(List.getElem?_eq_some_iff.mp hx).1;have hxd:ps.getD i 0=x:=by rw[List.getD_eq_getElem?_getD,hx];rfl
      have hFi:=hF i (by omega)
      have hFb:i*100 ^ s<=100*100 ^ s:=Nat.mul_le_mul_right _ (by omega)
      have hp2:=hpow (s+1) (by omega)
      rw[Nat.pow_succ,Nat.mul_comm] at hp2;rw[show o9 2 (eO (bq 3) (eO (bq 4) pf)) (.tup [.int i,nI x]) [.val (.lst (ps.map nI)), .val (.int (s+1:Nat)), .bld ((F i).map bM),a3,a4,a5]= .ok [.val (.lst (ps.map nI)), .val (.int (s+1:Nat)), .bld ((F i).map bM), .val (.int i), .val (nI x),a5] from rfl,R.aN]
      unfold kR;have ihc:=qw n s (ps.drop (i+1)) (by omega) (by omega) (by rw[List.length_drop];omega)
      have hdl:(h_ (ps.drop (i+1)) s).length<=100 ^ s:=lN (by rw[List.length_drop];omega)
      obtain⟨d7,gY,c5,LL⟩:=og (t:=bq 5) (body:=lp (dG (n+1))) (ds:=(h_ (ps.drop (i+1)) s).map bM)
       (fun j δ=>∃c5,δ=[.val (.lst (ps.map nI)), .val (.int (s+1:Nat)), .bld ((F i++((h_ (ps.drop (i+1)) s).take j).map (x ::·)).map bM), .val (.int i), .val (nI x),c5]) (δ:=[.val (.lst (ps.map nI)), .val (.int (s+1:Nat)), .bld ((F i).map bM), .val (.int i), .val (nI x),a5]) ⟨a5,by simp⟩ (by
         rintro j d δ hd ⟨c5,rfl⟩;obtain⟨T,hT,rfl⟩:=NT.p_ hd;have hjl:=(List.getElem?_eq_some_iff.mp hT).1;have hTl:=(iu (List.mem_of_getElem? hT)).1;refine⟨[.val (.lst (ps.map nI)), .val (.int (s+1:Nat)), .bld ((F i++((h_ (ps.drop (i+1)) s).take (j+1)).map (x ::·)).map bM), .val (.int i), .val (nI x), .val (bM T)],?_,⟨_,rfl⟩⟩
         generalize hL:(F i++((h_ (ps.drop (i+1)) s).take j).map (x ::·)).map bM=L
         have hLl:L.length < sizeLine:=by
          rw[<-hL,List.length_map,List.length_append,List.length_map,List.length_take];omega
         rw[show bq 5 (bM T) [.val (.lst (ps.map nI)), .val (.int (s+1:Nat)), .bld L, .val (.int i), .val (nI x),c5]= .ok [.val (.lst (ps.map nI)), .val (.int (s+1:Nat)), .bld L, .val (.int i), .val (nI x), .val (bM T)] from rfl,R.aN]
         unfold lp;rw[EF (d:=bM (x ::T)) (ds:=L) (ay (a:= .tup [nI x]) (b:=bM T) (g9 rfl (by simp;omega)) rfl (Dm (by rw[List.length_map];simp;omega))) rfl hLl,<-hL,List.take_add_one,hT]
         simp [bM])
      refine⟨_,um (ds:=(h_ (ps.drop (i+1)) s).map bM) (eP (aM (ds:=[.lst ((ps.drop (i+1)).map nI), .int s]) (aV (uN (d:= .lst (ps.map nI)) (lo:=some ((i+1:Nat):Int)) (hi:=none) rfl (vQ (ay (a:= .int i) (b:= .int 1) rfl rfl rfl)) rfl (Fo hil)) (aV (ay (a:= .int (s+1:Nat)) (b:= .int 1) rfl rfl ?_) rfl)) ihc)) gY,?_⟩
      .show R.ok (D.int (((s+1:Nat):Int) - 1))=_;congr 2;omega
      .rw [List.length_map,List.take_length] at LL;refine⟨.val (.int i), .val (nI x),c5,?_⟩;rw[LL,hFs,hxd])
   refine cu (um (ds:=bO (ps.map nI)) rfl e1) ?_;have hlen:(bO (ps.map nI)).length=ps.length:=by simp [bO]
   rw[hlen] at DY;subst DY;exact cU rfl
end K23
end
section
namespace K23
open PySem PySem.Spec PyProof.Rows L2 L3 MT
section
variable {c:Nat} {ins:Uq} {gs:List Gt} {os:Ur} {S:aD} {k:Nat} {turned:List Int} {safe:Bool}
abbrev mw:=Str.ofString "bench"
abbrev qV:=Str.ofString "plain"
abbrev nv:=Str.ofString "unsure"
def jI(gs:List Gt):List Nat:=(List.range gs.length).filter fun i=>match gs[i]? with | some g=>!g.2.2 | none=>false
def fR(c:Nat)(ins:Uq)(gs:List Gt)(os:Ur)(b:Nat):List (Str × V3):=[(mw, .loc b),(qV, .d (.lst (FU (2 ^ c) os (Wd c ins gs [] [])))),(nv, .d (.lst ((jI gs).map nI)))]
theorem QC:(qV==mw)=false:=by decide+kernel
theorem QQ:(nv==mw)=false:=by decide+kernel
theorem Rb:(nv==qV)=false:=by decide+kernel
theorem C6{b:Nat}:(fR c ins gs os b).lookup mw=some (.loc b):=by unfold fR;rw [List.lookup_cons,beq_self_eq_true]
theorem DL{b:Nat}:(fR c ins gs os b).lookup qV=some (.d (.lst (FU (2 ^ c) os (Wd c ins gs [] [])))):=by unfold fR;rw [List.lookup_cons,QC,List.lookup_cons,beq_self_eq_true]
theorem Hr{b:Nat}:(fR c ins gs os b).lookup nv=some (.d (.lst ((jI gs).map nI))):=by unfold fR;rw [List.lookup_cons,QQ,List.lookup_cons,Rb,List.lookup_cons,beq_self_eq_true]
theorem LF{b:Nat}(m:Str)(h1:(m==mw)=false)(h2:(m==qV)=false)(h3:(m==nv)=false):(fR c ins gs os b).lookup m=none:=by unfold fR;rw [List.lookup_cons,h1,List.lookup_cons,h2,List.lookup_cons,h3];rfl
def TS(S:aD)(c:Nat)(ins:Uq)(gs:List Gt)(os:Ur):aD:=S++[.ins 1 (fR c ins gs os (S.length+1)), .ins 0 (d3 c (bV ins gs os))]
mutual
theorem xW{n m:Nat}(h:n<=m):∀v:V3,kW n v=true->kW m v=true
 | .d _,_=>by unfold kW;rfl
 | .loc k,q=>by
   unfold kW at q ⊢;exact decide_eq_true (Nat.lt_of_lt_of_le (of_decide_eq_true q) h)
 | .lst vs,q=>by unfold kW at q ⊢;exact i7 h vs q
 | .tup vs,q=>by unfold kW at q ⊢;exact i7 h vs q
theorem i7{n m:Nat}(h:n<=m):∀vs:List V3,iG n vs=true->iG m vs=true
 | [],_=>by unfold iG;rfl
 | v ::vs,q=>by
   unfold iG at q ⊢;rw[Bool.and_eq_true] at q ⊢;exact⟨xW h v q.1,i7 h vs q.2⟩
end
theorem tT{n m:Nat}(h:n<=m)(o:SO)(q:mR n o=true):mR m o=true:=by
 cases o with
 | ins k fs=>exact i7 h _ q
 | _=>rfl
theorem mX.push{S:aD}(hS:mX S){x:SO}(hx:∀n,mR n x=true):mX (S++[x]):=fun o ho=>by
 rcases List.mem_append.mp ho with q | q
 .exact tT (by simp) o (hS o q)
 .rw [List.mem_singleton.mp q];exact hx _
theorem Hz{S:aD}(hS:mX S){x y:SO}(hx:mR (S.length+2) x=true)(hy:mR (S.length+2) y=true):mX (S++[x,y]):=fun o ho=>by
 rw[show(S++[x,y]).length=S.length+2 by simp]
 rcases List.mem_append.mp ho with q | q
 .exact tT (by omega) o (hS o q)
 .simp only[List.mem_cons,List.not_mem_nil,or_false] at q;rcases q with rfl | rfl
  .exact hx
  .exact hy
theorem Dl{δ:ak}(hg:gs.length < 1000)(h1:af 1 δ= .ok (bV ins gs os)):ef (ip (e2 cN (af 1) (eC (.int 1)))) (o9 2 (eO (bq 0) (eO (bq 1) pf))) (uI (qX (e2 cN (af 1) (eC (.int 2))))) (af 0) ["place","gate"] [] δ= .ok ((jI gs).map nI):=by
 have hz:sizeLine=16777216:=sizeLine_eq;refine dc (ds:=bO (gs.map eQ)) (Ih (ay (a:=bV ins gs os) (b:= .int 1) h1 rfl rfl)) (by simp [bO];omega) ?_
 have e:bO (gs.map eQ)=(List.range gs.length).map fun i=> .tup [.int i,eQ (gs.getD i (0,[],false))]:=by
  refine List.ext_getElem? fun i=>?_
  rw[List.getElem?_map,bO,List.getElem?_map,List.getElem?_zipIdx,List.getElem?_map];by_cases q:i < gs.length
  .rw [List.getElem?_eq_getElem q,List.getElem?_range q];show some (D.tup [.int ((0+i:Nat):Int),eQ gs[i]])=some (D.tup [.int i,eQ (gs.getD i (0,[],false))]);rw[Nat.zero_add,List.getD_eq_getElem?_getD,List.getElem?_eq_getElem q];rfl
  .rw [List.getElem?_eq_none (by omega),List.getElem?_eq_none (by simp;omega)];rfl
 rw[e];unfold jI;refine NT.km (fun i:Nat=>match gs[i]? with | some g=>!g.2.2 | none=>false) (fun i:Nat=>D.tup [.int i,eQ (gs.getD i (0,[],false))]) nI fun i hi=>?_
 rw[List.mem_range] at hi;refine⟨[.val (.int i), .val (eQ (gs.getD i (0,[],false)))],rfl,?_,fun _=>rfl⟩
 rw[List.getElem?_eq_getElem hi,List.getD_eq_getElem?_getD,List.getElem?_eq_getElem hi];rfl
theorem Di(NO:l8 ins gs os)(hc:ins.length=c)(vz:c<=10)(ho:∀x∈os,1<=x.2.length/\x.2.length<=3)(hS:mX S){Q:V3->aD->Prop}(h:Q (.d .bQ) (TS S c ins gs os)) :
 W3 (cV [.loc S.length, .d (bV ins gs os)] (S++[.ins 1 []])) Q:=by
 have hz:sizeLine=16777216:=sizeLine_eq;unfold cV;refine KN rfl ?_;simp only[cg,dk,List.map,List.length,List.replicate,List.cons_append,List.nil_append,Nat.reduceAdd,Nat.reduceSub];unfold fK;have l1:(S++[SO.ins 1 []]).length=S.length+1:=by simp
 have g0:∀(x y:SO),(S++[x,y])[S.length]? =some x:=fun x y=>by rw[List.getElem?_append_right (Nat.le_refl _),Nat.sub_self];rfl
 have g1:∀(x y:SO),(S++[x,y])[S.length+1]? =some y:=fun x y=>by rw[List.getElem?_append_right (by omega),show S.length+1 - S.length=1 by omega];rfl
 have st:∀(x y z:SO),(S++[x,y]).set S.length z=S++[z,y]:=fun x y z=>by rw[List.set_append_right _ _ (Nat.le_refl _),Nat.sub_self];rfl
 have ap:∀(x y:SO),S++[x]++[y]=S++[x,y]:=fun x y=>by simp
 refine aT <| iS (k:=S.length) <| Cw <| aG <| cy (d:=bV ins gs os) rfl <| cA <| E7 hc vz ?_ ⟨rfl,?_⟩
 .rw [ap];exact Hz hS rfl rfl
 rw[ap];refine w_var (v:= .loc S.length) rfl ⟨_,rfl,g0 _ _,by simp,_,rfl,?_⟩
 rw[st,l1];have hcl:∀fs:List (Str × V3),iG (S.length+2) (fs.map (·.2))=true->mX (S++[.ins 1 fs, .ins 0 (d3 c (bV ins gs os))]):=fun fs hf=>Hz hS hf rfl
 refine aT <| iS (k:=S.length) <| ur (k:=S.length+1) <| w_fld (k:=S.length) <| w_var (v:= .loc S.length) rfl ⟨_,_,rfl,g0 _ _,(by show List.lookup mw [(mw,V3.loc (S.length+1))]=_;rw [List.lookup_cons,beq_self_eq_true]),_,rfl,g1 _ _,Ib _ _ (by decide+kernel) (by decide+kernel) (by decide+kernel) (by decide+kernel),?_⟩
 refine aG <| cy (d:= .tup (([]:List Int).map .int)) rfl <| cA <| o5 NO hc ho (hcl _ ?_) (g1 _ _) ?_
 .show(decide (S.length+1 < S.length+2) && true)=true;rw[decide_eq_true (by omega)];rfl
 refine w_var (v:= .loc S.length) rfl ⟨_,rfl,g0 _ _,(by decide:1 < 1000),_,rfl,?_⟩
 rw[st];refine iS (k:=S.length) <| cy (d:= .lst ((jI gs).map nI)) (eD (Dl NO.hg rfl)) <| w_var (v:= .loc S.length) rfl ⟨_,rfl,g0 _ _,?_,_,rfl,?_⟩
 .exact(by decide:2 < 1000)
 rw[st];exact h
def n4(safe:Bool):Str:=if safe then "safe" else "right"
def pt(ws:List M)(x:Str × List Nat)(p:Nat):Bool × Bool:=NF ((tell ws x).map (· p))
def Jx(safe:Bool)(c:Nat)(ins:Uq)(gs:List Gt)(os:Ur)(turned:List Int):M:=fun p=>os.any fun x=>brk safe (pt (Wd c ins gs [] []) x p) (pt (Wd c ins gs turned []) x p)
theorem As{b:Nat}(NO:l8 ins gs os)(hc:ins.length=c)(ho:∀x∈os,1<=x.2.length/\x.2.length<=3)(hS:mX S)(hk:S[k]? =some (.ins 1 (fR c ins gs os b)))(hb:S[b]? =some (.ins 0 (d3 c (bV ins gs os)))){Q:V3->aD->Prop}
 (h:Q (.d (mI (2 ^ c) (Jx safe c ins gs os turned))) S):W3 (dy [.loc k, .d (.tup (turned.map .int)), .d (.str (n4 safe))] S) Q:=by
 have hz:sizeLine=16777216:=sizeLine_eq;unfold dy;refine l4 hS (xq rfl ?_);simp only[cg,dO,List.map,List.length,List.replicate,List.cons_append,List.nil_append,Nat.reduceAdd,Nat.reduceSub];unfold eY;have h0:D.int 0=mI (2 ^ c) fun _=>false:=by
  unfold mI;rw[jy.mpr fun _ _=>rfl];rfl
 refine aT <| bA (by simp) <| cy (d:=mI (2 ^ c) fun _=>false) (by rw[<-h0];rfl) ⟨_,rfl,?_⟩
 simp only[List.set];refine aT <| fB <| KZ <| w_fld (k:=k) <| w_var (v:= .loc k) rfl ⟨_,_,rfl,hk,DL,?_⟩
 refine ur (k:=b) <| w_fld (k:=k) <| w_var (v:= .loc k) rfl ⟨_,_,rfl,hk,C6,_,rfl,hb,Ib _ _ (by decide+kernel) (by decide+kernel) (by decide+kernel) (by decide+kernel),?_⟩
 refine aG <| cy (d:= .tup (turned.map .int)) rfl <| cA <| o5 NO hc ho hS hb ⟨_,_,_,_,rfl,rfl,rfl,rfl,?_⟩
 have hzip:xj (FU (2 ^ c) os (Wd c ins gs [] [])) (FU (2 ^ c) os (Wd c ins gs turned []))=os.map fun x=> .tup [.tup [mI (2 ^ c) (r0 (tell (Wd c ins gs [] []) x)),mI (2 ^ c) (r1 (tell (Wd c ins gs [] []) x))], .tup [mI (2 ^ c) (r0 (tell (Wd c ins gs turned []) x)),mI (2 ^ c) (r1 (tell (Wd c ins gs turned []) x))]]:=by
  unfold xj FU;rw[List.zip_map',List.map_map];rfl
 rw[hzip];refine(bF (fun i δ S2=>S2=S/\∃a4 a5,δ=[some (.loc k),some (.d (.tup (turned.map .int))),some (.d (.str (n4 safe))),some (.d (mI (2 ^ c) fun p=>(os.take i).any fun x=>brk safe (pt (Wd c ins gs [] []) x p) (pt (Wd c ins gs turned []) x p))),a4,a5])
  ⟨rfl,none,none,rfl⟩ ?_).mono fun o S2 ⟨d7,gY,qh,a4,a5,hδ⟩=>⟨d7,gY,?_⟩
 .rintro i v δ S2 hv ⟨rfl,a4,a5,rfl⟩;obtain⟨x,hx,rfl⟩:=NT.iE hv;generalize hm:(fun p=>(os.take i).any fun x=>brk safe (pt (Wd c ins gs [] []) x p) (pt (Wd c ins gs turned []) x p))=m
  have hnext:(fun p=>(os.take (i+1)).any fun x=>brk safe (pt (Wd c ins gs [] []) x p) (pt (Wd c ins gs turned []) x p))=fun p=>m p || brk safe (pt (Wd c ins gs [] []) x p) (pt (Wd c ins gs turned []) x p):=by
   funext p;rw[List.take_add_one,hx,List.any_append,<-hm];simp
  rw[hnext];refine⟨[some (.loc k),some (.d (.tup (turned.map .int))),some (.d (.str (n4 safe))),some (.d (mI (2 ^ c) m)),some (.d (.tup [mI (2 ^ c) (r0 (tell (Wd c ins gs [] []) x)),mI (2 ^ c) (r1 (tell (Wd c ins gs [] []) x))])),some (.d (.tup [mI (2 ^ c) (r0 (tell (Wd c ins gs turned []) x)),mI (2 ^ c) (r1 (tell (Wd c ins gs turned []) x))]))],rfl,?_⟩;unfold gW;refine lV <| ny (b:=safe) (jZ (a:= .str (n4 safe)) (b:= .str "safe") rfl rfl ?_) ?_
  .show R.ok (D.bl (n4 safe=="safe"))=_;congr 2;cases safe <;> decide+kernel
  cases safe with
  | true=>
    rw[if_pos rfl];refine bA (by simp) <| cy (ay (ay (a:=mI (2 ^ c) m) rfl (ay (ay rfl rfl AY) (ay rfl rfl Bz) (rG _ _ _)) (vS _ _ _)) (ay (ay rfl rfl Bz) (ay rfl rfl AY) (rG _ _ _)) (vS _ _ _)) ⟨_,rfl,rfl,some (.d (.tup [mI (2 ^ c) (r0 (tell (Wd c ins gs [] []) x)),mI (2 ^ c) (r1 (tell (Wd c ins gs [] []) x))])),some (.d (.tup [mI (2 ^ c) (r0 (tell (Wd c ins gs turned []) x)),mI (2 ^ c) (r1 (tell (Wd c ins gs turned []) x))])),?_⟩
    simp only[List.set];congr 6;refine xl fun p _=>?_
    rw[Bool.or_assoc];rfl
  | false=>
    rw[if_neg (by decide)]
    refine bA (by simp) <| cy (ay (ay (a:=mI (2 ^ c) m) rfl (ay (ay rfl rfl AY) (ay rfl rfl AY) (tp _ _ _)) (vS _ _ _)) (ay (ay rfl rfl Bz) (ay rfl rfl Bz) (tp _ _ _)) (vS _ _ _)) ⟨_,rfl,rfl,some (.d (.tup [mI (2 ^ c) (r0 (tell (Wd c ins gs [] []) x)),mI (2 ^ c) (r1 (tell (Wd c ins gs [] []) x))])),some (.d (.tup [mI (2 ^ c) (r0 (tell (Wd c ins gs turned []) x)),mI (2 ^ c) (r1 (tell (Wd c ins gs turned []) x))])),?_⟩
    simp only[List.set];congr 6;refine xl fun p _=>?_
    rw[Bool.or_assoc];rfl
 rw[List.length_map,List.length_map,List.take_length] at hδ;subst hδ qh;exact eh <| cy (d:=mI (2 ^ c) (Jx safe c ins gs os turned)) rfl ⟨_,rfl,by unfold eL;rfl,⟨[],by simp⟩,_,by unfold res;rfl,h⟩
end
end K23
end
section
namespace K23
open PySem PySem.Spec PyProof.Rows L2 L3 MT
def nZ(ps:List Nat):List Int:=ps.map fun(n:Nat)=>(n:Int)
theorem FK(ps:List Nat):(nZ ps).map D.int=ps.map nI:=by unfold nZ;rw [List.map_map];rfl
theorem uU(ps:List Nat)(i:Nat):(nZ ps).contains (i:Int)=ps.contains i:=by
 rw[Bool.eq_iff_iff];unfold nZ;simp only[List.contains_iff_mem,List.mem_map];exact⟨fun⟨a,ha,e⟩=>(by rw[<-Int.ofNat_inj.mp e];exact ha),fun h=>⟨i,h,rfl⟩⟩
section
variable {c:Nat} {ins:Uq} {gs:List Gt} {os:Ur} {S:aD} {k:Nat} {safe:Bool}
theorem uX:(jI gs).length<=gs.length:=by
 unfold jI;exact Nat.le_trans (List.length_filter_le _ _) (by rw[List.length_range];exact Nat.le_refl _)
end
end K23
end
section
namespace K23
open PySem PySem.Spec PyProof.Rows L2 L3 MT
section
variable {gs:List Gt}
end
section
variable {S:aD} {δ:DE} {k q i:Nat} {ks:List Int}
theorem ka{ds:List D}(e:S[q]? =some (.lst ds)):res S (.loc q)=some (.lst ds):=by unfold res;rw [e]
end
theorem Bs(c:Int)(n:Nat):(List.replicate n [D.int c]).flatten=(List.replicate n c).map D.int:=by
 induction n with
 | zero=>rfl
 | succ n ih=>rw [List.replicate_succ,List.flatten_cons,ih,List.replicate_succ];rfl
theorem JE{f:ak->R (List D)}{g:FD}{δ:ak}{ds:List D}{n:Nat}(h1:f δ= .ok ds)(h2:g δ= .ok (.int n))(hn:n < 1000000)(hl:ds.length*n<=sizeLine):EU f g δ= .ok (List.replicate n ds).flatten:=by
 unfold EU;rw[h1,R.aN,h2,R.aN];show R.bg (decide (0<=(n:Int)/\(n:Int) < 1000000/\ds.length*(n:Int).toNat<=sizeLine)) _=_;rw[bJ _ ⟨by omega,by omega,by rw[Int.toNat_natCast];exact hl⟩,Int.toNat_natCast]
def pv(l:Uq)(gs:List Gt)(ms:List M)(p n:Nat):Bool:=cm (tH gs [] (fv l ms [] l.length) gs.length) n p
structure TK (l:Uq) (ks:List Int):Prop where
 len:ks.length=mY l
 v:∀n,n < ks.length->∃j:Nat,j < l.length/\ks.getD n 0=(j:Int)/\∀ms:List M,l.length<=ms.length->cm (fv l ms [] l.length) n=ms.getD j fun _=>false
structure KI (l:Uq) (gs:List Gt) (ks:List Int):Prop where
 len:ks.length=mY l+gs.length
 b:∀n,n < ks.length->ks.getD n 0 < (l.length:Int)+gs.length
 v:∀ms:List M,ms.length=l.length->∀p n n',n < ks.length->n' < ks.length->ks.getD n 0=ks.getD n' 0->pv l gs ms p n=pv l gs ms p n'
section
variable {l:Uq} {gs:List Gt} {g:Gt} {ms:List M} {p n:Nat} {ks:List Int}
end
theorem yt.app{k:Nat}{S X:aD}(p:yt k S)(hX:Flat X):yt k (S++X):=by
 have h:=p.lt;obtain⟨hL,a,c,e⟩:=p;exact⟨fun o ho=>(List.mem_append.mp ho).elim (hL o) (hX o),a,c,by rw[List.getElem?_append_left h];exact e⟩
theorem Ev.split{k:Nat}{S X S2:aD}(v:Ev k (S++X) S2)(hk:k < S.length):∃S',S2=S'++X/\Ev k S S':=by
 have hl:=v.len;rw[List.length_append] at hl;refine⟨S2.take S.length,?_,⟨v.p.1.take _,?_⟩,by rw[List.length_take];omega,fun j hj=>?_⟩
 .have e:S2.drop S.length=X:=by
   refine List.ext_getElem? fun i=>?_
   rw[List.getElem?_drop,v.oth _ (by omega),List.getElem?_append_right (by omega),show S.length+i - S.length=i by omega]
  rw[<-e,List.take_append_drop]
 .obtain⟨_,a,c,e⟩:=v.p;exact⟨a,c,by rw[List.getElem?_take_of_lt hk];exact e⟩
 .by_cases q:j < S.length
  .rw [List.getElem?_take_of_lt q,v.oth j hj,List.getElem?_append_left q]
  .rw [List.getElem?_eq_none (by rw[List.length_take];omega),List.getElem?_eq_none (by omega)]
theorem qO(a:List D):Flat [SO.lst a]:=fun o ho=>by rw[List.mem_singleton.mp ho];exact ua _
theorem CC(a b:List D):Flat [SO.lst a,SO.lst b]:=fun o ho=>by
 simp only[List.mem_cons,List.not_mem_nil,or_false] at ho;rcases ho with rfl | rfl <;> exact ua _
theorem t1{S:aD}{a b d:SO}:(S++[a,b,d])[S.length]? =some a:=by rw[List.getElem?_append_right (Nat.le_refl _),Nat.sub_self];rfl
theorem t2{S:aD}{a b d:SO}:(S++[a,b,d])[S.length+1]? =some b:=by rw[List.getElem?_append_right (by omega),show S.length+1 - S.length=1 by omega];rfl
theorem t3{S:aD}{a b d:SO}:(S++[a,b,d])[S.length+2]? =some d:=by rw[List.getElem?_append_right (by omega),show S.length+2 - S.length=2 by omega];rfl
theorem u3{S:aD}{a b d c:SO}:(S++[a,b,d]).set (S.length+2) c=S++[a,b,c]:=by rw[List.set_append_right _ _ (by omega),show S.length+2 - S.length=2 by omega];rfl
theorem jA{δ:DE}{S:aD}{i:Nat}{v:V3}{d:D}(h:δ[i]? =some (some v))(hr:res S v=some d):af i (cK S δ)= .ok d:=by
 unfold af cK;rw[List.getElem?_map,h];show(match (some (match res S v with | some d=>Sl.val d | none=> .un)) with | some (.val d)=>R.ok d | _=> .no)=_
 rw[hr]
def Qo(l:Uq)(gs:List Gt):Prop:=∀(i:Nat) (g:Gt),gs[i]? =some g->uC (mY l+i) g
end K23
end
section
namespace K23
open PySem PySem.Spec PyProof.Rows L2 L3 MT
theorem yA(ps:List Nat):(List.range ps.length).map (fun a=>ps.getD a 0)=ps:=by
 refine List.ext_getElem? fun i=>?_
 rw[List.getElem?_map];by_cases q:i < ps.length
 .rw [List.getElem?_range q];show some (ps.getD i 0)=_;rw[List.getD_eq_getElem?_getD,List.getElem?_eq_getElem q];rfl
 .rw [List.getElem?_eq_none (by simp;omega),List.getElem?_eq_none (by omega)];rfl
theorem kf(gs:List Gt):(jI gs).Pairwise (· < ·):=List.Pairwise.filter _ List.pairwise_lt_range
theorem H_{gs:List Gt}{x:Nat}(h:x∈jI gs):x < gs.length:=List.mem_range.mp (List.mem_filter.mp h).1
theorem vY{α β:Type}(f:α->β):∀xs:List α,(xs.flatMap fun x=>[f x])=xs.map f
 | []=>rfl
 | x ::xs=>by rw[List.flatMap_cons,vY f xs];rfl
theorem E6(ps:List Nat):h_ ps 1=ps.map fun x=>[x]:=by
 show((List.range ps.length).flatMap fun a=>(h_ (ps.drop (a+1)) 0).map (ps.getD a 0 ::·))=_
 have:(fun a=>(h_ (ps.drop (a+1)) 0).map (ps.getD a 0 ::·))=fun a=>[[ps.getD a 0]]:=by funext a;rfl
 rw[this,vY]
 conv=>rhs;rw [<-yA ps]
 rw[List.map_map];rfl
theorem wK{free:List Nat}(hs:free.Pairwise (· < ·)){a:Nat}(ha:a < free.length):free.filter (fun o=>decide (o > free.getD a 0))=free.drop (a+1):=by
 have hga:free.getD a 0=free[a]:=by rw[List.getD_eq_getElem?_getD,List.getElem?_eq_getElem ha];rfl
 rw[hga];generalize hx:free[a]=x;have e2:free.filter (fun o=>decide (o > x))=(free.take (a+1)++free.drop (a+1)).filter (fun o=>decide (o > x)):=by rw[List.take_append_drop]
 rw[e2,List.filter_append];subst hx;have h1:(free.take (a+1)).filter (fun o=>decide (o > free[a]))=[]:=by
  rw[List.filter_eq_nil_iff];intro o ho;obtain⟨i,hi,rfl⟩:=List.mem_iff_getElem.mp ho;rw[List.length_take] at hi;rw[List.getElem_take];have hle:free[i]'(by omega)<=free[a]:=by
   rcases Nat.lt_or_ge i a with z | z
   .exact Nat.le_of_lt (List.pairwise_iff_getElem.mp hs i a (by omega) ha z)
   .have:i=a:=by omega
    subst this;exact Nat.le_refl _
  rw[decide_eq_true_eq];omega
 rw[h1,List.nil_append,List.filter_eq_self];intro o ho;obtain⟨i,hi,rfl⟩:=List.mem_iff_getElem.mp ho;rw[List.length_drop] at hi;rw[List.getElem_drop];exact decide_eq_true (List.pairwise_iff_getElem.mp hs a (a+1+i) ha (by omega) (by omega))
def okN(s:List Nat)(o:Nat):Bool:=match s.getLast? with | none=>true | some l=>decide (o > l)
theorem m4{α β γ:Type}(f:α->β)(g:β->List γ):∀xs:List α,(xs.map f).flatMap g=xs.flatMap fun x=>g (f x)
 | []=>rfl
 | x ::xs=>by rw[List.map_cons,List.flatMap_cons,m4 f g xs,List.flatMap_cons]
def mN(free:List Nat)(m:Nat):Us:=(List.range (m+1)).flatMap (h_ free)
theorem t4(free:List Nat)(m:Nat):mN free (m+1)=mN free m++h_ free (m+1):=by
 unfold mN;rw[List.range_succ,List.flatMap_append];simp
theorem DH{free:List Nat}(h:free.length<=40){s:Nat}(hs:s<=4):(h_ free s).length<=2560000:=by
 have h1:=lN (s:=s) h;have h2:40 ^ s<=40 ^ 4:=Nat.pow_le_pow_right (by omega) hs
 omega
theorem qN{free:List Nat}(h:free.length<=40):∀m,m<=3->(mN free m).length<=(m+1)*64000
 | 0,_=>by show([[]]++[]:Us).length<=_;simp
 | m+1,hm=>by
   have:=qN h m (by omega)
   have h1:=lN (s:=m+1) h;have h2:40 ^ (m+1)<=40 ^ 3:=Nat.pow_le_pow_right (by omega) hm
   rw[t4,List.length_append];omega
end K23
end
section
namespace K23
open PySem PySem.Spec PyProof.Rows L2 L3 MT
def subB(T o:List Nat):Bool:=o.all fun x=>T.contains x
def nT(B:List Nat->Bool)(f:Us)(T:List Nat):Us:=if f.any (subB T) then f else if B T then f++[T] else f
def pR(B:List Nat->Bool)(sets:Us):Us:=sets.foldl (nT B) []
theorem qx(B:List Nat->Bool):∀(xs f:Us),(xs.foldl (nT B) f).length<=f.length+xs.length
 | [],f=>by simp
 | x ::xs,f=>by
   have:=qx B xs (nT B f x);rw[List.foldl_cons,List.length_cons];have h2:(nT B f x).length<=f.length+1:=by unfold nT;split <;> (try split) <;> simp
   omega
theorem zw(B:List Nat->Bool):∀(xs f:Us),∀T∈xs.foldl (nT B) f,T∈f\/T∈xs
 | [],f,T,h=> .inl h
 | x ::xs,f,T,h=>by
   rw[List.foldl_cons] at h;rcases zw B xs _ T h with q | q
   .unfold nT at q;split at q
    .exact .inl q
    .split at q
     .rcases List.mem_append.mp q with z | z
      .exact .inl z
      .exact .inr (by rw[List.mem_singleton.mp z];exact List.mem_cons_self)
     .exact .inl q
   .exact .inr (List.mem_cons_of_mem _ q)
theorem M6(x:Nat)(T:List Nat):Ei (nI x) (bM T)= .ok (.bl (T.contains x)):=by
 have h:=ue (x:Int) (nZ T);rw[FK,uU] at h;exact h
theorem xG{T o:List Nat}(ho:o.length < 1000):hW [bM T,bM o]= .ok (.bl (subB T o)):=by
 have hz:sizeLine=16777216:=sizeLine_eq;unfold hW tU;refine d4 (cU (aM (ds:=[.lst ((o.map fun x=>T.contains x).map .bl)]) (aV (eD (dc (ds:=o.map nI) (xY rfl) (by rw[List.length_map];omega) ?_)) rfl) ?_))
 .rw [List.map_map];exact NT.cH nI _ fun x _=>⟨[.val (nI x), .val (bM T)],rfl,rfl,ay (a:=nI x) (b:=bM T) rfl rfl (M6 x T)⟩
 .show(match bls? ((o.map fun x=>T.contains x).map D.bl) with | some bs=>R.ok (D.bl (bs.all id)) | none=> .no)=_
  rw[qb];show R.ok (D.bl ((o.map fun x=>T.contains x).all id))=_
  rw[List.all_map];rfl
theorem Jb{a b:D}{k:Bool}(h:Ej a b= .ok k):r6 a b= .ok (.bl k):=by unfold r6;rw [h];rfl
theorem CY{a b:D}{k:Bool}(h:Ei a b= .ok (.bl k)):u6 a b= .ok (.bl (!k)):=by
 unfold Ei at h;unfold u6;cases q:inD a b with
 | ok c=>rw [q] at h;cases h;rfl
 | ex c=>rw [q] at h;cases h
 | no=>rw [q] at h;cases h
section
variable {c:Nat} {l:Uq} {gs:List Gt} {os:Ur} {S:aD} {safe:Bool} {m:Nat}
def BT(safe:Bool)(c:Nat)(l:Uq)(gs:List Gt)(os:Ur)(T:List Nat):Bool:=!(decide (jO (2 ^ c) (Jx safe c l gs os (nZ T))=0))
def pL(safe:Bool)(c:Nat)(l:Uq)(gs:List Gt)(os:Ur)(m:Nat):Us:=pR (BT safe c l gs os) (mN (jI gs) m)
theorem OP(f:M)(N:Nat):Fg (mI N f) (.int 0)= .ok (.bl (!(decide (jO N f=0)))):=by
 show R.ok (D.bl (!((jO N f:Int)==0)))=_;congr 3;by_cases q:jO N f=0
 .rw [q];rfl
 .rw [decide_eq_false q];exact beq_eq_false_iff_ne.mpr (by omega)
theorem yw{xs:Us}{B:List Nat->Bool}(hx:∀T∈xs,T.length < 1000):∀o∈pR B xs,o.length < 1000:=fun o ho=>by
 rcases zw B xs [] o ho with q | q
 .cases q
 .exact hx o q
theorem Ag(B:List Nat->Bool)(xs:Us)(T:List Nat):pR B (xs++[T])=nT B (pR B xs) T:=by unfold pR;rw [List.foldl_append];rfl
def yE(nt mm lv:D)(n:Nat)(a5 a6:Option V3):DE:=[some (.d nt),some (.d mm),some (.d lv),some (.loc n),some (.loc (n+2)),a5,a6]
def YS(S:aD)(c:Nat)(l:Uq)(gs:List Gt)(os:Ur)(f:Us):aD:=S++[.ins 1 (fR c l gs os (S.length+1)), .ins 0 (d3 c (bV l gs os)), .lst (f.map bM)]
theorem Hw(hS:mX S)(f:Us):mX (YS S c l gs os f):=by
 have:YS S c l gs os f=S++[.ins 1 (fR c l gs os (S.length+1)), .ins 0 (d3 c (bV l gs os))]++[.lst (f.map bM)]:=by unfold YS;simp
 rw[this];refine mX.push (Hz hS ?_ rfl) (ua _);show(decide (S.length+1 < S.length+2) && true)=true;rw[decide_eq_true (by omega)];rfl
theorem Cy{mm:D}{f:Us}{T:List Nat}{a5:Option V3}(NO:l8 l gs os)(hc:l.length=c)(ho:∀x∈os,1<=x.2.length/\x.2.length<=3)(hS:mX S)(L1:∀o∈f,o.length < 1000)(N8:f.length < 4000000) :
 W3 (kl (yE (bV l gs os) mm (.str (n4 safe)) S.length a5 (some (.d (bM T)))) (YS S c l gs os f)) fun o S2=>o= .nx (yE (bV l gs os) mm (.str (n4 safe)) S.length a5 (some (.d (bM T))))/\S2=YS S c l gs os (nT (BT safe c l gs os) f T):=by
 have hz:sizeLine=16777216:=sizeLine_eq;have hg:(YS S c l gs os f)[S.length+2]? =some (.lst (f.map bM)):=t3;have hk:(YS S c l gs os f)[S.length]? =some (.ins 1 (fR c l gs os (S.length+1))):=t1;have hb:(YS S c l gs os f)[S.length+1]? =some (.ins 0 (d3 c (bV l gs os))):=t2;unfold kl;refine lV <| Nc (b:=f.any (subB T)) ?_ ?_
 .have e:aS BQ (aw (eNew (ef (cS (af 4)) (bq 0) k8 (aS hW (aw (af 1) (aw (af 0) aZ))) ["others"] [6])) aZ) (cK (YS S c l gs os f) (yE (bV l gs os) mm (.str (n4 safe)) S.length a5 (some (.d (bM T)))))= .ok (.bl (f.any (subB T))):=by
   refine aM (ds:=[.lst ((f.map (subB T)).map .bl)]) (aV (eD (dc (ds:=f.map bM) (eP (jA rfl (ka hg))) (by rw[List.length_map];omega) ?_)) rfl) ?_
   .rw [List.map_map];exact NT.cH bM _ fun o D1=>⟨[.val (bM o), .val (bM T)],rfl,rfl,aM (ds:=[bM T,bM o]) rfl (xG (L1 o D1))⟩
   .show(match bls? ((f.map (subB T)).map D.bl) with | some bs=>R.ok (D.bl (bs.any id)) | none=> .no)=_
    rw[qb];show R.ok (D.bl ((f.map (subB T)).any id))=_;rw[List.any_map];rfl
  unfold qX;rw[e];rfl
 unfold nT;cases hany:f.any (subB T) with
 | true=>rw [if_pos rfl,if_pos rfl];exact ic ⟨rfl,rfl⟩
 | false=>
   rw[if_neg (by decide),if_neg (by decide)]
   refine lV <| HB <| ur (k:=S.length) <| w_var (v:= .loc S.length) rfl ⟨_,rfl,hk,LF _ (by decide+kernel) (by decide+kernel) (by decide+kernel),?_⟩
   refine aG <| cy (d:= .tup ((nZ T).map .int)) (by rw[FK];rfl) <| aG <| cy (d:= .str (n4 safe)) rfl <| cA <| As NO hc ho (Hw hS f) hk hb <| cy (d:= .int 0) rfl ⟨_,_,_,rfl,rfl,OP _ _,?_⟩
   show if BT safe c l gs os T then _ else _
   cases BT safe c l gs os T with
   | true=>
     rw[if_pos rfl,if_pos rfl];refine qt (k:=S.length+2) rfl ⟨_,hg⟩ <| cy (d:=bM T) rfl ⟨_,_,rfl,hg,by rw[List.length_map];omega,rfl,?_⟩
     unfold YS;rw[u3,List.map_append];rfl
   | false=>rw [if_neg (by decide),if_neg (by decide)];exact ic ⟨rfl,rfl⟩
theorem xS(NO:l8 l gs os)(hc:l.length=c)(vz:c<=10)(ho:∀x∈os,1<=x.2.length/\x.2.length<=3)(hg:gs.length<=40)(hm:m<=3)(hS:mX S){Q:V3->aD->Prop}(h:Q (.loc (S.length+2)) (YS S c l gs os (pL safe c l gs os m))) :
 W3 (kN [.d (bV l gs os), .d (nI m), .d (.str (n4 safe))] S) Q:=by
 have hz:sizeLine=16777216:=sizeLine_eq;have hul:(jI gs).length<=40:=Nat.le_trans uX hg;unfold kN;refine xq rfl ?_;simp only[cg,fL,List.map,List.length,List.replicate,List.cons_append,List.nil_append,Nat.reduceAdd,Nat.reduceSub];unfold kj;refine aT <| bA (by simp) <| Cw <| aG <| cy (d:=bV l gs os) rfl <| cA <| Di NO hc vz ho hS ⟨rfl,_,rfl,?_⟩
 simp only[List.set];refine aT <| bA (by simp) <| kM (ds:=[]) rfl ⟨_,rfl,?_⟩
 simp only[List.set];have e0:TS S c l gs os++[SO.lst []]=YS S c l gs os []:=by unfold TS YS;simp
 have el:(TS S c l gs os).length=S.length+2:=by unfold TS;simp
 rw[e0,el];show W3 (bo _ _ (yE (bV l gs os) (nI m) (.str (n4 safe)) S.length none none) _) _;generalize hB:BT safe c l gs os=B;have hbl:∀i,i<=4->∀j,(pR B ((List.range i).flatMap (h_ (jI gs))++(h_ (jI gs) i).take j)).length<=3000000:=fun i hi j=>by
  have h1:=qx B ((List.range i).flatMap (h_ (jI gs))++(h_ (jI gs) i).take j) [];have h2:(List.range i).flatMap (h_ (jI gs))=if i=0 then [] else mN (jI gs) (i - 1):=by
   cases i with
   | zero=>rfl
   | succ i=>rw [if_neg (by omega)];rfl
  have h3:((List.range i).flatMap (h_ (jI gs))).length<=256000:=by
   rw[h2];split
   .simp
   .have:=qN hul (i - 1) (by omega)
    have:(i - 1+1)*64000<=4*64000:=Nat.mul_le_mul_right _ (by omega)
    omega
  have h4:((h_ (jI gs) i).take j).length<=2560000:=by
   rw[List.length_take];have:=DH hul hi;omega
  rw[List.length_append] at h1;unfold pR;simp only[List.length_nil] at h1;omega
 refine aT <| fB <| mh (ds:=gI 0 (m+1)) (qf (n:=m+1) (ay (a:=nI m) (b:= .int 1) rfl rfl rfl) (by omega)) ?_
 refine(bF (fun i δ S2=>S2=YS S c l gs os (pR B ((List.range i).flatMap (h_ (jI gs))))/\∃a5 a6,δ=yE (bV l gs os) (nI m) (.str (n4 safe)) S.length a5 a6)
  ⟨rfl,_,_,rfl⟩ ?_).mono fun o S2 ⟨d7,gY,qh,a5,a6,hδ⟩=>⟨d7,gY,?_⟩
 .rintro i v δ S2 hv ⟨rfl,a5,a6,rfl⟩;obtain⟨hi,rfl⟩:=NT.CJ hv;refine⟨yE (bV l gs os) (nI m) (.str (n4 safe)) S.length (some (.d (.int i))) a6,rfl,?_⟩;have hcs:dG 4 [.lst ((jI gs).map nI), .int i]= .ok (.lst ((h_ (jI gs) i).map bM)):=qw 3 i (jI gs) (by omega) (by omega) (by omega)
  unfold nC;refine fB <| pZ <| ve <| aG <| w_fld (k:=S.length) <| w_var (v:= .loc S.length) rfl ⟨_,_,rfl,t1,Hr,aG <| cy (d:= .int i) rfl <| cA ⟨[.lst ((jI gs).map nI), .int i],_,rfl,hcs,_,rfl,?_⟩⟩
  refine(bF (fun j δ S3=>S3=YS S c l gs os (pR B ((List.range i).flatMap (h_ (jI gs))++(h_ (jI gs) i).take j))/\∃a6,δ=yE (bV l gs os) (nI m) (.str (n4 safe)) S.length (some (.d (.int i))) a6)
   ⟨by simp,_,rfl⟩ ?_).mono fun o S3 ⟨Bk,e3,Bi,b6,vk⟩=>⟨Bk,e3,?_,_,_,vk⟩
  .rintro j v δ S3 hv ⟨rfl,b6,rfl⟩;obtain⟨T,hT,rfl⟩:=NT.iE hv;refine⟨yE (bV l gs os) (nI m) (.str (n4 safe)) S.length (some (.d (.int i))) (some (.d (bM T))),rfl,?_⟩;refine(Cy NO hc ho hS (yw fun o D1=>?_) (Nat.lt_of_le_of_lt (hbl i (by omega) j) (by omega))).mono fun o S4 ⟨e4,RF⟩=>⟨_,e4,?_,_,rfl⟩
   .rcases List.mem_append.mp D1 with q | q
    .obtain⟨s,hs,hq⟩:=List.mem_flatMap.mp q;rw[List.mem_range] at hs;rw[(iu hq).1];omega
    .rw [(iu (List.mem_of_mem_take q)).1];omega
   .rw [RF,hB,List.take_add_one,hT,<-List.append_assoc,show(some T).toList=[T] from rfl,Ag]
  .rw [List.length_map,List.length_map,List.take_length] at Bi;rw[Bi,List.range_succ,List.flatMap_append];simp
 .subst hδ qh;rw[NT.wU];unfold yE;refine eh <| w_var (v:= .loc (S.length+2)) rfl ⟨_,rfl,?_⟩
  rw[<-hB];exact h
theorem qi(NO:l8 l gs os)(hc:l.length=c)(vz:c<=10)(ho:∀x∈os,1<=x.2.length/\x.2.length<=3)(hg:gs.length<=40)(hm:m<=3)(hS:mX S){Q:V3->aD->Prop}(h:Q (.d (.lst ((pL safe c l gs os m).map bM))) S) :
 W3 (eK [.d (bV l gs os), .d (nI m), .d (.str (n4 safe))] S) Q:=by
 have e:eK [.d (bV l gs os), .d (nI m), .d (.str (n4 safe))] S=nS fL kj [.d (bV l gs os), .d (nI m), .d (.str (n4 safe))] S:=rfl;rw[e];refine l4 hS ?_;refine xS NO hc vz ho hg hm hS ⟨?_,⟨_,rfl⟩,_,ka t3,h⟩;show decide (S.length<=S.length+2)=true;exact decide_eq_true (by omega)
end
end K23
end
section
namespace K23
open PySem PySem.Spec PyProof.Rows L2 L3 MT
def pH(n:Nat)(S:aD):Prop:=Flat S/\S.length=n/\∀k,k < n->yt k S
theorem FE(cs:List Int)(hc:cs.length<=63){Q:V3->aD->Prop}(h:∀(n:Nat) S1,0 < n->(n<=1\/n<=cs.length)->pH n S1->Q (.lst ((List.range n).map .loc)) S1):W3 (i_ [.d (.lst (cs.map .int))] []) Q:=by
 have hz:sizeLine=16777216:=sizeLine_eq;unfold i_;refine xq rfl ?_;simp only[cg,iR,List.map,List.length,List.replicate,List.cons_append,List.nil_append,Nat.reduceAdd,Nat.reduceSub];unfold mB;cases cs with
 | nil=>
   refine CW (lV (ny (b:=true) rfl ?_));rw[if_pos rfl];refine eh (Lh (aG (kM (ds:=[.int 0, .int 0]) (qa rfl (by simp;omega)) (cA ⟨by simp;omega,_,rfl,_,rfl,?_⟩))))
   refine h 1 _ (by omega) (.inl (Nat.le_refl _)) ⟨qO _,rfl,fun k hk=>⟨qO _,0,0,?_⟩⟩
   .obtain rfl:k=0:=by omega
    rfl
 | cons c cs=>
   refine aT (lV (ny (b:=false) ?_ ?_))
   .refine jZ (a:= .int ((c ::cs).length:Nat)) (b:= .int 0) ?_ rfl ?_
    .exact aM (ds:=[.lst ((c ::cs).map .int)]) rfl (by rw[mE,List.length_map])
    .have:¬(((c ::cs).length:Int)=0):=by rw[List.length_cons];omega
     show R.ok (D.bl (decide (((c ::cs).length:Int)=0)))=_;rw[decide_eq_false this]
   rw[if_neg (by decide)]
   refine ic ⟨_,rfl,eh (CD (mh (ds:=(c ::cs).map .int) ?_ ⟨by simp at hc ⊢;omega,?_⟩))⟩
   .refine eP (uN (d:= .lst ((c ::cs).map .int)) (lo:=none) (hi:=some 63) rfl rfl rfl ?_);show R.ok (D.lst (L2.cutD _ none (some 63)))=_;rw[xy _ (by omega),List.take_of_length_le (by simp at hc ⊢;omega)]
   generalize hcc:c ::cs=cc at hc;have hpos:0 < cc.length:=by rw[<-hcc];simp
   refine(tZ (fun i ys S=>ys=(List.range i).map V3.loc/\Flat S/\S.length=i/\∀k,k < i->∃a c,S[k]? =some (.lst [.int a, .int c])) ⟨rfl,(by intro o ho;cases ho),rfl,fun k hk=>(by omega)⟩ ?_).mono fun ys S2 ⟨e,hL,hl,hp⟩=>⟨_,rfl,?_⟩
   .rintro i v ys S hv ⟨rfl,hL,hl,hp⟩;obtain⟨d,hd,rfl⟩:=List.mem_map.mp (List.mem_of_getElem? hv);obtain⟨x,_,rfl⟩:=List.mem_map.mp hd;refine⟨_,rfl,zg ?_⟩;rw[if_pos rfl];refine kM (ds:=[.int x, .int 0]) (qa rfl (by simp;omega)) ⟨?_,hL.push (ua _),by simp [hl],fun k hk=>?_⟩
    .rw [List.range_succ,List.map_append,hl];rfl
    .by_cases hki:k < i
     .obtain⟨a,c,e⟩:=hp k hki;exact⟨a,c,by rw[List.getElem?_append_left (by omega)];exact e⟩
     .obtain rfl:k=i:=by omega
      refine⟨x,0,?_⟩;rw[<-hl];exact a_ _ _
   .rw [List.length_map,List.length_map] at e hl hp;have hm:pq ys= .lst ((List.range cc.length).map .loc):=by
     rw[e];obtain⟨m,hm⟩:∃m,cc.length=m+1:=⟨cc.length - 1,by omega⟩
     rw[hm,List.range_succ_eq_map,List.map_cons];rfl
    rw[hm];exact h cc.length S2 hpos (.inr (by rw[hcc];exact Nat.le_refl _)) ⟨hL,hl,fun k hk=>⟨hL,hp k hk⟩⟩
theorem pH.ev{n k:Nat}{S S1:aD}(h:pH n S)(hk:k < n)(v:Ev k S S1):pH n S1:=⟨v.p.1,by rw[v.len];exact h.2.1,fun j hj=>by
 by_cases q:j=k
 .subst q;exact v.p
 .obtain⟨_,a,c,e⟩:=h.2.2 j hj;exact⟨v.p.1,a,c,by rw[v.oth j q];exact e⟩⟩
end K23
end
section
namespace K23
open PySem PySem.Spec PyProof.Rows L2 L3 MT
def hit(T G:List Nat):Bool:=G.any fun x=>T.contains x
def iY(groups:Us)(T:List Nat):Bool:=groups.all (hit T)
theorem y4{T G:List Nat}:hit T G=true↔∃x∈G,x∈T:=by
 unfold hit;rw[List.any_eq_true];exact⟨fun⟨x,h1,h2⟩=>⟨x,h1,by simpa using h2⟩,fun⟨x,h1,h2⟩=>⟨x,h1,by simpa using h2⟩⟩
theorem dW{groups:Us}{T:List Nat}:iY groups T=true↔∀G∈groups,∃x∈G,x∈T:=by
 unfold iY;rw[List.all_eq_true];exact⟨fun h G hG=>y4.mp (h G hG),fun h G hG=>y4.mpr (h G hG)⟩
structure Good (free:List Nat) (groups:Us):Prop where
 so:free.Pairwise (· < ·)
 g:∀G∈groups,G≠[]/\G.Sublist free
def gD(G:List Nat):D:= .lst (G.map nI)
def pV(groups:Us):D:= .lst (groups.map gD)
def dK(ks:List Nat):List (Key × D):=ks.map fun(k:Nat)=>((Sum.inl (k:Int):Key),D.bl true)
def oM(ks:List Nat)(x:Nat):List Nat:=if ks.contains x then ks else ks++[x]
theorem IE(k x:Nat):decide ((Sum.inl (k:Int):Key)=Sum.inl (x:Int))=(k==x):=by
 by_cases q:k=x
 .subst q;simp
 .have:¬(Sum.inl (k:Int):Key)=Sum.inl (x:Int):=fun e=>q (by have:=Sum.inl.inj e;omega)
  rw[decide_eq_false this];exact(beq_eq_false_iff_ne.mpr q).symm
theorem DC(ks:List Nat)(x:Nat):((dK ks).any fun kv=>decide (kv.1=(Sum.inl (x:Int):Key)))=ks.contains x:=by
 unfold dK;rw[List.any_map]
 induction ks with
 | nil=>rfl
 | cons k ks ih=>
   rw[List.any_cons,List.contains_cons,ih];congr 1;show decide ((Sum.inl (k:Int):Key)=Sum.inl (x:Int))=(x==k);rw[IE];rw[Bool.eq_iff_iff,beq_iff_eq,beq_iff_eq];exact⟨Eq.symm,Eq.symm⟩
theorem Dk(ks:List Nat)(x:Nat):uj (dK ks) (Sum.inl (x:Int)) (.bl true)=dK (oM ks x):=by
 unfold uj;rw[DC];unfold oM;by_cases q:ks.contains x=true
 .rw [if_pos q,if_pos q];unfold dK;rw[List.map_map];refine List.map_congr_left fun k _=>?_
  show(if(Sum.inl (k:Int):Key)=Sum.inl (x:Int) then((Sum.inl (k:Int):Key),D.bl true) else((Sum.inl (k:Int):Key),D.bl true))=_
  split <;> rfl
 .rw [if_neg q,if_neg q];unfold dK;rw[List.map_append];rfl
theorem vW{ks:List Nat}{x y:Nat}:y∈oM ks x↔y∈ks\/y=x:=by
 unfold oM;split
 .rename_i h;have h:x∈ks:=by simpa using h
  exact⟨.inl,fun z=>z.elim id fun e=>by subst e;exact h⟩
 .simp
theorem E8{ks:List Nat}{x:Nat}(h:ks.Nodup):(oM ks x).Nodup:=by
 unfold oM;split
 .exact h
 .rename_i hx;have hx:x ∉ ks:=by simpa using hx
  rw[List.nodup_append];exact⟨h,by simp,fun a ha b hb=>by rw[List.mem_singleton.mp hb];intro e;subst e;exact hx ha⟩
theorem DK{ks:List Nat}{x:Nat}:(oM ks x).length<=ks.length+1:=by unfold oM;split <;> simp
def jg(ks G:List Nat):List Nat:=G.foldl oM ks
theorem mF:∀{G ks:List Nat} {y:Nat},y∈jg ks G↔y∈ks\/y∈G
 | [],ks,y=>by simp [jg]
 | x ::G,ks,y=>by
   show y∈jg (oM ks x) G↔_;rw[mF,vW,List.mem_cons,or_assoc]
theorem mv:∀{G ks:List Nat},(jg ks G).length<=ks.length+G.length
 | [],ks=>by simp [jg]
 | x ::G,ks=>by
   show(jg (oM ks x) G).length<=_;have:=mv (G:=G) (ks:=oM ks x);have:=DK (ks:=ks) (x:=x);rw[List.length_cons];omega
theorem r9{T:List Nat}{p q:Nat->Bool}(h:∀x∈T,p x=true->q x=true){x:Nat}(hx:x∈T)(h1:p x=false)(h2:q x=true):(T.filter p).length+1<=(T.filter q).length:=by
 induction T with
 | nil=>cases hx
 | cons y T ih=>
   rcases List.mem_cons.mp hx with rfl | Ea
   .have hle:(T.filter p).length<=(T.filter q).length:=by
     clear ih hx
     induction T with
     | nil=>exact Nat.le_refl _
     | cons z T ih=>
       have ih':=ih fun w hw=>h w (by rcases List.mem_cons.mp hw with e | e;exact e▸List.mem_cons_self;exact List.mem_cons_of_mem _ (List.mem_cons_of_mem _ e))
       have hz:=h z (List.mem_cons_of_mem _ List.mem_cons_self);rw[List.filter_cons,List.filter_cons];cases hp:p z with
       | true=>rw [if_pos rfl,if_pos (hz hp),List.length_cons,List.length_cons];omega
       | false=>
         rw[if_neg (by decide)]
         split
         .rw [List.length_cons];omega
         .exact ih'
    rw[List.filter_cons,if_neg (by rw[h1];decide),List.filter_cons,if_pos h2,List.length_cons]
    omega
   .have ih':=ih (fun z hz=>h z (List.mem_cons_of_mem _ hz)) Ea
    have hy:=h y List.mem_cons_self;rw[List.filter_cons,List.filter_cons];cases hp:p y with
    | true=>rw [if_pos rfl,if_pos (hy hp),List.length_cons,List.length_cons];omega
    | false=>
      rw[if_neg (by decide)]
      split
      .rw [List.length_cons];omega
      .exact ih'
section
variable {S:aD} {groups:Us} {free:List Nat}
def cE(gs:D)(n:Nat)(c:D)(a3 a4:Option V3):DE:=[some (.d gs),some (.loc n),some (.d c),a3,a4]
theorem BJ(hG:Good free groups)(hf:free.length<=40)(hl:groups.length<=300000)(hS:mX S){Q:V3->aD->Prop}
 (h:∀c:Nat,(∀T,iY groups T=true->c<=T.length)->(groups≠[]->1<=c)->Q (.d (nI c)) S):W3 (eZ [.d (pV groups)] S) Q:=by
 have hz:sizeLine=16777216:=sizeLine_eq;unfold eZ;refine l4 hS (xq rfl ?_);simp only[cg,ei,List.map,List.length,List.replicate,List.cons_append,List.nil_append,Nat.reduceAdd,Nat.reduceSub];unfold jk;refine aT <| bA (by simp) <| CK ⟨_,rfl,?_⟩
 simp only[List.set];refine aT <| bA (by simp) <| cy (d:=nI 0) rfl ⟨_,rfl,?_⟩
 simp only[List.set];refine aT <| fB <| mh (ds:=groups.map gD) (eP rfl) ?_
 refine(bF (fun i δ S2=>∃(ks:List Nat) (c:Nat) (a3 a4:Option V3),S2=S++[SO.dct (dK ks)]/\ks.length<=40*i/\(∀T,iY groups T=true->c<=(T.filter fun x=>ks.contains x).length)/\(0 < i->1<=c)/\(i=0->ks=[])/\δ=cE (pV groups) S.length (nI c) a3 a4)
  ⟨[],0,none,none,rfl,by simp,fun T _=>by omega,fun z=>by omega,fun _=>rfl,rfl⟩ ?_).mono fun o S2 ⟨d7,gY,ks,c,a3,a4,qh,hkl,hc,vz,_,hδ⟩=>⟨d7,gY,?_⟩
 .rintro i v δ S2 hv ⟨ks,c,a3,a4,rfl,hkl,hc,vz,SG,rfl⟩;obtain⟨G,hGi,rfl⟩:=NT.iE hv;have hil:=(List.getElem?_eq_some_iff.mp hGi).1;have vn:=List.mem_of_getElem? hGi;obtain⟨hGn,hGs⟩:=hG.g G vn;have hGl:G.length<=40:=Nat.le_trans hGs.length_le hf;have hg:(S++[SO.dct (dK ks)])[S.length]? =some (.dct (dK ks)):=a_ _ _;refine⟨cE (pV groups) S.length (nI c) (some (.d (gD G))) a4,rfl,?_⟩;unfold ky;refine lV <| w_not <| Lb <| ve <| aG <| pX (fun j ds S3=>S3=S++[SO.dct (dK ks)]/\ds=((G.map fun x=>ks.contains x).take j).map .bl) (mh (ds:=G.map nI) (eP rfl) ⟨by rw[List.length_map,List.length_map];omega,⟨rfl,by simp⟩,?_,?_⟩)
  .rintro j u ds S3 hu ⟨rfl,rfl⟩;obtain⟨x,hx,rfl⟩:=NT.iE hu;refine⟨[some (.d (nI x)),some (.loc S.length)],rfl,zg ?_⟩;rw[if_pos rfl];refine Li <| cy (d:=nI x) rfl <| w_var (v:= .loc S.length) rfl ⟨_,_,_,rfl,rfl,hg,_,rfl,rfl,?_⟩
   rw[DC,List.take_add_one,List.getElem?_map,hx,List.map_append];rfl
  .rintro ds S3 ⟨rfl,rfl⟩;rw[List.length_map,List.length_map,List.take_of_length_le (by simp)]
   refine cA ⟨[.lst ((G.map fun x=>ks.contains x).map .bl)], .bl (G.any fun x=>ks.contains x),rfl,?_,_,_,rfl,rfl,?_⟩
   .show(match bls? ((G.map fun x=>ks.contains x).map D.bl) with | some bs=>R.ok (D.bl (bs.any id)) | none=> .no)=_
    rw[qb];show R.ok (D.bl ((G.map fun x=>ks.contains x).any id))=_
    rw[List.any_map];rfl
   cases hany:G.any fun x=>ks.contains x with
   | true=>
     rw[if_neg (by decide)]
     refine ic ⟨_,rfl,ks,c,_,_,rfl,by omega,hc,fun _=>?_,fun z=>by omega,rfl⟩
     refine vz (Nat.pos_of_ne_zero fun z=>?_)
     rw[SG z] at hany;obtain⟨x,_,hx⟩:=List.any_eq_true.mp hany;simp at hx
   | false=>
     rw[if_pos (by decide)]
     have hdis:∀x∈G,ks.contains x=false:=fun x hx=>by
      cases q:ks.contains x with
      | false=>rfl
      | true=>have:=List.any_eq_true.mpr ⟨x,hx,q⟩;rw [hany] at this;cases this
     refine aT <| bA (by unfold cE;simp only[List.length_cons,List.length_nil];omega) <| cy (d:=nI (c+1)) (ay (a:=nI c) (b:= .int 1) rfl rfl rfl) ⟨_,rfl,?_⟩
     show W3 (iZ _ _ _ (cE (pV groups) S.length (nI (c+1)) (some (.d (gD G))) a4) _) _;refine fB <| mh (ds:=G.map nI) (eP rfl) ?_
     refine(bF (fun j δ S3=>∃b4,S3=S++[SO.dct (dK (jg ks (G.take j)))]/\δ=cE (pV groups) S.length (nI (c+1)) (some (.d (gD G))) b4)
      ⟨a4,rfl,rfl⟩ ?_).mono fun o S3 ⟨Bk,e3,b4,Bi,vk⟩=>⟨Bk,e3,jg ks G,c+1,some (.d (gD G)),b4,?_,?_,?_,fun _=>by omega,fun z=>by omega,vk⟩
     .rintro j u δ S3 hu ⟨b4,rfl,rfl⟩;obtain⟨x,hx,rfl⟩:=NT.iE hu;refine⟨cE (pV groups) S.length (nI (c+1)) (some (.d (gD G))) (some (.d (nI x))),rfl,?_⟩;unfold kB;have hlen:=mv (G:=G.take j) (ks:=ks);rw[List.length_take] at hlen;refine BI <| cy (d:= .bl true) rfl <| w_var (v:= .loc S.length) rfl <| cy (d:=nI x) rfl ⟨_,_,_,_,rfl,rfl,rfl,a_ _ _,by unfold dK;rw [List.length_map];omega,_,rfl,_,?_,rfl⟩
      rw[cC,Dk,List.take_add_one,hx];unfold jg;rw[List.foldl_append];rfl
     .rw [List.length_map,List.length_map,List.take_length] at Bi;exact Bi
     .have:=mv (G:=G) (ks:=ks);omega
     .intro T hT;obtain⟨x,GA,hxT⟩:=dW.mp hT G vn;have h1:=hc T hT;have h2:=r9 (T:=T) (p:=fun x=>ks.contains x) (q:=fun x=>(jg ks G).contains x) (fun y _ hy=>by
       have hy:y∈ks:=by simpa using hy
       simpa using mF.mpr (.inl hy)) hxT (hdis x GA) (by simpa using mF.mpr (.inr GA))
      omega
 .subst hδ qh;rw[List.length_map,List.length_map] at vz;unfold cE;refine eh <| cy (d:=nI c) rfl ⟨_,rfl,by unfold eL;rfl,⟨_,rfl⟩,_,by unfold res;rfl,h c (fun T hT=>Nat.le_trans (hc T hT) (List.length_filter_le _ _)) fun oP=>vz (List.length_pos_iff.mpr oP)⟩
end
end K23
end
section
namespace K23
open PySem PySem.Spec PyProof.Rows L2 L3 MT
def fr(free:List Nat)(x:Nat):List Nat:=free.filter fun y=>decide (y > x)
def left(groups:Us)(x:Nat):Us:=(groups.filter fun G=>!G.contains x).map fun G=>fr G x
def iy(free:List Nat)(s:Nat)(groups:Us):Option (List Nat):=(h_ free s).find? (iY groups)
def Ew(free:List Nat)(groups:Us)(m:Nat):Option (List Nat)->Prop
 | none=>∀T:List Nat,T.Sublist free->iY groups T=true->m < T.length
 | some T0=>T0.Sublist free/\iY groups T0=true/\T0.length<=m/\((∀T:List Nat,T.Sublist free->iY groups T=true->m<=T.length)->iy free m groups=some T0)
theorem zV:∀{T free:List Nat},T.Sublist free->T∈h_ free T.length
 | [],free,_=>by unfold h_;simp
 | x ::T,free,h=>by
   induction free with
   | nil=>cases h
   | cons y free ih=>
     have hstep:h_ (y ::free) (x ::T).length=(h_ free T.length).map (y ::·)++h_ free (x ::T).length:=by
      show((List.range (y ::free).length).flatMap fun a=>(h_ ((y ::free).drop (a+1)) T.length).map ((y ::free).getD a 0 ::·))=_
      rw[List.length_cons,List.range_succ_eq_map,List.flatMap_cons];congr 1;show(List.map Nat.succ (List.range free.length)).flatMap _=(List.range free.length).flatMap fun a=>(h_ (free.drop (a+1)) T.length).map (free.getD a 0 ::·)
      rw[m4];rfl
     rw[hstep];cases h with
     | cons _ h=>exact List.mem_append_right _ (ih h)
     | cons_cons _ h=>exact List.mem_append_left _ (List.mem_map_of_mem (zV h))
theorem rh:∀(s:Nat) (free T:List Nat),T∈h_ free s->T.Sublist free
 | 0,free,T,h=>by unfold h_ at h;rw [List.mem_singleton.mp h];exact List.nil_sublist _
 | s+1,free,T,h=>by
   unfold h_ at h;obtain⟨a,ha,h⟩:=List.mem_flatMap.mp h;obtain⟨R,hR,rfl⟩:=List.mem_map.mp h;rw[List.mem_range] at ha;have:=rh s _ R hR;have e:free.drop a=free.getD a 0 ::free.drop (a+1):=by
    rw[List.drop_eq_getElem_cons ha,List.getD_eq_getElem?_getD,List.getElem?_eq_getElem ha];rfl
   exact(e▸List.Sublist.cons_cons _ this).trans (List.drop_sublist a free)
theorem lg{free:List Nat}{x y:Nat}:y∈fr free x↔y∈free/\x < y:=by unfold fr;rw [List.mem_filter];simp
theorem Bq{free R:List Nat}{x:Nat}(hs:free.Pairwise (· < ·))(h:(x ::R).Sublist free):x∈free/\R.Sublist (fr free x):=by
 refine⟨h.subset List.mem_cons_self,?_⟩;have hp:=(hs.sublist h);have hR:R=R.filter fun y=>decide (y > x):=by
  rw[eq_comm,List.filter_eq_self];intro y hy;exact decide_eq_true ((List.pairwise_cons.mp hp).1 y hy)
 rw[hR];exact((List.sublist_cons_self x R).trans h).filter _
theorem sU{x:Nat}:∀{free:List Nat},free.Pairwise (· < ·)->x∈free->(x ::fr free x).Sublist free
 | [],_,h=>by cases h
 | y ::f,hs,h=>by
   obtain⟨h1,h2⟩:=List.pairwise_cons.mp hs;rcases List.mem_cons.mp h with rfl | hx
   .unfold fr;rw[List.filter_cons,if_neg (by simp)]
    exact List.Sublist.cons_cons _ List.filter_sublist
   .have hlt:=h1 x hx;unfold fr;rw[List.filter_cons,if_neg (by simp;omega)]
    exact(sU h2 hx).cons y
theorem qu{free R:List Nat}{x:Nat}(hs:free.Pairwise (· < ·))(hx:x∈free)(h:R.Sublist (fr free x)):(x ::R).Sublist free:=(List.Sublist.cons_cons x h).trans (sU hs hx)
theorem lr{groups:Us}{R:List Nat}{x:Nat}(hR:∀y∈R,x < y):iY (left groups x) R=iY groups (x ::R):=by
 rw[Bool.eq_iff_iff,dW,dW];constructor
 .intro h G hG;by_cases q:x∈G
  .exact⟨x,q,List.mem_cons_self⟩
  .obtain⟨y,h1,h2⟩:=h (fr G x) (List.mem_map.mpr ⟨G,List.mem_filter.mpr ⟨hG,by simpa using q⟩,rfl⟩)
   exact⟨y,(lg.mp h1).1,List.mem_cons_of_mem _ h2⟩
 .intro h G' JT;obtain⟨G,hG,rfl⟩:=List.mem_map.mp JT;obtain⟨hG,hx⟩:=List.mem_filter.mp hG;have hx:x ∉ G:=by simpa using hx
  obtain⟨y,h1,h2⟩:=h G hG;rcases List.mem_cons.mp h2 with rfl | h2
  .exact absurd h1 hx
  .exact⟨y,lg.mpr ⟨h1,hR y h2⟩,h2⟩
theorem x5{β:Type}{f:Nat->Option β}{v:β}{n a:Nat}(ha:a < n)(hv:f a=some v)(hn:∀b,b < a->f b=none):(List.range n).findSome? f=some v:=by
 rw[List.range_eq_range'];have:∀(m lo:Nat),lo<=a->a < lo+m->(List.range' lo m).findSome? f=some v:=by
  intro m
  induction m with
  | zero=>intro lo h1 h2;omega
  | succ m ih=>
    intro lo h1 h2;rw[List.range'_succ,List.findSome?_cons];by_cases q:lo=a
    .subst q;rw [hv]
    .rw [hn lo (by omega)]
     exact ih (lo+1) (by omega) (by omega)
 exact this n 0 (by omega) (by omega)
theorem sv{free:List Nat}(hs:free.Pairwise (· < ·))(s:Nat)(groups:Us):iy free (s+1) groups=(List.range free.length).findSome? fun a=>(iy (fr free (free.getD a 0)) s (left groups (free.getD a 0))).map (free.getD a 0 ::·):=by
 unfold iy;show((List.range free.length).flatMap fun a=>(h_ (free.drop (a+1)) s).map (free.getD a 0 ::·)).find? (iY groups)=_
 rw[List.find?_flatMap];have cong:∀(xs:List Nat) (f g:Nat->Option (List Nat)),(∀x∈xs,f x=g x)->xs.findSome? f=xs.findSome? g:=by
  intro xs
  induction xs with
  | nil=>intro f g _;rfl
  | cons x xs ih=>intro f g h;rw [List.findSome?_cons,List.findSome?_cons,h x List.mem_cons_self,ih f g fun y hy=>h y (List.mem_cons_of_mem _ hy)]
 refine cong _ _ _ fun a ha=>?_
 rw[List.mem_range] at ha;have hd:free.drop (a+1)=fr free (free.getD a 0):=(wK hs ha).symm;rw[List.find?_map,hd];congr 1;have cf:∀(xs:Us) (p q:List Nat->Bool),(∀x∈xs,p x=q x)->xs.find? p=xs.find? q:=by
  intro xs
  induction xs with
  | nil=>intro p q _;rfl
  | cons x xs ih=>intro p q h;rw [List.find?_cons,List.find?_cons,h x List.mem_cons_self,ih p q fun y hy=>h y (List.mem_cons_of_mem _ hy)]
 refine cf _ _ _ fun R hR=>?_
 show iY groups (free.getD a 0 ::R)=_;exact(lr fun y hy=>(lg.mp ((iu hR).2 y hy)).2).symm
section
variable {free:List Nat} {groups:Us} {last m:Nat} {ks:List Nat}
structure Nd (free:List Nat) (groups:Us) (last:Nat) (ks:List Nat):Prop where
 good:Good free groups
 ne:groups≠[]
 up:∀G∈groups,∃y∈G,last<=y
 lo:∃G∈groups,∀y∈G,y<=last
 ks:∀x,x∈ks↔(∃G∈groups,x∈G)/\x<=last
theorem Nd.low(N:Nd free groups last ks){x:Nat}{R:List Nat}(hT:(x ::R).Sublist free)(hh:iY groups (x ::R)=true):x<=last:=by
 obtain⟨G,hG,hl⟩:=N.lo;obtain⟨y,h1,h2⟩:=dW.mp hh G hG;have hy:=hl y h1;have hp:=N.good.so.sublist hT;rcases List.mem_cons.mp h2 with rfl | h2
 .exact hy
 .have:=(List.pairwise_cons.mp hp).1 y h2;omega
theorem Nd.skip(N:Nd free groups last ks){x:Nat}{R:List Nat}(hT:(x ::R).Sublist free)(hh:iY groups (x ::R)=true)(hx:x ∉ ks):iY groups R=true:=by
 have hl:=N.low hT hh;have hno:∀G∈groups,x ∉ G:=fun G hG GA=>hx ((N.ks x).mpr ⟨⟨G,hG,GA⟩,hl⟩)
 refine dW.mpr fun G hG=>?_
 obtain⟨y,h1,h2⟩:=dW.mp hh G hG;rcases List.mem_cons.mp h2 with rfl | h2
 .exact absurd h1 (hno G hG)
 .exact⟨y,h1,h2⟩
theorem Nd.left(N:Nd free groups last ks){x:Nat}(hx:x<=last):Good (fr free x) (left groups x):=by
 refine⟨N.good.so.filter _,fun G' JT=>?_⟩
 obtain⟨G,hG,rfl⟩:=List.mem_map.mp JT;obtain⟨hG,GA⟩:=List.mem_filter.mp hG;have GA:x ∉ G:=by simpa using GA
 obtain⟨y,hy,hly⟩:=N.up G hG;have oP:y≠x:=fun e=>GA (e▸hy)
 refine⟨fun e=>?_,(N.good.g G hG).2.filter _⟩
 have:y∈fr G x:=lg.mpr ⟨hy,by omega⟩
 rw[e] at this;cases this
theorem Nd.Pu(N:Nd free groups last ks)(h:∀x∈free.filter (fun x=>ks.contains x),Ew (fr free x) (K23.left groups x) m none):∀T:List Nat,T.Sublist free->iY groups T=true->m+1 < T.length
 | [],_,hh=>by
   obtain⟨G,hG⟩:=List.exists_mem_of_ne_nil _ N.ne;obtain⟨y,_,hy⟩:=dW.mp hh G hG;cases hy
 | x ::R,hT,hh=>by
   obtain⟨hx,hR⟩:=Bq N.good.so hT;by_cases q:x∈ks
   .have h1:=h x (List.mem_filter.mpr ⟨hx,by simpa using q⟩) R hR (by rw[lr fun y hy=>(lg.mp (hR.subset hy)).2];exact hh)
    rw[List.length_cons];omega
   .have:=Nd.Pu N h R ((List.sublist_cons_self x R).trans hT) (N.skip hT hh q);rw[List.length_cons];omega
theorem Nd.yes(N:Nd free groups last ks){ys zs:List Nat}{x0:Nat}{R0:List Nat}(e:free.filter (fun x=>ks.contains x)=ys++x0 ::zs)(hy:∀y∈ys,Ew (fr free y) (K23.left groups y) m none)(h0:Ew (fr free x0) (K23.left groups x0) m (some R0)):Ew free groups (m+1) (some (x0 ::R0)):=by
 obtain⟨h1,h2,h3,h4⟩:=h0;have N2:x0∈free:=(List.mem_filter (p:=fun x=>ks.contains x) |>.mp (by rw[e];simp)).1
 have hgt:∀y∈R0,x0 < y:=fun y hy=>(lg.mp (h1.subset hy)).2
 refine⟨qu N.good.so N2 h1,by rw[<-lr hgt];exact h2,by rw[List.length_cons];omega,fun sM=>?_⟩
 rw[sv N.good.so];obtain⟨a0,N4,hxa⟩:=List.mem_iff_getElem.mp N2;have hg0:free.getD a0 0=x0:=by rw[List.getD_eq_getElem?_getD,List.getElem?_eq_getElem N4,hxa];rfl
 refine x5 N4 ?_ fun b hb=>?_
 .rw [hg0,h4 fun R hR hh=>?_]
  .rfl
  .have:=sM (x0 ::R) (qu N.good.so N2 hR) (by rw[<-lr fun y hy=>(lg.mp (hR.subset hy)).2];exact hh)
   rw[List.length_cons] at this;omega
 .have hbl:b < free.length:=by omega
  have hgb:free.getD b 0=free[b]:=by rw[List.getD_eq_getElem?_getD,List.getElem?_eq_getElem hbl];rfl
  rw[hgb];cases hf:iy (fr free free[b]) m (K23.left groups free[b]) with
  | none=>rfl
  | some R=>
    exfalso
    unfold iy at hf;have hRm:=List.mem_of_find?_eq_some hf;have hRh:=List.find?_some hf;have hRs:=rh _ _ _ hRm;have hRl:=(iu hRm).1;have hbm:free[b]∈free:=List.getElem_mem hbl;have hlt:free[b] < x0:=by rw[<-hxa];exact List.pairwise_iff_getElem.mp N.good.so b a0 hbl N4 hb
    have hT:=qu N.good.so hbm hRs;have hh:iY groups (free[b] ::R)=true:=by rw[<-lr fun y hy=>(lg.mp (hRs.subset hy)).2];exact hRh
    by_cases q:free[b]∈ks
    .have hin:free[b]∈free.filter (fun x=>ks.contains x):=List.mem_filter.mpr ⟨hbm,by simpa using q⟩
     rw[e] at hin;have hso:(ys++x0 ::zs).Pairwise (· < ·):=by rw[<-e];exact N.good.so.filter _
     have hys:free[b]∈ys:=by
      rcases List.mem_append.mp hin with z | z
      .exact z
      .rcases List.mem_cons.mp z with z | z
       .omega
       .have:=(List.pairwise_cons.mp (List.pairwise_append.mp hso).2.1).1 _ z;omega
     have:=hy _ hys R hRs hRh;omega
    .have h5:=sM R ((List.sublist_cons_self _ R).trans hT) (N.skip hT hh q);omega
end
end K23
end
section
namespace K23
open PySem PySem.Spec PyProof.Rows L2 L3 MT
theorem Nn(x:Nat)(ns:List Nat):Ei (nI x) (.lst (ns.map nI))= .ok (.bl (ns.contains x)):=by
 have h:Ei (.int (x:Int)) (.lst ((nZ ns).map .int))= .ok (.bl ((nZ ns).contains (x:Int))):=by
  show((match ints? ((nZ ns).map D.int) with | some ss=>R.ok (ss.contains (x:Int)) | none=> .no)).bind (fun b=>R.ok (D.bl b))=_
  rw[L2.ints_map];rfl
 rw[FK,uU] at h;exact h
theorem KJ(y x:Nat):KH (nI y) (nI x)= .ok (.bl (decide (y > x))):=by
 show R.ok (D.bl (decide ((y:Int) > (x:Int))))=_;congr 2;by_cases q:y > x
 .rw [decide_eq_true q,decide_eq_true (by omega)]
 .rw [decide_eq_false q,decide_eq_false (by omega)]
theorem Nx(y x:Nat):GO (nI y) (nI x)= .ok (.bl (decide (y<=x))):=by
 show R.ok (D.bl (decide ((y:Int)<=(x:Int))))=_;congr 2;by_cases q:y<=x
 .rw [decide_eq_true q,decide_eq_true (by omega)]
 .rw [decide_eq_false q,decide_eq_false (by omega)]
theorem AQ{G:List Nat}{x:Nat}(hl:G.length < 1000):k9 [gD G,nI x]= .ok (gD (fr G x)):=by
 have hz:sizeLine=16777216:=sizeLine_eq;unfold k9 vN;refine d4 (cU (eD (dc (ds:=G.map nI) (eP rfl) (by rw[List.length_map];omega) ?_)))
 exact NT.km (fun y=>decide (y > x)) nI nI fun y _=>⟨[.val (nI y), .val (nI x)],rfl,jZ (a:=nI y) (b:=nI x) rfl rfl (KJ y x),fun _=>rfl⟩
theorem Gv{groups:Us}{x:Nat}(hl:∀G∈groups,G.length < 1000)(hn:groups.length<=300000):et [pV groups,nI x]= .ok (pV (left groups x)):=by
 have hz:sizeLine=16777216:=sizeLine_eq;unfold et l6;refine d4 (cU (eD (dc (ds:=groups.map gD) (eP rfl) (by rw[List.length_map];omega) ?_)))
 unfold left;rw[List.map_map];exact NT.km (fun G:List Nat=>!G.contains x) gD _ fun G hG=>⟨[.val (gD G), .val (nI x)],rfl,jZ (a:=nI x) (b:=gD G) rfl rfl (CY (Nn x G)),fun _=>aM (ds:=[gD G,nI x]) rfl (AQ (hl G hG))⟩
theorem KU{G:List Nat}{l:Nat}(h:G.getLast? =some l):cN (gD G) (.int (-1))= .ok (nI l):=by
 refine ym ?_;unfold pj yb;have hp:0 < G.length:=by
  cases G with
  | nil=>cases h
  | cons _ _=>simp
 rw[List.length_map,if_neg (by omega),if_pos (by omega)]
 show(G.map nI)[(((-1:Int))+(G.length:Int)).toNat]? =_;rw[List.getElem?_map,show((-1:Int)+(G.length:Int)).toNat=G.length - 1 by omega,<-List.getLast?_eq_getElem?,h]
 rfl
theorem t6{α:Type}{t:FG}{body:FZ}{S:aD}(g:α->V3)(E:DE->Prop)(N:α->Prop)(Y:α->V3->Prop):∀{xs:List α} {δ:DE},E δ->
 (∀x∈xs,∀δ,E δ->∃cz,t (g x) δ=some cz/\W3 (body cz S) fun o S1=>S1=S/\((∃d7,o= .nx d7/\E d7/\N x)\/∃v,o= .rt v/\Y x v))->
 W3 (i4 t body (xs.map g) δ S) fun o S1=>S1=S/\((∃d7,o= .nx d7/\E d7/\∀x∈xs,N x)\/∃ys x zs v,xs=ys++x ::zs/\(∀y∈ys,N y)/\o= .rt v/\Y x v)
 | [],δ,h0,_=>W3.ok ⟨rfl, .inl ⟨δ,rfl,h0,fun x hx=>by cases hx⟩⟩
 | x ::xs,δ,h0,hs=>by
   obtain⟨cz,e1,o,S1,gY,rfl,h2⟩:=hs x List.mem_cons_self δ h0;rw[List.map_cons];unfold i4;rw[e1];refine W3.bind ⟨_,_,gY,?_⟩;rcases h2 with⟨d7,rfl,hE,hN⟩ | ⟨v,rfl,hY⟩
   .refine(t6 g E N Y hE fun y hy=>hs y (List.mem_cons_of_mem _ hy)).mono fun o S2 ⟨eS,hq⟩=>⟨eS,?_⟩
    rcases hq with⟨Bk,e3,S8,Sd⟩ | ⟨ys,z,zs,v,exs,hys,eo,hY⟩
    .exact .inl ⟨Bk,e3,S8,fun y hy=>(List.mem_cons.mp hy).elim (fun e=>e▸hN) (Sd y)⟩
    .exact .inr ⟨x ::ys,z,zs,v,by rw[exs];rfl,fun y hy=>(List.mem_cons.mp hy).elim (fun e=>e▸hN) (hys y),eo,hY⟩
   .exact W3.ok ⟨rfl, .inr ⟨[],x,xs,v,rfl,(fun y hy=>by cases hy),rfl,hY⟩⟩
def rD:Option (List Nat)->D | none=> .bQ | some T=>bM T
section
variable {free:List Nat} {groups:Us}
def fE(gs m:D)(a2 a3 a4 a5 a6:Option V3):DE:=[some (.d gs),some (.d m),a2,a3,a4,a5,a6]
theorem EW(hG:Good free groups)(oP:groups≠[])(hl:groups.length<=300000){δ:ak}(h0:af 0 δ= .ok (pV groups)):∃last:Nat,aS nD (aw (eNew (ef (cS (af 0)) (bq 0) k8 (e2 cN (af 0) (AI (eC (.int 1)))) ["group"] [])) aZ) δ= .ok (nI last)/\(∀G∈groups,∃y∈G,last<=y)/\∃G∈groups,∀y∈G,y<=last:=by
 have hz:sizeLine=16777216:=sizeLine_eq
 let mx:List Nat->Nat:=fun G=>G.getLast?.getD 0
 have hmx:∀G∈groups,G.getLast? =some (mx G)/\mx G∈G/\∀y∈G,y<=mx G:=fun G vn=>by
  obtain⟨h1,h2⟩:=hG.g G vn;obtain⟨l,L9⟩:∃l,G.getLast? =some l:=⟨_,List.getLast?_eq_some_getLast h1⟩;have e:mx G=l:=by show G.getLast?.getD 0=l;rw [L9];rfl
  rw[e];refine⟨L9,List.mem_of_getLast? L9,fun y hy=>?_⟩
  have hs:=hG.so.sublist h2;obtain⟨i,hi,rfl⟩:=List.mem_iff_getElem.mp hy;rw[List.getLast?_eq_getElem?] at L9;obtain⟨h3,h4⟩:=List.getElem?_eq_some_iff.mp L9;rcases Nat.lt_or_ge i (G.length - 1) with q | q
  .exact Nat.le_of_lt (by rw[<-h4];exact List.pairwise_iff_getElem.mp hs i _ hi h3 q)
  .have:i=G.length - 1:=by omega
   subst this;omega
 obtain⟨G0,gr,rfl⟩:∃G0 gr,groups=G0 ::gr:=by
  cases groups with
  | nil=>exact absurd rfl oP
  | cons a r=>exact⟨a,r,rfl⟩
 have hcomp:eNew (ef (cS (af 0)) (bq 0) k8 (e2 cN (af 0) (AI (eC (.int 1)))) ["group"] []) δ= .ok (.lst (((G0 ::gr).map fun G=>((mx G:Nat):Int)).map .int)):=by
  refine eD (dc (ds:=(G0 ::gr).map gD) (eP h0) (by rw[List.length_map];omega) ?_)
  rw[List.map_map];exact NT.cH gD _ fun G vn=>⟨[.val (gD G)],rfl,rfl,ay (a:=gD G) (b:= .int (-1)) rfl rfl (KU (hmx G vn).1)⟩
 obtain⟨h1,h2⟩:=L2.fold_min (gr.map fun G=>((mx G:Nat):Int)) ((mx G0:Nat):Int)
 obtain⟨G1,Qc,e1⟩:∃G∈G0 ::gr,((mx G:Nat):Int)=(gr.map fun G=>((mx G:Nat):Int)).foldl min ((mx G0:Nat):Int):=by
  rcases List.mem_cons.mp h1 with q | q
  .exact⟨G0,List.mem_cons_self,q.symm⟩
  .obtain⟨G,vn,e⟩:=List.mem_map.mp q;exact⟨G,List.mem_cons_of_mem _ vn,e⟩
 refine⟨mx G1,?_,fun G vn=>?_,G1,Qc,(hmx G1 Qc).2.2⟩
 .refine aM (aV hcomp rfl) ?_;show(match ints? (((G0 ::gr).map fun G=>((mx G:Nat):Int)).map D.int) with | some (n ::ns)=>R.ok (D.int (ns.foldl min n)) | _=> .no)=_
  rw[L2.ints_map];show R.ok (D.int ((gr.map fun G=>((mx G:Nat):Int)).foldl min ((mx G0:Nat):Int)))=_
  rw[<-e1];rfl
 .refine⟨mx G,(hmx G vn).2.1,?_⟩;have h3:(gr.map fun G=>((mx G:Nat):Int)).foldl min ((mx G0:Nat):Int)<=((mx G:Nat):Int):=by
   refine h2 _ ?_;rcases List.mem_cons.mp vn with rfl | q
   .exact List.mem_cons_self
   .exact List.mem_cons_of_mem _ (List.mem_map.mpr ⟨G,q,rfl⟩)
  rw[<-e1] at h3;omega
theorem Gs{ks:List Nat}(hs:free.Pairwise (· < ·))(hn:ks.Nodup)(hk:∀x∈ks,x∈free):o8 (nZ ks)=nZ (free.filter fun x=>ks.contains x):=by
 have hnf:free.Nodup:=hs.imp fun h=>Nat.ne_of_lt h
 have hperm:(free.filter fun x=>ks.contains x).Perm ks:=(List.perm_ext_iff_of_nodup (hnf.filter _) hn).mpr fun x=>by
  rw[List.mem_filter];exact⟨fun h=>by simpa using h.2,fun h=>⟨hk x h,by simpa using h⟩⟩
 refine(wq (a:=nZ (free.filter fun x=>ks.contains x)) (hperm.map _) ?_).symm
 unfold nZ;rw[List.pairwise_map];exact(hs.filter _).imp fun h=>by omega
theorem CB:∀(n m:Nat),m < n->∀(free:List Nat) (groups:Us) (S:aD),Good free groups->free.length<=40->groups.length<=300000->mX S->∀(Q:V3->aD->Prop),(∀r,Ew free groups m r->Q (.d (rD r)) S)->W3 (cb n [.d (pV groups), .d (nI m)] S) Q
 | 0,m,hm=>by omega
 | n+1,m,hm=>by
   intro free groups S hG hf hl hS Q h;have hz:sizeLine=16777216:=sizeLine_eq;have GD:∀G∈groups,G.length < 1000:=fun G vn=>by have:=(hG.g G vn).2.length_le;omega
   show W3 (nS dZ (iB (cb n)) _ S) Q;refine l4 hS (xq rfl ?_);simp only[cg,dZ,List.map,List.length,List.replicate,List.cons_append,List.nil_append,Nat.reduceAdd,Nat.reduceSub];unfold iB;have fin:∀(r:Option (List Nat)) (T:aD),Ew free groups m r->eL S.length (.d (rD r))=true/\(∃U,S++T=S++U)/\∃d,res (S++T) (.d (rD r))=some d/\Q (.d d) S:=fun r T hr=>⟨by unfold eL;rfl,⟨T,rfl⟩,_,by unfold res;rfl,h r hr⟩
   refine qL <| lV <| HB <| eF <| aG <| cy (d:=pV groups) rfl <| cA <| BJ hG hf hl hS fun c hc vz=>cy (d:=nI m) rfl ⟨_,_,_,rfl,rfl,KJ c m,?_⟩
   by_cases hcm:c > m
   .rw [decide_eq_true hcm,if_pos rfl];refine eh <| cy (d:= .bQ) rfl ⟨_,rfl,?_⟩
    have:=fin none [] fun T _ hh=>by have:=hc T hh;omega
    rw[List.append_nil] at this;exact this
   rw[decide_eq_false hcm,if_neg (by decide)]
   refine ic ?_;by_cases oP:groups=[]
   .subst oP;refine qL <| lV <| ny (b:=true) rfl ?_
    rw[if_pos rfl];refine eh <| cy (d:=bM []) (g9 rfl (by simp)) ⟨_,rfl,?_⟩
    have:=fin (some []) [] ⟨List.nil_sublist _,rfl,by simp,fun sM=>?_⟩
    .rw [List.append_nil] at this;exact this
    .have h0:=sM [] (List.nil_sublist _) rfl;have:m=0:=by simpa using h0
     subst this;rfl
   obtain⟨G0,gr,Oa⟩:∃G0 gr,groups=G0 ::gr:=by
    cases groups with
    | nil=>exact absurd rfl oP
    | cons a r=>exact⟨a,r,rfl⟩
   refine qL <| lV <| ny (b:=false) (by rw[Oa];rfl) ?_
   rw[if_neg (by decide)]
   refine ic ?_;have J8:1<=m:=by have:=vz oP;omega
   obtain⟨last,elast,hup,hlo⟩:=EW hG oP hl (δ:=down [some (.d (pV groups)),some (.d (nI m)),none,none,none,none,none]) rfl;refine aT <| bA (by simp) <| cy (d:=nI last) elast ⟨_,rfl,?_⟩
   simp only[List.set];refine aT <| bA (by simp) <| CK ⟨_,rfl,?_⟩
   simp only[List.set];refine aT <| fB <| mh (ds:=groups.map gD) (eP rfl) ?_
   refine(bF (fun i δ S2=>∃(ks:List Nat) (a4 a5:Option V3),S2=S++[SO.dct (dK ks)]/\ks.Nodup/\(∀x,x∈ks↔(∃G∈groups.take i,x∈G)/\x<=last)/\δ=fE (pV groups) (nI m) (some (.d (nI last))) (some (.loc S.length)) a4 a5 none)
    ⟨[],none,none,rfl,List.nodup_nil,fun x=>by simp,rfl⟩ ?_).mono fun o S2 ⟨d7,gY,ks,a4,a5,qh,hnd,hks,hδ⟩=>⟨d7,gY,?_⟩
   .rintro i v δ S2 hv ⟨ks,a4,a5,rfl,hnd,hks,rfl⟩;obtain⟨G,hGi,rfl⟩:=NT.iE hv;have vn:=List.mem_of_getElem? hGi;have hGs:=(hG.g G vn).2;have hkf:∀x∈ks,x∈free:=fun x hx=>by
     obtain⟨⟨G',JT,Ea⟩,_⟩:=(hks x).mp hx;exact(hG.g G' (List.mem_of_mem_take JT)).2.subset Ea
    refine⟨fE (pV groups) (nI m) (some (.d (nI last))) (some (.loc S.length)) (some (.d (gD G))) a5 none,rfl,?_⟩;unfold jz;refine fB <| mh (ds:=G.map nI) (eP rfl) ?_
    refine(bF (fun j δ S3=>∃(DV:List Nat) (b5:Option V3),S3=S++[SO.dct (dK DV)]/\DV.Nodup/\(∀x,x∈DV↔x∈ks\/(x∈G.take j/\x<=last))/\δ=fE (pV groups) (nI m) (some (.d (nI last))) (some (.loc S.length)) (some (.d (gD G))) b5 none)
     ⟨ks,a5,rfl,hnd,fun x=>by simp,rfl⟩ ?_).mono fun o S3 ⟨Bk,e3,DV,b5,Bi,D4,DW,vk⟩=>⟨Bk,e3,DV,_,b5,Bi,D4,fun x=>?_,vk⟩
    .rintro j u δ S3 hu ⟨DV,b5,rfl,D4,DW,rfl⟩;obtain⟨x,hx,rfl⟩:=NT.iE hu;have GA:=List.mem_of_getElem? hx;refine⟨fE (pV groups) (nI m) (some (.d (nI last))) (some (.loc S.length)) (some (.d (gD G))) (some (.d (nI x))) none,rfl,?_⟩;unfold jV;have hkl:DV.length<=40:=by
      have hsub:∀y∈DV,y∈free:=fun y hy=>by
       rcases(DW y).mp hy with q | q
       .exact hkf y q
       .exact hGs.subset (List.mem_of_mem_take q.1)
      exact Nat.le_trans (L2.xw _ _ D4 hsub) hf
     have hstep:∀y,(y∈ks\/(y∈G.take (j+1)/\y<=last))↔(y∈DV\/(y=x/\x<=last)):=fun y=>by
      rw[DW y,List.take_add_one,hx];simp only[Option.toList_some,List.mem_append,List.mem_singleton];constructor
      .rintro(q | ⟨q | q,q2⟩)
       .exact .inl (.inl q)
       .exact .inl (.inr ⟨q,q2⟩)
       .exact .inr ⟨q,q▸q2⟩
      .rintro((q | ⟨q,q2⟩) | ⟨q,q2⟩)
       .exact .inl q
       .exact .inr ⟨.inl q,q2⟩
       .exact .inr ⟨.inr q,q▸q2⟩
     refine lV <| ny (b:=decide (x<=last)) (jZ (a:=nI x) (b:=nI last) rfl rfl (Nx x last)) ?_
     by_cases q:x<=last
     .rw [decide_eq_true q,if_pos rfl];refine BI <| cy (d:= .bl true) rfl <| w_var (v:= .loc S.length) rfl <| cy (d:=nI x) rfl ⟨_,_,_,_,rfl,rfl,rfl,a_ _ _,by unfold dK;rw [List.length_map];omega,_,rfl,oM DV x,_,?_,E8 D4,fun y=>?_,rfl⟩
      .rw [cC,Dk]
      .rw [vW,hstep y];exact⟨fun z=>z.elim .inl fun e=> .inr ⟨e,q⟩,fun z=>z.elim .inl fun e=> .inr e.1⟩
     .rw [decide_eq_false q,if_neg (by decide)]
      refine ic ⟨_,rfl,DV,_,rfl,D4,fun y=>?_,rfl⟩
      rw[hstep y];exact⟨.inl,fun z=>z.elim id fun e=>absurd e.2 q⟩
    .rw [List.length_map,List.length_map,List.take_length] at DW;rw[DW x,hks x,List.take_add_one,hGi];simp only[Option.toList_some,List.mem_append,List.mem_singleton];constructor
     .rintro(⟨⟨G',h1,h2⟩,h3⟩ | ⟨h1,h2⟩)
      .exact⟨⟨G', .inl h1,h2⟩,h3⟩
      .exact⟨⟨G, .inr rfl,h1⟩,h2⟩
     .rintro⟨⟨G',h1 | h1,h2⟩,h3⟩
      .exact .inl ⟨⟨G',h1,h2⟩,h3⟩
      .exact .inr ⟨h1▸h2,h3⟩
   rw[List.length_map,List.length_map,List.take_length] at hks;subst hδ qh;have N:Nd free groups last ks:=⟨hG,oP,hup,hlo,hks⟩;have hkf:∀x∈ks,x∈free:=fun x hx=>by
    obtain⟨⟨G',JT,Ea⟩,_⟩:=(hks x).mp hx;exact(hG.g G' JT).2.subset Ea
   have hkl:ks.length<=40:=Nat.le_trans (L2.xw _ _ hnd hkf) hf;have hcl1:mX (S++[SO.dct (dK ks)]):=mX.push hS fun _=>rfl
   unfold fE;refine qL <| fB <| pZ <| Fu <| w_var (v:= .loc S.length) rfl ⟨_,_,nZ ks,rfl,a_ _ _,?_,by unfold nZ;rw [List.length_map];omega,_,rfl,?_⟩
   .unfold dK nZ;rw[List.map_map,List.map_map];rfl
   rw[Gs hG.so hnd hkf,FK,List.map_map];refine(t6 (S:=S++[SO.dct (dK ks)]) (V3.d ∘ nI) (fun δ=>∃a5 a6,δ=fE (pV groups) (nI m) (some (.d (nI last))) (some (.loc S.length)) a4 a5 a6) (fun x=>Ew (fr free x) (left groups x) (m - 1) none) (fun x v=>∃R,v= .d (bM (x ::R))/\Ew (fr free x) (left groups x) (m - 1) (some R))
    ⟨_,_,rfl⟩ ?_).mono fun o S2 ⟨Tf,hq⟩=>?_
   .rintro x hx δ ⟨b5,b6,rfl⟩;have hxk:x∈ks:=by have:=(List.mem_filter.mp hx).2;simpa using this
    have Kc:=((hks x).mp hxk).2;refine⟨fE (pV groups) (nI m) (some (.d (nI last))) (some (.loc S.length)) a4 (some (.d (nI x))) b6,rfl,?_⟩;unfold jM;refine aT <| bA (by unfold fE;simp only[List.length_cons,List.length_nil];omega) <| eF <| aG <| cy (d:=pV (left groups x)) (aM (ds:=[pV groups,nI x]) rfl (Gv GD hl)) <| aG <| cy (d:=nI (m - 1)) (ay (a:=nI m) (b:= .int 1) rfl rfl ?_) <| cA <| CB n (m - 1) (by omega) _ _ _ (N.left Kc) (Nat.le_trans (List.length_filter_le _ _) hf) (by unfold left;rw [List.length_map];exact Nat.le_trans (List.length_filter_le _ _) hl) hcl1 _ fun r hr=>⟨_,rfl,?_⟩
    .show R.ok (D.int ((m:Int) - 1))=R.ok (D.int ((m - 1:Nat):Int));congr 2;omega
    cases r with
    | none=>
      refine lV <| ny (b:=false) rfl ?_
      rw[if_neg (by decide)]
      exact ic ⟨rfl, .inl ⟨_,rfl,⟨_,_,rfl⟩,hr⟩⟩
    | some R=>
      refine lV <| ny (b:=true) rfl ?_
      rw[if_pos rfl];have hRl:R.length<=40:=Nat.le_trans hr.1.length_le (Nat.le_trans (List.length_filter_le _ _) hf);refine eh <| cy (d:=bM (x ::R)) (ay (a:= .tup [nI x]) (b:=bM R) (g9 rfl (by simp;omega)) rfl (Dm (by rw[List.length_map];simp;omega))) ⟨rfl, .inr ⟨_,rfl,R,rfl,hr⟩⟩
   .subst Tf;have hmm:m - 1+1=m:=by omega
    rcases hq with⟨Bk,rfl,⟨b5,b6,rfl⟩,hN⟩ | ⟨ys,x,zs,v,eps,hys,rfl,R,rfl,hR⟩
    .refine eh <| cy (d:= .bQ) rfl ⟨_,rfl,?_⟩
     have:=N.Pu hN;rw[hmm] at this;exact fin none _ this
    .have:=N.yes eps hys hR;rw[hmm] at this;exact⟨_,rfl,fin (some (x ::R)) _ this⟩
end
end K23
end
section
namespace K23
open PySem PySem.Spec PyProof.Rows L2 L3 MT
theorem vB{T o:List Nat}:subB T o=true↔∀x∈o,x∈T:=by
 unfold subB;rw[List.all_eq_true];exact⟨fun h x hx=>by have:=h x hx;simpa using this,fun h x hx=>by simpa using h x hx⟩
theorem wk{B:List Nat->Bool}{f:Us}{T o:List Nat}(h:o∈f):o∈nT B f T:=by
 unfold nT;split
 .exact h
 .split
  .exact List.mem_append_left _ h
  .exact h
theorem n6{B:List Nat->Bool}:∀(xs:Us) {f:Us} {o:List Nat},o∈f->o∈xs.foldl (nT B) f
 | [],_,_,h=>h
 | x ::xs,f,o,h=>by rw[List.foldl_cons];exact n6 xs (wk h)
theorem wy{B:List Nat->Bool}:∀(xs f:Us) {T:List Nat},T∈xs->B T=true->∃o∈xs.foldl (nT B) f,∀x∈o,x∈T
 | x ::xs,f,T,h,hB=>by
   rw[List.foldl_cons];rcases List.mem_cons.mp h with rfl | h
   .by_cases q:f.any (subB T)=true
    .obtain⟨o,ho,hs⟩:=List.any_eq_true.mp q;exact⟨o,n6 xs (wk ho),vB.mp hs⟩
    .refine⟨T,n6 xs ?_,fun x hx=>hx⟩
     unfold nT;rw[if_neg q,if_pos hB];exact List.mem_append_right _ (List.mem_singleton.mpr rfl)
   .exact wy xs _ h hB
theorem vM{B:List Nat->Bool}:∀(xs f:Us) {T:List Nat},T∈xs.foldl (nT B) f->T∈f\/∃ys zs,xs=ys++T ::zs/\B T=true/\(ys.foldl (nT B) f).any (subB T)=false
 | [],f,T,h=> .inl h
 | x ::xs,f,T,h=>by
   rw[List.foldl_cons] at h;rcases vM xs _ h with q | ⟨ys,zs,e,hB,hn⟩
   .unfold nT at q;split at q
    .exact .inl q
    .rename_i hany;split at q
     .rename_i hBx;rcases List.mem_append.mp q with z | z
      .exact .inl z
      .rw [List.mem_singleton.mp z];exact .inr ⟨[],xs,rfl,hBx,by cases hq:f.any (subB x) with | false=>exact hq | true=>exact absurd hq hany⟩
     .exact .inl q
   .exact .inr ⟨x ::ys,zs,by rw[e];rfl,hB,by rw[List.foldl_cons];exact hn⟩
theorem rL{free T:List Nat}{m:Nat}:T∈mN free m↔T.Sublist free/\T.length<=m:=by
 unfold mN;rw[List.mem_flatMap];constructor
 .rintro⟨s,hs,h⟩;rw[List.mem_range] at hs;exact⟨rh s free T h,by rw[(iu h).1];omega⟩
 .rintro⟨h1,h2⟩;exact⟨T.length,List.mem_range.mpr (by omega),zV h1⟩
theorem px(free:List Nat):∀m,(mN free m).Pairwise (fun a b=>a.length<=b.length)
 | 0=>by show([[]]:Us).Pairwise _;simp
 | m+1=>by
   rw[t4,List.pairwise_append];refine⟨px free m,?_,fun a ha b hb=>?_⟩
   .refine List.pairwise_iff_forall_sublist.mpr fun {a b} Kd=>?_
    have ha:=Kd.subset (List.mem_cons_self);have hb:=Kd.subset (List.mem_cons_of_mem _ (List.mem_singleton.mpr rfl));rw[(iu ha).1,(iu hb).1];omega
   .rw [(iu hb).1];have:=(rL.mp ha).2;omega
theorem vJ{B:List Nat->Bool}{free:List Nat}{m:Nat}{T:List Nat}(h:T∈pR B (mN free m)):T.Sublist free/\T.length<=m/\B T=true/\∀R:List Nat,R.Sublist T->R.length < T.length->B R=false:=by
 rcases vM _ [] h with q | ⟨ys,zs,e,hB,hn⟩
 .cases q
 have hT:T∈mN free m:=by rw[e];simp
 obtain⟨h1,h2⟩:=rL.mp hT;refine⟨h1,h2,hB,fun R hR hl=>?_⟩
 cases hBR:B R with
 | false=>rfl
 | true=>
   have hRA:R∈mN free m:=rL.mpr ⟨hR.trans h1,by omega⟩
   have hso:=px free m;rw[e] at hRA hso;have hRy:R∈ys:=by
    rcases List.mem_append.mp hRA with q | q
    .exact q
    .exfalso
     have h3:=(List.pairwise_append.mp hso).2.1;rcases List.mem_cons.mp q with rfl | q
     .omega
     .have:=(List.pairwise_cons.mp h3).1 R q;omega
   obtain⟨o,ho,hoR⟩:=wy ys [] hRy hBR;have:(ys.foldl (nT B) []).any (subB T)=true:=List.any_eq_true.mpr ⟨o,ho,vB.mpr fun x hx=>hR.subset (hoR x hx)⟩
   rw[hn] at this;cases this
section
variable {c:Nat} {ins:Uq} {gs:List Gt} {os:Ur} {safe:Bool} {S:aD} {m:Nat}
theorem Gu{p:Nat}(GG:∀x∈os,∀p,(pt (Wd c ins gs [] []) x p).2=!(pt (Wd c ins gs [] []) x p).1):Jx safe c ins gs os (nZ []) p=false:=by
 show(os.any fun x=>brk safe (pt (Wd c ins gs [] []) x p) (pt (Wd c ins gs [] []) x p))=false
 rw[List.any_eq_false];intro x hx;have h:=GG x hx p;generalize pt (Wd c ins gs [] []) x p=A at h ⊢;obtain⟨a,b⟩:=A;have h:b=!a:=h;subst h;cases a <;> cases safe <;> decide
theorem Ht(GG:∀x∈os,∀p,(pt (Wd c ins gs [] []) x p).2=!(pt (Wd c ins gs [] []) x p).1):BT safe c ins gs os []=false:=by
 unfold BT;rw[decide_eq_true (jy.mpr fun p _=>Gu GG)];rfl
theorem Dj{free:List Nat}(GG:∀x∈os,∀p,(pt (Wd c ins gs [] []) x p).2=!(pt (Wd c ins gs [] []) x p).1)(hs:free.Pairwise (· < ·))(hu:(jI gs).Sublist free):Good free (pL safe c ins gs os m):=by
 refine⟨hs,fun G hG=>?_⟩
 obtain⟨h1,_,h3,_⟩:=vJ hG;refine⟨fun e=>?_,h1.trans hu⟩
 subst e;rw[Ht GG] at h3;cases h3
theorem Gh(hg:gs.length<=40)(hm:m<=3):(pL safe c ins gs os m).length<=256000:=by
 have h1:=qx (BT safe c ins gs os) (mN (jI gs) m) [];have h2:=qN (free:=jI gs) (Nat.le_trans uX hg) m hm;have h3:(m+1)*64000<=4*64000:=Nat.mul_le_mul_right _ (by omega)
 unfold pL pR;simp only[List.length_nil] at h1;omega
structure SU (free:List Nat) (F:Us) (T0:List Nat):Prop where
 sub:T0.Sublist free
 hit:iY F T0=true
 min:∀T:List Nat,T.Sublist free->iY F T=true->T0.length<=T.length
 fst:iy free T0.length F=some T0
def vE(nt mm lv gr:D)(mo pl:D):DE:=[some (.d nt),some (.d mm),some (.d lv),some (.d gr),some (.d mo),some (.d pl)]
theorem t5{nt mm lv:D}{free:List Nat}{F:Us}(hG:Good free F)(hf:free.length<=40)(hl:F.length<=300000)(hS:mX S):∀(n k:Nat) (r:Option (List Nat)),free.length < n+k->Ew free F k r->(∀T:List Nat,T.Sublist free->iY F T=true->k<=T.length)->
 W3 (ki (bP (b2 Mr (af 5) (eC .bQ))) mO n (vE nt mm lv (pV F) (nI k) (rD r)) S) fun o S1=>S1=S/\∃T0 k',o= .nx (vE nt mm lv (pV F) (nI k') (bM T0))/\SU free F T0
 | 0,k,r,hn,hr,sM=>by
   exfalso
   have hall:iY F free=true:=dW.mpr fun G vn=>by
    obtain⟨h1,h2⟩:=hG.g G vn;obtain⟨x,hx⟩:=List.exists_mem_of_ne_nil _ h1;exact⟨x,hx,h2.subset hx⟩
   have:=sM free (List.Sublist.refl _) hall;omega
 | n+1,k,r,hn,hr,sM=>by
   unfold ki;cases r with
   | some T0=>
     refine W3.bind (ny (b:=false) rfl ?_);rw[if_neg (by decide)]
     obtain⟨h1,h2,h3,h4⟩:=hr;have hk:k=T0.length:=by have:=sM T0 h1 h2;omega
     exact W3.ok ⟨rfl,T0,k,rfl,h1,h2,fun T hT hh=>by rw[<-hk];exact sM T hT hh,by rw[<-hk];exact h4 sM⟩
   | none=>
     refine W3.bind (ny (b:=true) rfl ?_);rw[if_pos rfl];have hall:iY F free=true:=dW.mpr fun G vn=>by
      obtain⟨h1,h2⟩:=hG.g G vn;obtain⟨x,hx⟩:=List.exists_mem_of_ne_nil _ h1;exact⟨x,hx,h2.subset hx⟩
     have hkf:k < free.length:=hr free (List.Sublist.refl _) hall;unfold mO;refine W3.bind ?_;refine aT <| bA (by unfold vE;simp only[List.length_cons,List.length_nil];omega) <| cy (d:=nI (k+1)) (ay (a:=nI k) (b:= .int 1) rfl rfl rfl) ⟨_,rfl,?_⟩
     refine bA (by unfold vE;simp only[List.length_cons,List.length_nil,List.length_set];omega) <| eF <| aG <| cy (d:=pV F) rfl <| aG <| cy (d:=nI (k+1)) rfl <| cA <| CB 42 (k+1) (by omega) free F S hG (by omega) hl hS _ fun r' SJ=>?_
     show W3 (ki _ _ n (vE nt mm lv (pV F) (nI (k+1)) (rD r')) S) _;exact t5 hG hf hl hS n (k+1) r' (by omega) SJ fun T hT hh=>hr T hT hh
theorem A4{free:List Nat}(NO:l8 ins gs os)(hc:ins.length=c)(vz:c<=10)(ho:∀x∈os,1<=x.2.length/\x.2.length<=3)(GG:∀x∈os,∀p,(pt (Wd c ins gs [] []) x p).2=!(pt (Wd c ins gs [] []) x p).1)(hg:gs.length<=40)(hm:m<=3)(hs:free.Pairwise (· < ·))(hG:Good free (pL safe c ins gs os m))(hf:free.length<=40)(hS:mX S){Q:V3->aD->Prop}
 (h:∀T0,SU free (pL safe c ins gs os m) T0->Q (.d (bM T0)) S):W3 (oE [.d (bV ins gs os), .d (nI m), .d (.str (n4 safe))] S) Q:=by
 have hz:sizeLine=16777216:=sizeLine_eq;have hl:(pL safe c ins gs os m).length<=256000:=Gh (by omega) hm
 unfold oE;refine l4 hS (xq rfl ?_);simp only[cg,k6,List.map,List.length,List.replicate,List.cons_append,List.nil_append,Nat.reduceAdd,Nat.reduceSub];unfold qU;refine aT <| bA (by simp) <| pX (fun j ds S2=>S2=S/\ds=((pL safe c ins gs os m).take j).map gD) (pZ <| eF <| aG <| cy (d:=bV ins gs os) rfl <| aG <| cy (d:=nI m) rfl <| aG <| cy (d:= .str (n4 safe)) rfl <| cA <| qi NO hc vz ho (by omega) hm hS ⟨_,rfl,by rw[List.length_map,List.length_map];omega,⟨rfl,by simp⟩,?_,?_⟩)
 .rintro j v ds S2 hv ⟨rfl,rfl⟩;obtain⟨T,hT,rfl⟩:=NT.iE hv;refine⟨[some (.d (bM T))],rfl,zg ?_⟩;rw[if_pos rfl];refine cy (d:=gD T) (aM (ds:=[bM T]) rfl rfl) ⟨_,rfl,rfl,?_⟩;rw[List.take_add_one,hT,List.map_append];rfl
 .rintro ds S2 ⟨rfl,rfl⟩;rw[List.length_map,List.length_map,List.take_length];generalize pL safe c ins gs os m=F at hG hl h;refine⟨_,rfl,?_⟩;simp only[List.set];refine aT <| bA (by simp) <| cy (d:=nI 0) rfl ⟨_,rfl,?_⟩
  simp only[List.set];refine aT <| bA (by simp) <| eF <| aG <| cy (d:=pV F) rfl <| aG <| cy (d:=nI 0) rfl <| cA <| CB 42 0 (by omega) free F _ hG (by omega) (by omega) hS _ fun r hr=>⟨_,rfl,?_⟩
  simp only[List.set];refine aT ?_;unfold yD;refine(t5 (nt:=bV ins gs os) (mm:=nI m) (lv:= .str (n4 safe)) hG hf (by omega) hS 1000 0 r (by omega) hr fun T _ _=>by omega).mono fun o S3 ⟨eS,T0,k',eo,hSU⟩=>⟨_,eo,?_⟩
  subst eS;unfold vE;exact eh <| cy (d:=bM T0) rfl ⟨_,rfl,by unfold eL;rfl,⟨[],by simp⟩,_,by unfold res;rfl,h T0 hSU⟩
end
end K23
end
section
set_option maxHeartbeats 400000
namespace K23
open PySem PySem.Spec PyProof.Rows L2 L3 MT
def df:Nat->(Nat->Bool)->Bool
 | 0,_=>false
 | N+1,f=>df N f !=f N
theorem iO{f g:Nat->Bool}:∀{N:Nat},(∀z,z < N->f z=g z)->df N f=df N g
 | 0,_=>rfl
 | N+1,h=>by unfold df;rw [iO (N:=N) fun z hz=>h z (by omega),h N (by omega)]
theorem jC{f:Nat->Bool}:∀{N:Nat},(∀z,z < N->f z=false)->df N f=false
 | 0,_=>rfl
 | N+1,h=>by unfold df;rw [jC (N:=N) fun z hz=>h z (by omega),h N (by omega)];rfl
theorem rk{f:Nat->Bool}:∀{N x:Nat},x < N->df N (fun z=>(z==x) && f z)=f x
 | 0,x,h=>absurd h (by omega)
 | N+1,x,h=>by
   unfold df;by_cases e:x=N
   .subst e;rw[jC fun z hz=>by rw[beq_eq_false_iff_ne.mpr (by omega)];rfl]
    show(false !=((x==x) && f x))=f x;rw[beq_self_eq_true,Bool.true_and];cases f x <;> rfl
   .rw [rk (N:=N) (by omega)]
    show(f x !=((N==x) && f N))=f x;rw[beq_eq_false_iff_ne.mpr (Ne.symm e)];cases f x <;> rfl
theorem qI{f g:Nat->Bool}{a:Bool}{z0:Nat}:∀{N:Nat},z0 < N->(∀z,z < N->z≠z0->g z=f z)->g z0=(f z0 !=a)->df N g=(df N f !=a)
 | 0,h,_,_=>absurd h (by omega)
 | N+1,h,h1,h2=>by
   unfold df;by_cases e:z0=N
   .subst e;rw[iO (N:=z0) fun z hz=>h1 z (by omega) (by omega),h2]
    cases df z0 f <;> cases f z0 <;> cases a <;> rfl
   .rw [qI (N:=N) (by omega) (fun z hz oP=>h1 z (by omega) oP) h2,h1 N (by omega) (Ne.symm e)]
    cases df N f <;> cases f N <;> cases a <;> rfl
def vy(F:List M)(z:Nat)(g:M):List M:=F.set z fun k=>cm F z k !=g k
theorem p9(F:List M)(z:Nat)(g:M):(vy F z g).length=F.length:=by unfold vy;rw [List.length_set]
theorem qp{F:List M}{z:Nat}(g:M)(h:z < F.length):cm (vy F z g) z=fun k=>cm F z k !=g k:=by
 unfold vy;show(F.set z _).getD z _=_;rw[List.getD_eq_getElem?_getD,List.getElem?_set_self h];rfl
theorem rn{F:List M}{z y:Nat}(g:M)(h:y≠z):cm (vy F z g) y=cm F y:=by
 unfold vy;show(F.set z _).getD y _=F.getD y _;rw[List.getD_eq_getElem?_getD,List.getD_eq_getElem?_getD,List.getElem?_set_ne (Ne.symm h)]
def ja(n j:Nat)(F:List M)(ws:List Nat):List M:=ws.foldl (fun F w=>vy F w (cm F (n+j))) F
theorem ot(n j:Nat):∀(ws:List Nat) (F:List M),(ja n j F ws).length=F.length
 | [],_=>rfl
 | w ::ws,F=>(ot n j ws _).trans (p9 _ _ _)
def xr(d:Nat->Bool):List Nat->Bool
 | []=>false
 | w ::ws=>d w !=xr d ws
theorem oK{n j:Nat}:∀{ws:List Nat} {F:List M} {y:Nat},(∀w∈ws,w < n+j)->n+j<=y->cm (ja n j F ws) y=cm F y
 | [],_,_,_,_=>rfl
 | w ::ws,F,y,h,hy=>by
   show cm (ja n j (vy F w (cm F (n+j))) ws) y=_;have:=h w List.mem_cons_self;rw[oK (fun v hv=>h v (List.mem_cons_of_mem _ hv)) hy,rn _ (by omega)]
theorem t8{n j k:Nat}{d:Nat->Bool}:∀{ws:List Nat} {F:List M},(∀w∈ws,w < n+j)->n+j < F.length->df (n+j) (fun z=>cm (ja n j F ws) z k && d z)=(df (n+j) (fun z=>cm F z k && d z) !=(cm F (n+j) k && xr d ws))
 | [],F,_,_=>by
   show df _ _=(_ !=(_ && false));rw[Bool.and_false];show df (n+j) (fun z=>cm F z k && d z)=(df (n+j) (fun z=>cm F z k && d z) !=false)
   cases df (n+j) (fun z=>cm F z k && d z) <;> rfl
 | w ::ws,F,h,hl=>by
   have hw:=h w List.mem_cons_self;show df (n+j) (fun z=>cm (ja n j (vy F w (cm F (n+j))) ws) z k && d z)=_
   rw[t8 (fun v hv=>h v (List.mem_cons_of_mem _ hv)) (by rw[p9];exact hl),rn _ (by omega:n+j≠w)]
   rw[qI (f:=fun z=>cm F z k && d z) (a:=cm F (n+j) k && d w) hw (fun z hz oP=>by rw[rn _ oP]) (by
    rw[qp _ (by omega)]
    show((cm F w k !=cm F (n+j) k) && d w)=_;cases cm F w k <;> cases cm F (n+j) k <;> cases d w <;> rfl)]
   show _=(_ !=(cm F (n+j) k && (d w !=xr d ws)));cases df (n+j) (fun z=>cm F z k && d z) <;> cases cm F (n+j) k <;> cases d w <;> cases xr d ws <;> rfl
def gq(n:Nat)(gs:List Gt):Nat->List M->List M
 | 0,F=>F
 | m+1,F=>match gs[gs.length - 1 - m]? with | some g=>ja n (gs.length - 1 - m) (gq n gs m F) g.2.1 | none=>gq n gs m F
theorem jU(n:Nat)(gs:List Gt):∀m F,(gq n gs m F).length=F.length
 | 0,_=>rfl
 | m+1,F=>by
   unfold gq;split
   .rw [ot,jU n gs m F]
   .exact jU n gs m F
section
variable {n:Nat} {gs:List Gt} {F:List M} {d:Nat->Bool} {t:Nat->Bool} {k:Nat}
theorem wL(hF:F.length=n+gs.length)(hw:∀(i:Nat) (g:Gt),gs[i]? =some g->∀w∈g.2.1,w < n+i)(hd:∀(i:Nat) (g:Gt),gs[i]? =some g->d (n+i)=(xr d g.2.1 !=t i)) :
 ∀m,m<=gs.length->(df (n+(gs.length - m)) (fun z=>cm (gq n gs m F) z k && d z) !=df gs.length (fun i=>decide (gs.length - m<=i) && (cm (gq n gs m F) (n+i) k && t i)))=df (n+gs.length) (fun z=>cm F z k && d z)
 | 0,_=>by
   rw[Nat.sub_zero,jC (f:=fun i=>decide (gs.length<=i) && _) fun z hz=>by rw[decide_eq_false (by omega)];rfl]
   show(df _ _ !=false)=_;show(df (n+gs.length) (fun z=>cm F z k && d z) !=false)=_
   cases df (n+gs.length) (fun z=>cm F z k && d z) <;> rfl
 | m+1,hm=>by
   have ih:=wL hF hw hd m (by omega)
   rw[<-ih];have hgi:gs[gs.length - 1 - m]? =some gs[gs.length - 1 - m]:=List.getElem?_eq_getElem (by omega)
   have hwi:=hw _ _ hgi;have e1:n+(gs.length - m)=n+(gs.length - 1 - m)+1:=by omega
   have e2:n+(gs.length - (m+1))=n+(gs.length - 1 - m):=by omega
   have hb:gq n gs (m+1) F=ja n (gs.length - 1 - m) (gq n gs m F) gs[gs.length - 1 - m].2.1:=by conv=>lhs;unfold gq;rw [hgi]
   generalize hB:gq n gs m F=B at ih hb;have hBl:B.length=n+gs.length:=by rw[<-hB,jU,hF]
   rw[e1,e2,hb,t8 hwi (by omega)]
   show _=((df (n+(gs.length - 1 - m)) (fun z=>cm B z k && d z) !=(cm B (n+(gs.length - 1 - m)) k && d (n+(gs.length - 1 - m)))) !=_)
   rw[hd _ _ hgi];have e3:df gs.length (fun i=>decide (gs.length - (m+1)<=i) && (cm (ja n (gs.length - 1 - m) B gs[gs.length - 1 - m].2.1) (n+i) k && t i))=(df gs.length (fun i=>decide (gs.length - m<=i) && (cm B (n+i) k && t i)) !=(cm B (n+(gs.length - 1 - m)) k && t (gs.length - 1 - m))):=by
    refine qI (z0:=gs.length - 1 - m) (by omega) (fun z hz oP=>?_) ?_
    .by_cases q:gs.length - m<=z
     .rw [decide_eq_true q,decide_eq_true (by omega),oK hwi (by omega)]
     .rw [decide_eq_false q,decide_eq_false (by omega)];rfl
    .rw [decide_eq_true (by omega),decide_eq_false (by omega),oK hwi (Nat.le_refl _)]
     show(true && _)=((false && _) !=_);rw[Bool.true_and,Bool.false_and];cases(cm B (n+(gs.length - 1 - m)) k && t (gs.length - 1 - m)) <;> rfl
   rw[e3];cases df (n+(gs.length - 1 - m)) (fun z=>cm B z k && d z) <;> cases cm B (n+(gs.length - 1 - m)) k <;> cases xr d gs[gs.length - 1 - m].2.1 <;> cases t (gs.length - 1 - m) <;> cases df gs.length (fun i=>decide (gs.length - m<=i) && (cm B (n+i) k && t i)) <;> rfl
end
end K23
end
section
namespace K23
open PySem PySem.Spec PyProof.Rows L2 L3 MT
section
variable {c m:Nat} {ins:Uq} {gs:List Gt} {os:Ur} {safe:Bool}
structure Pl (c:Nat) (ins:Uq) (gs:List Gt) (os:Ur):Prop where
 no:l8 ins gs os
 hc:ins.length=c
 w1:∀x∈ins,x.2=1
 o1:∀x∈os,∃w,x.2=[w]
theorem Pl.mY(P:Pl c ins gs os):MT.mY ins=ins.length:=by rw[yi P.w1,Nat.one_mul]
theorem Pl.g(P:Pl c ins gs os)(i:Nat)(g:Gt)(h:gs[i]? =some g):uC (ins.length+i) g:=by
 have:=P.no.g i g h;rw[P.mY] at this;exact this
def wv(c:Nat)(ins:Uq)(gs:List Gt)(T:List Int)(w p:Nat):Bool:=cm (Wd c ins gs T []) w p
theorem DA{x:Str × List Nat}{w p:Nat}{T:List Int}(hw:x.2=[w]):pt (Wd c ins gs T []) x p=(!(wv c ins gs T w p),wv c ins gs T w p):=by
 unfold pt tell;rw[hw];rfl
theorem mr{α:Type}{f g:α->Bool}:∀{xs:List α},(∀x∈xs,f x=g x)->xs.any f=xs.any g
 | [],_=>rfl
 | x ::xs,h=>by rw[List.any_cons,List.any_cons,h x List.mem_cons_self,mr fun y hy=>h y (List.mem_cons_of_mem _ hy)]
theorem LD(P:Pl c ins gs os){T:List Int}{p:Nat}:Jx safe c ins gs os T p=os.any fun x=>wv c ins gs T (x.2.getD 0 0) p !=wv c ins gs [] (x.2.getD 0 0) p:=by
 unfold Jx;refine mr fun x hx=>?_
 obtain⟨w,hw⟩:=P.o1 x hx;rw[DA hw,DA hw,hw];show brk safe _ _=(wv c ins gs T w p !=wv c ins gs [] w p);cases wv c ins gs [] w p <;> cases wv c ins gs T w p <;> cases safe <;> rfl
def dN(N:Nat)(os:Ur):Nat->List M
 | 0=>List.replicate N fun _=>false
 | k+1=>match os[k]? with | some x=>vy (dN N os k) (x.2.getD 0 0) (fun i=>i==k) | none=>dN N os k
theorem fG(N:Nat)(os:Ur):∀k,(dN N os k).length=N
 | 0=>by unfold dN;rw [List.length_replicate]
 | k+1=>by
   unfold dN;split
   .rw [p9,fG N os k]
   .exact fG N os k
theorem zD{N:Nat}(h:∀x∈os,x.2.getD 0 0 < N):∀k,k<=os.length->∀z,z < N->∀i,cm (dN N os k) z i=(decide (i < k) && (match os[i]? with | some x=>x.2.getD 0 0==z | none=>false))
 | 0,_,z,hz,i=>by
   unfold dN;show((List.replicate N (fun _=>false):List M).getD z (fun _=>false)) i=_
   rw[List.getD_eq_getElem?_getD,List.getElem?_replicate,if_pos hz];rfl
 | k+1,hk,z,hz,i=>by
   have hk2:os[k]? =some os[k]:=List.getElem?_eq_getElem (by omega)
   have ih:=zD h k (by omega) z hz i
   conv=>lhs;unfold dN
   rw[hk2];show cm (vy (dN N os k) (os[k].2.getD 0 0) (fun i=>i==k)) z i=_
   have Eb:=h os[k] (List.getElem_mem _);by_cases e:z=os[k].2.getD 0 0
   .rw [e,qp _ (by rw[fG];exact Eb)]
    show(cm (dN N os k) (os[k].2.getD 0 0) i !=(i==k))=_;rw[<-e,ih];by_cases q:i=k
    .subst q;rw[decide_eq_false (by omega),decide_eq_true (by omega),beq_self_eq_true,hk2,e]
     show(false !=true)=(true && (_==_));rw[beq_self_eq_true];rfl
    .rw [beq_eq_false_iff_ne.mpr q,show decide (i < k+1)=decide (i < k) by rw[Bool.eq_iff_iff,decide_eq_true_iff,decide_eq_true_iff];omega]
     cases(decide (i < k) && (match os[i]? with | some x=>x.2.getD 0 0==z | none=>false)) <;> rfl
   .rw [rn _ e,ih];by_cases q:i=k
    .subst q;rw[decide_eq_false (by omega),decide_eq_true (by omega),hk2]
     show(false && _)=(true && (os[i].2.getD 0 0==z));rw[beq_eq_false_iff_ne.mpr (Ne.symm e)];rfl
    .rw [show decide (i < k+1)=decide (i < k) by rw[Bool.eq_iff_iff,decide_eq_true_iff,decide_eq_true_iff];omega]
def G3(gs:List Gt):Prop:=∀g∈gs,g.1=0\/g.1=3
def qH(ins:Uq)(gs:List Gt)(os:Ur):List M:=gq ins.length gs gs.length (dN (ins.length+gs.length) os os.length)
def fin(ins:Uq)(gs:List Gt)(os:Ur)(i:Nat):M:=cm (qH ins gs os) (ins.length+i)
theorem Pl.ow(P:Pl c ins gs os):∀x∈os,x.2.getD 0 0 < ins.length+gs.length:=fun x hx=>by
 obtain⟨w,hw⟩:=P.o1 x hx;have:=(P.no.o x hx).2 w (by rw[hw];simp)
 rw[P.mY] at this;rw[hw];exact this
theorem yZ(P:Pl c ins gs os)(L:G3 gs){T:List Int}{p k:Nat}{x:Str × List Nat}(hx:os[k]? =some x):(wv c ins gs T (x.2.getD 0 0) p !=wv c ins gs [] (x.2.getD 0 0) p)=df gs.length (fun i=>fin ins gs os i k && T.contains (i:Int)):=by
 have hb:(sr c).length=ins.length:=by rw[vD,P.hc]
 have hk:k < os.length:=(List.getElem?_eq_some_iff.mp hx).1;have JQ:∀z,z < ins.length->(wv c ins gs T z p !=wv c ins gs [] z p)=false:=fun z hz=>by
  unfold wv;rw[GU hb (by rw[P.mY];exact hz),GU hb (by rw[P.mY];exact hz)]
  cases cm (fv ins (sr c) [] ins.length) z p <;> rfl
 have hdg:∀(i:Nat) (g:Gt),gs[i]? =some g->(wv c ins gs T (ins.length+i) p !=wv c ins gs [] (ins.length+i) p)=(xr (fun z=>wv c ins gs T z p !=wv c ins gs [] z p) g.2.1 !=T.contains (i:Int)):=fun i g hg=>by
  have h1:=zL (p:=p) (T:=T) (bad:=[]) hb hg (by rw[P.mY];exact P.g i g hg)
  have h0:=zL (p:=p) (T:=[]) (bad:=[]) hb hg (by rw[P.mY];exact P.g i g hg)
  rw[P.mY] at h1 h0;have hl:=(P.g i g hg).2.1;unfold wv;rw[h1,h0];obtain⟨kd,ws,s⟩:=g;rcases L _ (List.mem_of_getElem? hg) with e | e
  .have e:kd=0:=e;subst e;obtain⟨a,rfl⟩:=List.length_eq_one_iff.mp hl;show(((!(cm (Wd c ins gs T []) a p)) !=T.contains (i:Int)) !=((!(cm (Wd c ins gs [] []) a p)) !=false))=((((cm (Wd c ins gs T []) a p) !=(cm (Wd c ins gs [] []) a p)) !=false) !=T.contains (i:Int));cases cm (Wd c ins gs T []) a p <;> cases cm (Wd c ins gs [] []) a p <;> cases T.contains (i:Int) <;> rfl
  .have e:kd=3:=e;subst e
   match ws,hl with
   | [a,b],_=>
     show(((cm (Wd c ins gs T []) a p !=cm (Wd c ins gs T []) b p) !=T.contains (i:Int)) !=((cm (Wd c ins gs [] []) a p !=cm (Wd c ins gs [] []) b p) !=false))=((((cm (Wd c ins gs T []) a p) !=(cm (Wd c ins gs [] []) a p)) !=(((cm (Wd c ins gs T []) b p) !=(cm (Wd c ins gs [] []) b p)) !=false)) !=T.contains (i:Int));cases cm (Wd c ins gs T []) a p <;> cases cm (Wd c ins gs T []) b p <;> cases cm (Wd c ins gs [] []) a p <;> cases cm (Wd c ins gs [] []) b p <;> cases T.contains (i:Int) <;> rfl
 have key:=wL (n:=ins.length) (gs:=gs) (F:=dN (ins.length+gs.length) os os.length) (d:=fun z=>wv c ins gs T z p !=wv c ins gs [] z p) (t:=fun i=>T.contains (i:Int)) (k:=k) (fG _ _ _) (fun i g hg w hw=>(P.g i g hg).2.2 w hw) hdg gs.length (Nat.le_refl _)
 rw[Nat.sub_self,Nat.add_zero,jC fun z hz=>by rw[JQ z hz,Bool.and_false]] at key
 have hR:df (ins.length+gs.length) (fun z=>cm (dN (ins.length+gs.length) os os.length) z k && (wv c ins gs T z p !=wv c ins gs [] z p))=(wv c ins gs T (x.2.getD 0 0) p !=wv c ins gs [] (x.2.getD 0 0) p):=by
  rw[<-rk (f:=fun z=>wv c ins gs T z p !=wv c ins gs [] z p) (P.ow x (List.mem_of_getElem? hx))]
  refine iO fun z hz=>?_
  rw[zD P.ow _ (Nat.le_refl _) z hz,decide_eq_true hk,hx];show((true && (x.2.getD 0 0==z)) && _)=((z==x.2.getD 0 0) && _);rw[Bool.true_and,show(x.2.getD 0 0==z)=(z==x.2.getD 0 0) by rw[Bool.eq_iff_iff,beq_iff_eq,beq_iff_eq];exact⟨Eq.symm,Eq.symm⟩]
 rw[hR] at key;rw[<-key];show(false !=df _ _)=_;have:df gs.length (fun i=>decide (0<=i) && (cm (gq ins.length gs gs.length (dN (ins.length+gs.length) os os.length)) (ins.length+i) k && T.contains (i:Int)))=df gs.length (fun i=>fin ins gs os i k && T.contains (i:Int)):=iO fun i _=>by rw[decide_eq_true (by omega),Bool.true_and];rfl
 rw[this];cases df gs.length (fun i=>fin ins gs os i k && T.contains (i:Int)) <;> rfl
def G5(K:Nat)(F:List M):Prop:=∀z k,K<=k->cm F z k=false
theorem G5.ad{K:Nat}{F:List M}(h:G5 K F){z:Nat}{g:M}(hg:∀k,K<=k->g k=false):G5 K (vy F z g):=fun y k hk=>by
 by_cases e:y=z
 .subst e;by_cases hl:y < F.length
  .rw [qp _ hl];show(cm F y k !=g k)=false;rw[h y k hk,hg k hk];rfl
  .show(vy F y g).getD y _ k=false;rw[List.getD_eq_getElem?_getD,List.getElem?_eq_none (by rw[p9];omega)];rfl
 .rw [rn _ e];exact h y k hk
theorem qS(N:Nat):∀k,G5 os.length (dN N os k)
 | 0=>fun z k _=>by
   unfold dN;show((List.replicate N (fun _=>false):List M).getD z (fun _=>false)) k=false
   rw[List.getD_eq_getElem?_getD,List.getElem?_replicate];split <;> rfl
 | k+1=>by
   unfold dN;split
   .rename_i x hx;have:=(List.getElem?_eq_some_iff.mp hx).1;exact(qS N k).ad fun i hi=>beq_eq_false_iff_ne.mpr (by omega)
   .exact qS N k
theorem vF{K n j:Nat}:∀{ws:List Nat} {F:List M},G5 K F->G5 K (ja n j F ws)
 | [],_,h=>h
 | w ::ws,F,h=>vF (ws:=ws) (h.ad fun k hk=>h _ k hk)
theorem ql{K n:Nat}{F:List M}(h:G5 K F):∀m,G5 K (gq n gs m F)
 | 0=>h
 | m+1=>by
   unfold gq;split
   .exact vF (ql h m)
   .exact ql h m
theorem ER{i k:Nat}(h:os.length<=k):fin ins gs os i k=false:=ql (qS _ _) _ _ _ h
def nz(ins:Uq)(gs:List Gt)(os:Ur)(i:Nat):Bool:=(List.range os.length).any (fin ins gs os i)
theorem G4(P:Pl c ins gs os)(L:G3 gs){T:List Int}{p:Nat}:Jx safe c ins gs os T p=(List.range os.length).any fun k=>df gs.length fun i=>fin ins gs os i k && T.contains (i:Int):=by
 rw[LD P,Bool.eq_iff_iff,List.any_eq_true,List.any_eq_true];constructor
 .rintro⟨x,hx,h⟩;obtain⟨k,hk⟩:=List.getElem?_of_mem hx;exact⟨k,List.mem_range.mpr (List.getElem?_eq_some_iff.mp hk).1,by rw[<-yZ (p:=p) P L hk];exact h⟩
 .rintro⟨k,hk,h⟩;have hk:=List.mem_range.mp hk;have hok:os[k]? =some os[k]:=List.getElem?_eq_getElem hk;exact⟨os[k],List.getElem_mem _,by rw[yZ (p:=p) P L hok];exact h⟩
theorem GS(P:Pl c ins gs os)(L:G3 gs){T:List Nat}:BT safe c ins gs os T=(List.range os.length).any fun k=>df gs.length fun i=>fin ins gs os i k && (nZ T).contains (i:Int):=by
 unfold BT;cases q:(List.range os.length).any fun k=>df gs.length fun i=>fin ins gs os i k && (nZ T).contains (i:Int) with
 | false=>rw [decide_eq_true (jy.mpr fun p _=>by rw[G4 P L];exact q)];rfl
 | true=>
   rw[decide_eq_false fun h=>?_]
   .rfl
   .have h0:=jy.mp h 0 (Nat.two_pow_pos c);rw[G4 P L,q] at h0;cases h0
theorem IS(P:Pl c ins gs os)(L:G3 gs){x:Nat}(hx:x < gs.length):BT safe c ins gs os [x]=nz ins gs os x:=by
 rw[GS P L];unfold nz;refine mr fun k _=>?_
 rw[<-rk (f:=fun i=>fin ins gs os i k) hx]
 refine iO fun i _=>?_
 rw[uU];show(fin ins gs os i k && [x].contains i)=((i==x) && fin ins gs os i k);rw[Bool.and_comm,List.contains_cons,List.contains_nil,Bool.or_false]
theorem zd(P:Pl c ins gs os)(L:G3 gs){T:List Nat}(h:∀x∈T,nz ins gs os x=false):BT safe c ins gs os T=false:=by
 rw[GS P L,List.any_eq_false];intro k hk;rw[jC fun i _=>?_]
 .decide
 rw[uU];by_cases q:T.contains i=true
 .have:=h i (List.contains_iff_mem.mp q);unfold nz at this;rw[List.any_eq_false] at this;have:=this k hk;rw[Bool.eq_false_iff.mpr this];rfl
 .rw [Bool.eq_false_iff.mpr q,Bool.and_false]
def lW(ins:Uq)(gs:List Gt)(os:Ur):List Nat:=(jI gs).filter (nz ins gs os)
theorem oG{B:List Nat->Bool}:∀(xs:List Nat) (f:List Nat),(f++xs).Nodup->(xs.map fun x=>[x]).foldl (nT B) (f.map fun x=>[x])=(f++xs.filter fun x=>B [x]).map fun x=>[x]
 | [],f,_=>by simp
 | x ::xs,f,hn=>by
   have hxf:x ∉ f:=fun h=>by
    rw[List.nodup_append] at hn;exact hn.2.2 x h x List.mem_cons_self rfl
   have hany:(f.map fun x=>[x]).any (subB [x])=false:=by
    rw[List.any_map,List.any_eq_false];intro y hy;show ¬([y].all fun z=>[x].contains z)=true
    have hyx:y≠x:=fun e=>hxf (e▸hy)
    simp [hyx]
   rw[List.map_cons,List.foldl_cons];have hs:nT B (f.map fun x=>[x]) [x]=if B [x] then(f++[x]).map fun x=>[x] else f.map fun x=>[x]:=by
    unfold nT;rw[hany,if_neg (by decide),List.map_append];rfl
   rw[hs,List.filter_cons];cases B [x] with
   | true=>
     rw[if_pos rfl,if_pos rfl,oG xs (f++[x]) (by rw[List.append_assoc];exact hn),List.append_assoc];rfl
   | false=>
     rw[if_neg (by decide),if_neg (by decide)]
     exact oG xs f (by
      rw[List.nodup_append] at hn ⊢;exact⟨hn.1,(List.nodup_cons.mp hn.2.1).2,fun a ha b hb=>hn.2.2 a ha b (List.mem_cons_of_mem _ hb)⟩)
theorem tM{B:List Nat->Bool}{f:Us}:∀(xs:Us),(∀T∈xs,f.any (subB T)=true\/B T=false)->xs.foldl (nT B) f=f
 | [],_=>rfl
 | T ::xs,h=>by
   rw[List.foldl_cons];have:nT B f T=f:=by
    unfold nT;rcases h T List.mem_cons_self with q | q
    .rw [if_pos q]
    .split
     .rfl
     .rw [q];rfl
   rw[this];exact tM xs fun U hU=>h U (List.mem_cons_of_mem _ hU)
theorem F0(P:Pl c ins gs os)(L:G3 gs)(hm:1<=m):pL safe c ins gs os m=(lW ins gs os).map fun x=>[x]:=by
 obtain⟨m,rfl⟩:∃m',m=m'+1:=⟨m - 1,by omega⟩
 unfold pL pR;have hall:mN (jI gs) (m+1)=[[]]++((jI gs).map fun x=>[x])++((List.range m).flatMap fun s=>h_ (jI gs) (s+2)):=by
  unfold mN;rw[List.range_succ_eq_map,List.flatMap_cons,List.range_succ_eq_map,List.map_cons,List.flatMap_cons,List.map_map,List.flatMap_map,<-E6,<-List.append_assoc];rfl
 rw[hall,List.foldl_append,List.foldl_append];have h0:([[]]:Us).foldl (nT (BT safe c ins gs os)) []=[]:=by
  show nT _ [] []=[];unfold nT;rw[zd P L (by simp)]
  rfl
 rw[h0];have h1:=oG (B:=BT safe c ins gs os) (jI gs) [] (by
  show(jI gs).Nodup;exact(kf gs).imp fun h=>Nat.ne_of_lt h)
 rw[List.map_nil,List.nil_append] at h1;have h2:((jI gs).filter fun x=>BT safe c ins gs os [x])=lW ins gs os:=by
  unfold lW;exact List.filter_congr fun x hx=>IS P L (H_ hx)
 rw[h2] at h1;rw[h1];refine tM _ fun T hT=>?_
 obtain⟨s,_,hT⟩:=List.mem_flatMap.mp hT;obtain⟨_,hTu⟩:=iu hT;by_cases q:∃x∈T,nz ins gs os x=true
 .obtain⟨x,hx,hn⟩:=q;refine .inl (List.any_eq_true.mpr ⟨[x],List.mem_map.mpr ⟨x,List.mem_filter.mpr ⟨hTu x hx,hn⟩,rfl⟩,?_⟩);unfold subB;simp [hx]
 .exact .inr (zd P L fun x hx=>Bool.eq_false_iff.mpr fun h=>q ⟨x,hx,h⟩)
theorem mP:∀{ys xs:List Nat},xs.Pairwise (· < ·)->ys.Pairwise (· < ·)->(∀x∈xs,x∈ys)->xs.Sublist ys
 | [],xs,_,_,h=>by
   cases xs with
   | nil=>exact List.Sublist.refl _
   | cons x xs=>exact absurd (h x List.mem_cons_self) (by simp)
 | y ::ys,[],_,_,_=>List.nil_sublist _
 | y ::ys,x ::xs,hx,hy,h=>by
   have Ea:=List.pairwise_cons.mp hx;have JV:=List.pairwise_cons.mp hy;rcases List.mem_cons.mp (h x List.mem_cons_self) with e | e
   .subst e;refine List.Sublist.cons_cons x (mP Ea.2 JV.2 fun z hz=>?_)
    rcases List.mem_cons.mp (h z (List.mem_cons_of_mem _ hz)) with q | q
    .have:=Ea.1 z hz;omega
    .exact q
   .refine List.Sublist.cons y (mP hx JV.2 fun z hz=>?_)
    rcases List.mem_cons.mp (h z hz) with q | q
    .have h1:=JV.1 x e;rcases List.mem_cons.mp hz with r | r
     .omega
     .have:=Ea.1 z r;omega
    .exact q
theorem HA{T0:List Nat}(h:SU (jI gs) ((lW ins gs os).map fun x=>[x]) T0):T0=lW ins gs os:=by
 have hso:=kf gs;have hd:(lW ins gs os).Sublist (jI gs):=List.filter_sublist;have hin:∀x∈lW ins gs os,x∈T0:=fun x hx=>by
  obtain⟨y,hy,hyT⟩:=dW.mp h.hit [x] (List.mem_map.mpr ⟨x,hx,rfl⟩);rw[List.mem_singleton] at hy;exact hy▸hyT
 have hs:=mP (hso.sublist hd) (hso.sublist h.sub) hin;have hl:=h.min (lW ins gs os) hd (dW.mpr fun G hG=>by
  obtain⟨x,hx,rfl⟩:=List.mem_map.mp hG;exact⟨x,by simp,hx⟩)
 exact(hs.eq_of_length (Nat.le_antisymm hs.length_le hl)).symm
end
end K23
end
section
namespace K23
open PySem PySem.Spec PyProof.Rows L2 L3 MT
theorem Jr{lo:Int}{m i:Nat}{v:V3}(h:((q_ lo m).map V3.d)[i]? =some v):i < m/\v= .d (.int (lo - i)):=by
 rw[List.getElem?_map,q_,List.getElem?_map] at h;cases q:(List.range m)[i]? with
 | none=>rw [q] at h;cases h
 | some j=>
   rw[q] at h;cases h;obtain⟨q1,q2⟩:=List.getElem?_eq_some_iff.mp q;rw[List.getElem_range] at q2;rw[List.length_range] at q1;subst q2;exact⟨q1,rfl⟩
theorem Fi{k:Nat}(h:k < 6):Fm (.int 1) (nI k)= .ok (mI 6 fun i=>i==k):=by
 have e:∀k,k < 6->jO 6 (fun i=>i==k)=2 ^ k:=by decide
 unfold Fm vx nI mI;show R.bg (decide ((0:Int)<=k/\(k:Int) < 1000/\ -1000 < (1:Int)/\(1:Int) < 1000)) (.ok (D.int (1*2 ^ ((k:Int)).toNat)))=_;rw[bJ _ ⟨by omega,by omega,by omega,by omega⟩,Int.toNat_natCast,Int.one_mul,e k h]
 congr 2
theorem mk_zero:mI 6 (fun _=>false)= .int 0:=rfl
section
variable {c:Nat} {ins:Uq} {gs:List Gt} {os:Ur} {S:aD}
def uE(ins:Uq)(gs:List Gt)(os:Ur)(n:Nat)(a5 a6 a7 a8 a9:Option V3):DE:=[some (.d (bV ins gs os)),some (.d (.lst (ins.map MT.inD))),some (.d (.lst (gs.map eQ))),some (.d (.lst (os.map yu))),some (.loc n),a5,a6,a7,a8,a9]
def mS(S:aD)(F:List M):aD:=S++[SO.lst (F.map (mI 6))]
theorem n8{F:List M}:(mS S F)[S.length]? =some (.lst (F.map (mI 6))):=a_ _ _
theorem CN{F:List M}{z:Nat}{g:M}(h:z < F.length):(mS S F).set S.length (.lst ((F.map (mI 6)).set z (mI 6 fun k=>cm F z k !=g k)))=mS S (vy F z g):=by
 unfold mS vy;rw[cC,List.map_set]
theorem BR{F:List M}{k w:Nat}{x:Str × List Nat}(hk:k < 6)(hw:x.2=[w])(hl:w < F.length){a8 a9:Option V3}{QO:Ou->aD->Prop}(h:QO (.nx (uE ins gs os S.length (some (.d (nI k))) (some (.d (.str x.1))) (some (.d (.tup (x.2.map nI)))) a8 a9)) (mS S (vy F w fun i=>i==k))) :
 W3 (gQ (uE ins gs os S.length (some (.d (nI k))) (some (.d (.str x.1))) (some (.d (.tup (x.2.map nI)))) a8 a9) (mS S F)) QO:=by
 unfold gQ;have v7:∀{T:aD},af 7 (cK T (uE ins gs os S.length (some (.d (nI k))) (some (.d (.str x.1))) (some (.d (.tup (x.2.map nI)))) a8 a9))= .ok (.tup [nI w]):=jA (v:= .d (.tup [nI w])) (by unfold uE;rw [hw];rfl) (by unfold res;rfl)
 have hix:∀{T:aD},e2 cN (af 7) (eC (.int 0)) (cK T (uE ins gs os S.length (some (.d (nI k))) (some (.d (.str x.1))) (some (.d (.tup (x.2.map nI)))) a8 a9))= .ok (nI w):=ay (a:= .tup [nI w]) (b:= .int 0) v7 rfl rfl;refine zu <| Ed (d:=mI 6 fun i=>cm F w i !=(i==k)) (ay (a:=mI 6 (cm F w)) (b:=mI 6 fun i=>i==k) (ay (a:= .lst (F.map (mI 6))) (b:=nI w) (jA (v:= .loc S.length) rfl (ka n8)) hix (uL hl)) (ay (a:= .int 1) (b:=nI k) rfl (jA (v:= .d (nI k)) rfl (by unfold res;rfl)) (Fi hk)) (tp _ _ _)) rfl <| w_var (v:= .loc S.length) rfl <| cy (d:=nI w) (by rw[hw];rfl) ⟨_,_,_,_,w,rfl,rfl,rfl,n8,NT.uD (by rw[List.length_map];exact hl),?_⟩
 rw[CN hl];exact h
theorem Ba{F:List M}{j w:Nat}(hl:w < F.length)(hj:ins.length+j < F.length){a5 a6 a7:Option V3}{QO:Ou->aD->Prop}(h:QO (.nx (uE ins gs os S.length a5 a6 a7 (some (.d (nI j))) (some (.d (nI w))))) (mS S (vy F w (cm F (ins.length+j))))) :
 W3 (gK (uE ins gs os S.length a5 a6 a7 (some (.d (nI j))) (some (.d (nI w)))) (mS S F)) QO:=by
 unfold gK;refine zu <| Ed (d:=mI 6 fun i=>cm F w i !=cm F (ins.length+j) i) (ay (a:=mI 6 (cm F w)) (b:=mI 6 (cm F (ins.length+j))) (ay (a:= .lst (F.map (mI 6))) (b:=nI w) (jA (v:= .loc S.length) rfl (ka n8)) (jA (v:= .d (nI w)) rfl (by unfold res;rfl)) (uL hl)) (ay (a:= .lst (F.map (mI 6))) (b:=nI (ins.length+j)) (jA (v:= .loc S.length) rfl (ka n8)) (ay (a:=nI ins.length) (b:=nI j) (aM (ds:=[.lst (ins.map MT.inD)]) (aV (jA (v:= .d (.lst (ins.map MT.inD))) rfl (by unfold res;rfl)) rfl) (by rw[mE,List.length_map];rfl)) (jA (v:= .d (nI j)) rfl (by unfold res;rfl)) rfl) (uL hj)) (tp _ _ _)) rfl <| w_var (v:= .loc S.length) rfl <| cy (d:=nI w) rfl ⟨_,_,_,_,w,rfl,rfl,rfl,n8,NT.uD (by rw[List.length_map];exact hl),?_⟩
 rw[CN hl];exact h
theorem Aw{F:List M}{j:Nat}{g:Gt}(hF:F.length=ins.length+gs.length)(hg:gs[j]? =some g)(hok:uC (ins.length+j) g){a5 a6 a7 a9:Option V3} :
 W3 (gM (uE ins gs os S.length a5 a6 a7 (some (.d (nI j))) a9) (mS S F)) fun o S1=>∃b9,o= .nx (uE ins gs os S.length a5 a6 a7 (some (.d (nI j))) b9)/\S1=mS S (ja ins.length j F g.2.1):=by
 have hjl:=(List.getElem?_eq_some_iff.mp hg).1;unfold gM;refine fB <| mh (ds:=g.2.1.map nI) (xY (ay (a:=eQ g) (b:= .int 1) (ay (a:= .lst (gs.map eQ)) (b:=nI j) rfl rfl (NT.u0 (by rw[List.getElem?_map,hg];rfl))) rfl rfl)) ?_
 refine(bF (fun i δ S2=>∃b9,δ=uE ins gs os S.length a5 a6 a7 (some (.d (nI j))) b9/\S2=mS S (ja ins.length j F (g.2.1.take i)))
  ⟨a9,rfl,rfl⟩ ?_).mono fun o S2 ⟨d7,gY,b9,hδ,qh⟩=>by
    subst hδ;rw[List.length_map,List.length_map,List.take_length] at qh;exact⟨b9,gY,qh⟩
 rintro i v δ S2 hv ⟨b9,rfl,rfl⟩;obtain⟨w,hw,rfl⟩:=NT.iE hv;have Eb:=hok.2.2 w (List.mem_of_getElem? hw);have hlen:(ja ins.length j F (g.2.1.take i)).length=ins.length+gs.length:=by rw[ot,hF]
 refine⟨uE ins gs os S.length a5 a6 a7 (some (.d (nI j))) (some (.d (nI w))),rfl,?_⟩;refine Ba (by omega) (by omega) ⟨_,rfl,_,rfl,?_⟩
 rw[List.take_add_one,hw];show _=mS S (ja ins.length j F (g.2.1.take i++[w]));unfold ja;rw[List.foldl_append];rfl
theorem x9(P:Pl c ins gs os)(OJ:os.length<=6)(hS:mX S){Q:V3->aD->Prop}(h:Q (.d (.lst ((List.range gs.length).map fun i=>mI 6 (fin ins gs os i)))) S):W3 (iz [.d (bV ins gs os)] S) Q:=by
 have hz:sizeLine=16777216:=sizeLine_eq;have hi:=P.no.hi;have GD:=P.no.hg;unfold iz;refine GQ (xq rfl ?_);simp only[cg,gc,List.map,List.length,List.replicate,List.cons_append,List.nil_append,Nat.reduceAdd,Nat.reduceSub];unfold jh;refine aT <| Ki <| cy (d:=bV ins gs os) rfl ⟨_,rfl,_,rfl,?_⟩
 simp only[List.set];refine aT <| bA (by simp) <| kM (ds:=(dN (ins.length+gs.length) os 0).map (mI 6)) ?_ ⟨_,rfl,?_⟩
 .refine(JE (ds:=[.int 0]) (n:=ins.length+gs.length) (qa rfl (by simp;omega)) (ay (a:=nI ins.length) (b:=nI gs.length) (aM (ds:=[.lst (ins.map MT.inD)]) rfl (by rw[mE,List.length_map];rfl)) (aM (ds:=[.lst (gs.map eQ)]) rfl (by rw[mE,List.length_map];rfl)) rfl) (by omega) (by simp;omega)).trans ?_
  unfold dN;rw[List.map_replicate,mk_zero,Bs,List.map_replicate]
 simp only[List.set];show W3 (bo _ _ (uE ins gs os S.length none none none none none) (mS S (dN (ins.length+gs.length) os 0))) _;refine aT <| fB <| mh (ds:=bO (os.map yu)) rfl ?_
 have hel:((bO (os.map yu)).map V3.d).length=os.length:=by simp [bO]
 refine(bF (fun i δ S2=>∃a5 a6 a7,δ=uE ins gs os S.length a5 a6 a7 none none/\S2=mS S (dN (ins.length+gs.length) os i))
  ⟨_,_,_,rfl,rfl⟩ ?_).mono fun o S2 ⟨d7,gY,a5,a6,a7,hδ,qh⟩=>⟨d7,gY,?_⟩
 .rintro i v δ S2 hv ⟨a5,a6,a7,rfl,rfl⟩;obtain⟨d,hd,rfl⟩:=m3 hv;obtain⟨x,hx,rfl⟩:=NT.p_ hd;have hio:=(List.getElem?_eq_some_iff.mp hx).1;obtain⟨w,hw⟩:=P.o1 x (List.mem_of_getElem? hx);have Eb:=P.ow x (List.mem_of_getElem? hx);rw[hw] at Eb;refine⟨uE ins gs os S.length (some (.d (nI i))) (some (.d (.str x.1))) (some (.d (.tup (x.2.map nI)))) none none,rfl,?_⟩;refine BR (by omega) hw (by rw[fG];exact Eb) ⟨_,rfl,_,_,_,rfl,?_⟩
  conv=>rhs;unfold dN
  rw[hx];show _=mS S (vy _ (x.2.getD 0 0) _);rw[hw];rfl
 rw[hel] at qh;subst hδ qh;have hF0:(dN (ins.length+gs.length) os os.length).length=ins.length+gs.length:=fG _ _ _;generalize hF:dN (ins.length+gs.length) os os.length=F at hF0;refine aT <| fB <| mh (ds:=q_ ((gs.length:Int) - 1) gs.length) ?_ ?_
 .unfold BP;rw[ay (r:= .ok (.int ((gs.length:Int) - 1))) (a:=nI gs.length) (b:= .int 1) (aM (ds:=[.lst (gs.map eQ)]) rfl (by rw[mE,List.length_map];rfl)) rfl rfl,R.aN]
  show R.bg (decide ((-1:Int)= -1/\ -(2 ^ 60)<=(gs.length:Int) - 1/\(gs.length:Int) - 1 < 2 ^ 60/\ -(2 ^ 60)<=(-1:Int)/\(-1:Int) < 2 ^ 60)) (.ok (q_ ((gs.length:Int) - 1) ((gs.length:Int) - 1 - (-1)).toNat))=_;rw[bJ _ ⟨rfl,by omega,by omega,by omega,by omega⟩,show((gs.length:Int) - 1 - (-1)).toNat=gs.length by omega]
 have hdl:((q_ ((gs.length:Int) - 1) gs.length).map V3.d).length=gs.length:=by rw[List.length_map,q_,List.length_map,List.length_range]
 refine(bF (fun i δ S2=>∃a8 a9,δ=uE ins gs os S.length a5 a6 a7 a8 a9/\S2=mS S (gq ins.length gs i F))
  ⟨_,_,rfl,rfl⟩ ?_).mono fun o S2 ⟨d7,gY,a8,a9,hδ,qh⟩=>⟨d7,gY,?_⟩
 .rintro i v δ S2 hv ⟨a8,a9,rfl,rfl⟩;obtain⟨SN,rfl⟩:=Jr hv;have hji:(gs.length:Int) - 1 - i=((gs.length - 1 - i:Nat):Int):=by omega
  rw[hji];have hgi:gs[gs.length - 1 - i]? =some gs[gs.length - 1 - i]:=List.getElem?_eq_getElem (by omega)
  refine⟨uE ins gs os S.length a5 a6 a7 (some (.d (nI (gs.length - 1 - i)))) a9,rfl,?_⟩;refine(Aw (by rw[jU,hF0]) hgi (P.g _ _ hgi)).mono fun o S3 ⟨b9,eo,e3⟩=>⟨_,eo,_,b9,rfl,?_⟩
  rw[e3]
  conv=>rhs;unfold gq
  rw[hgi]
 rw[hdl] at qh;subst hδ qh;have hFF:gq ins.length gs gs.length F=qH ins gs os:=by rw[<-hF];rfl
 rw[hFF];unfold uE;refine Hg (k:=S.length) (ds:=(qH ins gs os).map (mI 6)) rfl n8 ?_;have N8:(qH ins gs os).length=ins.length+gs.length:=by unfold qH;rw [jU,fG]
 have hcut:(((qH ins gs os).map (mI 6)).drop ins.length)=(List.range gs.length).map fun i=>mI 6 (fin ins gs os i):=by
  refine List.ext_getElem? fun k=>?_
  rw[List.getElem?_drop,List.getElem?_map,List.getElem?_map];by_cases hk:k < gs.length
  .rw [List.getElem?_range hk,List.getElem?_eq_getElem (by omega)]
   show some (mI 6 _)=some (mI 6 (fin ins gs os k));unfold fin cm;rw[List.getD_eq_getElem?_getD,List.getElem?_eq_getElem (by omega)];rfl
  .rw [List.getElem?_eq_none (by omega),List.getElem?_eq_none (by simp;omega)];rfl
 simp only[List.set];refine eh <| cy (d:= .lst ((List.range gs.length).map fun i=>mI 6 (fin ins gs os i))) ?_ ⟨_,rfl,?_,by unfold eL;rfl,_,by unfold res;rfl,?_⟩
 .refine uN (d:= .lst ((qH ins gs os).map (mI 6))) (lo:=some (ins.length:Int)) (hi:=none) rfl (vQ (aM (ds:=[.lst (ins.map MT.inD)]) rfl (by rw[mE,List.length_map]))) rfl ?_
  show R.ok (D.lst (L2.cutD ((qH ins gs os).map (mI 6)) (some (ins.length:Int)) none))=_;rw[<-hcut];congr 2;unfold L2.cutD;rw[HT.p7];show(((qH ins gs os).map (mI 6)).drop _).take _=_;rw[List.length_map,N8,Nat.min_eq_left (by omega),List.take_of_length_le (by rw[List.length_drop,List.length_map,N8];exact Nat.le_refl _)]
 .intro o ho;have:((mS S (qH ins gs os)).set S.length SO.jf).take S.length=S:=by
   unfold mS;rw[cC,List.take_append_of_le_length (Nat.le_refl _),List.take_length]
  rw[this] at ho;exact hS o ho
 .have:((mS S (qH ins gs os)).set S.length SO.jf).take S.length=S:=by
   unfold mS;rw[cC,List.take_append_of_le_length (Nat.le_refl _),List.take_length]
  rw[this];exact h
end
end K23
end
section
namespace K23
open PySem PySem.Spec PyProof.Rows L2 L3 MT
def sE(k:Nat)(locs:List V3)(nm:List Str)(g:Nat)(a4 a5 a6 a7 a8 a9:Option V3):DE:=[some (.loc k),some (.lst locs),some (.d (.lst (nm.map .str))),some (.loc g),a4,a5,a6,a7,a8,a9]
def NA(S:aD)(gs:List Gt):aD:=S++[SO.lst (gs.map eQ)]
theorem F7{S:aD}{gs:List Gt}:(NA S gs)[S.length]? =some (.lst (gs.map eQ)):=a_ _ _
theorem DI(a b:Nat):fF (nI a) (nI b)= .ok (nI (a+b)):=by
 show R.ok (D.int ((a:Int)+(b:Int)))= .ok (.int ((a+b:Nat):Int));rw[Int.natCast_add]
theorem HW{ds es:List D}(h:ds.length+es.length<=sizeLine):fF (.tup ds) (.tup es)= .ok (.tup (ds++es)):=bJ _ h
theorem Bn{δ:ak}{f:FD}{a:Nat}(b:Nat)(hb:1<=b)(ha:1<=a)(hf:f δ= .ok (nI a)):∃m:Int,0 < m/\m<=a/\aS nD (aw f (aw (eC (.int b)) aZ)) δ= .ok (.int m):=by
 refine⟨if(b:Int) < a then b else a,by split <;> omega,by split <;> omega,?_⟩
 exact aM (ds:=[nI a, .int b]) (aV hf rfl) rfl
theorem Dt{k n r:Nat}{j:Nat}{S:aD}{locs:List V3}{nm:List Str}{gs:List Gt}{a5 a6 a7 a8 a9:Option V3}(hP:pH n S)(hj:j < n)(R1:nm.length=r)(Ub:1<=r)(OD:r<=6)(GD:gs.length < 1000) :
 W3 (fQ (sE k locs nm n (some (.loc j)) a5 a6 a7 a8 a9) (NA S gs)) fun o S1=>∃b5 b6 b7,o= .nx (sE k locs nm n (some (.loc j)) b5 b6 b7 a8 a9)/\∃S' g,S1=S'++[SO.lst ((gs++[g]).map eQ)]/\pH n S'/\uC (r+gs.length) g/\(g.1=0\/g.1=3):=by
 have hz:sizeLine=16777216:=sizeLine_eq;have hSl:=hP.2.1;unfold fQ sE;refine aT <| bA (by simp) <| Ed (d:=nI (r+gs.length)) (ay (a:=nI r) (b:=nI gs.length) (aM (ds:=[.lst (nm.map .str)]) (aV (jA (v:= .d (.lst (nm.map .str))) rfl (by unfold res;rfl)) rfl) (by rw[mE,List.length_map,R1];rfl)) (aM (ds:=[.lst (gs.map eQ)]) (aV (jA (v:= .loc n) rfl (ka (by rw[<-hSl];exact F7))) rfl) (by rw[mE,List.length_map];rfl)) (DI _ _)) rfl ⟨_,rfl,?_⟩
 simp only[List.set];have p0:yt j (NA S gs):=(hP.2.2 j hj).app (qO _);obtain⟨m1,J8,MD,RG⟩:=Bn (δ:=down [some (.loc k),some (.lst locs),some (.d (.lst (nm.map .str))),some (.loc n),some (.loc j),some (.d (nI (r+gs.length))),a6,a7,a8,a9]) (f:=af 5) (a:=r+gs.length) 6 (by omega) (by omega) rfl
 refine aT <| bA (by simp) <| tW <| aG <| Fd <| cy (d:= .int (((r+gs.length:Nat):Int) - 1)) rfl <| draw (k:=j) rfl p0 RG J8 (by omega) fun q1 S1 h1 h2 v1=>⟨_,_, .int ((((r+gs.length:Nat):Int) - 1 - q1).toNat:Nat),rfl,rfl,by rw[Int.toNat_of_nonneg (by omega)];rfl,cA ⟨by simp;omega,_,rfl,?_⟩⟩
 simp only[List.set];obtain⟨T1,rfl,u1⟩:=v1.split (by omega)
 have Ka:=hP.ev hj u1;have hw1:(((r+gs.length:Nat):Int) - 1 - q1).toNat < r+gs.length:=by omega
 generalize (((r+gs.length:Nat):Int) - 1 - q1).toNat=w1 at hw1;refine aT <| bA (by simp) <| cy (d:= .str (kS 0)) rfl ⟨_,rfl,?_⟩
 simp only[List.set];have fin:∀(kd:Nat) (ws:List Nat) (T:aD),kd<=4->ws.length=ar kd->(kd=0\/kd=3)->(∀w∈ws,w < r+gs.length)->pH n T->W3 (oJ 3 (va (aA (xP (af 7)) (aA (xP (af 6)) (aA (x2 r6 (c8 bB (aA (bY 4) (aA (xP (eC (.int 6))) cB))) (xP (eC (.int 0)))) cB)))) [some (.loc k),some (.lst locs),some (.d (.lst (nm.map .str))),some (.loc n),some (.loc j),some (.d (nI (r+gs.length))),some (.d (.tup (ws.map nI))),some (.d (.str (kS kd))),a8,a9] (T++[SO.lst (gs.map eQ)])) fun o S1=>∃b5 b6 b7,o= .nx [some (.loc k),some (.lst locs),some (.d (.lst (nm.map .str))),some (.loc n),some (.loc j),b5,b6,b7,a8,a9]/\∃S' g,S1=S'++[SO.lst ((gs++[g]).map eQ)]/\pH n S'/\uC (r+gs.length) g/\(g.1=0\/g.1=3):=fun kd ws T SK Eb Oi RS hT=>by
  have hTl:=hT.2.1;have gT:(T++[SO.lst (gs.map eQ)])[n]? =some (.lst (gs.map eQ)):=by rw[<-hTl];exact a_ _ _
  have p1:yt j (T++[SO.lst (gs.map eQ)]):=(hT.2.2 j hj).app (qO _);refine qt (k:=n) rfl ⟨_,gT⟩ <| tW <| aG <| cy (d:= .str (kS kd)) rfl <| aG <| cy (d:= .tup (ws.map nI)) rfl <| aG <| Fd <| draw (k:=j) rfl p1 rfl (by omega) (by omega) fun q3 S3 h5 h6 v3=>cy (d:= .int 0) rfl ⟨_,_, .bl (decide (q3=0)),rfl,rfl,rfl,cA ⟨by simp;omega,?_⟩⟩
  obtain⟨T3,rfl,u3⟩:=v3.split (by omega)
  have hP3:=hT.ev hj u3;have hT3:=hP3.2.1;have gT3:(T3++[SO.lst (gs.map eQ)])[n]? =some (.lst (gs.map eQ)):=by rw[<-hT3];exact a_ _ _
  refine⟨eQ (kd,ws,decide (q3=0)),_,rfl,gT3,by rw[List.length_map];omega,_,_,_,rfl,T3,(kd,ws,decide (q3=0)),?_,hP3,⟨SK,Eb,RS⟩,Oi⟩
  have hset:(T3++[SO.lst (gs.map eQ)]).set n (.lst (gs.map eQ++[eQ (kd,ws,decide (q3=0))]))=T3++[SO.lst (gs.map eQ++[eQ (kd,ws,decide (q3=0))])]:=by rw[<-hT3];exact cC _ _ _
  rw[hset,List.map_append];rfl
 have p1:yt j (T1++[SO.lst (gs.map eQ)]):=(Ka.2.2 j hj).app (qO _);refine aT <| lV <| HB <| draw (k:=j) rfl p1 rfl (by omega) (by omega) fun q2 S2 h3 h4 v2=>cy (d:= .int 0) rfl ⟨_,_,decide ((0:Int) < q2),rfl,rfl,rfl,?_⟩
 obtain⟨T2,rfl,u2⟩:=v2.split (by rw[Ka.2.1];exact hj)
 have JW:=Ka.ev hj u2;by_cases hq:(0:Int) < q2
 .rw [decide_eq_true hq,if_pos rfl];refine aT <| bA (by simp) <| cy (d:= .str (kS 3)) rfl ⟨_,rfl,?_⟩
  simp only[List.set];have p2:yt j (T2++[SO.lst (gs.map eQ)]):=(JW.2.2 j hj).app (qO _);refine bA (by simp) <| Fd <| cy (d:= .tup [nI w1]) rfl <| tW <| aG <| draw (k:=j) (m:=((r+gs.length:Nat):Int)) rfl p2 rfl (by omega) (by omega) fun q4 S4 h7 h8 v4=>cA ⟨by simp;omega,?_⟩
  obtain⟨T4,rfl,u4⟩:=v4.split (by rw[JW.2.1];exact hj)
  obtain⟨w2,rfl⟩:=Int.eq_ofNat_of_zero_le h7;refine⟨.tup [nI w1], .tup [nI w2], .tup [nI w1,nI w2],rfl,rfl,HW (by simp;omega),_,rfl,?_⟩
  simp only[List.set];exact fin 3 [w1,w2] T4 (by omega) rfl (.inr rfl) (fun w hw=>by
   simp only[List.mem_cons,List.not_mem_nil,or_false] at hw;rcases hw with rfl | rfl
   .exact hw1
   .omega) (JW.ev hj u4)
 .rw [decide_eq_false hq,if_neg (by decide)]
  refine ic ⟨_,rfl,?_⟩;exact fin 0 [w1] T2 (by omega) rfl (.inl rfl) (fun w hw=>by rw[List.mem_singleton.mp hw];exact hw1) JW
theorem Lm{δ:ak}{fm fj:FD}{n j:Nat}(hn:0 < n)(hm:fm δ= .ok (nI n))(hj:fj δ= .ok (nI j)):∃m:Int,0 < m/\m<=n/\e2 cN (eNew (j0 (aw fm (aw (aS nD (aw fm (aw (eC (.int 8)) aZ))) aZ)))) (e2 qM fj (eC (.int 2))) δ= .ok (.int m):=by
 have hz:sizeLine=16777216:=sizeLine_eq;have hj2:(j:Int) % 2=0\/(j:Int) % 2=1:=by omega
 have em:qM (nI j) (.int 2)= .ok (.int ((j:Int) % 2)):=BD (by omega)
 obtain⟨q,RJ,Sq,eq⟩:=Bn (δ:=δ) 8 (by omega) (by omega) hm
 have el:eNew (j0 (aw fm (aw (aS nD (aw fm (aw (eC (.int 8)) aZ))) aZ))) δ= .ok (.lst [nI n, .int q]):=
  eD (qa (aV hm (aV eq rfl)) (by simp;omega))
 rcases hj2 with h | h
 .rw [h] at em;exact⟨n,by omega,by omega,ay el (ay hj rfl em) rfl⟩
 .rw [h] at em;exact⟨q,RJ,Sq,ay el (ay hj rfl em) rfl⟩
theorem Hs{i:Nat}(h:i < 6):∃s:Str,(cN (.str "abcdef") (nI i)).bind (fun d=>fF (.str "o") d)= .ok (.str s):=by
 rcases(by omega:i=0\/i=1\/i=2\/i=3\/i=4\/i=5) with rfl | rfl | rfl | rfl | rfl | rfl <;> exact⟨_,rfl⟩
theorem vG{n:Nat}{S:aD}{ls:List Nat}(hn:0 < n)(R9:∀j∈ls,j < n)(PQ:ls.length<=40)(hP:pH n S){Q:V3->aD->Prop}
 (h:∀(l:Uq) (gs:List Gt) (os:Ur) S1,Pl l.length l gs os->G3 gs->1<=l.length->l.length<=6->gs.length=ls.length->1<=os.length->os.length<=6->pH n S1->Q (.d (bV l gs os)) S1) :
 W3 (gG [.loc 0, .lst (ls.map .loc)] S) Q:=by
 have hz:sizeLine=16777216:=sizeLine_eq;have hSl:=hP.2.1;unfold gG;refine BV (xq rfl ?_);simp only[cg,d6,List.map,List.length,List.replicate,List.cons_append,List.nil_append,Nat.reduceAdd,Nat.reduceSub];unfold il;refine aT <| bA (by simp) <| MZ <| cy (d:= .lst (["a","bb","signal","x","yes","abcdefgh"].map .str)) rfl <| Kv <| Lw <| Fd <| cy (d:= .int 1) rfl <| draw (k:=0) rfl (hP.2.2 0 hn) rfl (by omega) (by omega) fun r0 S1 h1 h2 v1=>⟨_,_, .int ((1+r0.toNat:Nat):Int),rfl,rfl,?_,_,rfl,?_⟩
 .show R.ok (D.int (1+r0))=_;congr 2;omega
 have Ka:=hP.ev hn v1;obtain⟨r0,rfl⟩:=Int.eq_ofNat_of_zero_le h1;rw[Int.toNat_natCast];have OD:1+r0<=6:=by omega
 have hcut:∀xs:List Str,Hb (.lst (xs.map .str)) none (some ((1+r0:Nat):Int))= .ok (.lst ((xs.take (1+r0)).map .str)):=fun xs=>by
  show R.ok (D.lst (L2.cutD (xs.map .str) none (some ((1+r0:Nat):Int))))=_;rw[xy _ (by omega),Int.toNat_natCast,List.map_take]
 refine⟨_,_,rfl,hcut _,_,rfl,?_⟩;have hnml:(["a","bb","signal","x","yes","abcdefgh"].take (1+r0)).length=1+r0:=by rw[List.length_take];simp;omega
 generalize ["a","bb","signal","x","yes","abcdefgh"].take (1+r0)=nm at hnml;simp only[List.set];have hS1:=Ka.2.1;refine aT <| bA (by simp) <| kM (ds:=[]) rfl ⟨_,rfl,?_⟩
 simp only[List.set];refine aT <| fB <| ED <| w_var (v:= .lst (ls.map .loc)) rfl ⟨_,rfl,?_⟩
 refine(bF (fun i δ S2=>∃a4 a5 a6 a7,δ=sE 0 (ls.map .loc) nm n a4 a5 a6 a7 none none/\∃S' gs,S2=S'++[SO.lst (gs.map eQ)]/\pH n S'/\gs.length=i/\(∀(p:Nat) (g:Gt),gs[p]? =some g->uC (1+r0+p) g)/\G3 gs)
  ⟨_,_,_,_,by rw[hS1];rfl,S1,[],rfl,Ka,rfl,by simp,fun g hg=>by cases hg⟩ ?_).mono fun o S2 ⟨d7,gY,a4,a5,a6,a7,hδ,S',gs,qh,J9,GD,hgs,hL⟩=>⟨d7,gY,?_⟩
 .rintro i v δ S2 hv ⟨a4,a5,a6,a7,rfl,S',gs,rfl,J9,GD,hgs,hL⟩;rw[List.getElem?_map] at hv;obtain⟨j,hj,rfl⟩:∃j,ls[i]? =some j/\v=V3.loc j:=by
   cases q:ls[i]? with
   | none=>rw [q] at hv;cases hv
   | some j=>rw [q] at hv;cases hv;exact⟨j,rfl,rfl⟩
  have hil:i < ls.length:=(List.getElem?_eq_some_iff.mp hj).1;refine⟨sE 0 (ls.map .loc) nm n (some (.loc j)) a5 a6 a7 none none,rfl,?_⟩;have hSn:=J9.2.1;refine(Dt (k:=0) J9 (R9 j (List.mem_of_getElem? hj)) hnml (by omega) OD (by omega)).mono fun o S3 ⟨b5,b6,b7,eo,S4,g,e3,Mv,hg,hk⟩=>⟨_,eo,_,b5,b6,b7,rfl,S4,gs++[g],e3,Mv,by simp [GD],?_,?_⟩
  .intro p g' hp;by_cases kG:p < gs.length
   .rw [List.getElem?_append_left kG] at hp;exact hgs p g' hp
   .rw [List.getElem?_append_right (by omega)] at hp
    have h0:p - gs.length=0:=by
     have:=(List.getElem?_eq_some_iff.mp hp).1;simp at this;omega
    rw[h0] at hp;cases hp;rw[show p=gs.length by omega]
    exact hg
  .intro g' hg';rcases List.mem_append.mp hg' with z | z
   .exact hL g' z
   .rw [List.mem_singleton.mp z];exact hk
 rw[List.length_map] at GD;subst hδ qh;have hSn:=J9.2.1;unfold sE;have gT:(S'++[SO.lst (gs.map eQ)])[n]? =some (.lst (gs.map eQ)):=by rw[<-hSn];exact a_ _ _
 refine aT <| bA (by simp) <| Ed (d:=nI (1+r0+gs.length)) (ay (a:=nI (1+r0)) (b:=nI gs.length) (aM (ds:=[.lst (nm.map .str)]) (aV (jA (v:= .d (.lst (nm.map .str))) rfl (by unfold res;rfl)) rfl) (by rw[mE,List.length_map,hnml];rfl)) (aM (ds:=[.lst (gs.map eQ)]) (aV (jA (v:= .loc n) rfl (ka gT)) rfl) (by rw[mE,List.length_map];rfl)) (DI _ _)) rfl ⟨_,rfl,?_⟩
 simp only[List.set];refine aT <| bA (by simp) <| kM (ds:=[]) rfl ⟨_,rfl,?_⟩
 simp only[List.set];rw[show(S'++[SO.lst (gs.map eQ)]).length=n+1 by simp [hSn],List.append_assoc]
 have hap:∀(A B:List D) (T:aD),T++([SO.lst A]++[SO.lst B])=T++[SO.lst A,SO.lst B]:=fun _ _ _=>rfl
 rw[hap];refine aT <| fB <| IU <| Fd <| cy (d:= .int 1) rfl <| draw (k:=0) rfl ((J9.2.2 0 hn).app (CC _ _)) rfl (by omega) (by omega) fun ro S5 h5 h6 v5=>⟨_,_, .int ((1+ro.toNat:Nat):Int),rfl,rfl,?_,_,rfl,by omega,?_⟩
 .show R.ok (D.int (1+ro))=_;congr 2;omega
 obtain⟨T5,rfl,u5⟩:=v5.split (by omega)
 have S9:=J9.ev hn u5;refine(bF (fun i δ S6=>∃a9,δ=[some (.loc 0),some (.lst (ls.map .loc)),some (.d (.lst (nm.map .str))),some (.loc n),a4,some (.d (nI (1+r0+gs.length))),a6,a7,some (.loc (n+1)),a9]/\∃T os,S6=T++[SO.lst (gs.map eQ),SO.lst (os.map yu)]/\pH n T/\os.length=i/\∀x∈os,∃w,x.2=[w]/\w < 1+r0+gs.length)
  ⟨_,rfl,T5,[],rfl,S9,rfl,fun x hx=>by cases hx⟩ ?_).mono fun o S6 ⟨R_,e6,a9,hδ,T,os,Sj,hPT,hol,hos⟩=>⟨R_,e6,?_⟩
 .rintro i v δ S6 hv ⟨a9,rfl,T,os,rfl,hPT,hol,hos⟩;obtain⟨hi,rfl⟩:=NT.CJ hv;have hTn:=hPT.2.1;refine⟨[some (.loc 0),some (.lst (ls.map .loc)),some (.d (.lst (nm.map .str))),some (.loc n),a4,some (.d (nI (1+r0+gs.length))),a6,a7,some (.loc (n+1)),some (.d (nI i))],rfl,?_⟩;unfold jK;have gO:∀(T:aD) (L:List D),T.length=n->(T++[SO.lst (gs.map eQ),SO.lst L])[n+1]? =some (.lst L):=fun T L hT=>by rw[List.getElem?_append_right (by omega),show n+1 - T.length=1 by omega];rfl
  obtain⟨s,es⟩:=Hs (i:=i) (by omega)
  obtain⟨mm,J8,MD,em⟩:=Lm (δ:=down [some (.loc 0),some (.lst (ls.map .loc)),some (.d (.lst (nm.map .str))),some (.loc n),a4,some (.d (nI (1+r0+gs.length))),a6,a7,some (.loc (n+1)),some (.d (nI i))]) (fm:=af 5) (fj:=af 9) (n:=1+r0+gs.length) (j:=i) (by omega) rfl rfl
  refine qt (k:=n+1) rfl ⟨_,gO T _ hTn⟩ <| tW <| aG <| cy (d:= .str s) es <| aG <| tW <| aG <| Fd <| cy (d:= .int (((1+r0+gs.length:Nat):Int) - 1)) rfl <| draw (k:=0) rfl ((hPT.2.2 0 hn).app (CC _ _)) em J8 (by omega) fun q S7 h7 h8 v7=>⟨_,_, .int ((((1+r0+gs.length:Nat):Int) - 1 - q).toNat:Nat),rfl,rfl,by rw[Int.toNat_of_nonneg (by omega)];rfl,cA ⟨by simp;omega,cA ⟨by simp;omega,?_⟩⟩⟩
  obtain⟨T7,rfl,u7⟩:=v7.split (by omega)
  have P9:=hPT.ev hn u7;have RP:=P9.2.1;refine⟨yu (s,[(((1+r0+gs.length:Nat):Int) - 1 - q).toNat]),_,rfl,gO T7 _ RP,by rw[List.length_map];omega,_,rfl,_,rfl,T7,os++[(s,[(((1+r0+gs.length:Nat):Int) - 1 - q).toNat])],?_,P9,by simp [hol],?_⟩
  .rw [List.set_append_right _ _ (by omega),show n+1 - T7.length=1 by omega,List.map_append];rfl
  .intro x hx;rcases List.mem_append.mp hx with z | z
   .exact hos x z
   .rw [List.mem_singleton.mp z];exact⟨_,rfl,by omega⟩
 rw[NT.wU] at hol;subst hδ Sj;have hTn:=hPT.2.1;have e1:(T++[SO.lst (gs.map eQ),SO.lst (os.map yu)]++[SO.lst ((nm.map fun s=>(s,1)).map MT.inD)])[n]? =some (.lst (gs.map eQ)):=by rw[List.append_assoc,List.getElem?_append_right (by omega),show n - T.length=0 by omega];rfl
 have gY:(T++[SO.lst (gs.map eQ),SO.lst (os.map yu)]++[SO.lst ((nm.map fun s=>(s,1)).map MT.inD)])[n+1]? =some (.lst (os.map yu)):=by rw[List.append_assoc,List.getElem?_append_right (by omega),show n+1 - T.length=1 by omega];rfl
 have e3:(T++[SO.lst (gs.map eQ),SO.lst (os.map yu)]++[SO.lst ((nm.map fun s=>(s,1)).map MT.inD)])[n+2]? =some (.lst ((nm.map fun s=>(s,1)).map MT.inD)):=by rw[List.append_assoc,List.getElem?_append_right (by omega),show n+2 - T.length=2 by omega];rfl
 refine eh <| tW <| aG <| kM (ds:=(nm.map fun s=>(s,1)).map MT.inD) ?_ <| aG <| w_var (v:= .loc n) rfl <| aG <| w_var (v:= .loc (n+1)) rfl <| cA ⟨by simp;omega,_,rfl,?_,?_,bV (nm.map fun s=>(s,1)) gs os,?_,?_⟩
 .refine dc (ds:=nm.map .str) (eP rfl) (by rw[List.length_map];omega) ?_
  rw[List.map_map];exact NT.cH (t:=bq 0) (c:=k8) (δ:=[.un]) D.str _ fun s _=>⟨[.val (.str s)],rfl,rfl,g9 (ds:=[.str s, .int 1]) rfl (by simp;omega)⟩
 .intro o ho;rcases List.mem_append.mp ho with z | z
  .rcases List.mem_append.mp z with y | y
   .exact hPT.1 o y
   .exact CC _ _ o y
  .exact qO _ o z
 .rw [show(T++[SO.lst (gs.map eQ),SO.lst (os.map yu)]).length=n+2 by simp [hTn]]
  show eL S.length (.tup [.loc (n+2), .loc n, .loc (n+1)])=true;simp [eL,m_];omega
 .rw [show(T++[SO.lst (gs.map eQ),SO.lst (os.map yu)]).length=n+2 by simp [hTn]]
  show res _ (.tup [.loc (n+2), .loc n, .loc (n+1)])=_;simp only[res,wD,e1,gY,e3];rfl
 .have hw1:∀x∈nm.map (fun s=>((s,1):Str × Nat)),x.2=1:=fun x hx=>by obtain⟨s,_,rfl⟩:=List.mem_map.mp hx;rfl
  have hll':(nm.map fun s=>((s,1):Str × Nat)).length=1+r0:=by rw[List.length_map,hnml]
  have hwid:mY (nm.map fun s=>((s,1):Str × Nat))=1+r0:=by rw[yi hw1,hll',Nat.one_mul]
  have MA:(T++[SO.lst (gs.map eQ),SO.lst (os.map yu)]++[SO.lst ((nm.map fun s=>(s,1)).map MT.inD)]).take S.length=T:=by
   rw[hSl,<-hTn,List.append_assoc,List.take_append_of_le_length (Nat.le_refl _),List.take_length]
  rw[MA];refine h _ gs os T ⟨⟨by rw[hll'];omega,fun x hx=>by rw[hw1 x hx];omega,by omega,fun p g hp=>by rw[hwid];exact hgs p g hp,by omega,fun x hx=>?_⟩,rfl,hw1,fun x hx=>?_⟩ hL (by rw[hll'];omega) (by rw[hll'];exact OD) (by omega) (by omega) (by omega) hPT
  .obtain⟨w,e,hw⟩:=hos x hx;rw[e,hwid];exact⟨by simp,fun v hv=>by rw[List.mem_singleton.mp hv];exact hw⟩
  .obtain⟨w,e,_⟩:=hos x hx;exact⟨w,e⟩
end K23
end
section
namespace K23
open PySem PySem.Spec PyProof.Rows L2 L3 MT
theorem LI{fa fb:FX}{δ:DE}{S:aD}{QV:V3->aD->Prop}(h:W3 (fa δ S) fun a S1=>W3 (fb δ S1) fun b S2=>∃vs i v,a= .lst vs/\b= .d (.int i)/\pj vs i=some v/\QV v S2):W3 (LA fa fb δ S) QV:=
 W3.bind (h.mono fun _ _ h=>W3.bind (h.mono fun _ _ ⟨vs,i,v,e1,e2,e3,q⟩=>by
  subst e1 e2;simp only[e3];exact W3.ok q))
theorem Df{a b:D}{k:Bool}(h:r6 a b= .ok (.bl k)):Fg a b= .ok (.bl (!k)):=by
 unfold r6 at h;unfold Fg;cases q:Ej a b with
 | ok x=>rw [q] at h;cases h;rfl
 | no=>rw [q] at h;cases h
 | ex _=>rw [q] at h;cases h
theorem Kf(b:Bool):o7 [.bl b]= .ok (nI (if b then 1 else 0)):=by cases b <;> rfl
theorem Eu{f:M}{K:Nat}(hK:K<=6)(h:∀k,K<=k->f k=false):(!(decide (jO 6 f=0)))=(List.range K).any f:=by
 cases q:(List.range K).any f with
 | false=>
   rw[List.any_eq_false] at q;rw[decide_eq_true (jy.mpr fun k _=>?_)]
   .rfl
   .by_cases hk:k < K
    .exact Bool.eq_false_iff.mpr (q k (List.mem_range.mpr hk))
    .exact h k (by omega)
 | true=>
   rw[decide_eq_false fun e=>?_]
   .rfl
   .obtain⟨k,hk,hf⟩:=List.any_eq_true.mp q;have:=jy.mp e k (by have:=List.mem_range.mp hk;omega)
    rw[this] at hf;cases hf
theorem Cj(ns:List Int)(hn:ns.length<=63):yU [.lst (ns.map D.int)]= .ok (.bl true):=by
 have hz:sizeLine=16777216:=sizeLine_eq;have key:W3 (nS nq tE [.d (.lst (ns.map .int))] []) fun v S1=>v= .d (.bl true)/\S1=[]:=by
  refine BV (xq rfl ?_);simp only[cg,nq,List.map,List.length,List.replicate,List.cons_append,List.nil_append,Nat.reduceAdd,Nat.reduceSub];unfold tE;refine aT <| bA (by simp) <| eF <| aG <| cy (d:= .lst ((ns.take 41).map .int)) ?_ <| cA <| FE _ ?_ fun n S1 L5 Ma hP=>⟨_,rfl,?_⟩
  .refine uN (d:= .lst (ns.map .int)) (lo:=none) (hi:=some 41) rfl rfl rfl ?_;show R.ok (D.lst (L2.cutD _ none (some 41)))=_;rw[xy _ (by omega),List.map_take]
   rfl
  .rw [List.length_take];omega
  have Ma:n<=41:=by rw[List.length_take] at Ma;omega
  simp only[List.set];obtain⟨n',rfl⟩:∃n',n=n'+1:=⟨n - 1,by omega⟩
  refine aT <| bA (by simp) <| LI <| w_var (v:= .lst ((List.range (n'+1)).map .loc)) rfl <| cy (d:= .int 0) rfl ⟨_,0, .loc 0,rfl,rfl,by rw[List.range_succ_eq_map,List.map_cons,n9 (by omega) (by simp)];rfl,_,rfl,?_⟩
  simp only[List.set];have hcut:L2.cutD ((List.range (n'+1)).map V3.loc) (some 1) none=((List.range (n'+1)).drop 1).map V3.loc:=by
   rw[Cb _ (by omega),List.map_drop];rfl
  refine aT <| bA (by simp) <| eF <| aG <| w_var (v:= .loc 0) rfl <| aG <| Ln <| w_var (v:= .lst ((List.range (n'+1)).map .loc)) rfl <| Lw <| cy (d:= .int 1) rfl ⟨1,rfl,Kv ⟨_,rfl,cA ?_⟩⟩
  rw[hcut];refine vG (n:=n'+1) L5 (fun j hj=>List.mem_range.mp (List.mem_of_mem_drop hj)) (by rw[List.length_drop,List.length_range];omega) hP fun l gs os S2 P L Bc Ua GD Ud OJ JW=>⟨_,rfl,?_⟩
  simp only[List.set];have hg40:gs.length<=40:=by rw[List.length_drop,List.length_range] at GD;omega
  have how:∀x∈os,1<=x.2.length/\x.2.length<=3:=fun x hx=>by obtain⟨w,hw⟩:=P.o1 x hx;rw [hw];exact⟨by simp,by simp⟩
  have GG:∀x∈os,∀p,(pt (Wd l.length l gs [] []) x p).2=!(pt (Wd l.length l gs [] []) x p).1:=fun x hx p=>by obtain⟨w,hw⟩:=P.o1 x hx;rw [DA hw,Bool.not_not]
  have hlen:∀{δ:ak},af 3 δ= .ok (bV l gs os)->aS gx (aw (e2 cN (af 3) (eC (.int 1))) aZ) δ= .ok (nI gs.length):=fun hv=>aM (ds:=[.lst (gs.map eQ)]) (aV (ay (a:=bV l gs os) (b:= .int 1) hv rfl rfl) rfl) (by rw[mE,List.length_map];rfl)
  obtain⟨most,J8,T9,emost⟩:∃most:Nat,1<=most/\most<=3/\e2 gA (e2 gA (eC (.int 1)) (aS o7 (aw (e2 GO (aS gx (aw (e2 cN (af 3) (eC (.int 1))) aZ)) (eC (.int 16))) aZ))) (aS o7 (aw (e2 GO (aS gx (aw (e2 cN (af 3) (eC (.int 1))) aZ)) (eC (.int 12))) aZ)) (down [some (.d (.lst (ns.map .int))),some (.lst ((List.range (n'+1)).map .loc)),some (.loc 0),some (.d (bV l gs os)),none,none,none,none,none])= .ok (nI most):=by
   have hs:∀(k:Int),aS o7 (aw (e2 GO (aS gx (aw (e2 cN (af 3) (eC (.int 1))) aZ)) (eC (.int k))) aZ) (down [some (.d (.lst (ns.map .int))),some (.lst ((List.range (n'+1)).map .loc)),some (.loc 0),some (.d (bV l gs os)),none,none,none,none,none])= .ok (nI (if decide ((gs.length:Int)<=k) then 1 else 0)):=fun k=>aM (ds:=[.bl (decide ((gs.length:Int)<=k))]) (aV (ay (a:=nI gs.length) (b:= .int k) (hlen rfl) rfl rfl) rfl) (Kf _)
   refine⟨1+(if decide ((gs.length:Int)<=16) then 1 else 0)+(if decide ((gs.length:Int)<=12) then 1 else 0),by omega,by split <;> split <;> omega,?_⟩
   exact ay (a:=nI (1+(if decide ((gs.length:Int)<=16) then 1 else 0))) (b:=nI (if decide ((gs.length:Int)<=12) then 1 else 0)) (ay (a:=nI 1) (b:=nI (if decide ((gs.length:Int)<=16) then 1 else 0)) rfl (hs 16) rfl) (hs 12) rfl
  refine aT <| bA (by simp) <| cy (d:=nI most) emost ⟨_,rfl,?_⟩
  simp only[List.set];refine aT <| bA (by simp) <| Fd <| cy (d:= .int 1) rfl <| draw (k:=0) (m:=(most:Int)) rfl (JW.2.2 0 L5) rfl (by omega) (by omega) fun r3 S3 h1 h2 v3=>⟨_,_, .int ((1+r3.toNat:Nat):Int),rfl,rfl,?_,_,rfl,?_⟩
  .show R.ok (D.int (1+r3))=_;congr 2;omega
  simp only[List.set];have hP3:=JW.ev L5 v3;have hmm1:1<=1+r3.toNat:=by omega
  have hmm3:1+r3.toNat<=3:=by omega
  generalize 1+r3.toNat=m at hmm1 hmm3;refine aT <| bA (by simp) <| MJ <| cy (d:= .lst [.str "right", .str "safe"]) rfl <| draw (k:=0) rfl (hP3.2.2 0 L5) rfl (by omega) (by omega) fun r4 S4 h3 h4 v4=>?_
  obtain⟨safe,es⟩:∃safe,cN (.lst [.str "right", .str "safe"]) (.int r4)= .ok (.str (n4 safe)):=by
   have:r4=0\/r4=1:=by omega
   rcases this with rfl | rfl
   .exact⟨false,rfl⟩
   .exact⟨true,rfl⟩
  refine⟨_,_,_,rfl,rfl,es,_,rfl,?_⟩;simp only[List.set];have Mv:=hP3.ev L5 v4;have hcl:mX S4:=Mv.1.Rm;refine aT <| bA (by simp) <| pX (fun j ds S5=>S5=S4/\ds=(((List.range gs.length).take j).filter fun i=>nz l gs os i && (match gs[i]? with | some g=>!g.2.2 | none=>false)).map nI) ?_
  refine Ji <| eF <| aG <| cy (d:=bV l gs os) rfl <| cA <| x9 P OJ hcl ⟨_,rfl,?_,⟨rfl,by simp⟩,?_,?_⟩
  .simp [bO];omega
  .rintro j v ds S5 hv ⟨rfl,rfl⟩;obtain⟨d,hd,rfl⟩:=m3 hv;obtain⟨i,hi,rfl⟩:=NT.p_ hd;have hjl:j < gs.length:=by have:=(List.getElem?_eq_some_iff.mp hi).1;rwa [List.length_range] at this
   rw[List.getElem?_range hjl] at hi;cases hi;have hgj:gs[j]? =some gs[j]:=List.getElem?_eq_getElem hjl;refine⟨[some (.d (nI j)),some (.d (mI 6 (fin l gs os j))),some (.d (bV l gs os))],rfl,ny (b:=nz l gs os j && !gs[j].2.2) ?_ ?_⟩
   .unfold Gq;have oP:=Eu (f:=fin l gs os j) OJ fun k hk=>ER hk
    rw[jZ (k:=nz l gs os j) (a:=mI 6 (fin l gs os j)) (b:= .int 0) rfl rfl ((OP _ _).trans (by rw[oP];rfl)),R.aN]
    cases nz l gs os j with
    | false=>rfl
    | true=>
      rw[if_pos rfl];unfold uI qX;rw[ay (a:=eQ gs[j]) (b:= .int 2) (ay (a:= .lst (gs.map eQ)) (b:=nI j) (ay (a:=bV l gs os) (b:= .int 1) rfl rfl rfl) rfl (NT.u0 (by rw[List.getElem?_map,hgj];rfl))) rfl (show cN (eQ gs[j]) (.int 2)= .ok (.bl gs[j].2.2) from rfl)]
      rfl
   have e:(((List.range gs.length).take (j+1)).filter fun i=>nz l gs os i && (match gs[i]? with | some g=>!g.2.2 | none=>false))=(((List.range gs.length).take j).filter fun i=>nz l gs os i && (match gs[i]? with | some g=>!g.2.2 | none=>false))++if nz l gs os j && !gs[j].2.2 then [j] else []:=by
    rw[List.take_add_one,List.getElem?_range hjl,show(some j).toList=[j] from rfl,List.filter_append,List.filter_cons,hgj]
    rfl
   rw[e];cases nz l gs os j && !gs[j].2.2 with
   | true=>rw [if_pos rfl,if_pos rfl];exact cy (d:=nI j) rfl ⟨_,rfl,rfl,by rw[List.map_append];rfl⟩
   | false=>rw [if_neg (by decide),if_neg (by decide)];exact⟨rfl,by simp⟩
  rintro ds S5 ⟨rfl,rfl⟩;have hel:((bO ((List.range gs.length).map fun i=>mI 6 (fin l gs os i))).map V3.d).length=gs.length:=by simp [bO]
  rw[hel,List.take_of_length_le (by simp)]
  have hdue:((List.range gs.length).filter fun i=>nz l gs os i && (match gs[i]? with | some g=>!g.2.2 | none=>false))=lW l gs os:=by
   unfold lW jI;rw[List.filter_filter] <;> rfl
  rw[hdue];refine⟨_,rfl,?_⟩;simp only[List.set];have hul:(jI gs).length<=40:=Nat.le_trans uX hg40;have hdl:(lW l gs os).length<=40:=by unfold lW;exact Nat.le_trans (List.length_filter_le _ _) hul
  have hbd:=F0 (safe:=safe) (m:=m) P L hmm1;refine aT <| bA (by simp) <| eF <| aG <| cy (d:=bV l gs os) rfl <| aG <| cy (d:=nI m) rfl <| aG <| cy (d:= .str (n4 safe)) rfl <| cA <| A4 (free:=jI gs) P.no rfl (by omega) how GG hg40 hmm3 (kf gs) (Dj GG (kf gs) (List.Sublist.refl _)) hul hcl fun T0 hU=>⟨_,rfl,?_⟩
  rw[hbd] at hU;have hT0:=HA hU;subst hT0;simp only[List.set];have hfT:mC 1 (bM (lW l gs os)):=mC.tup fun d hd=>by obtain⟨x,_,rfl⟩:=List.mem_map.mp hd;exact mC.int _
  have hfF:mC 2 (.lst (((lW l gs os).map fun x=>[x]).map bM)):=mC.lst fun d hd=>by
   obtain⟨x,_,rfl⟩:=List.mem_map.mp hd;exact mC.tup fun d hd=>by obtain⟨y,_,rfl⟩:=List.mem_map.mp hd;exact mC.int _
  have hbP:∀Q:V3->aD->Prop,Q (.d (.lst (((lW l gs os).map fun x=>[x]).map bM))) S5->W3 (eK [.d (bV l gs os), .d (nI m), .d (.str (n4 safe))] S5) Q:=fun Q hq=>qi (safe:=safe) P.no rfl (by omega) how hg40 hmm3 hcl (by rw[hbd];exact hq)
  generalize lW l gs os=DU at hdl hfT hfF hbP;have oP:Fg (bM DU) (bM DU)= .ok (.bl false):=Df (NT.eq_self hfT (by omega))
  refine qL <| lV <| ny (b:=false) ?_ ?_
  .unfold Ms;have h8:uI (qX (Ja "tuple" (af 8))) (down [some (.d (.lst (ns.map .int))),some (.lst ((List.range (n'+1)).map .loc)),some (.loc 0),some (.d (bV l gs os)),some (.d (nI most)),some (.d (nI m)),some (.d (.str (n4 safe))),some (.d (.lst (DU.map nI))),some (.d (bM DU))])= .ok false:=rfl;have h9:b2 Fg (af 8) (aS qy (aw (af 7) aZ)) (down [some (.d (.lst (ns.map .int))),some (.lst ((List.range (n'+1)).map .loc)),some (.loc 0),some (.d (bV l gs os)),some (.d (nI most)),some (.d (nI m)),some (.d (.str (n4 safe))),some (.d (.lst (DU.map nI))),some (.d (bM DU))])= .ok false:=jZ (a:=bM DU) (b:=bM DU) rfl (aM (ds:=[.lst (DU.map nI)]) rfl rfl) oP;exact(congrArg (fun r=>R.bind r _) h8).trans h9
  rw[if_neg (by decide)]
  refine ic ?_;refine eh <| Fd <| eF <| aG <| cy (d:=bV l gs os) rfl <| aG <| cy (d:=nI m) rfl <| aG <| cy (d:= .str (n4 safe)) rfl <| cA <| hbP _ ?_
  refine cy (d:= .lst ((DU.map fun x=>[x]).map bM)) ?_ ⟨_,_, .bl true,rfl,rfl,Jb (mC.Rg hfF (by omega)), .d (.bl true),rfl,Mv.1,by unfold eL;rfl, .bl true,by unfold res;rfl,rfl,rfl⟩
  refine eD (dc (ds:=DU.map nI) (eP rfl) (by rw[List.length_map];omega) ?_)
  rw[List.map_map];exact NT.cH (t:=bq 0) (c:=k8) (δ:=[.un]) nI _ fun x _=>⟨[.val (nI x)],rfl,rfl,g9 (ds:=[nI x]) rfl (by simp;omega)⟩
 obtain⟨v,S1,e,rfl,rfl⟩:=key;unfold yU Mc;simp only[List.map_cons,List.map_nil];rw[e];rfl
end K23
end
open PySem PySem.W PyProof.Rows
set_option maxRecDepth 100000 in
set_option maxHeartbeats 0 in
theorem PySem.Challenge.cw_bearfaults_k23_surest_of_turning_gates_holds : PySem.Challenge.rw_bearfaults_k23_surest_of_turning_gates.Holds := by
 w_on;o_law;k_head;(case hw=>w_witness2)
 k_fill
 refine L2.K_ (l:=PySem.Challenge.rw_bearfaults_k23_surest_of_turning_gates) (n:=63) (k:=47) (x:="script") (g:=K23.yU) rfl (by decide) rfl ⟨rfl,by decide,by decide⟩ (fun w h Y=>PySem.W.kIn_of Y) ?F K23.Cj
 case F=>
  intro w mg fa h KX G LU
  have oW:L2.Def (L2.gU KX) mg "vote_of" K23.jJ:=by
   dsimp only[L2.gU]
   refine' L2.cG KX G ?a ?l ?c ?k
   (case a=>k_is);(case l=>k_is);(case c=>k_is);(case k=>k_is)
  have lC:L2.Def (L2.gU KX) mg "gate_mask" K23.gy:=by
   dsimp only[L2.gU]
   refine' L2.cG KX G ?a ?l ?c ?k
   (case a=>k_is);(case l=>k_is);(case c=>k_is);(case k=>k_is)
  have gR:L2.Def (L2.gU KX) mg "in_wire_masks" K23.dD:=by
   dsimp only[L2.gU]
   refine' L2.cG KX G ?a ?l ?c ?k
   (case a=>k_is);(case l=>k_is);(case c=>k_is);(case k=>k_is)
  have mV:L2.Def (L2.gU KX) mg "masks_at" K23.iJ:=by
   dsimp only[L2.gU]
   refine' L2.cG KX G ?a ?l ?c ?k
   (case a=>k_is);(case l=>k_is);(case c=>k_is);(case k=>k_is)
  have ko:L2.Def (L2.gU KX) mg "wire_masks" K23.eW:=by
   dsimp only[L2.gU]
   refine' L2.cG KX G ?a ?l ?c ?k
   (case a=>k_is);(case l=>k_is);(case c=>k_is);(case k=>k_is)
  have lB:L2.Def (L2.gU KX) mg "out_masks" K23.gu:=by
   dsimp only[L2.gU]
   refine' L2.cG KX G ?a ?l ?c ?k
   (case a=>k_is);(case l=>k_is);(case c=>k_is);(case k=>k_is)
  have oS:L2.Def (L2.gU KX) mg "reading" K23.jY:=by
   dsimp only[L2.gU]
   refine' L2.cG KX G ?a ?l ?c ?k
   (case a=>k_is);(case l=>k_is);(case c=>k_is);(case k=>k_is)
  have kq:L2.Def (L2.gU KX) mg "all_inputs" K23.eM:=by
   dsimp only[L2.gU]
   refine' L2.cG KX G ?a ?l ?c ?k
   (case a=>k_is);(case l=>k_is);(case c=>k_is);(case k=>k_is)
  have o3:L2.Def (L2.gU KX) mg "mask_of" K23.jH:=by
   dsimp only[L2.gU]
   refine' L2.cG KX G ?a ?l ?c ?k
   (case a=>k_is);(case l=>k_is);(case c=>k_is);(case k=>k_is)
  have oX:L2.Def (L2.gU KX) mg "in_mask" K23.jG:=by
   dsimp only[L2.gU]
   refine' L2.cG KX G ?a ?l ?c ?k
   (case a=>k_is);(case l=>k_is);(case c=>k_is);(case k=>k_is)
  have oU:L2.Def (L2.gU KX) mg "choices" K23.jB:=by
   dsimp only[L2.gU]
   refine' L2.cG KX G ?a ?l ?c ?k
   (case a=>k_is);(case l=>k_is);(case c=>k_is);(case k=>k_is)
  have oR:L2.Def (L2.gU KX) mg "has_all" K23.jQ:=by
   dsimp only[L2.gU]
   refine' L2.cG KX G ?a ?l ?c ?k
   (case a=>k_is);(case l=>k_is);(case c=>k_is);(case k=>k_is)
  have mT:L2.Def (L2.gU KX) mg "breaking" K23.iM:=by
   dsimp only[L2.gU]
   refine' L2.cG KX G ?a ?l ?c ?k
   (case a=>k_is);(case l=>k_is);(case c=>k_is);(case k=>k_is)
  have ju:L2.Def (L2.gU KX) mg "count_apart" K23.eu:=by
   dsimp only[L2.gU]
   refine' L2.cG KX G ?a ?l ?c ?k
   (case a=>k_is);(case l=>k_is);(case c=>k_is);(case k=>k_is)
  have rW:L2.Def (L2.gU KX) mg "behind" K23.k5:=by
   dsimp only[L2.gU]
   refine' L2.cG KX G ?a ?l ?c ?k
   (case a=>k_is);(case l=>k_is);(case c=>k_is);(case k=>k_is)
  have jo:L2.Def (L2.gU KX) mg "groups_left" K23.eg:=by
   dsimp only[L2.gU]
   refine' L2.cG KX G ?a ?l ?c ?k
   (case a=>k_is);(case l=>k_is);(case c=>k_is);(case k=>k_is)
  have iT:L2.Def (L2.gU KX) mg "first_places" K23.dY:=by
   dsimp only[L2.gU]
   refine' L2.cG KX G ?a ?l ?c ?k
   (case a=>k_is);(case l=>k_is);(case c=>k_is);(case k=>k_is)
  have rP:L2.Def (L2.gU KX) mg "surest" K23.kP:=by
   dsimp only[L2.gU]
   refine' L2.cG KX G ?a ?l ?c ?k
   (case a=>k_is);(case l=>k_is);(case c=>k_is);(case k=>k_is)
  have mW:L2.Def (L2.gU KX) mg "_law_next" K23.iF:=by
   dsimp only[L2.gU]
   refine' L2.cG KX G ?a ?l ?c ?k
   (case a=>k_is);(case l=>k_is);(case c=>k_is);(case k=>k_is)
  have mU:L2.Def (L2.gU KX) mg "_law_pots" K23.iK:=by
   dsimp only[L2.gU]
   refine' L2.cG KX G ?a ?l ?c ?k
   (case a=>k_is);(case l=>k_is);(case c=>k_is);(case k=>k_is)
  have iV:L2.Def (L2.gU KX) mg "_law_some_net" K23.dU:=by
   dsimp only[L2.gU]
   refine' L2.cG KX G ?a ?l ?c ?k
   (case a=>k_is);(case l=>k_is);(case c=>k_is);(case k=>k_is)
  have jq:L2.Def (L2.gU KX) mg "_law_turning" K23.er:=by
   dsimp only[L2.gU]
   refine' L2.cG KX G ?a ?l ?c ?k
   (case a=>k_is);(case l=>k_is);(case c=>k_is);(case k=>k_is)
  have D_law:L2.Def (L2.gU KX) mg "law" K23.zJ:=by
   dsimp only[L2.gU]
   refine' L2.cG KX G ?a ?l ?c ?k
   (case a=>k_is);(case l=>k_is);(case c=>k_is);(case k=>k_is)
  obtain⟨cl,CF⟩:∃cl,K23.Cf (L2.gU KX) mg cl:=by
   dsimp only[L2.gU]
   refine' K23.K1 KX G ?OH ?N0 ?JQ ?Oe ?N1 ?N7 ?OG ?yS ?iW ?vm ?lE ?OI ?Om ?OM ?OC ?Oj ?Of ?OF ?rQ ?rV ?oV ?fX ?fS ?fU ?dg ?f7 ?jn ?jr ?jm ?en ?gp ?fT ?f9 ?f6 ?c7 ?ee ?fY ?f_ ?fV ?c6 ?fZ ?fg ?e_ ?ft ?cT ?dP
   (case OH=>k_is)
   (case N0=>k_is)
   (case JQ=>k_is)
   (case Oe=>k_is)
   (case N1=>k_is)
   (case N7=>k_is)
   (case OG=>k_is)
   (case yS=>k_is)
   (case iW=>k_is)
   (case vm=>k_is)
   (case lE=>k_is)
   (case OI=>k_is)
   (case Om=>k_is)
   (case OM=>k_is)
   (case OC=>k_is)
   (case Oj=>k_is)
   (case Of=>k_is)
   (case OF=>k_is)
   (case rQ=>k_is)
   (case rV=>k_is)
   (case oV=>k_is)
   (case fX=>k_is)
   (case fS=>k_is)
   (case fU=>k_is)
   (case dg=>k_is)
   (case f7=>k_is)
   (case jn=>k_is)
   (case jr=>k_is)
   (case jm=>k_is)
   (case en=>k_is)
   (case gp=>k_is)
   (case fT=>k_is)
   (case f9=>k_is)
   (case f6=>k_is)
   (case c7=>k_is)
   (case ee=>k_is)
   (case fY=>k_is)
   (case f_=>k_is)
   (case fV=>k_is)
   (case c6=>k_is)
   (case fZ=>k_is)
   (case fg=>k_is)
   (case e_=>k_is)
   (case ft=>k_is)
   (case cT=>k_is)
   (case dP=>k_is)
  have dq:=CF.dq
  have eA:=CF.eA
  have dn:=CF.dn
  have dm:=CF.dm
  have cW:=CF.cW
  have T:K23.Tp (L2.gU KX) mg cl:=by
   dsimp only[L2.gU]
   refine' ⟨PySem.W.mg_none_of KX G ?z_enumerate,PySem.W.mg_none_of KX G ?z_range,PySem.W.mg_none_of KX G ?z_len,PySem.W.mg_none_of KX G ?z_tuple,PySem.W.mg_none_of KX G ?z_reversed,PySem.W.mg_none_of KX G ?z_all,PySem.W.mg_none_of KX G ?z_zip,PySem.W.mg_none_of KX G ?z_any,PySem.W.mg_none_of KX G ?z_min,PySem.W.mg_none_of KX G ?z_sorted,PySem.W.mg_none_of KX G ?z_list,PySem.W.mg_none_of KX G ?z_int,PySem.W.mg_none_of KX G ?z_isinstance,CF.C_Bench,CF.N_Bench_net,CF.N_Bench_many_inputs,CF.N_Bench_full,CF.N_Bench_in_masks,CF.M_Bench,CF.C_Trial,CF.N_Trial_bench,CF.N_Trial_plain,CF.N_Trial_unsure,CF.M_Trial⟩
   (case z_enumerate=>k_is);(case z_range=>k_is);(case z_len=>k_is);(case z_tuple=>k_is);(case z_reversed=>k_is);(case z_all=>k_is);(case z_zip=>k_is);(case z_any=>k_is);(case z_min=>k_is);(case z_sorted=>k_is);(case z_list=>k_is);(case z_int=>k_is);(case z_isinstance=>k_is)
  obtain⟨fl,fd,Fl,hl⟩:=D_law
  have e0:=LU.symm.trans hl
  cases e0
  refine' ⟨fd,?b,fun base kb nb=>K23.JB T oW lC gR mV ko lB oS kq o3 oX oU oR dq eA dn dm cW mT ju rW jo iT rP mW mU iV jq Fl⟩
  obtain⟨_,_,_,_,_,_,_,_,_,e,_,_⟩:=Fl.ex
  subst e
  exact fun s u=> .of_eq rfl
